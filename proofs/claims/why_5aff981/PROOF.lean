import PyProof.Rows.All
import Wide.All
import OpenK.AllK
import Wide.FinOn
import PyProof.EqAt
import PyProof.EqKinds
import PyProof.TupleCall
import KE.BitLaws
import Open.SpecLaws
import KE.OsHead
import KE.OsGo
import PyProof.Rows.RuleM_int
import PySem.Challenge.RW_keyspipes_s02_why
set_option Elab.async false
set_option linter.all false
set_option maxRecDepth 100000
namespace L2
open PySem PySem.Spec PyProof.Rows
abbrev Key := Sum Int Str
def keyIs : Key → Value → Bool
  | .inl k, v => Value.isInt k v
  | .inr x, v => Value.isStrOf x v
def keyH (w : World) : Key → Int
  | .inl k => hashInt k
  | .inr x => hashStr w x
theorem keyIs_shape : ∀ {k : Key} {v : Value}, keyIs k v = true → (∃ i t, k = Sum.inl i ∧ v = Value.int i t) ∨ (∃ x t, k = Sum.inr x ∧ v = Value.str x t)
  | .inl i, v, h => by
    obtain ⟨t, e⟩ := Value.isInt_shape (k := i) (v := v) h
    exact .inl ⟨i, t, rfl, e⟩
  | .inr x, v, h => by
    obtain ⟨t, e⟩ := Value.isStrOf_shape (x := x) (v := v) h
    exact .inr ⟨x, t, rfl, e⟩
theorem key_ll (a b : Int) : decide ((Sum.inl a : Key) = Sum.inl b) = (a == b) := by
  by_cases e : a = b
  · subst e; simp
  · have h : ¬ (Sum.inl a : Key) = Sum.inl b := fun q => e (Sum.inl.inj q)
    rw [decide_eq_false h]
    exact (beq_eq_false_iff_ne.mpr e).symm
theorem key_rr (a b : Str) : decide ((Sum.inr a : Key) = Sum.inr b) = decide (a = b) := by
  by_cases e : a = b
  · subst e; simp
  · have h : ¬ (Sum.inr a : Key) = Sum.inr b := fun q => e (Sum.inr.inj q)
    rw [decide_eq_false h, decide_eq_false e]
theorem key_lr (a : Int) (b : Str) : decide ((Sum.inl a : Key) = Sum.inr b) = false := decide_eq_false (fun q => nomatch q)
theorem key_rl (a : Str) (b : Int) : decide ((Sum.inr a : Key) = Sum.inl b) = false := decide_eq_false (fun q => nomatch q)
def mixKind (prog : Program) (w : World) : PySem.KeyKind prog w Key where
  is := keyIs
  hash := keyH w
  inj := fun v a b ha hb => by
    rcases keyIs_shape ha with ⟨i, t, rfl, rfl⟩ | ⟨x, t, rfl, rfl⟩
    · rcases keyIs_shape hb with ⟨j, u, rfl, e⟩ | ⟨y, u, rfl, e⟩
      · injection e with e1 _; rw [e1]
      · exact nomatch e
    · rcases keyIs_shape hb with ⟨j, u, rfl, e⟩ | ⟨y, u, rfl, e⟩
      · exact nomatch e
      · injection e with e1 _; rw [e1]
  byValue := fun k v h => by
    rcases keyIs_shape h with ⟨i, t, rfl, rfl⟩ | ⟨x, t, rfl, rfl⟩ <;> rfl
  pyHash := fun hv h => by
    rcases keyIs_shape hv with ⟨i, t, rfl, rfl⟩ | ⟨x, t, rfl, rfl⟩
    · exact wpAny_pyHash_int h
    · exact wpAny_pyHash_str h
  eqBool := fun hu hv h => by
    rcases keyIs_shape hu with ⟨i, t, rfl, rfl⟩ | ⟨x, t, rfl, rfl⟩
    · rcases keyIs_shape hv with ⟨j, u, rfl, rfl⟩ | ⟨y, u, rfl, rfl⟩
      · rw [key_ll] at h; exact wpAny_eqBool_int h
      · rw [key_lr] at h; exact SeqAt.EqAt.int_str i t y u _ _ _ _ h
    · rcases keyIs_shape hv with ⟨j, u, rfl, rfl⟩ | ⟨y, u, rfl, rfl⟩
      · rw [key_rl] at h; exact SeqAt.EqAt.str_int x t j u _ _ _ _ h
      · rw [key_rr] at h; exact wpAny_eqBool_str h
  «strs» := fun k x t v h => by
    rcases keyIs_shape h with ⟨i, u, rfl, e⟩ | ⟨y, u, rfl, e⟩
    · exact nomatch e
    · injection e with e1 _
      subst e1
      cases v <;> rfl
end L2
namespace L2
open PySem PySem.Spec PyProof.Rows
inductive V where
  | non | bl (b : Bool) | int (i : Int) | str (x : Str) | byt (b : Array UInt8) | flt (b : UInt64) | ref (a : Addr) | ty (n : String)
  deriving DecidableEq
def RelV : V → Value → Prop
  | .non, u => u = Value.none
  | .bl b, u => u = Value.bool b
  | .int i, u => ∃ t, u = Value.int i t
  | .str x, u => ∃ t, u = Value.str x t
  | .byt b, u => ∃ t, u = Value.bytes b t
  | .flt b, u => ∃ t, u = Value.float b t
  | .ref a, u => u = Value.ref a
  | .ty n, u => u = Value.type n
abbrev Vals : List V → List Value → Prop := Paired RelV
theorem Vals.length {xs : List V} {us : List Value} (r : Vals xs us) : xs.length = us.length := Paired.length r
theorem Vals.get : ∀ {xs : List V} {us : List Value} {i : Nat} {x : V}, Vals xs us → xs[i]? = some x → ∃ u, us[i]? = some u ∧ RelV x u
  | _, _, _, _, .nil, e => by simp at e
  | _, _, 0, _, .cons r _, e => by simp at e; subst e; exact ⟨_, rfl, r⟩
  | _, _, i + 1, x, .cons _ t, e => by
    obtain ⟨u, h1, h2⟩ := Vals.get (i := i) (x := x) t (by simpa using e)
    exact ⟨u, by simpa using h1, h2⟩
theorem Vals.set {x : V} {u : Value} (r : RelV x u) : ∀ {xs : List V} {us : List Value} (i : Nat), Vals xs us → Vals (xs.set i x) (us.set i u)
  | _, _, _, .nil => .nil
  | _, _, 0, .cons _ t => .cons r t
  | _, _, i + 1, .cons q t => .cons q (Vals.set r i t)
theorem Vals.append : ∀ {xs ys : List V} {us ws : List Value}, Vals xs us → Vals ys ws → Vals (xs ++ ys) (us ++ ws)
  | _, _, _, _, .nil, s => s
  | _, _, _, _, .cons r t, s => .cons r (Vals.append t s)
theorem Vals.take : ∀ {xs : List V} {us : List Value} (n : Nat), Vals xs us → Vals (xs.take n) (us.take n)
  | _, _, 0, _ => .nil
  | _, _, _ + 1, .nil => .nil
  | _, _, n + 1, .cons r t => .cons r (Vals.take n t)
theorem Vals.drop : ∀ {xs : List V} {us : List Value} (n : Nat), Vals xs us → Vals (xs.drop n) (us.drop n)
  | _, _, 0, r => r
  | _, _, _ + 1, .nil => .nil
  | _, _, n + 1, .cons _ t => Vals.drop n t
def RelO : Option V → Option Value → Prop
  | some v, some u => RelV v u
  | none, none => True
  | _, _ => False
def KV {κ : Type} : List (κ × V) → List (κ × Value) → Prop := Paired fun (p : κ × V) (q : κ × Value) => p.1 = q.1 ∧ RelV p.2 q.2
def kV : Key → V
  | .inl i => .int i
  | .inr x => .str x
inductive HO where
  /-- a list -/
  | lst (xs : List V)
  /-- a tuple (never changes) -/
  | tup (xs : List V)
  /-- a dict whose keys are ints and texts; one whose keys are tuples of ints and texts (the empty one is both) -/
  | dK (kvs : List (Key × V)) | dT (kvs : List (List Key × V))
  /-- a set of ints: its members, its size -/
  | set (S : Int → Bool) (n : Nat)
  /-- an instance of the class at C, its dict at dx, its attributes -/
  | ins (C dx : Addr) (fs : List (Str × V))
  /-- the dict of the instance at x -/
  | own (x : Addr)
  /-- the dict of an exception -/
  | xd (fs : List (Str × V))
  /-- a bound method, f of x -/
  | met (f x : Addr)
  /-- a range object lo, lo + 1, .. below hi -/
  | rng (lo hi : Int)
  /-- a thing that is known to the object (the script; a dict while a loop walks it): read, never written while it is so -/
  | frz (o : Obj) (u : HO)
  /-- a code object's table -/
  | tbl (ps : Array Value)
  /-- any other thing, by what is true of its one object (a def of one's own: SetO a S n := HO.ext fun h => ..) -/
  | ext (φ : Heap → Prop)
abbrev Hp := Addr → Option HO
def upd (H : Hp) (a : Addr) (o : HO) : Hp := fun b => if b = a then some o else H b
theorem upd_same {H : Hp} {a : Addr} {o : HO} : upd H a o a = some o := by unfold upd; rw [if_pos rfl]
theorem upd_ne {H : Hp} {a b : Addr} {o : HO} (h : b ≠ a) : upd H a o b = H b := by unfold upd; rw [if_neg h]
theorem upd_upd {H : Hp} {a : Addr} {o u : HO} : upd (upd H a o) a u = upd H a u := by
  funext b; unfold upd; split <;> rfl
theorem ne_of {H : Hp} {a b : Addr} {o u : HO} (h : H a = some o) (h' : H b = some u) (d : o ≠ u) : a ≠ b := by
  intro e; subst e; rw [h] at h'; exact d (Option.some.inj h')
theorem ne_of_none {H : Hp} {a b : Addr} {o : HO} (h : H a = some o) (h' : H b = none) : a ≠ b := by
  intro e; subst e; rw [h] at h'; cases h'
section
variable (P : Program) (w : World)
def ObjOk (H : Hp) (h : Heap) (a : Addr) : HO → Prop
  | .lst xs => xs.length ≤ sizeLine ∧ ∃ (its : List Value) (n : Nat), Vals xs its ∧ h.get? a = some { cls := .type "list", data := .seq its.toArray n }
  | .tup xs => xs.length ≤ sizeLine ∧ ∃ its : List Value, Vals xs its ∧ IsTup h a its.toArray
  | .dK kvs => kvs.length ≤ sizeLine ∧ (a == sysModules) = false ∧ ∃ vs, KV kvs vs ∧ h.DictOf (mixKind P w) a vs
  | .dT kvs => kvs.length ≤ sizeLine ∧ (a == sysModules) = false ∧ ∃ xs : List (List Key × Addr × Value),
      Paired (fun (p : List Key × V) (q : List Key × Addr × Value) => p.1 = q.1 ∧ H q.2.1 = some (.tup (p.1.map kV)) ∧ RelV p.2 q.2.2) kvs xs ∧
      ∃ o es ep, h.get? a = some o ∧ o.ExactDict ∧ o.data = .dict es ep ∧ es.toList = xs.map (entryOfKey (tupleKind (mixKind P w))) ∧ (xs.map (·.1)).Nodup
  | .set S n => h.SetOf (intKind P w) a S n
  | .ins C dx fs => H dx = some (.own a) ∧ fs.length ≤ 1000 ∧ dx ≠ a ∧ h.get? a = some (PySem.W.instObj C dx) ∧
      ∃ mA, h.Ns1 dx mA ∧ (∀ f, RelO (fs.lookup f) (mA f)) ∧ PySem.Within mA (fs.map (·.1))
  | .own _ => ∃ o, h.get? a = some o
  | .xd fs => ∃ mA, h.Ns1 a mA ∧ ∀ f, RelO (fs.lookup f) (mA f)
  | .rng lo hi => ∃ t u v, h.get? a = some { cls := .type "range", data := .fields #[.int lo t, .int hi u, .int 1 v] }
  | .frz o u => h.get? a = some o ∧ ObjOk H h a u
  | .tbl ps => h.get? a = some { cls := .none, data := .fields ps }
  | .met f x => h.get? a = some (PySem.W.methodObj (.ref f) (.ref x))
  | .ext φ => φ h ∧ (∃ o, h.get? a = some o) ∧ ∀ h1 h2 : Heap, φ h1 → (∀ o, h1.get? a = some o → h2.get? a = some o) → φ h2
def HOk (H : Hp) (h : Heap) : Prop := ∀ a o, H a = some o → ObjOk P w H h a o
end
section
variable {P : Program} {w : World} {H H' : Hp} {h h' : Heap} {a : Addr} {o : HO}
theorem ObjOk.lt (x : ObjOk P w H h a o) : a < h.objs.size := by
  cases o with
  | lst xs => obtain ⟨_, _, _, _, e⟩ := x; exact Heap.lt_size e
  | tup xs => obtain ⟨_, _, _, p⟩ := x; exact p.lt
  | dK kvs => obtain ⟨_, _, _, _, o, _, _, e, _⟩ := x; exact Heap.lt_size e
  | dT kvs => obtain ⟨_, _, _, _, o, _, _, e, _⟩ := x; exact Heap.lt_size e
  | set S n => obtain ⟨o, _, _, _, e, _⟩ := x; exact Heap.lt_size e
  | ins C dx fs => obtain ⟨_, _, _, e, _⟩ := x; exact Heap.lt_size e
  | own y => obtain ⟨_, e⟩ := x; exact Heap.lt_size e
  | xd fs => obtain ⟨_, ⟨_, _, _, e, _⟩, _⟩ := x; exact Heap.lt_size e
  | rng lo hi => obtain ⟨_, _, _, e⟩ := x; exact Heap.lt_size e
  | frz ob u => obtain ⟨e, _⟩ := x; exact Heap.lt_size e
  | tbl ps => exact Heap.lt_size (show h.get? a = some _ from x)
  | met f y => exact Heap.lt_size (show h.get? a = some _ from x)
  | ext φ => obtain ⟨_, ⟨_, e⟩, _⟩ := x; exact Heap.lt_size e
theorem Paired.mapP {α β : Type} {F G : α → β → Prop} : ∀ {l₁ : List α} {l₂ : List β}, Paired F l₁ l₂ → (∀ a b, F a b → G a b) → Paired G l₁ l₂
  | _, _, .nil, _ => .nil
  | _, _, .cons r t, f => .cons (f _ _ r) (Paired.mapP t f)
theorem ObjOk.stay (x : ObjOk P w H h a o) (k : ∀ b u, (b = a ∨ H b = some (.own a)) → h.get? b = some u → h'.get? b = some u)
    (ho : ∀ b, H b = some (.own a) → H' b = some (.own a)) (ht : ∀ b xs, H b = some (.tup xs) → H' b = some (.tup xs)) : ObjOk P w H' h' a o := by
  induction o with
  | lst xs => obtain ⟨z, its, n, r, e⟩ := x; exact ⟨z, its, n, r, k _ _ (.inl rfl) e⟩
  | tup xs => obtain ⟨z, its, r, ob, e, c⟩ := x; exact ⟨z, its, r, ob, k _ _ (.inl rfl) e, c⟩
  | dK kvs => obtain ⟨z, y, vs, r, ob, es, ep, e, c⟩ := x; exact ⟨z, y, vs, r, ob, es, ep, k _ _ (.inl rfl) e, c⟩
  | dT kvs =>
    obtain ⟨z, y, xs, r, ob, es, ep, e, c⟩ := x
    exact ⟨z, y, xs, Paired.mapP r fun p q z => ⟨z.1, ht _ _ z.2.1, z.2.2⟩, ob, es, ep, k _ _ (.inl rfl) e, c⟩
  | set S n => obtain ⟨ob, es, ep, t, e, c⟩ := x; exact ⟨ob, es, ep, t, k _ _ (.inl rfl) e, c⟩
  | ins C dx fs =>
    obtain ⟨d, z, ne, e, mA, ⟨od, es, ep, e2, c⟩, r⟩ := x
    exact ⟨ho _ d, z, ne, k _ _ (.inl rfl) e, mA, ⟨od, es, ep, k _ _ (.inr d) e2, c⟩, r⟩
  | own y => obtain ⟨ob, e⟩ := x; exact ⟨ob, k _ _ (.inl rfl) e⟩
  | xd fs => obtain ⟨mA, ⟨od, es, ep, e, c⟩, r⟩ := x; exact ⟨mA, ⟨od, es, ep, k _ _ (.inl rfl) e, c⟩, r⟩
  | rng lo hi => obtain ⟨t, u, v, e⟩ := x; exact ⟨t, u, v, k _ _ (.inl rfl) e⟩
  | frz ob u ih => obtain ⟨e, q⟩ := x; exact ⟨k _ _ (.inl rfl) e, ih q⟩
  | tbl ps =>
    have e : h.get? a = some { cls := .none, data := .fields ps } := x
    show h'.get? a = some { cls := .none, data := .fields ps }
    exact k a _ (.inl rfl) e
  | met f y =>
    have e : h.get? a = some (PySem.W.methodObj (.ref f) (.ref y)) := x
    show h'.get? a = some (PySem.W.methodObj (.ref f) (.ref y))
    exact k a _ (.inl rfl) e
  | ext φ => obtain ⟨p, ⟨o, e⟩, st⟩ := x; exact ⟨st _ _ p fun o q => k _ _ (.inl rfl) q, ⟨o, k _ _ (.inl rfl) e⟩, st⟩
theorem HOk.lt (x : HOk P w H h) (e : H a = some o) : a < h.objs.size := (x a o e).lt
theorem HOk.fresh (x : HOk P w H h) (e : h.objs.size ≤ a) : H a = none := by
  cases q : H a with
  | none => rfl
  | some u => exact absurd (Nat.lt_of_lt_of_le (x.lt q) e) (Nat.lt_irrefl _)
theorem HOk.kept (x : HOk P w H h) (k : ∀ b u, h.get? b = some u → h'.get? b = some u) : HOk P w H h' := fun a o e =>
  (x a o e).stay (fun b u _ q => k b u q) (fun _ q => q) fun _ _ q => q
theorem HOk.laid (x : HOk P w H h) (k : ∀ b u, h.get? b = some u → h'.get? b = some u) (hp : h.objs.size ≤ a) (new : ObjOk P w (upd H a o) h' a o) : HOk P w (upd H a o) h' := fun b u e => by
  have hn := x.fresh hp
  by_cases hb : b = a
  · subst hb; rw [upd_same] at e; cases e; exact new
  · rw [upd_ne hb] at e
    exact (x b u e).stay (fun c v _ q => k c v q) (fun c q => by rw [upd_ne (ne_of_none q hn)]; exact q) fun c xs q => by rw [upd_ne (ne_of_none q hn)]; exact q
end
def Rd (H : Hp) (a : Addr) (u : HO) : Prop := H a = some u ∨ ∃ o, H a = some (.frz o u)
theorem Rd.of {H : Hp} {a : Addr} {u : HO} (h : H a = some u) : Rd H a u := .inl h
theorem Rd.ok {P : Program} {w : World} {H : Hp} {h : Heap} {a : Addr} {u : HO} (r : Rd H a u) (x : HOk P w H h) : ObjOk P w H h a u := by
  rcases r with r | ⟨o, r⟩
  · exact x a u r
  · obtain ⟨_, q⟩ := x a _ r
    exact q
def Mut : Option HO → Prop
  | some (.lst _) => True
  | some (.dK _) => True
  | some (.dT _) => True
  | some (.set _ _) => True
  | some (.ins _ _ _) => True
  | some (.ext _) => True
  | _ => False
section
variable {P : Program} {w : World} {H : Hp} {h h' : Heap} {x e : Addr} {o' : HO}
theorem HOk.write (ok : HOk P w H h) (mu : Mut (H x)) (he : e = x ∨ H e = some (.own x)) (k : ∀ b u, b ≠ e → h.get? b = some u → h'.get? b = some u) (heo : ∃ u, h'.get? e = some u)
    (new : ObjOk P w (upd H x o') h' x o') : HOk P w (upd H x o') h' := fun b u q => by
  have nown : ∀ c y, H c = some (.own y) → c ≠ x := fun c y r z => by subst z; rw [r] at mu; exact mu
  have ntup : ∀ c xs, H c = some (.tup xs) → c ≠ x := fun c xs r z => by subst z; rw [r] at mu; exact mu
  by_cases hb : b = x
  · subst hb; rw [upd_same] at q; cases q; exact new
  · rw [upd_ne hb] at q
    by_cases hbe : b = e
    · have q' : H b = some (.own x) := by
        rcases he with z | z
        · exact absurd (hbe.trans z) hb
        · rw [hbe]; exact z
      rw [q] at q'; cases q'
      obtain ⟨v, hv⟩ := heo
      exact ⟨v, by rw [hbe]; exact hv⟩
    · refine (ok b u q).stay (fun c v hc r => k c v ?_ r) (fun c r => by rw [upd_ne (nown c b r)]; exact r) fun c xs r => by rw [upd_ne (ntup c xs r)]; exact r
      rcases hc with rfl | hc
      · exact hbe
      · rintro rfl
        rcases he with z | z
        · exact nown c b hc z
        · rw [hc] at z; cases z; exact hb rfl
end
structure Un (fs ex : List Addr) (H H' : Hp) (h h' : Heap) : Prop where
  keep : ∀ b o, h.get? b = some o → H b = none → b ∉ fs → b ∉ ex → h'.get? b = some o
  slot : ∀ b o, h.get? b = some o → H b = none → b ∈ fs → b ∉ ex → ∃ sl, h'.get? b = some { o with slots := sl }
  free : ∀ b o, h.get? b = some o → H b = none → b ∉ ex → H' b = none
  there : ∀ b o, h.get? b = some o → b ∉ ex → ∃ o', h'.get? b = some o'
  tups : ∀ b xs, H b = some (.tup xs) → H' b = some (.tup xs)
  frzs : ∀ b o u, H b = some (.frz o u) → H' b = some (.frz o u)
  tbls : ∀ b ps, H b = some (.tbl ps) → ∃ more, H' b = some (.tbl (ps ++ more))
section
variable {fs fs' ex ex' : List Addr} {H H1 H2 : Hp} {h h1 h2 h' : Heap} {a x e : Addr} {o : HO}
theorem Un.any (u : Un fs ex H H1 h h1) {b : Addr} {ob : Obj} (q : h.get? b = some ob) (n : H b = none) (hx : b ∉ ex) : ∃ sl, h1.get? b = some { ob with slots := sl } := by
  by_cases hb : b ∈ fs
  · exact u.slot b ob q n hb hx
  · exact ⟨ob.slots, u.keep b ob q n hb hx⟩
theorem Un.trans (a : Un fs ex H H1 h h1) (b : Un fs ex H1 H2 h1 h2) : Un fs ex H H2 h h2 where
  keep := fun c ob q n hc hx => b.keep c ob (a.keep c ob q n hc hx) (a.free c ob q n hx) hc hx
  slot := fun c ob q n hc hx => by
    obtain ⟨sl, e1⟩ := a.slot c ob q n hc hx
    obtain ⟨sl', e2⟩ := b.slot c _ e1 (a.free c ob q n hx) hc hx
    exact ⟨sl', e2⟩
  free := fun c ob q n hx => by
    obtain ⟨o', e1⟩ := a.there c ob q hx
    exact b.free c o' e1 (a.free c ob q n hx) hx
  there := fun c ob q hx => by
    obtain ⟨o', e1⟩ := a.there c ob q hx
    exact b.there c o' e1 hx
  tups := fun c xs q => b.tups c xs (a.tups c xs q)
  frzs := fun c ob xs q => b.frzs c ob xs (a.frzs c ob xs q)
  tbls := fun c ps q => by
    obtain ⟨m1, e1⟩ := a.tbls c ps q
    obtain ⟨m2, e2⟩ := b.tbls c _ e1
    exact ⟨m1 ++ m2, by rw [e2, Array.append_assoc]⟩
theorem Un.kept (k : ∀ b u, h.get? b = some u → h'.get? b = some u) : Un fs ex H H h h' :=
  ⟨fun b ob q _ _ _ => k b ob q, fun b ob q _ _ _ => ⟨ob.slots, k b ob q⟩, fun _ _ _ n _ => n, fun b ob q _ => ⟨ob, k b ob q⟩, fun _ _ q => q, fun _ _ _ q => q, fun _ ps q => ⟨#[], by rw [q]; simp⟩⟩
theorem Un.refl : Un fs ex H H h h := Un.kept fun _ _ q => q
theorem Un.laid (k : ∀ b u, h.get? b = some u → h'.get? b = some u) (hp : h.objs.size ≤ a) (hn : H a = none) : Un fs ex H (upd H a o) h h' where
  keep := fun b u q _ _ _ => k b u q
  slot := fun b u q _ _ _ => ⟨u.slots, k b u q⟩
  free := fun b u q n _ => by rw [upd_ne (Nat.ne_of_lt (Nat.lt_of_lt_of_le (Heap.lt_size q) hp))]; exact n
  there := fun b u q _ => ⟨u, k b u q⟩
  tups := fun b xs q => by rw [upd_ne (ne_of_none q hn)]; exact q
  frzs := fun b u xs q => by rw [upd_ne (ne_of_none q hn)]; exact q
  tbls := fun b ps q => ⟨#[], by rw [upd_ne (ne_of_none q hn), q]; simp⟩
theorem Un.write (mu : Mut (H x)) (he : e = x ∨ H e = some (.own x)) (k : ∀ b u, b ≠ e → h.get? b = some u → h'.get? b = some u) (heo : ∃ u, h'.get? e = some u) : Un fs ex H (upd H x o) h h' := by
  have hx : ∀ b, H b = none → b ≠ x := fun b n z => by subst z; rw [n] at mu; exact mu
  have hb : ∀ b, H b = none → b ≠ e := fun b n z => by
    subst z
    rcases he with r | r
    · exact hx b n r
    · rw [n] at r; cases r
  have hm : ∀ b u, H b = some u → ¬ Mut (some u) → b ≠ x := fun b u q nm z => by subst z; rw [q] at mu; exact nm mu
  refine ⟨fun b u q n _ _ => k b u (hb b n) q, fun b u q n _ _ => ⟨u.slots, k b u (hb b n) q⟩, fun b u q n _ => by rw [upd_ne (hx b n)]; exact n, fun b u q _ => ?_,
    fun b xs q => by rw [upd_ne (hm b _ q fun z => z)]; exact q, fun b u xs q => by rw [upd_ne (hm b _ q fun z => z)]; exact q, fun b ps q => ⟨#[], by rw [upd_ne (hm b _ q fun z => z), q]; simp⟩⟩
  by_cases hbe : b = e
  · subst hbe; exact heo
  · exact ⟨u, k b u hbe q⟩
theorem Un.mono (u : Un fs ex H H1 h h1) (hs : ∀ b ∈ fs, b ∈ fs') (hx : ∀ b ∈ ex, b ∈ ex') : Un fs' ex' H H1 h h1 :=
  ⟨fun b ob q n hb he => u.keep b ob q n (fun z => hb (hs b z)) fun z => he (hx b z), fun _ _ q n _ he => u.any q n fun z => he (hx _ z), fun b ob q n he => u.free b ob q n fun z => he (hx b z), fun b ob q he => u.there b ob q fun z => he (hx b z), u.tups, u.frzs, u.tbls⟩
end
def trk (h : Heap) (H : Hp) : List Addr := (List.range h.objs.size).filter fun a => (H a).isSome
def hidT (h : Heap) (H : Hp) : Heap := PySem.W.hideAll h (trk h H)
theorem hidT_size (h : Heap) (H : Hp) : (hidT h H).objs.size = h.objs.size := PySem.W.hideAll_size _ _
theorem hidT_get {h : Heap} {H : Hp} {b : Addr} {o : Obj} (e : h.get? b = some o) (n : H b = none) : (hidT h H).get? b = some o :=
  PySem.W.hideAll_get _ e fun hm => by
    have q : (H b).isSome = true := (List.mem_filter.mp hm).2
    rw [n] at q; simp at q
theorem of_hidT {h : Heap} {H : Hp} {b : Addr} {o : Obj} (e : (hidT h H).get? b = some o) : h.get? b = some o ∧ H b = none := by
  have e' : h.get? b = some o := PySem.W.of_hideAll (trk h H) e
  refine ⟨e', ?_⟩
  cases q : H b with
  | none => rfl
  | some x =>
    have hm : b ∈ trk h H := List.mem_filter.mpr ⟨List.mem_range.mpr (Heap.lt_size e'), by simp [q]⟩
    have z : (hidT h H).get? b = none := PySem.W.hideAll_none (trk h H) hm
    rw [z] at e; cases e
def allNews (g h : Heap) (L : Addr) : List (Addr × Obj) := (List.range h.objs.size).filterMap fun a => if a = L ∨ (g.get? a).isSome = true then none else (h.get? a).map fun o => (a, o)
def rest (g h : Heap) (L d : Addr) : List (Addr × Obj) := (allNews g h L).filter fun p => decide (p.1 ≠ d)
end L2
namespace L2
open PySem PySem.Spec PyProof.Rows
structure Mod (K : PySem.W.Frag) (mg : Str → Option Value) (base : Heap) : Prop where
  kin : K.In base
  glob : base.Ns mainGlobals mg
  blt : ∃ mb, base.Ns builtinsNs mb ∧ ∀ x : Str, x ≠ "__name__" → mb x = bootBuiltins x
  nolimit : base.NoLimit
structure Cx where
  prog : Program
  w : World
  K : PySem.W.Frag
  mg : Str → Option Value
  base : Heap
  A : Around
  N : List Str
  s_0 : Shared
  H_0 : Hp
  env : Env
  outer : List Env
  stack : List Env
  ex : List Addr
  fn : Str → Bool
  calm : Bool
  pn : List (Addr × Obj)
  xe : Value → Shared → Prop
def frs (l : List Env) : List Addr := l.filterMap (·.frame)
abbrev Cx.fs (X : Cx) : List Addr := frs X.outer
def Vis (sc : Scope) (x : Str) : Prop := sc.names.lookup x = some .local ∨ sc.names.lookup x = some .cell ∨ sc.names.lookup x = some .free
def Loc (sc : Scope) (x : Str) : Prop := sc.names.lookup x = some .local ∨ sc.names.lookup x = some .cell
def Look (env : Env) (h : Heap) (m : Str → Option Value) (x : Str) (u : Value) : Prop :=
  (env.kindOf x = some .local ∧ m x = some u) ∨ ((env.kindOf x = some .cell ∨ env.kindOf x = some .free) ∧ ∃ c, env.cells.lookup x = some c ∧ h.IsCell c (some u))
structure Cx.Ok (X : Cx) : Prop where
  mod : Mod X.K X.mg X.base
  kind : X.env.scope.kind = .function
  glob : X.env.globals = mainGlobals
  blt : X.env.builtins = builtinsNs
  above : X.s_0.heap.objs.size ≤ X.env.locals
  inj : ∀ x y c, X.env.cells.lookup x = some c → X.env.cells.lookup y = some c → x = y
  has : ∀ x, (X.env.kindOf x = some .cell ∨ X.env.kindOf x = some .free) → ∃ c, X.env.cells.lookup x = some c
  cab : ∀ x c, X.fn x = true → X.env.cells.lookup x = some c → X.s_0.heap.objs.size ≤ c
  hd : X.calm = true → X.A.handled = none
  frames : X.A.frames = some X.stack
  stk : X.stack = X.outer ∨ (X.stack = X.env :: X.outer ∧ X.env.frame = some X.env.locals)
  exf : ∀ b ∈ X.ex, b ≠ X.env.locals ∧ ∀ x c, X.env.cells.lookup x = some c → c ≠ b
  bs : ∀ b o, X.base.get? b = some o → X.s_0.heap.get? b = some o ∧ X.H_0 b = none
  bsz : X.base.objs.size ≤ X.s_0.heap.objs.size
  noex : ∀ b o, X.base.get? b = some o → b ∉ X.ex
  exfs : ∀ b ∈ X.ex, b ∉ X.fs
  funs : X.s_0.heap.FunFrames X.base X.outer
  frf : ∀ b ∈ X.fs, X.H_0 b = none
structure Inv (X : Cx) (pins : List (Addr × Obj)) (σ : List (Option V)) (H : Hp) (s : Shared) : Prop where
  ok : X.Ok
  os : s.os = X.s_0.os
  bare : AllBare s.gens
  base : Un X.fs X.ex X.H_0 H X.s_0.heap s.heap
  loc : ∃ m, s.heap.Ns X.env.locals m ∧ ∀ (i : Nat) (x : Str) (v : V), X.N[i]? = some x → σ[i]? = some (some v) → Vis X.env.scope x → ∃ u, RelV v u ∧ Look X.env s.heap m x u
  cell : ∀ x c, X.env.cells.lookup x = some c → ∃ v, s.heap.IsCell c v
  free : H X.env.locals = none
  freeC : ∀ x c, X.env.cells.lookup x = some c → H c = none
  pin : ∀ p ∈ X.pn ++ pins, s.heap.get? p.1 = some p.2 ∧ H p.1 = none ∧ p.1 ≠ X.env.locals ∧ p.1 ∉ X.fs ∧ ∀ v, p.2.data ≠ .cell v
  hok : HOk X.prog X.w H s.heap
  len : σ.length = X.N.length
section
variable {X : Cx} {pins : List (Addr × Obj)} {σ : List (Option V)} {H H' : Hp} {s : Shared} {h' : Heap}
theorem Cx.Ok.nofr (ok : X.Ok) {b : Addr} {o : Obj} (e : X.base.get? b = some o) : b ∉ X.fs := fun hb => by
  have := (ok.funs.mem hb).1
  rw [e] at this; cases this
theorem Inv.bs (I : Inv X pins σ H s) : ∀ b o, X.base.get? b = some o → s.heap.get? b = some o ∧ H b = none := fun b o e =>
  ⟨I.base.keep b o (I.ok.bs b o e).1 (I.ok.bs b o e).2 (I.ok.nofr e) (I.ok.noex b o e), I.base.free b o (I.ok.bs b o e).1 (I.ok.bs b o e).2 (I.ok.noex b o e)⟩
theorem Inv.bk (I : Inv X pins σ H s) : ∀ b o, X.base.get? b = some o → s.heap.get? b = some o := fun b o e => (I.bs b o e).1
theorem Inv.mod (I : Inv X pins σ H s) : Mod X.K X.mg X.base := I.ok.mod
theorem Inv.kIn (I : Inv X pins σ H s) : X.K.In s.heap := I.ok.mod.kin.keeps I.bk
theorem Inv.nolimit (I : Inv X pins σ H s) : s.heap.NoLimit := I.ok.mod.nolimit.keeps I.bk
theorem Inv.lt (I : Inv X pins σ H s) : X.env.locals < s.heap.objs.size := let ⟨_, hn, _⟩ := I.loc; hn.lt
theorem Inv.sz (I : Inv X pins σ H s) : X.s_0.heap.objs.size ≤ s.heap.objs.size := Nat.le_trans I.ok.above (Nat.le_of_lt I.lt)
theorem Inv.nofs (I : Inv X pins σ H s) {a : Addr} (h : s.heap.objs.size ≤ a) : a ∉ X.fs := fun hb => by
  obtain ⟨_, o, ho, _⟩ := I.ok.funs.mem hb
  exact absurd (Nat.lt_of_lt_of_le (Heap.lt_size ho) (Nat.le_trans I.sz h)) (Nat.lt_irrefl _)
theorem Inv.cne (I : Inv X pins σ H s) : ∀ x c, X.env.cells.lookup x = some c → c ≠ X.env.locals := fun x c e z => by
  obtain ⟨v, o, ho, hd⟩ := I.cell x c e
  obtain ⟨m, ⟨o', es, ep, ho', hd', _⟩, _⟩ := I.loc
  rw [z, ho'] at ho; cases ho; rw [hd'] at hd; cases hd
theorem Inv.funs (I : Inv X pins σ H s) : s.heap.FunFrames X.base X.outer := by
  have all : ∀ (l : List Env), (∀ b ∈ frs l, b ∈ X.fs) → X.s_0.heap.FunFrames X.base l → s.heap.FunFrames X.base l := by
    intro l
    induction l with
    | nil => intro _ _; trivial
    | cons env r ih =>
      intro hs hl
      obtain ⟨hk, ⟨L, o, hf, hn, ho, hd⟩, hr⟩ := hl
      have hL : L ∈ X.fs := hs L (by unfold frs; rw [List.filterMap_cons, hf]; exact List.mem_cons_self)
      obtain ⟨sl, e⟩ := I.base.slot L o ho (I.ok.frf L hL) hL fun z => I.ok.exfs L z hL
      exact ⟨hk, ⟨L, _, hf, hn, e, hd⟩, ih (fun b hb => hs b (by unfold frs; rw [List.filterMap_cons, hf]; exact List.mem_cons_of_mem _ hb)) hr⟩
  exact all X.outer (fun _ hb => hb) I.ok.funs
theorem Inv.stack (I : Inv X pins σ H s) : s.heap.FunFrames X.base X.stack := by
  rcases I.ok.stk with e | ⟨e, hf⟩
  · rw [e]; exact I.funs
  · rw [e]
    obtain ⟨m, hn, _⟩ := I.loc
    refine .cons (by rw [I.ok.kind]; decide) hf hn ?_ I.funs
    exact Heap.get?_none_of_le (Nat.le_trans I.ok.bsz I.ok.above)
theorem Inv.stkSub (I : Inv X pins σ H s) : ∀ b ∈ frs X.stack, b ∈ X.env.locals :: X.fs := fun b hb => by
  rcases I.ok.stk with e | ⟨e, hf⟩
  · rw [e] at hb; exact List.mem_cons_of_mem _ hb
  · rw [e] at hb
    unfold frs at hb
    rw [List.filterMap_cons, hf] at hb
    exact hb
theorem Inv.stkFree (I : Inv X pins σ H s) : ∀ b ∈ frs X.stack, H b = none := fun b hb => by
  rcases List.mem_cons.mp (I.stkSub b hb) with e | hb
  · rw [e]; exact I.free
  · obtain ⟨_, o, ho, _⟩ := I.ok.funs.mem hb
    exact I.base.free b o ho (I.ok.frf b hb) fun z => I.ok.exfs b z hb
theorem Inv.step {g' : Array GenState} {t' : Nat} {d' : Drawn} {ch : List Addr} (I : Inv X pins σ H s)
    (hch : ∀ b ∈ ch, (b ∈ X.ex ∨ X.s_0.heap.objs.size ≤ b) ∧ b ≠ X.env.locals ∧ (∀ x c, X.env.cells.lookup x = some c → c ≠ b) ∧ ∀ p ∈ X.pn ++ pins, p.1 ≠ b)
    (keep : ∀ b o, b ≠ X.env.locals → b ∉ X.fs → b ∉ ch → s.heap.get? b = some o → H b = none → h'.get? b = some o)
    (slot : ∀ b o, b ≠ X.env.locals → b ∈ X.fs → b ∉ ch → s.heap.get? b = some o → H b = none → ∃ sl, h'.get? b = some { o with slots := sl }) (free : ∀ b o, b ∉ ch → s.heap.get? b = some o → H b = none → H' b = none)
    (there : ∀ b o, b ∉ ch → s.heap.get? b = some o → ∃ o', h'.get? b = some o')
    (tups : ∀ b xs, H b = some (.tup xs) → H' b = some (.tup xs)) (frzs : ∀ b o u, H b = some (.frz o u) → H' b = some (.frz o u)) (tbls : ∀ b ps, H b = some (.tbl ps) → ∃ more, H' b = some (.tbl (ps ++ more)))
    (ns : ∀ m, s.heap.Ns X.env.locals m → h'.Ns X.env.locals m) (hok : HOk X.prog X.w H' h') (hg : AllBare g') :
    Inv X pins σ H' { s with heap := h', gens := g', drawn := d', toks := t' } := by
  have neL : ∀ b o, X.s_0.heap.get? b = some o → b ≠ X.env.locals := fun b o e => Nat.ne_of_lt (Nat.lt_of_lt_of_le (Heap.lt_size e) I.ok.above)
  have neC : ∀ b o, X.s_0.heap.get? b = some o → b ∉ X.ex → b ∉ ch := fun b o e hx hb => by
    rcases (hch b hb).1 with z | z
    · exact hx z
    · exact absurd (Nat.lt_of_lt_of_le (Heap.lt_size e) z) (Nat.lt_irrefl _)
  have cellK : ∀ x c, X.env.cells.lookup x = some c → ∀ v, s.heap.IsCell c v → h'.IsCell c v := fun x c e v ⟨o, ho, hd⟩ => by
    have nch : c ∉ ch := fun z => (hch c z).2.2.1 x c e rfl
    by_cases hc : c ∈ X.fs
    · obtain ⟨sl, q⟩ := slot c o (I.cne x c e) hc nch ho (I.freeC x c e)
      exact ⟨_, q, hd⟩
    · exact ⟨o, keep c o (I.cne x c e) hc nch ho (I.freeC x c e), hd⟩
  refine ⟨I.ok, I.os, hg, ⟨fun b o e n hb hx => ?_, fun b o e n hb hx => ?_, fun b o e n hx => ?_, fun b o e hx => ?_, fun b xs e => tups b xs (I.base.tups b xs e), fun b o xs e => frzs b o xs (I.base.frzs b o xs e), fun b ps e => ?_⟩, ?_, fun x c e => ?_, ?_, fun x c e => ?_, fun p hp => ?_, hok, I.len⟩
  · exact keep b o (neL b o e) hb (neC b o e hx) (I.base.keep b o e n hb hx) (I.base.free b o e n hx)
  · obtain ⟨sl, e1⟩ := I.base.slot b o e n hb hx
    obtain ⟨sl', e2⟩ := slot b _ (neL b o e) hb (neC b o e hx) e1 (I.base.free b o e n hx)
    exact ⟨sl', e2⟩
  · obtain ⟨o', e1⟩ := I.base.there b o e hx
    exact free b o' (neC b o e hx) e1 (I.base.free b o e n hx)
  · obtain ⟨o', e1⟩ := I.base.there b o e hx
    exact there b o' (neC b o e hx) e1
  · obtain ⟨m1, e1⟩ := I.base.tbls b ps e
    obtain ⟨m2, e2⟩ := tbls b _ e1
    exact ⟨m1 ++ m2, by rw [e2, Array.append_assoc]⟩
  · obtain ⟨m, hn, hl⟩ := I.loc
    refine ⟨m, ns m hn, fun i x v e1 e2 e3 => ?_⟩
    obtain ⟨u, r, l⟩ := hl i x v e1 e2 e3
    refine ⟨u, r, ?_⟩
    rcases l with l | ⟨k, c, e, z⟩
    · exact .inl l
    · exact .inr ⟨k, c, e, cellK x c e _ z⟩
  · obtain ⟨v, z⟩ := I.cell x c e
    exact ⟨v, cellK x c e v z⟩
  · obtain ⟨m, ⟨o, _, _, ho, _⟩, _⟩ := I.loc
    exact free _ o (fun z => (hch _ z).2.1 rfl) ho I.free
  · obtain ⟨v, o, ho, hd⟩ := I.cell x c e
    exact free c o (fun z => (hch c z).2.2.1 x c e rfl) ho (I.freeC x c e)
  · obtain ⟨e, n, ne, nf, d⟩ := I.pin p hp
    have nch : p.1 ∉ ch := fun z => (hch p.1 z).2.2.2 p hp rfl
    exact ⟨keep p.1 p.2 ne nf nch e n, free p.1 p.2 nch e n, ne, nf, d⟩
theorem Inv.un {t' : Nat} (I : Inv X pins σ H s) (u : Un X.fs [] H H' s.heap h') (hok : HOk X.prog X.w H' h') : Inv X pins σ H' { s with heap := h', toks := t' } := by
  obtain ⟨m, ⟨o, es, ep, ho, r⟩, _⟩ := id I.loc
  obtain ⟨sl, hL⟩ := u.any ho I.free (by simp)
  exact I.step (g' := s.gens) (d' := s.drawn) (ch := []) (fun _ z => nomatch z) (fun b o _ hb _ e n => u.keep b o e n hb (by simp)) (fun b o _ hb _ e n => u.slot b o e n hb (by simp)) (fun b o _ e n => u.free b o e n (by simp)) (fun b o _ e => u.there b o e (by simp)) u.tups u.frzs u.tbls (fun m' hm => by
    obtain ⟨o', es', ep', ho', r'⟩ := hm
    rw [ho] at ho'; cases ho'
    exact ⟨_, es', ep', hL, r'⟩) hok I.bare
theorem Inv.call {g' : Array GenState} {t' : Nat} {d' : Drawn} {ch : List Addr} (I : Inv X pins σ H s) (u : Un (frs X.stack) ch H H' s.heap h') (hok : HOk X.prog X.w H' h') (hg : AllBare g')
    (hch : ∀ b ∈ ch, (b ∈ X.ex ∨ X.s_0.heap.objs.size ≤ b) ∧ b ≠ X.env.locals ∧ (∀ x c, X.env.cells.lookup x = some c → c ≠ b) ∧ ∀ p ∈ X.pn ++ pins, p.1 ≠ b) :
    Inv X pins σ H' { s with heap := h', gens := g', drawn := d', toks := t' } := by
  obtain ⟨m, ⟨o, es, ep, ho, r⟩, _⟩ := id I.loc
  obtain ⟨sl, hL⟩ := u.any ho I.free fun z => (hch _ z).2.1 rfl
  exact I.step (ch := ch) hch (fun b o hL hb hc e n => u.keep b o e n (fun z => (List.mem_cons.mp (I.stkSub b z)).elim hL hb) hc) (fun b o _ _ hc e n => u.any e n hc) (fun b o hc e n => u.free b o e n hc) (fun b o hc e => u.there b o e hc) u.tups u.frzs u.tbls (fun m' hm => by
    obtain ⟨o', es', ep', ho', r'⟩ := hm
    rw [ho] at ho'; cases ho'
    exact ⟨_, es', ep', hL, r'⟩) hok hg
theorem Inv.turned {t' : Nat} {it : Addr} (I : Inv X pins σ H s) (k : ∀ b o, b ≠ it → s.heap.get? b = some o → h'.get? b = some o) (hn : H it = none) (hL : it ≠ X.env.locals)
    (h1 : it ∈ X.ex ∨ X.s_0.heap.objs.size ≤ it) (h2 : ∀ x c, X.env.cells.lookup x = some c → c ≠ it) (h3 : ∀ p ∈ X.pn ++ pins, p.1 ≠ it) : Inv X pins σ H { s with heap := h', toks := t' } := by
  have nit : ∀ b u, H b = some u → b ≠ it := fun b u e z => by rw [z, hn] at e; cases e
  refine I.step (g' := s.gens) (d' := s.drawn) (ch := [it]) (fun b hb => ?_) (fun b o _ _ hc e _ => k b o (fun z => hc (by simp [z])) e) (fun b o _ _ hc e _ => ⟨o.slots, k b o (fun z => hc (by simp [z])) e⟩) (fun _ _ _ _ n => n)
    (fun b o hc e => ⟨o, k b o (fun z => hc (by simp [z])) e⟩) (fun _ _ e => e) (fun _ _ _ e => e) (fun b ps e => ⟨#[], by rw [e]; simp⟩) (fun m hm => ?_) (fun b u e => ?_) I.bare
  · have e : b = it := by simpa using hb
    subst e
    exact ⟨h1, hL, h2, h3⟩
  · obtain ⟨o, es, ep, ho, r⟩ := hm
    exact ⟨o, es, ep, k _ o (Ne.symm hL) ho, r⟩
  · refine (I.hok b u e).stay (fun c v hc q => k c v ?_ q) (fun _ q => q) fun _ _ q => q
    rcases hc with z | z
    · rw [z]; exact nit b u e
    · exact nit c _ z
theorem Inv.tok (I : Inv X pins σ H s) (t : Nat) : Inv X pins σ H { s with toks := t } := I.un (h' := s.heap) (t' := t) Un.refl I.hok
theorem Inv.kept {t' : Nat} (I : Inv X pins σ H s) (k : ∀ b u, s.heap.get? b = some u → h'.get? b = some u) : Inv X pins σ H { s with heap := h', toks := t' } := I.un (Un.kept k) (I.hok.kept k)
theorem Inv.laid {a : Addr} {o : HO} {t' : Nat} (I : Inv X pins σ H s) (k : ∀ b u, s.heap.get? b = some u → h'.get? b = some u) (hp : s.heap.objs.size ≤ a) (new : ObjOk X.prog X.w (upd H a o) h' a o) :
    Inv X pins σ (upd H a o) { s with heap := h', toks := t' } := I.un (Un.laid k hp (I.hok.fresh hp)) (I.hok.laid k hp new)
theorem Inv.write {x e : Addr} {o : HO} {t' : Nat} (I : Inv X pins σ H s) (mu : Mut (H x)) (he : e = x ∨ H e = some (.own x)) (k : ∀ b u, b ≠ e → s.heap.get? b = some u → h'.get? b = some u) (heo : ∃ u, h'.get? e = some u)
    (new : ObjOk X.prog X.w (upd H x o) h' x o) : Inv X pins σ (upd H x o) { s with heap := h', toks := t' } := I.un (Un.write mu he k heo) (I.hok.write mu he k heo new)
theorem Inv.weak {σ' : List (Option V)} (I : Inv X pins σ H s) (hl : σ'.length = σ.length) (w : ∀ (i : Nat) v, σ'[i]? = some (some v) → σ[i]? = some (some v)) : Inv X pins σ' H s :=
  ⟨I.ok, I.os, I.bare, I.base, let ⟨m, hn, hl'⟩ := I.loc; ⟨m, hn, fun i x v e1 e2 e3 => hl' i x v e1 (w i v e2) e3⟩, I.cell, I.free, I.freeC, I.pin, I.hok, hl.trans I.len⟩
theorem Inv.pins_of {pins' : List (Addr × Obj)} (I : Inv X pins σ H s) (h : ∀ p ∈ pins', s.heap.get? p.1 = some p.2 ∧ H p.1 = none ∧ p.1 ≠ X.env.locals ∧ p.1 ∉ X.fs ∧ ∀ v, p.2.data ≠ .cell v) : Inv X pins' σ H s :=
  ⟨I.ok, I.os, I.bare, I.base, I.loc, I.cell, I.free, I.freeC, fun p hp => (List.mem_append.mp hp).elim (fun z => I.pin p (List.mem_append_left _ z)) (h p), I.hok, I.len⟩
theorem nodup_ix {N : List Str} (hN : N.Nodup) {i j : Nat} {x : Str} (a : N[i]? = some x) (b : N[j]? = some x) : i = j := by
  obtain ⟨h1, e1⟩ := List.getElem?_eq_some_iff.mp a
  obtain ⟨h2, e2⟩ := List.getElem?_eq_some_iff.mp b
  exact (List.getElem_inj hN).mp (e1.trans e2.symm)
theorem store_ok2 {M : Model} {A : Around} {E : Value → Shared → Prop} {i : Nat} {x : Str} {v : V} {u : Value} {Q : Unit → Shared → Prop} (I : Inv X pins σ H s) (hN : X.N.Nodup) (hi : X.N[i]? = some x) (hx : Loc X.env.scope x) (r : RelV v u)
    (h : ∀ s', Inv X pins (σ.set i (some v)) H s' → (∃ a, Heap.SameBut a s.heap s'.heap ∧ (a = X.env.locals ∨ X.env.cells.lookup x = some a)) → Q () s') (hf : X.fn x = true ∨ X.env.scope.names.lookup x = some .local := by first | exact .inl rfl | exact .inr rfl | assumption) : wpAny M A (storeName X.env x u) Q E s := by
  obtain ⟨m, hn, hl⟩ := id I.loc
  have hcls : (X.env.scope.kind == .class || (X.env.scope.kind == .module && X.env.locals != X.env.globals)) = false := by rw [I.ok.kind]; rfl
  have hiσ : i < σ.length := by rw [I.len]; exact (List.getElem?_eq_some_iff.mp hi).1
  have cne := I.cne
  have tracked : ∀ {a : Addr} {h' : Heap}, (∃ o, s.heap.get? a = some o ∧ H a = none) → Heap.SameBut a s.heap h' → HOk X.prog X.w H h' := fun {a h'} ha hs b ob e => by
    obtain ⟨_, _, hfree⟩ := ha
    refine (I.hok b ob e).stay (fun c w' hc q => (hs.2 c ?_).trans q) (fun _ q => q) fun _ _ q => q
    rintro rfl
    rcases hc with rfl | hc
    · rw [hfree] at e; cases e
    · rw [hfree] at hc; cases hc
  rcases hx with hk | hk
  · refine wpAny_storeName_local hk hn (fun h' hn' hs => ?_) hcls
    obtain ⟨oL, _, _, hoL, _⟩ := id hn
    refine h _ ⟨I.ok, I.os, I.bare, ⟨fun b o e n hb hx => ?_, fun b o e n hb hx => ?_, I.base.free, fun b o e hx => ?_, I.base.tups, I.base.frzs, I.base.tbls⟩, ⟨_, hn', fun j y v' e1 e2 e3 => ?_⟩, fun y c e => ?_, I.free, I.freeC, fun p hp => ?_, tracked ⟨oL, hoL, I.free⟩ hs, by simpa using I.len⟩ ⟨_, hs, .inl rfl⟩
    · exact (hs.2 b (Nat.ne_of_lt (Nat.lt_of_lt_of_le (Heap.lt_size e) I.ok.above))).trans (I.base.keep b o e n hb hx)
    · obtain ⟨sl, e1⟩ := I.base.slot b o e n hb hx
      exact ⟨sl, (hs.2 b (Nat.ne_of_lt (Nat.lt_of_lt_of_le (Heap.lt_size e) I.ok.above))).trans e1⟩
    · obtain ⟨o', e1⟩ := I.base.there b o e hx
      exact ⟨o', (hs.2 b (Nat.ne_of_lt (Nat.lt_of_lt_of_le (Heap.lt_size e) I.ok.above))).trans e1⟩
    · by_cases hj : j = i
      · subst hj
        rw [hi] at e1; cases e1
        rw [List.getElem?_set_self hiσ] at e2
        cases e2
        exact ⟨u, r, .inl ⟨hk, by simp⟩⟩
      · rw [List.getElem?_set_ne (Ne.symm hj)] at e2
        obtain ⟨u', r', q⟩ := hl j y v' e1 e2 e3
        refine ⟨u', r', ?_⟩
        rcases q with ⟨k, e⟩ | ⟨k, c, e, z⟩
        · refine .inl ⟨k, ?_⟩
          have : y ≠ x := fun e => hj (nodup_ix hN e1 (e ▸ hi))
          simp [this, e]
        · exact .inr ⟨k, c, e, z.sameBut hs (cne y c e)⟩
    · obtain ⟨w', z⟩ := I.cell y c e
      exact ⟨w', z.sameBut hs (cne y c e)⟩
    · obtain ⟨e, n, ne, nf, d⟩ := I.pin p hp
      exact ⟨(hs.2 p.1 ne).trans e, n, ne, nf, d⟩
  · have hfn : X.fn x = true := by
      rcases hf with z | z
      · exact z
      · rw [z] at hk; cases hk
    obtain ⟨c, hc⟩ := I.ok.has x (.inl hk)
    obtain ⟨w', z⟩ := I.cell x c hc
    refine wpAny_storeName_cell I.ok.kind hk hc z (fun h' hc' hs => ?_)
    obtain ⟨oc, hoc, hocd⟩ := id z
    refine h { s with heap := h' } ⟨I.ok, I.os, I.bare, ⟨fun b o e n hb hx => ?_, fun b o e n hb hx => ?_, I.base.free, fun b o e hx => ?_, I.base.tups, I.base.frzs, I.base.tbls⟩, ⟨m, hn.sameBut hs (Ne.symm (cne x c hc)), fun j y v' e1 e2 e3 => ?_⟩, fun y c' e => ?_, I.free, I.freeC, fun p hp => ?_, tracked ⟨oc, hoc, I.freeC x c hc⟩ hs, by simpa using I.len⟩ ⟨c, hs, .inr hc⟩
    · exact (hs.2 b (Nat.ne_of_lt (Nat.lt_of_lt_of_le (Heap.lt_size e) (I.ok.cab x c hfn hc)))).trans (I.base.keep b o e n hb hx)
    · obtain ⟨sl, e1⟩ := I.base.slot b o e n hb hx
      exact ⟨sl, (hs.2 b (Nat.ne_of_lt (Nat.lt_of_lt_of_le (Heap.lt_size e) (I.ok.cab x c hfn hc)))).trans e1⟩
    · obtain ⟨o', e1⟩ := I.base.there b o e hx
      exact ⟨o', (hs.2 b (Nat.ne_of_lt (Nat.lt_of_lt_of_le (Heap.lt_size e) (I.ok.cab x c hfn hc)))).trans e1⟩
    · by_cases hj : j = i
      · subst hj
        rw [hi] at e1; cases e1
        rw [List.getElem?_set_self hiσ] at e2
        cases e2
        exact ⟨u, r, .inr ⟨.inl hk, c, hc, hc'⟩⟩
      · rw [List.getElem?_set_ne (Ne.symm hj)] at e2
        obtain ⟨u', r', q⟩ := hl j y v' e1 e2 e3
        refine ⟨u', r', ?_⟩
        rcases q with q | ⟨k, c', e, z'⟩
        · exact .inl q
        · refine .inr ⟨k, c', e, z'.sameBut hs ?_⟩
          rintro rfl
          exact hj (nodup_ix hN e1 (I.ok.inj _ _ _ e hc ▸ hi))
    · by_cases hcc : c' = c
      · subst hcc; exact ⟨_, hc'⟩
      · obtain ⟨w2, z2⟩ := I.cell y c' e
        exact ⟨w2, z2.sameBut hs hcc⟩
    · obtain ⟨e, n, ne, nf, d⟩ := I.pin p hp
      refine ⟨(hs.2 p.1 ?_).trans e, n, ne, nf, d⟩
      intro q
      rw [q, hoc] at e
      have q' : oc = p.2 := Option.some.inj e
      exact d w' (by rw [← q']; exact hocd)
theorem store_ok {M : Model} {A : Around} {E : Value → Shared → Prop} {i : Nat} {x : Str} {v : V} {u : Value} {Q : Unit → Shared → Prop} (I : Inv X pins σ H s) (hN : X.N.Nodup) (hi : X.N[i]? = some x) (hx : Loc X.env.scope x) (r : RelV v u)
    (h : ∀ s', Inv X pins (σ.set i (some v)) H s' → Q () s') (hf : X.fn x = true ∨ X.env.scope.names.lookup x = some .local := by first | exact .inl rfl | exact .inr rfl | assumption) : wpAny M A (storeName X.env x u) Q E s :=
  store_ok2 I hN hi hx r (fun s' I' _ => h s' I') hf
theorem Inv.call' {s' : Shared} {ch : List Addr} (I : Inv X pins σ H s) (ho : s'.os = s.os) (u : Un (frs X.stack) ch H H' s.heap s'.heap) (hok : HOk X.prog X.w H' s'.heap) (hg : AllBare s'.gens)
    (hch : ∀ b ∈ ch, (b ∈ X.ex ∨ X.s_0.heap.objs.size ≤ b) ∧ b ≠ X.env.locals ∧ (∀ x c, X.env.cells.lookup x = some c → c ≠ b) ∧ ∀ p ∈ X.pn ++ pins, p.1 ≠ b) : Inv X pins σ H' s' := by
  obtain ⟨h', g', d', t', o'⟩ := s'
  have e : o' = s.os := ho
  subst e
  exact I.call (g' := g') (t' := t') (d' := d') u hok hg hch
end
abbrev XK := Value → Option Addr → Hp → Prop
abbrev St := List (Option V)
abbrev VK := V → Hp → Prop
abbrev TE := St → Hp → VK → Prop
abbrev TT := St → Hp → (Bool → Hp → Prop) → Prop
abbrev TA := St → Hp → (List V → Hp → Prop) → Prop
structure Ends where
  nx : St → Hp → Prop
  rt : VK
  bk : St → Hp → Prop := fun _ _ => False
  ct : St → Hp → Prop := fun _ _ => False
abbrev TS := Ends → St → Hp → Prop
def EP (X : Cx) (pins : List (Addr × Obj)) (σ : St) (Q : VK) (u : Value) (s' : Shared) : Prop := ∃ v H', Inv X pins σ H' s' ∧ RelV v u ∧ Q v H'
def TP (X : Cx) (pins : List (Addr × Obj)) (σ : St) (Q : Bool → Hp → Prop) (b : Bool) (s' : Shared) : Prop := ∃ H', Inv X pins σ H' s' ∧ Q b H'
def AP (X : Cx) (pins : List (Addr × Obj)) (σ : St) (Q : List V → Hp → Prop) (us : List Value) (s' : Shared) : Prop := ∃ vs H', Inv X pins σ H' s' ∧ Vals vs us ∧ Q vs H'
def SP (X : Cx) (pins : List (Addr × Obj)) (D : Ends) (f : Flow) (s' : Shared) : Prop :=
  match f with
  | .next => ∃ σ' H', Inv X pins σ' H' s' ∧ D.nx σ' H'
  | .brk => ∃ σ' H', Inv X pins σ' H' s' ∧ D.bk σ' H'
  | .cont => ∃ σ' H', Inv X pins σ' H' s' ∧ D.ct σ' H'
  | .ret u => ∃ v σ' H', Inv X pins σ' H' s' ∧ RelV v u ∧ D.rt v H'
def PE (X : Cx) (e : Expr) (t : TE) : Prop :=
  ∀ (pins : List (Addr × Obj)) (s : Shared) (σ : St) (H : Hp) (Q : VK), Inv X pins σ H s → t σ H Q → wpAny (model X.prog X.w) X.A (eval e X.env) (EP X pins σ Q) X.xe s
def PT (X : Cx) (e : Expr) (t : TT) : Prop :=
  ∀ (pins : List (Addr × Obj)) (s : Shared) (σ : St) (H : Hp) (Q : Bool → Hp → Prop), Inv X pins σ H s → t σ H Q → wpAny (model X.prog X.w) X.A (isTrue e X.env (eval e X.env)) (TP X pins σ Q) X.xe s
def PW (X : Cx) (e : Expr) (t : TT) : Prop :=
  ∀ (whole : Sem Value) (pins : List (Addr × Obj)) (s : Shared) (σ : St) (H : Hp) (Q : Bool → Hp → Prop), Inv X pins σ H s → t σ H Q → wpAny (model X.prog X.w) X.A (isTrue e X.env whole) (TP X pins σ Q) X.xe s
theorem PW.pt {X : Cx} {e : Expr} {t : TT} (h : PW X e t) : PT X e t := h _
def PA (X : Cx) (es : List Expr) (t : TA) : Prop :=
  ∀ (pos : Pos) (pins : List (Addr × Obj)) (s : Shared) (σ : St) (H : Hp) (Q : List V → Hp → Prop), Inv X pins σ H s → t σ H Q → wpAny (model X.prog X.w) X.A (spliced (backTo pos (starEach es X.env))) (AP X pins σ Q) X.xe s
def PS (X : Cx) (st : Stmt) (t : TS) : Prop :=
  ∀ (pins : List (Addr × Obj)) (s : Shared) (σ : St) (H : Hp) (D : Ends), Inv X pins σ H s → t D σ H → wpAny (model X.prog X.w) X.A (exec st X.env) (SP X pins D) X.xe s
def PSs (X : Cx) (st : List Stmt) (t : TS) : Prop :=
  ∀ (pins : List (Addr × Obj)) (s : Shared) (σ : St) (H : Hp) (D : Ends), Inv X pins σ H s → t D σ H → wpAny (model X.prog X.w) X.A (execs st X.env) (SP X pins D) X.xe s
theorem thn {α : Type} {t : Sem α} {Q Q' : α → Shared → Prop} {M : Model} {A : Around} {E : Value → Shared → Prop} {s : Shared} (h : wpAny M A t Q E s) (hQ : ∀ a s, Q a s → Q' a s) : wpAny M A t Q' E s := wpAny_mono h hQ fun _ _ x => x
end L2
namespace L2
open PySem PySem.Spec PyProof.Rows
section
variable {X : Cx}
def tVar (i : Nat) : TE := fun σ H Q => ∃ v, σ[i]? = some (some v) ∧ Q v H
def tC (v : V) : TE := fun _ H Q => Q v H
theorem pe_var {i : Nat} {x : Str} {pos : Pos} (hN : X.N[i]? = some x) (hv : Vis X.env.scope x) (hd : (x == ("__debug__" : Str)) = false := by decide) (hcd : (x == ("__classdict__" : Str)) = false := by decide) : PE X (.Name x pos) (tVar i) := by
  intro pins s σ H Q I h
  obtain ⟨v, e, h⟩ := h
  obtain ⟨m, hn, hl⟩ := I.loc
  obtain ⟨u, r, l⟩ := hl i x v hN e hv
  have fin : EP X pins σ Q u s := ⟨v, H, I, r, h⟩
  rcases l with ⟨hk, hm⟩ | ⟨hk, c, hc, hcell⟩
  · exact wpAny_Name (wpAny_loadName_local I.ok.kind hk hn hm fin) hd
  · rcases hk with hk | hk
    · exact wpAny_Name (wpAny_loadName_cell I.ok.kind hk hc hcell fin) hd
    · exact wpAny_Name (wpAny_loadName_free I.ok.kind hk hc hcell fin hcd) hd
theorem pe_int {i j pos} : PE X (.Constant (.int i) j pos) (tC (.int i)) := fun _ _ _ H _ I h => wpAny_Constant_int ⟨.int i, H, I.tok _, ⟨_, rfl⟩, h⟩
theorem pe_bl {b j pos} : PE X (.Constant (.bool b) j pos) (tC (.bl b)) := fun _ _ _ H _ I h => Constant_bool ⟨.bl b, H, I, rfl, h⟩
def Gl (X : Cx) (x : Str) : Prop := X.env.kindOf x = some .globalImplicit
theorem ld_glob {E : Value → Shared → Prop} {pins : List (Addr × Obj)} {s : Shared} {σ : St} {H : Hp} {x : Str} {u : Value} {pos : Pos} {Q : Value → Shared → Prop} (I : Inv X pins σ H s) (hg : Gl X x) (hm : X.mg x = some u) (h : Q u s)
    (hd : (x == ("__debug__" : Str)) = false := by decide) : wpAny (model X.prog X.w) X.A (eval (.Name x pos) X.env) Q E s :=
  Calls.Name_function_global I.ok.kind hg (Calls.loadGlobal_global (by rw [I.ok.glob]; exact I.mod.glob.keeps I.bk) hm h) hd
theorem ld_blt {E : Value → Shared → Prop} {pins : List (Addr × Obj)} {s : Shared} {σ : St} {H : Hp} {x : Str} {u : Value} {pos : Pos} {Q : Value → Shared → Prop} (I : Inv X pins σ H s) (hg : Gl X x) (hm : X.mg x = none) (hv : bootBuiltins x = some u) (h : Q u s)
    (hn : x ≠ "__name__" := by decide) (hd : (x == ("__debug__" : Str)) = false := by decide) : wpAny (model X.prog X.w) X.A (eval (.Name x pos) X.env) Q E s := by
  obtain ⟨mb, h1, h2⟩ := I.mod.blt
  exact Calls.Name_function_global I.ok.kind hg (Calls.loadGlobal_builtin (by rw [I.ok.glob]; exact I.mod.glob.keeps I.bk) hm (by rw [I.ok.blt]; exact h1.keeps I.bk) ((h2 x hn).trans hv) h) hd
theorem pe_glob {x : Str} {v : V} {u : Value} {pos : Pos} (hg : Gl X x) (hm : X.mg x = some u) (r : RelV v u) (hd : (x == ("__debug__" : Str)) = false := by decide) : PE X (.Name x pos) (tC v) :=
  fun _ _ _ H _ I h => ld_glob I hg hm ⟨v, H, I, r, h⟩ hd
variable {a b : Expr} {ta tb : TE} {pos : Pos}
def tB (t : TE) : TT := fun σ H Q => t σ H fun x H1 => ∃ c, x = .bl c ∧ Q c H1
theorem pt_val {e : Expr} {t : TE} (h : PE X e t) (he : ∀ whole, isTrue e X.env whole = (do let v ← whole; standAt e.pos; holding [v] (truthy v)) := by intro _; rfl) : PT X e (tB t) := by
  intro pins s σ H Q I hw
  refine isTrue_plain (thn (h pins s σ H _ I hw) fun v s1 ⟨x, H1, I1, r1, q1⟩ => ?_) (he _)
  obtain ⟨d, rfl, q⟩ := q1
  cases r1
  exact wpAny_truthy_bool ⟨H1, I1, q⟩
variable {tA tB' : TT} {rest : List Expr}
def tAnd (t u : TT) : TT := fun σ H Q => t σ H fun c H1 => if c = true then u σ H1 Q else Q false H1
def tNot (t : TT) : TT := fun σ H Q => t σ H fun c H1 => Q (!c) H1
theorem pw_and1 (ha : PT X a tA) : PW X (.BoolOp .And [a] pos) tA := by
  intro wh pins s σ H Q I h
  refine isTrue_and (thn (ha pins s σ H Q I h) fun c s1 e => ?_)
  cases c with
  | true => exact isTrue_and_nil e
  | false => exact e
theorem pw_and (ha : PT X a tA) (hb : PW X (.BoolOp .And (b :: rest) pos) tB') : PW X (.BoolOp .And (a :: b :: rest) pos) (tAnd tA tB') := by
  intro wh pins s σ H Q I h
  refine isTrue_and (thn (ha pins s σ H _ I h) fun c s1 ⟨H1, I1, q1⟩ => ?_)
  cases c with
  | true => exact hb wh pins s1 σ H1 Q I1 q1
  | false => exact ⟨H1, I1, q1⟩
theorem pt_not (ha : PT X a tA) : PT X (.UnaryOp .Not a pos) (tNot tA) := by
  intro pins s σ H Q I h
  exact isTrue_not (ha pins s σ H (fun c H1 => Q (!c) H1) I h)
def tAndV (ta tb : TE) : TE := fun σ H Q => ta σ H fun x H1 => ∃ c, x = .bl c ∧ if c = true then tb σ H1 Q else Q (.bl false) H1
theorem pe_one {op} {t : TE} (h : PE X a t) : PE X (.BoolOp op [a] pos) t := fun pins s σ H Q I hw => BoolOp_one (h pins s σ H Q I hw)
theorem pe_and (ha : PE X a ta) (hb : PE X (.BoolOp .And (b :: rest) pos) tb) : PE X (.BoolOp .And (a :: b :: rest) pos) (tAndV ta tb) := by
  intro pins s σ H Q I h
  refine BoolOp_and (thn (ha pins s σ H _ I h) fun v s1 ⟨x, H1, I1, r1, q1⟩ => ?_)
  obtain ⟨c, rfl, q1⟩ := q1
  cases r1
  refine wpAny_truthy_bool ?_
  cases c with
  | true => exact hb pins s1 σ H1 Q I1 q1
  | false => exact ⟨.bl false, H1, I1, rfl, q1⟩
def tIf (t : TT) (ta tb : TE) : TE := fun σ H Q => t σ H fun c H1 => if c = true then ta σ H1 Q else tb σ H1 Q
theorem pe_ifExp {c : Expr} (hc : PT X c tA) (ha : PE X a ta) (hb : PE X b tb) : PE X (.IfExp c a b pos) (tIf tA ta tb) := by
  intro pins s σ H Q I h
  refine wpAny_IfExp (thn (hc pins s σ H _ I h) fun d s1 ⟨H1, I1, q1⟩ => ?_)
  cases d with
  | true => exact ha pins s1 σ H1 Q I1 q1
  | false => exact hb pins s1 σ H1 Q I1 q1
end
end L2
namespace L2
open PySem PySem.Spec PyProof.Rows
def SqL (K : PySem.W.Frag) (H : Hp) (a : Addr) (xs : List V) : Prop :=
  Rd H a (.lst xs) ∨
    ∃ (o : Obj) (its : Array Value) (n : Nat), K.lookup a = some o ∧ o.cls = .type "list" ∧ o.dict = none ∧ o.data = .seq its n ∧ its.size ≤ sizeLine ∧ Vals xs its.toList
def SqT (K : PySem.W.Frag) (H : Hp) (a : Addr) (xs : List V) : Prop :=
  Rd H a (.tup xs) ∨
    ∃ (o : Obj) (its : Array Value) (n : Nat), K.lookup a = some o ∧ o.cls = .type "tuple" ∧ o.data = .seq its n ∧ its.size ≤ sizeLine ∧ Vals xs its.toList
def absV : Value → Option V
  | .none => some .non
  | .bool b => some (.bl b)
  | .int i _ => some (.int i)
  | .str x _ => some (.str x)
  | .bytes b _ => some (.byt b)
  | .float b _ => some (.flt b)
  | .ref a => some (.ref a)
  | .type n => some (.ty n)
  | _ => none
theorem RelV.abs {x : V} {u : Value} (r : RelV x u) : absV u = some x := by
  cases x with
  | non => cases r; rfl
  | bl _ => cases r; rfl
  | int _ => obtain ⟨t, rfl⟩ := r; rfl
  | str _ => obtain ⟨t, rfl⟩ := r; rfl
  | byt _ => obtain ⟨t, rfl⟩ := r; rfl
  | flt _ => obtain ⟨t, rfl⟩ := r; rfl
  | ref _ => cases r; rfl
  | ty _ => cases r; rfl
theorem RelV.inj {x y : V} {u : Value} (r : RelV x u) (q : RelV y u) : x = y := Option.some.inj (r.abs.symm.trans q.abs)
theorem Vals.inj : ∀ {xs ys : List V} {us : List Value}, Vals xs us → Vals ys us → xs = ys
  | _, _, _, .nil, .nil => rfl
  | _, _, _, .cons r t, .cons r' t' => by rw [r.inj r', Vals.inj t t']
section
variable {X : Cx} {pins : List (Addr × Obj)} {σ : St} {H : Hp} {s : Shared} {a : Addr} {xs ys : List V}
theorem SqL.of {K : PySem.W.Frag} (h : H a = some (.lst xs)) : SqL K H a xs := .inl (.inl h)
theorem SqT.of {K : PySem.W.Frag} (h : H a = some (.tup xs)) : SqT K H a xs := .inl (.inl h)
theorem Inv.list (I : Inv X pins σ H s) (h : SqL X.K H a xs) : ∃ its : List Value, Vals xs its ∧ PlainL s.heap a its.toArray ∧ xs.length ≤ sizeLine := by
  rcases h with h | ⟨o, its, n, hk, hc, hd, hs, hz, r⟩
  · obtain ⟨z, its, n, r, e⟩ := h.ok I.hok
    exact ⟨its, r, ⟨_, n, e, rfl, rfl, rfl⟩, z⟩
  · refine ⟨its.toList, r, ⟨o, n, I.kIn a o hk, hc, hd, by simpa using hs⟩, ?_⟩
    have e := r.length
    simp only [Array.length_toList] at e
    omega
theorem Inv.tuple (I : Inv X pins σ H s) (h : SqT X.K H a xs) : ∃ its : List Value, Vals xs its ∧ IsTup s.heap a its.toArray ∧ xs.length ≤ sizeLine := by
  rcases h with h | ⟨o, its, n, hk, hc, hs, hz, r⟩
  · obtain ⟨z, its, r, p⟩ := h.ok I.hok
    exact ⟨its, r, p, z⟩
  · refine ⟨its.toList, r, ⟨o, I.kIn a o hk, hc, n, by simpa using hs⟩, ?_⟩
    have e := r.length
    simp only [Array.length_toList] at e
    omega
theorem Inv.list_inj (I : Inv X pins σ H s) (h : SqL X.K H a xs) (h' : SqL X.K H a ys) : xs = ys := by
  obtain ⟨its, r, ⟨o, n, e, _, _, d⟩, _⟩ := I.list h
  obtain ⟨its', r', ⟨o', n', e', _, _, d'⟩, _⟩ := I.list h'
  rw [e] at e'; cases e'
  rw [d] at d'
  injection d' with d1 _
  have : its = its' := by simpa using congrArg Array.toList d1
  subst this
  exact r.inj r'
end
abbrev Cx.wish (X : Cx) (E : Value → Shared → Prop) : Cx := { X with xe := E }
abbrev Cx.nox (X : Cx) : Cx := X.wish fun _ _ => False
theorem Cx.Ok.wish {X : Cx} (ok : X.Ok) (E : Value → Shared → Prop) : (X.wish E).Ok :=
  ⟨ok.mod, ok.kind, ok.glob, ok.blt, ok.above, ok.inj, ok.has, ok.cab, ok.hd, ok.frames, ok.stk, ok.exf, ok.bs, ok.bsz, ok.noex, ok.exfs, ok.funs, ok.frf⟩
theorem Cx.Ok.unwish {X : Cx} {E : Value → Shared → Prop} (ok : (X.wish E).Ok) : X.Ok :=
  ⟨ok.mod, ok.kind, ok.glob, ok.blt, ok.above, ok.inj, ok.has, ok.cab, ok.hd, ok.frames, ok.stk, ok.exf, ok.bs, ok.bsz, ok.noex, ok.exfs, ok.funs, ok.frf⟩
section
variable {X : Cx} {pins : List (Addr × Obj)} {σ : St} {H : Hp} {s : Shared} {E : Value → Shared → Prop}
theorem Inv.wish (I : Inv X pins σ H s) (E : Value → Shared → Prop) : Inv (X.wish E) pins σ H s := ⟨I.ok.wish E, I.os, I.bare, I.base, I.loc, I.cell, I.free, I.freeC, I.pin, I.hok, I.len⟩
theorem Inv.unwish (I : Inv (X.wish E) pins σ H s) : Inv X pins σ H s := ⟨I.ok.unwish, I.os, I.bare, I.base, I.loc, I.cell, I.free, I.freeC, I.pin, I.hok, I.len⟩
theorem SP.unwish {D : Ends} {f : Flow} {s' : Shared} (h : SP (X.wish E) pins D f s') : SP X pins D f s' := by
  cases f with
  | next => obtain ⟨σ', H', I, q⟩ := h; exact ⟨σ', H', I.unwish, q⟩
  | brk => obtain ⟨σ', H', I, q⟩ := h; exact ⟨σ', H', I.unwish, q⟩
  | cont => obtain ⟨σ', H', I, q⟩ := h; exact ⟨σ', H', I.unwish, q⟩
  | ret u => obtain ⟨v, σ', H', I, r, q⟩ := h; exact ⟨v, σ', H', I.unwish, r, q⟩
theorem PE.nox {e : Expr} {t : TE} (h : PE X.nox e t) : PE X e t := fun pins s σ H Q I hw =>
  wpAny_mono (h pins s σ H Q (I.wish _) hw) (fun _ _ ⟨v, H', I', r, q⟩ => ⟨v, H', I'.unwish, r, q⟩) fun _ _ z => False.elim z
theorem PT.nox {e : Expr} {t : TT} (h : PT X.nox e t) : PT X e t := fun pins s σ H Q I hw =>
  wpAny_mono (h pins s σ H Q (I.wish _) hw) (fun _ _ ⟨H', I', q⟩ => ⟨H', I'.unwish, q⟩) fun _ _ z => False.elim z
theorem PSs.nox {st : List Stmt} {t : TS} (h : PSs X.nox st t) : PSs X st t := fun pins s σ H D I hw =>
  wpAny_mono (h pins s σ H D (I.wish _) hw) (fun _ _ q => q.unwish) fun _ _ z => False.elim z
end
section
variable {X : Cx} {st : Stmt} {rest : List Stmt} {t u : TS} {e : Expr} {te : TE} {pos : Pos}
def tNext : TS := fun D σ H => D.nx σ H
def tSeq (t u : TS) : TS := fun D σ H => t { D with nx := u D } σ H
theorem pss_nil : PSs X [] tNext := fun _ _ σ H _ I h => wpAny_execs_nil ⟨σ, H, I, h⟩
theorem pss_cons (h1 : PS X st t) (h2 : PSs X rest u) : PSs X (st :: rest) (tSeq t u) := by
  intro pins s σ H D I h
  refine wpAny_execs_cons (thn (h1 pins s σ H { D with nx := u D } I h) fun f s1 q => ?_)
  cases f with
  | next =>
    obtain ⟨σ', H', I', q⟩ := q
    exact h2 pins s1 σ' H' D I' q
  | ret v => exact q
  | brk => exact q
  | cont => exact q
theorem pss_one (h1 : PS X st t) : PSs X [st] t := by
  intro pins s σ H D I h
  refine wpAny_execs_cons (thn (h1 pins s σ H D I h) fun f s1 q => ?_)
  cases f with
  | next => exact wpAny_execs_nil q
  | ret v => exact q
  | brk => exact q
  | cont => exact q
def tRet (te : TE) : TS := fun D σ H => te σ H D.rt
theorem ps_ret (he : PE X e te) : PS X (.Return (some e) pos) (tRet te) := by
  intro pins s σ H D I h
  exact wpAny_Return_some (thn (he pins s σ H _ I h) fun v s1 ⟨x, H1, I1, r1, q1⟩ => ⟨x, σ, H1, I1, r1, q1⟩)
def tIfS (c : TT) (t u : TS) : TS := fun D σ H => c σ H fun b H1 => if b = true then t D σ H1 else u D σ H1
theorem ps_if {c : Expr} {a b : List Stmt} {tc : TT} (hc : PT X c tc) (ha : PSs X a t) (hb : PSs X b u) : PS X (.If c a b pos) (tIfS tc t u) := by
  intro pins s σ H D I h
  refine wpAny_If (thn (hc pins s σ H _ I h) fun d s1 ⟨H1, I1, q1⟩ => ?_)
  cases d with
  | true => exact ha pins s1 σ H1 D I1 q1
  | false => exact hb pins s1 σ H1 D I1 q1
end
abbrev TG := V → St → Hp → (St → Hp → Prop) → Prop
abbrev TGs := List V → St → Hp → (St → Hp → Prop) → Prop
def PG (X : Cx) (target : Expr) (t : TG) : Prop :=
  ∀ (pins : List (Addr × Obj)) (s : Shared) (σ : St) (H : Hp) (v : V) (u : Value) (Q : St → Hp → Prop), Inv X pins σ H s → RelV v u → t v σ H Q →
    wpAny (model X.prog X.w) X.A (assign target X.env u) (fun _ s' => ∃ σ' H', Inv X pins σ' H' s' ∧ Q σ' H') X.xe s
def PGs (X : Cx) (ts : List Expr) (t : TGs) : Prop :=
  ∀ (pins : List (Addr × Obj)) (s : Shared) (σ : St) (H : Hp) (vs : List V) (us : List Value) (Q : St → Hp → Prop), Inv X pins σ H s → Vals vs us → t vs σ H Q →
    wpAny (model X.prog X.w) X.A (assignInOrder ((assignEach ts X.env).map (·.2)) us) (fun _ s' => ∃ σ' H', Inv X pins σ' H' s' ∧ Q σ' H') X.xe s
abbrev TSet := V → V → V → Hp → (Hp → Prop) → Prop
def PSet (X : Cx) (t : TSet) : Prop :=
  ∀ (pins : List (Addr × Obj)) (s : Shared) (σ : St) (H : Hp) (o i v : V) (ov iv u : Value) (Q : Hp → Prop), Inv X pins σ H s → RelV o ov → RelV i iv → RelV v u → t o i v H Q →
    wpAny (model X.prog X.w) X.A (setItem ov iv u) (fun _ s' => ∃ H', Inv X pins σ H' s' ∧ Q H') X.xe s
section
variable {X : Cx} {pos : Pos}
def gName (i : Nat) : TG := fun v σ H Q => Q (σ.set i (some v)) H
theorem pg_name {i : Nat} {x : Str} (hN : X.N.Nodup) (hi : X.N[i]? = some x) (hx : Loc X.env.scope x) (hf : X.fn x = true ∨ X.env.scope.names.lookup x = some .local := by first | exact .inl rfl | exact .inr rfl | assumption) : PG X (.Name x pos) (gName i) := by
  intro pins s σ H v u Q I r h
  exact wpAny_assign_Name (store_ok I hN hi hx r (fun s' I' => ⟨_, H, I', h⟩) hf)
def gNil : TGs := fun vs σ H Q => vs = [] ∧ Q σ H
def gCons (t : TG) (u : TGs) : TGs := fun vs σ H Q => ∃ v r, vs = v :: r ∧ t v σ H fun σ' H' => u r σ' H' Q
theorem pgs_nil : PGs X [] gNil := by
  intro pins s σ H vs us Q I r h
  obtain ⟨e, h⟩ := h
  subst e
  cases r
  exact assignInOrder_nil ⟨σ, H, I, h⟩
theorem pgs_cons {e : Expr} {es : List Expr} {t : TG} {u : TGs} (h1 : PG X e t) (h2 : PGs X es u)
    (hs : (assignEach (e :: es) X.env).map (·.2) = assign e X.env :: (assignEach es X.env).map (·.2) := by rfl) : PGs X (e :: es) (gCons t u) := by
  intro pins s σ H vs us Q I r h
  obtain ⟨v, vr, e1, h⟩ := h
  subst e1
  cases r with
  | cons r rr =>
    rw [hs]
    refine assignInOrder_cons (thn (h1 pins s σ H _ _ _ I r h) fun _ s1 ⟨σ1, H1, I1, q1⟩ => ?_)
    exact h2 pins s1 σ1 H1 _ _ Q I1 rr q1
def gTup (K : PySem.W.Frag) (n : Nat) (t : TGs) : TG := fun v σ H Q => ∃ a xs, v = .ref a ∧ SqT K H a xs ∧ xs.length = n ∧ t xs σ H Q
theorem pg_tup {es : List Expr} {k : Nat} {t : TGs} {n : Nat} (hc : X.calm = true) (h : PGs X es t)
    (hn : (assignEach es X.env).length = n := by rfl) (hst : (assignEach es X.env).findIdx? (·.1) = none := by rfl) : PG X (.Tuple es k pos) (gTup X.K n t) := by
  intro pins s σ H v u Q I r hw
  obtain ⟨a, xs, e1, hq, hl, hw⟩ := hw
  subst e1
  cases r
  obtain ⟨its, rv, ht, hz⟩ := I.tuple hq
  refine assign_Tuple_tuple (I.ok.hd hc) ht (by simp [hn, ← hl, rv.length]) hst fun h' hx => ?_
  have I1 : Inv X pins σ H { s with heap := h' } := I.kept (t' := s.toks) fun b o e => hx b o (Nat.ne_of_lt (Heap.lt_size e)) e
  exact h pins _ σ H xs _ Q I1 (by simpa using rv) hw
def gSub (to ti : TE) (t : TSet) : TG := fun v σ H Q => to σ H fun o H1 => ti σ H1 fun i H2 => t o i v H2 fun H3 => Q σ H3
theorem pg_sub {o i : Expr} {to ti : TE} {t : TSet} (ho : PE X o to) (hi : PE X i ti) (hs : PSet X t)
    (ha : ∀ v, assign (.Subscript o i pos) X.env v = (do
      let ov ← holding [v] (eval o X.env)
      let iv ← holding [v, ov] (eval i X.env)
      standAt pos
      holding [v, ov, iv] (setItem ov iv v)
      release [v, ov, iv] []) := by intro _; rfl) : PG X (.Subscript o i pos) (gSub to ti t) := by
  intro pins s σ H v u Q I r h
  rw [ha]
  refine wpAny_bind (wpAny_holding (thn (ho pins s σ H _ I h) fun ov s1 ⟨x, H1, I1, r1, q1⟩ => ?_))
  refine wpAny_bind (wpAny_holding (thn (hi pins s1 σ H1 _ I1 q1) fun iv s2 ⟨y, H2, I2, r2, q2⟩ => ?_))
  refine wpAny_bind (wpAny_standAt (wpAny_bind (wpAny_holding (thn (hs pins s2 σ H2 x y v ov iv u _ I2 r1 r2 r q2) fun _ s3 ⟨H3, I3, q3⟩ => ?_))))
  exact wpAny_release ⟨σ, H3, I3, q3⟩
def tAsg (te : TE) (g : TG) : TS := fun D σ H => te σ H fun x H1 => g x σ H1 D.nx
theorem ps_asg {tg e : Expr} {te : TE} {g : TG} (he : PE X e te) (hg : PG X tg g) (hs : swapsWithSole [tg] e pos.line X.env = pure false := by rfl) (hw : swappedStores [tg] e X.env = pure none := by rfl)
    (h1 : (assignEach [tg] X.env).map (·.2) = [assign tg X.env] := by rfl) : PS X (.Assign [tg] e pos) (tAsg te g) := by
  intro pins s σ H D I h
  refine wpAny_Assign_stores (thn (he pins s σ H _ I h) fun v s1 ⟨x, H1, I1, r1, q1⟩ => ?_) hs hw
  rw [h1]
  exact thn (hg pins s1 σ H1 x v _ I1 r1 q1) fun _ s2 q => q
theorem ps_set {i : Nat} {x : Str} {e : Expr} {te : TE} {pos' : Pos} (hN : X.N.Nodup) (hi : X.N[i]? = some x) (hx : Loc X.env.scope x) (he : PE X e te) (hs : swapsWith e (some (.Name x pos')) pos.line X.env = pure false := by rfl) (hf : X.fn x = true ∨ X.env.scope.names.lookup x = some .local := by first | exact .inl rfl | exact .inr rfl | assumption) :
    PS X (.Assign [.Name x pos'] e pos) (tAsg te (gName i)) := by
  intro pins s σ H D I h
  refine wpAny_Assign_Name (thn (he pins s σ H _ I h) fun v s1 ⟨y, H1, I1, r1, q1⟩ => ?_) hs
  exact store_ok I1 hN hi hx r1 (fun s2 I2 => ⟨_, H1, I2, q1⟩) hf
end
section
variable {X : Cx} {pos : Pos}
end
structure It where
  go : Nat → Hp → Prop
  yld : Nat → Hp → V → Hp → Prop
  stop : Nat → Hp → Prop
def FpOk (X : Cx) (pins : List (Addr × Obj)) (H : Hp) (b : Addr) : Prop :=
  H b = none ∧ b ≠ X.env.locals ∧ b ∉ X.fs ∧ (b ∈ X.ex ∨ X.s_0.heap.objs.size ≤ b) ∧ (∀ x c, X.env.cells.lookup x = some c → c ≠ b) ∧ ∀ p ∈ X.pn ++ pins, p.1 ≠ b
theorem Inv.fpOk {X : Cx} {pins : List (Addr × Obj)} {σ : St} {H H' : Hp} {s : Shared} {b : Addr} (I : Inv X pins σ H s) (hb : s.heap.objs.size ≤ b) (hn : H' b = none) : FpOk X pins H' b := by
  refine ⟨hn, Nat.ne_of_gt (Nat.lt_of_lt_of_le I.lt hb), I.nofs hb, .inr (Nat.le_trans I.sz hb), fun x c e z => ?_, fun p hp z => ?_⟩
  · obtain ⟨v, q⟩ := I.cell x c e
    exact absurd (Nat.lt_of_lt_of_le q.lt (by rw [z]; exact hb)) (Nat.lt_irrefl _)
  · exact absurd (Nat.lt_of_lt_of_le (Heap.lt_size (I.pin p hp).1) (by rw [z]; exact hb)) (Nat.lt_irrefl _)
structure Turn (P : Program) (w : World) (K : PySem.W.Frag) (tg : Expr) (J : It) (fp : List Addr) (it : Addr) (tn : Nat → Heap → Prop) : Prop where
  mem : it ∈ fp
  obj : ∀ i h, tn i h → ∀ b ∈ fp, ∃ o, h.get? b = some o ∧ ∀ v, o.data ≠ .cell v
  keep : ∀ i h h', tn i h → (∀ b ∈ fp, ∀ o, h.get? b = some o → h'.get? b = some o) → tn i h'
  item : ∀ (X : Cx), X.prog = P → X.w = w → X.K = K → X.calm = true → ∀ (i : Nat) (pins : List (Addr × Obj)) (s : Shared) (σ : St) (H : Hp) (E : Value → Shared → Prop), Inv X pins σ H s → (∀ b ∈ fp, FpOk X pins H b) → tn i s.heap → J.go i H →
    wpAny (model P w) X.A (pyNext (.ref it)) (fun r s1 => ∃ u, r = some u ∧
      wpAny (model P w) X.A (letOwnedTupleGo tg (.ref it) u) (fun _ s2 => ∃ x H', Inv X pins σ H' s2 ∧ RelV x u ∧ J.yld i H x H' ∧ tn (i + 1) s2.heap ∧ ∀ b ∈ fp, H' b = none) E s1) E s
  done : ∀ (X : Cx), X.prog = P → X.w = w → X.K = K → X.calm = true → ∀ (i : Nat) (pins : List (Addr × Obj)) (s : Shared) (σ : St) (H : Hp) (E : Value → Shared → Prop), Inv X pins σ H s → (∀ b ∈ fp, FpOk X pins H b) → tn i s.heap → J.stop i H →
    wpAny (model P w) X.A (pyNext (.ref it)) (fun r s1 => r = none ∧ Inv X pins σ H s1) E s
  self : ∀ (A : Around) (i : Nat) (s : Shared) (Q : Value → Shared → Prop) (E : Value → Shared → Prop), tn i s.heap → Q (.ref it) s → wpAny (model P w) A (pyIter (.ref it)) Q E s
abbrev TI := St → Hp → (It → Hp → Prop) → Prop
def PIE (X : Cx) (pins : List (Addr × Obj)) (σ : St) (tg : Expr) (R : It → Hp → Prop) (itv : Value) (s2 : Shared) : Prop :=
  ∃ (it : Addr) (fp : List Addr) (tn : Nat → Heap → Prop) (J : It) (H' : Hp), itv = .ref it ∧ Inv X pins σ H' s2 ∧ Turn X.prog X.w X.K tg J fp it tn ∧ tn 0 s2.heap ∧ (∀ b ∈ fp, FpOk X pins H' b) ∧ R J H'
def PI (X : Cx) (tg iter : Expr) (wi : TI) : Prop :=
  ∀ (pins : List (Addr × Obj)) (s : Shared) (σ : St) (H : Hp) (R : It → Hp → Prop), Inv X pins σ H s → wi σ H R →
    wpAny (model X.prog X.w) X.A (eval iter X.env) (fun v s1 => wpAny (model X.prog X.w) X.A (pyIter v) (PIE X pins σ tg R) X.xe s1) X.xe s
theorem go_of {M : Model} {A : Around} {E : Value → Shared → Prop} {s : Shared} {tg : Expr} {it : Addr} {u : Value} {o : Obj} {n : String} {vs : Array Value} {Q : Unit → Shared → Prop} (ho : s.heap.get? it = some o) (hc : o.cls = .type n) (hd : o.data = .fields vs)
    (hn : ["enumerate", "zip", "dict_itemiterator", "dict_reverseitemiterator", "odict_iterator", "itertools.zip_longest", "itertools.pairwise"].contains n = false) (hQ : Q () s) : wpAny M A (letOwnedTupleGo tg (.ref it) u) Q E s := by
  unfold letOwnedTupleGo
  cases tg <;> first
    | exact wpAny_pure hQ
    | (cases u <;> first
        | exact wpAny_pure hQ
        | (refine wpAny_bind (wpAny_load ho ?_)
           rw [hc, hd]
           show wpAny M A (if (["enumerate", "zip", "dict_itemiterator", "dict_reverseitemiterator", "odict_iterator", "itertools.zip_longest", "itertools.pairwise"].contains n && vs[0]? == some (rawInt _)) = true then _ else _) Q E s
           rw [if_neg (by intro h; rw [hn, Bool.false_and] at h; cases h)]
           exact wpAny_pure hQ))
def Itl (K : PySem.W.Frag) (a : Addr) : It :=
  ⟨fun i H => ∃ xs x, SqL K H a xs ∧ xs[i]? = some x, fun i H x H' => H' = H ∧ ∀ xs, SqL K H a xs → xs[i]? = some x, fun i H => ∃ xs, SqL K H a xs ∧ xs.length ≤ i⟩
def Itr (lo : Int) (n : Nat) : It := ⟨fun i _ => i < n, fun i H x H' => H' = H ∧ x = .int (lo + i), fun i _ => n ≤ i⟩
theorem turn_list {P : Program} {w : World} {K : PySem.W.Frag} {tg : Expr} (a it : Addr) : Turn P w K tg (Itl K a) [it] it (fun i h => h.IsListIter it a i) where
  mem := by simp
  obj := fun i h st b hb => by
    have e : b = it := by simpa using hb
    subst e
    obtain ⟨o, e, c, d⟩ := st
    exact ⟨o, e, fun v z => by rw [d] at z; cases z⟩
  keep := fun i h h' st k => st.at fun o e => k it (by simp) o e
  item := by
    intro X hP hw hK hc i pins s σ H E I hf st hg
    subst hP hw hK
    obtain ⟨xs, x, hq, hx⟩ := hg
    obtain ⟨its, rv, p, hz⟩ := I.list hq
    obtain ⟨u, hu, ru⟩ := rv.get hx
    obtain ⟨f0, f1, f2, f3, f4, f5⟩ := hf it (by simp)
    refine wpAny_pyNext_list_item st p.isList (x := u) (by simpa using hu) fun h' st' sb => ?_
    have I1 : Inv X pins σ H { s with heap := h' } := I.turned (t' := s.toks) (fun b o hb e => (sb.2 b hb).trans e) f0 f1 f3 f4 f5
    obtain ⟨o, e, c, d⟩ := id st'
    exact ⟨u, rfl, go_of (s := { s with heap := h' }) e c d (by decide) ⟨x, H, I1, ru, ⟨rfl, fun ys hy => by rw [I.list_inj hy hq]; exact hx⟩, st', fun b hb => (hf b hb).1⟩⟩
  done := by
    intro X hP hw hK hc i pins s σ H E I hf st hg
    subst hP hw hK
    obtain ⟨xs, hq, hx⟩ := hg
    obtain ⟨its, rv, p, hz⟩ := I.list hq
    obtain ⟨f0, f1, f2, f3, f4, f5⟩ := hf it (by simp)
    have hl := rv.length
    exact wpAny_pyNext_list_end (I.ok.hd hc) st p.isList (by simp; omega) fun h' eb => ⟨rfl, I.turned (t' := s.toks) (fun b o hb e => eb b o hb e) f0 f1 f3 f4 f5⟩
  self := fun _ _ _ _ _ st h => wpAny_pyIter_listiter st h
theorem turn_range {P : Program} {w : World} {K : PySem.W.Frag} {tg : Expr} (it : Addr) (lo : Int) (n : Nat) : Turn P w K tg (Itr lo n) [it] it (fun i h => IsRangeIter h it (lo + (i : Nat) * 1) ((n : Int) - (i : Nat)) 1) where
  mem := by simp
  obj := fun i h st b hb => by
    have e : b = it := by simpa using hb
    subst e
    exact ⟨_, st, fun v z => by
      have z' : Data.fields _ = Data.cell v := z
      cases z'⟩
  keep := fun i h h' st k => k it (by simp) _ st
  item := by
    intro X hP hw hK hc i pins s σ H E I hf st hg
    subst hP hw hK
    obtain ⟨f0, f1, f2, f3, f4, f5⟩ := hf it (by simp)
    have W := Walks.range (prog := X.prog) (w := X.w) (I.ok.hd hc) it lo 1 n
    refine W.item i s _ _ hg st fun v h' tk hv st' kk => ?_
    obtain ⟨t, rfl⟩ := hv
    have I1 : Inv X pins σ H { s with heap := h', toks := tk } := I.turned (fun b o hb e => kk b o (by simpa using hb) e) f0 f1 f3 f4 f5
    refine ⟨_, rfl, go_of (s := { s with heap := h', toks := tk }) (n := "range_iterator") st' rfl rfl (by decide) ⟨.int (lo + i), H, I1, ⟨t, ?_⟩, ⟨rfl, rfl⟩, st', fun b hb => (hf b hb).1⟩⟩
    rw [Int.mul_one]
  done := by
    intro X hP hw hK hc i pins s σ H E I hf st hg
    subst hP hw hK
    obtain ⟨f0, f1, f2, f3, f4, f5⟩ := hf it (by simp)
    exact wpAny_pyNext_range_end (I.ok.hd hc) st (by have : n ≤ i := hg; omega) fun h' eb => ⟨rfl, I.turned (t' := s.toks) (fun b o hb e => eb b o hb e) f0 f1 f3 f4 f5⟩
  self := fun _ _ _ _ _ st h => wpAny_pyIter_rangeiter st h
end L2
namespace L2
open PySem PySem.Spec PyProof.Rows
section
variable {X : Cx} {tg : Expr}
def iList (K : PySem.W.Frag) (tl : TE) : TI := fun σ H R => tl σ H fun x H1 => ∃ a, x = .ref a ∧ (∃ xs, SqL K H1 a xs) ∧ R (Itl K a) H1
theorem pi_list {l : Expr} {tl : TE} (hl : PE X l tl) : PI X tg l (iList X.K tl) := by
  intro pins s σ H R I h
  refine thn (hl pins s σ H _ I h) fun v s1 ⟨x, H1, I1, r1, q1⟩ => ?_
  obtain ⟨a, e, ⟨xs, hq⟩, q⟩ := q1
  subst e
  cases r1
  obtain ⟨its, rv, p, hz⟩ := I1.list hq
  refine wpAny_pyIter_list p.isList ?_
  refine ⟨s1.heap.objs.size, [s1.heap.objs.size], _, _, H1, rfl, I1.kept (t' := s1.toks) fun b o e => Heap.get?_push_of_some _ e, turn_list a _, ⟨_, Heap.get?_push_size _ rfl, rfl, rfl⟩, fun b hb => ?_, q⟩
  have e : b = s1.heap.objs.size := by simpa using hb
  subst e
  exact I1.fpOk (Nat.le_refl _) (I1.hok.fresh (Nat.le_refl _))
theorem range_it {pins : List (Addr × Obj)} {σ : St} {H : Hp} {s : Shared} {R : It → Hp → Prop} {E : Value → Shared → Prop} {lo hi : Int} {t u v : Tok} {tk : Nat} (I : Inv X pins σ H s) (h1 : -(2 ^ 62) ≤ lo) (h2 : lo < 2 ^ 62) (h3 : -(2 ^ 62) ≤ hi) (h4 : hi < 2 ^ 62)
    (q : R (Itr lo (hi - lo).toNat) H) : wpAny (model X.prog X.w) X.A (pyIter (.ref s.heap.objs.size)) (PIE X pins σ tg R) E { s with heap := s.heap.push { cls := .type "range", data := .fields #[.int lo t, .int hi u, .int 1 v] }, toks := tk } := by
  refine wpAny_pyIter_range (IsRange.new ..) (small_one h1 h2 h3 h4) ?_
  have I1 : Inv X pins σ H { s with heap := s.heap.push { cls := .type "range", data := .fields #[.int lo t, .int hi u, .int 1 v] }, toks := tk } := I.kept fun b o e => Heap.get?_push_of_some _ e
  refine ⟨(s.heap.push { cls := .type "range", data := .fields #[.int lo t, .int hi u, .int 1 v] }).objs.size, [(s.heap.push { cls := .type "range", data := .fields #[.int lo t, .int hi u, .int 1 v] }).objs.size], _, _, H, rfl,
    I1.kept (t' := tk) fun b o e => Heap.get?_push_of_some _ e, turn_range _ lo (hi - lo).toNat, ?_, fun b hb => ?_, q⟩
  · have e1 : lo + ((0 : Nat) : Int) * 1 = lo := by simp
    have e2 : (((hi - lo).toNat : Nat) : Int) - ((0 : Nat) : Int) = Builtin.Range.rangeSize lo hi 1 := by rw [rangeSize_one]; split <;> omega
    show IsRangeIter _ _ (lo + ((0 : Nat) : Int) * 1) ((((hi - lo).toNat : Nat) : Int) - ((0 : Nat) : Int)) 1
    rw [e1, e2]
    exact Heap.get?_push_size _ rfl
  · have e : b = (s.heap.push { cls := .type "range", data := .fields #[.int lo t, .int hi u, .int 1 v] }).objs.size := by simpa using hb
    subst e
    exact I1.fpOk (Nat.le_refl _) (I1.hok.fresh (Nat.le_refl _))
def iRng1 (ta : TA) : TI := fun σ H R => ta σ H fun vs H1 => ∃ j : Int, vs = [.int j] ∧ -(2 ^ 62) ≤ j ∧ j < 2 ^ 62 ∧ R (Itr 0 j.toNat) H1
theorem pi_range1 {a : Expr} {ta : TA} {p pos : Pos} (hg : Gl X "range") (hm : X.mg "range" = none) (ha : PA X [a] ta) (hs : starEach [a] X.env = [(false, eval a X.env)] := by rfl) : PI X tg (.Call (.Name "range" p) [a] [] pos) (iRng1 ta) := by
  intro pins s σ H R I h
  refine Call_ (ld_blt I hg hm boot_range (PyProof.Rows.callWith_type1 (thn (ha pos pins s σ H _ I h) fun us s1 ⟨vs, H1, I1, r1, q1⟩ => ?_) hs rfl))
  obtain ⟨j, e, q1, q2, q⟩ := q1
  subst e
  cases r1 with
  | cons r rr =>
    cases rr
    obtain ⟨t, rfl⟩ := r
    exact call_range_1 (range_it I1 (by omega) (by omega) q1 q2 (by simpa using q))
def tFor (wi : TI) (g : TG) (tb : TS) : TS := fun D σ H => wi σ H fun J H1 => ∃ W : Nat → Nat → St → Hp → Prop, (∃ m, W 0 m σ H1) ∧ ∀ i m σ H, W i m σ H →
  (J.stop i H ∧ D.nx σ H) ∨ (J.go i H ∧ ∃ N : St → Hp → Prop, (∀ σ' H', N σ' H' → ∃ m', m' < m ∧ W (i + 1) m' σ' H') ∧ ∀ x H', J.yld i H x H' → g x σ H' fun σ2 H2 => tb { D with nx := N, ct := N, bk := D.nx } σ2 H2)
def pinsAt (fp : List Addr) (h : Heap) : List (Addr × Obj) := fp.filterMap fun b => (h.get? b).map fun o => (b, o)
theorem mem_pinsAt {fp : List Addr} {h : Heap} {b : Addr} {o : Obj} (hb : b ∈ fp) (e : h.get? b = some o) : (b, o) ∈ pinsAt fp h := List.mem_filterMap.mpr ⟨b, hb, by rw [e]; rfl⟩
theorem of_pinsAt {fp : List Addr} {h : Heap} {p : Addr × Obj} (hp : p ∈ pinsAt fp h) : p.1 ∈ fp ∧ h.get? p.1 = some p.2 := by
  obtain ⟨b, hb, e⟩ := List.mem_filterMap.mp hp
  cases q : h.get? b with
  | none => rw [q] at e; cases e
  | some o =>
    rw [q] at e
    have e' : (b, o) = p := Option.some.inj e
    subst e'
    exact ⟨hb, q⟩
theorem Inv.pinned {pins : List (Addr × Obj)} {σ : St} {H : Hp} {s : Shared} {fp : List Addr} (I : Inv X pins σ H s) (hf : ∀ b ∈ fp, FpOk X pins H b) (ho : ∀ b ∈ fp, ∃ o, s.heap.get? b = some o ∧ ∀ v, o.data ≠ .cell v) : Inv X (pins ++ pinsAt fp s.heap) σ H s :=
  I.pins_of fun p hp => (List.mem_append.mp hp).elim (fun z => I.pin p (List.mem_append_right _ z)) fun z => by
    obtain ⟨hb, e⟩ := of_pinsAt z
    obtain ⟨f0, f1, f2, _⟩ := hf p.1 hb
    obtain ⟨o, e', d⟩ := ho p.1 hb
    rw [e] at e'; cases e'
    exact ⟨e, f0, f1, f2, d⟩
theorem Inv.unpinned {pins pl : List (Addr × Obj)} {σ : St} {H : Hp} {s : Shared} (I : Inv X (pins ++ pl) σ H s) : Inv X pins σ H s := I.pins_of fun p hp => I.pin p (List.mem_append_right _ (List.mem_append_left _ hp))
theorem ps_for {iter : Expr} {body : List Stmt} {wi : TI} {g : TG} {tb : TS} {pos : Pos} (hp : PassesOwn (model X.prog X.w) X.A X.env X.xe) (hc : X.calm = true) (hi : PI X tg iter wi) (hg : PG X tg g) (hb : PSs X body tb)
    (hs : ∀ x, foldedSetIterable iter X.env x = pure x := by intro _; rfl) : PS X (.For tg iter body [] pos) (tFor wi g tb) := by
  intro pins s σ H D I h
  refine wpAny_For (thn (hi pins s σ H _ I h) fun v s1 h1 => thn h1 fun itv s2 h2 => ?_) hs
  obtain ⟨it, fp, tn, J, H2, e, I2, T, st2, f2, W, ⟨m0, w0⟩, turn⟩ := h2
  subst e
  -- what stays true of the iterator's objects through the loop
  have stat : ∀ {H' : Hp}, (∀ b ∈ fp, H' b = none) → ∀ b ∈ fp, FpOk X pins H' b := fun hn b hb => ⟨hn b hb, (f2 b hb).2⟩
  refine codeAny_forLoop_any (fun n s' => ∃ i σ' H', Inv X pins σ' H' s' ∧ tn i s'.heap ∧ (∀ b ∈ fp, H' b = none) ∧ W i n σ' H') ?_ m0 ⟨0, σ, H2, I2, st2, fun b hb => (f2 b hb).1, w0⟩
  rintro n s3 ⟨i, σ3, H3, I3, st3, fr3, w3⟩
  rcases turn i n σ3 H3 w3 with ⟨stop, qn⟩ | ⟨go, N, hN, step⟩
  · refine wpAny_passesOwn hp (thn (T.done X rfl rfl rfl hc i pins s3 σ3 H3 X.xe I3 (stat fr3) st3 stop) fun r s4 ⟨hr, I4⟩ => ?_)
    subst hr
    exact wpAny_execs_nil ⟨σ3, H3, I4, qn⟩
  · refine wpAny_passesOwn hp (thn (T.item X rfl rfl rfl hc i pins s3 σ3 H3 X.xe I3 (stat fr3) st3 go) fun r s4 ⟨u, hr, h4⟩ => ?_)
    subst hr
    refine wpAny_passesOwn hp (thn h4 fun _ s5 ⟨x, H5, I5, r5, y5, st5, fr5⟩ => ?_)
    have I5' := I5.pinned (stat fr5) (T.obj _ _ st5)
    refine wpAny_passesOwn hp (thn (hg _ s5 σ3 H5 x u _ I5' r5 (step x H5 y5)) fun _ s6 ⟨σ6, H6, I6, q6⟩ => ?_)
    refine wpAny_passesOwn hp (thn (hb _ s6 σ6 H6 _ I6 q6) fun f s7 q7 => ?_)
    have again : ∀ {σ7 : St} {H7 : Hp}, Inv X (pins ++ pinsAt fp s5.heap) σ7 H7 s7 → N σ7 H7 → ∃ m, m < n ∧ ∃ i σ' H', Inv X pins σ' H' s7 ∧ tn i s7.heap ∧ (∀ b ∈ fp, H' b = none) ∧ W i m σ' H' := fun {σ7 H7} I7 n7 => by
      obtain ⟨m', hm, w7⟩ := hN σ7 H7 n7
      refine ⟨m', hm, i + 1, σ7, H7, I7.unpinned, T.keep _ _ _ st5 fun b hb o e => (I7.pin (b, o) (List.mem_append_right _ (List.mem_append_right _ (mem_pinsAt hb e)))).1, fun b hb => ?_, w7⟩
      obtain ⟨o, e, d⟩ := T.obj _ _ st5 b hb
      exact (I7.pin (b, o) (List.mem_append_right _ (List.mem_append_right _ (mem_pinsAt hb e)))).2.1
    cases f with
    | next => obtain ⟨σ7, H7, I7, n7⟩ := q7; exact again I7 n7
    | cont => obtain ⟨σ7, H7, I7, n7⟩ := q7; exact again I7 n7
    | brk => obtain ⟨σ7, H7, I7, q7⟩ := q7; exact ⟨σ7, H7, I7.unpinned, q7⟩
    | ret v => obtain ⟨x7, σ7, H7, I7, r7, q7⟩ := q7; exact ⟨x7, σ7, H7, I7.unpinned, r7, q7⟩
end
theorem for_list {K : PySem.W.Frag} {a : Addr} {xs : List V} {g : TG} {tb : TS} {D : Ends} {σ : St} {H : Hp} (Pv : Nat → St → Hp → Prop) (h0 : Pv 0 σ H) (hl : ∀ i σ H, i ≤ xs.length → Pv i σ H → SqL K H a xs)
    (hs : ∀ i x σ H, xs[i]? = some x → Pv i σ H → g x σ H fun σ2 H2 => tb { D with nx := Pv (i + 1), ct := Pv (i + 1), bk := D.nx } σ2 H2) (hd : ∀ σ H, Pv xs.length σ H → D.nx σ H) :
    ∃ W : Nat → Nat → St → Hp → Prop, (∃ m, W 0 m σ H) ∧ ∀ i m σ H, W i m σ H →
      ((Itl K a).stop i H ∧ D.nx σ H) ∨ ((Itl K a).go i H ∧ ∃ N : St → Hp → Prop, (∀ σ' H', N σ' H' → ∃ m', m' < m ∧ W (i + 1) m' σ' H') ∧ ∀ x H', (Itl K a).yld i H x H' → g x σ H' fun σ2 H2 => tb { D with nx := N, ct := N, bk := D.nx } σ2 H2) := by
  refine ⟨fun i m σ H => m = xs.length - i ∧ i ≤ xs.length ∧ Pv i σ H, ⟨xs.length, by simp, Nat.zero_le _, h0⟩, ?_⟩
  rintro i m σ H ⟨rfl, hi, p⟩
  have q := hl i σ H hi p
  by_cases hlt : i < xs.length
  · refine .inr ⟨⟨xs, xs[i], q, by simp [hlt]⟩, Pv (i + 1), fun σ' H' p' => ⟨xs.length - (i + 1), by omega, rfl, hlt, p'⟩, fun x H' y => ?_⟩
    obtain ⟨e, y⟩ := y
    subst e
    exact hs i x σ _ (y xs q) p
  · have e : i = xs.length := by omega
    subst e
    exact .inl ⟨⟨xs, q, Nat.le_refl _⟩, hd σ H p⟩
end L2
namespace L2
open PySem PySem.Spec PyProof.Rows
abbrev R2 := V → V → Hp → VK → Prop
def OpR (X : Cx) (f : Value → Value → Sem Value) (r : R2) : Prop :=
  ∀ (pins : List (Addr × Obj)) (s : Shared) (σ : St) (H : Hp) (x y : V) (v u : Value) (Q : VK), Inv X pins σ H s → RelV x v → RelV y u → r x y H Q →
    wpAny (model X.prog X.w) X.A (f v u) (EP X pins σ Q) X.xe s
def UnR (X : Cx) (f : Value → Sem Value) (r : V → Hp → VK → Prop) : Prop :=
  ∀ (pins : List (Addr × Obj)) (s : Shared) (σ : St) (H : Hp) (x : V) (v : Value) (Q : VK), Inv X pins σ H s → RelV x v → r x H Q →
    wpAny (model X.prog X.w) X.A (f v) (EP X pins σ Q) X.xe s
def CallR (X : Cx) (f : Value) (r : List V → Hp → VK → Prop) : Prop :=
  ∀ (pins : List (Addr × Obj)) (s : Shared) (σ : St) (H : Hp) (xs : List V) (us : List Value) (Q : VK), Inv X pins σ H s → Vals xs us → r xs H Q →
    wpAny (model X.prog X.w) X.A (call f us) (EP X pins σ Q) X.xe s
def tOp (r : R2) (ta tb : TE) : TE := fun σ H Q => ta σ H fun x H1 => tb σ H1 fun y H2 => r x y H2 Q
def tUn (r : V → Hp → VK → Prop) (ta : TE) : TE := fun σ H Q => ta σ H fun x H1 => r x H1 Q
def rI (C : Int → Int → Prop) (g : Int → Int → V) : R2 := fun x y H Q => ∃ i j, x = .int i ∧ y = .int j ∧ C i j ∧ Q (g i j) H
def rI0 (g : Int → Int → V) : R2 := fun x y H Q => ∃ i j, x = .int i ∧ y = .int j ∧ Q (g i j) H
def rU (g : Int → V) : V → Hp → VK → Prop := fun x H Q => ∃ i, x = .int i ∧ Q (g i) H
section
variable {X : Cx} {a b c : Expr} {ta tb tc : TE} {pos : Pos}
theorem binT (ha : PE X a ta) (hb : PE X b tb) {pins : List (Addr × Obj)} {s : Shared} {σ : St} {H : Hp} {R : V → V → Hp → Prop} (I : Inv X pins σ H s)
    (h : ta σ H fun x H1 => tb σ H1 fun y H2 => R x y H2) {Q : Value → Shared → Prop} {f : Value → Value → Sem Value}
    (hf : ∀ v u s2 x y H2, Inv X pins σ H2 s2 → RelV x v → RelV y u → R x y H2 → wpAny (model X.prog X.w) X.A (f v u) Q X.xe s2) :
    wpAny (model X.prog X.w) X.A (eval a X.env) (fun v s₁ => wpAny (model X.prog X.w) X.A (eval b X.env) (fun u s₂ => wpAny (model X.prog X.w) X.A (f v u) Q X.xe s₂) X.xe s₁) X.xe s := by
  refine thn (ha pins s σ H _ I h) fun v s1 ⟨x, H1, I1, r1, q1⟩ => ?_
  refine thn (hb pins s1 σ H1 _ I1 q1) fun u s2 ⟨y, H2, I2, r2, q2⟩ => ?_
  exact hf v u s2 x y H2 I2 r1 r2 q2
theorem pe_op {op : Operator} {r : R2} (ho : OpR X (binaryOp op) r) (ha : PE X a ta) (hb : PE X b tb) : PE X (.BinOp a op b pos) (tOp r ta tb) := by
  intro pins s σ H Q I h
  exact wpAny_BinOp (binT ha hb I h fun v u s2 x y H2 I2 rx ry q => ho pins s2 σ H2 x y v u Q I2 rx ry q)
theorem pe_un {op : UnaryOp} {r : V → Hp → VK → Prop} (ho : UnR X (unaryOp op) r) (ha : PE X a ta) : PE X (.UnaryOp op a pos) (tUn r ta) := by
  intro pins s σ H Q I h
  exact UnaryOp_ (thn (ha pins s σ H _ I h) fun v s1 ⟨x, H1, I1, r1, q1⟩ => ho pins s1 σ H1 x v Q I1 r1 q1)
theorem opI {f : Value → Value → Sem Value} {C : Int → Int → Prop} {g : Int → Int → Int}
    (rule : ∀ (i j : Int) (t u : Tok) (s : Shared) (Q : Value → Shared → Prop) (E : Value → Shared → Prop), C i j → Q (.int (g i j) s.toks) { s with toks := s.toks + 1 } → wpAny (model X.prog X.w) X.A (f (.int i t) (.int j u)) Q E s) :
    OpR X f (rI C fun i j => .int (g i j)) := by
  intro pins s σ H x y v u Q I rx ry h
  obtain ⟨i, j, rfl, rfl, hc, q⟩ := h
  obtain ⟨t, rfl⟩ := rx
  obtain ⟨t', rfl⟩ := ry
  exact rule i j t t' s _ _ hc ⟨.int (g i j), H, I.tok _, ⟨_, rfl⟩, q⟩
theorem opI0 {f : Value → Value → Sem Value} {g : Int → Int → Int}
    (rule : ∀ (i j : Int) (t u : Tok) (s : Shared) (Q : Value → Shared → Prop) (E : Value → Shared → Prop), Q (.int (g i j) s.toks) { s with toks := s.toks + 1 } → wpAny (model X.prog X.w) X.A (f (.int i t) (.int j u)) Q E s) :
    OpR X f (rI0 fun i j => .int (g i j)) := by
  intro pins s σ H x y v u Q I rx ry h
  obtain ⟨i, j, rfl, rfl, q⟩ := h
  obtain ⟨t, rfl⟩ := rx
  obtain ⟨t', rfl⟩ := ry
  exact rule i j t t' s _ _ ⟨.int (g i j), H, I.tok _, ⟨_, rfl⟩, q⟩
theorem opB0 {f : Value → Value → Sem Value} {g : Int → Int → Bool}
    (rule : ∀ (i j : Int) (t u : Tok) (s : Shared) (Q : Value → Shared → Prop) (E : Value → Shared → Prop), Q (.bool (g i j)) s → wpAny (model X.prog X.w) X.A (f (.int i t) (.int j u)) Q E s) :
    OpR X f (rI0 fun i j => .bl (g i j)) := by
  intro pins s σ H x y v u Q I rx ry h
  obtain ⟨i, j, rfl, rfl, q⟩ := h
  obtain ⟨t, rfl⟩ := rx
  obtain ⟨t', rfl⟩ := ry
  exact rule i j t t' s _ _ ⟨.bl (g i j), H, I, rfl, q⟩
def CDiv (i j : Int) : Prop := 0 < j ∧ j < 1073741824
def CPow (i j : Int) : Prop := 0 ≤ j ∧ j ≤ 1000000 ∧ i.natAbs < 2 ^ 64
def CMul (i j : Int) : Prop := (-(2 ^ 64) < i ∧ i < 2 ^ 64) ∨ (-(2 ^ 64) < j ∧ j < 2 ^ 64)
theorem CMul.ok {i j : Int} (h : CMul i j) : IntMulOk i j := by
  rcases h with ⟨h1, h2⟩ | ⟨h1, h2⟩
  · exact .of_left (intBits_le_64 h1 h2)
  · exact .of_right (intBits_le_64 h1 h2)
theorem two_pow_nn (k : Nat) : (0 : Int) ≤ 2 ^ k := by
  rw [two_pow_cast]
  exact Int.natCast_nonneg _
theorem op_add : OpR X (binaryOp .Add) (rI0 fun i j => .int (i + j)) := opI0 fun _ _ _ _ _ _ _ q => add_int q
theorem op_sub : OpR X (binaryOp .Sub) (rI0 fun i j => .int (i - j)) := opI0 fun _ _ _ _ _ _ _ q => sub_int q
theorem op_fdiv : OpR X (binaryOp .FloorDiv) (rI CDiv fun i j => .int (i / j)) := opI fun i j _ _ _ _ _ hc q => by
  have h1 : (0 : Int) < j := hc.1
  have h2 : j < 1073741824 := hc.2
  exact floordiv_int (by omega) (by rw [Int.fdiv_eq_ediv_of_nonneg i (by omega)]; exact q) (.inl (PyProof.noPylong_small (by omega)))
theorem op_mod : OpR X (binaryOp .Mod) (rI (fun _ j => 0 < j) fun i j => .int (i % j)) := opI fun i j _ _ _ _ _ hc q => by
  have h1 : (0 : Int) < j := hc
  exact mod_int' (by omega) (by rw [Int.fmod_eq_emod_of_nonneg i (by omega)]; exact q)
theorem op_shl : OpR X (binaryOp .LShift) (rI CPow fun i j => .int (i * 2 ^ j.toNat)) := opI fun _ _ _ _ _ _ _ hc q => lshift_int_small hc.1 hc.2.1 hc.2.2 q
theorem op_shr : OpR X (binaryOp .RShift) (rI (fun _ j => 0 ≤ j) fun i j => .int (i / 2 ^ j.toNat)) := opI fun i j _ _ _ _ _ hc q =>
  rshift_int hc (by rw [Int.fdiv_eq_ediv_of_nonneg i (two_pow_nn _)]; exact q)
theorem op_and : OpR X (binaryOp .BitAnd) (rI0 fun i j => .int (Builtin.bitAnd i j)) := opI0 fun _ _ _ _ _ _ _ q => and_int q
theorem op_or : OpR X (binaryOp .BitOr) (rI0 fun i j => .int (Builtin.bitOr i j)) := opI0 fun _ _ _ _ _ _ _ q => or_int q
theorem unI {f : Value → Sem Value} {g : Int → Int}
    (rule : ∀ (i : Int) (t : Tok) (s : Shared) (Q : Value → Shared → Prop) (E : Value → Shared → Prop), Q (.int (g i) s.toks) { s with toks := s.toks + 1 } → wpAny (model X.prog X.w) X.A (f (.int i t)) Q E s) :
    UnR X f (rU fun i => .int (g i)) := by
  intro pins s σ H x v Q I rx h
  obtain ⟨i, rfl, q⟩ := h
  obtain ⟨t, rfl⟩ := rx
  exact rule i t s _ _ ⟨.int (g i), H, I.tok _, ⟨_, rfl⟩, q⟩
theorem un_neg : UnR X (unaryOp .USub) (rU fun i => .int (-i)) := unI fun _ _ _ _ _ q => neg_int q
end
def scal : V → V → Bool
  | .non, .non => true | .non, .int _ => true | .int _, .non => true | .non, .bl _ => true | .bl _, .non => true | .non, .str _ => true | .str _, .non => true
  | .int _, .int _ => true | .bl _, .bl _ => true | .str _, .str _ => true | .byt _, .byt _ => true
  | .int _, .str _ => true | .str _, .int _ => true | .bl _, .str _ => true | .str _, .bl _ => true
  | _, _ => false
def rEq : R2 := fun x y H Q => scal x y = true ∧ Q (.bl (decide (x = y))) H
def rNe : R2 := fun x y H Q => scal x y = true ∧ Q (.bl (!decide (x = y))) H
theorem dec_int {i j : Int} : decide (V.int i = V.int j) = (i == j) := by
  rw [Bool.eq_iff_iff]
  simp
theorem dec_bl {i j : Bool} : decide (V.bl i = V.bl j) = (i == j) := by
  rw [Bool.eq_iff_iff]
  simp
theorem dec_str {i j : Str} : decide (V.str i = V.str j) = (i == j) := by
  rw [Bool.eq_iff_iff]
  simp
theorem dec_byt {i j : Array UInt8} : decide (V.byt i = V.byt j) = (i.toList == j.toList) := by
  rw [Bool.eq_iff_iff]
  cases i
  cases j
  simp
section
variable {X : Cx} {a b c : Expr} {ta tb tc : TE} {pos : Pos}
theorem fin_bl {pins : List (Addr × Obj)} {σ : St} {H : Hp} {s : Shared} {Q : VK} {k k' : Bool} (I : Inv X pins σ H s) (q : Q (.bl k) H) (e : k = k') : EP X pins σ Q (.bool k') s := by
  subst e
  exact ⟨.bl k, H, I, rfl, q⟩
theorem op_eq : OpR X (compareOp .Eq) rEq := by
  intro pins s σ H x y v u Q I rx ry h
  obtain ⟨hs, q⟩ := h
  cases x with
  | non =>
    cases rx
    cases y with
    | non => cases ry; exact PySem.EqNone.eq_none_none (fin_bl I q (by simp))
    | bl j => cases ry; exact PySem.EqNone.eq_none_bool (fin_bl I q (by simp))
    | int j => obtain ⟨t', rfl⟩ := ry; exact PySem.EqNone.eq_none_int (fin_bl I q (by simp))
    | str j => obtain ⟨t', rfl⟩ := ry; exact PySem.EqNone.eq_none_str (fin_bl I q (by simp))
    | _ => exact absurd (show false = true from hs) Bool.false_ne_true
  | bl i =>
    cases rx
    cases y with
    | non => cases ry; exact PySem.EqNone.eq_bool_none (fin_bl I q (by simp))
    | bl j => cases ry; exact eq_bool (fin_bl I q dec_bl)
    | str j => obtain ⟨t', rfl⟩ := ry; exact PySem.EqMixed.eq_bool_str (fin_bl I q (by simp))
    | _ => exact absurd (show false = true from hs) Bool.false_ne_true
  | int i =>
    obtain ⟨t, rfl⟩ := rx
    cases y with
    | non => cases ry; exact PySem.EqNone.eq_int_none (fin_bl I q (by simp))
    | int j => obtain ⟨t', rfl⟩ := ry; exact eq_int (fin_bl I q dec_int)
    | str j => obtain ⟨t', rfl⟩ := ry; exact PySem.EqMixed.eq_int_str (fin_bl I q (by simp))
    | _ => exact absurd (show false = true from hs) Bool.false_ne_true
  | str i =>
    obtain ⟨t, rfl⟩ := rx
    cases y with
    | non => cases ry; exact PySem.EqNone.eq_str_none (fin_bl I q (by simp))
    | bl j => cases ry; exact PySem.EqMixed.eq_str_bool (fin_bl I q (by simp))
    | int j => obtain ⟨t', rfl⟩ := ry; exact PySem.EqMixed.eq_str_int (fin_bl I q (by simp))
    | str j => obtain ⟨t', rfl⟩ := ry; exact eq_str (fin_bl I q dec_str)
    | _ => exact absurd (show false = true from hs) Bool.false_ne_true
  | byt i =>
    obtain ⟨t, rfl⟩ := rx
    cases y with
    | byt j => obtain ⟨t', rfl⟩ := ry; exact PySem.W.eq_bytes (fin_bl I q dec_byt)
    | _ => exact absurd (show false = true from hs) Bool.false_ne_true
  | _ => cases y <;> exact absurd (show false = true from hs) Bool.false_ne_true
theorem op_ne : OpR X (compareOp .NotEq) rNe := by
  intro pins s σ H x y v u Q I rx ry h
  obtain ⟨hs, q⟩ := h
  cases x with
  | non =>
    cases rx
    cases y with
    | non => cases ry; exact PySem.EqNone.ne_none_none (fin_bl I q (by simp))
    | bl j => cases ry; exact PySem.EqNone.ne_none_bool (fin_bl I q (by simp))
    | int j => obtain ⟨t', rfl⟩ := ry; exact PySem.EqNone.ne_none_int (fin_bl I q (by simp))
    | str j => obtain ⟨t', rfl⟩ := ry; exact PySem.EqNone.ne_none_str (fin_bl I q (by simp))
    | _ => exact absurd (show false = true from hs) Bool.false_ne_true
  | bl i =>
    cases rx
    cases y with
    | non => cases ry; exact PySem.EqNone.ne_bool_none (fin_bl I q (by simp))
    | bl j => cases ry; exact ne_bool (fin_bl I q (congrArg not dec_bl))
    | str j => obtain ⟨t', rfl⟩ := ry; exact PySem.EqMixed.ne_bool_str (fin_bl I q (by simp))
    | _ => exact absurd (show false = true from hs) Bool.false_ne_true
  | int i =>
    obtain ⟨t, rfl⟩ := rx
    cases y with
    | non => cases ry; exact PySem.EqNone.ne_int_none (fin_bl I q (by simp))
    | int j => obtain ⟨t', rfl⟩ := ry; exact ne_int (fin_bl I q (congrArg not dec_int))
    | str j => obtain ⟨t', rfl⟩ := ry; exact PySem.EqMixed.ne_int_str (fin_bl I q (by simp))
    | _ => exact absurd (show false = true from hs) Bool.false_ne_true
  | str i =>
    obtain ⟨t, rfl⟩ := rx
    cases y with
    | non => cases ry; exact PySem.EqNone.ne_str_none (fin_bl I q (by simp))
    | bl j => cases ry; exact PySem.EqMixed.ne_str_bool (fin_bl I q (by simp))
    | int j => obtain ⟨t', rfl⟩ := ry; exact PySem.EqMixed.ne_str_int (fin_bl I q (by simp))
    | str j => obtain ⟨t', rfl⟩ := ry; exact ne_str (fin_bl I q (congrArg not dec_str))
    | _ => exact absurd (show false = true from hs) Bool.false_ne_true
  | byt i =>
    obtain ⟨t, rfl⟩ := rx
    cases y with
    | byt j => obtain ⟨t', rfl⟩ := ry; exact PySem.W.ne_bytes (fin_bl I q (congrArg not dec_byt))
    | _ => exact absurd (show false = true from hs) Bool.false_ne_true
  | _ => cases y <;> exact absurd (show false = true from hs) Bool.false_ne_true
theorem op_lt : OpR X (compareOp .Lt) (rI0 fun i j => .bl (decide (i < j))) := opB0 fun _ _ _ _ _ _ _ q => lt_int q
theorem op_le : OpR X (compareOp .LtE) (rI0 fun i j => .bl (decide (i ≤ j))) := opB0 fun _ _ _ _ _ _ _ q => le_int q
theorem op_gt : OpR X (compareOp .Gt) (rI0 fun i j => .bl (decide (j < i))) := opB0 fun _ _ _ _ _ _ _ q => gt_int q
theorem OpR.or {f : Value → Value → Sem Value} {r r' : R2} (h : OpR X f r) (h' : OpR X f r') : OpR X f (fun x y H Q => r x y H Q ∨ r' x y H Q) := by
  intro pins s σ H x y v u Q I rx ry q
  rcases q with q | q
  · exact h pins s σ H x y v u Q I rx ry q
  · exact h' pins s σ H x y v u Q I rx ry q
theorem nomark (b : Expr) {op : CmpOp} (h : op ≠ .In := by decide) (h2 : op ≠ .NotIn := by decide) : behindInMarks op b = false := by
  have e1 : (op == CmpOp.In) = false := by cases op <;> first | rfl | exact absurd rfl h
  have e2 : (op == CmpOp.NotIn) = false := by cases op <;> first | rfl | exact absurd rfl h2
  cases b <;> simp [behindInMarks, e1, e2]
theorem pe_cmpR {op : CmpOp} {r : R2} (ho : OpR X (compareOp op) r) (ha : PE X a ta) (hb : PE X b tb) (hm : behindInMarks op b = false) : PE X (.Compare a [op] [b] pos) (tOp r ta tb) := by
  intro pins s σ H Q I h
  exact wpAny_Compare1 (binT ha hb I h fun v u s2 x y H2 I2 rx ry q => ho pins s2 σ H2 x y v u Q I2 rx ry q) hm
def tTest (t : TE) : TT := fun σ H Q => t σ H fun x H' => ∃ k, x = .bl k ∧ Q k H'
theorem pt_cmpR {op : CmpOp} {r : R2} (ho : OpR X (compareOp op) r) (ha : PE X a ta) (hb : PE X b tb) (hm : behindInMarks op b = false) : PT X (.Compare a [op] [b] pos) (tTest (tOp r ta tb)) := by
  intro pins s σ H Q I h
  refine wpAny_isTrue_Compare1 (thn (ha pins s σ H _ I h) fun v s1 ⟨x, H1, I1, r1, q1⟩ => thn (hb pins s1 σ H1 _ I1 q1) fun u s2 ⟨y, H2, I2, r2, q2⟩ =>
    thn (ho pins s2 σ H2 x y v u _ I2 r1 r2 q2) fun c s3 ⟨z, H3, I3, r3, k, e, q3⟩ => ?_) hm
  subst e
  cases r3
  exact wpAny_truthy_bool ⟨H3, I3, q3⟩
def tChain (r r' : R2) (ta tb tc : TE) : TE := fun σ H Q => ta σ H fun x H1 => tb σ H1 fun y H2 => r x y H2 fun z H3 => ∃ k, z = .bl k ∧
  (if k = true then tc σ H3 fun w' H4 => r' y w' H4 Q else Q (.bl false) H3)
theorem pe_chain {op op' : CmpOp} {r r' : R2} (ho : OpR X (compareOp op) r) (ho' : OpR X (compareOp op') r') (ha : PE X a ta) (hb : PE X b tb) (hc : PE X c tc)
    (hm : lastMarks [op, op'] [b, c] = false := by with_unfolding_all rfl) : PE X (.Compare a [op, op'] [b, c] pos) (tChain r r' ta tb tc) := by
  intro pins s σ H Q I h
  refine Compare_chain (thn (ha pins s σ H _ I h) fun v s1 ⟨x, H1, I1, r1, q1⟩ => chain_link (thn (hb pins s1 σ H1 _ I1 q1) fun u s2 ⟨y, H2, I2, r2, q2⟩ =>
    thn (ho pins s2 σ H2 x y v u _ I2 r1 r2 q2) fun d s3 ⟨z, H3, I3, r3, k, e, q3⟩ => ?_)) hm
  subst e
  cases r3
  refine wpAny_truthy_bool ?_
  cases k with
  | false => exact ite_ff ⟨.bl false, H3, I3, rfl, q3⟩
  | true => exact ite_tt (chain_last (thn (hc pins s3 σ H3 _ I3 q3) fun w' s4 ⟨z', H4, I4, r4, q4⟩ => ho' pins s4 σ H4 y z' u w' Q I4 r2 r4 q4))
theorem pt_chain {op op' : CmpOp} {r r' : R2} (ho : OpR X (compareOp op) r) (ho' : OpR X (compareOp op') r') (ha : PE X a ta) (hb : PE X b tb) (hc : PE X c tc)
    (hm : lastMarks [op, op'] [b, c] = false := by with_unfolding_all rfl) : PT X (.Compare a [op, op'] [b, c] pos) (tTest (tChain r r' ta tb tc)) := by
  intro pins s σ H Q I h
  refine isTrue_chain (thn (ha pins s σ H _ I h) fun v s1 ⟨x, H1, I1, r1, q1⟩ => test_link (thn (hb pins s1 σ H1 _ I1 q1) fun u s2 ⟨y, H2, I2, r2, q2⟩ =>
    thn (ho pins s2 σ H2 x y v u _ I2 r1 r2 q2) fun d s3 ⟨z, H3, I3, r3, k, e, q3⟩ => ?_)) hm
  subst e
  cases r3
  refine wpAny_truthy_bool ?_
  cases k with
  | false =>
    obtain ⟨k', e', q'⟩ := q3
    cases e'
    exact ite_ff ⟨H3, I3, q'⟩
  | true =>
    refine ite_tt (test_last (thn (hc pins s3 σ H3 _ I3 q3) fun w' s4 ⟨z', H4, I4, r4, q4⟩ => thn (ho' pins s4 σ H4 y z' u w' _ I4 r2 r4 q4) fun d' s5 ⟨z2, H5, I5, r5, k2, e2, q5⟩ => ?_))
    subst e2
    cases r5
    exact wpAny_truthy_bool ⟨H5, I5, q5⟩
theorem line63 : (sizeLine : Nat) < 2 ^ 63 := by rw [sizeLine_eq]; decide
theorem vals1 {x : V} {us : List Value} (r : Vals [x] us) : ∃ u, us = [u] ∧ RelV x u := by
  cases r with
  | cons r1 r2 => cases r2; exact ⟨_, rfl, r1⟩
end
end L2
namespace L2
open PySem PySem.Spec PyProof.Rows
structure ObjM (h : Heap) (x dx C : Addr) (mA : Str → Option Value) : Prop where
  obj : h.get? x = some (PySem.W.instObj C dx)
  ns : h.Ns1 dx mA
  ne : dx ≠ x
theorem lookIn_ns {h : Heap} {dx : Addr} {mA : Str → Option Value} (n : h.Ns1 dx mA) : ∃ od, h.get? dx = some od ∧ ∀ name, PySem.W.lookIn name od = some (mA name) := by
  obtain ⟨o, es, ep, ho, hd, hk, _, hm⟩ := n
  refine ⟨o, ho, fun name => ?_⟩
  have e := hm name
  unfold nsFind findBy at e
  rw [← Array.find?_toList] at e
  unfold PySem.W.lookIn
  rw [hd]
  dsimp only
  split
  · rename_i y q
    rw [q] at e
    exact congrArg some e
  · rename_i q
    rw [q] at e
    have a : es.toList.any (·.refKey) = false := by
      rw [List.any_eq_false]
      intro y hy
      obtain ⟨z, t, hkey⟩ := hk y (Array.mem_toList_iff.mp hy)
      simp [DictEntry.refKey, hkey]
    have a' : ¬ es.toList.any (·.refKey) = true := by rw [a]; exact Bool.false_ne_true
    rw [if_neg a']
    exact congrArg some e
theorem ObjM.look {h : Heap} {x dx C : Addr} {mA : Str → Option Value} (I : ObjM h x dx C mA) : ∃ od, PySem.W.InstAt h x (PySem.W.instObj C dx) C (some od) ∧ ∀ name, PySem.W.lookIn name od = some (mA name) :=
  let ⟨od, ho, hl⟩ := lookIn_ns I.ns
  ⟨od, ⟨I.obj, rfl, rfl, ho⟩, hl⟩
section
variable {prog : Program} {w : World} {A : Around} {E : Value → Shared → Prop} {s : Shared} {K : PySem.W.Frag} {x dx C f : Addr} {mA : Str → Option Value} {name : Str} {v : Value}
theorem get_map {expr : Bool} {Q : Value → Shared → Prop} (X : K.In s.heap) (I : ObjM s.heap x dx C mA) (hg : PySem.W.plainGet K C name = true) (hh : PySem.W.hasDictIn K C = true)
    (ha : PySem.W.findIn K (.ref C) name = some none) (hv : mA name = some v) (hv' : PySem.W.handedIn v = true) (h : Q v { s with toks := s.toks + 1 }) :
    wpAny (model prog w) A (getAttr (.ref x) name expr) Q E s := by
  obtain ⟨od, J, hl⟩ := I.look
  exact PySem.W.get_value X J (PySem.W.plainGet_of hg).1 (PySem.W.findObj_own hh ha rfl (by rw [hl, hv])) hv' h
theorem set_map {ns : List Str} {Q : Unit → Shared → Prop} (X : K.In s.heap) (I : ObjM s.heap x dx C mA)
    (hs : PySem.W.findIn K (.ref C) "__setattr__" = some (some (.builtin "object.__setattr__"))) (hp : PySem.W.plainOver K C = true) (ht : PySem.W.takerIn K C name = some none) (hh : PySem.W.hasDictIn K C = true)
    (hw : PySem.Within mA ns) (hsz : ns.length ≤ sizeLine)
    (h : ∀ h', ObjM h' x dx C (fun y => if y = name then some v else mA y) → Heap.SameBut dx s.heap h' → Q () { s with heap := h', toks := s.toks + 2 }) :
    wpAny (model prog w) A (setAttr (.ref x) name v) Q E s := by
  obtain ⟨od, J, hl⟩ := I.look
  refine PySem.W.set_plain X J hs (PySem.W.osa_open (s := { s with toks := s.toks + 1 }) (r := none) X J hp ht fun b => ?_)
  obtain ⟨cd, hc, hd'⟩ := PySem.W.any_some hh
  have hx : s.heap.get? x = some ⟨.ref C, some dx, .plain, #[]⟩ := I.obj
  refine wpAny_bind (wpAny_pure (wpAny_bind (wpAny_bind (wpAny_loadPart hx (wpAny_bind (PySem.W.Looks.here (s := { s with toks := s.toks + 1 }) (PySem.W.looks_clsIn X hc) ?_))))))
  rw [hd']
  refine wpAny_pure (a := some dx) (wpAny_bind (wpAny_pure (wpAny_bind ?_)))
  refine wpAny_nsSet1 (s := { s with toks := s.toks + 1 }) I.ns fun h' hn2 hs2 => ?_
  obtain ⟨oD, esD, epD, hoD, hdD, hcD⟩ := hn2.count (PySem.Within.cons name v hw)
  refine wpAny_bind (wpAny_lookBehind hoD (by rw [hdD]; exact pastItsLine_dict (Nat.le_trans hcD (by rw [List.length_cons]; omega))) ?_)
  exact wpAny_pure (h _ ⟨(hs2.2 _ (Ne.symm I.ne)).trans I.obj, hn2, I.ne⟩ hs2)
theorem make_map {R : Result → Shared → Prop} {vs : List Value} {kw : List (Str × Value)} (X : K.In s.heap) (hm : PySem.W.makesIn K C = true)
    (hi : PySem.W.findIn K (.ref C) "__init__" = some (some (.ref f))) (hf : PySem.W.typeIn K (.ref f) = some (.type "function"))
    (h : codeAny (model prog w) (A.under (.builtin "type.__call__" ⟨.ref C :: vs, kw⟩)) (.call (.ref f) ⟨.ref (s.heap.objs.size + 1) :: vs, kw⟩) (PySem.W.InitBack (s.heap.objs.size + 1) R)
      { s with heap := (s.heap.push PySem.W.emptyDict).push (PySem.W.instObj C s.heap.objs.size) }) :
    codeAny (model prog w) A (.call (.ref C) ⟨vs, kw⟩) R s := by
  obtain ⟨hh, g, d, t, os⟩ := s
  exact PySem.W.make_core (PySem.W.makes_of X hm) (PySem.W.looks_findIn X hi) (fun self => PySem.W.bind_fn X self hf) (.inl rfl) h
end
def putF (f : Str) (v : V) : List (Str × V) → List (Str × V)
  | [] => [(f, v)]
  | (g, x) :: r => if g = f then (g, v) :: r else (g, x) :: putF f v r
theorem lookup_putF (f g : Str) (v : V) : ∀ fs : List (Str × V), (putF f v fs).lookup g = if g = f then some v else fs.lookup g
  | [] => by
    show List.lookup g [(f, v)] = _
    by_cases h : g = f
    · have hb : (g == f) = true := beq_iff_eq.mpr h
      simp only [List.lookup, hb, if_pos h]
    · have hb : (g == f) = false := beq_eq_false_iff_ne.mpr h
      simp only [List.lookup, hb, if_neg h]
  | (k, x) :: r => by
    have ih := lookup_putF f g v r
    rw [show putF f v ((k, x) :: r) = (if k = f then (k, v) :: r else (k, x) :: putF f v r) from rfl]
    by_cases hk : k = f
    · rw [if_pos hk]
      by_cases h : g = k
      · have hb : (g == k) = true := beq_iff_eq.mpr h
        simp only [List.lookup, hb, if_pos (h.trans hk)]
      · have hb : (g == k) = false := beq_eq_false_iff_ne.mpr h
        simp only [List.lookup, hb, if_neg (fun e : g = f => h (e.trans hk.symm))]
    · rw [if_neg hk]
      by_cases h : g = k
      · have hb : (g == k) = true := beq_iff_eq.mpr h
        simp only [List.lookup, hb, if_neg (fun e : g = f => hk (h.symm.trans e))]
      · have hb : (g == k) = false := beq_eq_false_iff_ne.mpr h
        simp only [List.lookup, hb]
        exact ih
theorem keys_putF (f : Str) (v : V) : ∀ fs : List (Str × V), f ∈ (putF f v fs).map (·.1) ∧ ∀ g, g ∈ fs.map (·.1) → g ∈ (putF f v fs).map (·.1)
  | [] => ⟨by simp [putF], fun g h => by simp at h⟩
  | (k, x) :: r => by
    obtain ⟨i1, i2⟩ := keys_putF f v r
    rw [show putF f v ((k, x) :: r) = (if k = f then (k, v) :: r else (k, x) :: putF f v r) from rfl]
    by_cases hk : k = f
    · rw [if_pos hk]
      subst hk
      exact ⟨by simp, fun g h => by simpa using h⟩
    · rw [if_neg hk]
      refine ⟨?_, fun g h => ?_⟩
      · rw [List.map_cons]
        exact List.mem_cons_of_mem _ i1
      · rw [List.map_cons] at h ⊢
        rcases List.mem_cons.mp h with e | e
        · exact List.mem_cons.mpr (.inl e)
        · exact List.mem_cons_of_mem _ (i2 g e)
theorem length_putF (f : Str) (v : V) : ∀ fs : List (Str × V), (putF f v fs).length ≤ fs.length + 1
  | [] => by simp [putF]
  | (k, x) :: r => by
    have ih := length_putF f v r
    rw [show putF f v ((k, x) :: r) = (if k = f then (k, v) :: r else (k, x) :: putF f v r) from rfl]
    by_cases hk : k = f
    · rw [if_pos hk, List.length_cons, List.length_cons]; omega
    · rw [if_neg hk, List.length_cons, List.length_cons]; omega
theorem RelO.some_of {v : V} {o : Option Value} (r : RelO (some v) o) : ∃ u, o = some u ∧ RelV v u := by
  cases o with
  | none => exact (show False from r).elim
  | some u => exact ⟨u, rfl, r⟩
theorem handed_of {v : V} {u : Value} (r : RelV v u) : PySem.W.handedIn u = true := by
  cases v with
  | non => cases (show u = Value.none from r); rfl
  | bl b => cases (show u = Value.bool b from r); rfl
  | int i => obtain ⟨t, e⟩ := (show ∃ t, u = Value.int i t from r); cases e; rfl
  | str x => obtain ⟨t, e⟩ := (show ∃ t, u = Value.str x t from r); cases e; rfl
  | byt b => obtain ⟨t, e⟩ := (show ∃ t, u = Value.bytes b t from r); cases e; rfl
  | flt b => obtain ⟨t, e⟩ := (show ∃ t, u = Value.float b t from r); cases e; rfl
  | ref a => cases (show u = Value.ref a from r); rfl
  | ty n => cases (show u = Value.type n from r); rfl
section
variable {P : Program} {w : World} {H H' : Hp} {h h' : Heap} {a C dx : Addr} {fs fs' : List (Str × V)}
theorem ins_get (hok : HOk P w H h) (e : H a = some (.ins C dx fs)) : ∃ mA, ObjM h a dx C mA ∧ (∀ f, RelO (fs.lookup f) (mA f)) ∧ PySem.Within mA (fs.map (·.1)) ∧ fs.length ≤ 1000 ∧ H dx = some (.own a) := by
  obtain ⟨d, z, ne, ob, mA, n, r, q⟩ := (show ObjOk P w H h a (.ins C dx fs) from hok a _ e)
  exact ⟨mA, ⟨ob, n, ne⟩, r, q, z, d⟩
end
structure Cls (K : PySem.W.Frag) (C : Addr) : Prop where
  pg : PySem.W.plainGet K C Str.empty = true
  hd : PySem.W.hasDictIn K C = true
  po : PySem.W.plainOver K C = true
  sa : PySem.W.findIn K (.ref C) "__setattr__" = some (some (.builtin "object.__setattr__"))
theorem Cls.get {K : PySem.W.Frag} {C : Addr} (c : Cls K C) (f : Str) : PySem.W.plainGet K C f = true := c.pg
def NoAttr (K : PySem.W.Frag) (C : Addr) (f : Str) : Prop := PySem.W.findIn K (.ref C) f = some none
theorem NoAttr.taker {K : PySem.W.Frag} {C : Addr} {f : Str} (n : NoAttr K C f) : PySem.W.takerIn K C f = some none := by
  unfold PySem.W.takerIn
  rw [show PySem.W.findIn K (.ref C) f = some none from n]
  rfl
section
variable {X : Cx} {pins : List (Addr × Obj)} {σ : St} {H : Hp} {s : Shared} {a C dx : Addr} {fs : List (Str × V)} {f : Str} {v : V} {A : Around} {E : Value → Shared → Prop}
theorem getattr_ok {b : Bool} {Q : Value → Shared → Prop} (I : Inv X pins σ H s) (e : H a = some (.ins C dx fs)) (c : Cls X.K C) (n : NoAttr X.K C f) (l : fs.lookup f = some v)
    (h : ∀ u s', Inv X pins σ H s' → RelV v u → Q u s') : wpAny (model X.prog X.w) A (getAttr (.ref a) f b) Q E s := by
  obtain ⟨mA, O, r, _, _, _⟩ := ins_get I.hok e
  obtain ⟨u, hu, ru⟩ := RelO.some_of (v := v) (o := mA f) (by rw [← l]; exact r f)
  exact get_map I.kIn O (c.get f) c.hd n hu (handed_of ru) (h u _ (I.tok _) ru)
theorem setattr_ok {y : V} {u : Value} {Q : Unit → Shared → Prop} (I : Inv X pins σ H s) (e : H a = some (.ins C dx fs)) (c : Cls X.K C) (n : NoAttr X.K C f) (hl : fs.length < 1000) (ry : RelV y u)
    (h : ∀ s', Inv X pins σ (upd H a (.ins C dx (putF f y fs))) s' → Q () s') : wpAny (model X.prog X.w) A (setAttr (.ref a) f u) Q E s := by
  obtain ⟨mA, O, r, wi, _, ho⟩ := ins_get I.hok e
  have hz : (fs.map (·.1)).length ≤ sizeLine := by rw [List.length_map, sizeLine_eq]; omega
  refine set_map I.kIn O c.sa c.po n.taker c.hd wi hz fun h' O' sb => h _ ?_
  have hd : ∃ o, h'.get? dx = some o := let ⟨o, _, _, e', _⟩ := O'.ns; ⟨o, e'⟩
  refine I.write (x := a) (e := dx) (by rw [e]; exact True.intro) (.inr ho) (fun b q hb z => (sb.2 b hb).trans z) hd ?_
  refine ⟨by rw [upd_ne O.ne]; exact ho, ?_, O.ne, O'.obj, _, O'.ns, fun g => ?_, fun g hg => ?_⟩
  · have := length_putF f y fs; omega
  · show RelO ((putF f y fs).lookup g) (if g = f then some u else mA g)
    rw [lookup_putF]
    by_cases q : g = f
    · rw [if_pos q, if_pos q]; exact ry
    · rw [if_neg q, if_neg q]; exact r g
  · by_cases q : g = f
    · rw [q]; exact (keys_putF f y fs).1
    · refine (keys_putF f y fs).2 g (wi g fun z => hg ?_)
      show (if g = f then some u else mA g) = none
      rw [if_neg q]; exact z
theorem Inv.made (I : Inv X pins σ H s) : Inv X pins σ (upd (upd H s.heap.objs.size (.own (s.heap.objs.size + 1))) (s.heap.objs.size + 1) (.ins C s.heap.objs.size []))
    { s with heap := (s.heap.push PySem.W.emptyDict).push (PySem.W.instObj C s.heap.objs.size) } := by
  have e1 : (s.heap.push PySem.W.emptyDict).get? s.heap.objs.size = some PySem.W.emptyDict := Heap.get?_push_size s.heap rfl
  have e2 : ((s.heap.push PySem.W.emptyDict).push (PySem.W.instObj C s.heap.objs.size)).get? (s.heap.objs.size + 1) = some (PySem.W.instObj C s.heap.objs.size) := by
    have := Heap.get?_push_size (s.heap.push PySem.W.emptyDict) (o := PySem.W.instObj C s.heap.objs.size) rfl
    rwa [Heap.size_push] at this
  have e3 : (s.heap.push PySem.W.emptyDict).Ns s.heap.objs.size (fun _ => none) := ⟨PySem.W.emptyDict, #[], _, e1, rfl, (fun e he => absurd he (by simp)), fun _ => rfl⟩
  have I1 := I.laid (a := s.heap.objs.size) (o := .own (s.heap.objs.size + 1)) (h' := s.heap.push PySem.W.emptyDict) (t' := s.toks) (fun b u q => Heap.get?_push_of_some _ q) (Nat.le_refl _) ⟨_, e1⟩
  refine I1.laid (a := s.heap.objs.size + 1) (o := .ins C s.heap.objs.size []) (t' := s.toks) (fun b u q => Heap.get?_push_of_some _ q) (Nat.le_of_eq (Heap.size_push _ _)) ?_
  have ne : s.heap.objs.size ≠ s.heap.objs.size + 1 := Nat.ne_of_lt (Nat.lt_succ_self _)
  refine ⟨by rw [upd_ne ne, upd_same], Nat.zero_le _, ne, e2, fun _ => none, (Heap.Ns1.of_empty e3).at fun o q => Heap.get?_push_of_some _ q, fun _ => True.intro, fun y hy => absurd rfl hy⟩
theorem attr_of {prog : Program} {w : World} {env : Env} {e : Expr} {f : Str} {pos : Pos} {s : Shared} {Q : Value → Shared → Prop} (hb : attributeBase e f env (eval e env) = eval e env)
    (h : wpAny (model prog w) A (eval e env) (fun o s₁ => wpAny (model prog w) A (getAttr o f true) Q E s₁) E s) : wpAny (model prog w) A (eval (.Attribute e f pos) env) Q E s :=
  Attribute_any_ h (by rw [arm_eval_Attribute, hb])
end
def tFld (K : PySem.W.Frag) (ta : TE) (f : Str) : TE := fun σ H Q => ta σ H fun x H1 => ∃ a C dx fs v, x = .ref a ∧ H1 a = some (.ins C dx fs) ∧ Cls K C ∧ NoAttr K C f ∧ fs.lookup f = some v ∧ Q v H1
def sFld (K : PySem.W.Frag) (ta tv : TE) (f : Str) : TS := fun D σ H => tv σ H fun y H1 => ta σ H1 fun x H2 => ∃ a C dx fs, x = .ref a ∧ H2 a = some (.ins C dx fs) ∧ Cls K C ∧ NoAttr K C f ∧ fs.length < 1000 ∧
  D.nx σ (upd H2 a (.ins C dx (putF f y fs)))
section
variable {X : Cx} {o e value : Expr} {f : Str} {pos pos' tpos : Pos} {ta tv : TE}
theorem pe_fld (he : PE X e ta) (hb : attributeBase e f X.env (eval e X.env) = eval e X.env) : PE X (.Attribute e f pos) (tFld X.K ta f) := by
  intro pins s σ H Q I h
  refine attr_of hb (thn (he pins s σ H _ I h) fun u s1 ⟨x, H1, I1, rx, a, C, dx, fs, v, ex, ea, c, n, l, q⟩ => ?_)
  subst ex
  obtain rfl : u = Value.ref a := rx
  exact getattr_ok I1 ea c n l fun u' s2 I2 ru => ⟨v, H1, I2, ru, q⟩
theorem ps_fld (ha : PE X o ta) (hv : PE X value tv) (hs : swapsWith value (some (.Attribute o f pos')) pos.line X.env = pure false) : PS X (.Assign [.Attribute o f pos'] value pos) (sFld X.K ta tv f) := by
  intro pins s σ H D I h
  refine plainObj_wpAny_Assign_Attribute (thn (hv pins s σ H _ I h) fun u s1 ⟨y, H1, I1, ry, q⟩ => thn (ha pins s1 σ H1 _ I1 q) fun ov s2 ⟨x, H2, I2, rx, a, C, dx, fs, ex, ea, c, n, l, q2⟩ => ?_) hs
  subst ex
  obtain rfl : ov = Value.ref a := rx
  exact setattr_ok I2 ea c n l ry fun s3 I3 => ⟨σ, _, I3, q2⟩
end
section
variable {X : Cx} {pins : List (Addr × Obj)} {σ : St} {H : Hp} {s : Shared} {A : Around} {E : Value → Shared → Prop} {Q : Value → Shared → Prop} {c : Value} {b : Bool}
end
end L2
namespace L2
open PySem PySem.Spec PyProof.Rows
structure Room (k : Nat) (A : Around) : Prop where
  hd : A.handled = none
  dp : A.depth + 3 * k + 5 < recursionLimit
  un : A.units + 16 * k + 200 < cLine
theorem Room.mono {j k : Nat} {A : Around} (r : Room k A) (h : j ≤ k) : Room j A := ⟨r.hd, by have := r.dp; omega, by have := r.un; omega⟩
theorem Room.deeper {k : Nat} {A : Around} (r : Room (k + 1) A) (env : Env) : Room k (A.deeper env) :=
  ⟨r.hd, by have := r.dp; show A.depth + 1 + 3 * k + 5 < _; omega, by have := r.un; show A.units + 3 + 16 * k + 200 < _; omega⟩
theorem Room.in1 {k : Nat} {A : Around} (r : Room (k + 1) A) : Room k A.in1 :=
  ⟨r.hd, by have := r.dp; show A.depth + 3 * k + 5 < _; omega, by have := r.un; show A.units + 1 + 16 * k + 200 < _; omega⟩
theorem make_depth {A : Around} {C : Addr} {us : List Value} {kw : List (Str × Value)} : (A.under (.builtin "type.__call__" ⟨.ref C :: us, kw⟩)).depth = A.depth + 1 := by
  first | rfl | simp [Around.under, Code.weight, Code.isCreation, Code.isGuard, Code.isCaller, Code.frames, Code.isFrame, guardIds]
theorem make_units {A : Around} {C : Addr} {us : List Value} {kw : List (Str × Value)} : (A.under (.builtin "type.__call__" ⟨.ref C :: us, kw⟩)).units = A.units + 1 := by
  first | rfl | simp [Around.under, Code.cUnits, Code.frames, Code.isFrame]
theorem Room.make {k : Nat} {A : Around} (r : Room (k + 1) A) (C : Addr) (us : List Value) (kw : List (Str × Value)) : Room k (A.under (.builtin "type.__call__" ⟨.ref C :: us, kw⟩)) :=
  ⟨r.hd, by have := r.dp; rw [make_depth]; omega, by have := r.un; rw [make_units]; omega⟩
theorem Room.depth {k : Nat} {A : Around} (r : Room k A) : A.depth < recursionLimit := by have := r.dp; omega
theorem Room.units {k : Nat} {A : Around} (r : Room k A) : A.units + 64 < cLine := by have := r.un; omega
def tNil : TA := fun _ H Q => Q [] H
def tCons (ta : TE) (tr : TA) : TA := fun σ H Q => ta σ H fun x H1 => tr σ H1 fun xs H2 => Q (x :: xs) H2
section
variable {X : Cx} {e : Expr} {es : List Expr} {te : TE} {t : TA} {pos : Pos}
theorem pa_nil : PA X [] tNil := fun _ _ _ _ H Q I h => Calls.spliced_nil ⟨[], H, I, .nil, h⟩
theorem pa_cons (ha : PE X e te) (hr : PA X es t) (hs : starEach (e :: es) X.env = (false, eval e X.env) :: starEach es X.env := by rfl) : PA X (e :: es) (tCons te t) := by
  intro pos pins s σ H Q I h
  rw [hs]
  show wpAny _ _ (spliced ((false, eval e X.env) :: backTo pos (starEach es X.env))) _ _ s
  refine Calls.spliced_cons (thn (ha pins s σ H _ I h) fun u s1 ⟨x, H1, I1, r1, q1⟩ => ?_)
  exact thn (hr pos pins s1 σ H1 _ I1 q1) fun us s2 ⟨xs, H2, I2, r2, q2⟩ => ⟨x :: xs, H2, I2, .cons r1 r2, q2⟩
def tLst (t : TA) : TE := fun σ H Q => t σ H fun xs H1 => xs.length ≤ sizeLine ∧ ∀ p, H1 p = none → Q (.ref p) (upd H1 p (.lst xs))
theorem pe_lst (h : PA X es t) : PE X (.List es pos) (tLst t) := by
  intro pins s σ H Q I hq
  refine wpAny_List_spliced (thn (h pos pins s σ H _ I hq) fun us s1 ⟨xs, H1, I1, r, z, q⟩ => ⟨by rw [← r.length]; exact z, ?_⟩)
  have hf : H1 s1.heap.objs.size = none := I1.hok.fresh (Nat.le_refl _)
  refine ⟨.ref s1.heap.objs.size, upd H1 s1.heap.objs.size (.lst xs), I1.laid (t' := s1.toks) (fun b u e => Heap.get?_push_of_some _ e) (Nat.le_refl _) ?_, rfl, q _ hf⟩
  exact ⟨z, us, 0, r, Heap.get?_push_size _ rfl⟩
end
abbrev Sp := List V → Hp → VK → XK → Prop
abbrev CXT := List Env → Hp → Shared → XK → Value → Shared → Prop
structure Env0 (P : Program) (w : World) (K : PySem.W.Frag) (mg : Str → Option Value) (base : Heap) (A : Around) (outer : List Env) (s : Shared) (H : Hp) : Prop where
  frames : A.frames = some outer
  mod : Mod K mg base
  bs : ∀ b o, base.get? b = some o → s.heap.get? b = some o ∧ H b = none
  bsz : base.objs.size ≤ s.heap.objs.size
  funs : s.heap.FunFrames base outer
  frf : ∀ b ∈ frs outer, H b = none
  hok : HOk P w H s.heap
  bare : AllBare s.gens
def CE (outer : List Env) (P : Program) (w : World) (H : Hp) (s : Shared) (Q : VK) (u : Value) (s' : Shared) : Prop :=
  ∃ v H', s'.os = s.os ∧ AllBare s'.gens ∧ Un (frs outer) [] H H' s.heap s'.heap ∧ HOk P w H' s'.heap ∧ RelV v u ∧ Q v H'
def CR (CX : CXT) (outer : List Env) (P : Program) (w : World) (H : Hp) (s : Shared) (Q : VK) (E : XK) (r : Result) (s' : Shared) : Prop :=
  match r with
  | .ok (.ret u) => CE outer P w H s Q u s'
  | .ok _ => False
  | .error e => CX outer H s E e s'
structure FnOk (P : Program) (w : World) (K : PySem.W.Frag) (mg : Str → Option Value) (base : Heap) (CX : CXT) (k : Nat) (f : Addr) (fd : FuncData) (ps : List Str) (sp : Sp) : Prop where
  len : ∀ vs H Q E, sp vs H Q E → vs.length = ps.length
  run : ∀ (A : Around) (outer : List Env) (s : Shared) (H : Hp) (args : Args) (us : List Value) (vs : List V) (Q : VK) (E : XK), Room k A → Env0 P w K mg base A outer s H → BindsTo s fd args (ps.zip us) → Vals vs us → sp vs H Q E →
    codeAny (model P w) A (.call (.ref f) args) (CR CX outer P w H s Q E) s
theorem FnOk.mono {P : Program} {w : World} {K : PySem.W.Frag} {mg : Str → Option Value} {base : Heap} {CX : CXT} {j k : Nat} {f : Addr} {fd : FuncData} {ps : List Str} {sp : Sp} (F : FnOk P w K mg base CX j f fd ps sp) (h : j ≤ k) :
    FnOk P w K mg base CX k f fd ps sp := ⟨F.len, fun A outer s H args us vs Q E hr => F.run A outer s H args us vs Q E (hr.mono h)⟩
theorem Env0.make {P : Program} {w : World} {K : PySem.W.Frag} {mg : Str → Option Value} {base : Heap} {A : Around} {outer : List Env} {s : Shared} {H : Hp} (e : Env0 P w K mg base A outer s H) (C : Addr) (us : List Value) (kw : List (Str × Value)) :
    Env0 P w K mg base (A.under (.builtin "type.__call__" ⟨.ref C :: us, kw⟩)) outer s H := ⟨by first | exact e.frames | (simpa [Around.under, Code.envs, Code.isFrame, pushEnvs] using e.frames), e.mod, e.bs, e.bsz, e.funs, e.frf, e.hok, e.bare⟩
theorem Env0.in1 {P : Program} {w : World} {K : PySem.W.Frag} {mg : Str → Option Value} {base : Heap} {A : Around} {outer : List Env} {s : Shared} {H : Hp} (e : Env0 P w K mg base A outer s H) :
    Env0 P w K mg base A.in1 outer s H := ⟨e.frames, e.mod, e.bs, e.bsz, e.funs, e.frf, e.hok, e.bare⟩
section
variable {X : Cx} {pins : List (Addr × Obj)} {σ : St} {H : Hp} {s s' : Shared}
theorem Inv.env0 (I : Inv X pins σ H s) : Env0 X.prog X.w X.K X.mg X.base X.A X.stack s H :=
  ⟨I.ok.frames, I.ok.mod, I.bs, Nat.le_trans I.ok.bsz I.sz, I.stack, I.stkFree, I.hok, I.bare⟩
theorem Inv.after {Q : VK} {u : Value} (I : Inv X pins σ H s) (h : CE X.stack X.prog X.w H s Q u s') : EP X pins σ Q u s' := by
  obtain ⟨v, H', os, bare, un, hok, r, q⟩ := h
  obtain ⟨hh, g, d, t, os'⟩ := s'
  obtain rfl : os' = s.os := os
  exact ⟨v, H', I.call (h' := hh) (g' := g) (d' := d) (t' := t) (ch := []) un hok bare (fun b z => absurd z (by simp)), r, q⟩
end
def tCall (sp : Sp) (dvs : List V) (E : XK) (t : TA) : TE := fun σ H Q => t σ H fun vs H1 => sp (vs ++ dvs) H1 Q E
def tMake (C : Addr) (sp : Sp) (dvs : List V) (E : XK) (t : TA) : TE := fun σ H Q => t σ H fun vs H1 => ∀ x dx, H1 x = none → H1 dx = none → dx ≠ x →
  sp (.ref x :: (vs ++ dvs)) (upd (upd H1 dx (.own x)) x (.ins C dx [])) (fun v H2 => v = .non ∧ Q (.ref x) H2) E
def Binds (K : PySem.W.Frag) (fd : FuncData) (ps : List Str) (ds : List Value) : Prop :=
  ∀ (s : Shared) (us : List Value), K.In s.heap → (us ++ ds).length = ps.length → BindsTo s fd ⟨us, []⟩ (ps.zip (us ++ ds))
theorem Binds.all {K : PySem.W.Frag} {fd : FuncData} {ps : List Str} (h : ∀ us : List Value, us.length = ps.length → bindArgs fd ⟨us, []⟩ = pure (ps.zip us)) : Binds K fd ps [] := fun s us _ hl => by
  rw [List.append_nil] at hl ⊢
  exact .of_eq (h us hl)
def Passes (CX : CXT) (X : Cx) (E : XK) : Prop := ∀ (pins : List (Addr × Obj)) (σ : St) (H : Hp) (s : Shared) (e : Value) (s' : Shared), Inv X pins σ H s → CX X.stack H s E e s' → X.xe e s'
section
variable {X : Cx} {CX : CXT} {k : Nat} {f C : Addr} {fd : FuncData} {ps : List Str} {sp : Sp} {dvs : List V} {ds : List Value} {E : XK} {x m : Str} {p pos apos : Pos} {e o : Expr} {es : List Expr} {ta : TE} {t : TA}
theorem run_fn {pins : List (Addr × Obj)} {σ : St} {H : Hp} {s : Shared} {Q : VK} {us : List Value} {vs : List V} (F : FnOk X.prog X.w X.K X.mg X.base CX k f fd ps sp) (hr : Room k X.A) (hb : Binds X.K fd ps ds) (hd : Vals dvs ds) (hx : Passes CX X E)
    (I : Inv X pins σ H s) (r : Vals vs us) (h : sp (vs ++ dvs) H Q E) : wpAny (model X.prog X.w) X.A (call (.ref f) us) (EP X pins σ Q) X.xe s := by
  have r2 : Vals (vs ++ dvs) (us ++ ds) := r.append hd
  have hl : (us ++ ds).length = ps.length := by rw [← r2.length]; exact F.len _ _ _ _ h
  refine wpAny_call (codeAny_mono (F.run X.A X.stack s H ⟨us, []⟩ (us ++ ds) (vs ++ dvs) Q E hr I.env0 (hb s us I.kIn hl) r2 h) fun r s' hq => ?_)
  cases r with
  | error e => exact hx pins σ H s e s' I hq
  | ok fl =>
    cases fl with
    | ret u => exact I.after hq
    | next => exact False.elim hq
    | brk => exact False.elim hq
    | cont => exact False.elim hq
theorem pe_call (F : FnOk X.prog X.w X.K X.mg X.base CX k f fd ps sp) (hr : Room k X.A) (hg : Gl X x) (hm : X.mg x = some (.ref f)) (hk : PySem.W.keepIn X.K (.ref f) = true) (hb : Binds X.K fd ps ds) (hd : Vals dvs ds) (hx : Passes CX X E)
    (ha : PA X (e :: es) t) (hdb : (x == ("__debug__" : Str)) = false := by decide) (he : starEach (e :: es) X.env = (false, eval e X.env) :: starEach es X.env := by rfl) (hpl : (backTo pos (starEach es X.env)).any (·.1) = false := by rfl) :
    PE X (.Call (.Name x p) (e :: es) [] pos) (tCall sp dvs E t) := by
  intro pins s σ H Q I h
  refine wpAny_Call_Name_kw (ld_glob I hg hm ?_ hdb)
  refine PySem.W.callWith_K (h₀ := X.base) I.ok.mod.kin hk (thn (ha pos pins s σ H _ I h) fun us s1 ⟨vs, H1, I1, r, q⟩ => ⟨I1.kIn, ?_⟩) he hpl
  exact run_fn F hr hb hd hx I1 r q
structure Mk (K : PySem.W.Frag) (C f : Addr) : Prop where
  makes : PySem.W.makesIn K C = true
  init : PySem.W.findIn K (.ref C) "__init__" = some (some (.ref f))
  fn : PySem.W.isFn K (.ref f) = true
  kp : PySem.W.keepIn K (.ref C) = true
theorem run_make {pins : List (Addr × Obj)} {σ : St} {H : Hp} {s : Shared} {Q : VK} {us : List Value} {vs : List V} (M : Mk X.K C f) (F : FnOk X.prog X.w X.K X.mg X.base CX k f fd ps sp) (hr : Room (k + 1) X.A) (hb : Binds X.K fd ps ds) (hd : Vals dvs ds)
    (hx : Passes CX X E) (I : Inv X pins σ H s) (r : Vals vs us)
    (h : ∀ x dx, H x = none → H dx = none → dx ≠ x → sp (.ref x :: (vs ++ dvs)) (upd (upd H dx (.own x)) x (.ins C dx [])) (fun v H2 => v = .non ∧ Q (.ref x) H2) E) :
    wpAny (model X.prog X.w) X.A (call (.ref C) us) (EP X pins σ Q) X.xe s := by
  have hq := h (s.heap.objs.size + 1) s.heap.objs.size (I.hok.fresh (Nat.le_succ _)) (I.hok.fresh (Nat.le_refl _)) (Nat.ne_of_lt (Nat.lt_succ_self _))
  have I2 := Inv.made (C := C) I
  have r2 : Vals (V.ref (s.heap.objs.size + 1) :: (vs ++ dvs)) (Value.ref (s.heap.objs.size + 1) :: (us ++ ds)) := .cons rfl (r.append hd)
  have hl : (Value.ref (s.heap.objs.size + 1) :: us ++ ds).length = ps.length := by
    have e := r2.length
    rw [F.len _ _ _ _ hq] at e
    exact e.symm
  refine wpAny_call (make_map (f := f) I.kIn M.makes M.init (beq_iff_eq.mp M.fn) (codeAny_mono (F.run _ X.stack _ _ ⟨Value.ref (s.heap.objs.size + 1) :: us, []⟩ (Value.ref (s.heap.objs.size + 1) :: (us ++ ds)) _ _ E (hr.make C us [])
    (I2.env0.make C us []) (hb _ (Value.ref (s.heap.objs.size + 1) :: us) I2.kIn hl) r2 hq) fun r s' hq' => ?_))
  cases r with
  | error e => exact hx pins σ _ _ e s' I2 hq'
  | ok fl =>
    cases fl with
    | ret u =>
      obtain ⟨v, H', I3, rv, ev, q3⟩ := I2.after hq'
      subst ev
      exact ⟨rv, ⟨V.ref (s.heap.objs.size + 1), H', I3, rfl, q3⟩⟩
    | next => exact False.elim hq'
    | brk => exact False.elim hq'
    | cont => exact False.elim hq'
theorem pe_make (M : Mk X.K C f) (F : FnOk X.prog X.w X.K X.mg X.base CX k f fd ps sp) (hr : Room (k + 1) X.A) (hg : Gl X x) (hm : X.mg x = some (.ref C)) (hb : Binds X.K fd ps ds) (hd : Vals dvs ds) (hx : Passes CX X E)
    (ha : PA X (e :: es) t) (hdb : (x == ("__debug__" : Str)) = false := by decide) (he : starEach (e :: es) X.env = (false, eval e X.env) :: starEach es X.env := by rfl) (hpl : (backTo pos (starEach es X.env)).any (·.1) = false := by rfl) :
    PE X (.Call (.Name x p) (e :: es) [] pos) (tMake C sp dvs E t) := by
  intro pins s σ H Q I h
  refine wpAny_Call_Name_kw (ld_glob I hg hm ?_ hdb)
  refine PySem.W.callWith_K (h₀ := X.base) I.ok.mod.kin M.kp (thn (ha pos pins s σ H _ I h) fun us s1 ⟨vs, H1, I1, r, q⟩ => ⟨I1.kIn, ?_⟩) he hpl
  exact run_make M F hr hb hd hx I1 r q
end
section
variable {X : Cx} {CX : CXT} {k : Nat} {f C : Addr} {fd : FuncData} {ps ks : List Str} {sp : Sp} {E : XK} {x m : Str} {p pos apos kpos : Pos} {e o : Expr} {es : List Expr} {kws : List Keyword} {te ta : TE} {t tk : TA} {nm : Option Str}
variable {g : List Value → List Value → List Value} {gV : List V → List V → List V}
end
structure FnScope (N P : List Str) (sc : Scope) : Prop where
  kind : sc.kind = .function
  co : sc.isCoroutine = false
  gen : sc.isGenerator = false
  nd : N.Nodup
  pre : N.take P.length = P
  par : ∀ x ∈ P, sc.names.lookup x = some .local ∨ sc.names.lookup x = some .cell
  nofree : ∀ y ∈ sc.names, y.2 ≠ .free
theorem bindL_out {kindOf : Str → Option NameKind} {x : Str} : ∀ {binds : List (Str × Value)} {m : Str → Option Value}, (∀ v, (x, v) ∉ binds) → bindL kindOf binds m x = m x
  | [], _, _ => rfl
  | (n, v) :: r, m, h => by
    unfold bindL
    rw [bindL_out fun w hw => h w (List.mem_cons_of_mem _ hw)]
    split
    · have : x ≠ n := by rintro rfl; exact h v List.mem_cons_self
      simp [this]
    · rfl
theorem bindC_out {kindOf : Str → Option NameKind} {x : Str} : ∀ {binds : List (Str × Value)} {m : Str → Option Value}, (∀ v, (x, v) ∉ binds) → bindC kindOf binds m x = m x
  | [], _, _ => rfl
  | (n, v) :: r, m, h => by
    unfold bindC
    rw [bindC_out fun w hw => h w (List.mem_cons_of_mem _ hw)]
    split
    · rfl
    · have : x ≠ n := by rintro rfl; exact h v List.mem_cons_self
      simp [this]
theorem bindL_get {kindOf : Str → Option NameKind} {x : Str} {v : Value} : ∀ {P : List Str} {vs : List Value} {i : Nat} {m : Str → Option Value}, P.Nodup → P[i]? = some x → vs[i]? = some v → kindOf x = some .local →
    bindL kindOf (P.zip vs) m x = some v
  | [], _, _, _, _, h, _, _ => by simp at h
  | _ :: _, [], _, _, _, _, h, _ => by simp at h
  | p :: P, w :: vs, 0, m, nd, h1, h2, hk => by
    simp at h1 h2; subst h1; subst h2
    show bindL kindOf ((p, w) :: P.zip vs) m p = _
    unfold bindL
    rw [bindL_out fun v hv => (List.nodup_cons.mp nd).1 (List.of_mem_zip hv).1, if_pos hk]
    simp
  | p :: P, w :: vs, i + 1, m, nd, h1, h2, hk => by
    show bindL kindOf ((p, w) :: P.zip vs) m x = _
    unfold bindL
    exact bindL_get (i := i) (List.nodup_cons.mp nd).2 (by simpa using h1) (by simpa using h2) hk
theorem bindC_get {kindOf : Str → Option NameKind} {x : Str} {v : Value} : ∀ {P : List Str} {vs : List Value} {i : Nat} {m : Str → Option Value}, P.Nodup → P[i]? = some x → vs[i]? = some v → kindOf x ≠ some .local →
    bindC kindOf (P.zip vs) m x = some v
  | [], _, _, _, _, h, _, _ => by simp at h
  | _ :: _, [], _, _, _, _, h, _ => by simp at h
  | p :: P, w :: vs, 0, m, nd, h1, h2, hk => by
    simp at h1 h2; subst h1; subst h2
    show bindC kindOf ((p, w) :: P.zip vs) m p = _
    unfold bindC
    rw [bindC_out fun v hv => (List.nodup_cons.mp nd).1 (List.of_mem_zip hv).1, if_neg hk]
    simp
  | p :: P, w :: vs, i + 1, m, nd, h1, h2, hk => by
    show bindC kindOf ((p, w) :: P.zip vs) m x = _
    unfold bindC
    exact bindC_get (i := i) (List.nodup_cons.mp nd).2 (by simpa using h1) (by simpa using h2) hk
def start (N : List Str) (vs : List V) : St := vs.map some ++ List.replicate (N.length - vs.length) none
def cxOf (CX : CXT) (P : Program) (w : World) (K : PySem.W.Frag) (mg : Str → Option Value) (base : Heap) (N : List Str) (qual : Str) (scope : Scope) (f : Addr) (cd : Value) (A : Around) (outer : List Env) (s : Shared) (H : Hp) (E : XK) : Cx where
  prog := P
  w := w
  K := K
  mg := mg
  base := base
  A := A.deeper (envOfC qual scope s.heap.objs.size f cd)
  N := N
  s_0 := s
  H_0 := H
  env := envOfC qual scope s.heap.objs.size f cd
  outer := outer
  stack := envOfC qual scope s.heap.objs.size f cd :: outer
  ex := []
  calm := true
  fn := fun _ => true
  pn := []
  xe := fun e s' => wpAny (model P w) (A.deeper (envOfC qual scope s.heap.objs.size f cd)) (leaving (envOfC qual scope s.heap.objs.size f cd) e) (fun _ s'' => CX outer H s E e s'') (fun e' s'' => CX outer H s E e' s'') s'
theorem cell_has {sc : Scope} {n : Nat} {x : Str} (h : sc.names.lookup x = some .cell) : ∃ c, (cellsFrom n sc.names []).lookup x = some c := by
  have q := PySem.W.cellsFrom_some sc.names n [] (.inl h)
  exact Option.isSome_iff_exists.mp q
theorem inv_start {CX : CXT} {P : Program} {w : World} {K : PySem.W.Frag} {mg : Str → Option Value} {base : Heap} {N ps : List Str} {qual : Str} {scope : Scope} {f : Addr} {cd : Value} {A : Around} {outer : List Env} {s s1 : Shared} {H : Hp} {E : XK} {us : List Value} {vs : List V}
    (S : FnScope N ps scope) (hd : A.handled = none) (e0 : Env0 P w K mg base A outer s H) (hl : vs.length = ps.length) (r : Vals vs us)
    (x : InCallC s s.heap.objs.size (bindL (envOfC qual scope s.heap.objs.size f cd).kindOf (ps.zip us) fun _ => none) (cellsFrom (s.heap.objs.size + 1) scope.names []) (bindC (envOfC qual scope s.heap.objs.size f cd).kindOf (ps.zip us) fun _ => none) s1) :
    Inv (cxOf CX P w K mg base N qual scope f cd A outer s H E) [] (start N vs) H s1 := by
  have hpl : ps.length ≤ N.length := by have := congrArg List.length S.pre; rw [List.length_take] at this; omega
  obtain ⟨h1, tk, rfl, hk⟩ := x.done
  have noA : ∀ b : Addr, b ∉ (cxOf CX P w K mg base N qual scope f cd A outer s H E).ex := fun b z => absurd (show b ∈ ([] : List Addr) from z) (by simp)
  refine ⟨⟨e0.mod, S.kind, rfl, rfl, Nat.le_refl _, fun y z c h1 h2 => ?_, fun y hy => ?_, fun y c _ h => ?_, fun _ => hd, Around.frames_deeper e0.frames, .inr ⟨rfl, rfl⟩, fun b z => absurd z (noA b), e0.bs, e0.bsz, fun b _ _ => noA b, fun b z => absurd z (noA b), e0.funs, e0.frf⟩,
    rfl, e0.bare, Un.kept hk, ⟨_, x.toInCall.ns, fun i y v h1 h2 h3 => ?_⟩, fun y c h => ⟨_, x.cell y c h⟩, e0.hok.fresh (Nat.le_refl _), fun y c h => ?_, fun p hp => absurd (show p ∈ ([] : List (Addr × Obj)) from hp) (by simp), e0.hok.kept hk, ?_⟩
  · exact name_of_addr x.apart (PySem.mem_of_lookup h1) (PySem.mem_of_lookup h2)
  · have hy : scope.names.lookup y = some .cell ∨ scope.names.lookup y = some .free := hy
    rcases hy with hy | hy
    · exact cell_has hy
    · exact absurd rfl (S.nofree _ (PySem.mem_of_lookup hy))
  · exact Nat.le_of_lt (x.above y c (PySem.mem_of_lookup h))
  · have hi : i < vs.length := by
      unfold start at h2
      by_cases hi : i < vs.length
      · exact hi
      · rw [List.getElem?_append_right (by simpa using hi)] at h2
        rw [List.getElem?_replicate] at h2
        split at h2 <;> cases h2
    have ha : vs[i]? = some v := by
      unfold start at h2
      rw [List.getElem?_append_left (by simpa using hi), List.getElem?_map] at h2
      cases e : vs[i]? with
      | none => rw [e] at h2; cases h2
      | some a => rw [e] at h2; cases h2; rfl
    obtain ⟨u, hu, rv⟩ := r.get ha
    have hp : ps[i]? = some y := by
      rw [← S.pre, List.getElem?_take_of_lt (by omega)]; exact h1
    have ndP : ps.Nodup := by rw [← S.pre]; exact S.nd.sublist (List.take_sublist _ _)
    refine ⟨u, rv, ?_⟩
    rcases S.par y (List.mem_of_getElem? hp) with k | k
    · exact .inl ⟨k, bindL_get ndP hp hu k⟩
    · obtain ⟨c, e⟩ := cell_has (n := s.heap.objs.size + 1) k
      refine .inr ⟨.inl k, c, e, ?_⟩
      have q := x.cell y c e
      rw [bindC_get ndP hp hu (by show scope.names.lookup y ≠ _; rw [k]; decide)] at q
      exact q
  · exact e0.hok.fresh (Nat.le_of_lt (x.above y c (PySem.mem_of_lookup h)))
  · unfold start
    show _ = N.length
    rw [List.length_append, List.length_map, List.length_replicate]
    omega
theorem fn_of {CX : CXT} {P : Program} {w : World} {K : PySem.W.Frag} {mg : Str → Option Value} {base : Heap} {k : Nat} {f : Addr} {name qual : Str} {params : Arguments} {body : List Stmt} {scope : Scope} {dV kV doc pm cdv ct oc : Value} {an od : Option Addr}
    {osl : Array (Option Value)} {N ps : List Str} {sp : Sp} (lk : K.lookup f = some ⟨oc, od, .func (PySem.W.fnOf name qual params body scope dV kV doc pm an cdv ct), osl⟩) (hcd : PySem.W.codeIn K cdv qual = true) (S : FnScope N ps scope)
    (len : ∀ vs H Q E, sp vs H Q E → vs.length = ps.length)
    (hbody : ∀ (A : Around) (outer : List Env) (s : Shared) (H : Hp) (vs : List V) (Q : VK) (E : XK), Room k (A.deeper (envOfC qual scope s.heap.objs.size f cdv)) → sp vs H Q E →
      ∃ t, PSs (cxOf CX P w K mg base N qual scope f cdv A outer s H E) body t ∧ t { nx := fun _ H' => Q .non H', rt := Q } (start N vs) H) :
    FnOk P w K mg base CX (k + 1) f (PySem.W.fnOf name qual params body scope dV kV doc pm an cdv ct) ps sp := by
  refine ⟨len, fun A outer s H args us vs Q E hr e0 hb r hsp => ?_⟩
  have hl := len _ _ _ _ hsp
  have KX : K.In s.heap := e0.mod.kin.keeps fun b o e => (e0.bs b o e).1
  have lim : s.heap.NoLimit := e0.mod.nolimit.keeps fun b o e => (e0.bs b o e).1
  have hkind : ∀ y ∈ ps.zip us, scope.names.lookup y.1 = some .local ∨ (scope.names.lookup y.1 = some .cell ∧ ((cellsFrom (s.heap.objs.size + 1) scope.names []).lookup y.1).isSome = true) := fun ⟨n, v⟩ hy => by
    rcases S.par n (List.of_mem_zip hy).1 with q | q
    · exact .inl q
    · exact .inr ⟨q, PySem.W.cellsFrom_some _ _ _ (.inl q)⟩
  refine codeAny_call_function hr.depth (KX _ _ lk) rfl S.co S.gen rfl (PySem.W.codeRec_of KX hcd) (hb _ _ _ _ ?_)
  refine wpAny_newFunctionEnv_cells S.kind hkind fun env he s1 x => ?_
  subst he
  refine ⟨lim.keeps x.toInCall.keep, codeAny_func ?_⟩
  obtain ⟨t, ht, hq⟩ := hbody A outer s H vs Q E (hr.deeper _) hsp
  have I : Inv (cxOf CX P w K mg base N qual scope f cdv A outer s H E) [] (start N vs) H s1 := inv_start S hr.hd e0 hl r x
  refine wpAny_mono (ht [] s1 (start N vs) H _ I hq) (fun fl s' hs => ?_) fun e s' hs => hs
  have fin : ∀ {σ' : St} {H' : Hp} {v : V} {u : Value}, Inv (cxOf CX P w K mg base N qual scope f cdv A outer s H E) [] σ' H' s' → RelV v u → Q v H' → CE outer P w H s Q u s' :=
    fun {σ' H' v u} J rv q => ⟨v, H', J.os, J.bare, J.base, J.hok, rv, q⟩
  cases fl with
  | ret u =>
    obtain ⟨v, σ', H', J, rv, q⟩ := hs
    exact fin J rv q
  | next =>
    obtain ⟨σ', H', J, q⟩ := hs
    exact fin (v := V.non) (u := Value.none) J rfl q
  | brk =>
    obtain ⟨_, _, _, q⟩ := hs
    exact False.elim q
  | cont =>
    obtain ⟨_, _, _, q⟩ := hs
    exact False.elim q
end L2
namespace L2
open PySem PySem.Spec PyProof.Rows
section
variable {X : Cx} {x : Str} {p pos : Pos} {e : Expr} {es : List Expr} {t : TA} {id T : String} {r : List V → Hp → VK → Prop}
def tCB (r : List V → Hp → VK → Prop) (t : TA) : TE := fun σ H Q => t σ H fun vs H1 => r vs H1 Q
theorem pe_callB (hc : CallR X (.builtin id) r) (hg : Gl X x) (hm : X.mg x = none) (hv : bootBuiltins x = some (.builtin id)) (ha : PA X (e :: es) t) (hn : x ≠ "__name__" := by decide) (hdb : (x == ("__debug__" : Str)) = false := by decide)
    (he : starEach (e :: es) X.env = (false, eval e X.env) :: starEach es X.env := by rfl) (hpl : (backTo pos (starEach es X.env)).any (·.1) = false := by rfl) : PE X (.Call (.Name x p) (e :: es) [] pos) (tCB r t) := by
  intro pins s σ H Q I h
  refine wpAny_Call_Name_kw (ld_blt I hg hm hv ?_ hn hdb)
  exact PyProof.Rows.callWith_builtin1 (thn (ha pos pins s σ H _ I h) fun us s1 ⟨vs, H1, I1, r1, q1⟩ => hc pins s1 σ H1 vs us Q I1 r1 q1) he hpl
end
end L2
namespace HT
open PySem PyProof.Rows
section
open PySem.SeqAt
open PySem.AutoSeq1 (wpAny_loadPart')
open PySem.MeetsSeq PySem.MeetsSeq2 PySem.MeetsSeq3
end
section
variable {prog : Program} {w : World} {A : Around} {E : Value → Shared → Prop} {s : Shared}
end
end HT
namespace L2
open PySem PySem.Spec PyProof.Rows
abbrev TO := St → Hp → (Option Int → Hp → Prop) → Prop
section
variable {X : Cx} {e : Expr} {te : TE} {lo hi : Option Expr} {tl th : TO} {pos p2 : Pos}
def SlR (X : Cx) (r : V → Option Int → Option Int → Hp → VK → Prop) : Prop :=
  ∀ (pins : List (Addr × Obj)) (s : Shared) (σ : St) (H : Hp) (x : V) (v vl vu : Value) (lo hi : Option Int) (sl : Addr) (Q : VK), Inv X pins σ H s → RelV x v → s.heap.IsSliceOf sl vl vu .none → IsPart vl lo → IsPart vu hi → r x lo hi H Q →
    ∃ T id, typeLookup (.type T) "__getitem__" = pure (some (.builtin id)) ∧ s.TypeIs v T ∧ wpAny (model X.prog X.w) X.A (getItem v (.ref sl)) (EP X pins σ Q) X.xe s
theorem SlR.or {r r' : V → Option Int → Option Int → Hp → VK → Prop} (h : SlR X r) (h' : SlR X r') : SlR X (fun x lo hi H Q => r x lo hi H Q ∨ r' x lo hi H Q) := by
  intro pins s σ H x v vl vu lo hi sl Q I rx hs pl pu q
  rcases q with q | q
  · exact h pins s σ H x v vl vu lo hi sl Q I rx hs pl pu q
  · exact h' pins s σ H x v vl vu lo hi sl Q I rx hs pl pu q
end
end L2
namespace L2
open PySem PySem.Spec PyProof.Rows
def ixN (n : Nat) (i : Int) : Option Nat := if 0 ≤ i then (if i < n then some i.toNat else none) else if -(n : Int) ≤ i then some (i + n).toNat else none
def atI {α : Type} (xs : List α) (i : Int) : Option α := (ixN xs.length i).bind fun j => xs[j]?
theorem ixN_seq {n : Nat} {i : Int} {j : Nat} (h : ixN n i = some j) : seqIndex? i n = some j ∧ j < n ∧ -(n : Int) ≤ i ∧ i < n := by
  unfold ixN at h
  by_cases h0 : 0 ≤ i
  · rw [if_pos h0] at h
    by_cases h1 : i < n
    · rw [if_pos h1] at h
      have e : i.toNat = j := Option.some.inj h
      exact ⟨by rw [seqIndex_of h0 h1, e], by omega, by omega, h1⟩
    · rw [if_neg h1] at h; cases h
  · rw [if_neg h0] at h
    by_cases h1 : -(n : Int) ≤ i
    · rw [if_pos h1] at h
      have e : (i + n).toNat = j := Option.some.inj h
      exact ⟨by rw [seqIndex_neg (by omega) h1, e], by omega, h1, by omega⟩
    · rw [if_neg h1] at h; cases h
theorem atI_get {α : Type} {xs : List α} {i : Int} {v : α} (h : atI xs i = some v) : ∃ j, seqIndex? i xs.length = some j ∧ xs[j]? = some v ∧ j < xs.length ∧ -(xs.length : Int) ≤ i ∧ i < xs.length := by
  unfold atI at h
  cases e : ixN xs.length i with
  | none => rw [e] at h; cases h
  | some j =>
    rw [e] at h
    obtain ⟨h1, h2, h3, h4⟩ := ixN_seq e
    exact ⟨j, h1, h, h2, h3, h4⟩
theorem atI_nat {α : Type} {xs : List α} {j : Nat} {v : α} (h : xs[j]? = some v) : atI xs (j : Int) = some v := by
  have hj : j < xs.length := (List.getElem?_eq_some_iff.mp h).1
  have e : ixN xs.length (j : Int) = some j := by
    unfold ixN
    rw [if_pos (by omega), if_pos (by omega)]; simp
  unfold atI; rw [e]; exact h
def PlainIx (b : Expr) : Prop := ∀ o i, subscripted b false o i = operate [o, i] (getItem o i)
def IxR (X : Cx) (r : R2) : Prop :=
  ∀ (value slice : Expr) (pins : List (Addr × Obj)) (s : Shared) (σ : St) (H : Hp) (x y : V) (v u : Value) (Q : VK), Inv X pins σ H s → RelV x v → RelV y u → r x y H Q →
    subscripted slice false v u = operate [v, u] (getItem v u) → wpAny (model X.prog X.w) X.A (subscriptTail value slice v u) (EP X pins σ Q) X.xe s
def MtR (X : Cx) (id : String) (r : V → List V → Hp → VK → Prop) : Prop :=
  ∀ (pins : List (Addr × Obj)) (s : Shared) (σ : St) (H : Hp) (x : V) (xs : List V) (v : Value) (us : List Value) (Q : VK), Inv X pins σ H s → RelV x v → Vals xs us → r x xs H Q →
    wpAny (model X.prog X.w) X.A (call (.builtin id) (v :: us)) (EP X pins σ Q) X.xe s
section
variable {X : Cx} {a b : Expr} {ta tb : TE} {pos : Pos}
theorem IxR.or {r r' : R2} (h : IxR X r) (h' : IxR X r') : IxR X (fun x y H Q => r x y H Q ∨ r' x y H Q) := by
  intro value slice pins s σ H x y v u Q I rx ry q hs
  rcases q with q | q
  · exact h value slice pins s σ H x y v u Q I rx ry q hs
  · exact h' value slice pins s σ H x y v u Q I rx ry q hs
theorem MtR.or {id : String} {r r' : V → List V → Hp → VK → Prop} (h : MtR X id r) (h' : MtR X id r') : MtR X id (fun x xs H Q => r x xs H Q ∨ r' x xs H Q) := by
  intro pins s σ H x xs v us Q I rx rs q
  rcases q with q | q
  · exact h pins s σ H x xs v us Q I rx rs q
  · exact h' pins s σ H x xs v us Q I rx rs q
theorem pe_ix {r : R2} (hr : IxR X r) (ha : PE X a ta) (hb : PE X b tb) (hs : PlainIx b) : PE X (.Subscript a b pos) (tOp r ta tb) := by
  intro pins s σ H Q I h
  exact Subscript_ (binT ha hb I h fun v u s2 x y H2 I2 rx ry q => hr a b pins s2 σ H2 x y v u Q I2 rx ry q (hs _ _))
def rIxL (K : PySem.W.Frag) : R2 := fun x y H Q => ∃ p xs i v, x = .ref p ∧ y = .int i ∧ SqL K H p xs ∧ atI xs i = some v ∧ Q v H
theorem ix_list : IxR X (rIxL X.K) := by
  intro value slice pins s σ H x y v u Q I rx ry h hs
  obtain ⟨p, xs, i, z, rfl, rfl, hq, he, q⟩ := h
  cases rx
  obtain ⟨t, rfl⟩ := ry
  obtain ⟨its, r, pl, hz⟩ := I.list hq
  obtain ⟨j, h1, h2, h3, h4, h5⟩ := atI_get he
  obtain ⟨w, ew, rw'⟩ := r.get h2
  have hl := r.length
  have hn := line63
  have fin : EP X pins σ Q w s := ⟨z, H, I, rw', q⟩
  by_cases h0 : 0 ≤ i
  · have hj : i.toNat = j := by
      rw [seqIndex_of h0 h5] at h1
      exact Option.some.inj h1
    exact item_listR pl.isList h0 (by omega) (by rw [hj]; simpa using ew) fin hs
  · have hj : (i + (its.toArray.size : Int)).toNat = j := by
      rw [seqIndex_neg (by omega) h4] at h1
      rw [List.size_toArray, ← hl]
      exact Option.some.inj h1
    exact subscriptTail_builtinR (x := w) pl.isList.typeIs slot_list_getitem.lookup
      (wpAny_getItem_list_neg (Q := fun r s' => r = w ∧ EP X pins σ Q r s') pl.isList (by omega) (by rw [List.size_toArray] <;> omega) (by omega) (by rw [hj]; simpa using ew) ⟨rfl, fin⟩) hs
theorem mapSeq_set (its : List Value) (n j : Nat) (u : Value) : Obj.mapSeq (·.setIfInBounds j u) { cls := .type "list", data := .seq its.toArray n } = { cls := .type "list", data := .seq (its.set j u).toArray n } := by
  simp [Obj.mapSeq]
theorem Inv.lst {pins : List (Addr × Obj)} {σ : St} {H : Hp} {s : Shared} {p : Addr} {xs : List V} (I : Inv X pins σ H s) (h : H p = some (.lst xs)) :
    ∃ (its : List Value) (n : Nat), Vals xs its ∧ s.heap.get? p = some { cls := .type "list", data := .seq its.toArray n } ∧ xs.length ≤ sizeLine := by
  obtain ⟨z, its, n, r, e⟩ := I.hok p _ h
  exact ⟨its, n, r, e, z⟩
theorem Inv.lstUpd {pins : List (Addr × Obj)} {σ : St} {H : Hp} {s : Shared} {p : Addr} {xs ys : List V} {its its' : List Value} {n n' : Nat} {f : Obj → Obj} (I : Inv X pins σ H s) (h : H p = some (.lst xs))
    (ho : s.heap.get? p = some { cls := .type "list", data := .seq its.toArray n }) (hf : f { cls := .type "list", data := .seq its.toArray n } = { cls := .type "list", data := .seq its'.toArray n' }) (r : Vals ys its') (hz : ys.length ≤ sizeLine) (t : Nat) :
    Inv X pins σ (upd H p (.lst ys)) { s with heap := s.heap.update p f, toks := t } := by
  have e : (s.heap.update p f).get? p = some { cls := .type "list", data := .seq its'.toArray n' } := by
    rw [Heap.get?_update_self f ho (by rw [hf] <;> rfl), hf]
  refine I.write (x := p) (e := p) (by rw [h]; trivial) (.inl rfl) (fun b u hb q => (Heap.get?_update_other _ _ (Ne.symm hb)).trans q) ⟨_, e⟩ ?_
  exact ⟨hz, its', n', r, e⟩
def rSetL : V → V → V → Hp → (Hp → Prop) → Prop := fun o i v H Q => ∃ p xs k j, o = .ref p ∧ i = .int k ∧ H p = some (.lst xs) ∧ ixN xs.length k = some j ∧ Q (upd H p (.lst (xs.set j v)))
theorem set_list : PSet X rSetL := by
  intro pins s σ H o i v ov iv u Q I ro ri rv h
  obtain ⟨p, xs, k, j, rfl, rfl, hp, hj, q⟩ := h
  cases ro
  obtain ⟨t, rfl⟩ := ri
  obtain ⟨its, n, r, ho, hz⟩ := I.lst hp
  obtain ⟨h1, h2, h3, h4⟩ := ixN_seq hj
  have hl := r.length
  have hn := line63
  have I' : Inv X pins σ (upd H p (.lst (xs.set j v))) { s with heap := s.heap.update p (Obj.mapSeq (·.setIfInBounds j u)) } :=
    I.lstUpd hp ho (mapSeq_set its n j u) (r.set rv j) (by rw [List.length_set]; exact hz) s.toks
  by_cases h0 : 0 ≤ k
  · have hk : k.toNat = j := by
      rw [seqIndex_of h0 h4] at h1
      exact Option.some.inj h1
    exact PySem.W.ki_setAt ho h0 (by omega) (by rw [List.size_toArray, ← hl]; exact h4) (by rw [hk]; exact ⟨_, I', q⟩)
  · have hk : (k + (its.toArray.size : Int)).toNat = j := by
      rw [seqIndex_neg (by omega) h3] at h1
      rw [List.size_toArray, ← hl]
      exact Option.some.inj h1
    exact PySem.W.ki_setBack ho (by omega) (by rw [List.size_toArray, ← hl]; exact h3) (by omega) (by rw [hk]; exact ⟨_, I', q⟩)
def flatV : V → Bool
  | .non => true
  | .bl _ => true
  | .int _ => true
  | .str _ => true
  | _ => false
def eqV : V → V → Bool
  | .non, .non => true
  | .bl a, .bl b => a == b
  | .bl a, .int b => (if a then 1 else 0) == b
  | .int a, .bl b => a == (if b then 1 else 0)
  | .int a, .int b => a == b
  | .str a, .str b => a == b
  | _, _ => false
theorem eqAt_V {A : Around} {s : Shared} {y x : V} {u v : Value} (ry : RelV y u) (rx : RelV x v) (fy : flatV y = true) (fx : flatV x = true) : SeqAt.EqAt A s u v (eqV y x) := by
  cases y with
  | non =>
    cases ry
    cases x with
    | non => cases rx; exact SeqAt.EqAt.same _
    | bl b => cases rx; exact SeqAt.EqAt.none_bool b
    | int b => obtain ⟨t, rfl⟩ := rx; exact SeqAt.EqAt.none_int b t
    | str b => obtain ⟨t, rfl⟩ := rx; exact SeqAt.EqAt.none_str b t
    | _ => exact absurd (show false = true from fx) Bool.false_ne_true
  | bl a =>
    cases ry
    cases x with
    | non => cases rx; exact SeqAt.EqAt.bool_none a
    | bl b => cases rx; exact SeqAt.EqAt.bool_bool a b
    | int b => obtain ⟨t, rfl⟩ := rx; exact SeqAt.EqAt.bool_int a b t
    | str b => obtain ⟨t, rfl⟩ := rx; exact SeqAt.EqAt.bool_str a b t
    | _ => exact absurd (show false = true from fx) Bool.false_ne_true
  | int a =>
    obtain ⟨t', rfl⟩ := ry
    cases x with
    | non => cases rx; exact SeqAt.EqAt.int_none a t'
    | bl b => cases rx; exact SeqAt.EqAt.int_bool a t' b
    | int b => obtain ⟨t, rfl⟩ := rx; exact SeqAt.EqAt.int_int a t' b t
    | str b => obtain ⟨t, rfl⟩ := rx; exact SeqAt.EqAt.int_str a t' b t
    | _ => exact absurd (show false = true from fx) Bool.false_ne_true
  | str a =>
    obtain ⟨t', rfl⟩ := ry
    cases x with
    | non => cases rx; exact SeqAt.EqAt.str_none a t'
    | bl b => cases rx; exact SeqAt.EqAt.str_bool a t' b
    | int b => obtain ⟨t, rfl⟩ := rx; exact SeqAt.EqAt.str_int a t' b t
    | str b => obtain ⟨t, rfl⟩ := rx; exact SeqAt.EqAt.str_str a t' b t
    | _ => exact absurd (show false = true from fx) Bool.false_ne_true
  | _ => exact absurd (show false = true from fy) Bool.false_ne_true
def eqU (x : V) (u : Value) : Bool := match u with
  | .none => eqV .non x
  | .bool b => eqV (.bl b) x
  | .int i _ => eqV (.int i) x
  | .str z _ => eqV (.str z) x
  | _ => false
theorem eqU_of {x y : V} {u : Value} (r : RelV y u) (f : flatV y = true) : eqU x u = eqV y x := by
  cases y with
  | non => cases r; rfl
  | bl b => cases r; rfl
  | int i => obtain ⟨t, rfl⟩ := r; rfl
  | str z => obtain ⟨t, rfl⟩ := r; rfl
  | _ => exact absurd (show false = true from f) Bool.false_ne_true
theorem any_eqU {x : V} : ∀ {xs : List V} {us : List Value}, Vals xs us → xs.all flatV = true → us.any (eqU x) = xs.any fun y => eqV y x
  | _, _, .nil, _ => rfl
  | y :: xs, u :: us, .cons r t, f => by
    rw [List.all_cons, Bool.and_eq_true] at f
    rw [List.any_cons, List.any_cons, eqU_of r f.1, any_eqU t f.2]
theorem mem_eqAt {A : Around} {s : Shared} {x : V} {v : Value} (rx : RelV x v) (fx : flatV x = true) : ∀ {xs : List V} {us : List Value}, Vals xs us → xs.all flatV = true → ∀ u ∈ us, SeqAt.EqAt A s u v (eqU x u)
  | _, _, .nil, _ => fun u hu => by cases hu
  | y :: xs, u :: us, .cons r t, f => fun u' hu => by
    rw [List.all_cons, Bool.and_eq_true] at f
    rcases List.mem_cons.mp hu with rfl | hu
    · rw [eqU_of r f.1]; exact eqAt_V r rx f.1 fx
    · exact mem_eqAt rx fx t f.2 u' hu
def inV (x : V) (xs : List V) : Bool := xs.any fun y => eqV y x
def rIn (K : PySem.W.Frag) (neg : Bool) : R2 := fun x y H Q => ∃ p xs, y = .ref p ∧ (SqL K H p xs ∨ SqT K H p xs) ∧ flatV x = true ∧ xs.all flatV = true ∧ Q (.bl (if neg then !inV x xs else inV x xs)) H
theorem op_in_seq : OpR X (compareOp .In) (rIn X.K false) := by
  intro pins s σ H x y v u Q I rx ry h
  obtain ⟨p, xs, rfl, hq, fx, fs, q⟩ := h
  cases ry
  rcases hq with hq | hq
  · obtain ⟨its, r, pl, hz⟩ := I.list hq
    refine SeqAt.in_listAt (eqU x) pl.isList (fun w hw => mem_eqAt rx fx r fs w (by simpa using hw)) ⟨.bl _, H, I, rfl, ?_⟩
    rw [show its.toArray.any (eqU x) = its.any (eqU x) by simp, any_eqU r fs]
    exact q
  · obtain ⟨its, r, pl, hz⟩ := I.tuple hq
    refine SeqAt.in_tupleAt (eqU x) pl (fun w hw => mem_eqAt rx fx r fs w (by simpa using hw)) ⟨.bl _, H, I, rfl, ?_⟩
    rw [show its.toArray.any (eqU x) = its.any (eqU x) by simp, any_eqU r fs]
    exact q
theorem call_len_seq : CallR X (.builtin "len") (fun xs H Q => ∃ p ys, xs = [.ref p] ∧ (SqL X.K H p ys ∨ SqT X.K H p ys) ∧ Q (.int ys.length) H) := by
  intro pins s σ H xs us Q I r h
  obtain ⟨p, ys, rfl, hq, q⟩ := h
  obtain ⟨u, rfl, rx⟩ := vals1 r
  cases rx
  have hn := line63
  rcases hq with hq | hq
  · obtain ⟨its, r', pl, hz⟩ := I.list hq
    have hlen := r'.length
    exact Calls.call_len_list pl.isList (by simp only [List.size_toArray] <;> omega) ⟨.int ys.length, H, I.tok _, ⟨s.toks + 1, by rw [List.size_toArray, hlen]⟩, q⟩
  · obtain ⟨its, r', pl, hz⟩ := I.tuple hq
    have hlen := r'.length
    exact len_tuple pl (by simp only [List.size_toArray] <;> omega) ⟨.int ys.length, H, I.tok _, ⟨s.toks + 1, by rw [List.size_toArray, hlen]⟩, q⟩
theorem CallR.or {f : Value} {r r' : List V → Hp → VK → Prop} (h : CallR X f r) (h' : CallR X f r') : CallR X f (fun xs H Q => r xs H Q ∨ r' xs H Q) := by
  intro pins s σ H xs us Q I rs q
  rcases q with q | q
  · exact h pins s σ H xs us Q I rs q
  · exact h' pins s σ H xs us Q I rs q
variable {o e : Expr} {es : List Expr} {to : TE} {t : TA} {name : Str} {apos cpos : Pos} {T id : String} {r : V → List V → Hp → VK → Prop}
end
end L2
namespace L2
open PySem PySem.Spec PyProof.Rows
theorem Vals.one : ∀ {x : V} {us : List Value}, Vals [x] us → ∃ u, us = [u] ∧ RelV x u
  | _, _, .cons r .nil => ⟨_, rfl, r⟩
theorem Vals.zero : ∀ {us : List Value}, Vals [] us → us = []
  | _, .nil => rfl
section
variable {X : Cx} {pins : List (Addr × Obj)} {σ : St} {H : Hp} {s : Shared} {l b : Addr} {xs ys zs : List V}
theorem Inv.lnew {its : List Value} {t' : Nat} (I : Inv X pins σ H s) (hv : Vals ys its) (hz : ys.length ≤ sizeLine) :
    Inv X pins σ (upd H s.heap.objs.size (.lst ys)) { s with heap := s.heap.push { cls := .type "list", data := .seq its.toArray }, toks := t' } :=
  I.laid (fun _ _ q => Heap.get?_push_of_some _ q) (Nat.le_refl _) ⟨hz, its, 0, hv, Heap.get?_push_size _ rfl⟩
theorem Inv.fresh (I : Inv X pins σ H s) : H s.heap.objs.size = none := I.hok.fresh (Nat.le_refl _)
theorem Inv.lstM (I : Inv X pins σ H s) (hH : H l = some (.lst xs)) : xs.length ≤ sizeLine ∧ ∃ (its : List Value) (n : Nat), Vals xs its ∧ xs.length = its.length ∧ s.heap.get? l = some { cls := .type "list", data := .seq its.toArray n } := by
  obtain ⟨z, its, n, r, e⟩ := I.hok l _ hH
  exact ⟨z, its, n, r, r.length, e⟩
end
section
variable {X : Cx}
def rCat : R2 := fun x y H Q => ∃ l b xs zs, x = .ref l ∧ y = .ref b ∧ H l = some (.lst xs) ∧ H b = some (.lst zs) ∧ xs.length + zs.length ≤ sizeLine ∧ ∀ p, H p = none → Q (.ref p) (upd H p (.lst (xs ++ zs)))
theorem op_cat : OpR X (binaryOp .Add) rCat := by
  intro pins s σ H x y v u Q I rx ry h
  obtain ⟨l, b, xs, zs, rfl, rfl, hH, hB, hz, q⟩ := h
  cases rx
  cases ry
  obtain ⟨z, its, n, r, hl, e⟩ := I.lstM hH
  obtain ⟨z2, its2, n2, r2, hl2, e2⟩ := I.lstM hB
  refine PySem.P.add_list e e2 ?_ (by rw [List.size_toArray, List.size_toArray]; omega)
  have ea : its.toArray ++ its2.toArray = (its ++ its2).toArray := by simp
  rw [ea]
  exact ⟨.ref _, _, I.lnew (t' := s.toks) (r.append r2) (by rw [List.length_append]; omega), rfl, q _ I.fresh⟩
end
section
variable {prog : Program} {w : World} {A : Around} {E : Value → Shared → Prop} {s : Shared}
set_option maxRecDepth 100000 in
end
section
variable {X : Cx}
end
end L2
namespace L2
open PySem PySem.Spec PyProof.Rows
theorem Vals.ints : ∀ {ns : List Int} {us : List Value}, Vals (ns.map V.int) us → IntsAre us ns
  | [], us, h => by
    rw [List.map_nil] at h
    cases h
    exact IntsAre.nil
  | n :: ns, us, h => by
    rw [List.map_cons] at h
    cases h with
    | cons r t =>
      obtain ⟨k, rfl⟩ := r
      exact IntsAre.cons n k (Vals.ints t)
theorem Vals.strs : ∀ {xs : List Str} {us : List Value}, Vals (xs.map V.str) us → StrsAre us xs
  | [], us, h => by
    rw [List.map_nil] at h
    cases h
    exact StrsAre.nil
  | x :: xs, us, h => by
    rw [List.map_cons] at h
    cases h with
    | cons r t =>
      obtain ⟨k, rfl⟩ := r
      exact StrsAre.cons x k (Vals.strs t)
theorem Vals.bls : ∀ {bs : List Bool} {us : List Value}, Vals (bs.map V.bl) us → us = bs.map Value.bool
  | [], us, h => by
    rw [List.map_nil] at h
    cases h
    rfl
  | b :: bs, us, h => by
    rw [List.map_cons] at h
    cases h with
    | cons r t =>
      cases r
      rw [Vals.bls t, List.map_cons]
theorem Vals.ref1 {a : Addr} {us : List Value} (r : Vals [V.ref a] us) : us = [Value.ref a] := by
  cases r with
  | cons r t =>
    cases t
    cases r
    rfl
section
variable {prog : Program} {w : World} {A : Around} {E : Value → Shared → Prop} {s : Shared} {l : Addr} {its : List Value} {ns : List Int} {Q : Value → Shared → Prop}
end
section
variable {X : Cx}
end
section
variable {X : Cx}
end
section
variable {X : Cx}
end
theorem iter_any {prog : Program} {w : World} {A : Around} {E : Value → Shared → Prop} {s : Shared} {l : Addr} {items : Array Value} {Q : Value → Shared → Prop} (hl : s.heap.IsList l items)
    (h : ∀ s₂ : Shared, s₂ = { s with heap := s.heap.push { cls := .type "list_iterator", data := .fields #[.ref l, .int 0 0] } } →
      (s₂.heap.IsListIter s.heap.objs.size l 0 ∧ s₂.heap.IsList l items) → l ≠ s.heap.objs.size → Q (.ref s.heap.objs.size) s₂) : wpAny (model prog w) A (pyIter (.ref l)) Q E s := by
  have hlt : l < s.heap.objs.size := by obtain ⟨_, e, _⟩ := hl; exact Heap.lt_size e
  exact wpAny_pyIter_list hl (h _ rfl ⟨⟨_, Heap.get?_push_size _ rfl, rfl, rfl⟩, hl.push _⟩ (Nat.ne_of_lt hlt))
theorem truth_bools {prog : Program} {w : World} {A : Around} {bs : List Bool} {its : List Value} (e : its = bs.map Value.bool) :
    TruthOf prog w A (fun i v => its.toArray[i]? = some v) (fun i => bs.getD i false) := fun i v s Q E hv hq => by
  have hv' : its[i]? = some v := by simpa using hv
  rw [e, List.getElem?_map] at hv'
  obtain ⟨b, hb, rfl⟩ := Option.map_eq_some_iff.mp hv'
  have hg : bs.getD i false = b := by rw [List.getD_eq_getElem?_getD, hb] <;> rfl
  have hq' : Q (bs.getD i false) s := hq
  rw [hg] at hq'
  exact wpAny_truthy_bool hq'
theorem all_range : ∀ bs : List Bool, (List.range bs.length).all (fun i => bs.getD i false) = bs.all id
  | [] => rfl
  | b :: bs => by
    rw [List.length_cons, List.range_succ_eq_map, List.all_cons, List.all_map, List.all_cons, ← all_range bs]
    all_goals rfl
section
variable {X : Cx}
def rAll (K : PySem.W.Frag) : List V → Hp → VK → Prop := fun vs H Q => ∃ (a : Addr) (bs : List Bool), vs = [V.ref a] ∧ SqL K H a (bs.map V.bl) ∧ Q (.bl (bs.all id)) H
theorem cr_all (hc : X.calm = true) : CallR X (.builtin "all") (rAll X.K) := by
  intro pins s σ H vs us Q I r h
  obtain ⟨a, bs, rfl, hs, q⟩ := h
  obtain ⟨its, rv, hl, _⟩ := I.list hs
  rw [Vals.ref1 r]
  have hb := rv.bls
  refine call_all_walk (iter_any hl.isList fun s₂ e2 st hne => ?_)
  subst e2
  refine ⟨_, _, _, _, _, _, _, rfl, Walks.list (A := X.A.in1) (I.ok.hd hc) _ a hne its.toArray, st, truth_bools hb, fun h' tk hk => ?_⟩
  refine ⟨.bl _, H, I.kept fun b o eo => hk b o (fun hmem => ?_) (Heap.get?_push_of_some _ eo), ?_, q⟩
  · rcases List.mem_cons.mp hmem with e1 | hmem
    · exact absurd (e1 ▸ Heap.lt_size eo) (Nat.lt_irrefl _)
    · cases hmem
  · show Value.bool _ = Value.bool _
    rw [← all_range, hb, List.size_toArray, List.length_map]
end
mutual
inductive Dp (K : PySem.W.Frag) (H : Hp) : V → PyData → Prop
  | non : Dp K H .non .none
  | bl (b : Bool) : Dp K H (.bl b) (.bool b)
  | int (i : Int) : Dp K H (.int i) (.int i)
  | str (x : Str) : Dp K H (.str x) (.str x)
  | lst {a : Addr} {xs : List V} {ds : List PyData} : SqL K H a xs → DpAll K H xs ds → Dp K H (.ref a) (.list ds)
  | tup {a : Addr} {xs : List V} {ds : List PyData} : SqT K H a xs → DpAll K H xs ds → Dp K H (.ref a) (.tuple ds)
inductive DpAll (K : PySem.W.Frag) (H : Hp) : List V → List PyData → Prop
  | nil : DpAll K H [] []
  | cons {v : V} {vs : List V} {d : PyData} {ds : List PyData} : Dp K H v d → DpAll K H vs ds → DpAll K H (v :: vs) (d :: ds)
end
section
variable {X : Cx} {pins : List (Addr × Obj)} {σ : St} {H : Hp} {s : Shared}
mutual
theorem Dp.reads (I : Inv X pins σ H s) : ∀ (d : PyData) (v : V) (u : Value), Dp X.K H v d → RelV v u → ∃ as, Reads s.heap u d as
  | .none, _, _, h, r => by
    cases h
    cases r
    exact ⟨_, Reads.none⟩
  | .bool b, _, _, h, r => by
    cases h
    cases r
    exact ⟨_, Reads.bool b⟩
  | .int i, _, _, h, r => by
    cases h
    obtain ⟨t, rfl⟩ := r
    exact ⟨_, Reads.int i t⟩
  | .str x, _, _, h, r => by
    cases h
    obtain ⟨t, rfl⟩ := r
    exact ⟨_, Reads.str x t⟩
  | .list ds, _, _, h, r => by
    cases h with
    | lst hs ha =>
      cases r
      obtain ⟨its, rv, ⟨o, n, ho, hc, _, hd⟩, _⟩ := I.list hs
      obtain ⟨as, hr⟩ := Dp.readsAll I ds _ its ha rv
      exact ⟨_, Reads.list ho hc hd hr⟩
  | .tuple ds, _, _, h, r => by
    cases h with
    | tup hs ha =>
      cases r
      obtain ⟨its, rv, ⟨o, ho, hc, n, hd⟩, _⟩ := I.tuple hs
      obtain ⟨as, hr⟩ := Dp.readsAll I ds _ its ha rv
      exact ⟨_, Reads.tuple ho hc hd hr⟩
  | .dict _, _, _, h, _ => by cases h
theorem Dp.readsAll (I : Inv X pins σ H s) : ∀ (ds : List PyData) (vs : List V) (us : List Value), DpAll X.K H vs ds → Vals vs us → ∃ as, ReadsAll s.heap us ds as
  | [], _, _, h, r => by
    cases h
    cases r
    exact ⟨_, ReadsAll.nil⟩
  | d :: ds, _, _, h, r => by
    cases h with
    | cons h1 h2 =>
      cases r with
      | cons r1 r2 =>
        obtain ⟨as, q1⟩ := Dp.reads I d _ _ h1 r1
        obtain ⟨bs, q2⟩ := Dp.readsAll I ds _ _ h2 r2
        exact ⟨_, ReadsAll.cons q1 q2⟩
end
end
section
variable {X : Cx}
end
end L2
namespace L2
open PySem PySem.Spec PyProof.Rows
abbrev CellAt (h : Heap) (c : Addr) (v : Option Value) : Prop := h.IsCell c v
def relS (scope sc : Scope) : Scope :=
  { scope with names := scope.names.map fun (n, k) => if (k == .free && sc.kind == .function && sc.names.lookup n == some .cell) then (n, .cell) else (n, k) }
def cloFrom (cells : List (Str × Addr)) : List (Str × NameKind) → List (Str × Addr) → List (Str × Addr)
  | [], acc => acc
  | (n, k) :: r, acc => if k == .free then cloFrom cells r ((n, (cells.lookup n).getD 0) :: acc) else cloFrom cells r acc
theorem closure_loop (env : Env) (f : Str × NameKind → List (Str × Addr) → Sem (ForInStep (List (Str × Addr))))
    (hf : ∀ n k c, f (n, k) c = if k == .free then (do let a ← cellOf env n; pure (.yield ((n, a) :: c))) else pure (.yield c)) :
    ∀ (names : List (Str × NameKind)) (acc : List (Str × Addr)), (∀ y ∈ names, y.2 = .free → ∃ c, env.cells.lookup y.1 = some c) → forIn names acc f = pure (cloFrom env.cells names acc)
  | [], acc, _ => by rw [List.forIn_nil]; rfl
  | (n, k) :: r, acc, h => by
    rw [List.forIn_cons, hf]
    have ih := fun acc => closure_loop env f hf r acc fun y hy => h y (List.mem_cons_of_mem _ hy)
    unfold cloFrom
    by_cases hk : (k == NameKind.free) = true
    · rw [if_pos hk, if_pos hk]
      obtain ⟨c, hc⟩ := h (n, k) List.mem_cons_self (by simpa using hk)
      have e : cellOf env n = pure c := by unfold cellOf; rw [hc]
      rw [e]
      have e2 : (env.cells.lookup n).getD 0 = c := by rw [hc]; rfl
      rw [e2]
      exact ih _
    · rw [if_neg hk, if_neg hk]
      exact ih _
theorem closure_ok {scope : Scope} {env : Env} (h : ∀ y ∈ scope.names, y.2 = .free → ∃ c, env.cells.lookup y.1 = some c) : closureFor scope env = pure (cloFrom env.cells scope.names []) := by
  simp only [closureFor]
  rw [closure_loop env _ (fun n k c => rfl) scope.names [] h]
  rfl
theorem mem_lookup {α : Type} : ∀ {l : List (Str × α)} {n : Str} {c : α}, (n, c) ∈ l → ∃ c', l.lookup n = some c'
  | (k, v) :: r, n, c, h => by
    rw [List.lookup_cons]
    cases hb : n == k with
    | true => exact ⟨_, rfl⟩
    | false =>
      rcases List.mem_cons.mp h with e | h
      · cases e; simp at hb
      · exact mem_lookup h
theorem cloFrom_mem {cells : List (Str × Addr)} : ∀ {names : List (Str × NameKind)} {acc : List (Str × Addr)} {n : Str} {c : Addr}, (n, c) ∈ cloFrom cells names acc → (n, c) ∈ acc ∨ ((n, .free) ∈ names ∧ c = (cells.lookup n).getD 0)
  | [], _, _, _, h => .inl h
  | (m, k) :: r, acc, n, c, h => by
    unfold cloFrom at h
    split at h
    · rename_i hk
      have hk : k = .free := by simpa using hk
      rcases cloFrom_mem h with h | ⟨h1, h2⟩
      · rcases List.mem_cons.mp h with e | h
        · cases e; exact .inr ⟨hk ▸ List.mem_cons_self, rfl⟩
        · exact .inl h
      · exact .inr ⟨List.mem_cons_of_mem _ h1, h2⟩
    · rcases cloFrom_mem h with h | ⟨h1, h2⟩
      · exact .inl h
      · exact .inr ⟨List.mem_cons_of_mem _ h1, h2⟩
theorem cloFrom_acc {cells : List (Str × Addr)} : ∀ {names : List (Str × NameKind)} {acc : List (Str × Addr)} {p : Str × Addr}, p ∈ acc → p ∈ cloFrom cells names acc
  | [], _, _, h => h
  | (m, k) :: r, acc, p, h => by
    unfold cloFrom
    split
    · exact cloFrom_acc (List.mem_cons_of_mem _ h)
    · exact cloFrom_acc h
theorem cloFrom_has {cells : List (Str × Addr)} : ∀ {names : List (Str × NameKind)} {acc : List (Str × Addr)} {n : Str}, (n, .free) ∈ names → (n, (cells.lookup n).getD 0) ∈ cloFrom cells names acc
  | (m, k) :: r, acc, n, h => by
    unfold cloFrom
    rcases List.mem_cons.mp h with e | h
    · cases e
      exact cloFrom_acc List.mem_cons_self
    · split
      · exact cloFrom_has h
      · exact cloFrom_has h
theorem cells_mem : ∀ {names : List (Str × NameKind)} {h : Heap} {acc : List (Str × Addr)} {x : Str} {c : Addr}, (x, c) ∈ cellsFrom h.objs.size names acc →
    (x, c) ∈ acc ∨ ((x, .cell) ∈ names ∧ h.objs.size ≤ c ∧ CellAt (pushCells h names) c none)
  | [], _, _, _, _, h => .inl h
  | (n, k) :: r, h, acc, x, c, hm => by
    unfold cellsFrom at hm
    unfold pushCells
    split at hm
    · rename_i hk
      rw [if_pos hk]
      have hk : k = .cell := by simpa using hk
      rw [← Heap.size_push h { cls := .type "cell", data := .cell none }] at hm
      rcases cells_mem hm with hm | ⟨h1, h2, h3⟩
      · rcases List.mem_cons.mp hm with e | hm
        · cases e
          exact .inr ⟨hk ▸ List.mem_cons_self, Nat.le_refl _, _, pushCells_keeps r _ _ _ (Heap.get?_push_size _ rfl), rfl⟩
        · exact .inl hm
      · rw [Heap.size_push] at h2
        exact .inr ⟨List.mem_cons_of_mem _ h1, Nat.le_of_succ_le h2, h3⟩
    · rename_i hk
      rw [if_neg hk]
      rcases cells_mem hm with hm | ⟨h1, h2, h3⟩
      · exact .inl hm
      · exact .inr ⟨List.mem_cons_of_mem _ h1, h2, h3⟩
theorem cells_acc : ∀ {names : List (Str × NameKind)} {n : Nat} {acc : List (Str × Addr)} {p : Str × Addr}, p ∈ acc → p ∈ cellsFrom n names acc
  | [], _, _, _, h => h
  | (m, k) :: r, n, acc, p, h => by
    unfold cellsFrom
    split
    · exact cells_acc (List.mem_cons_of_mem _ h)
    · exact cells_acc h
theorem cells_has : ∀ {names : List (Str × NameKind)} {n : Nat} {acc : List (Str × Addr)} {x : Str}, (x, .cell) ∈ names → ∃ c, (x, c) ∈ cellsFrom n names acc
  | (m, k) :: r, n, acc, x, h => by
    unfold cellsFrom
    rcases List.mem_cons.mp h with e | h
    · cases e
      exact ⟨n, cells_acc List.mem_cons_self⟩
    · split
      · exact cells_has h
      · exact cells_has h
theorem cells_inj : ∀ {names : List (Str × NameKind)} {h : Heap} {acc : List (Str × Addr)} {x y : Str} {c : Addr}, (∀ p ∈ acc, p.2 < h.objs.size) → (∀ x y c, (x, c) ∈ acc → (y, c) ∈ acc → x = y) →
    (x, c) ∈ cellsFrom h.objs.size names acc → (y, c) ∈ cellsFrom h.objs.size names acc → x = y
  | [], _, _, _, _, _, _, hi, h1, h2 => hi _ _ _ h1 h2
  | (n, k) :: r, h, acc, x, y, c, hl, hi, h1, h2 => by
    unfold cellsFrom at h1 h2
    split at h1
    · rename_i hk
      rw [if_pos hk] at h2
      rw [← Heap.size_push h { cls := .type "cell", data := .cell none }] at h1 h2
      refine cells_inj (h := h.push _) (fun p hp => ?_) (fun x y c a b => ?_) h1 h2
      · rw [Heap.size_push]
        rcases List.mem_cons.mp hp with rfl | hp
        · exact Nat.lt_succ_self _
        · exact Nat.lt_succ_of_lt (hl p hp)
      · rcases List.mem_cons.mp a with e | a <;> rcases List.mem_cons.mp b with e' | b
        · cases e; cases e'; rfl
        · cases e; exact absurd (hl _ b) (Nat.lt_irrefl _)
        · cases e'; exact absurd (hl _ a) (Nat.lt_irrefl _)
        · exact hi _ _ _ a b
    · rename_i hk
      rw [if_neg hk] at h2
      exact cells_inj hl hi h1 h2
theorem newEnv_comp {M : Model} {A : Around} {E : Value → Shared → Prop} {s : Shared} {scope : Scope} {globals : Addr} {closure : List (Str × Addr)} {qual : Str} {func : Option Addr} {code : Value} {around : Env} {builtins : Addr} {Q : Env → Shared → Prop}
    (h : Q (newEnv scope s.heap.objs.size globals (cellsFrom (s.heap.objs.size + 1) scope.names closure) qual func code (some around) builtins)
      { s with heap := pushCells (s.heap.push { cls := .type "dict", data := .dict #[] }) scope.names }) :
    wpAny M A (newFunctionEnv scope globals closure [] qual func code (some around) builtins) Q E s := by
  simp only [newFunctionEnv, Option.isSome_some, if_true]
  refine wpAny_bind (wpAny_alloc ?_)
  refine wpAny_bind (wpAny_layCells _ (fun n k c => rfl) scope.names closure _ _ ?_)
  rw [show ({ s with heap := s.heap.push { cls := .type "dict", data := .dict #[] } } : Shared).heap.objs.size = s.heap.objs.size + 1 from Heap.size_push ..]
  rw [List.forIn_nil]
  exact wpAny_bind (wpAny_pure (wpAny_pure h))
theorem lookup_relS {sc : Scope} : ∀ {names : List (Str × NameKind)} {x : Str} {k : NameKind},
    (names.map fun (n, k) => if (k == NameKind.free && sc.kind == .function && sc.names.lookup n == some .cell) then (n, NameKind.cell) else (n, k)).lookup x = some k →
    ∃ k', names.lookup x = some k' ∧ (k = k' ∨ (k' = .free ∧ k = .cell))
  | [], _, _, h => by simp at h
  | (n, k₀) :: r, x, k, h => by
    have ih := @lookup_relS sc r x k
    have h' : List.lookup x ((if (k₀ == NameKind.free && sc.kind == .function && sc.names.lookup n == some .cell) = true then (n, NameKind.cell) else (n, k₀)) :: (r.map _)) = some k := h
    cases hx : x == n with
    | true =>
      simp only [List.lookup_cons, hx]
      by_cases hc : (k₀ == NameKind.free && sc.kind == .function && sc.names.lookup n == some .cell) = true
      · rw [if_pos hc] at h'
        simp only [List.lookup_cons, hx] at h'
        cases h'
        simp only [Bool.and_eq_true, beq_iff_eq] at hc
        exact ⟨k₀, rfl, .inr ⟨hc.1.1, rfl⟩⟩
      · rw [if_neg hc] at h'
        simp only [List.lookup_cons, hx] at h'
        cases h'
        exact ⟨_, rfl, .inl rfl⟩
    | false =>
      simp only [List.lookup_cons, hx]
      by_cases hc : (k₀ == NameKind.free && sc.kind == .function && sc.names.lookup n == some .cell) = true
      · rw [if_pos hc] at h'
        simp only [List.lookup_cons, hx] at h'
        exact ih h'
      · rw [if_neg hc] at h'
        simp only [List.lookup_cons, hx] at h'
        exact ih h'
structure BlkOk (N : List Str) (sc scope : Scope) (own : List (Str × Nat)) : Prop where
  kind : scope.kind = .function
  uniq : ∀ y ∈ scope.names, scope.names.lookup y.1 = some y.2
  ix : ∀ p ∈ own, N[p.2]? = some p.1
  free : ∀ y ∈ scope.names, y.2 = .free → sc.names.lookup y.1 = some .cell ∨ sc.names.lookup y.1 = some .free
  own : ∀ y ∈ scope.names, y.2 = .local ∨ y.2 = .cell → y.1 ∈ own.map (·.1) ∨ y.1 ∉ N
def wipe (σ : St) : List Nat → St
  | [] => σ
  | v :: vs => (wipe σ vs).set v none
theorem wipe_length (σ : St) : ∀ vs : List Nat, (wipe σ vs).length = σ.length
  | [] => rfl
  | v :: vs => by unfold wipe; rw [List.length_set, wipe_length σ vs]
theorem wipe_some {σ : St} {i : Nat} {x : V} : ∀ {vs : List Nat}, (wipe σ vs)[i]? = some (some x) → σ[i]? = some (some x) ∧ i ∉ vs
  | [], h => ⟨h, by simp⟩
  | v :: vs, h => by
    unfold wipe at h
    by_cases hi : v = i
    · subst hi
      by_cases hv : v < (wipe σ vs).length
      · rw [List.getElem?_set_self hv] at h; cases h
      · rw [List.getElem?_eq_none (by simpa using hv)] at h; cases h
    · rw [List.getElem?_set_ne hi] at h
      obtain ⟨h1, h2⟩ := wipe_some h
      exact ⟨h1, by simp only [List.mem_cons, not_or]; exact ⟨fun e => hi e.symm, h2⟩⟩
abbrev Cx.blk (X : Cx) (s : Shared) (H : Hp) (scope : Scope) (cenv : Env) (fp : List Addr) : Cx := { X with s_0 := s, H_0 := H, env := cenv, outer := X.stack, ex := fp, fn := fun x => scope.names.lookup x == some .cell, pn := [], xe := fun _ _ => False }
section
variable {X : Cx} {pins : List (Addr × Obj)} {σ : St} {H : Hp} {s : Shared}
theorem block_start {scope : Scope} {own : List (Str × Nat)} {fp : List Addr} (I : Inv X pins σ H s) (ok : BlkOk X.N X.env.scope scope own) (hN : X.N.Nodup) (hfp : ∀ b ∈ fp, FpOk X pins H b ∧ b < s.heap.objs.size) :
    Inv (X.blk s H scope (compEnvC scope (cellsFrom (s.heap.objs.size + 1) scope.names (cloFrom X.env.cells scope.names [])) s.heap.objs.size X.env) fp) [] (wipe σ (own.map (·.2))) H { s with heap := pushCells (s.heap.push { cls := .type "dict", data := .dict #[] }) scope.names } := by
  have hfree : ∀ y ∈ scope.names, y.2 = .free → ∃ c, X.env.cells.lookup y.1 = some c := fun y hy e => by
    rcases ok.free y hy e with k | k
    · exact I.ok.has _ (.inl k)
    · exact I.ok.has _ (.inr k)
  generalize hcenv : compEnvC scope (cellsFrom (s.heap.objs.size + 1) scope.names (cloFrom X.env.cells scope.names [])) s.heap.objs.size X.env = cenv
  have kp : ∀ b o, s.heap.get? b = some o → (pushCells (s.heap.push { cls := .type "dict", data := .dict #[] }) scope.names).get? b = some o := fun b o e => pushCells_keeps _ _ _ _ (Heap.get?_push_of_some _ e)
  have hL : cenv.locals = s.heap.objs.size := by rw [← hcenv]; rfl
  have hcl : cenv.cells = cellsFrom (s.heap.objs.size + 1) scope.names (cloFrom X.env.cells scope.names []) := by rw [← hcenv]; rfl
  have hsc : cenv.scope = relS scope X.env.scope := by rw [← hcenv]; rfl
  rw [← Heap.size_push s.heap { cls := .type "dict", data := .dict #[] }] at hcl
  have cm : ∀ {y c}, (y, c) ∈ cloFrom X.env.cells scope.names [] → X.env.cells.lookup y = some c ∧ c < s.heap.objs.size := fun {y c} hm => by
    rcases cloFrom_mem hm with hm | ⟨h1, rfl⟩
    · cases hm
    · obtain ⟨c, hc⟩ := hfree _ h1 rfl
      rw [hc]
      obtain ⟨w, z⟩ := I.cell _ _ hc
      exact ⟨rfl, z.lt⟩
  have mem : ∀ {y c}, cenv.cells.lookup y = some c → (X.env.cells.lookup y = some c ∧ c < s.heap.objs.size) ∨ (s.heap.objs.size + 1 ≤ c ∧ CellAt (pushCells (s.heap.push { cls := .type "dict", data := .dict #[] }) scope.names) c none) := fun {y c} e => by
    rw [hcl] at e
    rcases cells_mem (PySem.mem_of_lookup e) with hm | ⟨_, h2, h3⟩
    · exact .inl (cm hm)
    · rw [Heap.size_push] at h2; exact .inr ⟨h2, h3⟩
  have look : ∀ {y}, scope.names.lookup y = some .free → ∃ c, cenv.cells.lookup y = some c ∧ X.env.cells.lookup y = some c := fun {y} hl => by
    have hy : (y, NameKind.free) ∈ scope.names := PySem.mem_of_lookup hl
    obtain ⟨c', e'⟩ := mem_lookup (cells_acc (names := scope.names) (n := (s.heap.push { cls := .type "dict", data := .dict #[] }).objs.size) (cloFrom_has (cells := X.env.cells) (acc := []) hy))
    rw [← hcl] at e'
    refine ⟨c', e', ?_⟩
    rw [hcl] at e'
    rcases cells_mem (PySem.mem_of_lookup e') with hm | ⟨h1, _, _⟩
    · exact (cm hm).1
    · have := ok.uniq _ h1
      rw [hl] at this; cases this
  have okB : (X.blk s H scope cenv fp).Ok := by
    refine ⟨I.ok.mod, by show cenv.scope.kind = _; rw [hsc]; exact ok.kind, by show cenv.globals = _; rw [← hcenv]; exact I.ok.glob, by show cenv.builtins = _; rw [← hcenv]; exact I.ok.blt, by show s.heap.objs.size ≤ cenv.locals; rw [hL]; exact Nat.le_refl _,
      fun y z c e1 e2 => ?_, fun y hy => ?_, fun y c z e => ?_, I.ok.hd, I.ok.frames, .inl rfl, fun b hb => ⟨?_, fun y c e z => ?_⟩, I.bs, Nat.le_trans I.ok.bsz I.sz, fun b o e hb => ?_, fun b hb z => ?_, I.stack, I.stkFree⟩
    · have e1 : cenv.cells.lookup y = some c := e1
      have e2 : cenv.cells.lookup z = some c := e2
      rw [hcl] at e1 e2
      refine cells_inj (fun p hp => ?_) (fun y z c a b => I.ok.inj y z c (cm a).1 (cm b).1) (PySem.mem_of_lookup e1) (PySem.mem_of_lookup e2)
      rw [Heap.size_push]
      exact Nat.lt_succ_of_lt (cm (y := p.1) (c := p.2) hp).2
    · show ∃ c, cenv.cells.lookup y = some c
      have key : ∀ k, cenv.kindOf y = some k → (k = .cell ∨ k = .free) → ∃ c, cenv.cells.lookup y = some c := fun k hk hk' => by
        unfold Env.kindOf at hk
        rw [hsc] at hk
        obtain ⟨k', e, r⟩ := lookup_relS hk
        have : k' = .cell ∨ k' = .free := by
          rcases r with rfl | ⟨rfl, _⟩
          · exact hk'
          · exact .inr rfl
        rcases this with rfl | rfl
        · obtain ⟨c, hm⟩ := cells_has (n := (s.heap.push { cls := .type "dict", data := .dict #[] }).objs.size) (acc := cloFrom X.env.cells scope.names []) (PySem.mem_of_lookup e)
          obtain ⟨c', e'⟩ := mem_lookup hm
          exact ⟨c', by rw [hcl]; exact e'⟩
        · obtain ⟨c, h1, _⟩ := look e
          exact ⟨c, h1⟩
      rcases hy with hy | hy
      · exact key _ hy (.inl rfl)
      · exact key _ hy (.inr rfl)
    · have z : (scope.names.lookup y == some NameKind.cell) = true := z
      have z : scope.names.lookup y = some .cell := by simpa using z
      have e : cenv.cells.lookup y = some c := e
      rw [hcl] at e
      rcases cells_mem (PySem.mem_of_lookup e) with hm | ⟨_, h2, _⟩
      · rcases cloFrom_mem hm with hm | ⟨h1, _⟩
        · cases hm
        · have q := ok.uniq _ h1
          rw [z] at q; cases q
      · rw [Heap.size_push] at h2
        exact Nat.le_of_succ_le h2
    · show b ≠ cenv.locals
      rw [hL]; exact Nat.ne_of_lt (hfp b hb).2
    · have e : cenv.cells.lookup y = some c := e
      rcases mem e with ⟨h1, _⟩ | ⟨h1, _⟩
      · exact (hfp b hb).1.2.2.2.2.1 y c h1 z
      · have h2 : s.heap.objs.size + 1 ≤ b := by rw [← z]; exact h1
        exact absurd (Nat.lt_of_lt_of_le (hfp b hb).2 (Nat.le_of_succ_le h2)) (Nat.lt_irrefl _)
    · rcases (hfp b hb).1.2.2.2.1 with z | z
      · exact I.ok.noex b o e z
      · exact absurd (Nat.lt_of_lt_of_le (Heap.lt_size e) (Nat.le_trans I.ok.bsz z)) (Nat.lt_irrefl _)
    · rcases List.mem_cons.mp (I.stkSub b z) with z | z
      · exact (hfp b hb).1.2.1 z
      · exact (hfp b hb).1.2.2.1 z
  refine ⟨okB, rfl, I.bare, Un.kept kp, ⟨fun _ => none, ?_, fun i y av e1 e2 e3 => ?_⟩, fun y c e => ?_, ?_, fun y c e => ?_, fun p hp => ?_, I.hok.kept kp, by rw [wipe_length]; exact I.len⟩
  · show Heap.Ns _ cenv.locals _
    rw [hL]
    exact Heap.Ns.keeps (Heap.Ns.new ..) fun b o e => pushCells_keeps _ _ _ _ e
  · obtain ⟨e2, hne⟩ := wipe_some e2
    have hfr : scope.names.lookup y = some .free ∧ (cenv.kindOf y = some .cell ∨ cenv.kindOf y = some .free) := by
      have key : ∀ k, cenv.scope.names.lookup y = some k → k = .local ∨ k = .cell ∨ k = .free → scope.names.lookup y = some .free ∧ (cenv.kindOf y = some .cell ∨ cenv.kindOf y = some .free) := fun k hk hk' => by
        have hk0 := hk
        rw [hsc] at hk
        obtain ⟨k', e, r⟩ := lookup_relS hk
        have no : ¬ (k' = .local ∨ k' = .cell) := fun hh => by
          rcases ok.own _ (PySem.mem_of_lookup e) hh with e' | e'
          · obtain ⟨p, hp, hpy⟩ := List.mem_map.mp e'
            have e3 := ok.ix p hp
            have : p.1 = y := hpy
            rw [this] at e3
            exact hne (List.mem_map.mpr ⟨p, hp, nodup_ix hN e3 e1⟩)
          · exact e' (List.mem_of_getElem? e1)
        rcases r with rfl | ⟨rfl, rfl⟩
        · rcases hk' with rfl | rfl | rfl
          · exact absurd (.inl rfl) no
          · exact absurd (.inr rfl) no
          · exact ⟨e, .inr hk0⟩
        · exact ⟨e, .inl hk0⟩
      have e3 : Vis cenv.scope y := e3
      rcases e3 with e3 | e3 | e3
      · exact key _ e3 (.inl rfl)
      · exact key _ e3 (.inr (.inl rfl))
      · exact key _ e3 (.inr (.inr rfl))
    obtain ⟨m, hn, hl⟩ := I.loc
    have hvis : Vis X.env.scope y := (ok.free _ (PySem.mem_of_lookup hfr.1) rfl).elim (fun k => .inr (.inl k)) (fun k => .inr (.inr k))
    obtain ⟨w, r, q⟩ := hl i y av e1 e2 hvis
    refine ⟨w, r, .inr ⟨hfr.2, ?_⟩⟩
    obtain ⟨c, h1, h2⟩ := look hfr.1
    rcases q with ⟨k, _⟩ | ⟨_, c', e', z⟩
    · have k : X.env.scope.names.lookup y = some .local := k
      rcases ok.free _ (PySem.mem_of_lookup hfr.1) rfl with k' | k' <;> rw [show X.env.scope.names.lookup y = _ from k'] at k <;> cases k
    · rw [h2] at e'; cases e'
      exact ⟨c, h1, z.keeps kp⟩
  · have e : cenv.cells.lookup y = some c := e
    rcases mem e with ⟨h1, _⟩ | ⟨_, z⟩
    · obtain ⟨w, z⟩ := I.cell y c h1
      exact ⟨w, z.keeps kp⟩
    · exact ⟨_, z⟩
  · show H cenv.locals = none
    rw [hL]; exact I.hok.fresh (Nat.le_refl _)
  · have e : cenv.cells.lookup y = some c := e
    rcases mem e with ⟨h1, _⟩ | ⟨h1, _⟩
    · exact I.freeC y c h1
    · exact I.hok.fresh (Nat.le_of_succ_le h1)
  · exact absurd (show p ∈ ([] : List (Addr × Obj)) ++ [] from hp) (by simp)
theorem app_ok {E : Value → Shared → Prop} {D : Addr} {xs : List V} {y : V} {v : Value} {Q : Value → Shared → Prop} (I : Inv X pins σ H s) (hD : H D = some (.lst xs)) (hz : xs.length < sizeLine) (r : RelV y v)
    (h : ∀ s', Inv X pins σ (upd H D (.lst (xs ++ [y]))) s' → Q .none s') : wpAny (model X.prog X.w) X.A (call (.builtin "list.append") [.ref D, v]) Q E s := by
  obtain ⟨hz', its, n, ri, e⟩ := I.hok D _ hD
  have hl := ri.length
  refine append_at (hsz := by rw [List.size_toArray]; omega) e fun h' sb ho' => ?_
  refine h { s with heap := h' } (I.write (t' := s.toks) (by rw [hD]; trivial) (.inl rfl) (fun b u hb q => (sb.2 b hb).trans q) ⟨_, ho'⟩ ⟨by rw [List.length_append]; exact hz, its ++ [v], n + 1, ri.append (.cons r .nil), ?_⟩)
  rw [ho']
  simp
def PTs (X : Cx) (ifs : List Expr) (t : TT) : Prop :=
  ∀ (pins : List (Addr × Obj)) (s : Shared) (σ : St) (H : Hp) (Q : Bool → Hp → Prop), Inv X pins σ H s → t σ H Q →
    wpAny (model X.prog X.w) X.A (forIn ifs true fun c r => if r = true then do let ok ← isTrue c X.env (eval c X.env); pure (ForInStep.yield ok) else pure (ForInStep.yield r)) (TP X pins σ Q) X.xe s
def tYes : TT := fun _ H Q => Q true H
theorem pts_nil : PTs X [] tYes := fun _ _ _ H _ I h => wpAny_tests_nil ⟨H, I, h⟩
theorem pts_one {c : Expr} {t : TT} (h : PT X c t) : PTs X [c] t := fun pins s σ H Q I hw => wpAny_tests_one (h pins s σ H Q I hw)
end
theorem thnF {α : Type} {t : Sem α} {Q Q' : α → Shared → Prop} {M : Model} {A : Around} {E : Value → Shared → Prop} {s : Shared} (h : wpAny M A t Q (fun _ _ => False) s) (hQ : ∀ a s, Q a s → Q' a s) : wpAny M A t Q' E s := wpAny_mono h hQ fun _ _ z => False.elim z
theorem compLoop_any {prog : Program} {w : World} {A : Around} {R : Result → Shared → Prop} {s : Shared} {elt target iter : Expr} {ifs : List Expr} {scope : Scope} {pos : Pos} {it acc : Value} {env : Env} (I : Nat → Shared → Prop)
    (turn : ∀ n s, I n s → wpAny (model prog w) A (pyNext it) (fun r s₁ => match r with
      | none => R (.ok .next) s₁
      | some v => wpAny (model prog w) A (letOwnedTupleGo target it v) (fun _ s₁' => wpAny (model prog w) A (assign target env v) (fun _ s₂ =>
          wpAny (model prog w) A (forIn ifs true fun c r => if r = true then do let ok ← isTrue c env (eval c env); pure (ForInStep.yield ok) else pure (ForInStep.yield r)) (fun ok s₃ =>
            if ok = true then wpAny (model prog w) A (eval elt env) (fun x s₄ =>
              wpAny (model prog w) A (call (.builtin "list.append") [acc, x]) (fun _ s₅ => ∃ m, m < n ∧ I m s₅) (notedBy (model prog w) A env fun e s' => R (.error e) s') s₄) (notedBy (model prog w) A env fun e s' => R (.error e) s') s₃
            else ∃ m, m < n ∧ I m s₃) (notedBy (model prog w) A env fun e s' => R (.error e) s') s₂) (notedBy (model prog w) A env fun e s' => R (.error e) s') s₁') (notedBy (model prog w) A env fun e s' => R (.error e) s') s₁) (notedBy (model prog w) A env fun e s' => R (.error e) s') s)
    (n : Nat) (h : I n s) :
    codeAny (model prog w) A (.compLoop (.ListComp elt [⟨target, iter, ifs, 0⟩] scope pos) 0 it acc env) R s := by
  refine codeAny_loop rfl I (fun n s hI => ?_) n h
  show wpAny _ A ((compTurn (.ListComp elt [⟨target, iter, ifs, 0⟩] scope pos) 0 it acc env).onRaise (fun x => do noteFrame x env; theTreesLotGoes x)) _ _ s
  refine wpAny_noted ?_
  rw [compTurn_list]
  refine wpAny_bind (wpAny_standAt (wpAny_bind (wpAny_mono (turn n s hI) (fun r s₁ h₁ => ?_) fun _ _ h' => h')))
  cases r with
  | none => exact wpAny_pure h₁
  | some v =>
    refine wpAny_bind (wpAny_mono h₁ (fun _ s₁' h₁' => ?_) fun _ _ h' => h')
    refine wpAny_bind (wpAny_mono h₁' (fun _ s₂ h₂ => wpAny_bind (wpAny_mono h₂ (fun ok s₃ h₃ => ?_) fun _ _ h' => h')) fun _ _ h' => h')
    cases ok with
    | false => exact wpAny_pure ⟨rfl, h₃⟩
    | true =>
      exact wpAny_bind (wpAny_bind (wpAny_mono h₃ (fun x s₄ h₄ => wpAny_bind (wpAny_mono h₄ (fun _ s₅ h₅ => wpAny_pure (wpAny_pure ⟨rfl, h₅⟩)) fun _ _ h' => h')) fun _ _ h' => h'))
section
variable {X : Cx}
def tLc (wi : TI) (g : TG) (tt : TT) (te : TE) (vs : List Nat) : TE := fun σ H Q => wi σ H fun J H1 => ∀ D, H1 D = none → ∃ W : Nat → Nat → Hp → Prop, (∃ m, W 0 m (upd H1 D (.lst []))) ∧ ∀ i m H, W i m H →
  (J.stop i H ∧ Q (.ref D) H) ∨ (J.go i H ∧ ∃ Nx : Hp → Prop, (∀ H', Nx H' → ∃ m', m' < m ∧ W (i + 1) m' H') ∧ ∀ x H', J.yld i H x H' → g x (wipe σ vs) H' fun σ2 H2 => wipe σ2 vs = wipe σ vs ∧ tt σ2 H2 fun b H3 =>
    if b = true then te σ2 H3 fun y H4 => ∃ acc, H4 D = some (.lst acc) ∧ acc.length < sizeLine ∧ Nx (upd H4 D (.lst (acc ++ [y]))) else Nx H3)
theorem lc_core {pins : List (Addr × Obj)} {s : Shared} {σ : St} {H : Hp} {Q : VK} {elt tg iter : Expr} {ifs : List Expr} {scope : Scope} {own : List (Str × Nat)} {pos pos' : Pos} {wi : TI} {g : TG} {tt : TT} {te : TE} {use : Option (Value → Sem Unit)} {Qf : Value → Shared → Prop}
    (hc : X.calm = true) (hN : X.N.Nodup) (I : Inv X pins σ H s) (hi : PI X tg iter wi) (ok : BlkOk X.N X.env.scope scope own)
    (hg : ∀ (s : Shared) (H : Hp) (C : Addr) (cl : List (Str × Addr)) (fp : List Addr), PG (X.blk s H scope (compEnvC scope cl C X.env) fp) tg g) (ht : ∀ (s : Shared) (H : Hp) (C : Addr) (cl : List (Str × Addr)) (fp : List Addr), PTs (X.blk s H scope (compEnvC scope cl C X.env) fp) ifs tt)
    (he : ∀ (s : Shared) (H : Hp) (C : Addr) (cl : List (Str × Addr)) (fp : List Addr), PE (X.blk s H scope (compEnvC scope cl C X.env) fp) elt te) (hs : ∀ x, foldedSetIterable iter X.env x = pure x)
    (h : tLc wi g tt te (own.map (·.2)) σ H Q)
    (hRR : ∀ D C s' m H', Inv X pins σ H' s' → Q (.ref D) H' → s'.heap.Ns C m → FpOk X pins H' C → compPost (model X.prog X.w) X.A X.xe use Qf (.ref D) C (.ok .next) s') :
    wpAny (model X.prog X.w) X.A (comprehension (.ListComp elt [⟨tg, iter, ifs, 0⟩] scope pos) scope X.env pos' (newList []) false (eval iter X.env) use) Qf X.xe s := by
  have hfree : ∀ y ∈ scope.names, y.2 = .free → ∃ c, X.env.cells.lookup y.1 = some c := fun y hy e => by
    rcases ok.free y hy e with k | k
    · exact I.ok.has _ (.inl k)
    · exact I.ok.has _ (.inr k)
  refine wpAny_comprehension_free (use := use) rfl hs (closure_ok hfree) ok.kind (fun y hy e => by rw [ok.uniq y hy, e])
    (thn (hi pins s σ H _ I h) fun xv s1 hx => thn hx fun itv s2 h2 => ?_)
  obtain ⟨it, fp, tn, J, H2, e, I2, T, st2, f2, q⟩ := h2
  subst e
  refine wpAny_newObj_type (newEnv_comp ?_) (by show 0 ≤ sizeLine; decide)
  generalize hD : s2.heap.objs.size = D
  have hDn : H2 D = none := I2.hok.fresh (Nat.le_of_eq hD)
  obtain ⟨W, ⟨m0, w0⟩, turn⟩ := q D hDn
  -- the new list
  generalize hs3 : ({ s2 with heap := s2.heap.push { cls := .type "list", data := .seq ([] : List Value).toArray } } : Shared) = s3
  have I3 : Inv X pins σ (upd H2 D (.lst [])) s3 := by
    rw [← hs3]
    refine I2.laid (t' := s2.toks) (fun b o e => Heap.get?_push_of_some _ e) (Nat.le_of_eq hD) ⟨Nat.zero_le _, [], 0, .nil, ?_⟩
    rw [← hD]
    exact Heap.get?_push_size _ rfl
  have h3 : s3.heap = s2.heap.push { cls := .type "list", data := .seq ([] : List Value).toArray } := by rw [← hs3]
  have sz : ∀ b ∈ fp, b < s2.heap.objs.size := fun b hb => by
    obtain ⟨o, e, _⟩ := T.obj _ _ st2 b hb
    exact Heap.lt_size e
  have f3 : ∀ b ∈ fp, FpOk X pins (upd H2 D (.lst [])) b ∧ b < s3.heap.objs.size := fun b hb => by
    have hlt := sz b hb
    refine ⟨⟨?_, (f2 b hb).2⟩, by rw [h3, Heap.size_push]; exact Nat.lt_succ_of_lt hlt⟩
    rw [upd_ne (by rw [← hD]; exact Nat.ne_of_lt hlt)]
    exact (f2 b hb).1
  have st3 : tn 0 s3.heap := T.keep _ _ _ st2 fun b _ o e => by rw [h3]; exact Heap.get?_push_of_some _ e
  have I4 := block_start I3 ok hN f3
  have pg := hg s3 (upd H2 D (.lst [])) s3.heap.objs.size (cellsFrom (s3.heap.objs.size + 1) scope.names (cloFrom X.env.cells scope.names [])) fp
  have pt := ht s3 (upd H2 D (.lst [])) s3.heap.objs.size (cellsFrom (s3.heap.objs.size + 1) scope.names (cloFrom X.env.cells scope.names [])) fp
  have pe := he s3 (upd H2 D (.lst [])) s3.heap.objs.size (cellsFrom (s3.heap.objs.size + 1) scope.names (cloFrom X.env.cells scope.names [])) fp
  show codeAny _ _ (.compStart (.ListComp elt [⟨tg, iter, ifs, 0⟩] scope pos) 0 (.ref it) (.ref D) (compEnvC scope (cellsFrom (s3.heap.objs.size + 1) scope.names (cloFrom X.env.cells scope.names [])) s3.heap.objs.size X.env)) (compPost (model X.prog X.w) X.A X.xe use Qf (.ref D) s3.heap.objs.size) { s3 with heap := pushCells (s3.heap.push { cls := .type "dict", data := .dict #[] }) scope.names }
  have nfp : ∀ b ∈ fp, (upd H2 D (.lst [])) b = none := fun b hb => (f3 b hb).1.1
  generalize hce : compEnvC scope (cellsFrom (s3.heap.objs.size + 1) scope.names (cloFrom X.env.cells scope.names [])) s3.heap.objs.size X.env = ce at I4 pg pt pe ⊢
  have cL : ce.locals = s3.heap.objs.size := by subst hce; rfl
  generalize hH3 : upd H2 D (.lst []) = H3 at I3 I4 pg pt pe w0 nfp f3
  generalize hs4 : ({ s3 with heap := pushCells (s3.heap.push { cls := .type "dict", data := .dict #[] }) scope.names } : Shared) = s4 at I4 ⊢
  have st4 : tn 0 s4.heap := T.keep _ _ _ st3 fun b _ o e => by rw [← hs4]; exact pushCells_keeps _ _ _ _ (Heap.get?_push_of_some _ e)
  have stat : ∀ {σ' : St} {H' : Hp} {s' : Shared}, Inv (X.blk s3 H3 scope ce fp) [] σ' H' s' → (∀ b ∈ fp, H' b = none) → ∀ b ∈ fp, FpOk (X.blk s3 H3 scope ce fp) [] H' b := fun {σ' H' s'} I' hn b hb =>
    ⟨hn b hb, (I'.ok.exf b hb).1, I'.ok.exfs b hb, .inl hb, fun x c e => (I'.ok.exf b hb).2 x c e, fun p hp => absurd (show p ∈ ([] : List (Addr × Obj)) ++ [] from hp) (by simp)⟩
  have loop : codeAny (model X.prog X.w) X.A (.compLoop (.ListComp elt [⟨tg, iter, ifs, 0⟩] scope pos) 0 (.ref it) (.ref D) ce) (compPost (model X.prog X.w) X.A X.xe use Qf (.ref D) s3.heap.objs.size) s4 := by
    refine compLoop_any (fun n s' => ∃ i H', Inv (X.blk s3 H3 scope ce fp) [] (wipe σ (own.map (·.2))) H' s' ∧ tn i s'.heap ∧ (∀ b ∈ fp, H' b = none) ∧ W i n H') ?_ m0 ⟨0, H3, I4, st4, nfp, w0⟩
    rintro n s5 ⟨i, H5, I5, st5, n5, w5⟩
    rcases turn i n H5 w5 with ⟨stop, qq⟩ | ⟨go, Nx, hNx, step⟩
    · have td := T.done (X.blk s3 H3 scope ce fp) rfl rfl rfl hc i [] s5 _ H5 (fun _ _ => False) I5 (stat I5 n5) st5 stop
      refine thnF td fun r s6 ⟨hr, I6⟩ => ?_
      subst hr
      -- back in the def's context
      have I7 : Inv X pins σ H5 s6 := I3.call' (ch := fp) I6.os I6.base I6.hok I6.bare fun b hb => ⟨(f3 b hb).1.2.2.2.1, (f3 b hb).1.2.1, (f3 b hb).1.2.2.2.2.1, (f3 b hb).1.2.2.2.2.2⟩
      have nC : H5 s3.heap.objs.size = none := by
        have z : H5 ce.locals = none := I6.free
        rw [cL] at z
        exact z
      obtain ⟨m, hn, _⟩ := I6.loc
      have hn : s6.heap.Ns ce.locals m := hn
      rw [cL] at hn
      exact hRR D s3.heap.objs.size s6 m H5 I7 qq hn (I3.fpOk (Nat.le_refl _) nC)
    · have ti := T.item (X.blk s3 H3 scope ce fp) rfl rfl rfl hc i [] s5 _ H5 (fun _ _ => False) I5 (stat I5 n5) st5 go
      refine thnF ti fun r s6 ⟨u, hr, h6⟩ => ?_
      subst hr
      refine thnF h6 fun _ s7 ⟨x, H7, I7, r7, y7, st7, n7⟩ => ?_
      have I7' := I7.pinned (stat I7 n7) (T.obj _ _ st7)
      refine thnF (pg _ s7 _ H7 x u _ I7' r7 (step x H7 y7)) fun _ s8 ⟨σ8, H8, I8, hw8, q8⟩ => ?_
      refine thnF (pt _ s8 σ8 H8 _ I8 q8) fun b s9 ⟨H9, I9, q9⟩ => ?_
      -- the turn's end
      have fin : ∀ {s' : Shared} {H' : Hp}, Inv (X.blk s3 H3 scope ce fp) ([] ++ pinsAt fp s7.heap) σ8 H' s' → Nx H' → ∃ m, m < n ∧ ∃ i H', Inv (X.blk s3 H3 scope ce fp) [] (wipe σ (own.map (·.2))) H' s' ∧ tn i s'.heap ∧ (∀ b ∈ fp, H' b = none) ∧ W i m H' := fun {s' H'} I' nx => by
        obtain ⟨m', hm, w'⟩ := hNx H' nx
        have pin' : ∀ b ∈ fp, ∀ o, s7.heap.get? b = some o → s'.heap.get? b = some o ∧ H' b = none := fun b hb o e =>
          let z := I'.pin (b, o) (List.mem_append_right _ (List.mem_append_right _ (mem_pinsAt hb e)))
          ⟨z.1, z.2.1⟩
        have hl : (wipe σ (own.map (·.2))).length = σ8.length := by rw [← hw8, wipe_length]
        refine ⟨m', hm, i + 1, H', (I'.unpinned (pins := [])).weak hl (fun j v e => ?_), T.keep _ _ _ st7 fun b hb o e => (pin' b hb o e).1, fun b hb => ?_, w'⟩
        · rw [← hw8] at e
          exact (wipe_some e).1
        · obtain ⟨o, e, _⟩ := T.obj _ _ st7 b hb
          exact (pin' b hb o e).2
      cases b with
      | false =>
        simp only [Bool.false_eq_true, if_false] at q9 ⊢
        exact fin I9 q9
      | true =>
        simp only [if_true] at q9 ⊢
        refine thnF (pe _ s9 σ8 H9 _ I9 q9) fun z s10 ⟨yv, H10, I10, r10, acc, hD10, hz10, nx⟩ => ?_
        exact app_ok (X := X.blk s3 H3 scope ce fp) I10 hD10 hz10 r10 fun s11 I11 => fin I11 nx
  exact codeAny_compStart_list loop (T.self X.A 0 _ _ _ st4 loop)
theorem pe_lc {elt tg iter : Expr} {ifs : List Expr} {scope : Scope} {own : List (Str × Nat)} {pos : Pos} {wi : TI} {g : TG} {tt : TT} {te : TE} (hc : X.calm = true) (hN : X.N.Nodup) (hi : PI X tg iter wi) (ok : BlkOk X.N X.env.scope scope own)
    (hg : ∀ (s : Shared) (H : Hp) (C : Addr) (cl : List (Str × Addr)) (fp : List Addr), PG (X.blk s H scope (compEnvC scope cl C X.env) fp) tg g) (ht : ∀ (s : Shared) (H : Hp) (C : Addr) (cl : List (Str × Addr)) (fp : List Addr), PTs (X.blk s H scope (compEnvC scope cl C X.env) fp) ifs tt)
    (he : ∀ (s : Shared) (H : Hp) (C : Addr) (cl : List (Str × Addr)) (fp : List Addr), PE (X.blk s H scope (compEnvC scope cl C X.env) fp) elt te) (hs : ∀ x, foldedSetIterable iter X.env x = pure x := by intro _; rfl) :
    PE X (.ListComp elt [⟨tg, iter, ifs, 0⟩] scope pos) (tLc wi g tt te (own.map (·.2))) := by
  intro pins s σ H Q I h
  rw [eval_ListComp]
  refine lc_core hc hN I hi ok hg ht he hs h fun D C s' m H' I' q hn f => ⟨m, hn, fun h'' sb => ?_⟩
  obtain ⟨f0, f1, f2, f3, f4, f5⟩ := f
  exact ⟨.ref D, H', I'.turned (t' := s'.toks) (fun b o hb e => (sb.2 b hb).trans e) f0 f1 f3 f4 f5, rfl, q⟩
theorem ps_setLc {i : Nat} {y : Str} {py : Pos} {elt tg iter : Expr} {ifs : List Expr} {scope : Scope} {own : List (Str × Nat)} {pos spos : Pos} {wi : TI} {g : TG} {tt : TT} {te : TE} (hc : X.calm = true) (hN : X.N.Nodup) (hy : X.N[i]? = some y) (hyl : X.env.scope.names.lookup y = some .local)
    (hsw : swapsWith (.ListComp elt [⟨tg, iter, ifs, 0⟩] scope pos) (some (.Name y py)) spos.line X.env = pure true) (hi : PI X tg iter wi) (ok : BlkOk X.N X.env.scope scope own)
    (hg : ∀ (s : Shared) (H : Hp) (C : Addr) (cl : List (Str × Addr)) (fp : List Addr), PG (X.blk s H scope (compEnvC scope cl C X.env) fp) tg g) (ht : ∀ (s : Shared) (H : Hp) (C : Addr) (cl : List (Str × Addr)) (fp : List Addr), PTs (X.blk s H scope (compEnvC scope cl C X.env) fp) ifs tt)
    (he : ∀ (s : Shared) (H : Hp) (C : Addr) (cl : List (Str × Addr)) (fp : List Addr), PE (X.blk s H scope (compEnvC scope cl C X.env) fp) elt te) (hs : ∀ x, foldedSetIterable iter X.env x = pure x := by intro _; rfl) :
    PS X (.Assign [.Name y py] (.ListComp elt [⟨tg, iter, ifs, 0⟩] scope pos) spos) (tAsg (tLc wi g tt te (own.map (·.2))) (gName i)) := by
  intro pins s σ H D I h
  rw [exec_Assign_Name_used _ _ _ _ hsw]
  refine wpAny_bind (wpAny_standAt (wpAny_bind ?_))
  show wpAny _ X.A (do let _ ← comprehension (.ListComp elt [⟨tg, iter, ifs, 0⟩] scope pos) scope X.env (firstIterPos [⟨tg, iter, ifs, 0⟩] pos) (newList []) false (eval iter X.env) (some (assign (.Name y py) X.env))) _ _ s
  have h : tLc wi g tt te (own.map (·.2)) σ H (fun x H1 => gName i x σ H1 D.nx) := h
  refine wpAny_bind (thn (lc_core (Qf := fun _ s' => SP X pins D .next s') hc hN I hi ok hg ht he hs h fun L C s' m H' I' q hn f => ?_) fun _ s' hq => wpAny_pure (wpAny_pure hq))
  show wpAny _ _ (assign (.Name y py) X.env (.ref L)) _ _ _
  refine wpAny_assign_Name (store_ok2 (v := V.ref L) I' hN hy (.inl hyl) rfl (fun s2 I2 ⟨a, sb, ha⟩ => ?_) (.inr hyl))
  obtain ⟨f0, f1, f2, f3, f4, f5⟩ := f
  have haC : C ≠ a := by
    rcases ha with z | z
    · rw [z]; exact f1
    · exact fun e => f4 y a z e.symm
  refine ⟨m, hn.sameBut sb haC, fun h3 sb3 => ?_⟩
  exact ⟨_, H', I2.turned (t' := s2.toks) (fun b o hb e => (sb3.2 b hb).trans e) f0 f1 f3 f4 f5, q⟩
theorem sw_true {elt : Expr} {gs : List Comprehension} {scope : Scope} {pos py : Pos} {y : Str} {l : Nat} {env : Env} (hk : env.scope.kind = .function) (hy : env.scope.names.lookup y = some .local) (hl : (py.line == pos.line) = true)
    (ha : (scope.names.any fun (n, k) => n == y && (k == .local || k == .cell)) = false) : swapsWith (.ListComp elt gs scope pos) (some (.Name y py)) l env = pure true := by
  have ky : env.kindOf y = some .local := hy
  have hb : env.blockKind = .function := by unfold Env.blockKind; rw [hk]; rfl
  unfold swapsWith
  simp only [hb, ky, ha, Expr.pos, hl]
  rfl
end
theorem lc_range {lo : Int} {n : Nat} {g : TG} {tt : TT} {te : TE} {vs : List Nat} {σ : St} {H1 : Hp} {D : Addr} {Qd : Hp → Prop} (Pv : Nat → Hp → Prop) (h0 : Pv 0 (upd H1 D (.lst [])))
    (hs : ∀ i H, i < n → Pv i H → g (.int (lo + i)) (wipe σ vs) H fun σ2 H2 => wipe σ2 vs = wipe σ vs ∧ tt σ2 H2 fun b H3 =>
      if b = true then te σ2 H3 fun y H4 => ∃ acc, H4 D = some (.lst acc) ∧ acc.length < sizeLine ∧ Pv (i + 1) (upd H4 D (.lst (acc ++ [y]))) else Pv (i + 1) H3) (hd : ∀ H, Pv n H → Qd H) :
    ∃ W : Nat → Nat → Hp → Prop, (∃ m, W 0 m (upd H1 D (.lst []))) ∧ ∀ i m H, W i m H →
      ((Itr lo n).stop i H ∧ Qd H) ∨ ((Itr lo n).go i H ∧ ∃ Nx : Hp → Prop, (∀ H', Nx H' → ∃ m', m' < m ∧ W (i + 1) m' H') ∧ ∀ x H', (Itr lo n).yld i H x H' → g x (wipe σ vs) H' fun σ2 H2 => wipe σ2 vs = wipe σ vs ∧ tt σ2 H2 fun b H3 =>
        if b = true then te σ2 H3 fun y H4 => ∃ acc, H4 D = some (.lst acc) ∧ acc.length < sizeLine ∧ Nx (upd H4 D (.lst (acc ++ [y]))) else Nx H3) := by
  refine ⟨fun i m H => m = n - i ∧ i ≤ n ∧ Pv i H, ⟨n, by simp, Nat.zero_le _, h0⟩, ?_⟩
  rintro i m H ⟨rfl, hi, p⟩
  by_cases hlt : i < n
  · refine .inr ⟨hlt, Pv (i + 1), fun H' p' => ⟨n - (i + 1), by omega, rfl, hlt, p'⟩, fun x H' y => ?_⟩
    obtain ⟨e, y⟩ := y
    subst e y
    exact hs i _ hlt p
  · have e : i = n := by omega
    subst e
    exact .inl ⟨Nat.le_refl _, hd H p⟩
theorem lc_list {K : PySem.W.Frag} {a : Addr} {xs : List V} {g : TG} {tt : TT} {te : TE} {vs : List Nat} {σ : St} {H1 : Hp} {D : Addr} {Qd : Hp → Prop} (Pv : Nat → Hp → Prop) (h0 : Pv 0 (upd H1 D (.lst []))) (hl : ∀ i H, i ≤ xs.length → Pv i H → SqL K H a xs)
    (hs : ∀ i x H, xs[i]? = some x → Pv i H → g x (wipe σ vs) H fun σ2 H2 => wipe σ2 vs = wipe σ vs ∧ tt σ2 H2 fun b H3 =>
      if b = true then te σ2 H3 fun y H4 => ∃ acc, H4 D = some (.lst acc) ∧ acc.length < sizeLine ∧ Pv (i + 1) (upd H4 D (.lst (acc ++ [y]))) else Pv (i + 1) H3) (hd : ∀ H, Pv xs.length H → Qd H) :
    ∃ W : Nat → Nat → Hp → Prop, (∃ m, W 0 m (upd H1 D (.lst []))) ∧ ∀ i m H, W i m H →
      ((Itl K a).stop i H ∧ Qd H) ∨ ((Itl K a).go i H ∧ ∃ Nx : Hp → Prop, (∀ H', Nx H' → ∃ m', m' < m ∧ W (i + 1) m' H') ∧ ∀ x H', (Itl K a).yld i H x H' → g x (wipe σ vs) H' fun σ2 H2 => wipe σ2 vs = wipe σ vs ∧ tt σ2 H2 fun b H3 =>
        if b = true then te σ2 H3 fun y H4 => ∃ acc, H4 D = some (.lst acc) ∧ acc.length < sizeLine ∧ Nx (upd H4 D (.lst (acc ++ [y]))) else Nx H3) := by
  refine ⟨fun i m H => m = xs.length - i ∧ i ≤ xs.length ∧ Pv i H, ⟨xs.length, by simp, Nat.zero_le _, h0⟩, ?_⟩
  rintro i m H ⟨rfl, hi, p⟩
  have q := hl i H hi p
  by_cases hlt : i < xs.length
  · refine .inr ⟨⟨xs, xs[i], q, by simp [hlt]⟩, Pv (i + 1), fun H' p' => ⟨xs.length - (i + 1), by omega, rfl, hlt, p'⟩, fun x H' y => ?_⟩
    obtain ⟨e, y⟩ := y
    subst e
    exact hs i x _ (y xs q) p
  · have e : i = xs.length := by omega
    subst e
    exact .inl ⟨⟨xs, q, Nat.le_refl _⟩, hd H p⟩
def blkC (N : List Str) (sc scope : Scope) (own : List (Str × Nat)) : Bool :=
  (match scope.kind with | .function => true | _ => false) && (scope.names.all fun y => decide (scope.names.lookup y.1 = some y.2)) && (own.all fun p => decide (N[p.2]? = some p.1)) &&
    (scope.names.all fun y => match y.2 with
      | .free => (match sc.names.lookup y.1 with | some .cell => true | some .free => true | _ => false)
      | .local => decide (y.1 ∈ own.map (·.1)) || decide (y.1 ∉ N)
      | .cell => decide (y.1 ∈ own.map (·.1)) || decide (y.1 ∉ N)
      | _ => true)
theorem blkOk_by {N : List Str} {sc scope : Scope} {own : List (Str × Nat)} (h : blkC N sc scope own = true) : BlkOk N sc scope own := by
  unfold blkC at h
  simp only [Bool.and_eq_true, List.all_eq_true, decide_eq_true_eq] at h
  obtain ⟨⟨⟨h1, h2⟩, h3⟩, h4⟩ := h
  refine ⟨?_, h2, h3, fun y hy e => ?_, fun y hy e => ?_⟩
  · split at h1
    · assumption
    · cases h1
  · have q := h4 y hy
    simp only [e] at q
    split at q <;> first | exact .inl (by assumption) | exact .inr (by assumption) | cases q
  · have q := h4 y hy
    rcases e with e | e <;> (simp only [e, Bool.or_eq_true, decide_eq_true_eq] at q; exact q)
end L2
namespace L2
open PySem PySem.Spec PyProof.Rows
section
variable {prog : Program} {w : World} {A : Around} {R : Result → Shared → Prop} {s : Shared} {elt t0 i0 t1 i1 : Expr} {ifs0 ifs1 : List Expr} {scope : Scope} {pos : Pos} {it acc : Value} {env : Env}
end
section
variable {X : Cx}
end
end L2
namespace L2
open PySem PySem.Spec PyProof.Rows
section
variable {κ : Type} [DecidableEq κ]
def valV (kvs : List (κ × V)) (k : κ) : Option V := (kvs.find? fun kv => decide (kv.1 = k)).map (·.2)
def putK (kvs : List (κ × V)) (k : κ) (v : V) : List (κ × V) :=
  if (kvs.any fun kv => decide (kv.1 = k)) = true then kvs.map (fun kv => if kv.1 = k then (kv.1, v) else kv) else kvs ++ [(k, v)]
def dropK (kvs : List (κ × V)) (k : κ) : List (κ × V) := kvs.filter fun kv => decide (kv.1 ≠ k)
theorem valV_pos {p : κ × V} {r : List (κ × V)} {k : κ} (e : p.1 = k) : valV (p :: r) k = some p.2 := by simp [valV, List.find?_cons, e]
theorem valV_neg {p : κ × V} {r : List (κ × V)} {k : κ} (e : ¬ p.1 = k) : valV (p :: r) k = valV r k := by simp [valV, List.find?_cons, e]
theorem valV_any (k : κ) : ∀ kvs : List (κ × V), (kvs.any fun kv => decide (kv.1 = k)) = (valV kvs k).isSome
  | [] => rfl
  | p :: r => by
    rw [List.any_cons]
    by_cases e : p.1 = k
    · simp only [valV_pos e, decide_eq_true e, Bool.true_or, Option.isSome_some]
    · rw [valV_neg e, decide_eq_false e, Bool.false_or]; exact valV_any k r
theorem RelO.isSome_eq {o : Option V} {u : Option Value} (r : RelO o u) : o.isSome = u.isSome := by
  cases o with
  | none => cases u with
    | none => rfl
    | some _ => exact (show False from r).elim
  | some _ => cases u with
    | none => exact (show False from r).elim
    | some _ => rfl
theorem RelO.getD {o : Option V} {u : Option Value} {d : V} {d' : Value} (r : RelO o u) (rd : RelV d d') : RelV (o.getD d) (u.getD d') := by
  cases o with
  | none => cases u with
    | none => exact rd
    | some _ => exact (show False from r).elim
  | some _ => cases u with
    | none => exact (show False from r).elim
    | some _ => exact r
theorem KV.val {kvs : List (κ × V)} {vs : List (κ × Value)} (r : KV kvs vs) (k : κ) : RelO (valV kvs k) (valueAt vs k) := by
  unfold KV at r
  induction r with
  | nil => exact True.intro
  | @cons p q ps qs h t ih =>
    obtain ⟨h1, h2⟩ := h
    by_cases e : p.1 = k
    · have e' : q.1 = k := h1.symm.trans e
      have b : valueAt (q :: qs) k = some q.2 := by simp [valueAt, List.find?_cons, e']
      rw [valV_pos e, b]; exact h2
    · have e' : ¬ q.1 = k := fun z => e (h1.trans z)
      have b : valueAt (q :: qs) k = valueAt qs k := by simp [valueAt, List.find?_cons, e']
      rw [valV_neg e, b]; exact ih
theorem KV.any {kvs : List (κ × V)} {vs : List (κ × Value)} (r : KV kvs vs) (k : κ) : (kvs.any fun kv => decide (kv.1 = k)) = vs.any fun kv => decide (kv.1 = k) := by
  unfold KV at r
  induction r with
  | nil => rfl
  | cons h t ih => rw [List.any_cons, List.any_cons, ih, h.1]
theorem KV.repl {kvs : List (κ × V)} {vs : List (κ × Value)} (r : KV kvs vs) (k : κ) {y : V} {u : Value} (ry : RelV y u) :
    KV (kvs.map fun kv => if kv.1 = k then (kv.1, y) else kv) (vs.map fun kv => if kv.1 = k then (kv.1, u) else kv) := by
  unfold KV at r ⊢
  induction r with
  | nil => exact .nil
  | @cons p q ps qs h t ih =>
    rw [List.map_cons, List.map_cons]
    refine .cons ?_ ih
    obtain ⟨h1, h2⟩ := h
    by_cases e : p.1 = k
    · rw [if_pos e, if_pos (h1.symm.trans e)]; exact ⟨h1, ry⟩
    · rw [if_neg e, if_neg (fun z => e (h1.trans z))]; exact ⟨h1, h2⟩
theorem KV.put {kvs : List (κ × V)} {vs : List (κ × Value)} (r : KV kvs vs) (k : κ) {y : V} {u : Value} (ry : RelV y u) : KV (putK kvs k y) (stored vs k u) := by
  unfold putK stored
  rw [r.any k]
  by_cases e : (vs.any fun kv => decide (kv.1 = k)) = true
  · rw [if_pos e, if_pos e]; exact r.repl k ry
  · rw [if_neg e, if_neg e]; exact Paired.snoc r ⟨rfl, ry⟩
theorem KV.drop {kvs : List (κ × V)} {vs : List (κ × Value)} (r : KV kvs vs) (k : κ) : KV (dropK kvs k) (without vs k) := by
  unfold KV at r ⊢
  unfold dropK without
  induction r with
  | nil => exact .nil
  | @cons p q ps qs h t ih =>
    obtain ⟨h1, h2⟩ := h
    rw [List.filter_cons, List.filter_cons]
    by_cases e : p.1 = k
    · have a : ¬ decide (p.1 ≠ k) = true := by simp [e]
      have b : ¬ decide (q.1 ≠ k) = true := by simp [h1.symm.trans e]
      rw [if_neg a, if_neg b]; exact ih
    · have e' : ¬ q.1 = k := fun z => e (h1.trans z)
      have a : decide (p.1 ≠ k) = true := by simp [e]
      have b : decide (q.1 ≠ k) = true := by simp [e']
      rw [if_pos a, if_pos b]; exact .cons ⟨h1, h2⟩ ih
theorem KV.keys {kvs : List (κ × V)} {vs : List (κ × Value)} (r : KV kvs vs) : kvs.map (·.1) = vs.map (·.1) := by
  unfold KV at r
  induction r with
  | nil => rfl
  | cons h t ih => rw [List.map_cons, List.map_cons, ih, h.1]
theorem KV.length {kvs : List (κ × V)} {vs : List (κ × Value)} (r : KV kvs vs) : kvs.length = vs.length := Paired.length r
end
abbrev KT (H : Hp) : List (List Key × V) → List (List Key × Addr × Value) → Prop := Paired fun p q => p.1 = q.1 ∧ H q.2.1 = some (.tup (p.1.map kV)) ∧ RelV p.2 q.2.2
theorem KT.val {H : Hp} {kvs : List (List Key × V)} {xs : List (List Key × Addr × Value)} (r : KT H kvs xs) (k : List Key) : RelO (valV kvs k) ((atKey xs k).map (·.2)) := by
  induction r with
  | nil => exact True.intro
  | @cons p q ps qs h t ih =>
    obtain ⟨h1, _, h2⟩ := h
    by_cases e : p.1 = k
    · have e' : q.1 = k := h1.symm.trans e
      have b : atKey (q :: qs) k = some q.2 := by simp [atKey, List.find?_cons, e']
      rw [valV_pos e, b]; exact h2
    · have e' : ¬ q.1 = k := fun z => e (h1.trans z)
      have b : atKey (q :: qs) k = atKey qs k := by simp [atKey, List.find?_cons, e']
      rw [valV_neg e, b]; exact ih
theorem KT.repl {H : Hp} {kvs : List (List Key × V)} {xs : List (List Key × Addr × Value)} (r : KT H kvs xs) (k : List Key) {y : V} {u : Value} (ry : RelV y u) :
    KT H (kvs.map fun kv => if kv.1 = k then (kv.1, y) else kv) (xs.map (putAt k u)) := by
  induction r with
  | nil => exact .nil
  | @cons p q ps qs h t ih =>
    rw [List.map_cons, List.map_cons]
    refine .cons ?_ ih
    obtain ⟨h1, h2, h3⟩ := h
    unfold putAt
    by_cases e : p.1 = k
    · rw [if_pos e, if_pos (h1.symm.trans e)]; exact ⟨h1, h2, ry⟩
    · rw [if_neg e, if_neg (fun z => e (h1.trans z))]; exact ⟨h1, h2, h3⟩
theorem KT.put {H : Hp} {kvs : List (List Key × V)} {xs : List (List Key × Addr × Value)} (r : KT H kvs xs) (k : List Key) {b : Addr} {y : V} {u : Value} (hb : H b = some (.tup (k.map kV))) (ry : RelV y u) :
    KT H (putK kvs k y) (storedH xs k b u) := by
  have e : (kvs.any fun kv => decide (kv.1 = k)) = (atKey xs k).isSome := by
    rw [valV_any, (r.val k).isSome_eq, Option.isSome_map]
  unfold putK storedH
  rw [e]
  by_cases q : (atKey xs k).isSome = true
  · rw [if_pos q, if_pos q]; exact r.repl k ry
  · rw [if_neg q, if_neg q]; exact Paired.snoc r ⟨rfl, hb, ry⟩
theorem KT.keeps {H H' : Hp} {kvs : List (List Key × V)} {xs : List (List Key × Addr × Value)} (r : KT H kvs xs) (ht : ∀ b ys, H b = some (.tup ys) → H' b = some (.tup ys)) : KT H' kvs xs :=
  Paired.mapP r fun _ _ z => ⟨z.1, ht _ _ z.2.1, z.2.2⟩
section
variable {P : Program} {w : World} {H : Hp} {h : Heap} {a : Addr}
end
def DGet (H : Hp) (a : Addr) (y : V) (r : Option V) : Prop :=
  (∃ kvs k, Rd H a (.dK kvs) ∧ y = kV k ∧ r = valV kvs k) ∨ ∃ kvs k b, Rd H a (.dT kvs) ∧ y = .ref b ∧ H b = some (.tup (k.map kV)) ∧ r = valV kvs k
def DPut (H : Hp) (a : Addr) (y v : V) (H' : Hp) : Prop :=
  (∃ kvs k, H a = some (.dK kvs) ∧ y = kV k ∧ kvs.length < sizeLine ∧ H' = upd H a (.dK (putK kvs k v))) ∨
  ∃ kvs k b, H a = some (.dT kvs) ∧ y = .ref b ∧ H b = some (.tup (k.map kV)) ∧ kvs.length < sizeLine ∧ H' = upd H a (.dT (putK kvs k v))
theorem DGet.k {H : Hp} {a : Addr} {kvs : List (Key × V)} {k : Key} (e : H a = some (.dK kvs)) : DGet H a (kV k) (valV kvs k) := .inl ⟨kvs, k, .inl e, rfl, rfl⟩
theorem DGet.t {H : Hp} {a b : Addr} {kvs : List (List Key × V)} {k : List Key} (e : H a = some (.dT kvs)) (eb : H b = some (.tup (k.map kV))) : DGet H a (.ref b) (valV kvs k) := .inr ⟨kvs, k, b, .inl e, rfl, eb, rfl⟩
theorem DPut.k {H : Hp} {a : Addr} {kvs : List (Key × V)} {k : Key} {v : V} (e : H a = some (.dK kvs)) (hl : kvs.length < sizeLine) : DPut H a (kV k) v (upd H a (.dK (putK kvs k v))) := .inl ⟨kvs, k, e, rfl, hl, rfl⟩
theorem DPut.t {H : Hp} {a b : Addr} {kvs : List (List Key × V)} {k : List Key} {v : V} (e : H a = some (.dT kvs)) (eb : H b = some (.tup (k.map kV))) (hl : kvs.length < sizeLine) :
    DPut H a (.ref b) v (upd H a (.dT (putK kvs k v))) := .inr ⟨kvs, k, b, e, rfl, eb, hl, rfl⟩
section
variable {X : Cx} {pins : List (Addr × Obj)} {σ : St} {H : Hp} {s : Shared} {a : Addr} {y v : V} {u r : Value} {o : Option V} {A : Around} {E : Value → Shared → Prop}
end
section
variable {X : Cx} {pins : List (Addr × Obj)} {σ : St} {H : Hp} {s : Shared} {a : Addr} {kvs : List (Key × V)} {k : Key} {u : Value} {A : Around} {E : Value → Shared → Prop}
end
section
variable {X : Cx} {o i e value : Expr} {pos pos' tpos : Pos} {td ty tv : TE}
end
section
variable {X : Cx} {pos : Pos}
end
section
variable {X : Cx} {pins : List (Addr × Obj)} {σ : St} {H : Hp} {s : Shared} {a : Addr} {y d : V} {u r : Value} {o : Option V} {A : Around} {E : Value → Shared → Prop}
end
section
variable {X : Cx} {o e f : Expr} {apos cpos : Pos} {td ty tx : TE}
end
section
variable {X : Cx} {pins : List (Addr × Obj)} {σ : St} {H : Hp} {s : Shared} {a : Addr} {kvs : List (Key × V)} {A : Around} {E : Value → Shared → Prop}
end
section
variable {X : Cx} {pins : List (Addr × Obj)} {σ : St} {H : Hp} {s : Shared} {a : Addr} {y : V} {u : Value} {A : Around} {E : Value → Shared → Prop}
end
end L2
namespace L2
open PySem PySem.Spec PyProof.Rows
section
variable {prog : Program} {w : World} {A : Around} {E : Value → Shared → Prop}
end
section
variable {X : Cx}
end
end L2
namespace L2
open PySem PySem.Spec PyProof.Rows
section
variable {X : Cx} {pins : List (Addr × Obj)} {σ : St} {H : Hp} {s : Shared} {h' : Heap}
theorem Inv.turnedNew {t' : Nat} {ch : List Addr} {T : Addr} {ob : HO} (I : Inv X pins σ H s) (k : ∀ b o, b ∉ ch → s.heap.get? b = some o → h'.get? b = some o) (hf : ∀ b ∈ ch, FpOk X pins H b) (hT : s.heap.objs.size ≤ T)
    (new : ObjOk X.prog X.w (upd H T ob) h' T ob) : Inv X pins σ (upd H T ob) { s with heap := h', toks := t' } := by
  have hn : H T = none := I.hok.fresh hT
  have nit : ∀ b u, H b = some u → b ∉ ch := fun b u e z => by
    have q := (hf b z).1
    rw [q] at e; cases e
  refine I.step (g' := s.gens) (d' := s.drawn) (ch := ch) (fun b hb => ⟨(hf b hb).2.2.2.1, (hf b hb).2.1, (hf b hb).2.2.2.2.1, (hf b hb).2.2.2.2.2⟩) (fun b o _ _ hc e _ => k b o hc e) (fun b o _ _ hc e _ => ⟨o.slots, k b o hc e⟩)
    (fun b o _ e n => ?_) (fun b o hc e => ⟨o, k b o hc e⟩) (fun b xs e => ?_) (fun b o u e => ?_) (fun b ps e => ⟨#[], ?_⟩) (fun m hm => ?_) (fun b u e => ?_) I.bare
  · rw [upd_ne (Nat.ne_of_lt (Nat.lt_of_lt_of_le (Heap.lt_size e) hT))]; exact n
  · rw [upd_ne (ne_of_none e hn)]; exact e
  · rw [upd_ne (ne_of_none e hn)]; exact e
  · rw [upd_ne (ne_of_none e hn), e]; simp
  · obtain ⟨o, es, ep, ho, r⟩ := hm
    exact ⟨o, es, ep, k _ o (fun z => (hf _ z).2.1 rfl) ho, r⟩
  · by_cases hb : b = T
    · subst hb
      rw [upd_same] at e
      cases e
      exact new
    · rw [upd_ne hb] at e
      refine (I.hok b u e).stay (fun c v hc q => k c v ?_ q) (fun c q => by rw [upd_ne (ne_of_none q hn)]; exact q) fun c xs q => by rw [upd_ne (ne_of_none q hn)]; exact q
      rcases hc with z | z
      · rw [z]; exact nit b u e
      · exact nit c _ z
end
section
variable {X : Cx}
theorem pi_one {tg : Expr} {pins : List (Addr × Obj)} {σ : St} {H : Hp} {s : Shared} {R : It → Hp → Prop} {J : It} {tn : Nat → Heap → Prop} {tk : Nat} (I : Inv X pins σ H s) (o : Obj)
    (T : Turn X.prog X.w X.K tg J [s.heap.objs.size] s.heap.objs.size tn) (st : tn 0 (s.heap.push o)) (q : R J H) : PIE X pins σ tg R (.ref s.heap.objs.size) { s with heap := s.heap.push o, toks := tk } := by
  refine ⟨s.heap.objs.size, [s.heap.objs.size], tn, J, H, rfl, I.kept fun b ob e => Heap.get?_push_of_some _ e, T, st, fun b hb => ?_, q⟩
  have e : b = s.heap.objs.size := by simpa using hb
  subst e
  exact I.fpOk (Nat.le_refl _) (I.hok.fresh (Nat.le_refl _))
end
def Itc (lo c : Int) (n : Nat) : It := ⟨fun i _ => i < n, fun i H x H' => H' = H ∧ x = .int (lo + (i : Nat) * c), fun i _ => n ≤ i⟩
theorem turn_rangeC {P : Program} {w : World} {K : PySem.W.Frag} {tg : Expr} (it : Addr) (lo c : Int) (n : Nat) : Turn P w K tg (Itc lo c n) [it] it (fun i h => IsRangeIter h it (lo + (i : Nat) * c) ((n : Int) - (i : Nat)) c) where
  mem := by simp
  obj := fun i h st b hb => by
    have e : b = it := by simpa using hb
    subst e
    exact ⟨_, st, fun v z => nomatch z⟩
  keep := fun i h h' st k => k it (by simp) _ st
  item := by
    intro X hP hw hK hc i pins s σ H E I hf st hg
    subst hP hw hK
    obtain ⟨f0, f1, f2, f3, f4, f5⟩ := hf it (by simp)
    have W := Walks.range (prog := X.prog) (w := X.w) (I.ok.hd hc) it lo c n
    refine W.item i s _ _ hg st fun v h' tk hv st' kk => ?_
    obtain ⟨t, rfl⟩ := hv
    have I1 : Inv X pins σ H { s with heap := h', toks := tk } := I.turned (fun b o hb e => kk b o (by simpa using hb) e) f0 f1 f3 f4 f5
    exact ⟨_, rfl, go_of (s := { s with heap := h', toks := tk }) (n := "range_iterator") st' rfl rfl (by decide) ⟨.int (lo + (i : Nat) * c), H, I1, ⟨t, rfl⟩, ⟨rfl, rfl⟩, st', fun b hb => (hf b hb).1⟩⟩
  done := by
    intro X hP hw hK hc i pins s σ H E I hf st hg
    subst hP hw hK
    obtain ⟨f0, f1, f2, f3, f4, f5⟩ := hf it (by simp)
    exact wpAny_pyNext_range_end (I.ok.hd hc) st (by have : n ≤ i := hg; omega) fun h' eb => ⟨rfl, I.turned (t' := s.toks) (fun b o hb e => eb b o hb e) f0 f1 f3 f4 f5⟩
  self := fun A i s Q E st h => wpAny_pyIter_rangeiter st h
def RgC (i j c : Int) (n : Nat) : Prop := c ≠ 0 ∧ c.natAbs < 1073741824 ∧ Builtin.Range.small i j c = true ∧ Builtin.Range.rangeSize i j c = n
theorem RgC.neg {i j : Int} (ha : -(2 ^ 62) ≤ i) (ha' : i < 2 ^ 62) (hb : -(2 ^ 62) ≤ j) (hb' : j < 2 ^ 62) : RgC i j (-1) (i - j).toNat :=
  ⟨by decide, by decide, PySem.W.small_down ha ha' hb hb', PySem.W.rangeSize_downNat i j⟩
def iRng3 (ta : TA) : TI := fun σ H R => ta σ H fun vs H1 => ∃ (i j c : Int) (n : Nat), vs = [.int i, .int j, .int c] ∧ RgC i j c n ∧ R (Itc i c n) H1
section
variable {X : Cx} {tg : Expr}
theorem pi_range3 {a b c : Expr} {ta : TA} {p pos : Pos} (hg : Gl X "range") (hm : X.mg "range" = none) (ha : PA X [a, b, c] ta)
    (hs : starEach [a, b, c] X.env = (false, eval a X.env) :: starEach [b, c] X.env := by rfl) (hpl : (backTo pos (starEach [b, c] X.env)).any (·.1) = false := by rfl) :
    PI X tg (.Call (.Name "range" p) [a, b, c] [] pos) (iRng3 ta) := by
  intro pins s σ H R I h
  refine Call_ (ld_blt I hg hm boot_range (PyProof.Rows.callWith_type1 (thn (ha pos pins s σ H _ I h) fun us s1 ⟨vs, H1, I1, r1, q1⟩ => ?_) hs hpl))
  obtain ⟨i, j, k, n, e, ⟨c0, c1, c2, c3⟩, q⟩ := q1
  subst e
  cases r1 with
  | cons r rr =>
    cases rr with
    | cons r' rr =>
      cases rr with
      | cons r'' rr =>
        cases rr
        obtain ⟨t, rfl⟩ := r
        obtain ⟨t', rfl⟩ := r'
        obtain ⟨t'', rfl⟩ := r''
        refine call_range_3 c0 ?_ (.inl (PyProof.noPylong_small c1))
        refine wpAny_pyIter_range (IsRange.new ..) c2 ?_
        have I2 : Inv X pins σ H1 { s1 with heap := s1.heap.push { cls := .type "range", data := .fields #[.int i t, .int j t', .int k t''] } } := I1.kept (t' := s1.toks) fun b o e => Heap.get?_push_of_some _ e
        refine pi_one (tk := s1.toks) I2 _ (turn_rangeC _ i k n) ?_ q
        have e1 : i + ((0 : Nat) : Int) * k = i := by simp
        have e2 : (n : Int) - ((0 : Nat) : Int) = Builtin.Range.rangeSize i j k := by rw [c3]; simp
        show IsRangeIter _ _ (i + ((0 : Nat) : Int) * k) ((n : Int) - ((0 : Nat) : Int)) k
        rw [e1, e2]
        exact Heap.get?_push_size _ rfl
end
section
variable {X : Cx} {tg : Expr}
end
section
variable {prog : Program} {w : World} {A : Around} {E : Value → Shared → Prop} {s : Shared}
end
section
variable {X : Cx} {pins : List (Addr × Obj)} {σ : St} {H : Hp} {s : Shared} {d : Addr} {o : Obj}
end
section
variable {P : Program} {w : World} {K : PySem.W.Frag} {tg : Expr} {d : Addr} {o : Obj} {es : Array DictEntry} {ep : Nat}
end
section
variable {X : Cx} {tg e : Expr} {td : TE} {apos cpos : Pos}
end
def Ite (K : PySem.W.Frag) (a : Addr) : It :=
  ⟨fun i H => ∃ (xs : List V) (x : V), SqL K H a xs ∧ xs[i]? = some x, fun i H v H' => ∃ T x, v = .ref T ∧ H T = none ∧ H' = upd H T (.tup [.int (i : Nat), x]) ∧ ∀ xs, SqL K H a xs → xs[i]? = some x, fun i H => ∃ xs : List V, SqL K H a xs ∧ xs.length ≤ i⟩
theorem turn_enum {P : Program} {w : World} {K : PySem.W.Frag} {elts : List Expr} {kk : Nat} {tpos : Pos} (a e it : Addr) :
    Turn P w K (.Tuple elts kk tpos) (Ite K a) [e, it] e (fun i h => (∃ old, IsEnum h e it ((i : Nat) : Int) old) ∧ h.IsListIter it a i ∧ e ≠ it) where
  mem := by simp
  obj := fun i h st b hb => by
    obtain ⟨⟨old, he⟩, ⟨o, ho, hc, hd⟩, _⟩ := st
    have e' : b = e ∨ b = it := by simpa using hb
    rcases e' with z | z
    · rw [z]; exact ⟨_, he, fun v q => nomatch q⟩
    · rw [z]; exact ⟨o, ho, fun v q => by rw [hd] at q; cases q⟩
  keep := fun i h h' st k => let ⟨⟨old, he⟩, hi, hne⟩ := st; ⟨⟨old, k e (by simp) _ he⟩, hi.at fun o q => k it (by simp) o q, hne⟩
  item := by
    intro X hP hw hK hc i pins s σ H E I hf st hg
    subst hP hw hK
    obtain ⟨⟨old, he⟩, hit, hne⟩ := st
    obtain ⟨xs, x, hq, hx⟩ := hg
    obtain ⟨its, rv, p, hz⟩ := I.list hq
    obtain ⟨u, hu, ru⟩ := rv.get hx
    have hel : e < s.heap.objs.size := Heap.lt_size he
    have hil : it < s.heap.objs.size := by obtain ⟨_, q, _⟩ := hit; exact Heap.lt_size q
    refine wpAny_pyNext_enum_item he hit p.isList (x := u) (by simpa using hu) hne fun h' ho hit' hT hsz hk => ?_
    refine ⟨_, rfl, wpAny_letOwnedTupleGo_enum (s := { s with heap := h', toks := s.toks + 1 }) ho fun h'' he' sb => ?_⟩
    have hT2 : h''.get? s.heap.objs.size = some { cls := .type "tuple", data := .seq #[.int i s.toks, u] } := (sb.2 _ (Nat.ne_of_gt hel)).trans hT
    have new : ObjOk X.prog X.w (upd H s.heap.objs.size (.tup [.int (i : Nat), x])) h'' s.heap.objs.size (.tup [.int (i : Nat), x]) :=
      ⟨by show 2 ≤ sizeLine; decide, [.int i s.toks, u], .cons ⟨_, rfl⟩ (.cons ru .nil), ⟨_, hT2, rfl, _, rfl⟩⟩
    have I1 : Inv X pins σ (upd H s.heap.objs.size (.tup [.int (i : Nat), x])) { s with heap := h'', toks := s.toks + 1 } :=
      I.turnedNew (ch := [e, it]) (fun b ob hb q => (sb.2 b (fun z => hb (by simp [z]))).trans (hk b ob (fun z => hb (by simp [z])) (fun z => hb (by simp [z])) q)) hf (Nat.le_refl _) new
    refine ⟨.ref s.heap.objs.size, _, I1, rfl, ⟨_, x, rfl, I.hok.fresh (Nat.le_refl _), rfl, fun ys hy => by rw [I.list_inj hy hq]; exact hx⟩, ⟨⟨u, ?_⟩, hit'.at fun o q => (sb.2 it (Ne.symm hne)).trans q, hne⟩, fun b hb => ?_⟩
    · have e1 : ((i + 1 : Nat) : Int) = (i : Int) + 1 := by omega
      rw [e1]; exact he'
    · have hb' : b < s.heap.objs.size := by
        have e' : b = e ∨ b = it := by simpa using hb
        rcases e' with z | z
        · rw [z]; exact hel
        · rw [z]; exact hil
      rw [upd_ne (Nat.ne_of_lt hb')]
      exact (hf b hb).1
  done := by
    intro X hP hw hK hc i pins s σ H E I hf st hg
    subst hP hw hK
    obtain ⟨⟨old, he⟩, hit, hne⟩ := st
    obtain ⟨xs, hq, hx⟩ := hg
    obtain ⟨its, rv, p, hz⟩ := I.list hq
    obtain ⟨f0, f1, f2, f3, f4, f5⟩ := hf it (by simp)
    have hl := rv.length
    exact wpAny_pyNext_enum_end (I.ok.hd hc) he hit p.isList (by simp; omega) fun h' eb => ⟨rfl, I.turned (t' := s.toks) (fun b o hb q => eb b o hb q) f0 f1 f3 f4 f5⟩
  self := fun A i s Q E st h => let ⟨⟨_, he⟩, _⟩ := st; wpAny_pyIter_enum he h
def iEnum (K : PySem.W.Frag) (ta : TA) : TI := fun σ H R => ta σ H fun vs H1 => ∃ a xs, vs = [.ref a] ∧ SqL K H1 a xs ∧ R (Ite K a) H1
theorem pi_enum {X : Cx} {e : Expr} {ta : TA} {p pos tpos : Pos} {elts : List Expr} {kk : Nat} (hg : Gl X "enumerate") (hm : X.mg "enumerate" = none) (ha : PA X [e] ta) (hs : starEach [e] X.env = [(false, eval e X.env)] := by rfl) :
    PI X (.Tuple elts kk tpos) (.Call (.Name "enumerate" p) [e] [] pos) (iEnum X.K ta) := by
  intro pins s σ H R I h
  refine Call_ (ld_blt I hg hm boot_enumerate (PyProof.Rows.callWith_type1 (thn (ha pos pins s σ H _ I h) fun us s1 ⟨vs, H1, I1, r1, q1⟩ => ?_) hs rfl))
  obtain ⟨a, xs, ex, hq, q⟩ := q1
  subst ex
  cases r1 with
  | cons r rr =>
    cases rr
    cases r
    obtain ⟨its, rv, p', hz⟩ := I1.list hq
    refine call_enumerate_list p'.isList fun h' he hit hsz hk => wpAny_pyIter_enum he ?_
    have I2 : Inv X pins σ H1 { s1 with heap := h' } := I1.kept (t' := s1.toks) hk
    refine ⟨s1.heap.objs.size + 1, [s1.heap.objs.size + 1, s1.heap.objs.size], _, _, H1, rfl, I2, turn_enum a (s1.heap.objs.size + 1) s1.heap.objs.size, ⟨⟨.none, he⟩, hit, Nat.succ_ne_self _⟩, fun b hb => ?_, q⟩
    have e' : b = s1.heap.objs.size + 1 ∨ b = s1.heap.objs.size := by simpa using hb
    have hle : s1.heap.objs.size ≤ b := by
      rcases e' with z | z
      · rw [z]; exact Nat.le_add_right _ _
      · rw [z]; exact Nat.le_refl _
    exact I1.fpOk hle (I1.hok.fresh hle)
end L2
section 
namespace Bits
open PySem PyProof.Rows
end Bits
end 
section 
namespace TL
open PySem PySem.Builtin PySem.Builtin.Str PySem.StrLaws
abbrev tl (x : Str) : List Nat := x.cps.toList
def pre (S l : List Nat) : Bool := l.take S.length == S
def par (S : List Nat) : List Nat → List Nat → Option (List Nat × List Nat)
  | _, [] => none
  | acc, c :: r => if pre S (c :: r) = true then some (acc, (c :: r).drop S.length) else par S (acc ++ [c]) r
end TL
end 
namespace L2
open PySem PySem.Spec PyProof.Rows
section
variable {X : Cx} {pins : List (Addr × Obj)} {σ : St} {H : Hp} {s : Shared} {Q : VK}
end
section
variable {X : Cx}
end
section
variable {X : Cx} {o e : Expr} {to te : TE}
end
end L2
namespace L2
open PySem PySem.Spec PyProof.Rows
section
variable {X : Cx}
end
end L2
namespace Att
open PySem PySem.W PySem.Calls PyProof.Rows
section
variable {prog : Program} {w : World} {A : Around} {E : Value → Shared → Prop} {s : Shared} {K : Frag}
end
end Att
namespace L2
open PySem PySem.Spec PyProof.Rows
end L2
namespace L2
open PySem PySem.Spec PyProof.Rows
end L2
namespace L2
open PySem PySem.Spec PyProof.Rows
def inClass (s : Stmt) (j : Nat) : Stmt := match s with
  | .ClassDef _ _ _ body _ _ _ _ _ _ _ => body.getD j (.Pass ⟨0, 0, 0, 0⟩)
  | _ => .Pass ⟨0, 0, 0, 0⟩
def defArgs (s : Stmt) : Arguments := match s with
  | .FunctionDef _ a _ _ _ _ _ _ _ _ => a
  | _ => { posonlyargs := [], args := [], vararg := none, kwonlyargs := [], kw_defaults := [], kwarg := none, defaults := [] }
def defBody (s : Stmt) : List Stmt := match s with
  | .FunctionDef _ _ b _ _ _ _ _ _ _ => b
  | _ => []
def defScope (s : Stmt) : Scope := match s with
  | .FunctionDef _ _ _ _ _ _ sc _ _ _ => sc
  | _ => { kind := .function, names := [], isGenerator := false, isCoroutine := false }
abbrev CX0 : CXT := fun _ _ _ _ _ _ => False
abbrev E0 : XK := fun _ _ _ => False
theorem pass0 {X : Cx} : Passes CX0 X E0 := fun _ _ _ _ _ _ _ h => h.elim
structure Fun (K : PySem.W.Frag) (x qual : Str) (st : Stmt) (f : Addr) (fd : FuncData) : Prop where
  ex : ∃ (oc : Value) (od : Option Addr) (kV doc pm : Value) (an : Option Addr) (cdv ct : Value) (osl : Array (Option Value)),
    fd = PySem.W.fnOf x qual (defArgs st) (defBody st) (defScope st) .none kV doc pm an cdv ct ∧ K.lookup f = some ⟨oc, od, .func fd, osl⟩ ∧ PySem.W.codeIn K cdv qual = true
  kp : PySem.W.keepIn K (.ref f) = true
section
variable {P : Program} {w : World} {K : PySem.W.Frag} {mg : Str → Option Value} {base : Heap}
theorem Fun.ok {x qual : Str} {st : Stmt} {f : Addr} {fd : FuncData} {N ps : List Str} {k : Nat} {sp : Sp} (F : Fun K x qual st f fd) (S : FnScope N ps (defScope st)) (len : ∀ vs H Q E, sp vs H Q E → vs.length = ps.length)
    (hbody : ∀ (cdv : Value) (A : Around) (outer : List Env) (s : Shared) (H : Hp) (vs : List V) (Q : VK) (E : XK), Room k (A.deeper (envOfC qual (defScope st) s.heap.objs.size f cdv)) → sp vs H Q E →
      ∃ t, PSs (cxOf CX0 P w K mg base N qual (defScope st) f cdv A outer s H E).nox (defBody st) t ∧ t { nx := fun _ H' => Q .non H', rt := Q } (start N vs) H) : FnOk P w K mg base CX0 (k + 1) f fd ps sp := by
  obtain ⟨oc, od, kV, doc, pm, an, cdv, ct, osl, rfl, lk, hcd⟩ := F.ex
  refine fn_of lk hcd S len fun A outer s H vs Q E hr hsp => ?_
  obtain ⟨t, h, q⟩ := hbody cdv A outer s H vs Q E hr hsp
  exact ⟨t, h.nox, q⟩
theorem Fun.binds {x qual : Str} {st : Stmt} {f : Addr} {fd : FuncData} {ps : List Str} (F : Fun K x qual st f fd)
    (h : ∀ (kV doc pm : Value) (an : Option Addr) (cdv ct : Value) (us : List Value), us.length = ps.length → bindArgs (PySem.W.fnOf x qual (defArgs st) (defBody st) (defScope st) .none kV doc pm an cdv ct) ⟨us, []⟩ = pure (ps.zip us)) : Binds K fd ps [] := by
  obtain ⟨oc, od, kV, doc, pm, an, cdv, ct, osl, rfl, lk, hcd⟩ := F.ex
  exact .all (h kV doc pm an cdv ct)
theorem fun_mk {x qual : Str} {st : Stmt} {f : Addr} {oc : Value} {od an : Option Addr} {osl : Array (Option Value)} {kV doc pm cdv ct : Value} (l : K.lookup f = some ⟨oc, od, .func (PySem.W.fnOf x qual (defArgs st) (defBody st) (defScope st) .none kV doc pm an cdv ct), osl⟩)
    (c : PySem.W.codeIn K cdv qual = true) (k : PySem.W.keepIn K (.ref f) = true) : Fun K x qual st f (PySem.W.fnOf x qual (defArgs st) (defBody st) (defScope st) .none kV doc pm an cdv ct) := ⟨⟨oc, od, kV, doc, pm, an, cdv, ct, osl, rfl, l, c⟩, k⟩
end
section
variable {X : Cx}
theorem pv (i : Nat) {x : Str} {pos : Pos} (hN : X.N[i]? = some x := by rfl) (hv : Vis X.env.scope x := by first | exact Or.inl rfl | exact Or.inr (Or.inl rfl) | exact Or.inr (Or.inr rfl)) (hd : (x == ("__debug__" : Str)) = false := by decide)
    (hcd : (x == ("__classdict__" : Str)) = false := by decide) : PE X (.Name x pos) (tVar i) := pe_var hN hv hd hcd
end
theorem iteF {A B : Prop} (h : B) : if false = true then A else B := by
  rw [if_neg Bool.false_ne_true]
  exact h
theorem iteT {A B : Prop} (h : A) : if true = true then A else B := by
  rw [if_pos rfl]
  exact h
theorem ite2 {c A B : Prop} [Decidable c] (h1 : c → A) (h2 : ¬ c → B) : if c then A else B := by
  by_cases h : c
  · rw [if_pos h]
    exact h1 h
  · rw [if_neg h]
    exact h2 h
theorem iteNS {c A B : Prop} [Decidable c] (hc : c) (h : B) : if (!decide c) = true then A else B := by
  rw [decide_eq_true hc]
  exact iteF h
def Same (H H' : Hp) : Prop := ∀ b o, H b = some o → H' b = some o
theorem Same.refl (H : Hp) : Same H H := fun _ _ h => h
theorem Same.trans {H H1 H2 : Hp} (a : Same H H1) (b : Same H1 H2) : Same H H2 := fun c o h => b c o (a c o h)
theorem Same.free {H H' : Hp} (e : Same H H') {l : Addr} (h : H' l = Option.none) : H l = Option.none := by
  cases q : H l with
  | none => rfl
  | some o =>
    rw [e l o q] at h
    cases h
theorem Same.seq {K : PySem.W.Frag} {H H' : Hp} {a : Addr} {xs : List V} (e : Same H H') (h : SqL K H a xs) : SqL K H' a xs := by
  rcases h with (h | ⟨o, h⟩) | h
  · exact .inl (.inl (e _ _ h))
  · exact .inl (.inr ⟨o, e _ _ h⟩)
  · exact .inr h
section
variable {κ : Type} [DecidableEq κ]
end
theorem at_of {xs : List V} {z : Int} {j : Nat} {v : V} (e : z = (j : Int)) (h : xs[j]? = some v) : atI xs z = some v := by
  rw [e]
  exact atI_nat h
theorem Same.made {H H1 : Hp} {x dx C : Addr} (nx : H x = Option.none) (nd : H dx = Option.none) (k : ∀ b o, (upd (upd H dx (.own x)) x (.ins C dx [])) b = some o → b ≠ x → H1 b = some o) : Same H H1 := fun b o e =>
  k b o (by rw [upd_ne (ne_of_none e nx), upd_ne (ne_of_none e nd)]; exact e) (ne_of_none e nx)
end L2
section
set_option Elab.async false
set_option linter.all false
set_option maxRecDepth 100000
set_option maxHeartbeats 2000000
namespace L2
open PySem PySem.Spec PyProof.Rows
open PySem.W (WData Codec OpenSpec Well WellAll ReadsW ReadsAllW)
mutual
/-- x stands for the datum d, lists and tuples all the way -/
inductive Dw (K : PySem.W.Frag) (H : Hp) : V → WData → Prop
  | non : Dw K H .non .none
  | bl (b : Bool) : Dw K H (.bl b) (.bool b)
  | int (i : Int) : Dw K H (.int i) (.int i)
  | str (x : Str) : Dw K H (.str x) (.str x)
  | byt (b : Array UInt8) : Dw K H (.byt b) (.bytes b.toList)
  | lst {a : Addr} {xs : List V} {ds : List WData} : SqL K H a xs → DwAll K H xs ds → Dw K H (.ref a) (.list ds)
  | tup {a : Addr} {xs : List V} {ds : List WData} : SqT K H a xs → DwAll K H xs ds → Dw K H (.ref a) (.tuple ds)
inductive DwAll (K : PySem.W.Frag) (H : Hp) : List V → List WData → Prop
  | nil : DwAll K H [] []
  | cons {v : V} {vs : List V} {d : WData} {ds : List WData} : Dw K H v d → DwAll K H vs ds → DwAll K H (v :: vs) (d :: ds)
end
theorem dw_ints {K : PySem.W.Frag} {H : Hp} : ∀ ns : List Int, DwAll K H (ns.map V.int) (ns.map WData.int)
  | [] => .nil
  | n :: r => .cons (.int n) (dw_ints r)
theorem ints_dw {K : PySem.W.Frag} {H : Hp} : ∀ (ns : List Int) (xs : List V), DwAll K H xs (ns.map WData.int) → xs = ns.map V.int
  | [], xs, h => by
    cases h
    rfl
  | n :: r, xs, h => by
    cases h with
    | cons h1 h2 =>
      cases h1
      rw [ints_dw r _ h2] <;> rfl
section
variable {P : Program} {w : World} {K : PySem.W.Frag} {H : Hp} {h : Heap} {R : PySem.W.WRecords} {cl : Str → Option Addr}
theorem sqL_at {a : Addr} {xs : List V} (hok : HOk P w H h) (KX : K.In h) (q : SqL K H a xs) : ∃ (its : List Value) (o : Obj) (n : Nat), Vals xs its ∧ h.get? a = some o ∧ o.cls = .type "list" ∧ o.data = .seq its.toArray n := by
  rcases q with q | ⟨o, its, n, e, hc, _, hd, _, hv⟩
  · obtain ⟨_, its, n, hv, e⟩ := (show ObjOk P w H h a (.lst xs) from q.ok hok)
    exact ⟨its, _, n, hv, e, rfl, rfl⟩
  · exact ⟨its.toList, o, n, hv, KX _ _ e, hc, by simp [hd]⟩
theorem sqT_at {a : Addr} {xs : List V} (hok : HOk P w H h) (KX : K.In h) (q : SqT K H a xs) : ∃ (its : List Value) (o : Obj) (n : Nat), Vals xs its ∧ h.get? a = some o ∧ o.cls = .type "tuple" ∧ o.data = .seq its.toArray n := by
  rcases q with q | ⟨o, its, n, e, hc, hd, _, hv⟩
  · obtain ⟨_, its, hv, o, e, hc, n, hd⟩ := (show ObjOk P w H h a (.tup xs) from q.ok hok)
    exact ⟨its, o, n, hv, e, hc, hd⟩
  · exact ⟨its.toList, o, n, hv, KX _ _ e, hc, by simp [hd]⟩
mutual
theorem Dw.reads (hok : HOk P w H h) (KX : K.In h) : ∀ (d : WData) (v : V) (u : Value), Dw K H v d → RelV v u → ∃ as, ReadsW R cl h u d as
  | .none, _, _, x, r => by
    cases x
    cases r
    exact ⟨_, ReadsW.none⟩
  | .bool b, _, _, x, r => by
    cases x
    cases r
    exact ⟨_, ReadsW.bool b⟩
  | .int i, _, _, x, r => by
    cases x
    obtain ⟨t, rfl⟩ := r
    exact ⟨_, ReadsW.int i t⟩
  | .str s, _, _, x, r => by
    cases x
    obtain ⟨t, rfl⟩ := r
    exact ⟨_, ReadsW.str s t⟩
  | .bytes b, _, _, x, r => by
    cases x
    obtain ⟨t, rfl⟩ := r
    exact ⟨_, ReadsW.bytes _ t⟩
  | .list ds, _, _, x, r => by
    cases x with
    | lst hs ha =>
      cases r
      obtain ⟨its, o, n, rv, ho, hc, hd⟩ := sqL_at hok KX hs
      obtain ⟨as, hr⟩ := Dw.readsAll hok KX ds _ its ha rv
      exact ⟨_, ReadsW.list ho hc hd hr⟩
  | .tuple ds, _, _, x, r => by
    cases x with
    | tup hs ha =>
      cases r
      obtain ⟨its, o, n, rv, ho, hc, hd⟩ := sqT_at hok KX hs
      obtain ⟨as, hr⟩ := Dw.readsAll hok KX ds _ its ha rv
      exact ⟨_, ReadsW.tuple ho hc hd hr⟩
  | .float _, _, _, x, _ => by cases x
  | .dict _, _, _, x, _ => by cases x
  | .bytearray _, _, _, x, _ => by cases x
  | .set _, _, _, x, _ => by cases x
  | .frozenset _, _, _, x, _ => by cases x
  | .obj _ _, _, _, x, _ => by cases x
theorem Dw.readsAll (hok : HOk P w H h) (KX : K.In h) : ∀ (ds : List WData) (vs : List V) (us : List Value), DwAll K H vs ds → Vals vs us → ∃ as, ReadsAllW R cl h us ds as
  | [], _, _, x, r => by
    cases x
    cases r
    exact ⟨_, ReadsAllW.nil⟩
  | d :: ds, _, _, x, r => by
    cases x with
    | cons h1 h2 =>
      cases r with
      | cons r1 r2 =>
        obtain ⟨as, q1⟩ := Dw.reads hok KX d _ _ h1 r1
        obtain ⟨bs, q2⟩ := Dw.readsAll hok KX ds _ _ h2 r2
        exact ⟨_, ReadsAllW.cons q1 q2⟩
end
end
mutual
/-- data that a codec tells -/
def plW : WData → Bool
  | .none => true
  | .bool _ => true
  | .int _ => true
  | .str _ => true
  | .bytes _ => true
  | .list xs => plWs xs
  | .tuple xs => plWs xs
  | _ => false
def plWs : List WData → Bool
  | [] => true
  | x :: r => plW x && plWs r
end
theorem plWs_map {α : Type} {f : α → WData} (h : ∀ a, plW (f a) = true) : ∀ l : List α, plWs (l.map f) = true
  | [] => rfl
  | x :: r => by
    show (plW (f x) && plWs (r.map f)) = true
    rw [h x, plWs_map h r] <;> rfl
theorem pl_enc : ∀ (c : Codec) (a : c.denote), plW (c.enc a) = true
  | .unit, _ => rfl
  | .bool, _ => rfl
  | .int _ _, _ => rfl
  | .nat _ _, _ => rfl
  | .u8, _ => rfl
  | .bytes _ _, _ => rfl
  | .text _ _ _ _, _ => rfl
  | .list _ _ c, a => plWs_map (fun x => pl_enc c x) a
  | .pair c d, a => by
    show (plW (c.enc a.1) && (plW (d.enc a.2) && true)) = true
    rw [pl_enc c a.1, pl_enc d a.2] <;> rfl
  | .triple c d e, a => by
    show (plW (c.enc a.1) && (plW (d.enc a.2.1) && (plW (e.enc a.2.2) && true))) = true
    rw [pl_enc c a.1, pl_enc d a.2.1, pl_enc e a.2.2] <;> rfl
  | .option c, none => rfl
  | .option c, some x => pl_enc c x
theorem pl_encAll : ∀ (cs : List Codec) (a : Codec.denoteAll cs), plWs (Codec.encAll cs a) = true
  | [], _ => rfl
  | c :: cs, a => by
    show (plW (c.enc a.1) && plWs (Codec.encAll cs a.2)) = true
    rw [pl_enc c a.1, pl_encAll cs a.2] <;> rfl
theorem weight_mem : ∀ {xs : List WData} {d : WData}, d ∈ xs → d.weight ≤ WData.weightAll xs
  | [], d, h => absurd h (by simp)
  | x :: r, d, h => by
    show d.weight ≤ x.weight + 1 + WData.weightAll r
    rcases List.mem_cons.mp h with e | m
    · rw [e]
      omega
    · have z := weight_mem m
      omega
def toV : Value → V
  | .none => .non
  | .bool b => .bl b
  | .int i _ => .int i
  | .str x _ => .str x
  | .bytes b _ => .byt b
  | .ref a => .ref a
  | _ => .non
def OkU (A : List Addr) : Value → Prop
  | .none => True
  | .bool _ => True
  | .int _ _ => True
  | .str _ _ => True
  | .bytes _ _ => True
  | .ref a => a ∈ A
  | _ => False
theorem OkU.mono {A B : List Addr} (h : ∀ a ∈ A, a ∈ B) : ∀ {u : Value}, OkU A u → OkU B u := fun {u} x => by
  cases u with
  | ref a => exact h a x
  | none => trivial
  | bool b => trivial
  | int i t => trivial
  | str s t => trivial
  | bytes b t => trivial
  | _ => exact False.elim x
theorem relV_toV {A : List Addr} {u : Value} (x : OkU A u) : RelV (toV u) u := by
  cases u with
  | ref a => rfl
  | none => rfl
  | bool b => rfl
  | int i t => exact ⟨t, rfl⟩
  | str s t => exact ⟨t, rfl⟩
  | bytes b t => exact ⟨t, rfl⟩
  | _ => exact False.elim x
theorem vals_toV {A : List Addr} : ∀ {vs : List Value}, (∀ u ∈ vs, OkU A u) → Vals (vs.map toV) vs
  | [], _ => .nil
  | u :: r, h => .cons (relV_toV (h u (List.mem_cons_self ..))) (vals_toV fun x hx => h x (List.mem_cons_of_mem _ hx))
def ArgOb (h : Heap) (A : List Addr) (a : Addr) : Prop := ∃ vs : List Value, vs.length ≤ sizeLine ∧ (∀ u ∈ vs, OkU A u) ∧
  (h.get? a = some { cls := .type "list", data := .seq vs.toArray } ∨ h.get? a = some { cls := .type "tuple", data := .seq vs.toArray })
theorem ArgOb.mono {h : Heap} {A B : List Addr} {a : Addr} (k : ∀ a ∈ A, a ∈ B) (x : ArgOb h A a) : ArgOb h B a := by
  obtain ⟨vs, h1, h2, h3⟩ := x
  exact ⟨vs, h1, fun u hu => (h2 u hu).mono k, h3⟩
theorem wellAll_len {P : Params} {h : Heap} : ∀ {vs : List Value} {ds : List WData}, WellAll P h vs ds → vs.length = ds.length
  | _, _, .nil => rfl
  | _, _, .cons _ b => by
    show _ + 1 = _ + 1
    rw [wellAll_len b]
theorem well_list {P : Params} {h : Heap} {v : Value} {ds : List WData} (x : Well P h v (.list ds)) : ∃ (a : Addr) (vs : List Value), v = .ref a ∧ h.get? a = some { cls := .type "list", data := .seq vs.toArray } ∧ WellAll P h vs ds := by
  cases x with
  | list ho hall => exact ⟨_, _, rfl, ho, hall⟩
theorem well_tuple {P : Params} {h : Heap} {v : Value} {ds : List WData} (x : Well P h v (.tuple ds)) : ∃ (a : Addr) (vs : List Value), v = .ref a ∧ h.get? a = some { cls := .type "tuple", data := .seq vs.toArray } ∧ WellAll P h vs ds := by
  cases x with
  | tuple ho hall => exact ⟨_, _, rfl, ho, hall⟩
theorem well_cons {P : Params} {h : Heap} {us : List Value} {d : WData} {ds : List WData} (x : WellAll P h us (d :: ds)) : ∃ (v : Value) (vs : List Value), us = v :: vs ∧ Well P h v d ∧ WellAll P h vs ds := by
  cases x with
  | cons a b => exact ⟨_, _, rfl, a, b⟩
theorem line_of {n : Nat} (h : n ≤ 1048576) : n ≤ sizeLine := Nat.le_trans h (by decide)
section
variable {P : Params} {h : Heap}
mutual
theorem area_one : ∀ (d : WData) (v : Value), Well P h v d → plW d = true → d.weight ≤ 1048576 → ∃ A : List Addr, OkU A v ∧ ∀ a ∈ A, ArgOb h A a
  | .none, _, x, _, _ => by
    cases x
    exact ⟨[], trivial, fun a m => absurd m (by simp)⟩
  | .bool b, _, x, _, _ => by
    cases x
    exact ⟨[], trivial, fun a m => absurd m (by simp)⟩
  | .int i, _, x, _, _ => by
    cases x
    exact ⟨[], trivial, fun a m => absurd m (by simp)⟩
  | .str s, _, x, _, _ => by
    cases x
    exact ⟨[], trivial, fun a m => absurd m (by simp)⟩
  | .bytes b, _, x, _, _ => by
    cases x
    exact ⟨[], trivial, fun a m => absurd m (by simp)⟩
  | .list ds, _, x, p, z => by
    obtain ⟨a, vs, rfl, ho, hall⟩ := well_list x
    have z2 : WData.weightAll ds ≤ 1048576 := z
    obtain ⟨A, h1, h2⟩ := area_all ds _ hall p fun d hd => Nat.le_trans (weight_mem hd) z2
    have k : ∀ b ∈ A, b ∈ a :: A := fun b hb => List.mem_cons_of_mem _ hb
    refine ⟨a :: A, List.mem_cons_self .., fun b hb => ?_⟩
    rcases List.mem_cons.mp hb with e | m
    · rw [e]
      exact ⟨vs, line_of (by rw [wellAll_len hall]; exact Nat.le_trans (PySem.W.length_le_weightAllW ds) z2), fun u hu => (h1 u hu).mono k, .inl ho⟩
    · exact (h2 b m).mono k
  | .tuple ds, _, x, p, z => by
    obtain ⟨a, vs, rfl, ho, hall⟩ := well_tuple x
    have z2 : WData.weightAll ds ≤ 1048576 := z
    obtain ⟨A, h1, h2⟩ := area_all ds _ hall p fun d hd => Nat.le_trans (weight_mem hd) z2
    have k : ∀ b ∈ A, b ∈ a :: A := fun b hb => List.mem_cons_of_mem _ hb
    refine ⟨a :: A, List.mem_cons_self .., fun b hb => ?_⟩
    rcases List.mem_cons.mp hb with e | m
    · rw [e]
      exact ⟨vs, line_of (by rw [wellAll_len hall]; exact Nat.le_trans (PySem.W.length_le_weightAllW ds) z2), fun u hu => (h1 u hu).mono k, .inr ho⟩
    · exact (h2 b m).mono k
  | .float _, _, _, p, _ => Bool.noConfusion (show false = true from p)
  | .dict _, _, _, p, _ => Bool.noConfusion (show false = true from p)
  | .bytearray _, _, _, p, _ => Bool.noConfusion (show false = true from p)
  | .set _, _, _, p, _ => Bool.noConfusion (show false = true from p)
  | .frozenset _, _, _, p, _ => Bool.noConfusion (show false = true from p)
  | .obj _ _, _, _, p, _ => Bool.noConfusion (show false = true from p)
theorem area_all : ∀ (ds : List WData) (vs : List Value), WellAll P h vs ds → plWs ds = true → (∀ d ∈ ds, d.weight ≤ 1048576) → ∃ A : List Addr, (∀ u ∈ vs, OkU A u) ∧ ∀ a ∈ A, ArgOb h A a
  | [], _, x, _, _ => by
    cases x
    exact ⟨[], fun u m => absurd m (by simp), fun a m => absurd m (by simp)⟩
  | d :: ds, _, x, p, z => by
    obtain ⟨v, vs, rfl, x1, x2⟩ := well_cons x
    have q : plW d = true ∧ plWs ds = true := Bool.and_eq_true_iff.mp p
    obtain ⟨A, a1, a2⟩ := area_one d v x1 q.1 (z d (List.mem_cons_self ..))
    obtain ⟨B, b1, b2⟩ := area_all ds vs x2 q.2 fun e he => z e (List.mem_cons_of_mem _ he)
    have kA : ∀ b ∈ A, b ∈ A ++ B := fun b hb => List.mem_append.mpr (.inl hb)
    have kB : ∀ b ∈ B, b ∈ A ++ B := fun b hb => List.mem_append.mpr (.inr hb)
    refine ⟨A ++ B, fun u hu => ?_, fun b hb => ?_⟩
    · rcases List.mem_cons.mp hu with e | m
      · rw [e]
        exact a1.mono kA
      · exact (b1 u m).mono kB
    · rcases List.mem_append.mp hb with m | m
      · exact (a2 b m).mono kA
      · exact (b2 b m).mono kB
end
end
def hoOf (o : Obj) : Option HO := match o.data with
  | .seq vs _ => if (o.cls == Value.type "list") = true then some (.frz o (.lst (vs.toList.map toV))) else some (.frz o (.tup (vs.toList.map toV)))
  | _ => none
def argH (K : PySem.W.Frag) (h : Heap) (A : List Addr) : Hp := fun b => if b ∈ A then (if (K.lookup b).isNone = true then (h.get? b).bind hoOf else none) else none
def OnlyF (H : Hp) : Prop := ∀ b, H b = none ∨ ∃ o u, H b = some (.frz o u)
theorem hoOf_lst (vs : List Value) : hoOf { cls := .type "list", data := .seq vs.toArray } = some (.frz { cls := .type "list", data := .seq vs.toArray } (.lst (vs.map toV))) := by
  show (if (Value.type "list" == Value.type "list") = true then some (HO.frz { cls := .type "list", data := .seq vs.toArray } (.lst (vs.toArray.toList.map toV))) else some (HO.frz { cls := .type "list", data := .seq vs.toArray } (.tup (vs.toArray.toList.map toV)))) = _
  rw [if_pos (beq_self_eq_true _)]
theorem hoOf_tup (vs : List Value) : hoOf { cls := .type "tuple", data := .seq vs.toArray } = some (.frz { cls := .type "tuple", data := .seq vs.toArray } (.tup (vs.map toV))) := by
  show (if (Value.type "tuple" == Value.type "list") = true then some (HO.frz { cls := .type "tuple", data := .seq vs.toArray } (.lst (vs.toArray.toList.map toV))) else some (HO.frz { cls := .type "tuple", data := .seq vs.toArray } (.tup (vs.toArray.toList.map toV)))) = _
  rw [if_neg (by decide)]
section
variable {P : Program} {w : World} {K : PySem.W.Frag} {h : Heap} {A : List Addr}
theorem argH_at {b : Addr} {o : Obj} (hb : b ∈ A) (hk : K.lookup b = none) (e : h.get? b = some o) : argH K h A b = hoOf o := by
  unfold argH
  rw [if_pos hb, hk, if_pos (show (none : Option Obj).isNone = true from rfl), e] <;> rfl
theorem of_argH {b : Addr} {u : HO} (q : argH K h A b = some u) : b ∈ A ∧ K.lookup b = none := by
  unfold argH at q
  by_cases hb : b ∈ A
  · rw [if_pos hb] at q
    cases hk : K.lookup b with
    | none => exact ⟨hb, rfl⟩
    | some o =>
      rw [hk, if_neg (by simp)] at q
      cases q
  · rw [if_neg hb] at q
    cases q
theorem argH_is (ar : ∀ a ∈ A, ArgOb h A a) {b : Addr} {u : HO} (q : argH K h A b = some u) : K.lookup b = none ∧ ∃ vs : List Value, vs.length ≤ sizeLine ∧ (∀ u ∈ vs, OkU A u) ∧
    ((h.get? b = some { cls := .type "list", data := .seq vs.toArray } ∧ u = .frz { cls := .type "list", data := .seq vs.toArray } (.lst (vs.map toV))) ∨
     (h.get? b = some { cls := .type "tuple", data := .seq vs.toArray } ∧ u = .frz { cls := .type "tuple", data := .seq vs.toArray } (.tup (vs.map toV)))) := by
  obtain ⟨hb, hk⟩ := of_argH q
  obtain ⟨vs, h1, h2, h3⟩ := ar b hb
  refine ⟨hk, vs, h1, h2, ?_⟩
  rcases h3 with e | e
  · rw [argH_at hb hk e, hoOf_lst] at q
    exact .inl ⟨e, (Option.some.inj q).symm⟩
  · rw [argH_at hb hk e, hoOf_tup] at q
    exact .inr ⟨e, (Option.some.inj q).symm⟩
theorem argH_only (ar : ∀ a ∈ A, ArgOb h A a) : OnlyF (argH K h A) := fun b => by
  cases q : argH K h A b with
  | none => exact .inl rfl
  | some u =>
    obtain ⟨_, vs, _, _, ⟨_, e⟩ | ⟨_, e⟩⟩ := argH_is ar q
    · exact .inr ⟨_, _, by rw [e]⟩
    · exact .inr ⟨_, _, by rw [e]⟩
theorem argH_ok (ar : ∀ a ∈ A, ArgOb h A a) : HOk P w (argH K h A) h := fun b u q => by
  obtain ⟨_, vs, h1, h2, ⟨e, rfl⟩ | ⟨e, rfl⟩⟩ := argH_is ar q
  · exact ⟨e, by rw [List.length_map]; exact h1, vs, _, vals_toV h2, e⟩
  · exact ⟨e, by rw [List.length_map]; exact h1, vs, vals_toV h2, _, e, rfl, _, rfl⟩
theorem seq_inj {c c' : Value} {vs us : List Value} (e : (some { cls := c, data := .seq vs.toArray } : Option Obj) = some { cls := c', data := .seq us.toArray }) : c = c' ∧ vs = us := by
  have e1 := Option.some.inj e
  have e2 : c = c' := congrArg Obj.cls e1
  have e3 : Data.seq vs.toArray = Data.seq us.toArray := congrArg Obj.data e1
  injection e3 with e4
  refine ⟨e2, ?_⟩
  have e5 := congrArg Array.toList e4
  simpa using e5
theorem argL (KX : K.In h) (ar : ∀ a ∈ A, ArgOb h A a) {a : Addr} {vs : List Value} (ha : a ∈ A) (e : h.get? a = some { cls := .type "list", data := .seq vs.toArray }) : (∀ u ∈ vs, OkU A u) ∧ SqL K (argH K h A) a (vs.map toV) := by
  obtain ⟨us, h1, h2, h3⟩ := ar a ha
  have hu : us = vs := by
    rcases h3 with q | q
    · rw [e] at q
      exact (seq_inj q).2.symm
    · rw [e] at q
      exact absurd (Value.type.inj (seq_inj q).1) (by decide)
  subst hu
  refine ⟨h2, ?_⟩
  cases hk : K.lookup a with
  | none => exact .inl (.inr ⟨_, by rw [argH_at ha hk e, hoOf_lst]⟩)
  | some o =>
    have e2 := KX a o hk
    rw [e] at e2
    obtain rfl := Option.some.inj e2
    exact .inr ⟨_, us.toArray, _, hk, rfl, rfl, rfl, by rw [List.size_toArray]; exact h1, by simpa using vals_toV h2⟩
theorem argT (KX : K.In h) (ar : ∀ a ∈ A, ArgOb h A a) {a : Addr} {vs : List Value} (ha : a ∈ A) (e : h.get? a = some { cls := .type "tuple", data := .seq vs.toArray }) : (∀ u ∈ vs, OkU A u) ∧ SqT K (argH K h A) a (vs.map toV) := by
  obtain ⟨us, h1, h2, h3⟩ := ar a ha
  have hu : us = vs := by
    rcases h3 with q | q
    · rw [e] at q
      exact absurd (Value.type.inj (seq_inj q).1) (by decide)
    · rw [e] at q
      exact (seq_inj q).2.symm
  subst hu
  refine ⟨h2, ?_⟩
  cases hk : K.lookup a with
  | none => exact .inl (.inr ⟨_, by rw [argH_at ha hk e, hoOf_tup]⟩)
  | some o =>
    have e2 := KX a o hk
    rw [e] at e2
    obtain rfl := Option.some.inj e2
    exact .inr ⟨_, us.toArray, _, hk, rfl, rfl, by rw [List.size_toArray]; exact h1, by simpa using vals_toV h2⟩
mutual
theorem dw_one {Pm : Params} (KX : K.In h) (ar : ∀ a ∈ A, ArgOb h A a) : ∀ (d : WData) (v : Value), Well Pm h v d → plW d = true → OkU A v → Dw K (argH K h A) (toV v) d
  | .none, _, x, _, _ => by
    cases x
    exact .non
  | .bool b, _, x, _, _ => by
    cases x
    exact .bl b
  | .int i, _, x, _, _ => by
    cases x
    exact .int i
  | .str s, _, x, _, _ => by
    cases x
    exact .str s
  | .bytes b, _, x, _, _ => by
    cases x
    have z := Dw.byt (K := K) (H := argH K h A) b.toArray
    exact z
  | .list ds, _, x, p, hu => by
    obtain ⟨a, vs, rfl, ho, hall⟩ := well_list x
    obtain ⟨h2, hs⟩ := argL KX ar hu ho
    exact .lst hs (dw_all KX ar ds _ hall p h2)
  | .tuple ds, _, x, p, hu => by
    obtain ⟨a, vs, rfl, ho, hall⟩ := well_tuple x
    obtain ⟨h2, hs⟩ := argT KX ar hu ho
    exact .tup hs (dw_all KX ar ds _ hall p h2)
  | .float _, _, _, p, _ => Bool.noConfusion (show false = true from p)
  | .dict _, _, _, p, _ => Bool.noConfusion (show false = true from p)
  | .bytearray _, _, _, p, _ => Bool.noConfusion (show false = true from p)
  | .set _, _, _, p, _ => Bool.noConfusion (show false = true from p)
  | .frozenset _, _, _, p, _ => Bool.noConfusion (show false = true from p)
  | .obj _ _, _, _, p, _ => Bool.noConfusion (show false = true from p)
theorem dw_all {Pm : Params} (KX : K.In h) (ar : ∀ a ∈ A, ArgOb h A a) : ∀ (ds : List WData) (vs : List Value), WellAll Pm h vs ds → plWs ds = true → (∀ u ∈ vs, OkU A u) → DwAll K (argH K h A) (vs.map toV) ds
  | [], _, x, _, _ => by
    cases x
    exact .nil
  | d :: ds, _, x, p, hu => by
    obtain ⟨v, vs, rfl, x1, x2⟩ := well_cons x
    have q : plW d = true ∧ plWs ds = true := Bool.and_eq_true_iff.mp p
    exact .cons (dw_one KX ar d v x1 q.1 (hu _ (List.mem_cons_self ..))) (dw_all KX ar ds vs x2 q.2 fun u m => hu u (List.mem_cons_of_mem _ m))
end
end
theorem spec_call {P : Program} {w : World} {K : PySem.W.Frag} {mg mb : Str → Option Value} {CX : CXT} {k : Nat} {fa : Addr} {fd : FuncData} {ps : List Str} {sp : Sp} {s₁ : Shared} {vals : List Value} {ds : List WData} {R : PySem.W.WRecords} {cl : Str → Option Addr} {d0 : WData}
    (KX : K.In s₁.heap) (hns : s₁.heap.Ns mainGlobals mg) (hb : s₁.heap.Ns builtinsNs mb) (hbb : ∀ x : Str, x ≠ "__name__" → mb x = bootBuiltins x) (hlim : s₁.heap.NoLimit) (hg : s₁.gens = #[])
    (hwl : WellAll w.params s₁.heap vals ds) (hpl : plWs ds = true) (hwt : ∀ d ∈ ds, d.weight ≤ 1048576) (hr : Room k callerA)
    (F : ∀ base : Heap, K.In base → base.Ns mainGlobals mg → FnOk P w K mg base CX k fa fd ps sp) (hbind : ∀ (s : Shared) (us : List Value), us.length = ps.length → BindsTo s fd ⟨us, []⟩ (ps.zip us)) (hlen : ds.length = ps.length)
    (hsp : ∀ (H : Hp) (xs : List V), OnlyF H → DwAll K H xs ds → sp xs H (fun v H' => Dw K H' v d0) fun _ _ _ => False)
    (hCX : ∀ H e s', CX [] H s₁ (fun _ _ _ => False) e s' → False) :
    codeAny (model P w) callerA (.call (.ref fa) ⟨vals, []⟩) (fun r s' => ∃ u as, r = .ok (.ret u) ∧ ReadsW R cl s'.heap u d0 as ∧ OldK s₁.heap s'.heap ∧ s'.os = s₁.os ∧ AllBare s'.gens) s₁ := by
  obtain ⟨A, ho, ar⟩ := area_all ds vals hwl hpl hwt
  have hO : OnlyF (argH K s₁.heap A) := argH_only ar
  have hok : HOk P w (argH K s₁.heap A) s₁.heap := argH_ok ar
  have hS := dw_all KX ar ds vals hwl hpl ho
  have hV := vals_toV ho
  have hK : ∀ b u, argH K s₁.heap A b = some u → K.lookup b = none := fun b u q => (argH_is ar q).1
  have noA : ∀ {b : Addr} {o : Obj} {es : Array DictEntry} {ep : Nat}, s₁.heap.get? b = some o → o.data = .dict es ep → argH K s₁.heap A b = none := fun {b o es ep} e d => by
    cases q : argH K s₁.heap A b with
    | none => rfl
    | some u =>
      obtain ⟨_, vs, _, _, ⟨e2, _⟩ | ⟨e2, _⟩⟩ := argH_is ar q
      · rw [e2] at e
        cases e
        have d' : Data.seq vs.toArray _ = Data.dict es ep := d
        cases d'
      · rw [e2] at e
        cases e
        have d' : Data.seq vs.toArray _ = Data.dict es ep := d
        cases d'
  generalize argH K s₁.heap A = H at hO hok hS hK noA
  have base_of : ∀ {b : Addr} {o : Obj}, s₁.heap.get? b = some o → H b = none → (hidT s₁.heap H).get? b = some o := fun e n => hidT_get e n
  have nsK : ∀ {b : Addr} {m : Str → Option Value}, s₁.heap.Ns b m → (hidT s₁.heap H).Ns b m := fun {b m} ⟨o, es, ep, e, d, r⟩ => ⟨o, es, ep, base_of e (noA e d), d, r⟩
  have nK : ∀ b o, K.lookup b = some o → H b = none := fun b o e => by
    cases q : H b with
    | none => rfl
    | some u =>
      rw [hK b u q] at e
      cases e
  have hKb : K.In (hidT s₁.heap H) := fun b o e => base_of (KX b o e) (nK b o e)
  have hM : Mod K mg (hidT s₁.heap H) := ⟨hKb, nsK hns, ⟨mb, nsK hb, hbb⟩, let ⟨mc, h1, h2⟩ := hlim; ⟨mc, nsK h1, h2⟩⟩
  have e0 : Env0 P w K mg (hidT s₁.heap H) callerA [] s₁ H := ⟨rfl, hM, fun b o e => of_hidT e, Nat.le_of_eq (hidT_size _ _), trivial, fun b hb => absurd (show b ∈ ([] : List Addr) from hb) (by simp), hok, .of_eq hg⟩
  have hl : vals.length = ps.length := by rw [wellAll_len hwl]; exact hlen
  refine codeAny_mono ((F _ hKb (nsK hns)).run callerA [] s₁ H ⟨vals, []⟩ vals (vals.map toV) _ _ hr e0 (hbind s₁ vals hl) hV (hsp H _ hO hS)) fun r s' x => ?_
  cases r with
  | error e => exact (hCX H e s' x).elim
  | ok fl =>
    cases fl with
    | next => exact False.elim x
    | brk => exact False.elim x
    | cont => exact False.elim x
    | ret u =>
      obtain ⟨v, H', os, bare, un, hok', r', q⟩ := x
      have kept : ∀ b o, s₁.heap.get? b = some o → s'.heap.get? b = some o := fun b o e => by
        cases q2 : H b with
        | none => exact un.keep b o e q2 (by intro z; exact absurd (show b ∈ ([] : List Addr) from z) (by simp)) (by simp)
        | some u2 =>
          rcases hO b with z | ⟨ob, u3, z⟩
          · rw [q2] at z
            cases z
          · have z2 := un.frzs b ob _ z
            obtain ⟨e1, _⟩ := hok b _ z
            obtain ⟨e2, _⟩ := hok' b _ z2
            rw [e] at e1
            cases e1
            exact e2
      have KX' : K.In s'.heap := fun b o e => kept b o (KX b o e)
      obtain ⟨as, hrd⟩ := Dw.reads (R := R) (cl := cl) hok' KX' d0 v u q r'
      exact ⟨u, as, rfl, hrd, OldK.of_keep kept, os, bare⟩
theorem layable_weight {ds : List WData} (h : WData.layableAll ds = true) : ∀ d ∈ ds, d.weight ≤ 1048576 := fun d hd =>
  (PySem.W.layableW_iff.mp (List.all_eq_true.mp h d hd)).2.2
theorem encAll_len : ∀ (cs : List Codec) (a : Codec.denoteAll cs), (Codec.encAll cs a).length = cs.length
  | [], _ => rfl
  | c :: cs, a => by
    show (Codec.encAll cs a.2).length + 1 = cs.length + 1
    rw [encAll_len cs a.2]
theorem walk_spec {r : OpenSpec} {k : Nat} {q : Program} {loose : List Str} {XP : (Str → Option Value) → Heap → Prop} {YP : World → Heap → Prop} {d : DefRec} {K : Params → PySem.W.Frag} {CX : World → CXT} {ps : List Str} {sp : World → Sp}
    (hwell : r.wellSaid = true) (hdf : d.params.defaults = []) (hlen : r.args.length = ps.length) (hr : Room k callerA)
    (hY : ∀ (w : World) (h : Heap), YP w h → (K w.params).In h)
    (F : ∀ (w : World) (mg : Str → Option Value) (fa : Addr) (h : Heap), YP w h → (K w.params).In h → h.Ns mainGlobals mg → mg d.name = some (.ref fa) →
      ∃ fd : FuncData, (∀ (s : Shared) (us : List Value), us.length = ps.length → BindsTo s fd ⟨us, []⟩ (ps.zip us)) ∧
        ∀ base : Heap, (K w.params).In base → base.Ns mainGlobals mg → FnOk r.prog w (K w.params) mg base (CX w) k fa fd ps (sp w))
    (hsp : ∀ (w : World) (H : Hp) (xs : List V) (a : Codec.denoteAll r.args), OnlyF H → Codec.withinAll r.args a = true → Codec.app r.args r.asked a = true → DwAll (K w.params) H xs (Codec.encAll r.args a) →
      sp w xs H (fun v H' => Dw (K w.params) H' v (r.ret.enc (Codec.app r.args r.f a))) fun _ _ _ => False)
    (hCX : ∀ (w : World) (H : Hp) (s : Shared) (e : Value) (s' : Shared), CX w [] H s (fun _ _ _ => False) e s' → False) :
    PySem.W.WalkOS q loose XP YP r d [] (fun f vs => PySem.call f vs) := by
  intro w s_0 s₁ mg mb G Y fa o pm cd doc dV kV ho hd hcd hD hmg hg args vals as hpre hlay hrd hwl hlo
  obtain ⟨a, e1, e2⟩ := PySem.W.os_pre_some hpre
  obtain ⟨e3, hwi⟩ := Codec.encAll_of_decAll r.args args a e1
  subst e3
  have KX := hY w _ Y
  obtain ⟨fd, hb, hF⟩ := F w mg fa _ Y KX G.T.g hmg
  refine PySem.W.enter_call (codeAny_mono (spec_call (R := []) (cl := classAt s_0.heap) (d0 := r.ret.enc (Codec.app r.args r.f a)) KX G.T.g G.T.b G.T.builtins G.T.nolimit hg hwl (pl_encAll _ _) (layable_weight hlay) hr hF hb (by rw [encAll_len]; exact hlen)
    (fun H xs hO hS => hsp w H xs a hO hwi e2 hS) fun H e s' => hCX w H s₁ e s') fun r' s' hq => ?_)
  obtain ⟨u, as', rfl, h1, h2, h3, h4⟩ := hq
  exact ⟨.inl ⟨u, _, as', rfl, fun _ => rfl, h1, (OpenSpec.post_iff hwell hwi _ _).mpr rfl, fun z => Bool.noConfusion (show false = true from z)⟩, h2, h3, h4⟩
theorem walk_specK {r : OpenSpec} {k : Nat} {q : Program} {loose : List Str} {XP : (Str → Option Value) → Heap → Prop} {YP : World → Heap → Prop} {d : DefRec} {K : Params → PySem.W.Frag} {CX : CXT} {ps : List Str} {sp : PySem.W.Frag → Sp}
    (hwell : r.wellSaid = true) (hdf : d.params.defaults = []) (hlen : r.args.length = ps.length) (hr : Room k callerA)
    (hY : ∀ (w : World) (h : Heap), YP w h → (K w.params).In h)
    (F : ∀ (w : World) (mg : Str → Option Value) (fa : Addr) (h : Heap), YP w h → (K w.params).In h → h.Ns mainGlobals mg → mg d.name = some (.ref fa) →
      ∃ fd : FuncData, (∀ (s : Shared) (us : List Value), us.length = ps.length → BindsTo s fd ⟨us, []⟩ (ps.zip us)) ∧
        ∀ base : Heap, (K w.params).In base → base.Ns mainGlobals mg → FnOk r.prog w (K w.params) mg base CX k fa fd ps (sp (K w.params)))
    (hsp : ∀ (K : PySem.W.Frag) (H : Hp) (xs : List V) (a : Codec.denoteAll r.args), OnlyF H → Codec.withinAll r.args a = true → Codec.app r.args r.asked a = true → DwAll K H xs (Codec.encAll r.args a) →
      sp K xs H (fun v H' => Dw K H' v (r.ret.enc (Codec.app r.args r.f a))) fun _ _ _ => False)
    (hCX : ∀ (H : Hp) (s : Shared) (e : Value) (s' : Shared), CX [] H s (fun _ _ _ => False) e s' → False) :
    PySem.W.WalkOS q loose XP YP r d [] (fun f vs => PySem.call f vs) :=
  walk_spec (K := K) (CX := fun _ => CX) (sp := fun w => sp (K w.params)) hwell hdf hlen hr hY F (fun w H xs a h1 h2 h3 h4 => hsp (K w.params) H xs a h1 h2 h3 h4) fun _ H s e s' => hCX H s e s'
end L2
end

set_option Elab.async false
set_option linter.all false
set_option maxRecDepth 100000
set_option maxHeartbeats 4000000
namespace Pip

/-! ## the mirror: each def of the program as a function of numbers and lists -/
structure S5 where
  d : Int
  r : Int
  lo : Int
  hi : Int
  sh : Int
structure C3 where
  a : Int
  b : Int
  sh : Int
def readS : List Int → List S5
  | a :: b :: c :: d :: e :: l => ⟨a, b, c, d, e⟩ :: readS l
  | _ => []
def readC : List Int → List C3
  | a :: b :: c :: l => ⟨a, b, c⟩ :: readC l
  | _ => []
def isStop (s : S5) (dv rk : Int) : Bool := (decide (0 ≤ s.d) && decide (s.d < dv)) && ((decide (0 ≤ s.r) && decide (s.r < rk)) && ((decide (0 ≤ s.lo) && (decide (s.lo ≤ s.hi) && decide (s.hi < 61))) && (decide (-60 ≤ s.sh) && decide (s.sh ≤ 96))))
def isCoup (c : C3) (dv : Int) : Bool := (decide (0 ≤ c.a) && decide (c.a < dv)) && ((decide (0 ≤ c.b) && decide (c.b < dv)) && (!(decide (c.a = c.b) && decide (c.sh = 0)) && (decide (c.sh = -12) || (decide (c.sh = 0) || decide (c.sh = 12)))))
def areRanks (rp : List Int) : Bool := (decide (1 ≤ (rp.length : Int)) && decide ((rp.length : Int) ≤ 16)) && rp.all (fun c => decide (1 ≤ c) && decide (c ≤ 97))
def areStops (ns : List Int) (dv rk : Int) : Bool := (decide (1 ≤ ((readS ns).length : Int)) && decide (((readS ns).length : Int) ≤ 64)) && (readS ns).all (fun s => isStop s dv rk)
def areCoups (ns : List Int) (dv : Int) : Bool := (decide (((readC ns).length : Int) ≤ 32)) && (readC ns).all (fun c => isCoup c dv)
def isPlan (dv : Int) (rp st co : List Int) : Bool := (decide (1 ≤ dv) && decide (dv ≤ 4)) && (areRanks rp && (areStops st dv (rp.length : Int) && areCoups co dv))
def hasOnly (b : Nat) (c : Nat) : Bool := decide (b < 2 ^ c)
def keysThere (ks : List Int) (dv : Int) : Bool := (List.range ks.length).all fun i => hasOnly (ks.getD i 0).toNat (if (i : Int) < dv then 61 else 0)
def refusal (dv : Int) (sh ch off : Nat) (rp st co ks : List Int) : Int :=
  if isPlan dv rp st co = false then -22
  else if keysThere ks dv = false then -71
  else if hasOnly sh (st.length / 5) = false then -71
  else if hasOnly ch (co.length / 3) = false then -71
  else if hasOnly off dv.toNat = false then -71
  else 0
def firstN (c : Nat) : Nat := 2 ^ c - 1
def shiftN (b : Nat) (s : Int) : Nat := if s < 0 then b >>> (-s).toNat else b <<< s.toNat
def bitLen (b : Nat) : Nat := if b = 0 then 0 else b.log2 + 1
def cntBits (b : Nat) : Nat := ((List.range (bitLen b)).map fun i => (b >>> i) &&& 1).sum
def keepL {α : Type} (h : Nat) (xs : List α) : List α := (xs.zipIdx.filter fun p => h.testBit p.2).map (·.1)
def orFold {α : Type} (ix v : α → Nat) (l : List Nat) (xs : List α) : List Nat := xs.foldl (fun s c => s.set (ix c) (s.getD (ix c) 0 ||| v c)) l
def kAt (ks : List Int) (i : Nat) : Nat := (ks.getD i 0).toNat
def coupV (ks : List Int) (c : C3) : Nat := shiftN (kAt ks c.a.toNat) c.sh &&& firstN 61
def soundL (dv : Nat) (off : Nat) (cs : List C3) (ks : List Int) : List Nat :=
  orFold (fun c => c.b.toNat) (coupV ks) ((List.range dv).map fun i => if off.testBit i then 0 else kAt ks i) cs
def stopV (s : S5) (snd : Nat) (pc : Nat) : Nat := shiftN (snd &&& (firstN (s.hi.toNat + 1) - firstN s.lo.toNat)) s.sh &&& firstN pc
def speakL (rp : List Int) (ss : List S5) (snd : List Nat) : List Nat :=
  orFold (fun s => s.r.toNat) (fun s => stopV s (snd.getD s.d.toNat 0) (kAt rp s.r.toNat)) (List.replicate 16 0) ss
def told (sp : List Nat) : List Nat := (sp.map cntBits).sum :: sp.flatMap fun b => [b &&& firstN 64, b >>> 64]
def pipesM (dv : Int) (sh ch off : Nat) (rp st co ks : List Int) : List Int :=
  if refusal dv sh ch off rp st co ks ≠ 0 then [refusal dv sh ch off rp st co ks]
  else (told (speakL rp (keepL sh (readS st)) (soundL dv.toNat off (keepL ch (readC co)) ks))).map fun (n : Nat) => (n : Int)

/-! ## bits -/
theorem tb_first (c i : Nat) : (firstN c).testBit i = decide (i < c) := by
  unfold firstN
  exact Nat.testBit_two_pow_sub_one c i
theorem tb_reach {lo hi : Nat} (h : lo ≤ hi) (i : Nat) : (firstN (hi + 1) - firstN lo).testBit i = (decide (lo ≤ i) && decide (i ≤ hi)) := by
  have e : firstN (hi + 1) - firstN lo = (firstN (hi + 1 - lo)) <<< lo := by
    unfold firstN
    rw [Nat.shiftLeft_eq]
    have h1 : 2 ^ (hi + 1) = 2 ^ (hi + 1 - lo) * 2 ^ lo := by rw [← Nat.pow_add]; congr 1; omega
    have h2 : 0 < 2 ^ lo := Nat.two_pow_pos lo
    have h3 : 0 < 2 ^ (hi + 1 - lo) := Nat.two_pow_pos _
    rw [h1, Nat.sub_mul, Nat.one_mul]
    omega
  rw [e, Nat.testBit_shiftLeft, tb_first]
  rw [Bool.eq_iff_iff]
  simp
  omega
theorem tb_shift (b : Nat) (s : Int) (i : Nat) : (shiftN b s).testBit i = (decide (0 ≤ (i : Int) - s) && b.testBit ((i : Int) - s).toNat) := by
  unfold shiftN
  split
  · rename_i h
    rw [Nat.testBit_shiftRight]
    have e : (-s).toNat + i = ((i : Int) - s).toNat := by omega
    rw [e, decide_eq_true (by omega : 0 ≤ (i : Int) - s), Bool.true_and]
  · rename_i h
    rw [Nat.testBit_shiftLeft]
    by_cases hi : s.toNat ≤ i
    · have e : i - s.toNat = ((i : Int) - s).toNat := by omega
      rw [e, decide_eq_true (by omega : i ≥ s.toNat), decide_eq_true (by omega : 0 ≤ (i : Int) - s)]
    · rw [decide_eq_false (by omega : ¬ i ≥ s.toNat), decide_eq_false (by omega : ¬ 0 ≤ (i : Int) - s), Bool.false_and, Bool.false_and]
theorem and_one (b : Nat) : b &&& 1 = if b.testBit 0 then 1 else 0 := by
  rw [Nat.and_one_is_mod, Nat.testBit_zero]
  by_cases h : b % 2 = 1
  · simp [h]
  · have : b % 2 = 0 := by omega
    simp [this]
theorem lt_bitLen (b : Nat) : b < 2 ^ bitLen b := by
  unfold bitLen
  split
  · rename_i h
    subst h
    decide
  · exact Nat.lt_log2_self
theorem sum_bits (b : Nat) : ∀ n : Nat, ((List.range n).map fun i => (b >>> i) &&& 1).sum = (List.range n).countP fun i => b.testBit i
  | 0 => rfl
  | n + 1 => by
    rw [List.range_succ, List.map_append, List.sum_append, List.countP_append, sum_bits b n]
    congr 1
    show ((b >>> n) &&& 1) + 0 = _
    rw [and_one, Nat.testBit_shiftRight]
    simp [List.countP_cons]
theorem countP_more (f : Nat → Bool) (n : Nat) : ∀ k, (∀ i, n ≤ i → f i = false) → (List.range (n + k)).countP f = (List.range n).countP f
  | 0, _ => rfl
  | k + 1, h => by
    rw [← Nat.add_assoc, List.range_succ, List.countP_append, countP_more f n k h]
    have e := h (n + k) (by omega)
    simp [List.countP_cons, e]
theorem countP_same (f : Nat → Bool) (m n : Nat) (hm : ∀ i, m ≤ i → f i = false) (hn : ∀ i, n ≤ i → f i = false) : (List.range m).countP f = (List.range n).countP f := by
  by_cases h : m ≤ n
  · obtain ⟨k, rfl⟩ := Nat.le.dest h
    exact (countP_more f m k hm).symm
  · obtain ⟨k, rfl⟩ := Nat.le.dest (by omega : n ≤ m)
    exact countP_more f n k hn
theorem tb_high {b n i : Nat} (h : b < 2 ^ n) (hi : n ≤ i) : b.testBit i = false := Nat.testBit_lt_two_pow (Nat.lt_of_lt_of_le h (Nat.pow_le_pow_right (by decide) hi))
theorem cntBits_eq {b n : Nat} (h : b < 2 ^ n) : cntBits b = (List.range n).countP fun i => b.testBit i := by
  unfold cntBits
  rw [sum_bits]
  exact countP_same _ _ _ (fun i hi => tb_high (lt_bitLen b) hi) (fun i hi => tb_high h hi)
/-- the number whose bits are f's, below n -/
theorem foldl_add (l : List Nat) (g : Nat → Nat) : ∀ m, l.foldl (fun m i => m + g i) m = m + (l.map g).sum := by
  induction l with
  | nil => intro m; simp
  | cons a l ih => intro m; rw [List.foldl_cons, ih, List.map_cons, List.sum_cons]; omega
def ofBits (f : Nat → Bool) (n : Nat) : Nat := ((List.range n).filter f).foldl (fun m i => m + 2 ^ i) 0
theorem ofBits_succ (f : Nat → Bool) (n : Nat) : ofBits f (n + 1) = ofBits f n + if f n then 2 ^ n else 0 := by
  unfold ofBits
  rw [List.range_succ, List.filter_append, List.foldl_append]
  cases e : f n <;> simp [e]
theorem ofBits_spec (f : Nat → Bool) : ∀ n, ofBits f n < 2 ^ n ∧ ∀ i, (ofBits f n).testBit i = (decide (i < n) && f i)
  | 0 => ⟨by show (0 : Nat) < 2 ^ 0; decide, fun i => by show (0 : Nat).testBit i = _; simp⟩
  | n + 1 => by
    obtain ⟨h1, h2⟩ := ofBits_spec f n
    rw [ofBits_succ]
    have hp : 2 ^ (n + 1) = 2 ^ n + 2 ^ n := by rw [Nat.pow_succ]; omega
    cases e : f n with
    | false =>
      simp only [e, Bool.false_eq_true, if_false, Nat.add_zero]
      refine ⟨by omega, fun i => ?_⟩
      rw [h2]
      by_cases hi : i = n
      · subst hi; simp [e]
      · rw [Bool.eq_iff_iff]; simp; intro _; omega
    | true =>
      simp only [if_true]
      refine ⟨by omega, fun i => ?_⟩
      have e2 : ofBits f n + 2 ^ n = 2 ^ n * 1 + ofBits f n := by omega
      rw [e2, Nat.testBit_two_pow_mul_add 1 h1, h2]
      by_cases hi : i < n
      · rw [if_pos hi]
        simp [hi]
        omega
      · rw [if_neg hi]
        by_cases hi2 : i = n
        · subst hi2; simp [e]
        · have h3 : i - n ≠ 0 := by omega
          have h4 : ¬ i < n + 1 := by omega
          have h5 : (1 : Nat).testBit (i - n) = false := by
            have q := tb_first 1 (i - n)
            rw [decide_eq_false (by omega)] at q
            exact q
          rw [h5, decide_eq_false h4, Bool.false_and]
theorem ofBits_eq {b : Nat} {f : Nat → Bool} {n : Nat} (h : ∀ i, b.testBit i = (decide (i < n) && f i)) : b = ofBits f n := by
  apply Nat.eq_of_testBit_eq
  intro i
  rw [h, (ofBits_spec f n).2]

/-! ## folds that join -/
theorem orFold_len {α : Type} (ix v : α → Nat) : ∀ (xs : List α) (l : List Nat), (orFold ix v l xs).length = l.length
  | [], _ => rfl
  | c :: r, l => by
    show (orFold ix v (l.set (ix c) (l.getD (ix c) 0 ||| v c)) r).length = _
    rw [orFold_len ix v r, List.length_set]
theorem getD_set (l : List Nat) (i j x : Nat) : (l.set i x).getD j 0 = if i = j ∧ j < l.length then x else l.getD j 0 := by
  rw [List.getD_eq_getElem?_getD, List.getElem?_set, List.getD_eq_getElem?_getD]
  by_cases h : i = j
  · subst h
    by_cases h2 : i < l.length
    · simp [h2]
    · simp [h2]
  · simp [h]
theorem orFold_tb {α : Type} (ix v : α → Nat) (j k : Nat) : ∀ (xs : List α) (l : List Nat), ((orFold ix v l xs).getD j 0).testBit k = ((l.getD j 0).testBit k || xs.any fun c => decide (ix c = j) && decide (j < l.length) && (v c).testBit k)
  | [], l => by show (l.getD j 0).testBit k = _; simp
  | c :: r, l => by
    show ((orFold ix v (l.set (ix c) (l.getD (ix c) 0 ||| v c)) r).getD j 0).testBit k = _
    rw [orFold_tb ix v j k r, List.length_set, getD_set, List.any_cons]
    by_cases h : ix c = j ∧ j < l.length
    · rw [if_pos h, h.1]
      simp [h.2, Nat.testBit_or, Bool.or_assoc]
    · rw [if_neg h]
      by_cases h1 : ix c = j
      · have h2 : ¬ j < l.length := fun z => h ⟨h1, z⟩
        simp [h2]
      · simp [h1]
theorem mem_keep {α : Type} {h : Nat} {xs : List α} {x : α} : x ∈ keepL h xs ↔ ∃ i : Nat, xs[i]? = some x ∧ h.testBit i = true := by
  unfold keepL
  rw [List.mem_map]
  constructor
  · rintro ⟨⟨y, i⟩, hm, rfl⟩
    obtain ⟨h1, h2⟩ := List.mem_filter.mp hm
    exact ⟨i, List.mem_zipIdx_iff_getElem?.mp h1, h2⟩
  · rintro ⟨i, h1, h2⟩
    exact ⟨(x, i), List.mem_filter.mpr ⟨List.mem_zipIdx_iff_getElem?.mpr h1, h2⟩, rfl⟩
/-! ## the lists read -/
def toStop (s : S5) : Kbo1.Stop := ⟨s.d.toNat, s.r.toNat, s.lo.toNat, s.hi.toNat, s.sh⟩
def toCoup (c : C3) : Kbo1.Coupler := ⟨c.a.toNat, c.b.toNat, c.sh⟩
theorem stopsOf_eq : ∀ ns : List Int, Kbo1Neutral.stopsOf ns = (readS ns).map toStop
  | a :: b :: c :: d :: e :: l => by
    show _ :: Kbo1Neutral.stopsOf l = _
    rw [stopsOf_eq l]
    rfl
  | [] => rfl
  | [_] => rfl
  | [_, _] => rfl
  | [_, _, _] => rfl
  | [_, _, _, _] => rfl
theorem couplersOf_eq : ∀ ns : List Int, Kbo1Neutral.couplersOf ns = (readC ns).map toCoup
  | a :: b :: c :: l => by
    show _ :: Kbo1Neutral.couplersOf l = _
    rw [couplersOf_eq l]
    rfl
  | [] => rfl
  | [_] => rfl
  | [_, _] => rfl
theorem readS_len : ∀ ns : List Int, (readS ns).length = ns.length / 5
  | a :: b :: c :: d :: e :: l => by
    show (readS l).length + 1 = (l.length + 5) / 5
    rw [readS_len l]
    omega
  | [] => rfl
  | [_] => by show 0 = 1 / 5; decide
  | [_, _] => by show 0 = 2 / 5; decide
  | [_, _, _] => by show 0 = 3 / 5; decide
  | [_, _, _, _] => by show 0 = 4 / 5; decide
theorem readC_len : ∀ ns : List Int, (readC ns).length = ns.length / 3
  | a :: b :: c :: l => by
    show (readC l).length + 1 = (l.length + 3) / 3
    rw [readC_len l]
    omega
  | [] => rfl
  | [_] => by show 0 = 1 / 3; decide
  | [_, _] => by show 0 = 2 / 3; decide
theorem readS_get : ∀ (i : Nat) (ns : List Int), 5 * i + 4 < ns.length → ∃ a b c d e : Int, ns[5 * i]? = some a ∧ ns[5 * i + 1]? = some b ∧ ns[5 * i + 2]? = some c ∧ ns[5 * i + 3]? = some d ∧ ns[5 * i + 4]? = some e ∧ (readS ns)[i]? = some ⟨a, b, c, d, e⟩
  | i, a :: b :: c :: d :: e :: l, h => by
    cases i with
    | zero => exact ⟨a, b, c, d, e, rfl, rfl, rfl, rfl, rfl, rfl⟩
    | succ i =>
      have h' : 5 * i + 4 < l.length := by simp only [List.length_cons] at h; omega
      obtain ⟨a', b', c', d', e', h1, h2, h3, h4, h5, h6⟩ := readS_get i l h'
      refine ⟨a', b', c', d', e', ?_, ?_, ?_, ?_, ?_, h6⟩
      · rw [show 5 * (i + 1) = 5 * i + 5 by omega]; exact h1
      · rw [show 5 * (i + 1) + 1 = (5 * i + 1) + 5 by omega]; exact h2
      · rw [show 5 * (i + 1) + 2 = (5 * i + 2) + 5 by omega]; exact h3
      · rw [show 5 * (i + 1) + 3 = (5 * i + 3) + 5 by omega]; exact h4
      · rw [show 5 * (i + 1) + 4 = (5 * i + 4) + 5 by omega]; exact h5
  | i, [], h => by simp at h
  | i, [_], h => by simp at h
  | i, [_, _], h => by simp at h; omega
  | i, [_, _, _], h => by simp at h; omega
  | i, [_, _, _, _], h => by simp at h; omega
theorem readC_get : ∀ (i : Nat) (ns : List Int), 3 * i + 2 < ns.length → ∃ a b c : Int, ns[3 * i]? = some a ∧ ns[3 * i + 1]? = some b ∧ ns[3 * i + 2]? = some c ∧ (readC ns)[i]? = some ⟨a, b, c⟩
  | i, a :: b :: c :: l, h => by
    cases i with
    | zero => exact ⟨a, b, c, rfl, rfl, rfl, rfl⟩
    | succ i =>
      have h' : 3 * i + 2 < l.length := by simp only [List.length_cons] at h; omega
      obtain ⟨a', b', c', h1, h2, h3, h6⟩ := readC_get i l h'
      refine ⟨a', b', c', ?_, ?_, ?_, h6⟩
      · rw [show 3 * (i + 1) = 3 * i + 3 by omega]; exact h1
      · rw [show 3 * (i + 1) + 1 = (3 * i + 1) + 3 by omega]; exact h2
      · rw [show 3 * (i + 1) + 2 = (3 * i + 2) + 3 by omega]; exact h3
  | i, [], h => by simp at h
  | i, [_], h => by simp at h
  | i, [_, _], h => by simp only [List.length_cons, List.length_nil] at h; omega
theorem natural_iff {z : Int} {n : Nat} : Kbo1Neutral.natural z n = true ↔ 0 ≤ z ∧ z < 2 ^ n := by
  unfold Kbo1Neutral.natural
  simp
structure NnS (s : S5) : Prop where
  d : 0 ≤ s.d
  r : 0 ≤ s.r
  lo : 0 ≤ s.lo
  hi : 0 ≤ s.hi
structure NnC (c : C3) : Prop where
  a : 0 ≤ c.a
  b : 0 ≤ c.b
theorem stops_in : ∀ {ns : List Int}, Kbo1Neutral.stops ns = true → (ns.length % 5 = 0 ∧ ∀ s ∈ readS ns, NnS s)
  | a :: b :: c :: d :: e :: l, h => by
    have h : (Kbo1Neutral.natural a 8 && (Kbo1Neutral.natural b 8 && (Kbo1Neutral.natural c 8 && (Kbo1Neutral.natural d 8 && (Kbo1Neutral.signed8 e && Kbo1Neutral.stops l))))) = true := h
    simp only [Bool.and_eq_true, natural_iff] at h
    obtain ⟨h1, h2, h3, h4, h5, h6⟩ := h
    obtain ⟨i1, i2⟩ := stops_in h6
    refine ⟨by simp only [List.length_cons]; omega, fun s hs => ?_⟩
    have hs : s = ⟨a, b, c, d, e⟩ ∨ s ∈ readS l := List.mem_cons.mp hs
    rcases hs with rfl | hs
    · exact ⟨h1.1, h2.1, h3.1, h4.1⟩
    · exact i2 s hs
  | [], _ => ⟨rfl, fun s hs => by cases hs⟩
  | [_], h => by cases h
  | [_, _], h => by cases h
  | [_, _, _], h => by cases h
  | [_, _, _, _], h => by cases h
theorem couplers_in : ∀ {ns : List Int}, Kbo1Neutral.couplers ns = true → (ns.length % 3 = 0 ∧ ∀ c ∈ readC ns, NnC c)
  | a :: b :: c :: l, h => by
    have h : (Kbo1Neutral.natural a 8 && (Kbo1Neutral.natural b 8 && (Kbo1Neutral.signed8 c && Kbo1Neutral.couplers l))) = true := h
    simp only [Bool.and_eq_true, natural_iff] at h
    obtain ⟨h1, h2, h5, h6⟩ := h
    obtain ⟨i1, i2⟩ := couplers_in h6
    refine ⟨by simp only [List.length_cons]; omega, fun s hs => ?_⟩
    have hs : s = ⟨a, b, c⟩ ∨ s ∈ readC l := List.mem_cons.mp hs
    rcases hs with rfl | hs
    · exact ⟨h1.1, h2.1⟩
    · exact i2 s hs
  | [], _ => ⟨rfl, fun s hs => by cases hs⟩
  | [_], h => by cases h
  | [_, _], h => by cases h

/-! ## the refusals -/
theorem okStop_eq {s : S5} {p : Kbo1.Plan} {dv rk : Int} (n : NnS s) (h1 : (p.divisions : Int) = dv) (h2 : (p.pipes.length : Int) = rk) : Kbo1.okStop p (toStop s) = isStop s dv rk := by
  obtain ⟨n1, n2, n3, n4⟩ := n
  unfold Kbo1.okStop isStop toStop
  rw [Bool.eq_iff_iff]
  simp only [Bool.and_eq_true, decide_eq_true_eq]
  omega
theorem okCoup_eq {c : C3} {p : Kbo1.Plan} {dv : Int} (n : NnC c) (h1 : (p.divisions : Int) = dv) : Kbo1.okCoupler p (toCoup c) = isCoup c dv := by
  obtain ⟨n1, n2⟩ := n
  unfold Kbo1.okCoupler isCoup toCoup
  rw [Bool.eq_iff_iff]
  simp only [Bool.and_eq_true, Bool.or_eq_true, Bool.not_eq_true', Bool.and_eq_false_iff, decide_eq_true_eq, decide_eq_false_iff_not, List.contains_iff_mem, List.mem_cons, List.not_mem_nil, beq_eq_false_iff_ne, ne_eq, or_false]
  constructor
  · rintro ⟨⟨⟨h3, h4⟩, h5⟩, h6⟩
    refine ⟨⟨n1, by omega⟩, ⟨n2, by omega⟩, ?_, h5⟩
    omega
  · rintro ⟨⟨h3, h4⟩, ⟨h5, h6⟩, h7, h8⟩
    refine ⟨⟨⟨by omega, by omega⟩, h8⟩, ?_⟩
    omega
theorem all_congr {α β : Type} {f : α → β} {p : β → Bool} {q : α → Bool} : ∀ {l : List α}, (∀ x ∈ l, p (f x) = q x) → (l.map f).all p = l.all q
  | [], _ => rfl
  | a :: l, h => by
    rw [List.map_cons, List.all_cons, List.all_cons, h a (List.mem_cons_self ..), all_congr fun x hx => h x (List.mem_cons_of_mem _ hx)]
theorem okPlan_eq {dv : Int} {rp st co : List Int} (h0 : 0 ≤ dv) (hr : ∀ x ∈ rp, 0 ≤ x) (hs : ∀ s ∈ readS st, NnS s) (hc : ∀ c ∈ readC co, NnC c) :
    Kbo1.okPlan (Kbo1Neutral.plan dv rp st co) = isPlan dv rp st co := by
  have e1 : ((Kbo1Neutral.plan dv rp st co).divisions : Int) = dv := by show ((dv.toNat : Nat) : Int) = dv; omega
  have e2 : ((Kbo1Neutral.plan dv rp st co).pipes.length : Int) = (rp.length : Int) := by show (((rp.map Int.toNat).length : Nat) : Int) = _; rw [List.length_map]
  have e3 : (Kbo1Neutral.plan dv rp st co).stops = (readS st).map toStop := stopsOf_eq st
  have e4 : (Kbo1Neutral.plan dv rp st co).couplers = (readC co).map toCoup := couplersOf_eq co
  have e5 : (Kbo1Neutral.plan dv rp st co).pipes.all (fun n => decide (1 ≤ n) && decide (n ≤ 97)) = rp.all (fun c => decide (1 ≤ c) && decide (c ≤ 97)) := by
    show (rp.map Int.toNat).all _ = _
    refine all_congr fun x hx => ?_
    have := hr x hx
    rw [Bool.eq_iff_iff]
    simp only [Bool.and_eq_true, decide_eq_true_eq]
    omega
  have e6 : (Kbo1Neutral.plan dv rp st co).stops.all (Kbo1.okStop (Kbo1Neutral.plan dv rp st co)) = (readS st).all (fun s => isStop s dv (rp.length : Int)) := by
    rw [e3]
    exact all_congr fun s h => okStop_eq (hs s h) e1 e2
  have e7 : (Kbo1Neutral.plan dv rp st co).couplers.all (Kbo1.okCoupler (Kbo1Neutral.plan dv rp st co)) = (readC co).all (fun c => isCoup c dv) := by
    rw [e4]
    exact all_congr fun c h => okCoup_eq (hc c h) e1
  unfold Kbo1.okPlan isPlan areRanks areStops areCoups
  rw [e5, e6, e7, e3, e4, List.length_map, List.length_map]
  generalize rp.all (fun c => decide (1 ≤ c) && decide (c ≤ 97)) = b1
  generalize (readS st).all (fun s => isStop s dv (rp.length : Int)) = b2
  generalize (readC co).all (fun c => isCoup c dv) = b3
  rw [Bool.eq_iff_iff]
  cases b1 <;> cases b2 <;> cases b3 <;> simp <;> omega
theorem hasOnly_iff {b c : Nat} : hasOnly b c = true ↔ b < 2 ^ c := by
  unfold hasOnly
  rw [decide_eq_true_eq]
theorem getD_map0 {l : List Int} (i : Nat) : (l.map Int.toNat).getD i 0 = (l.getD i 0).toNat := by
  rw [List.getD_eq_getElem?_getD, List.getElem?_map, List.getD_eq_getElem?_getD]
  cases l[i]? <;> rfl
theorem okHeld_iff {dv : Int} {rp st co ks : List Int} {s c o : Int} (h0 : 0 ≤ dv) (hk : ks.length = 4) :
    Kbo1.okHeld (Kbo1Neutral.plan dv rp st co) (Kbo1Neutral.held ks s c o) = (keysThere ks dv && (hasOnly s.toNat (st.length / 5) && (hasOnly c.toNat (co.length / 3) && hasOnly o.toNat dv.toNat))) := by
  have e3 : (Kbo1Neutral.plan dv rp st co).stops.length = st.length / 5 := by show (Kbo1Neutral.stopsOf st).length = _; rw [stopsOf_eq, List.length_map, readS_len]
  have e4 : (Kbo1Neutral.plan dv rp st co).couplers.length = co.length / 3 := by show (Kbo1Neutral.couplersOf co).length = _; rw [couplersOf_eq, List.length_map, readC_len]
  have e5 : (Kbo1Neutral.held ks s c o).keys.length = ks.length := by show (ks.map Int.toNat).length = _; rw [List.length_map]
  have e6 : ((List.range ks.length).all fun d => decide ((Kbo1Neutral.held ks s c o).keys.getD d 0 < 2 ^ (if d < (Kbo1Neutral.plan dv rp st co).divisions then Kbo1.KEYS else 0))) = keysThere ks dv := by
    unfold keysThere
    congr 1
    funext d
    show decide ((ks.map Int.toNat).getD d 0 < 2 ^ (if d < dv.toNat then 61 else 0)) = _
    rw [getD_map0]
    unfold hasOnly
    by_cases hd : (d : Int) < dv
    · rw [if_pos hd, if_pos (show d < dv.toNat by omega)]
    · rw [if_neg hd, if_neg (show ¬ d < dv.toNat by omega)]
  unfold Kbo1.okHeld
  rw [e3, e4, e5, e6]
  show (decide (ks.length ≤ 4) && _ && decide (s.toNat < 2 ^ (st.length / 5)) && decide (c.toNat < 2 ^ (co.length / 3)) && decide (o.toNat < 2 ^ dv.toNat)) = _
  rw [decide_eq_true (by omega : ks.length ≤ 4)]
  unfold hasOnly
  simp only [Bool.true_and, Bool.and_assoc]
theorem wrong_eq {dv : Int} {rp st co ks : List Int} {s c o : Int} (h0 : 0 ≤ dv) (hr : ∀ x ∈ rp, 0 ≤ x) (hs : ∀ s ∈ readS st, NnS s) (hc : ∀ c ∈ readC co, NnC c) (hk : ks.length = 4) :
    Kbo1.wrong (Kbo1Neutral.plan dv rp st co) (Kbo1Neutral.held ks s c o) = refusal dv s.toNat c.toNat o.toNat rp st co ks := by
  unfold Kbo1.wrong refusal
  rw [okPlan_eq h0 hr hs hc, okHeld_iff h0 hk]
  cases isPlan dv rp st co <;> cases keysThere ks dv <;> cases hasOnly s.toNat (st.length / 5) <;> cases hasOnly c.toNat (co.length / 3) <;> cases hasOnly o.toNat dv.toNat <;> rfl

/-! ## what sounds, what speaks -/
/-- what stands once nothing is refused -/
structure Ok (dv : Int) (sh ch off : Nat) (rp st co ks : List Int) : Prop where
  d1 : 1 ≤ dv
  d4 : dv ≤ 4
  r1 : 1 ≤ rp.length
  r16 : rp.length ≤ 16
  hrp : ∀ c ∈ rp, 1 ≤ c ∧ c ≤ 97
  hst : ∀ s ∈ readS st, isStop s dv (rp.length : Int) = true
  hco : ∀ c ∈ readC co, isCoup c dv = true
  hks : ∀ i : Nat, i < ks.length → kAt ks i < 2 ^ (if (i : Int) < dv then 61 else 0)
theorem Ok.of {dv : Int} {sh ch off : Nat} {rp st co ks : List Int} (h : refusal dv sh ch off rp st co ks = 0) : Ok dv sh ch off rp st co ks := by
  unfold refusal at h
  split at h
  · cases h
  rename_i h1
  split at h
  · cases h
  rename_i h2
  have h1 : isPlan dv rp st co = true := by simpa using h1
  have h2 : keysThere ks dv = true := by simpa using h2
  unfold isPlan areRanks areStops areCoups at h1
  unfold keysThere at h2
  simp only [Bool.and_eq_true, decide_eq_true_eq, List.all_eq_true, List.mem_range, hasOnly_iff] at h1 h2
  obtain ⟨⟨a1, a2⟩, ⟨⟨a3, a4⟩, a5⟩, ⟨⟨a6, a7⟩, a8⟩, a9, a10⟩ := h1
  exact ⟨a1, a2, by omega, by omega, a5, a8, a10, h2⟩
structure StopOk (s : S5) (dv rk : Int) : Prop where
  d0 : 0 ≤ s.d
  d1 : s.d < dv
  r0 : 0 ≤ s.r
  r1 : s.r < rk
  l0 : 0 ≤ s.lo
  lh : s.lo ≤ s.hi
  h1 : s.hi < 61
  s0 : -60 ≤ s.sh
  s1 : s.sh ≤ 96
theorem StopOk.of {s : S5} {dv rk : Int} (h : isStop s dv rk = true) : StopOk s dv rk := by
  unfold isStop at h
  simp only [Bool.and_eq_true, decide_eq_true_eq] at h
  obtain ⟨⟨a1, a2⟩, ⟨a3, a4⟩, ⟨a5, a6, a7⟩, a8, a9⟩ := h
  exact ⟨a1, a2, a3, a4, a5, a6, a7, a8, a9⟩
structure CoupOk (c : C3) (dv : Int) : Prop where
  a0 : 0 ≤ c.a
  a1 : c.a < dv
  b0 : 0 ≤ c.b
  b1 : c.b < dv
  s : c.sh = -12 ∨ c.sh = 0 ∨ c.sh = 12
theorem CoupOk.of {c : C3} {dv : Int} (h : isCoup c dv = true) : CoupOk c dv := by
  unfold isCoup at h
  simp only [Bool.and_eq_true, Bool.or_eq_true, decide_eq_true_eq] at h
  obtain ⟨⟨a1, a2⟩, ⟨a3, a4⟩, _, a5⟩ := h
  exact ⟨a1, a2, a3, a4, a5⟩
theorem kAt_lt {dv : Int} {sh ch off : Nat} {rp st co ks : List Int} (o : Ok dv sh ch off rp st co ks) (i : Nat) : kAt ks i < 2 ^ 61 := by
  by_cases hi : i < ks.length
  · have q := o.hks i hi
    refine Nat.lt_of_lt_of_le q (Nat.pow_le_pow_right (by decide) ?_)
    split <;> omega
  · have e : kAt ks i = 0 := by
      unfold kAt
      rw [List.getD_eq_getElem?_getD, List.getElem?_eq_none (by omega)]
      rfl
    rw [e]
    exact Nat.two_pow_pos 61
theorem held_eq {ks : List Int} {s c o : Int} (d : Nat) (k : Int) : Kbo1.held (Kbo1Neutral.held ks s c o) d k = (decide (0 ≤ k) && decide (k ≤ 60) && (kAt ks d).testBit k.toNat) := by
  unfold Kbo1.held
  show (_ && _ && ((ks.map Int.toNat).getD d 0).testBit _) = _
  rw [getD_map0]
  rfl
theorem range_map_getD (n : Nat) (f : Nat → Nat) (i : Nat) : ((List.range n).map f).getD i 0 = if i < n then f i else 0 := by
  rw [List.getD_eq_getElem?_getD, List.getElem?_map]
  by_cases h : i < n
  · rw [List.getElem?_range h, if_pos h]; rfl
  · rw [List.getElem?_eq_none (by simp; omega), if_neg h]; rfl
theorem any_range_iff {n : Nat} {f : Nat → Bool} : (List.range n).any f = true ↔ ∃ i, i < n ∧ f i = true := by
  rw [List.any_eq_true]
  constructor
  · rintro ⟨i, h1, h2⟩; exact ⟨i, List.mem_range.mp h1, h2⟩
  · rintro ⟨i, h1, h2⟩; exact ⟨i, List.mem_range.mpr h1, h2⟩
section
variable {dv : Int} {sh ch off : Nat} {rp st co ks : List Int}
theorem sound_eq (o : Ok dv sh ch off rp st co ks) {d k : Nat} (hd : d < dv.toNat) (hk : k ≤ 60) :
    ((soundL dv.toNat off (keepL ch (readC co)) ks).getD d 0).testBit k = Kbo1.sounds (Kbo1Neutral.plan dv rp st co) (Kbo1Neutral.held ks (sh : Int) (ch : Int) (off : Int)) d k := by
  unfold soundL
  rw [orFold_tb, range_map_getD, if_pos hd]
  unfold Kbo1.sounds
  congr 1
  · unfold Kbo1.itself
    rw [held_eq]
    show _ = (_ && !((((off : Int)).toNat).testBit d))
    have e0 : ((off : Int)).toNat = off := by omega
    have e1 : ((k : Int)).toNat = k := by omega
    rw [e0, e1, decide_eq_true (by omega : (0 : Int) ≤ (k : Int)), decide_eq_true (by omega : (k : Int) ≤ 60)]
    cases off.testBit d <;> simp
  · rw [Bool.eq_iff_iff, any_range_iff, List.any_eq_true]
    have e4 : (Kbo1Neutral.plan dv rp st co).couplers = (readC co).map toCoup := couplersOf_eq co
    have ec : (Kbo1Neutral.held ks (sh : Int) (ch : Int) (off : Int)).couplers = ch := by show ((ch : Int)).toNat = ch; omega
    constructor
    · rintro ⟨c, hc, hb⟩
      obtain ⟨i, hi, hbit⟩ := mem_keep.mp hc
      have co' := CoupOk.of (o.hco c (List.mem_of_getElem? hi))
      simp only [Bool.and_eq_true, decide_eq_true_eq] at hb
      obtain ⟨⟨b1, b2⟩, b3⟩ := hb
      unfold coupV at b3
      rw [Nat.testBit_and, tb_shift, tb_first, Bool.and_eq_true, Bool.and_eq_true, decide_eq_true_eq] at b3
      obtain ⟨⟨b4, b5⟩, b6⟩ := b3
      have hlt : i < (readC co).length := (List.getElem?_eq_some_iff.mp hi).1
      refine ⟨i, by rw [e4, List.length_map]; exact hlt, ?_⟩
      unfold Kbo1.byCoupler
      rw [ec, hbit, e4, List.getElem?_map, hi]
      have b7 : ((k : Int) - c.sh).toNat < 61 := by
        rcases Nat.lt_or_ge ((k : Int) - c.sh).toNat 61 with z | z
        · exact z
        · rw [tb_high (kAt_lt o _) z] at b5; cases b5
      show (true && ((c.b.toNat == d) && decide (0 ≤ (k : Int)) && decide ((k : Int) ≤ 60) && Kbo1.held _ c.a.toNat ((k : Int) - c.sh))) = true
      rw [held_eq, b5]
      simp only [Bool.true_and, Bool.and_true, Bool.and_eq_true, decide_eq_true_eq, beq_iff_eq]
      omega
    · rintro ⟨i, hi, hb⟩
      rw [e4, List.length_map] at hi
      unfold Kbo1.byCoupler at hb
      rw [ec, e4, List.getElem?_map, List.getElem?_eq_getElem hi] at hb
      have hb : (ch.testBit i && (((readC co)[i].b.toNat == d) && decide (0 ≤ (k : Int)) && decide ((k : Int) ≤ 60) && Kbo1.held _ (readC co)[i].a.toNat ((k : Int) - (readC co)[i].sh))) = true := hb
      rw [held_eq] at hb
      simp only [Bool.and_eq_true, decide_eq_true_eq, beq_iff_eq] at hb
      obtain ⟨h1, ⟨⟨h2, h3⟩, h4⟩, ⟨h5, h6⟩, h7⟩ := hb
      refine ⟨(readC co)[i], mem_keep.mpr ⟨i, List.getElem?_eq_getElem hi, h1⟩, ?_⟩
      unfold coupV
      rw [Nat.testBit_and, tb_shift, tb_first, h7]
      simp only [List.length_map, List.length_range, Bool.and_eq_true, decide_eq_true_eq, Bool.and_true]
      omega
theorem speak_eq (o : Ok dv sh ch off rp st co ks) {r q : Nat} (hr : r < 16) :
    ((speakL rp (keepL sh (readS st)) (soundL dv.toNat off (keepL ch (readC co)) ks)).getD r 0).testBit q = Kbo1.speaks (Kbo1Neutral.plan dv rp st co) (Kbo1Neutral.held ks (sh : Int) (ch : Int) (off : Int)) r q := by
  unfold speakL
  rw [orFold_tb]
  have z : (List.replicate 16 0).getD r 0 = 0 := by
    rw [List.getD_eq_getElem?_getD, List.getElem?_replicate]
    split <;> rfl
  rw [z, Nat.zero_testBit, Bool.false_or]
  have e3 : (Kbo1Neutral.plan dv rp st co).stops = (readS st).map toStop := stopsOf_eq st
  have es : (Kbo1Neutral.held ks (sh : Int) (ch : Int) (off : Int)).stops = sh := by show ((sh : Int)).toNat = sh; omega
  have ep : (Kbo1Neutral.plan dv rp st co).pipes.getD r 0 = kAt rp r := by show (rp.map Int.toNat).getD r 0 = _; rw [getD_map0]; rfl
  unfold Kbo1.speaks
  rw [ep, Bool.eq_iff_iff, Bool.and_eq_true, decide_eq_true_eq, any_range_iff, List.any_eq_true]
  constructor
  · rintro ⟨s, hs, hb⟩
    obtain ⟨i, hi, hbit⟩ := mem_keep.mp hs
    have so := StopOk.of (o.hst s (List.mem_of_getElem? hi))
    obtain ⟨d0, d1, r0, r1, l0, lh, h1, s0, s1⟩ := so
    simp only [Bool.and_eq_true, decide_eq_true_eq] at hb
    obtain ⟨⟨b1, b2⟩, b3⟩ := hb
    unfold stopV at b3
    rw [Nat.testBit_and, tb_shift, tb_first, Nat.testBit_and, tb_reach (by omega)] at b3
    simp only [Bool.and_eq_true, decide_eq_true_eq] at b3
    obtain ⟨⟨b4, b5, b6, b7⟩, b8⟩ := b3
    have hlt : i < (readS st).length := (List.getElem?_eq_some_iff.mp hi).1
    refine ⟨by rw [← b1]; exact b8, i, by rw [e3, List.length_map]; exact hlt, ?_⟩
    rw [any_range_iff]
    refine ⟨((q : Int) - s.sh).toNat, by show _ < 61; omega, ?_⟩
    unfold Kbo1.leads
    rw [es, hbit, e3, List.getElem?_map, hi]
    show (true && ((s.r.toNat == r) && decide (s.lo.toNat ≤ ((q : Int) - s.sh).toNat) && decide (((q : Int) - s.sh).toNat ≤ s.hi.toNat) && ((((q : Int) - s.sh).toNat : Int) + s.sh == (q : Int)) && Kbo1.sounds _ _ s.d.toNat ((((q : Int) - s.sh).toNat : Nat) : Int))) = true
    rw [← sound_eq o (d := s.d.toNat) (k := ((q : Int) - s.sh).toNat) (by omega) (by omega), b5]
    simp only [Bool.true_and, Bool.and_true, Bool.and_eq_true, decide_eq_true_eq, beq_iff_eq]
    omega
  · rintro ⟨hq, i, hi, hb⟩
    rw [any_range_iff] at hb
    obtain ⟨k, hk, hb⟩ := hb
    have hk : k < 61 := hk
    rw [e3, List.length_map] at hi
    unfold Kbo1.leads at hb
    rw [es, e3, List.getElem?_map, List.getElem?_eq_getElem hi] at hb
    have so := StopOk.of (o.hst (readS st)[i] (List.getElem_mem hi))
    have hb : (sh.testBit i && (((readS st)[i].r.toNat == r) && decide ((readS st)[i].lo.toNat ≤ k) && decide (k ≤ (readS st)[i].hi.toNat) && ((k : Int) + (readS st)[i].sh == (q : Int)) && Kbo1.sounds _ _ (readS st)[i].d.toNat (k : Int))) = true := hb
    rw [← sound_eq o (d := (readS st)[i].d.toNat) (k := k) (by have := so.d0; have := so.d1; omega) (by omega)] at hb
    simp only [Bool.and_eq_true, decide_eq_true_eq, beq_iff_eq] at hb
    obtain ⟨h1, ⟨⟨⟨h2, h3⟩, h4⟩, h5⟩, h6⟩ := hb
    refine ⟨(readS st)[i], mem_keep.mpr ⟨i, List.getElem?_eq_getElem hi, h1⟩, ?_⟩
    have ek : ((q : Int) - (readS st)[i].sh).toNat = k := by omega
    unfold stopV
    rw [Nat.testBit_and, tb_shift, tb_first, Nat.testBit_and, tb_reach (by have := so.lh; have := so.l0; omega), ek, h6, h2]
    have := so.lh
    have := so.l0
    simp only [List.length_replicate, Bool.and_eq_true, decide_eq_true_eq, Bool.true_and]
    exact ⟨⟨trivial, hr⟩, ⟨by omega, h3, h4⟩, hq⟩
theorem speak_len (rp : List Int) (ss : List S5) (snd : List Nat) : (speakL rp ss snd).length = 16 := by
  unfold speakL
  rw [orFold_len, List.length_replicate]
theorem list_eq_range (l : List Nat) : l = (List.range l.length).map fun i => l.getD i 0 := by
  apply List.ext_getElem?
  intro i
  rw [List.getElem?_map]
  by_cases h : i < l.length
  · rw [List.getElem?_range h, List.getElem?_eq_getElem h]
    simp [List.getD_eq_getElem?_getD, List.getElem?_eq_getElem h]
  · rw [List.getElem?_eq_none (by omega), List.getElem?_eq_none (by simp; omega)]
    rfl
theorem speaks_high (o : Ok dv sh ch off rp st co ks) {h : Kbo1.Held} {r q : Nat} (hq : 97 ≤ q) : Kbo1.speaks (Kbo1Neutral.plan dv rp st co) h r q = false := by
  unfold Kbo1.speaks
  have ep : (Kbo1Neutral.plan dv rp st co).pipes.getD r 0 = kAt rp r := by show (rp.map Int.toNat).getD r 0 = _; rw [getD_map0]; rfl
  have : kAt rp r ≤ 97 := by
    unfold kAt
    rw [List.getD_eq_getElem?_getD]
    cases e : rp[r]? with
    | none => simp
    | some x => have := o.hrp x (List.mem_of_getElem? e); simp; omega
  rw [ep, decide_eq_false (by omega), Bool.false_and]
theorem speaks_none {h : Kbo1.Held} {r q : Nat} (hr : rp.length ≤ r) : Kbo1.speaks (Kbo1Neutral.plan dv rp st co) h r q = false := by
  unfold Kbo1.speaks
  have ep : (Kbo1Neutral.plan dv rp st co).pipes.getD r 0 = kAt rp r := by show (rp.map Int.toNat).getD r 0 = _; rw [getD_map0]; rfl
  have : kAt rp r = 0 := by
    unfold kAt
    rw [List.getD_eq_getElem?_getD, List.getElem?_eq_none hr]
    rfl
  rw [ep, this, decide_eq_false (by omega), Bool.false_and]
theorem foldl_plus (l : List Nat) : ∀ m, l.foldl (· + ·) m = m + l.sum := by
  induction l with
  | nil => intro m; simp
  | cons a l ih => intro m; rw [List.foldl_cons, ih, List.sum_cons]; omega
theorem sum_range_more (f : Nat → Nat) (n : Nat) : ∀ k, (∀ i, n ≤ i → f i = 0) → ((List.range (n + k)).map f).sum = ((List.range n).map f).sum
  | 0, _ => rfl
  | k + 1, h => by
    rw [← Nat.add_assoc, List.range_succ, List.map_append, List.sum_append, sum_range_more f n k h]
    simp [h (n + k) (by omega)]
theorem told_eq (o : Ok dv sh ch off rp st co ks) :
    told (speakL rp (keepL sh (readS st)) (soundL dv.toNat off (keepL ch (readC co)) ks)) =
      Kbo1.count (Kbo1Neutral.plan dv rp st co) (Kbo1Neutral.held ks (sh : Int) (ch : Int) (off : Int)) ::
        (List.range 16).flatMap fun r => [Kbo1.bits (Kbo1Neutral.plan dv rp st co) (Kbo1Neutral.held ks (sh : Int) (ch : Int) (off : Int)) r 0 64, Kbo1.bits (Kbo1Neutral.plan dv rp st co) (Kbo1Neutral.held ks (sh : Int) (ch : Int) (off : Int)) r 64 64] := by
  have tb := fun (r q : Nat) (hr : r < 16) => speak_eq o (q := q) hr
  have hl := speak_len rp (keepL sh (readS st)) (soundL dv.toNat off (keepL ch (readC co)) ks)
  generalize speakL rp (keepL sh (readS st)) (soundL dv.toNat off (keepL ch (readC co)) ks) = sp at tb hl
  generalize hh : Kbo1Neutral.held ks (sh : Int) (ch : Int) (off : Int) = h at tb
  have esp := list_eq_range sp
  rw [hl] at esp
  unfold told
  congr 1
  · have e1 : (sp.map cntBits).sum = ((List.range 16).map fun r => (List.range 97).countP fun q => Kbo1.speaks (Kbo1Neutral.plan dv rp st co) h r q).sum := by
      conv => lhs; rw [esp]
      rw [List.map_map]
      congr 1
      apply List.map_congr_left
      intro r hr
      have hr := List.mem_range.mp hr
      show cntBits (sp.getD r 0) = _
      unfold cntBits
      rw [sum_bits]
      rw [show (fun q => Kbo1.speaks (Kbo1Neutral.plan dv rp st co) h r q) = fun i => (sp.getD r 0).testBit i from funext fun q => (tb r q hr).symm]
      refine countP_same _ _ _ (fun i hi => tb_high (lt_bitLen _) hi) (fun i hi => ?_)
      rw [tb r i hr]
      exact speaks_high o hi
    rw [e1]
    unfold Kbo1.count
    rw [foldl_plus, Nat.zero_add]
    have e2 : (Kbo1Neutral.plan dv rp st co).pipes.length = rp.length := by show (rp.map Int.toNat).length = _; rw [List.length_map]
    rw [e2]
    obtain ⟨k, hk⟩ := Nat.le.dest o.r16
    rw [← hk]
    refine sum_range_more _ _ k fun r hr => ?_
    rw [List.countP_eq_zero]
    intro q _
    rw [speaks_none hr]
    decide
  · conv => lhs; rw [esp]
    rw [List.flatMap_map, List.flatMap_def, List.flatMap_def]
    congr 1
    apply List.map_congr_left
    intro r hr
    have hr := List.mem_range.mp hr
    have f1 : sp.getD r 0 &&& firstN 64 = Kbo1.bits (Kbo1Neutral.plan dv rp st co) h r 0 64 := by
      refine ofBits_eq (f := fun i => Kbo1.speaks (Kbo1Neutral.plan dv rp st co) h r (0 + i)) fun i => ?_
      rw [Nat.testBit_and, tb_first, tb r i hr, Nat.zero_add, Bool.and_comm]
    have f2 : sp.getD r 0 >>> 64 = Kbo1.bits (Kbo1Neutral.plan dv rp st co) h r 64 64 := by
      refine ofBits_eq (f := fun i => Kbo1.speaks (Kbo1Neutral.plan dv rp st co) h r (64 + i)) fun i => ?_
      rw [Nat.testBit_shiftRight, tb r (64 + i) hr]
      by_cases hi : i < 64
      · rw [decide_eq_true hi, Bool.true_and]
      · rw [decide_eq_false hi, Bool.false_and]
        exact speaks_high o (by omega)
    show [sp.getD r 0 &&& firstN 64, sp.getD r 0 >>> 64] = _
    rw [f1, f2]
end
structure Asked (dv sh ch off : Int) (rp st co ks : List Int) : Prop where
  d0 : 0 ≤ dv
  d1 : dv < 256
  s0 : 0 ≤ sh
  s1 : sh < 2 ^ 64
  c0 : 0 ≤ ch
  c1 : ch < 2 ^ 32
  o0 : 0 ≤ off
  o1 : off < 2 ^ 32
  hrp : ∀ x ∈ rp, 0 ≤ x ∧ x < 256
  st5 : st.length % 5 = 0
  hst : ∀ s ∈ readS st, NnS s
  co3 : co.length % 3 = 0
  hco : ∀ c ∈ readC co, NnC c
  hks : ∀ x ∈ ks, 0 ≤ x ∧ x < 2 ^ 64
  k4 : ks.length = 4
theorem Asked.of {dv sh ch off : Int} {rp st co ks : List Int} (h : PyKbo1.pipes_asked dv sh ch off rp st co ks = true) : Asked dv sh ch off rp st co ks := by
  have h : (Kbo1Neutral.natural dv 8 && (Kbo1Neutral.natural sh 64 && (Kbo1Neutral.natural ch 32 && (Kbo1Neutral.natural off 32 && (rp.all (fun (z : Int) => Kbo1Neutral.natural z 8) && (Kbo1Neutral.stops st && (Kbo1Neutral.couplers co && (ks.all (fun (z : Int) => Kbo1Neutral.natural z 64) && decide (ks.length = 4))))))))) = true := h
  simp only [Bool.and_eq_true, natural_iff, List.all_eq_true, decide_eq_true_eq] at h
  obtain ⟨⟨h1, h2⟩, ⟨h3, h4⟩, ⟨h5, h6⟩, ⟨h7, h8⟩, h9, h10, h11, h12, h13⟩ := h
  obtain ⟨s1, s2⟩ := stops_in h10
  obtain ⟨c1, c2⟩ := couplers_in h11
  exact ⟨h1, h2, h3, h4, h5, h6, h7, h8, h9, s1, s2, c1, c2, h12, h13⟩
/-- the mirror answers what the specification says -/
theorem pipes_eq {dv : Int} {sh ch off : Nat} {rp st co ks : List Int} (a : Asked dv sh ch off rp st co ks) : PyKbo1.pipes dv sh ch off rp st co ks = pipesM dv sh ch off rp st co ks := by
  have hw := wrong_eq (rp := rp) (st := st) (co := co) (ks := ks) (s := (sh : Int)) (c := (ch : Int)) (o := (off : Int)) a.d0 (fun x hx => (a.hrp x hx).1) a.hst a.hco a.k4
  have e1 : ((sh : Int)).toNat = sh := by omega
  have e2 : ((ch : Int)).toNat = ch := by omega
  have e3 : ((off : Int)).toNat = off := by omega
  rw [e1, e2, e3] at hw
  show (Kbo1.answer (.pipes (Kbo1Neutral.plan dv rp st co) (Kbo1Neutral.held ks sh ch off))).value :: Kbo1Neutral.ints (Kbo1.answer (.pipes (Kbo1Neutral.plan dv rp st co) (Kbo1Neutral.held ks sh ch off))).out = _
  unfold Kbo1.answer pipesM
  simp only [hw]
  by_cases h : refusal dv sh ch off rp st co ks ≠ 0
  · rw [if_pos h, if_pos h]
    rfl
  · rw [if_neg h, if_neg h, told_eq (Ok.of (by simpa using h))]
    rfl
end Pip

set_option Elab.async false
set_option linter.all false
set_option maxRecDepth 100000
set_option maxHeartbeats 4000000
namespace Pip
/-! ## the mirror of why -/
def speaksBy (s : S5) (r q snd : Nat) : Bool := decide (s.r = (r : Int)) && ((decide (s.lo ≤ (q : Int) - s.sh) && decide ((q : Int) - s.sh ≤ s.hi)) && snd.testBit ((q : Int) - s.sh).toNat)
def soundsBy (c : C3) (d k : Int) (ks : List Int) : Bool := decide (c.b = d) && ((decide (0 ≤ k - c.sh) && decide (k - c.sh < 61)) && (kAt ks c.a.toNat).testBit (k - c.sh).toNat)
def pS (sh r q : Nat) (snd : List Nat) (ss : List S5) (i : Nat) : Bool := sh.testBit i && match ss[i]? with
  | some s => speaksBy s r q (snd.getD s.d.toNat 0)
  | none => false
def pC (ch : Nat) (d k : Int) (ks : List Int) (cs : List C3) (i : Nat) : Bool := ch.testBit i && match cs[i]? with
  | some c => soundsBy c d k ks
  | none => false
def leastI (p : Nat → Bool) (n : Nat) : Int := match (List.range n).find? p with
  | some i => (i : Int)
  | none => -1
theorem find_least {p : Nat → Bool} : ∀ {n i : Nat}, i < n → p i = true → (∀ j, j < i → p j = false) → (List.range n).find? p = some i := by
  intro n i hi hp hj
  rw [List.find?_range_eq_some]
  exact ⟨hp, List.mem_range.mpr hi, fun j h => by rw [hj j h]; rfl⟩
theorem find_never {p : Nat → Bool} {n : Nat} (h : ∀ j, j < n → p j = false) : (List.range n).find? p = none := by
  rw [List.find?_eq_none]
  intro x hx
  rw [h x (List.mem_range.mp hx)]
  decide
theorem least_at {p : Nat → Bool} {n i : Nat} (hi : i < n) (hp : p i = true) (hj : ∀ j, j < i → p j = false) : leastI p n = (i : Int) := by
  unfold leastI
  rw [find_least hi hp hj]
theorem least_none {p : Nat → Bool} {n : Nat} (h : ∀ j, j < n → p j = false) : leastI p n = -1 := by
  unfold leastI
  rw [find_never h]
def causeL (d k : Int) (ch off : Nat) (cs : List C3) (ks : List Int) : List Int :=
  if ((kAt ks d.toNat).testBit k.toNat && !off.testBit d.toNat) = true then [255, k] else match (List.range cs.length).find? (pC ch d k ks cs) with
  | some i => match cs[i]? with
    | some c => [(i : Int), k - c.sh]
    | none => []
  | none => []
def whyM (dv : Int) (sh ch off r q : Nat) (rp st co ks : List Int) : List Int :=
  if refusal dv sh ch off rp st co ks ≠ 0 then [refusal dv sh ch off rp st co ks]
  else if (decide (r < rp.length) && decide (q < kAt rp r)) = false then [-2]
  else match (List.range (readS st).length).find? (pS sh r q (soundL dv.toNat off (keepL ch (readC co)) ks) (readS st)) with
  | none => [-2]
  | some i => match (readS st)[i]? with
    | none => [-2]
    | some s => [0, (i : Int), (q : Int) - s.sh] ++ causeL s.d ((q : Int) - s.sh) ch off (readC co) ks
/-! ## against the specification -/
theorem findSome_of {β : Type} {f : Nat → Option β} {p : Nat → Bool} {g : Nat → β} : ∀ {l : List Nat}, (∀ s ∈ l, f s = if p s = true then some (g s) else none) → l.findSome? f = (l.find? p).map g
  | [], _ => rfl
  | a :: l, h => by
    have ih := findSome_of (l := l) fun s hs => h s (List.mem_cons_of_mem _ hs)
    have ha := h a (List.mem_cons_self ..)
    rw [List.findSome?_cons, List.find?_cons, ha]
    cases e : p a with
    | true => rfl
    | false => exact ih
section
variable {dv : Int} {sh ch off : Nat} {rp st co ks : List Int}
theorem leads_eq (o : Ok dv sh ch off rp st co ks) {r q i k : Nat} (hk : k < 61) :
    Kbo1.leads (Kbo1Neutral.plan dv rp st co) (Kbo1Neutral.held ks (sh : Int) (ch : Int) (off : Int)) r q i k = true ↔
      ∃ s, (readS st)[i]? = some s ∧ pS sh r q (soundL dv.toNat off (keepL ch (readC co)) ks) (readS st) i = true ∧ (k : Int) = (q : Int) - s.sh := by
  have e3 : (Kbo1Neutral.plan dv rp st co).stops = (readS st).map toStop := stopsOf_eq st
  have es : (Kbo1Neutral.held ks (sh : Int) (ch : Int) (off : Int)).stops = sh := by show ((sh : Int)).toNat = sh; omega
  unfold Kbo1.leads pS
  rw [es, e3, List.getElem?_map]
  cases hs : (readS st)[i]? with
  | none =>
    constructor
    · intro h
      have h : (sh.testBit i && false) = true := h
      rw [Bool.and_false] at h
      cases h
    · rintro ⟨s, h, _⟩
      cases h
  | some s =>
    have so := StopOk.of (o.hst s (List.mem_of_getElem? hs))
    obtain ⟨d0, d1, r0, r1, l0, lh, h1, s0, s1⟩ := so
    show (sh.testBit i && ((s.r.toNat == r) && decide (s.lo.toNat ≤ k) && decide (k ≤ s.hi.toNat) && ((k : Int) + s.sh == (q : Int)) && Kbo1.sounds _ _ s.d.toNat (k : Int))) = true ↔ _
    rw [← sound_eq o (d := s.d.toNat) (k := k) (by omega) (by omega)]
    constructor
    · intro h
      simp only [Bool.and_eq_true, decide_eq_true_eq, beq_iff_eq] at h
      obtain ⟨h1, ⟨⟨⟨h2, h3⟩, h4⟩, h5⟩, h6⟩ := h
      refine ⟨s, rfl, ?_, by omega⟩
      show (sh.testBit i && speaksBy s r q _) = true
      unfold speaksBy
      rw [show ((q : Int) - s.sh).toNat = k by omega, h6, h1, decide_eq_true (by omega : s.r = (r : Int)), decide_eq_true (by omega : s.lo ≤ (q : Int) - s.sh), decide_eq_true (by omega : (q : Int) - s.sh ≤ s.hi)]
      rfl
    · rintro ⟨s', e, h, hk2⟩
      cases e
      have h : (sh.testBit i && speaksBy s r q ((soundL dv.toNat off (keepL ch (readC co)) ks).getD s.d.toNat 0)) = true := h
      unfold speaksBy at h
      simp only [Bool.and_eq_true, decide_eq_true_eq] at h
      obtain ⟨h1, h2, ⟨h3, h4⟩, h5⟩ := h
      rw [show ((q : Int) - s.sh).toNat = k by omega] at h5
      rw [h5, h1]
      simp only [Bool.true_and, Bool.and_true, Bool.and_eq_true, decide_eq_true_eq, beq_iff_eq]
      omega
/-- the key of the i-th stop that leads to the pipe q -/
def keyOf (st : List Int) (q i : Nat) : Nat := match (readS st)[i]? with
  | some s => ((q : Int) - s.sh).toNat
  | none => 0
theorem pS_key (o : Ok dv sh ch off rp st co ks) {r q i : Nat} {s : S5} {snd : List Nat} (hs : (readS st)[i]? = some s) (h : pS sh r q snd (readS st) i = true) :
    0 ≤ (q : Int) - s.sh ∧ (q : Int) - s.sh < 61 ∧ (snd.getD s.d.toNat 0).testBit ((q : Int) - s.sh).toNat = true := by
  have so := StopOk.of (o.hst s (List.mem_of_getElem? hs))
  obtain ⟨d0, d1, r0, r1, l0, lh, h1, s0, s1⟩ := so
  unfold pS at h
  rw [hs] at h
  have h : (sh.testBit i && speaksBy s r q (snd.getD s.d.toNat 0)) = true := h
  unfold speaksBy at h
  simp only [Bool.and_eq_true, decide_eq_true_eq] at h
  obtain ⟨h1, h2, ⟨h3, h4⟩, h5⟩ := h
  exact ⟨by omega, by omega, h5⟩
theorem pS_some {r q i : Nat} {snd : List Nat} {ss : List S5} (h : pS sh r q snd ss i = true) : ∃ s, ss[i]? = some s := by
  unfold pS at h
  cases e : ss[i]? with
  | none =>
    rw [e] at h
    have h : (sh.testBit i && false) = true := h
    rw [Bool.and_false] at h
    cases h
  | some s => exact ⟨s, rfl⟩
theorem find_key (o : Ok dv sh ch off rp st co ks) (r q i : Nat) :
    ((List.range Kbo1.KEYS).find? fun k => Kbo1.leads (Kbo1Neutral.plan dv rp st co) (Kbo1Neutral.held ks (sh : Int) (ch : Int) (off : Int)) r q i k) =
      if pS sh r q (soundL dv.toNat off (keepL ch (readC co)) ks) (readS st) i = true then some (keyOf st q i) else none := by
  show ((List.range 61).find? _) = _
  by_cases h : pS sh r q (soundL dv.toNat off (keepL ch (readC co)) ks) (readS st) i = true
  · rw [if_pos h]
    obtain ⟨s, hs⟩ := pS_some h
    obtain ⟨k0, k1, _⟩ := pS_key o hs h
    have ek : keyOf st q i = ((q : Int) - s.sh).toNat := by unfold keyOf; rw [hs]
    rw [ek]
    refine find_least (by omega) ((leads_eq o (by omega)).mpr ⟨s, hs, h, by omega⟩) fun j hj => ?_
    cases e : Kbo1.leads (Kbo1Neutral.plan dv rp st co) (Kbo1Neutral.held ks (sh : Int) (ch : Int) (off : Int)) r q i j with
    | false => rfl
    | true =>
      obtain ⟨s', e1, _, e3⟩ := (leads_eq o (by omega)).mp e
      rw [hs] at e1
      cases e1
      omega
  · rw [if_neg h]
    refine find_never fun j hj => ?_
    cases e : Kbo1.leads (Kbo1Neutral.plan dv rp st co) (Kbo1Neutral.held ks (sh : Int) (ch : Int) (off : Int)) r q i j with
    | false => rfl
    | true =>
      obtain ⟨s', _, e2, _⟩ := (leads_eq o hj).mp e
      exact absurd e2 h
theorem reason_eq (o : Ok dv sh ch off rp st co ks) (r q : Nat) :
    Kbo1.reason (Kbo1Neutral.plan dv rp st co) (Kbo1Neutral.held ks (sh : Int) (ch : Int) (off : Int)) r q =
      ((List.range (readS st).length).find? (pS sh r q (soundL dv.toNat off (keepL ch (readC co)) ks) (readS st))).map fun i => (i, keyOf st q i) := by
  have e3 : (Kbo1Neutral.plan dv rp st co).stops = (readS st).map toStop := stopsOf_eq st
  unfold Kbo1.reason
  rw [e3, List.length_map]
  refine findSome_of fun i _ => ?_
  rw [find_key o r q i]
  split <;> rfl
theorem speaks_find (o : Ok dv sh ch off rp st co ks) (r q : Nat) :
    Kbo1.speaks (Kbo1Neutral.plan dv rp st co) (Kbo1Neutral.held ks (sh : Int) (ch : Int) (off : Int)) r q =
      (decide (q < kAt rp r) && ((List.range (readS st).length).find? (pS sh r q (soundL dv.toNat off (keepL ch (readC co)) ks) (readS st))).isSome) := by
  have e3 : (Kbo1Neutral.plan dv rp st co).stops = (readS st).map toStop := stopsOf_eq st
  have ep : (Kbo1Neutral.plan dv rp st co).pipes.getD r 0 = kAt rp r := by show (rp.map Int.toNat).getD r 0 = _; rw [getD_map0]; rfl
  unfold Kbo1.speaks
  rw [ep, e3, List.length_map]
  congr 1
  rw [Bool.eq_iff_iff, any_range_iff, List.find?_isSome]
  constructor
  · rintro ⟨i, hi, h⟩
    obtain ⟨k, hk, h⟩ := any_range_iff.mp h
    obtain ⟨s, _, h2, _⟩ := (leads_eq o hk).mp h
    exact ⟨i, List.mem_range.mpr hi, h2⟩
  · rintro ⟨i, hi, h⟩
    refine ⟨i, List.mem_range.mp hi, ?_⟩
    obtain ⟨s, hs⟩ := pS_some h
    obtain ⟨k0, k1, _⟩ := pS_key o hs h
    exact any_range_iff.mpr ⟨((q : Int) - s.sh).toNat, by show _ < 61; omega, (leads_eq o (by omega)).mpr ⟨s, hs, h, by omega⟩⟩
theorem by_eq {d k : Nat} (o : Ok dv sh ch off rp st co ks) (hk : k < 61) (i : Nat) :
    Kbo1.byCoupler (Kbo1Neutral.plan dv rp st co) (Kbo1Neutral.held ks (sh : Int) (ch : Int) (off : Int)) d (k : Int) i = pC ch (d : Int) (k : Int) ks (readC co) i := by
  have e4 : (Kbo1Neutral.plan dv rp st co).couplers = (readC co).map toCoup := couplersOf_eq co
  have ec : (Kbo1Neutral.held ks (sh : Int) (ch : Int) (off : Int)).couplers = ch := by show ((ch : Int)).toNat = ch; omega
  unfold Kbo1.byCoupler pC
  rw [ec, e4, List.getElem?_map]
  congr 1
  cases hc : (readC co)[i]? with
  | none => rfl
  | some c =>
    obtain ⟨ca0, ca1, cb0, cb1, csh⟩ := CoupOk.of (o.hco c (List.mem_of_getElem? hc))
    show ((c.b.toNat == d) && decide (0 ≤ (k : Int)) && decide ((k : Int) ≤ 60) && Kbo1.held _ c.a.toNat ((k : Int) - c.sh)) = soundsBy c (d : Int) (k : Int) ks
    rw [held_eq]
    unfold soundsBy
    rw [Bool.eq_iff_iff]
    simp only [Bool.and_eq_true, decide_eq_true_eq, beq_iff_eq]
    constructor
    · rintro ⟨⟨⟨h1, h2⟩, h3⟩, ⟨h4, h5⟩, h6⟩
      exact ⟨by omega, ⟨h4, by omega⟩, h6⟩
    · rintro ⟨h1, ⟨h2, h3⟩, h4⟩
      exact ⟨⟨⟨by omega, by omega⟩, by omega⟩, ⟨h2, by omega⟩, h4⟩
/-- a key that sounds does so by itself or by a coupler -/
theorem sounds_by (o : Ok dv sh ch off rp st co ks) {d k : Nat} (hd : d < dv.toNat) (hk : k < 61) (h : ((soundL dv.toNat off (keepL ch (readC co)) ks).getD d 0).testBit k = true) :
    ((kAt ks d).testBit k && !off.testBit d) = true ∨ ∃ i, i < (readC co).length ∧ pC ch (d : Int) (k : Int) ks (readC co) i = true := by
  rw [sound_eq o hd (by omega)] at h
  unfold Kbo1.sounds at h
  rw [Bool.or_eq_true] at h
  cases h with
  | inl h =>
    left
    unfold Kbo1.itself at h
    rw [held_eq] at h
    have h : ((decide (0 ≤ (k : Int)) && decide ((k : Int) ≤ 60) && (kAt ks d).testBit ((k : Int)).toNat) && !((((off : Int)).toNat).testBit d)) = true := h
    rw [show ((off : Int)).toNat = off by omega, show ((k : Int)).toNat = k by omega] at h
    simp only [Bool.and_eq_true] at h ⊢
    exact ⟨h.1.2, h.2⟩
  | inr h =>
    right
    obtain ⟨i, hi, h⟩ := any_range_iff.mp h
    have e4 : (Kbo1Neutral.plan dv rp st co).couplers = (readC co).map toCoup := couplersOf_eq co
    rw [e4, List.length_map] at hi
    rw [by_eq o hk] at h
    exact ⟨i, hi, h⟩
theorem source_eq (o : Ok dv sh ch off rp st co ks) {d k : Nat} (hk : k < 61)
    (h : ((kAt ks d).testBit k && !off.testBit d) = true ∨ ∃ i, i < (readC co).length ∧ pC ch (d : Int) (k : Int) ks (readC co) i = true) :
    Kbo1Neutral.ints [(Kbo1.source (Kbo1Neutral.plan dv rp st co) (Kbo1Neutral.held ks (sh : Int) (ch : Int) (off : Int)) d k).1, (Kbo1.source (Kbo1Neutral.plan dv rp st co) (Kbo1Neutral.held ks (sh : Int) (ch : Int) (off : Int)) d k).2] = causeL (d : Int) (k : Int) ch off (readC co) ks := by
  have e4 : (Kbo1Neutral.plan dv rp st co).couplers = (readC co).map toCoup := couplersOf_eq co
  have ei : Kbo1.itself (Kbo1Neutral.held ks (sh : Int) (ch : Int) (off : Int)) d (k : Int) = ((kAt ks d).testBit k && !off.testBit d) := by
    unfold Kbo1.itself
    rw [held_eq]
    show ((decide (0 ≤ (k : Int)) && decide ((k : Int) ≤ 60) && (kAt ks d).testBit ((k : Int)).toNat) && !((((off : Int)).toNat).testBit d)) = _
    rw [show ((off : Int)).toNat = off by omega, show ((k : Int)).toNat = k by omega, decide_eq_true (by omega : (0 : Int) ≤ (k : Int)), decide_eq_true (by omega : (k : Int) ≤ 60)]
    rfl
  have ef : (List.range (Kbo1Neutral.plan dv rp st co).couplers.length).find? (Kbo1.byCoupler (Kbo1Neutral.plan dv rp st co) (Kbo1Neutral.held ks (sh : Int) (ch : Int) (off : Int)) d (k : Int)) = (List.range (readC co).length).find? (pC ch (d : Int) (k : Int) ks (readC co)) := by
    rw [e4, List.length_map]
    congr 1
    exact funext fun i => by_eq o hk i
  unfold Kbo1.source causeL
  rw [ei, ef, show ((d : Int)).toNat = d by omega, show ((k : Int)).toNat = k by omega]
  by_cases hi : ((kAt ks d).testBit k && !off.testBit d) = true
  · rw [if_pos hi, if_pos hi]
    rfl
  · rw [if_neg hi, if_neg hi]
    obtain ⟨i, hil, hp⟩ := h.resolve_left hi
    cases ff : (List.range (readC co).length).find? (pC ch (d : Int) (k : Int) ks (readC co)) with
    | none =>
      rw [List.find?_eq_none] at ff
      exact absurd hp (ff i (List.mem_range.mpr hil))
    | some j =>
      have hj := List.mem_range.mp (List.mem_of_find?_eq_some ff)
      have hpj := List.find?_some ff
      have ej : (readC co)[j]? = some (readC co)[j] := List.getElem?_eq_getElem hj
      unfold pC at hpj
      rw [ej] at hpj
      have hpj : (ch.testBit j && soundsBy (readC co)[j] (d : Int) (k : Int) ks) = true := hpj
      unfold soundsBy at hpj
      simp only [Bool.and_eq_true, decide_eq_true_eq] at hpj
      obtain ⟨_, _, ⟨h1, _⟩, _⟩ := hpj
      simp only [e4, List.getElem?_map, ej]
      show [(j : Int), ((((k : Int) - (readC co)[j].sh).toNat : Nat) : Int)] = [(j : Int), (k : Int) - (readC co)[j].sh]
      rw [show ((((k : Int) - (readC co)[j].sh).toNat : Nat) : Int) = (k : Int) - (readC co)[j].sh by omega]
theorem find_pS {r q i : Nat} {snd : List Nat} {ss : List S5} (ff : (List.range ss.length).find? (pS sh r q snd ss) = some i) : pS sh r q snd ss i = true := List.find?_some ff
end
structure WhyAsked (dv sh ch off r q : Int) (rp st co ks : List Int) : Prop where
  a : Asked dv sh ch off rp st co ks
  r0 : 0 ≤ r
  q0 : 0 ≤ q
theorem WhyAsked.of {dv sh ch off r q : Int} {rp st co ks : List Int} (h : PyKbo1.why_asked dv sh ch off r q rp st co ks = true) : WhyAsked dv sh ch off r q rp st co ks := by
  have h : (Kbo1Neutral.natural dv 8 && (Kbo1Neutral.natural sh 64 && (Kbo1Neutral.natural ch 32 && (Kbo1Neutral.natural off 32 && (Kbo1Neutral.natural r 32 && (Kbo1Neutral.natural q 32 && (rp.all (fun (z : Int) => Kbo1Neutral.natural z 8) && (Kbo1Neutral.stops st && (Kbo1Neutral.couplers co && (ks.all (fun (z : Int) => Kbo1Neutral.natural z 64) && decide (ks.length = 4))))))))))) = true := h
  simp only [Bool.and_eq_true, natural_iff, List.all_eq_true, decide_eq_true_eq] at h
  obtain ⟨⟨h1, h2⟩, ⟨h3, h4⟩, ⟨h5, h6⟩, ⟨h7, h8⟩, ⟨hr, _⟩, ⟨hq, _⟩, h9, h10, h11, h12, h13⟩ := h
  obtain ⟨s1, s2⟩ := stops_in h10
  obtain ⟨c1, c2⟩ := couplers_in h11
  exact ⟨⟨h1, h2, h3, h4, h5, h6, h7, h8, h9, s1, s2, c1, c2, h12, h13⟩, hr, hq⟩
theorem why_eq {dv : Int} {sh ch off r q : Nat} {rp st co ks : List Int} (a : Asked dv sh ch off rp st co ks) : PyKbo1.why dv sh ch off r q rp st co ks = whyM dv sh ch off r q rp st co ks := by
  have hw := wrong_eq (rp := rp) (st := st) (co := co) (ks := ks) (s := (sh : Int)) (c := (ch : Int)) (o := (off : Int)) a.d0 (fun x hx => (a.hrp x hx).1) a.hst a.hco a.k4
  have e1 : ((sh : Int)).toNat = sh := by omega
  have e2 : ((ch : Int)).toNat = ch := by omega
  have e3 : ((off : Int)).toNat = off := by omega
  rw [e1, e2, e3] at hw
  show (Kbo1.answer (.why (Kbo1Neutral.plan dv rp st co) (Kbo1Neutral.held ks sh ch off) ((r : Int)).toNat ((q : Int)).toNat)).value :: Kbo1Neutral.ints (Kbo1.answer (.why (Kbo1Neutral.plan dv rp st co) (Kbo1Neutral.held ks sh ch off) ((r : Int)).toNat ((q : Int)).toNat)).out = _
  rw [show ((r : Int)).toNat = r by omega, show ((q : Int)).toNat = q by omega]
  unfold Kbo1.answer whyM
  simp only [hw]
  by_cases h : refusal dv sh ch off rp st co ks ≠ 0
  · rw [if_pos h, if_pos h]
    rfl
  rw [if_neg h, if_neg h]
  have o := Ok.of (by simpa using h)
  rw [speaks_find o, reason_eq o]
  have eh : (decide (r < rp.length) && decide (q < kAt rp r)) = decide (q < kAt rp r) := by
    by_cases hr : r < rp.length
    · rw [decide_eq_true hr, Bool.true_and]
    · have z : kAt rp r = 0 := by
        unfold kAt
        rw [List.getD_eq_getElem?_getD, List.getElem?_eq_none (by omega)]
        rfl
      rw [z, decide_eq_false (by omega : ¬ q < 0), Bool.and_false]
  rw [eh]
  by_cases hq : q < kAt rp r
  · rw [decide_eq_true hq, Bool.true_and, if_neg (by decide : ¬ true = false)]
    cases ff : (List.range (readS st).length).find? (pS sh r q (soundL dv.toNat off (keepL ch (readC co)) ks) (readS st)) with
    | none => rfl
    | some i =>
      have hp := find_pS ff
      obtain ⟨s, hs⟩ := pS_some hp
      obtain ⟨k0, k1, k2⟩ := pS_key o hs hp
      obtain ⟨d0, d1, r0, r1, l0, lh, h1, s0, s1⟩ := StopOk.of (o.hst s (List.mem_of_getElem? hs))
      have ek : keyOf st q i = ((q : Int) - s.sh).toNat := by unfold keyOf; rw [hs]
      have e3 : (Kbo1Neutral.plan dv rp st co).stops = (readS st).map toStop := stopsOf_eq st
      have src := source_eq o (d := s.d.toNat) (k := ((q : Int) - s.sh).toNat) (by omega) (sounds_by o (by omega) (by omega) k2)
      rw [show ((s.d.toNat : Nat) : Int) = s.d by omega, show ((((q : Int) - s.sh).toNat : Nat) : Int) = (q : Int) - s.sh by omega] at src
      simp only [Option.isSome_some, Bool.true_eq_false, if_false, Option.map_some, ek, e3, List.getElem?_map, hs]
      rw [← src]
      show _ = [0, (i : Int), (q : Int) - s.sh] ++ _
      rw [← show ((((q : Int) - s.sh).toNat : Nat) : Int) = (q : Int) - s.sh by omega]
      rfl
  · rw [decide_eq_false hq, Bool.false_and, if_pos rfl, if_pos rfl]
    rfl
end Pip

set_option Elab.async false
set_option linter.all false
set_option maxRecDepth 100000
set_option maxHeartbeats 4000000
namespace L2
open PySem PySem.Spec PyProof.Rows
/-! ### a op1 b op2 c op3 d, as a test -/
section
variable {X : Cx} {a b c d : Expr} {ta tb tc td : TE} {pos : Pos}
def tChain3 (r r' r'' : R2) (ta tb tc td : TE) : TE := fun σ H Q => ta σ H fun x H1 => tb σ H1 fun y H2 => r x y H2 fun z H3 => ∃ k, z = .bl k ∧
  (if k = true then tc σ H3 fun w' H4 => r' y w' H4 fun z' H5 => ∃ k', z' = .bl k' ∧ (if k' = true then td σ H5 fun v' H6 => r'' w' v' H6 Q else Q (.bl false) H5) else Q (.bl false) H3)
theorem pt_chain3 {op op' op'' : CmpOp} {r r' r'' : R2} (ho : OpR X (compareOp op) r) (ho' : OpR X (compareOp op') r') (ho'' : OpR X (compareOp op'') r'') (ha : PE X a ta) (hb : PE X b tb) (hc : PE X c tc) (hd : PE X d td)
    (hm : lastMarks [op, op', op''] [b, c, d] = false := by with_unfolding_all rfl) : PT X (.Compare a [op, op', op''] [b, c, d] pos) (tTest (tChain3 r r' r'' ta tb tc td)) := by
  intro pins s σ H Q I h
  refine isTrue_chain (thn (ha pins s σ H _ I h) fun v s1 ⟨x, H1, I1, r1, q1⟩ => test_link (thn (hb pins s1 σ H1 _ I1 q1) fun u s2 ⟨y, H2, I2, r2, q2⟩ =>
    thn (ho pins s2 σ H2 x y v u _ I2 r1 r2 q2) fun d1 s3 ⟨z, H3, I3, r3, k, e, q3⟩ => ?_)) hm
  subst e
  cases r3
  refine wpAny_truthy_bool ?_
  cases k with
  | false =>
    obtain ⟨k', e', q'⟩ := q3
    cases e'
    exact ite_ff ⟨H3, I3, q'⟩
  | true =>
    refine ite_tt (test_link (thn (hc pins s3 σ H3 _ I3 q3) fun w' s4 ⟨z', H4, I4, r4, q4⟩ => thn (ho' pins s4 σ H4 y z' u w' _ I4 r2 r4 q4) fun d' s5 ⟨z2, H5, I5, r5, k2, e2, q5⟩ => ?_))
    subst e2
    cases r5
    refine wpAny_truthy_bool ?_
    cases k2 with
    | false =>
      obtain ⟨k', e', q'⟩ := q5
      cases e'
      exact ite_ff ⟨H5, I5, q'⟩
    | true =>
      refine ite_tt (test_last (thn (hd pins s5 σ H5 _ I5 q5) fun v' s6 ⟨z3, H6, I6, r6, q6⟩ => thn (ho'' pins s6 σ H6 z' z3 w' v' _ I6 r4 r6 q6) fun d'' s7 ⟨z4, H7, I7, r7, k3, e3, q7⟩ => ?_))
      subst e3
      cases r7
      exact wpAny_truthy_bool ⟨H7, I7, q7⟩
end
/-! ### n.bit_length() -/
section
variable {X : Cx}
theorem mt_bitlen : MtR X "int.bit_length" (fun x xs H Q => ∃ i, x = .int i ∧ xs = [] ∧ Q (.int (Builtin.Int.intBits i)) H) := by
  intro pins s σ H x xs v us Q I rx rv h
  obtain ⟨i, rfl, rfl, q⟩ := h
  obtain ⟨t, rfl⟩ := rx
  cases rv
  exact call_int_bit_length ⟨.int _, H, I.tok _, ⟨_, rfl⟩, q⟩
end
/-! ### comprehensions over a step range and over enumerate -/
theorem lc_rangeC {lo c : Int} {n : Nat} {g : TG} {tt : TT} {te : TE} {vs : List Nat} {σ : St} {H1 : Hp} {D : Addr} {Qd : Hp → Prop} (Pv : Nat → Hp → Prop) (h0 : Pv 0 (upd H1 D (.lst [])))
    (hs : ∀ i H, i < n → Pv i H → g (.int (lo + (i : Nat) * c)) (wipe σ vs) H fun σ2 H2 => wipe σ2 vs = wipe σ vs ∧ tt σ2 H2 fun b H3 =>
      if b = true then te σ2 H3 fun y H4 => ∃ acc, H4 D = some (.lst acc) ∧ acc.length < sizeLine ∧ Pv (i + 1) (upd H4 D (.lst (acc ++ [y]))) else Pv (i + 1) H3) (hd : ∀ H, Pv n H → Qd H) :
    ∃ W : Nat → Nat → Hp → Prop, (∃ m, W 0 m (upd H1 D (.lst []))) ∧ ∀ i m H, W i m H →
      ((Itc lo c n).stop i H ∧ Qd H) ∨ ((Itc lo c n).go i H ∧ ∃ Nx : Hp → Prop, (∀ H', Nx H' → ∃ m', m' < m ∧ W (i + 1) m' H') ∧ ∀ x H', (Itc lo c n).yld i H x H' → g x (wipe σ vs) H' fun σ2 H2 => wipe σ2 vs = wipe σ vs ∧ tt σ2 H2 fun b H3 =>
        if b = true then te σ2 H3 fun y H4 => ∃ acc, H4 D = some (.lst acc) ∧ acc.length < sizeLine ∧ Nx (upd H4 D (.lst (acc ++ [y]))) else Nx H3) := by
  refine ⟨fun i m H => m = n - i ∧ i ≤ n ∧ Pv i H, ⟨n, by simp, Nat.zero_le _, h0⟩, ?_⟩
  rintro i m H ⟨rfl, hi, p⟩
  by_cases hlt : i < n
  · refine .inr ⟨hlt, Pv (i + 1), fun H' p' => ⟨n - (i + 1), by omega, rfl, hlt, p'⟩, fun x H' y => ?_⟩
    obtain ⟨e, y⟩ := y
    subst e y
    exact hs i _ hlt p
  · have e : i = n := by omega
    subst e
    exact .inl ⟨Nat.le_refl _, hd H p⟩
/-- over enumerate(list): each turn makes a new pair at T -/
theorem lc_enum {K : PySem.W.Frag} {a : Addr} {xs : List V} {g : TG} {tt : TT} {te : TE} {vs : List Nat} {σ : St} {H1 : Hp} {D : Addr} {Qd : Hp → Prop} (Pv : Nat → Hp → Prop) (h0 : Pv 0 (upd H1 D (.lst []))) (hl : ∀ i H, i ≤ xs.length → Pv i H → SqL K H a xs)
    (hs : ∀ i x H T, xs[i]? = some x → H T = none → Pv i H → g (.ref T) (wipe σ vs) (upd H T (.tup [.int (i : Nat), x])) fun σ2 H2 => wipe σ2 vs = wipe σ vs ∧ tt σ2 H2 fun b H3 =>
      if b = true then te σ2 H3 fun y H4 => ∃ acc, H4 D = some (.lst acc) ∧ acc.length < sizeLine ∧ Pv (i + 1) (upd H4 D (.lst (acc ++ [y]))) else Pv (i + 1) H3) (hd : ∀ H, Pv xs.length H → Qd H) :
    ∃ W : Nat → Nat → Hp → Prop, (∃ m, W 0 m (upd H1 D (.lst []))) ∧ ∀ i m H, W i m H →
      ((Ite K a).stop i H ∧ Qd H) ∨ ((Ite K a).go i H ∧ ∃ Nx : Hp → Prop, (∀ H', Nx H' → ∃ m', m' < m ∧ W (i + 1) m' H') ∧ ∀ x H', (Ite K a).yld i H x H' → g x (wipe σ vs) H' fun σ2 H2 => wipe σ2 vs = wipe σ vs ∧ tt σ2 H2 fun b H3 =>
        if b = true then te σ2 H3 fun y H4 => ∃ acc, H4 D = some (.lst acc) ∧ acc.length < sizeLine ∧ Nx (upd H4 D (.lst (acc ++ [y]))) else Nx H3) := by
  refine ⟨fun i m H => m = xs.length - i ∧ i ≤ xs.length ∧ Pv i H, ⟨xs.length, by simp, Nat.zero_le _, h0⟩, ?_⟩
  rintro i m H ⟨rfl, hi, p⟩
  have q := hl i H hi p
  by_cases hlt : i < xs.length
  · refine .inr ⟨⟨xs, xs[i], q, by simp [hlt]⟩, Pv (i + 1), fun H' p' => ⟨xs.length - (i + 1), by omega, rfl, hlt, p'⟩, fun x H' y => ?_⟩
    obtain ⟨T, x', e1, e2, e3, e4⟩ := y
    subst e1 e3
    exact hs i x' _ T (e4 xs q) e2 p
  · have e : i = xs.length := by omega
    subst e
    exact .inl ⟨⟨xs, q, Nat.le_refl _⟩, hd H p⟩
theorem for_enum {K : PySem.W.Frag} {a : Addr} {xs : List V} {g : TG} {tb : TS} {D : Ends} {σ : St} {H : Hp} (Pv : Nat → St → Hp → Prop) (h0 : Pv 0 σ H) (hl : ∀ i σ H, i ≤ xs.length → Pv i σ H → SqL K H a xs)
    (hs : ∀ i x σ H T, xs[i]? = some x → H T = none → Pv i σ H → g (.ref T) σ (upd H T (.tup [.int (i : Nat), x])) fun σ2 H2 => tb { D with nx := Pv (i + 1), ct := Pv (i + 1), bk := D.nx } σ2 H2) (hd : ∀ σ H, Pv xs.length σ H → D.nx σ H) :
    ∃ W : Nat → Nat → St → Hp → Prop, (∃ m, W 0 m σ H) ∧ ∀ i m σ H, W i m σ H →
      ((Ite K a).stop i H ∧ D.nx σ H) ∨ ((Ite K a).go i H ∧ ∃ N : St → Hp → Prop, (∀ σ' H', N σ' H' → ∃ m', m' < m ∧ W (i + 1) m' σ' H') ∧ ∀ x H', (Ite K a).yld i H x H' → g x σ H' fun σ2 H2 => tb { D with nx := N, ct := N, bk := D.nx } σ2 H2) := by
  refine ⟨fun i m σ H => m = xs.length - i ∧ i ≤ xs.length ∧ Pv i σ H, ⟨xs.length, by simp, Nat.zero_le _, h0⟩, ?_⟩
  rintro i m σ H ⟨rfl, hi, p⟩
  have q := hl i σ H hi p
  by_cases hlt : i < xs.length
  · refine .inr ⟨⟨xs, xs[i], q, by simp [hlt]⟩, Pv (i + 1), fun σ' H' p' => ⟨xs.length - (i + 1), by omega, rfl, hlt, p'⟩, fun x H' y => ?_⟩
    obtain ⟨T, x', e1, e2, e3, e4⟩ := y
    subst e1 e3
    exact hs i x' σ _ T (e4 xs q) e2 p
  · have e : i = xs.length := by omega
    subst e
    exact .inl ⟨⟨xs, q, Nat.le_refl _⟩, hd σ H p⟩
/-! ### small words -/
theorem Same.new {H : Hp} {a : Addr} {o : HO} (h : H a = Option.none) : Same H (upd H a o) := fun b u e => by
  rw [upd_ne (ne_of_none e h)]
  exact e
theorem Same.put {H H1 : Hp} {a : Addr} {o : HO} (s : Same H H1) (h : H a = Option.none) : Same H (upd H1 a o) := fun b u e => by
  rw [upd_ne (ne_of_none e h)]
  exact s b u e
/-! ### numbers -/
theorem shr_nat (n k : Nat) : ((n : Nat) : Int) / 2 ^ k = ((n >>> k : Nat) : Int) := by
  rw [Nat.shiftRight_eq_div_pow, Int.natCast_ediv, Int.natCast_pow]
  rfl
theorem shl_nat (n k : Nat) : ((n : Nat) : Int) * 2 ^ k = ((n <<< k : Nat) : Int) := by
  rw [Nat.shiftLeft_eq, Int.natCast_mul, Int.natCast_pow]
  rfl
theorem and_nat (a b : Nat) : Builtin.bitAnd (a : Int) (b : Int) = ((a &&& b : Nat) : Int) := by
  rw [bitAnd_pp (Int.natCast_nonneg a) (Int.natCast_nonneg b)]
  rfl
theorem or_and_sum : ∀ (n a b : Nat), a ≤ n → (a ||| b) + (a &&& b) = a + b
  | 0, a, b, h => by
    have e : a = 0 := by omega
    subst e
    simp
  | n + 1, a, b, h => by
    by_cases h0 : a = 0
    · subst h0; simp
    have ih := or_and_sum n (a / 2) (b / 2) (by omega)
    have e1 : (a ||| b) / 2 = a / 2 ||| b / 2 := Nat.or_div_two
    have e2 : (a &&& b) / 2 = a / 2 &&& b / 2 := Nat.and_div_two
    have e3 : (a ||| b) % 2 = 1 ↔ a % 2 = 1 ∨ b % 2 = 1 := Nat.or_mod_two_eq_one
    have e4 : (a &&& b) % 2 = 1 ↔ a % 2 = 1 ∧ b % 2 = 1 := Nat.and_mod_two_eq_one
    omega
theorem or_nat (a b : Nat) : Builtin.bitOr (a : Int) (b : Int) = ((a ||| b : Nat) : Int) := by
  rw [bitOr_and, and_nat]
  have := or_and_sum a a b (Nat.le_refl a)
  omega
theorem bits_nat (n : Nat) : Builtin.Int.intBits (n : Int) = Pip.bitLen n := by
  unfold Builtin.Int.intBits Pip.bitLen
  by_cases h : n = 0
  · subst h; rfl
  · rw [if_neg h, if_neg (by simp; omega)]
    rfl
/-! ### argument lists: no star -/
section
variable {env : Env} {es : List Expr}
theorem st_name {x p} : starEach (.Name x p :: es) env = (false, eval (.Name x p) env) :: starEach es env := rfl
theorem st_sub {a b p} : starEach (.Subscript a b p :: es) env = (false, eval (.Subscript a b p) env) :: starEach es env := rfl
theorem st_con {a b p} : starEach (.Constant a b p :: es) env = (false, eval (.Constant a b p) env) :: starEach es env := rfl
theorem st_att {a b p} : starEach (.Attribute a b p :: es) env = (false, eval (.Attribute a b p) env) :: starEach es env := rfl
theorem st_bin {a o b p} : starEach (.BinOp a o b p :: es) env = (false, eval (.BinOp a o b p) env) :: starEach es env := rfl
theorem st_call {a b c p} : starEach (.Call a b c p :: es) env = (false, eval (.Call a b c p) env) :: starEach es env := rfl
theorem st_lc {a b c p} : starEach (.ListComp a b c p :: es) env = (false, eval (.ListComp a b c p) env) :: starEach es env := rfl
theorem pl_nil {pos : Pos} : (backTo pos (starEach [] env)).any (·.1) = false := rfl
theorem pl_cons {pos : Pos} {e : Expr} (h : starEach (e :: es) env = (false, eval e env) :: starEach es env) (h2 : (backTo pos (starEach es env)).any (·.1) = false) : (backTo pos (starEach (e :: es) env)).any (·.1) = false := by
  rw [h]
  show (false || (backTo pos (starEach es env)).any (·.1)) = false
  rw [h2]
  rfl
end
end L2

set_option Elab.async false
set_option linter.all false
set_option maxRecDepth 100000
set_option maxHeartbeats 4000000
namespace Pip
open PySem PySem.Spec PyProof.Rows L2
/-! ### the text by places -/
def top (i : Nat) : Stmt := PySem.Challenge.pw_keyspipes_s02_why.main.body.getD i (.Pass ⟨0, 0, 0, 0⟩)
abbrev tSInit : Stmt := inClass (top 17) 0
abbrev tCInit : Stmt := inClass (top 18) 0
abbrev tReadS : Stmt := top 19
abbrev tReadC : Stmt := top 20
abbrev tIsS : Stmt := top 21
abbrev tIsC : Stmt := top 22
abbrev tAreR : Stmt := top 23
abbrev tAreS : Stmt := top 24
abbrev tAreC : Stmt := top 25
abbrev tIsP : Stmt := top 26
abbrev tOnly : Stmt := top 27
abbrev tKeys : Stmt := top 28
abbrev tRef : Stmt := top 29
abbrev tHas : Stmt := top 30
abbrev tFirst : Stmt := top 31
abbrev tShift : Stmt := top 32
abbrev tHeld : Stmt := top 33
abbrev tSound : Stmt := top 34
abbrev tHasP : Stmt := top 35
abbrev tKeyP : Stmt := top 36
abbrev tSpBy : Stmt := top 37
abbrev tSoBy : Stmt := top 38
abbrev tLeastS : Stmt := top 39
abbrev tLeastC : Stmt := top 40
abbrev tCause : Stmt := top 41
abbrev tWhy : Stmt := top 42
/-! ### objects -/
def sf (s : S5) : List (Str × V) := [("division", .int s.d), ("rank", .int s.r), ("low", .int s.lo), ("high", .int s.hi), ("shift", .int s.sh)]
def cf (c : C3) : List (Str × V) := [("source", .int c.a), ("target", .int c.b), ("shift", .int c.sh)]
def StopAt (C : Addr) (H : Hp) (a : Addr) (s : S5) : Prop := ∃ dx, H a = some (.ins C dx (sf s))
def CoupAt (C : Addr) (H : Hp) (a : Addr) (c : C3) : Prop := ∃ dx, H a = some (.ins C dx (cf c))
theorem StopAt.same {C : Addr} {H H' : Hp} {a : Addr} {s : S5} (h : StopAt C H a s) (e : Same H H') : StopAt C H' a s := let ⟨dx, h⟩ := h; ⟨dx, e _ _ h⟩
theorem CoupAt.same {C : Addr} {H H' : Hp} {a : Addr} {s : C3} (h : CoupAt C H a s) (e : Same H H') : CoupAt C H' a s := let ⟨dx, h⟩ := h; ⟨dx, e _ _ h⟩
theorem sf_d (s : S5) : (sf s).lookup ("division" : Str) = some (.int s.d) := by rfl
theorem sf_r (s : S5) : (sf s).lookup ("rank" : Str) = some (.int s.r) := by rfl
theorem sf_lo (s : S5) : (sf s).lookup ("low" : Str) = some (.int s.lo) := by rfl
theorem sf_hi (s : S5) : (sf s).lookup ("high" : Str) = some (.int s.hi) := by rfl
theorem sf_sh (s : S5) : (sf s).lookup ("shift" : Str) = some (.int s.sh) := by rfl
theorem cf_a (s : C3) : (cf s).lookup ("source" : Str) = some (.int s.a) := by rfl
theorem cf_b (s : C3) : (cf s).lookup ("target" : Str) = some (.int s.b) := by rfl
theorem cf_sh (s : C3) : (cf s).lookup ("shift" : Str) = some (.int s.sh) := by rfl
theorem sf_put (s : S5) : putF "shift" (.int s.sh) (putF "high" (.int s.hi) (putF "low" (.int s.lo) (putF "rank" (.int s.r) (putF "division" (.int s.d) [])))) = sf s := by rfl
theorem cf_put (s : C3) : putF "shift" (.int s.sh) (putF "target" (.int s.b) (putF "source" (.int s.a) [])) = cf s := by rfl
/-- what the text has -/
structure Txt (K : PySem.W.Frag) (mg : Str → Option Value) (CS CC aT : Addr) : Prop where
  clS : Cls K CS
  clC : Cls K CC
  sD : NoAttr K CS "division"
  sR : NoAttr K CS "rank"
  sL : NoAttr K CS "low"
  sH : NoAttr K CS "high"
  sS : NoAttr K CS "shift"
  cA : NoAttr K CC "source"
  cB : NoAttr K CC "target"
  cS : NoAttr K CC "shift"
  mS : mg "Stop" = some (.ref CS)
  mC : mg "Coupler" = some (.ref CC)
  mT : mg "COUPLER_SHIFTS" = some (.ref aT)
  tup : ∀ H, SqT K H aT [.int (-12), .int 0, .int 12]
  noPlan : ∃ t, mg "NO_PLAN" = some (.int (-22) t)
  notThere : ∃ t, mg "NOT_THERE" = some (.int (-71) t)
  divisionsMost : ∃ t, mg "DIVISIONS_MOST" = some (.int 4 t)
  ranksMost : ∃ t, mg "RANKS_MOST" = some (.int 16 t)
  rankPipesMost : ∃ t, mg "RANK_PIPES_MOST" = some (.int 97 t)
  stopsMost : ∃ t, mg "STOPS_MOST" = some (.int 64 t)
  couplersMost : ∃ t, mg "COUPLERS_MOST" = some (.int 32 t)
  keys : ∃ t, mg "KEYS" = some (.int 61 t)
  shiftLeast : ∃ t, mg "STOP_SHIFT_LEAST" = some (.int (-60) t)
  shiftMost : ∃ t, mg "STOP_SHIFT_MOST" = some (.int 96 t)
  five : ∃ t, mg "NUMBERS_OF_A_STOP" = some (.int 5 t)
  three : ∃ t, mg "NUMBERS_OF_A_COUPLER" = some (.int 3 t)
  silent : ∃ t, mg "SILENT" = some (.int (-2) t)
  itself : ∃ t, mg "HELD_THERE_ITSELF" = some (.int 255 t)
  noneFound : ∃ t, mg "NONE_FOUND" = some (.int (-1) t)
  range : mg "range" = none
  len : mg "len" = none
  all : mg "all" = none
  enumerate : mg "enumerate" = none
theorem pe_gi {X : Cx} {x : Str} {i : Int} {pos : Pos} (hg : Gl X x) (hm : ∃ t, X.mg x = some (.int i t)) (hd : (x == ("__debug__" : Str)) = false := by decide) : PE X (.Name x pos) (tC (.int i)) := by
  obtain ⟨t, hm⟩ := hm
  exact pe_glob hg hm ⟨t, rfl⟩ hd
section
variable {P : Program} {w : World} {K : PySem.W.Frag} {mg : Str → Option Value} {base : Heap} {CS CC aT : Addr} {f : Addr} {fd : FuncData}
/-! ### Stop, Coupler -/
def spSInit (C : Addr) : Sp := fun vs H Q _ => ∃ (p dx : Addr) (s : S5), vs = [.ref p, .int s.d, .int s.r, .int s.lo, .int s.hi, .int s.sh] ∧ H p = some (.ins C dx []) ∧ ∀ H' : Hp, StopAt C H' p s → (∀ b o, H b = some o → b ≠ p → H' b = some o) → Q .non H'
def spCInit (C : Addr) : Sp := fun vs H Q _ => ∃ (p dx : Addr) (c : C3), vs = [.ref p, .int c.a, .int c.b, .int c.sh] ∧ H p = some (.ins C dx []) ∧ ∀ H' : Hp, CoupAt C H' p c → (∀ b o, H b = some o → b ≠ p → H' b = some o) → Q .non H'
theorem scSI : FnScope ["self", "division", "rank", "low", "high", "shift"] ["self", "division", "rank", "low", "high", "shift"] (defScope tSInit) := ⟨rfl, rfl, rfl, by decide +kernel, rfl, by decide +kernel, by decide +kernel⟩
theorem ok_sinit (F : Fun K "__init__" "Stop.__init__" tSInit f fd) (T : Txt K mg CS CC aT) : FnOk P w K mg base CX0 1 f fd ["self", "division", "rank", "low", "high", "shift"] (spSInit CS) := by
  refine F.ok scSI (fun vs H Q E h => ?_) (fun cdv A outer s H vs Q E hr h => ?_)
  · obtain ⟨p, dx, s, rfl, _⟩ := h
    rfl
  · obtain ⟨p, dx, s, rfl, hp, k⟩ := h
    refine ⟨_, pss_cons (ps_fld (pv 0) (pv 1) rfl) (pss_cons (ps_fld (pv 0) (pv 2) rfl) (pss_cons (ps_fld (pv 0) (pv 3) rfl) (pss_cons (ps_fld (pv 0) (pv 4) rfl) (pss_one (ps_fld (pv 0) (pv 5) rfl))))), ?_⟩
    refine ⟨_, rfl, _, rfl, p, CS, dx, [], rfl, hp, T.clS, T.sD, (by show 0 < 1000; decide), ?_⟩
    refine ⟨_, rfl, _, rfl, p, CS, dx, _, rfl, upd_same, T.clS, T.sR, (by show 1 < 1000; decide), ?_⟩
    rw [upd_upd]
    refine ⟨_, rfl, _, rfl, p, CS, dx, _, rfl, upd_same, T.clS, T.sL, (by show 2 < 1000; decide), ?_⟩
    rw [upd_upd]
    refine ⟨_, rfl, _, rfl, p, CS, dx, _, rfl, upd_same, T.clS, T.sH, (by show 3 < 1000; decide), ?_⟩
    rw [upd_upd]
    refine ⟨_, rfl, _, rfl, p, CS, dx, _, rfl, upd_same, T.clS, T.sS, (by show 4 < 1000; decide), ?_⟩
    rw [upd_upd]
    exact k _ ⟨dx, Eq.trans upd_same (congrArg (fun q => some (HO.ins CS dx q)) (sf_put s))⟩ fun b o e hb => by rw [upd_ne hb]; exact e
theorem scCI : FnScope ["self", "source", "target", "shift"] ["self", "source", "target", "shift"] (defScope tCInit) := ⟨rfl, rfl, rfl, by decide +kernel, rfl, by decide +kernel, by decide +kernel⟩
theorem ok_cinit (F : Fun K "__init__" "Coupler.__init__" tCInit f fd) (T : Txt K mg CS CC aT) : FnOk P w K mg base CX0 1 f fd ["self", "source", "target", "shift"] (spCInit CC) := by
  refine F.ok scCI (fun vs H Q E h => ?_) (fun cdv A outer s H vs Q E hr h => ?_)
  · obtain ⟨p, dx, s, rfl, _⟩ := h
    rfl
  · obtain ⟨p, dx, s, rfl, hp, k⟩ := h
    refine ⟨_, pss_cons (ps_fld (pv 0) (pv 1) rfl) (pss_cons (ps_fld (pv 0) (pv 2) rfl) (pss_one (ps_fld (pv 0) (pv 3) rfl))), ?_⟩
    refine ⟨_, rfl, _, rfl, p, CC, dx, [], rfl, hp, T.clC, T.cA, (by show 0 < 1000; decide), ?_⟩
    refine ⟨_, rfl, _, rfl, p, CC, dx, _, rfl, upd_same, T.clC, T.cB, (by show 1 < 1000; decide), ?_⟩
    rw [upd_upd]
    refine ⟨_, rfl, _, rfl, p, CC, dx, _, rfl, upd_same, T.clC, T.cS, (by show 2 < 1000; decide), ?_⟩
    rw [upd_upd]
    exact k _ ⟨dx, Eq.trans upd_same (congrArg (fun q => some (HO.ins CC dx q)) (cf_put s))⟩ fun b o e hb => by rw [upd_ne hb]; exact e
/-! ### has_only, has, first_bits, shifted -/
def spOnly : Sp := fun vs H Q _ => ∃ (b c : Nat), vs = [.int (b : Nat), .int (c : Nat)] ∧ Q (.bl (hasOnly b c)) H
theorem shr_zero (b c : Nat) : decide (V.int ((b >>> c : Nat) : Int) = V.int 0) = hasOnly b c := by
  unfold hasOnly
  rw [Bool.eq_iff_iff]
  simp only [decide_eq_true_eq, V.int.injEq]
  rw [Nat.shiftRight_eq_div_pow]
  have h := Nat.div_eq_zero_iff (a := b) (b := 2 ^ c)
  have h2 : 0 < 2 ^ c := Nat.two_pow_pos c
  constructor
  · intro e
    have e : b / 2 ^ c = 0 := by omega
    have z := h.mp e
    omega
  · intro e
    have e : b / 2 ^ c = 0 := h.mpr (by omega)
    omega
theorem scOnly : FnScope ["bits", "count"] ["bits", "count"] (defScope tOnly) := ⟨rfl, rfl, rfl, by decide +kernel, rfl, by decide +kernel, by decide +kernel⟩
theorem ok_only (F : Fun K "has_only" "has_only" tOnly f fd) : FnOk P w K mg base CX0 1 f fd ["bits", "count"] spOnly := by
  refine F.ok scOnly (fun vs H Q E h => ?_) (fun cdv A outer s H vs Q E hr h => ?_)
  · obtain ⟨b, c, rfl, _⟩ := h
    rfl
  · obtain ⟨b, c, rfl, k⟩ := h
    refine ⟨_, pss_one (ps_ret (pe_cmpR op_eq (pe_op op_shr (pv 0) (pv 1)) pe_int (nomark _))), ?_⟩
    refine ⟨_, rfl, _, rfl, _, _, rfl, rfl, Int.natCast_nonneg c, rfl, ?_⟩
    show Q (.bl (decide (V.int ((b : Int) / 2 ^ ((c : Int)).toNat) = V.int 0))) H
    rw [show ((c : Int)).toNat = c by omega, shr_nat, shr_zero]
    exact k
def spHas : Sp := fun vs H Q _ => ∃ (b n : Nat), vs = [.int (b : Nat), .int (n : Nat)] ∧ Q (.bl (b.testBit n)) H
theorem and_one_eq (b n : Nat) : decide (V.int (((b >>> n) &&& 1 : Nat) : Int) = V.int 1) = b.testBit n := by
  rw [and_one, Nat.testBit_shiftRight, Nat.add_zero]
  cases b.testBit n <;> rfl
theorem scHas : FnScope ["bits", "number"] ["bits", "number"] (defScope tHas) := ⟨rfl, rfl, rfl, by decide +kernel, rfl, by decide +kernel, by decide +kernel⟩
theorem ok_has (F : Fun K "has" "has" tHas f fd) : FnOk P w K mg base CX0 1 f fd ["bits", "number"] spHas := by
  refine F.ok scHas (fun vs H Q E h => ?_) (fun cdv A outer s H vs Q E hr h => ?_)
  · obtain ⟨b, c, rfl, _⟩ := h
    rfl
  · obtain ⟨b, c, rfl, k⟩ := h
    refine ⟨_, pss_one (ps_ret (pe_cmpR op_eq (pe_op op_and (pe_op op_shr (pv 0) (pv 1)) pe_int) pe_int (nomark _))), ?_⟩
    refine ⟨_, rfl, _, rfl, _, _, rfl, rfl, Int.natCast_nonneg c, _, _, rfl, rfl, rfl, ?_⟩
    show Q (.bl (decide (V.int (Builtin.bitAnd ((b : Int) / 2 ^ ((c : Int)).toNat) ((1 : Nat) : Int)) = V.int 1))) H
    rw [show ((c : Int)).toNat = c by omega, shr_nat, and_nat, and_one_eq]
    exact k
def spFirst : Sp := fun vs H Q _ => ∃ (n : Nat), vs = [.int (n : Nat)] ∧ n ≤ 1000 ∧ Q (.int (firstN n : Nat)) H
theorem first_int (n : Nat) : (1 : Int) * 2 ^ n - 1 = ((firstN n : Nat) : Int) := by
  unfold firstN
  have h2 : 0 < 2 ^ n := Nat.two_pow_pos n
  have e : (1 : Int) * 2 ^ n = ((2 ^ n : Nat) : Int) := by rw [Int.one_mul, Int.natCast_pow]; rfl
  rw [e]
  omega
theorem scFirst : FnScope ["count"] ["count"] (defScope tFirst) := ⟨rfl, rfl, rfl, by decide +kernel, rfl, by decide +kernel, by decide +kernel⟩
theorem ok_first (F : Fun K "first_bits" "first_bits" tFirst f fd) : FnOk P w K mg base CX0 1 f fd ["count"] spFirst := by
  refine F.ok scFirst (fun vs H Q E h => ?_) (fun cdv A outer s H vs Q E hr h => ?_)
  · obtain ⟨n, rfl, _⟩ := h
    rfl
  · obtain ⟨n, rfl, hn, k⟩ := h
    refine ⟨_, pss_one (ps_ret (pe_op op_sub (pe_op op_shl pe_int (pv 0)) pe_int)), ?_⟩
    refine ⟨_, rfl, _, _, rfl, rfl, ⟨Int.natCast_nonneg n, (by omega), (by decide)⟩, _, _, rfl, rfl, ?_⟩
    show Q (.int ((1 : Int) * 2 ^ ((n : Int)).toNat - 1)) H
    rw [show ((n : Int)).toNat = n by omega, first_int]
    exact k
def spShift : Sp := fun vs H Q _ => ∃ (b : Nat) (s : Int), vs = [.int (b : Nat), .int s] ∧ b < 2 ^ 64 ∧ s ≤ 1000 ∧ Q (.int (shiftN b s : Nat)) H
theorem scShift : FnScope ["bits", "shift"] ["bits", "shift"] (defScope tShift) := ⟨rfl, rfl, rfl, by decide +kernel, rfl, by decide +kernel, by decide +kernel⟩
theorem ok_shift (F : Fun K "shifted" "shifted" tShift f fd) : FnOk P w K mg base CX0 1 f fd ["bits", "shift"] spShift := by
  refine F.ok scShift (fun vs H Q E h => ?_) (fun cdv A outer s H vs Q E hr h => ?_)
  · obtain ⟨b, c, rfl, _⟩ := h
    rfl
  · obtain ⟨b, c, rfl, hb, hc, k⟩ := h
    refine ⟨_, pss_cons (ps_if (pt_cmpR op_lt (pv 1) pe_int (nomark _)) (pss_one (ps_ret (pe_op op_shr (pv 0) (pe_un un_neg (pv 1))))) pss_nil) (pss_one (ps_ret (pe_op op_shl (pv 0) (pv 1)))), ?_⟩
    refine ⟨_, rfl, _, _, rfl, rfl, _, rfl, ?_⟩
    unfold shiftN at k
    refine ite2 (fun h => ?_) (fun h => ?_)
    · have h := of_decide_eq_true h
      rw [if_pos h] at k
      refine ⟨_, rfl, _, rfl, _, rfl, _, _, rfl, rfl, (by show (0 : Int) ≤ -c; omega), ?_⟩
      show Q (.int ((b : Int) / 2 ^ (-c).toNat)) H
      rw [shr_nat]
      exact k
    · have h : ¬ c < 0 := fun z => h (decide_eq_true z)
      rw [if_neg h] at k
      refine ⟨_, rfl, _, rfl, _, _, rfl, rfl, ⟨by omega, by omega, by omega⟩, ?_⟩
      show Q (.int ((b : Int) * 2 ^ c.toNat)) H
      rw [shl_nat]
      exact k
end
end Pip

set_option Elab.async false
set_option linter.all false
set_option maxRecDepth 100000
set_option maxHeartbeats 4000000
namespace Pip
open PySem PySem.Spec PyProof.Rows L2
section
variable {P : Program} {w : World} {K : PySem.W.Frag} {mg : Str → Option Value} {base : Heap} {CS CC aT : Addr} {f : Addr} {fd : FuncData}
theorem StopOk.is {s : S5} {dv rk : Int} (h : StopOk s dv rk) : isStop s dv rk = true := by
  obtain ⟨a1, a2, a3, a4, a5, a6, a7, a8, a9⟩ := h
  unfold isStop
  simp only [Bool.and_eq_true, decide_eq_true_eq]
  exact ⟨⟨a1, a2⟩, ⟨a3, a4⟩, ⟨a5, a6, a7⟩, a8, a9⟩
theorem ngt {b : Bool} (h : ¬ (!b) = true) : b = true := by cases b <;> simp_all
theorem ngf {b : Bool} (h : (!b) = true) : ¬ b = true := by cases b <;> simp_all
/-! ### is_stop -/
def spIsS (CS : Addr) : Sp := fun vs H Q _ => ∃ (a : Addr) (s : S5) (dv rk : Int), vs = [.ref a, .int dv, .int rk] ∧ StopAt CS H a s ∧ Q (.bl (isStop s dv rk)) H
theorem scIsS : FnScope ["stop", "divisions", "ranks"] ["stop", "divisions", "ranks"] (defScope tIsS) := ⟨rfl, rfl, rfl, by decide +kernel, rfl, by decide +kernel, by decide +kernel⟩
theorem ok_isS (F : Fun K "is_stop" "is_stop" tIsS f fd) (T : Txt K mg CS CC aT) : FnOk P w K mg base CX0 1 f fd ["stop", "divisions", "ranks"] (spIsS CS) := by
  refine F.ok scIsS (fun vs H Q E h => ?_) (fun cdv A outer s₀ H vs Q E hr h => ?_)
  · obtain ⟨a, s, dv, rk, rfl, _⟩ := h
    rfl
  · obtain ⟨a, s, dv, rk, rfl, ⟨dx, hp⟩, k⟩ := h
    have kf : ¬ isStop s dv rk = true → Q (.bl false) H := fun e => by rw [Bool.not_eq_true] at e; rw [e] at k; exact k
    refine ⟨_, pss_cons (ps_if (pt_not (pt_chain op_le op_lt pe_int (pe_fld (pv 0) rfl) (pv 1))) (pss_one (ps_ret pe_bl)) pss_nil)
      (pss_cons (ps_if (pt_not (pt_chain op_le op_lt pe_int (pe_fld (pv 0) rfl) (pv 2))) (pss_one (ps_ret pe_bl)) pss_nil)
      (pss_cons (ps_if (pt_not (pt_chain3 op_le op_le op_lt pe_int (pe_fld (pv 0) rfl) (pe_fld (pv 0) rfl) (pe_gi rfl T.keys))) (pss_one (ps_ret pe_bl)) pss_nil)
      (pss_one (ps_ret (pe_chain op_le op_le (pe_gi rfl T.shiftLeast) (pe_fld (pv 0) rfl) (pe_gi rfl T.shiftMost)))))), ?_⟩
    refine ⟨_, rfl, a, CS, dx, _, _, rfl, hp, T.clS, T.sD, sf_d s, _, _, rfl, rfl, _, rfl, ?_⟩
    refine ite2 (fun e1 => ?_) (fun e1 => ⟨_, rfl, iteT (kf fun z => e1 (decide_eq_true (StopOk.of z).d0))⟩)
    refine ⟨_, rfl, _, _, rfl, rfl, _, rfl, ?_⟩
    refine ite2 (fun e2 => kf fun z => ngf e2 (decide_eq_true (StopOk.of z).d1)) (fun e2 => ?_)
    refine ⟨_, rfl, a, CS, dx, _, _, rfl, hp, T.clS, T.sR, sf_r s, _, _, rfl, rfl, _, rfl, ?_⟩
    refine ite2 (fun e3 => ?_) (fun e3 => ⟨_, rfl, iteT (kf fun z => e3 (decide_eq_true (StopOk.of z).r0))⟩)
    refine ⟨_, rfl, _, _, rfl, rfl, _, rfl, ?_⟩
    refine ite2 (fun e4 => kf fun z => ngf e4 (decide_eq_true (StopOk.of z).r1)) (fun e4 => ?_)
    refine ⟨_, rfl, a, CS, dx, _, _, rfl, hp, T.clS, T.sL, sf_lo s, _, _, rfl, rfl, _, rfl, ?_⟩
    refine ite2 (fun e5 => ?_) (fun e5 => ⟨_, rfl, iteT (kf fun z => e5 (decide_eq_true (StopOk.of z).l0))⟩)
    refine ⟨_, rfl, a, CS, dx, _, _, rfl, hp, T.clS, T.sH, sf_hi s, _, _, rfl, rfl, _, rfl, ?_⟩
    refine ite2 (fun e6 => ?_) (fun e6 => ⟨_, rfl, iteT (kf fun z => e6 (decide_eq_true (StopOk.of z).lh))⟩)
    refine ⟨_, _, rfl, rfl, _, rfl, ?_⟩
    refine ite2 (fun e7 => kf fun z => ngf e7 (decide_eq_true (StopOk.of z).h1)) (fun e7 => ?_)
    refine ⟨_, rfl, a, CS, dx, _, _, rfl, hp, T.clS, T.sS, sf_sh s, _, _, rfl, rfl, _, rfl, ?_⟩
    refine ite2 (fun e8 => ?_) (fun e8 => kf fun z => e8 (decide_eq_true (StopOk.of z).s0))
    refine ⟨_, _, rfl, rfl, ?_⟩
    show Q (.bl (decide (s.sh ≤ 96))) H
    have e2 := ngt e2
    have e4 := ngt e4
    have e7 := ngt e7
    have g : isStop s dv rk = decide (s.sh ≤ 96) := by
      unfold isStop
      rw [e1, e2, e3, e4, e5, e6, e7, e8]
      rfl
    rw [← g]
    exact k
/-! ### is_coupler -/
def spIsC (CC : Addr) : Sp := fun vs H Q _ => ∃ (a : Addr) (c : C3) (dv : Int), vs = [.ref a, .int dv] ∧ CoupAt CC H a c ∧ Q (.bl (isCoup c dv)) H
theorem in_shifts (z : Int) : inV (.int z) [.int (-12), .int 0, .int 12] = (decide (z = -12) || (decide (z = 0) || decide (z = 12))) := by
  rw [Bool.eq_iff_iff]
  simp [inV, eqV]
  omega
theorem scIsC : FnScope ["coupler", "divisions"] ["coupler", "divisions"] (defScope tIsC) := ⟨rfl, rfl, rfl, by decide +kernel, rfl, by decide +kernel, by decide +kernel⟩
theorem ok_isC (F : Fun K "is_coupler" "is_coupler" tIsC f fd) (T : Txt K mg CS CC aT) : FnOk P w K mg base CX0 1 f fd ["coupler", "divisions"] (spIsC CC) := by
  refine F.ok scIsC (fun vs H Q E h => ?_) (fun cdv A outer s₀ H vs Q E hr h => ?_)
  · obtain ⟨a, s, dv, rfl, _⟩ := h
    rfl
  · obtain ⟨a, c, dv, rfl, ⟨dx, hp⟩, k⟩ := h
    have kf : isCoup c dv = false → Q (.bl false) H := fun e => by rw [e] at k; exact k
    refine ⟨_, pss_cons (ps_if (pt_not (pt_chain op_le op_lt pe_int (pe_fld (pv 0) rfl) (pv 1))) (pss_one (ps_ret pe_bl)) pss_nil)
      (pss_cons (ps_if (pt_not (pt_chain op_le op_lt pe_int (pe_fld (pv 0) rfl) (pv 1))) (pss_one (ps_ret pe_bl)) pss_nil)
      (pss_cons (ps_if (pw_and (pt_cmpR op_eq (pe_fld (pv 0) rfl) (pe_fld (pv 0) rfl) (nomark _)) (pw_and1 (pt_cmpR op_eq (pe_fld (pv 0) rfl) pe_int (nomark _)))).pt (pss_one (ps_ret pe_bl)) pss_nil)
      (pss_one (ps_ret (pe_cmpR op_in_seq (pe_fld (pv 0) rfl) (pe_glob (v := .ref aT) rfl T.mT rfl) (by with_unfolding_all rfl)))))), ?_⟩
    refine ⟨_, rfl, a, CC, dx, _, _, rfl, hp, T.clC, T.cA, cf_a c, _, _, rfl, rfl, _, rfl, ?_⟩
    refine ite2 (fun e1 => ?_) (fun e1 => ⟨_, rfl, iteT (kf (by rw [Bool.not_eq_true] at e1; unfold isCoup; rw [e1]; rfl))⟩)
    refine ⟨_, rfl, _, _, rfl, rfl, _, rfl, ?_⟩
    refine ite2 (fun e2 => kf (by have e2 := ngf e2; rw [Bool.not_eq_true] at e2; unfold isCoup; rw [e1, e2]; rfl)) (fun e2 => ?_)
    have e2 := ngt e2
    refine ⟨_, rfl, a, CC, dx, _, _, rfl, hp, T.clC, T.cB, cf_b c, _, _, rfl, rfl, _, rfl, ?_⟩
    refine ite2 (fun e3 => ?_) (fun e3 => ⟨_, rfl, iteT (kf (by rw [Bool.not_eq_true] at e3; unfold isCoup; rw [e1, e2, e3]; rfl))⟩)
    refine ⟨_, rfl, _, _, rfl, rfl, _, rfl, ?_⟩
    refine ite2 (fun e4 => kf (by have e4 := ngf e4; rw [Bool.not_eq_true] at e4; unfold isCoup; rw [e1, e2, e3, e4]; rfl)) (fun e4 => ?_)
    have e4 := ngt e4
    have g0 : isCoup c dv = (!(decide (c.a = c.b) && decide (c.sh = 0)) && (decide (c.sh = -12) || (decide (c.sh = 0) || decide (c.sh = 12)))) := by
      unfold isCoup
      rw [e1, e2, e3, e4]
      rfl
    -- the rest: both ways come to the last row but one
    have last : (decide (c.a = c.b) && decide (c.sh = 0)) = false → Q (.bl (inV (.int c.sh) [.int (-12), .int 0, .int 12])) H := fun e => by
      rw [in_shifts]
      rw [g0, e] at k
      exact k
    refine ⟨_, rfl, a, CC, dx, _, _, rfl, hp, T.clC, T.cA, cf_a c, _, rfl, a, CC, dx, _, _, rfl, hp, T.clC, T.cB, cf_b c, rfl, _, rfl, ?_⟩
    refine ite2 (fun e5 => ?_) (fun e5 => iteF ?_)
    · have e5 : decide (c.a = c.b) = true := by
        have z : V.int c.a = V.int c.b := of_decide_eq_true e5
        injection z with z
        exact decide_eq_true z
      refine ⟨_, rfl, a, CC, dx, _, _, rfl, hp, T.clC, T.cS, cf_sh c, rfl, _, rfl, ?_⟩
      refine ite2 (fun e6 => kf ?_) (fun e6 => ?_)
      · have e6 : decide (c.sh = 0) = true := by
          have z : V.int c.sh = V.int 0 := of_decide_eq_true e6
          injection z with z
          exact decide_eq_true z
        rw [g0, e5, e6]
        rfl
      · refine ⟨_, rfl, a, CC, dx, _, _, rfl, hp, T.clC, T.cS, cf_sh c, aT, _, rfl, .inr (T.tup H), rfl, rfl, last ?_⟩
        rw [e5, decide_eq_false (fun z => e6 (decide_eq_true (by rw [z])))]
        rfl
    · refine ⟨_, rfl, a, CC, dx, _, _, rfl, hp, T.clC, T.cS, cf_sh c, aT, _, rfl, .inr (T.tup H), rfl, rfl, last ?_⟩
      rw [decide_eq_false (fun z => e5 (decide_eq_true (by rw [z])))]
      rfl
end
end Pip

set_option Elab.async false
set_option linter.all false
set_option maxRecDepth 100000
set_option maxHeartbeats 4000000
namespace Pip
open PySem PySem.Spec PyProof.Rows L2
/-! ### lists of objects -/
/-- the instances stay as they are -/
def Keep (H H' : Hp) : Prop := ∀ b C dx fs, H b = some (.ins C dx fs) → H' b = some (.ins C dx fs)
theorem Keep.of {H H' : Hp} (e : Same H H') : Keep H H' := fun b C dx fs h => e _ _ h
theorem Keep.trans {H H1 H2 : Hp} (a : Keep H H1) (b : Keep H1 H2) : Keep H H2 := fun c C dx fs h => b c C dx fs (a c C dx fs h)
theorem Keep.put {H : Hp} {D : Addr} {xs : List V} {o : HO} (h : H D = some (.lst xs)) : Keep H (upd H D o) := fun b C dx fs e => by
  rw [upd_ne (ne_of e h (by intro z; cases z))]
  exact e
theorem StopAt.keep {C : Addr} {H H' : Hp} {a : Addr} {s : S5} (h : StopAt C H a s) (e : Keep H H') : StopAt C H' a s := let ⟨dx, h⟩ := h; ⟨dx, e _ _ _ _ h⟩
theorem CoupAt.keep {C : Addr} {H H' : Hp} {a : Addr} {s : C3} (h : CoupAt C H a s) (e : Keep H H') : CoupAt C H' a s := let ⟨dx, h⟩ := h; ⟨dx, e _ _ _ _ h⟩
structure ObjsAt {α : Type} (R : Addr → α → Prop) (as : List Addr) (xs : List α) : Prop where
  len : as.length = xs.length
  at_ : ∀ (i : Nat) (a : Addr), as[i]? = some a → ∃ x, xs[i]? = some x ∧ R a x
theorem ObjsAt.nil {α : Type} {R : Addr → α → Prop} : ObjsAt R [] [] := ⟨rfl, fun i a h => by simp at h⟩
theorem ObjsAt.mono {α : Type} {R R' : Addr → α → Prop} {as : List Addr} {xs : List α} (h : ObjsAt R as xs) (m : ∀ a x, R a x → R' a x) : ObjsAt R' as xs := ⟨h.len, fun i a e => let ⟨x, e1, e2⟩ := h.at_ i a e; ⟨x, e1, m a x e2⟩⟩
theorem ObjsAt.snoc {α : Type} {R : Addr → α → Prop} {as : List Addr} {xs : List α} {a : Addr} {x : α} (h : ObjsAt R as xs) (r : R a x) : ObjsAt R (as ++ [a]) (xs ++ [x]) := by
  refine ⟨by rw [List.length_append, List.length_append, h.len]; rfl, fun i b e => ?_⟩
  have hl := h.len
  by_cases hi : i < as.length
  · rw [List.getElem?_append_left hi] at e
    obtain ⟨y, e1, e2⟩ := h.at_ i b e
    exact ⟨y, by rw [List.getElem?_append_left (by omega)]; exact e1, e2⟩
  · rw [List.getElem?_append_right (by omega)] at e
    have hz : i - as.length = 0 := by
      rcases Nat.eq_zero_or_pos (i - as.length) with z | z
      · exact z
      · rw [List.getElem?_eq_none (by simp; omega)] at e; cases e
    rw [hz] at e
    cases e
    refine ⟨x, ?_, r⟩
    rw [List.getElem?_append_right (by omega), show i - xs.length = 0 by omega]
    rfl
theorem ObjsAt.get {α : Type} {R : Addr → α → Prop} {as : List Addr} {xs : List α} (h : ObjsAt R as xs) {i : Nat} {x : α} (e : xs[i]? = some x) : ∃ a, as[i]? = some a ∧ R a x := by
  have hi : i < as.length := by rw [h.len]; exact (List.getElem?_eq_some_iff.mp e).1
  obtain ⟨y, e1, e2⟩ := h.at_ i as[i] (List.getElem?_eq_getElem hi)
  rw [e] at e1
  cases e1
  exact ⟨_, List.getElem?_eq_getElem hi, e2⟩
theorem take_snoc {α : Type} : ∀ {l : List α} {i : Nat} {x : α}, l[i]? = some x → l.take (i + 1) = l.take i ++ [x]
  | [], i, x, h => by simp at h
  | a :: l, 0, x, h => by
    have e : a = x := Option.some.inj h
    subst e
    rfl
  | a :: l, i + 1, x, h => by
    have ih := take_snoc (l := l) (i := i) (x := x) h
    show a :: l.take (i + 1) = a :: l.take i ++ [x]
    rw [ih]
    rfl
theorem map_get {α β : Type} {f : α → β} {l : List α} {i : Nat} {y : β} (h : (l.map f)[i]? = some y) : ∃ x, l[i]? = some x ∧ y = f x := by
  rw [List.getElem?_map] at h
  cases e : l[i]? with
  | none => rw [e] at h; cases h
  | some x => rw [e] at h; exact ⟨x, rfl, (Option.some.inj h).symm⟩
theorem get_map {α β : Type} {f : α → β} {l : List α} {i : Nat} {x : α} (h : l[i]? = some x) : (l.map f)[i]? = some (f x) := by
  rw [List.getElem?_map, h]
  rfl
theorem thousand : (1000 : Nat) < sizeLine := by decide
section
variable {P : Program} {w : World} {K : PySem.W.Frag} {mg : Str → Option Value} {base : Heap} {CS CC aT : Addr} {f : Addr} {fd : FuncData}
/-! ### are_ranks -/
def spAreR (K : PySem.W.Frag) : Sp := fun vs H Q _ => ∃ (a : Addr) (rp : List Int), vs = [.ref a] ∧ SqL K H a (rp.map V.int) ∧ rp.length ≤ 1000 ∧ ∀ H', Same H H' → Q (.bl (areRanks rp)) H'
theorem scAreR : FnScope ["rank_pipes", "count"] ["rank_pipes"] (defScope tAreR) := ⟨rfl, rfl, rfl, by decide +kernel, rfl, by decide +kernel, by decide +kernel⟩
theorem all_id {α : Type} (p : α → Bool) (l : List α) : (l.map p).all id = l.all p := by
  rw [List.all_map]
  rfl
theorem ok_areR (F : Fun K "are_ranks" "are_ranks" tAreR f fd) (T : Txt K mg CS CC aT) : FnOk P w K mg base CX0 1 f fd ["rank_pipes"] (spAreR K) := by
  refine F.ok scAreR (fun vs H Q E h => ?_) (fun cdv A outer s H vs Q E hr h => ?_)
  · obtain ⟨a, rp, rfl, _⟩ := h
    rfl
  · obtain ⟨a, rp, rfl, hS, hl, k⟩ := h
    have kf : areRanks rp = false → Q (.bl false) H := fun e => by have k := k H (Same.refl H); rw [e] at k; exact k
    refine ⟨_, pss_cons (ps_if (pt_not (pt_chain op_le op_le pe_int (pe_callB call_len_seq (by rfl) T.len PySem.boot_len (pa_cons (pv 0) pa_nil)) (pe_gi rfl T.ranksMost))) (pss_one (ps_ret pe_bl)) pss_nil)
      (pss_one (ps_ret (pe_callB (cr_all rfl) (by rfl) T.all PyProof.Rows.boot_all (pa_cons (pe_lc (own := [("count", 1)]) rfl scAreR.nd (pi_list (pv 0))
      (blkOk_by rfl) (fun s H C cl fp => pg_name (i := 1) scAreR.nd rfl (Or.inl rfl)) (fun s H C cl fp => pts_nil)
      (fun s H C cl fp => pe_chain op_le op_le pe_int (pv 1) (pe_gi rfl T.rankPipesMost))) pa_nil st_lc)))), ?_⟩
    refine ⟨_, rfl, a, _, rfl, .inl hS, _, _, rfl, rfl, _, rfl, ?_⟩
    rw [List.length_map]
    refine ite2 (fun e1 => ?_) (fun e1 => ⟨_, rfl, iteT (kf (by rw [Bool.not_eq_true] at e1; unfold areRanks; rw [e1]; rfl))⟩)
    refine ⟨_, _, rfl, rfl, _, rfl, ?_⟩
    refine ite2 (fun e2 => kf (by have e2 := ngf e2; rw [Bool.not_eq_true] at e2; unfold areRanks; rw [e1, e2]; rfl)) (fun e2 => ?_)
    have e2 := ngt e2
    refine ⟨_, rfl, a, rfl, ⟨_, hS⟩, fun D hD => ?_⟩
    refine lc_list (K := K) (a := a) (xs := rp.map V.int) (fun i H' => H' D = some (.lst (((rp.take i).map fun c => decide (1 ≤ c) && decide (c ≤ 97)).map V.bl)) ∧ Same H H') ⟨upd_same, Same.new hD⟩ (fun i H' _ ⟨_, h2⟩ => h2.seq hS) ?_ ?_
    · rintro i x H' hi ⟨h1, h2⟩
      obtain ⟨z, hz, rfl⟩ := map_get hi
      have hlt : i < rp.length := (List.getElem?_eq_some_iff.mp hz).1
      refine ⟨rfl, ?_⟩
      have fin : ∀ y, y = V.bl (decide (1 ≤ z) && decide (z ≤ 97)) → ∃ acc, H' D = some (.lst acc) ∧ acc.length < sizeLine ∧ ((upd H' D (.lst (acc ++ [y]))) D = some (.lst (((rp.take (i + 1)).map fun c => decide (1 ≤ c) && decide (c ≤ 97)).map V.bl)) ∧ Same H (upd H' D (.lst (acc ++ [y])))) := by
        rintro y rfl
        refine ⟨_, h1, ?_, ?_, h2.put hD⟩
        · simp only [List.length_map, List.length_take]
          exact Nat.lt_of_le_of_lt (by omega : min i rp.length ≤ 1000) thousand
        · rw [upd_same, take_snoc hz, List.map_append, List.map_append]
          rfl
      refine ⟨_, rfl, _, _, rfl, rfl, _, rfl, ?_⟩
      refine ite2 (fun e3 => ?_) (fun e3 => fin _ ?_)
      · refine ⟨_, _, rfl, rfl, fin _ ?_⟩
        rw [e3]
        rfl
      · rw [Bool.not_eq_true] at e3
        rw [e3]
        rfl
    · rintro H' ⟨h1, h2⟩
      rw [List.length_map, List.take_length] at h1
      refine ⟨D, _, rfl, SqL.of h1, ?_⟩
      rw [all_id]
      have k := k H' h2
      unfold areRanks at k
      rw [e1, e2] at k
      exact k
end
end Pip

set_option Elab.async false
set_option linter.all false
set_option maxRecDepth 100000
set_option maxHeartbeats 4000000
namespace Pip
open PySem PySem.Spec PyProof.Rows L2
theorem fits {i : Int} (h : -100000 ≤ i ∧ i ≤ 100000) : Builtin.Range.rangeFitsLong i = true := by
  unfold Builtin.Range.rangeFitsLong
  simp only [Bool.and_eq_true, decide_eq_true_eq]
  omega
theorem small_pos {n c : Int} (h : 0 ≤ n ∧ n ≤ 1000) (hc : 0 < c ∧ c ≤ 10) (hr : 0 ≤ Builtin.Range.rangeSize 0 n c ∧ Builtin.Range.rangeSize 0 n c ≤ 1000) : Builtin.Range.small 0 n c = true := by
  unfold Builtin.Range.small
  rw [if_pos hc.1, fits (by omega), fits (by omega), fits (by omega), fits (by omega), fits (by omega), Bool.or_true]
  rfl
theorem rgc5 {n : Nat} (h : n % 5 = 0) (hl : n ≤ 1000) : RgC 0 (n : Int) 5 (n / 5) := by
  have e : Builtin.Range.rangeSize 0 (n : Int) 5 = ((n / 5 : Nat) : Int) := by
    unfold Builtin.Range.rangeSize
    rw [if_pos (by decide)]
    split <;> omega
  refine ⟨by decide, by decide, ?_, e⟩
  exact small_pos (by omega) (by omega) (by rw [e]; omega)
theorem rgc3 {n : Nat} (h : n % 3 = 0) (hl : n ≤ 1000) : RgC 0 (n : Int) 3 (n / 3) := by
  have e : Builtin.Range.rangeSize 0 (n : Int) 3 = ((n / 3 : Nat) : Int) := by
    unfold Builtin.Range.rangeSize
    rw [if_pos (by decide)]
    split <;> omega
  refine ⟨by decide, by decide, ?_, e⟩
  exact small_pos (by omega) (by omega) (by rw [e]; omega)
section
variable {P : Program} {w : World} {K : PySem.W.Frag} {mg : Str → Option Value} {base : Heap} {CS CC aT : Addr} {f fI : Addr} {fd fdI : FuncData}
/-! ### read_stops -/
abbrev psS : List Str := ["self", "division", "rank", "low", "high", "shift"]
def spReadS (K : PySem.W.Frag) (CS : Addr) : Sp := fun vs H Q _ => ∃ (a : Addr) (ns : List Int), vs = [.ref a] ∧ SqL K H a (ns.map V.int) ∧ ns.length ≤ 1000 ∧ ns.length % 5 = 0 ∧
  ∀ H' l as, Same H H' → H' l = some (.lst (as.map V.ref)) → ObjsAt (StopAt CS H') as (readS ns) → Q (.ref l) H'
theorem scReadS : FnScope ["numbers", "k"] ["numbers"] (defScope tReadS) := ⟨rfl, rfl, rfl, by decide +kernel, rfl, by decide +kernel, by decide +kernel⟩
theorem ok_readS (F : Fun K "read_stops" "read_stops" tReadS f fd) (T : Txt K mg CS CC aT) (M : Mk K CS fI) (G : FnOk P w K mg base CX0 1 fI fdI psS (spSInit CS)) (b : Binds K fdI psS []) :
    FnOk P w K mg base CX0 3 f fd ["numbers"] (spReadS K CS) := by
  refine F.ok scReadS (fun vs H Q E h => ?_) (fun cdv A outer s H vs Q E hr h => ?_)
  · obtain ⟨a, ns, rfl, _⟩ := h
    rfl
  · obtain ⟨a, ns, rfl, hS, hl, h5, k⟩ := h
    refine ⟨_, pss_one (ps_ret (pe_lc (own := [("k", 1)]) rfl scReadS.nd
      (pi_range3 rfl T.range (pa_cons pe_int (pa_cons (pe_callB call_len_seq (by rfl) T.len PySem.boot_len (pa_cons (pv 0) pa_nil)) (pa_cons (pe_gi rfl T.five) pa_nil st_name) st_call) st_con) st_con (pl_cons st_call (pl_cons st_name pl_nil)))
      (blkOk_by rfl) (fun s H C cl fp => pg_name (i := 1) scReadS.nd rfl (Or.inl rfl)) (fun s H C cl fp => pts_nil)
      (fun s H C cl fp => pe_make M G hr rfl T.mS b .nil pass0
        (pa_cons (pe_ix (r := rIxL K) ix_list (pv 0) (pv 1) (fun _ _ => rfl)) (pa_cons (pe_ix (r := rIxL K) ix_list (pv 0) (pe_op op_add (pv 1) pe_int) (fun _ _ => rfl)) (pa_cons (pe_ix (r := rIxL K) ix_list (pv 0) (pe_op op_add (pv 1) pe_int) (fun _ _ => rfl))
        (pa_cons (pe_ix (r := rIxL K) ix_list (pv 0) (pe_op op_add (pv 1) pe_int) (fun _ _ => rfl)) (pa_cons (pe_ix (r := rIxL K) ix_list (pv 0) (pe_op op_add (pv 1) pe_int) (fun _ _ => rfl)) pa_nil st_sub) st_sub) st_sub) st_sub) st_sub)
        (by decide) st_sub (pl_cons st_sub (pl_cons st_sub (pl_cons st_sub (pl_cons st_sub pl_nil))))))), ?_⟩
    refine ⟨_, rfl, a, _, rfl, .inl hS, _, _, _, _, rfl, (by rw [List.length_map]; exact rgc5 h5 hl), fun D hD => ?_⟩
    refine lc_rangeC (fun i H' => ∃ as, H' D = some (.lst (as.map V.ref)) ∧ Same H H' ∧ ObjsAt (StopAt CS H') as ((readS ns).take i)) ⟨[], upd_same, Same.new hD, ObjsAt.nil⟩ ?_ ?_
    · rintro i H1 hi ⟨as, hL, s1, hO⟩
      obtain ⟨va, vb, vc, vd, ve, g1, g2, g3, g4, g5, g6⟩ := readS_get i ns (by omega)
      have hS1 := s1.seq hS
      refine ⟨rfl, ?_⟩
      refine ⟨_, rfl, _, rfl, a, _, _, _, rfl, rfl, hS1, at_of (j := 5 * i) (by omega) (get_map g1), ?_⟩
      refine ⟨_, rfl, _, rfl, _, _, rfl, rfl, a, _, _, _, rfl, rfl, hS1, at_of (j := 5 * i + 1) (by omega) (get_map g2), ?_⟩
      refine ⟨_, rfl, _, rfl, _, _, rfl, rfl, a, _, _, _, rfl, rfl, hS1, at_of (j := 5 * i + 2) (by omega) (get_map g3), ?_⟩
      refine ⟨_, rfl, _, rfl, _, _, rfl, rfl, a, _, _, _, rfl, rfl, hS1, at_of (j := 5 * i + 3) (by omega) (get_map g4), ?_⟩
      refine ⟨_, rfl, _, rfl, _, _, rfl, rfl, a, _, _, _, rfl, rfl, hS1, at_of (j := 5 * i + 4) (by omega) (get_map g5), ?_⟩
      intro x dx nx nd ne
      refine ⟨x, dx, ⟨va, vb, vc, vd, ve⟩, rfl, upd_same, fun H5 hA kp => ⟨rfl, ?_⟩⟩
      have s5 : Same H1 H5 := Same.made nx nd kp
      have hL5 := s5 _ _ hL
      refine ⟨_, hL5, ?_, as ++ [x], ?_, (s1.trans s5).put hD, ?_⟩
      · have e := hO.len
        rw [List.length_take] at e
        rw [List.length_map]
        exact Nat.lt_of_le_of_lt (by omega : as.length ≤ 1000) thousand
      · rw [upd_same, List.map_append]
        rfl
      · rw [take_snoc g6]
        have kp5 : Keep H5 (upd H5 D (.lst (List.map V.ref as ++ [V.ref x]))) := Keep.put hL5
        exact ObjsAt.snoc (hO.mono fun b y h => (h.same s5).keep kp5) (hA.keep kp5)
    · rintro H1 ⟨as, hL, s1, hO⟩
      rw [List.take_of_length_le (by rw [readS_len]; omega)] at hO
      exact k H1 D as s1 hL hO
/-! ### read_couplers -/
abbrev psC : List Str := ["self", "source", "target", "shift"]
def spReadC (K : PySem.W.Frag) (CC : Addr) : Sp := fun vs H Q _ => ∃ (a : Addr) (ns : List Int), vs = [.ref a] ∧ SqL K H a (ns.map V.int) ∧ ns.length ≤ 1000 ∧ ns.length % 3 = 0 ∧
  ∀ H' l as, Same H H' → H' l = some (.lst (as.map V.ref)) → ObjsAt (CoupAt CC H') as (readC ns) → Q (.ref l) H'
theorem scReadC : FnScope ["numbers", "k"] ["numbers"] (defScope tReadC) := ⟨rfl, rfl, rfl, by decide +kernel, rfl, by decide +kernel, by decide +kernel⟩
theorem ok_readC (F : Fun K "read_couplers" "read_couplers" tReadC f fd) (T : Txt K mg CS CC aT) (M : Mk K CC fI) (G : FnOk P w K mg base CX0 1 fI fdI psC (spCInit CC)) (b : Binds K fdI psC []) :
    FnOk P w K mg base CX0 3 f fd ["numbers"] (spReadC K CC) := by
  refine F.ok scReadC (fun vs H Q E h => ?_) (fun cdv A outer s H vs Q E hr h => ?_)
  · obtain ⟨a, ns, rfl, _⟩ := h
    rfl
  · obtain ⟨a, ns, rfl, hS, hl, h5, k⟩ := h
    refine ⟨_, pss_one (ps_ret (pe_lc (own := [("k", 1)]) rfl scReadC.nd
      (pi_range3 rfl T.range (pa_cons pe_int (pa_cons (pe_callB call_len_seq (by rfl) T.len PySem.boot_len (pa_cons (pv 0) pa_nil)) (pa_cons (pe_gi rfl T.three) pa_nil st_name) st_call) st_con) st_con (pl_cons st_call (pl_cons st_name pl_nil)))
      (blkOk_by rfl) (fun s H C cl fp => pg_name (i := 1) scReadC.nd rfl (Or.inl rfl)) (fun s H C cl fp => pts_nil)
      (fun s H C cl fp => pe_make M G hr rfl T.mC b .nil pass0
        (pa_cons (pe_ix (r := rIxL K) ix_list (pv 0) (pv 1) (fun _ _ => rfl)) (pa_cons (pe_ix (r := rIxL K) ix_list (pv 0) (pe_op op_add (pv 1) pe_int) (fun _ _ => rfl)) (pa_cons (pe_ix (r := rIxL K) ix_list (pv 0) (pe_op op_add (pv 1) pe_int) (fun _ _ => rfl)) pa_nil st_sub) st_sub) st_sub)
        (by decide) st_sub (pl_cons st_sub (pl_cons st_sub pl_nil))))), ?_⟩
    refine ⟨_, rfl, a, _, rfl, .inl hS, _, _, _, _, rfl, (by rw [List.length_map]; exact rgc3 h5 hl), fun D hD => ?_⟩
    refine lc_rangeC (fun i H' => ∃ as, H' D = some (.lst (as.map V.ref)) ∧ Same H H' ∧ ObjsAt (CoupAt CC H') as ((readC ns).take i)) ⟨[], upd_same, Same.new hD, ObjsAt.nil⟩ ?_ ?_
    · rintro i H1 hi ⟨as, hL, s1, hO⟩
      obtain ⟨va, vb, vc, g1, g2, g3, g6⟩ := readC_get i ns (by omega)
      have hS1 := s1.seq hS
      refine ⟨rfl, ?_⟩
      refine ⟨_, rfl, _, rfl, a, _, _, _, rfl, rfl, hS1, at_of (j := 3 * i) (by omega) (get_map g1), ?_⟩
      refine ⟨_, rfl, _, rfl, _, _, rfl, rfl, a, _, _, _, rfl, rfl, hS1, at_of (j := 3 * i + 1) (by omega) (get_map g2), ?_⟩
      refine ⟨_, rfl, _, rfl, _, _, rfl, rfl, a, _, _, _, rfl, rfl, hS1, at_of (j := 3 * i + 2) (by omega) (get_map g3), ?_⟩
      intro x dx nx nd ne
      refine ⟨x, dx, ⟨va, vb, vc⟩, rfl, upd_same, fun H5 hA kp => ⟨rfl, ?_⟩⟩
      have s5 : Same H1 H5 := Same.made nx nd kp
      have hL5 := s5 _ _ hL
      refine ⟨_, hL5, ?_, as ++ [x], ?_, (s1.trans s5).put hD, ?_⟩
      · have e := hO.len
        rw [List.length_take] at e
        rw [List.length_map]
        exact Nat.lt_of_le_of_lt (by omega : as.length ≤ 1000) thousand
      · rw [upd_same, List.map_append]
        rfl
      · rw [take_snoc g6]
        have kp5 : Keep H5 (upd H5 D (.lst (List.map V.ref as ++ [V.ref x]))) := Keep.put hL5
        exact ObjsAt.snoc (hO.mono fun b y h => (h.same s5).keep kp5) (hA.keep kp5)
    · rintro H1 ⟨as, hL, s1, hO⟩
      rw [List.take_of_length_le (by rw [readC_len]; omega)] at hO
      exact k H1 D as s1 hL hO
end
end Pip

set_option Elab.async false
set_option linter.all false
set_option maxRecDepth 100000
set_option maxHeartbeats 4000000
namespace Pip
open PySem PySem.Spec PyProof.Rows L2
/-- a def of the text, as its callers see it -/
structure Def (P : Program) (w : World) (K : PySem.W.Frag) (mg : Str → Option Value) (base : Heap) (k : Nat) (x : Str) (f : Addr) (fd : FuncData) (ps : List Str) (sp : Sp) : Prop where
  G : FnOk P w K mg base CX0 k f fd ps sp
  b : Binds K fd ps []
  m : mg x = some (.ref f)
  kp : PySem.W.keepIn K (.ref f) = true
theorem pe_d {X : Cx} {k : Nat} {x : Str} {f : Addr} {fd : FuncData} {ps : List Str} {sp : Sp} {e : Expr} {es : List Expr} {t : TA} {p pos : Pos} (d : Def X.prog X.w X.K X.mg X.base k x f fd ps sp) (hr : Room k X.A) (hg : Gl X x) (ha : PA X (e :: es) t)
    (he : starEach (e :: es) X.env = (false, eval e X.env) :: starEach es X.env := by rfl) (hpl : (backTo pos (starEach es X.env)).any (·.1) = false := by rfl) (hdb : (x == ("__debug__" : Str)) = false := by decide) :
    PE X (.Call (.Name x p) (e :: es) [] pos) (tCall sp [] E0 t) := pe_call d.G hr hg d.m d.kp d.b .nil pass0 ha hdb he hpl
section
variable {P : Program} {w : World} {K : PySem.W.Frag} {mg : Str → Option Value} {base : Heap} {CS CC aT : Addr} {f g1 g2 g3 : Addr} {fd d1 d2 d3 : FuncData}
/-! ### are_stops -/
def spAreS (K : PySem.W.Frag) : Sp := fun vs H Q _ => ∃ (a : Addr) (ns : List Int) (dv rk : Int), vs = [.ref a, .int dv, .int rk] ∧ SqL K H a (ns.map V.int) ∧ ns.length ≤ 1000 ∧ ns.length % 5 = 0 ∧
  ∀ H', Same H H' → Q (.bl (areStops ns dv rk)) H'
theorem scAreS : FnScope ["numbers", "divisions", "ranks", "stops", "stop"] ["numbers", "divisions", "ranks"] (defScope tAreS) := ⟨rfl, rfl, rfl, by decide +kernel, rfl, by decide +kernel, by decide +kernel⟩
theorem ok_areS (F : Fun K "are_stops" "are_stops" tAreS f fd) (T : Txt K mg CS CC aT) (D1 : Def P w K mg base 3 "read_stops" g1 d1 ["numbers"] (spReadS K CS)) (D2 : Def P w K mg base 1 "is_stop" g2 d2 ["stop", "divisions", "ranks"] (spIsS CS)) :
    FnOk P w K mg base CX0 4 f fd ["numbers", "divisions", "ranks"] (spAreS K) := by
  refine F.ok scAreS (fun vs H Q E h => ?_) (fun cdv A outer s H vs Q E hr h => ?_)
  · obtain ⟨a, ns, dv, rk, rfl, _⟩ := h
    rfl
  · obtain ⟨a, ns, dv, rk, rfl, hS, hl, h5, k⟩ := h
    have hr1 : Room 1 _ := hr.mono (by decide)
    refine ⟨_, pss_cons (ps_if (pt_cmpR op_ne (pe_op op_mod (pe_callB call_len_seq (by rfl) T.len PySem.boot_len (pa_cons (pv 0) pa_nil)) (pe_gi rfl T.five)) pe_int (nomark _)) (pss_one (ps_ret pe_bl)) pss_nil)
      (pss_cons (ps_set (i := 3) scAreS.nd rfl (Or.inl rfl) (pe_d D1 hr rfl (pa_cons (pv 0) pa_nil)))
      (pss_cons (ps_if (pt_not (pt_chain op_le op_le pe_int (pe_callB call_len_seq (by rfl) T.len PySem.boot_len (pa_cons (pv 3) pa_nil)) (pe_gi rfl T.stopsMost))) (pss_one (ps_ret pe_bl)) pss_nil)
      (pss_one (ps_ret (pe_callB (cr_all rfl) (by rfl) T.all PyProof.Rows.boot_all (pa_cons (pe_lc (own := [("stop", 4)]) rfl scAreS.nd (pi_list (pv 3))
      (blkOk_by rfl) (fun s H C cl fp => pg_name (i := 4) scAreS.nd rfl (Or.inl rfl)) (fun s H C cl fp => pts_nil)
      (fun s H C cl fp => pe_d D2 hr1 rfl (pa_cons (pv 4) (pa_cons (pv 1) (pa_cons (pv 2) pa_nil st_name) st_name) st_name) st_name (pl_cons st_name (pl_cons st_name pl_nil)))) pa_nil st_lc)))))), ?_⟩
    refine ⟨_, rfl, a, _, rfl, .inl hS, _, _, rfl, rfl, (by show (0 : Int) < 5; decide), rfl, _, rfl, ?_⟩
    refine iteNS (by show V.int ((((ns.map V.int).length : Nat) : Int) % 5) = V.int 0; rw [List.length_map, show ((ns.length : Nat) : Int) % 5 = 0 by omega]) ?_
    refine ⟨_, rfl, a, ns, rfl, hS, hl, h5, fun H1 l as s1 hL hO => ?_⟩
    refine ⟨_, rfl, l, _, rfl, .inl (SqL.of hL), _, _, rfl, rfl, _, rfl, ?_⟩
    rw [List.length_map, hO.len]
    have kf : areStops ns dv rk = false → Q (.bl false) H1 := fun e => by have k := k H1 s1; rw [e] at k; exact k
    refine ite2 (fun e1 => ?_) (fun e1 => ⟨_, rfl, iteT (kf (by rw [Bool.not_eq_true] at e1; unfold areStops; rw [e1]; rfl))⟩)
    refine ⟨_, _, rfl, rfl, _, rfl, ?_⟩
    refine ite2 (fun e2 => kf (by have e2 := ngf e2; rw [Bool.not_eq_true] at e2; unfold areStops; rw [e1, e2]; rfl)) (fun e2 => ?_)
    have e2 := ngt e2
    refine ⟨_, rfl, l, rfl, ⟨_, SqL.of hL⟩, fun D hD => ?_⟩
    refine lc_list (K := K) (a := l) (xs := as.map V.ref) (fun i H' => H' D = some (.lst ((((readS ns).take i).map fun s => isStop s dv rk).map V.bl)) ∧ Same H1 H') ⟨upd_same, Same.new hD⟩ (fun i H' _ ⟨_, h2⟩ => SqL.of (h2 _ _ hL)) ?_ ?_
    · rintro i x H' hi ⟨h1, h2⟩
      obtain ⟨z, hz, rfl⟩ := map_get hi
      obtain ⟨st, hst, hA⟩ := hO.at_ i z hz
      have hlt : i < (readS ns).length := (List.getElem?_eq_some_iff.mp hst).1
      rw [readS_len] at hlt
      refine ⟨rfl, ?_⟩
      refine ⟨_, rfl, _, rfl, _, rfl, z, st, dv, rk, rfl, hA.same h2, _, h1, ?_, ?_, h2.put hD⟩
      · simp only [List.length_map, List.length_take]
        exact Nat.lt_of_le_of_lt (by omega : min i (readS ns).length ≤ 1000) thousand
      · rw [upd_same, take_snoc hst, List.map_append, List.map_append]
        rfl
    · rintro H' ⟨h1, h2⟩
      rw [List.length_map, hO.len, List.take_length] at h1
      refine ⟨D, _, rfl, SqL.of h1, ?_⟩
      rw [all_id]
      have k := k H' (s1.trans h2)
      unfold areStops at k
      rw [e1, e2] at k
      exact k
/-! ### are_couplers -/
def spAreC (K : PySem.W.Frag) : Sp := fun vs H Q _ => ∃ (a : Addr) (ns : List Int) (dv : Int), vs = [.ref a, .int dv] ∧ SqL K H a (ns.map V.int) ∧ ns.length ≤ 1000 ∧ ns.length % 3 = 0 ∧
  ∀ H', Same H H' → Q (.bl (areCoups ns dv)) H'
theorem scAreC : FnScope ["numbers", "divisions", "couplers", "coupler"] ["numbers", "divisions"] (defScope tAreC) := ⟨rfl, rfl, rfl, by decide +kernel, rfl, by decide +kernel, by decide +kernel⟩
theorem ok_areC (F : Fun K "are_couplers" "are_couplers" tAreC f fd) (T : Txt K mg CS CC aT) (D1 : Def P w K mg base 3 "read_couplers" g1 d1 ["numbers"] (spReadC K CC)) (D2 : Def P w K mg base 1 "is_coupler" g2 d2 ["coupler", "divisions"] (spIsC CC)) :
    FnOk P w K mg base CX0 4 f fd ["numbers", "divisions"] (spAreC K) := by
  refine F.ok scAreC (fun vs H Q E h => ?_) (fun cdv A outer s H vs Q E hr h => ?_)
  · obtain ⟨a, ns, dv, rfl, _⟩ := h
    rfl
  · obtain ⟨a, ns, dv, rfl, hS, hl, h5, k⟩ := h
    have hr1 : Room 1 _ := hr.mono (by decide)
    refine ⟨_, pss_cons (ps_if (pt_cmpR op_ne (pe_op op_mod (pe_callB call_len_seq (by rfl) T.len PySem.boot_len (pa_cons (pv 0) pa_nil)) (pe_gi rfl T.three)) pe_int (nomark _)) (pss_one (ps_ret pe_bl)) pss_nil)
      (pss_cons (ps_set (i := 2) scAreC.nd rfl (Or.inl rfl) (pe_d D1 hr rfl (pa_cons (pv 0) pa_nil)))
      (pss_cons (ps_if (pt_cmpR op_gt (pe_callB call_len_seq (by rfl) T.len PySem.boot_len (pa_cons (pv 2) pa_nil)) (pe_gi rfl T.couplersMost) (nomark _)) (pss_one (ps_ret pe_bl)) pss_nil)
      (pss_one (ps_ret (pe_callB (cr_all rfl) (by rfl) T.all PyProof.Rows.boot_all (pa_cons (pe_lc (own := [("coupler", 3)]) rfl scAreC.nd (pi_list (pv 2))
      (blkOk_by rfl) (fun s H C cl fp => pg_name (i := 3) scAreC.nd rfl (Or.inl rfl)) (fun s H C cl fp => pts_nil)
      (fun s H C cl fp => pe_d D2 hr1 rfl (pa_cons (pv 3) (pa_cons (pv 1) pa_nil st_name) st_name) st_name (pl_cons st_name pl_nil))) pa_nil st_lc)))))), ?_⟩
    refine ⟨_, rfl, a, _, rfl, .inl hS, _, _, rfl, rfl, (by show (0 : Int) < 3; decide), rfl, _, rfl, ?_⟩
    refine iteNS (by show V.int ((((ns.map V.int).length : Nat) : Int) % 3) = V.int 0; rw [List.length_map, show ((ns.length : Nat) : Int) % 3 = 0 by omega]) ?_
    refine ⟨_, rfl, a, ns, rfl, hS, hl, h5, fun H1 l as s1 hL hO => ?_⟩
    refine ⟨_, rfl, l, _, rfl, .inl (SqL.of hL), _, _, rfl, rfl, _, rfl, ?_⟩
    rw [List.length_map, hO.len]
    have kf : areCoups ns dv = false → Q (.bl false) H1 := fun e => by have k := k H1 s1; rw [e] at k; exact k
    refine ite2 (fun e1 => kf ?_) (fun e1 => ?_)
    · have e1 := of_decide_eq_true e1
      unfold areCoups
      rw [decide_eq_false (by omega)]
      rfl
    have e2 : decide (((readC ns).length : Int) ≤ 32) = true := by
      have e1 : ¬ (32 : Int) < ((readC ns).length : Int) := fun z => e1 (decide_eq_true z)
      exact decide_eq_true (by omega)
    refine ⟨_, rfl, l, rfl, ⟨_, SqL.of hL⟩, fun D hD => ?_⟩
    refine lc_list (K := K) (a := l) (xs := as.map V.ref) (fun i H' => H' D = some (.lst ((((readC ns).take i).map fun s => isCoup s dv).map V.bl)) ∧ Same H1 H') ⟨upd_same, Same.new hD⟩ (fun i H' _ ⟨_, h2⟩ => SqL.of (h2 _ _ hL)) ?_ ?_
    · rintro i x H' hi ⟨h1, h2⟩
      obtain ⟨z, hz, rfl⟩ := map_get hi
      obtain ⟨st, hst, hA⟩ := hO.at_ i z hz
      have hlt : i < (readC ns).length := (List.getElem?_eq_some_iff.mp hst).1
      rw [readC_len] at hlt
      refine ⟨rfl, ?_⟩
      refine ⟨_, rfl, _, rfl, z, st, dv, rfl, hA.same h2, _, h1, ?_, ?_, h2.put hD⟩
      · simp only [List.length_map, List.length_take]
        exact Nat.lt_of_le_of_lt (by omega : min i (readC ns).length ≤ 1000) thousand
      · rw [upd_same, take_snoc hst, List.map_append, List.map_append]
        rfl
    · rintro H' ⟨h1, h2⟩
      rw [List.length_map, hO.len, List.take_length] at h1
      refine ⟨D, _, rfl, SqL.of h1, ?_⟩
      rw [all_id]
      have k := k H' (s1.trans h2)
      unfold areCoups at k
      rw [e2] at k
      exact k
/-! ### is_plan -/
def spIsP (K : PySem.W.Frag) : Sp := fun vs H Q _ => ∃ (a1 a2 a3 : Addr) (dv : Int) (rp st co : List Int), vs = [.int dv, .ref a1, .ref a2, .ref a3] ∧ SqL K H a1 (rp.map V.int) ∧ SqL K H a2 (st.map V.int) ∧ SqL K H a3 (co.map V.int) ∧ rp.length ≤ 1000 ∧
  st.length ≤ 1000 ∧ st.length % 5 = 0 ∧ co.length ≤ 1000 ∧ co.length % 3 = 0 ∧ ∀ H', Same H H' → Q (.bl (isPlan dv rp st co)) H'
theorem scIsP : FnScope ["divisions", "rank_pipes", "stops", "couplers"] ["divisions", "rank_pipes", "stops", "couplers"] (defScope tIsP) := ⟨rfl, rfl, rfl, by decide +kernel, rfl, by decide +kernel, by decide +kernel⟩
theorem ok_isP (F : Fun K "is_plan" "is_plan" tIsP f fd) (T : Txt K mg CS CC aT) (D1 : Def P w K mg base 1 "are_ranks" g1 d1 ["rank_pipes"] (spAreR K)) (D2 : Def P w K mg base 4 "are_stops" g2 d2 ["numbers", "divisions", "ranks"] (spAreS K))
    (D3 : Def P w K mg base 4 "are_couplers" g3 d3 ["numbers", "divisions"] (spAreC K)) :
    FnOk P w K mg base CX0 5 f fd ["divisions", "rank_pipes", "stops", "couplers"] (spIsP K) := by
  refine F.ok scIsP (fun vs H Q E h => ?_) (fun cdv A outer s H vs Q E hr h => ?_)
  · obtain ⟨a1, a2, a3, dv, rp, st, co, rfl, _⟩ := h
    rfl
  · obtain ⟨a1, a2, a3, dv, rp, st, co, rfl, hS1, hS2, hS3, hl1, hl2, h5, hl3, h3, k⟩ := h
    have hr1 : Room 1 _ := hr.mono (by decide)
    refine ⟨_, pss_cons (ps_if (pt_not (pt_chain op_le op_le pe_int (pv 0) (pe_gi rfl T.divisionsMost))) (pss_one (ps_ret pe_bl)) pss_nil)
      (pss_cons (ps_if (pt_not (pt_val (pe_d D1 hr1 rfl (pa_cons (pv 1) pa_nil)))) (pss_one (ps_ret pe_bl)) pss_nil)
      (pss_one (ps_ret (pe_and (pe_d D2 hr rfl (pa_cons (pv 2) (pa_cons (pv 0) (pa_cons (pe_callB call_len_seq (by rfl) T.len PySem.boot_len (pa_cons (pv 1) pa_nil)) pa_nil st_call) st_name) st_name) st_name (pl_cons st_name (pl_cons st_call pl_nil)))
        (pe_one (pe_d D3 hr rfl (pa_cons (pv 3) (pa_cons (pv 0) pa_nil st_name) st_name) st_name (pl_cons st_name pl_nil))))))), ?_⟩
    have kf : isPlan dv rp st co = false → ∀ H', Same H H' → Q (.bl false) H' := fun e H' s => by have k := k H' s; rw [e] at k; exact k
    refine ⟨_, rfl, _, _, rfl, rfl, _, rfl, ?_⟩
    refine ite2 (fun e1 => ?_) (fun e1 => ⟨_, rfl, iteT (kf (by rw [Bool.not_eq_true] at e1; unfold isPlan; rw [e1]; rfl) H (Same.refl H))⟩)
    refine ⟨_, _, rfl, rfl, _, rfl, ?_⟩
    refine ite2 (fun e2 => kf (by have e2 := ngf e2; rw [Bool.not_eq_true] at e2; unfold isPlan; rw [e1, e2]; rfl) H (Same.refl H)) (fun e2 => ?_)
    have e2 := ngt e2
    refine ⟨_, rfl, a1, rp, rfl, hS1, hl1, fun H1 s1 => ⟨_, rfl, ?_⟩⟩
    refine ite2 (fun e3 => kf (by have e3 := ngf e3; rw [Bool.not_eq_true] at e3; unfold isPlan; rw [e1, e2, e3]; rfl) H1 s1) (fun e3 => ?_)
    have e3 := ngt e3
    refine ⟨_, rfl, _, rfl, _, rfl, a1, _, rfl, .inl (s1.seq hS1), a2, st, dv, ((rp.map V.int).length : Int), rfl, s1.seq hS2, hl2, h5, fun H2 s2 => ⟨_, rfl, ?_⟩⟩
    rw [List.length_map]
    refine ite2 (fun e4 => ?_) (fun e4 => kf (by rw [Bool.not_eq_true] at e4; unfold isPlan; rw [e1, e2, e3, e4]; rfl) H2 (s1.trans s2))
    refine ⟨_, rfl, _, rfl, a3, co, dv, rfl, (s1.trans s2).seq hS3, hl3, h3, fun H3 s3 => ?_⟩
    have k := k H3 ((s1.trans s2).trans s3)
    unfold isPlan at k
    rw [e1, e2, e3, e4] at k
    exact k
/-! ### are_keys_there -/
def spKeys (K : PySem.W.Frag) : Sp := fun vs H Q _ => ∃ (a : Addr) (ks : List Int) (dv : Int), vs = [.ref a, .int dv] ∧ SqL K H a (ks.map V.int) ∧ (∀ x ∈ ks, 0 ≤ x) ∧ ∀ H', Same H H' → Q (.bl (keysThere ks dv)) H'
theorem scKeys : FnScope ["keys", "divisions", "division", "held", "count"] ["keys", "divisions"] (defScope tKeys) := ⟨rfl, rfl, rfl, by decide +kernel, rfl, by decide +kernel, by decide +kernel⟩
theorem ok_keys (F : Fun K "are_keys_there" "are_keys_there" tKeys f fd) (T : Txt K mg CS CC aT) (D1 : Def P w K mg base 1 "has_only" g1 d1 ["bits", "count"] spOnly) :
    FnOk P w K mg base CX0 2 f fd ["keys", "divisions"] (spKeys K) := by
  refine F.ok scKeys (fun vs H Q E h => ?_) (fun cdv A outer s H vs Q E hr h => ?_)
  · obtain ⟨a, ks, dv, rfl, _⟩ := h
    rfl
  · obtain ⟨a, ks, dv, rfl, hS, hn, k⟩ := h
    refine ⟨_, pss_cons (ps_for PassesOwn.never rfl (pi_enum rfl T.enumerate (pa_cons (pv 0) pa_nil)) (pg_tup rfl (pgs_cons (pg_name (i := 2) scKeys.nd rfl (Or.inl rfl)) (pgs_cons (pg_name (i := 3) scKeys.nd rfl (Or.inl rfl)) pgs_nil)))
        (pss_cons (ps_set (i := 4) scKeys.nd rfl (Or.inl rfl) (pe_ifExp (pt_cmpR op_lt (pv 2) (pv 1) (nomark _)) (pe_gi rfl T.keys) pe_int))
        (pss_one (ps_if (pt_not (pt_val (pe_d D1 hr rfl (pa_cons (pv 3) (pa_cons (pv 4) pa_nil st_name) st_name) st_name (pl_cons st_name pl_nil)))) (pss_one (ps_ret pe_bl)) pss_nil))))
      (pss_one (ps_ret pe_bl)), ?_⟩
    refine ⟨_, rfl, a, _, rfl, hS, for_enum (K := K) (a := a) (xs := ks.map V.int) (fun i σ H' => ∃ v2 v3 v4 : Option V, σ = [some (.ref a), some (.int dv), v2, v3, v4] ∧ Same H H' ∧ ∀ j : Nat, j < i → hasOnly (ks.getD j 0).toNat (if (j : Int) < dv then 61 else 0) = true)
      ⟨none, none, none, rfl, Same.refl H, fun j hj => absurd hj (Nat.not_lt_zero j)⟩ (fun i σ H' _ ⟨_, _, _, _, s1, _⟩ => s1.seq hS) ?_ ?_⟩
    · rintro i y σ H1 Tp hi hT ⟨v2, v3, v4, rfl, s1, hall⟩
      obtain ⟨z, hz, rfl⟩ := map_get hi
      have hz0 := hn z (List.mem_of_getElem? hz)
      have hzd : ks.getD i 0 = z := by rw [List.getD_eq_getElem?_getD, hz]; rfl
      have s2 : Same H (upd H1 Tp (.tup [.int (i : Nat), .int z])) := s1.trans (Same.new hT)
      refine ⟨Tp, _, rfl, SqT.of upd_same, rfl, _, _, rfl, _, _, rfl, rfl, ?_⟩
      refine ⟨_, rfl, _, rfl, _, _, rfl, rfl, _, rfl, ?_⟩
      have go : ∀ c : Nat, c = (if (i : Int) < dv then 61 else 0) → ∀ Q' : Bool → Prop, (hasOnly z.toNat c = true → Q' true) → (hasOnly z.toNat c = false → Q' false) → Q' (hasOnly z.toNat c) := fun c _ Q' h1 h2 => by
        cases e : hasOnly z.toNat c with
        | true => exact h1 e
        | false => exact h2 e
      have kf : hasOnly z.toNat (if (i : Int) < dv then 61 else 0) = false → Q (.bl false) (upd H1 Tp (.tup [.int (i : Nat), .int z])) := fun e => by
        have e2 : keysThere ks dv = false := by
          unfold keysThere
          rw [List.all_eq_false]
          exact ⟨i, List.mem_range.mpr (List.getElem?_eq_some_iff.mp hz).1, by rw [hzd, e]; decide⟩
        have k := k _ s2
        rw [e2] at k
        exact k
      have kt : hasOnly z.toNat (if (i : Int) < dv then 61 else 0) = true → ∀ j : Nat, j < i + 1 → hasOnly (ks.getD j 0).toNat (if (j : Int) < dv then 61 else 0) = true := fun e j hj => by
        by_cases hji : j = i
        · subst hji
          rw [hzd]
          exact e
        · exact hall j (by omega)
      refine ite2 (fun e1 => ?_) (fun e1 => ?_)
      · have e1 : (i : Int) < dv := of_decide_eq_true e1
        rw [if_pos e1] at kf kt
        refine ⟨_, rfl, _, rfl, z.toNat, 61, (by rw [show ((z.toNat : Nat) : Int) = z by omega]; rfl), _, rfl, ?_⟩
        refine ite2 (fun e2 => kf (by have e2 := ngf e2; rwa [Bool.not_eq_true] at e2)) (fun e2 => ?_)
        exact ⟨_, _, _, rfl, s2, kt (ngt e2)⟩
      · have e1 : ¬ (i : Int) < dv := fun q => e1 (decide_eq_true q)
        rw [if_neg e1] at kf kt
        refine ⟨_, rfl, _, rfl, z.toNat, 0, (by rw [show ((z.toNat : Nat) : Int) = z by omega]; rfl), _, rfl, ?_⟩
        refine ite2 (fun e2 => kf (by have e2 := ngf e2; rwa [Bool.not_eq_true] at e2)) (fun e2 => ?_)
        exact ⟨_, _, _, rfl, s2, kt (ngt e2)⟩
    · rintro σ H1 ⟨v2, v3, v4, rfl, s1, hall⟩
      rw [List.length_map] at hall
      have e2 : keysThere ks dv = true := by
        unfold keysThere
        rw [List.all_eq_true]
        exact fun j hj => hall j (List.mem_range.mp hj)
      have k := k H1 s1
      rw [e2] at k
      exact k
end
end Pip

set_option Elab.async false
set_option linter.all false
set_option maxRecDepth 100000
set_option maxHeartbeats 4000000
namespace Pip
open PySem PySem.Spec PyProof.Rows L2
theorem ixN_nat {n j : Nat} (h : j < n) : ixN n (j : Int) = some j := by
  unfold ixN
  rw [if_pos (by omega), if_pos (by omega)]
  congr 1
theorem keep_snoc {α : Type} (h : Nat) (l : List α) (x : α) : keepL h (l ++ [x]) = keepL h l ++ if h.testBit l.length = true then [x] else [] := by
  unfold keepL
  rw [List.zipIdx_append, List.filter_append, List.map_append]
  congr 1
  rw [List.zipIdx_cons, List.zipIdx_nil, List.filter_cons, List.filter_nil, Nat.zero_add]
  split <;> rfl
theorem ObjsAt.kept {α : Type} {R : Addr → α → Prop} {as : List Addr} {xs : List α} (h : Nat) (o : ObjsAt R as xs) : ObjsAt R (keepL h as) (keepL h xs) := by
  have go : ∀ n, n ≤ as.length → ObjsAt R (keepL h (as.take n)) (keepL h (xs.take n)) := by
    intro n
    induction n with
    | zero => intro _; exact ObjsAt.nil
    | succ n ih =>
      intro hn
      have e := List.getElem?_eq_getElem (show n < as.length by omega)
      obtain ⟨x, e2, r⟩ := o.at_ n _ e
      have ih := ih (by omega)
      rw [take_snoc e, take_snoc e2, keep_snoc, keep_snoc, List.length_take, List.length_take]
      have l1 : min n as.length = n := by omega
      have l2 : min n xs.length = n := by rw [← o.len]; omega
      rw [l1, l2]
      by_cases hb : h.testBit n = true
      · rw [if_pos hb, if_pos hb]
        exact ih.snoc r
      · rw [if_neg hb, if_neg hb, List.append_nil, List.append_nil]
        exact ih
  have q := go as.length (Nat.le_refl _)
  rw [List.take_length, List.take_of_length_le (by rw [← o.len]; exact Nat.le_refl _)] at q
  exact q
theorem keep_le {α : Type} (h : Nat) (l : List α) : (keepL h l).length ≤ l.length := by
  unfold keepL
  rw [List.length_map]
  refine Nat.le_trans (List.length_filter_le _ _) ?_
  rw [List.length_zipIdx]
  exact Nat.le_refl _
section
variable {P : Program} {w : World} {K : PySem.W.Frag} {mg : Str → Option Value} {base : Heap} {CS CC aT : Addr} {f g1 g2 g3 : Addr} {fd d1 d2 d3 : FuncData}
/-! ### refusal_due -/
abbrev ps8 : List Str := ["divisions", "stops_held", "couplers_held", "off", "rank_pipes", "stops", "couplers", "keys"]
def spRef (K : PySem.W.Frag) : Sp := fun vs H Q _ => ∃ (a1 a2 a3 a4 : Addr) (dv sh ch off : Nat) (rp st co ks : List Int), vs = [.int (dv : Nat), .int (sh : Nat), .int (ch : Nat), .int (off : Nat), .ref a1, .ref a2, .ref a3, .ref a4] ∧
  SqL K H a1 (rp.map V.int) ∧ SqL K H a2 (st.map V.int) ∧ SqL K H a3 (co.map V.int) ∧ SqL K H a4 (ks.map V.int) ∧ rp.length ≤ 1000 ∧
  st.length ≤ 1000 ∧ st.length % 5 = 0 ∧ co.length ≤ 1000 ∧ co.length % 3 = 0 ∧ (∀ x ∈ ks, 0 ≤ x) ∧ ∀ H', Same H H' → Q (.int (refusal (dv : Int) sh ch off rp st co ks)) H'
theorem scRef : FnScope ps8 ps8 (defScope tRef) := ⟨rfl, rfl, rfl, by decide +kernel, rfl, by decide +kernel, by decide +kernel⟩
theorem ok_ref (F : Fun K "refusal_due" "refusal_due" tRef f fd) (T : Txt K mg CS CC aT) (D1 : Def P w K mg base 5 "is_plan" g1 d1 ["divisions", "rank_pipes", "stops", "couplers"] (spIsP K)) (D2 : Def P w K mg base 2 "are_keys_there" g2 d2 ["keys", "divisions"] (spKeys K))
    (D3 : Def P w K mg base 1 "has_only" g3 d3 ["bits", "count"] spOnly) :
    FnOk P w K mg base CX0 6 f fd ps8 (spRef K) := by
  refine F.ok scRef (fun vs H Q E h => ?_) (fun cdv A outer s H vs Q E hr h => ?_)
  · obtain ⟨a1, a2, a3, a4, dv, sh, ch, off, rp, st, co, ks, rfl, _⟩ := h
    rfl
  · obtain ⟨a1, a2, a3, a4, dv, sh, ch, off, rp, st, co, ks, rfl, hS1, hS2, hS3, hS4, hl1, hl2, h5, hl3, h3, hk, k⟩ := h
    have hr1 : Room 1 _ := hr.mono (by decide)
    have hr2 : Room 2 _ := hr.mono (by decide)
    refine ⟨_, pss_cons (ps_if (pt_not (pt_val (pe_d D1 hr rfl (pa_cons (pv 0) (pa_cons (pv 4) (pa_cons (pv 5) (pa_cons (pv 6) pa_nil st_name) st_name) st_name) st_name) st_name (pl_cons st_name (pl_cons st_name (pl_cons st_name pl_nil)))))) (pss_one (ps_ret (pe_gi rfl T.noPlan))) pss_nil)
      (pss_cons (ps_if (pt_not (pt_val (pe_d D2 hr2 rfl (pa_cons (pv 7) (pa_cons (pv 0) pa_nil st_name) st_name) st_name (pl_cons st_name pl_nil)))) (pss_one (ps_ret (pe_gi rfl T.notThere))) pss_nil)
      (pss_cons (ps_if (pt_not (pt_val (pe_d D3 hr1 rfl (pa_cons (pv 1) (pa_cons (pe_op op_fdiv (pe_callB call_len_seq (by rfl) T.len PySem.boot_len (pa_cons (pv 5) pa_nil)) (pe_gi rfl T.five)) pa_nil st_bin) st_name) st_name (pl_cons st_bin pl_nil)))) (pss_one (ps_ret (pe_gi rfl T.notThere))) pss_nil)
      (pss_cons (ps_if (pt_not (pt_val (pe_d D3 hr1 rfl (pa_cons (pv 2) (pa_cons (pe_op op_fdiv (pe_callB call_len_seq (by rfl) T.len PySem.boot_len (pa_cons (pv 6) pa_nil)) (pe_gi rfl T.three)) pa_nil st_bin) st_name) st_name (pl_cons st_bin pl_nil)))) (pss_one (ps_ret (pe_gi rfl T.notThere))) pss_nil)
      (pss_cons (ps_if (pt_not (pt_val (pe_d D3 hr1 rfl (pa_cons (pv 3) (pa_cons (pv 0) pa_nil st_name) st_name) st_name (pl_cons st_name pl_nil)))) (pss_one (ps_ret (pe_gi rfl T.notThere))) pss_nil)
      (pss_one (ps_ret pe_int)))))), ?_⟩
    refine ⟨_, rfl, _, rfl, _, rfl, _, rfl, a1, a2, a3, _, rp, st, co, rfl, hS1, hS2, hS3, hl1, hl2, h5, hl3, h3, fun H1 s1 => ⟨_, rfl, ?_⟩⟩
    refine ite2 (fun e1 => ?_) (fun e1 => ?_)
    · have e1 := ngf e1
      rw [Bool.not_eq_true] at e1
      have k := k H1 s1
      unfold refusal at k
      rw [if_pos e1] at k
      exact k
    have e1 : ¬ isPlan (dv : Int) rp st co = false := by rw [ngt e1]; decide
    refine ⟨_, rfl, _, rfl, a4, ks, _, rfl, s1.seq hS4, hk, fun H2 s2 => ⟨_, rfl, ?_⟩⟩
    have s12 := s1.trans s2
    refine ite2 (fun e2 => ?_) (fun e2 => ?_)
    · have e2 := ngf e2
      rw [Bool.not_eq_true] at e2
      have k := k H2 s12
      unfold refusal at k
      rw [if_neg e1, if_pos e2] at k
      exact k
    have e2 : ¬ keysThere ks (dv : Int) = false := by rw [ngt e2]; decide
    refine ⟨_, rfl, _, rfl, a2, _, rfl, .inl (s12.seq hS2), _, _, rfl, rfl, ⟨by decide, by decide⟩, sh, st.length / 5, ?_, _, rfl, ?_⟩
    · show [V.int (sh : Int), V.int ((((st.map V.int).length : Nat) : Int) / 5)] ++ [] = _
      rw [List.length_map]
      rfl
    refine ite2 (fun e3 => ?_) (fun e3 => ?_)
    · have e3 := ngf e3
      rw [Bool.not_eq_true] at e3
      have k := k H2 s12
      unfold refusal at k
      rw [if_neg e1, if_neg e2, if_pos e3] at k
      exact k
    have e3 : ¬ hasOnly sh (st.length / 5) = false := by rw [ngt e3]; decide
    refine ⟨_, rfl, _, rfl, a3, _, rfl, .inl (s12.seq hS3), _, _, rfl, rfl, ⟨by decide, by decide⟩, ch, co.length / 3, ?_, _, rfl, ?_⟩
    · show [V.int (ch : Int), V.int ((((co.map V.int).length : Nat) : Int) / 3)] ++ [] = _
      rw [List.length_map]
      rfl
    refine ite2 (fun e4 => ?_) (fun e4 => ?_)
    · have e4 := ngf e4
      rw [Bool.not_eq_true] at e4
      have k := k H2 s12
      unfold refusal at k
      rw [if_neg e1, if_neg e2, if_neg e3, if_pos e4] at k
      exact k
    have e4 : ¬ hasOnly ch (co.length / 3) = false := by rw [ngt e4]; decide
    refine ⟨_, rfl, _, rfl, off, dv, rfl, _, rfl, ?_⟩
    have e0 : ((dv : Int)).toNat = dv := by omega
    refine ite2 (fun e5 => ?_) (fun e5 => ?_)
    · have e5 := ngf e5
      rw [Bool.not_eq_true] at e5
      have k := k H2 s12
      unfold refusal at k
      rw [if_neg e1, if_neg e2, if_neg e3, if_neg e4, e0, if_pos e5] at k
      exact k
    have e5 : ¬ hasOnly off dv = false := by rw [ngt e5]; decide
    have k := k H2 s12
    unfold refusal at k
    rw [if_neg e1, if_neg e2, if_neg e3, if_neg e4, e0, if_neg e5] at k
    exact k
/-! ### held_ones -/
def spHeld (K : PySem.W.Frag) : Sp := fun vs H Q _ => ∃ (a : Addr) (h : Nat) (as : List Addr), vs = [.ref a, .int (h : Nat)] ∧ SqL K H a (as.map V.ref) ∧ as.length ≤ 1000 ∧
  ∀ H' l, Same H H' → H' l = some (.lst ((keepL h as).map V.ref)) → Q (.ref l) H'
theorem scHeld : FnScope ["things", "held", "number", "thing"] ["things", "held"] (defScope tHeld) := ⟨rfl, rfl, rfl, by decide +kernel, rfl, by decide +kernel, by decide +kernel⟩
theorem ok_held (F : Fun K "held_ones" "held_ones" tHeld f fd) (T : Txt K mg CS CC aT) (D1 : Def P w K mg base 1 "has" g1 d1 ["bits", "number"] spHas) :
    FnOk P w K mg base CX0 2 f fd ["things", "held"] (spHeld K) := by
  refine F.ok scHeld (fun vs H Q E h => ?_) (fun cdv A outer s H vs Q E hr h => ?_)
  · obtain ⟨a, h, as, rfl, _⟩ := h
    rfl
  · obtain ⟨a, h, as, rfl, hS, hl, k⟩ := h
    refine ⟨_, pss_one (ps_ret (pe_lc (own := [("number", 2), ("thing", 3)]) (g := gTup K 2 (gCons (gName 2) (gCons (gName 3) gNil))) rfl scHeld.nd (pi_enum rfl T.enumerate (pa_cons (pv 0) pa_nil))
      (blkOk_by rfl) (fun s H C cl fp => pg_tup rfl (pgs_cons (pg_name (i := 2) scHeld.nd rfl (Or.inl rfl)) (pgs_cons (pg_name (i := 3) scHeld.nd rfl (Or.inl rfl)) pgs_nil)))
      (fun s H C cl fp => pts_one (pt_val (pe_d D1 hr rfl (pa_cons (pv 1) (pa_cons (pv 2) pa_nil st_name) st_name) st_name (pl_cons st_name pl_nil))))
      (fun s H C cl fp => pv 3))), ?_⟩
    refine ⟨_, rfl, a, _, rfl, hS, fun D hD => ?_⟩
    refine lc_enum (K := K) (a := a) (xs := as.map V.ref) (fun i H' => H' D = some (.lst ((keepL h (as.take i)).map V.ref)) ∧ Same H H') ⟨upd_same, Same.new hD⟩ (fun i H' _ ⟨_, s1⟩ => s1.seq hS) ?_ ?_
    · rintro i x H1 Tp hi hT ⟨h1, s1⟩
      obtain ⟨z, hz, rfl⟩ := map_get hi
      have hlt : i < as.length := (List.getElem?_eq_some_iff.mp hz).1
      have s2 : Same H1 (upd H1 Tp (.tup [.int (i : Nat), .ref z])) := Same.new hT
      have h2 := s2 _ _ h1
      have ek : keepL h (as.take (i + 1)) = keepL h (as.take i) ++ if h.testBit i = true then [z] else [] := by
        rw [take_snoc hz, keep_snoc, List.length_take, show min i as.length = i by omega]
      refine ⟨Tp, _, rfl, SqT.of upd_same, rfl, _, _, rfl, _, _, rfl, rfl, rfl, ?_⟩
      refine ⟨_, rfl, _, rfl, h, i, rfl, _, rfl, ?_⟩
      refine ite2 (fun e1 => ?_) (fun e1 => ?_)
      · refine ⟨_, rfl, _, h2, ?_, ?_, (s1.trans s2).put hD⟩
        · rw [List.length_map]
          exact Nat.lt_of_le_of_lt (Nat.le_trans (keep_le _ _) (by rw [List.length_take]; omega : _ ≤ 1000)) thousand
        · rw [upd_same, ek, if_pos e1, List.map_append]
          rfl
      · refine ⟨?_, s1.trans s2⟩
        rw [ek, if_neg e1, List.append_nil]
        exact h2
    · rintro H1 ⟨h1, s1⟩
      rw [List.length_map, List.take_length] at h1
      exact k H1 D s1 h1
end
end Pip

set_option Elab.async false
set_option linter.all false
set_option maxRecDepth 100000
set_option maxHeartbeats 4000000
namespace Pip
open PySem PySem.Spec PyProof.Rows L2
/-- the operators on natural numbers -/
def rN (C : Nat → Nat → Prop) (g : Nat → Nat → Nat) : R2 := fun x y H Q => ∃ i j : Nat, x = .int (i : Int) ∧ y = .int (j : Int) ∧ C i j ∧ Q (.int ((g i j : Nat) : Int)) H
theorem op_andN {X : Cx} : OpR X (binaryOp .BitAnd) (rN (fun _ _ => True) fun i j => i &&& j) := by
  intro pins s σ H x y v u Q I rx ry h
  obtain ⟨i, j, rfl, rfl, _, q⟩ := h
  refine op_and pins s σ H _ _ v u Q I rx ry ⟨_, _, rfl, rfl, ?_⟩
  show Q (.int (Builtin.bitAnd (i : Int) (j : Int))) H
  rw [and_nat]
  exact q
theorem op_orN {X : Cx} : OpR X (binaryOp .BitOr) (rN (fun _ _ => True) fun i j => i ||| j) := by
  intro pins s σ H x y v u Q I rx ry h
  obtain ⟨i, j, rfl, rfl, _, q⟩ := h
  refine op_or pins s σ H _ _ v u Q I rx ry ⟨_, _, rfl, rfl, ?_⟩
  show Q (.int (Builtin.bitOr (i : Int) (j : Int))) H
  rw [or_nat]
  exact q
theorem op_shrN {X : Cx} : OpR X (binaryOp .RShift) (rN (fun _ _ => True) fun i j => i >>> j) := by
  intro pins s σ H x y v u Q I rx ry h
  obtain ⟨i, j, rfl, rfl, _, q⟩ := h
  refine op_shr pins s σ H _ _ v u Q I rx ry ⟨_, _, rfl, rfl, Int.natCast_nonneg j, ?_⟩
  show Q (.int ((i : Int) / 2 ^ ((j : Int)).toNat)) H
  rw [show ((j : Int)).toNat = j by omega, shr_nat]
  exact q
theorem op_subN {X : Cx} : OpR X (binaryOp .Sub) (rN (fun i j => j ≤ i) fun i j => i - j) := by
  intro pins s σ H x y v u Q I rx ry h
  obtain ⟨i, j, rfl, rfl, hle, q⟩ := h
  refine op_sub pins s σ H _ _ v u Q I rx ry ⟨_, _, rfl, rfl, ?_⟩
  show Q (.int ((i : Int) - (j : Int))) H
  rw [show (i : Int) - (j : Int) = ((i - j : Nat) : Int) by omega]
  exact q
def natsV (l : List Nat) : List V := l.map fun (n : Nat) => V.int (n : Int)
theorem natsV_len (l : List Nat) : (natsV l).length = l.length := List.length_map ..
theorem natsV_get {l : List Nat} {i : Nat} (h : i < l.length) : (natsV l)[i]? = some (.int ((l.getD i 0 : Nat) : Int)) := by
  unfold natsV
  rw [List.getElem?_map, List.getElem?_eq_getElem h, List.getD_eq_getElem?_getD, List.getElem?_eq_getElem h]
  rfl
theorem natsV_set (l : List Nat) (i n : Nat) : (natsV l).set i (.int (n : Int)) = natsV (l.set i n) := by
  unfold natsV
  rw [List.map_set]
theorem orFold_snoc {α : Type} (ix v : α → Nat) (l : List Nat) (xs : List α) (c : α) : orFold ix v l (xs ++ [c]) = (orFold ix v l xs).set (ix c) ((orFold ix v l xs).getD (ix c) 0 ||| v c) := by
  unfold orFold
  rw [List.foldl_append]
  rfl
theorem kAt_get {ks : List Int} {i : Nat} (h : i < ks.length) (h0 : ∀ x ∈ ks, 0 ≤ x) : (ks.map V.int)[i]? = some (.int ((kAt ks i : Nat) : Int)) := by
  rw [List.getElem?_map, List.getElem?_eq_getElem h]
  unfold kAt
  rw [List.getD_eq_getElem?_getD, List.getElem?_eq_getElem h]
  have := h0 ks[i] (List.getElem_mem h)
  show some (V.int ks[i]) = some (V.int ((ks[i].toNat : Nat) : Int))
  rw [show ((ks[i].toNat : Nat) : Int) = ks[i] by omega]
theorem lt_of_bits {x n : Nat} (h : ∀ i, n ≤ i → x.testBit i = false) : x < 2 ^ n := Nat.lt_pow_two_of_testBit x h
theorem sound_lt {dv : Nat} {off : Nat} {cs : List C3} {ks : List Int} (hk : ∀ i, kAt ks i < 2 ^ 61) (d : Nat) : (soundL dv off cs ks).getD d 0 < 2 ^ 61 := by
  refine lt_of_bits fun i hi => ?_
  unfold soundL
  rw [orFold_tb, range_map_getD]
  have e1 : (if d < dv then (if off.testBit d then 0 else kAt ks d) else 0).testBit i = false := by
    split
    · split
      · exact Nat.zero_testBit i
      · exact tb_high (hk d) hi
    · exact Nat.zero_testBit i
  rw [e1, Bool.false_or, List.any_eq_false]
  intro c _
  unfold coupV
  rw [Nat.testBit_and, tb_first, decide_eq_false (by omega : ¬ i < 61)]
  simp
theorem sound_len (dv off : Nat) (cs : List C3) (ks : List Int) : (soundL dv off cs ks).length = dv := by
  unfold soundL
  rw [orFold_len, List.length_map, List.length_range]
theorem speak_lt {rp : List Int} {ss : List S5} {snd : List Nat} (hr : ∀ i, kAt rp i ≤ 97) (r : Nat) : (speakL rp ss snd).getD r 0 < 2 ^ 97 := by
  refine lt_of_bits fun i hi => ?_
  unfold speakL
  rw [orFold_tb]
  have z : (List.replicate 16 0).getD r 0 = 0 := by
    rw [List.getD_eq_getElem?_getD, List.getElem?_replicate]
    split <;> rfl
  rw [z, Nat.zero_testBit, Bool.false_or, List.any_eq_false]
  intro s _
  unfold stopV
  have := hr s.r.toNat
  rw [Nat.testBit_and, tb_first, decide_eq_false (by omega : ¬ i < kAt rp s.r.toNat)]
  simp
section
variable {P : Program} {w : World} {K : PySem.W.Frag} {mg : Str → Option Value} {base : Heap} {CS CC aT : Addr} {f g1 g2 g3 g4 g5 g6 : Addr} {fd d1 d2 d3 d4 d5 d6 : FuncData}
/-! ### sounding_keys -/
def spSound (K : PySem.W.Frag) (CC : Addr) : Sp := fun vs H Q _ => ∃ (a3 a4 : Addr) (dv off : Nat) (as : List Addr) (cs : List C3) (ks : List Int), vs = [.int (dv : Nat), .int (off : Nat), .ref a3, .ref a4] ∧
  SqL K H a3 (as.map V.ref) ∧ ObjsAt (CoupAt CC H) as cs ∧ SqL K H a4 (ks.map V.int) ∧ dv ≤ ks.length ∧ dv ≤ 4 ∧ (∀ x ∈ ks, 0 ≤ x) ∧ (∀ i, kAt ks i < 2 ^ 61) ∧ (∀ c ∈ cs, CoupOk c (dv : Int)) ∧
  ∀ H' l, Same H H' → H' l = some (.lst (natsV (soundL dv off cs ks))) → Q (.ref l) H'
theorem scSound : FnScope ["divisions", "off", "couplers", "keys", "sounding", "coupler", "coupled", "division"] ["divisions", "off", "couplers", "keys"] (defScope tSound) := ⟨rfl, rfl, rfl, by decide +kernel, rfl, by decide +kernel, by decide +kernel⟩
theorem ok_sound (F : Fun K "sounding_keys" "sounding_keys" tSound f fd) (T : Txt K mg CS CC aT) (D1 : Def P w K mg base 1 "has" g1 d1 ["bits", "number"] spHas) (D2 : Def P w K mg base 1 "shifted" g2 d2 ["bits", "shift"] spShift)
    (D3 : Def P w K mg base 1 "first_bits" g3 d3 ["count"] spFirst) : FnOk P w K mg base CX0 2 f fd ["divisions", "off", "couplers", "keys"] (spSound K CC) := by
  refine F.ok scSound (fun vs H Q E h => ?_) (fun cdv A outer s H vs Q E hr h => ?_)
  · obtain ⟨a3, a4, dv, off, as, cs, ks, rfl, _⟩ := h
    rfl
  · obtain ⟨a3, a4, dv, off, as, cs, ks, rfl, hS3, hO, hS4, hlk, h4, hk0, hk61, hcs, k⟩ := h
    refine ⟨_, pss_cons (ps_setLc (i := 4) (own := [("division", 7)]) rfl scSound.nd rfl rfl (sw_true rfl rfl rfl rfl) (pi_range1 rfl T.range (pa_cons (pv 0) pa_nil))
        (blkOk_by rfl) (fun s H C cl fp => pg_name (i := 7) scSound.nd rfl (Or.inl rfl)) (fun s H C cl fp => pts_nil)
        (fun s H C cl fp => pe_ifExp (pt_val (pe_d D1 hr rfl (pa_cons (pv 1) (pa_cons (pv 7) pa_nil st_name) st_name) st_name (pl_cons st_name pl_nil))) pe_int (pe_ix (r := rIxL K) ix_list (pv 3) (pv 7) (fun _ _ => rfl))))
      (pss_cons (ps_for PassesOwn.never rfl (pi_list (pv 2)) (pg_name (i := 5) scSound.nd rfl (Or.inl rfl))
        (pss_cons (ps_set (i := 6) scSound.nd rfl (Or.inl rfl) (pe_op op_andN (pe_d D2 hr rfl (pa_cons (pe_ix ix_list (pv 3) (pe_fld (pv 5) rfl) (fun _ _ => rfl)) (pa_cons (pe_fld (pv 5) rfl) pa_nil st_att) st_sub) st_sub (pl_cons st_att pl_nil)) (pe_d D3 hr rfl (pa_cons (pe_gi rfl T.keys) pa_nil st_name))))
        (pss_one (ps_asg (pe_op op_orN (pe_ix ix_list (pv 4) (pe_fld (pv 5) rfl) (fun _ _ => rfl)) (pv 6)) (pg_sub (pv 4) (pe_fld (pv 5) rfl) set_list)))))
      (pss_one (ps_ret (pv 4)))), ?_⟩
    refine ⟨_, rfl, _, rfl, (by omega), (by omega), fun D hD => ?_⟩
    rw [show ((dv : Int)).toNat = dv by omega]
    refine lc_range (fun i H' => H' D = some (.lst (natsV ((List.range i).map fun i => if off.testBit i then 0 else kAt ks i))) ∧ Same H H') ⟨upd_same, Same.new hD⟩ ?_ ?_
    · rintro i H1 hi ⟨h1, s1⟩
      refine ⟨rfl, ?_⟩
      have fin : ∀ n : Nat, n = (if off.testBit i then 0 else kAt ks i) → ∃ acc, H1 D = some (.lst acc) ∧ acc.length < sizeLine ∧ ((upd H1 D (.lst (acc ++ [V.int (n : Int)]))) D = some (.lst (natsV ((List.range (i + 1)).map fun i => if off.testBit i then 0 else kAt ks i))) ∧ Same H (upd H1 D (.lst (acc ++ [V.int (n : Int)])))) := by
        rintro n rfl
        refine ⟨_, h1, ?_, ?_, s1.put hD⟩
        · rw [natsV_len, List.length_map, List.length_range]
          exact Nat.lt_trans (by omega : i < 1000) thousand
        · rw [upd_same, List.range_succ, List.map_append]
          unfold natsV
          rw [List.map_append]
          rfl
      refine ⟨_, rfl, _, rfl, off, i, (by show [V.int (off : Int), V.int (0 + (i : Int))] ++ [] = _; rw [Int.zero_add]; rfl), _, rfl, ?_⟩
      refine ite2 (fun e1 => fin 0 (by rw [if_pos e1])) (fun e1 => ?_)
      exact ⟨_, rfl, _, rfl, a4, _, _, _, rfl, rfl, s1.seq hS4, at_of (j := i) (by omega) (kAt_get (by omega) hk0), fin _ (by rw [if_neg e1])⟩
    · rintro H1 ⟨h1, s1⟩
      have hO1 : ObjsAt (CoupAt CC H1) as cs := hO.mono fun a c h => h.same s1
      refine ⟨_, rfl, a3, rfl, ⟨_, s1.seq hS3⟩, for_list (K := K) (a := a3) (xs := as.map V.ref) (fun i σ H' => ∃ v5 v6 : Option V, σ = [some (.int (dv : Int)), some (.int (off : Int)), some (.ref a3), some (.ref a4), some (.ref D), v5, v6, none] ∧ Same H H' ∧
          H' D = some (.lst (natsV (soundL dv off (cs.take i) ks))) ∧ Keep H1 H') ⟨none, none, rfl, s1, h1, Keep.of (Same.refl H1)⟩ (fun i σ H' _ ⟨_, _, _, s2, _⟩ => s2.seq hS3) ?_ ?_⟩
      · rintro i y σ H2 hi ⟨v5, v6, rfl, s2, h2, kp⟩
        obtain ⟨z, hz, rfl⟩ := map_get hi
        obtain ⟨c, hc, hA⟩ := hO1.at_ i z hz
        obtain ⟨dx, hz2⟩ := hA.keep kp
        have co := hcs c (List.mem_of_getElem? hc)
        obtain ⟨ca0, ca1, cb0, cb1, csh⟩ := co
        have hla : c.a.toNat < ks.length := by omega
        have hlb : c.b.toNat < (soundL dv off (cs.take i) ks).length := by rw [sound_len]; omega
        refine ⟨_, rfl, _, rfl, z, CC, dx, _, _, rfl, hz2, T.clC, T.cA, cf_a c, a4, _, _, _, rfl, rfl, s2.seq hS4, at_of (j := c.a.toNat) (by omega) (kAt_get hla hk0), _, rfl, z, CC, dx, _, _, rfl, hz2, T.clC, T.cS, cf_sh c, ?_⟩
        refine ⟨_, _, rfl, Nat.lt_trans (hk61 _) (by decide), (by omega), 61, rfl, (by decide), _, _, rfl, rfl, trivial, ?_⟩
        refine ⟨_, rfl, _, rfl, z, CC, dx, _, _, rfl, hz2, T.clC, T.cB, cf_b c, D, _, _, _, rfl, rfl, SqL.of h2, at_of (j := c.b.toNat) (by omega) (natsV_get hlb), _, rfl, _, _, rfl, rfl, trivial, ?_⟩
        refine ⟨_, rfl, _, rfl, z, CC, dx, _, _, rfl, hz2, T.clC, T.cB, cf_b c, D, _, _, c.b.toNat, rfl, rfl, h2, ?_, ?_⟩
        · rw [natsV_len, show c.b = ((c.b.toNat : Nat) : Int) by omega]
          exact ixN_nat hlb
        · refine ⟨_, _, rfl, s2.put hD, ?_, kp.trans (Keep.put h2)⟩
          rw [upd_same, natsV_set, take_snoc hc]
          unfold soundL
          rw [orFold_snoc]
          rfl
      · rintro σ H2 ⟨v5, v6, rfl, s2, h2, kp⟩
        rw [List.length_map, hO.len, List.take_length] at h2
        exact ⟨_, rfl, k H2 D s2 h2⟩
end
end Pip

set_option Elab.async false
set_option linter.all false
set_option maxRecDepth 100000
set_option maxHeartbeats 4000000
namespace Pip
open PySem PySem.Spec PyProof.Rows L2
section
variable {P : Program} {w : World} {K : PySem.W.Frag} {mg : Str → Option Value} {base : Heap} {CS CC aT : Addr} {f g1 g2 g3 : Addr} {fd d1 d2 d3 : FuncData}
/-! ### has_pipe -/
def spHasP (K : PySem.W.Frag) : Sp := fun vs H Q _ => ∃ (a : Addr) (rp : List Int) (r q : Nat), vs = [.ref a, .int (r : Nat), .int (q : Nat)] ∧ SqL K H a (rp.map V.int) ∧ (∀ x ∈ rp, 0 ≤ x) ∧ Q (.bl (decide (r < rp.length) && decide (q < kAt rp r))) H
theorem scHasP : FnScope ["rank_pipes", "rank", "pipe"] ["rank_pipes", "rank", "pipe"] (defScope tHasP) := ⟨rfl, rfl, rfl, by decide +kernel, rfl, by decide +kernel, by decide +kernel⟩
theorem ok_hasP (F : Fun K "has_pipe" "has_pipe" tHasP f fd) (T : Txt K mg CS CC aT) : FnOk P w K mg base CX0 1 f fd ["rank_pipes", "rank", "pipe"] (spHasP K) := by
  refine F.ok scHasP (fun vs H Q E h => ?_) (fun cdv A outer s H vs Q E hr h => ?_)
  · obtain ⟨a, rp, r, q, rfl, _⟩ := h
    rfl
  · obtain ⟨a, rp, r, q, rfl, hS, h0, k⟩ := h
    refine ⟨_, pss_one (ps_ret (pe_and (pe_cmpR op_lt (pv 1) (pe_callB call_len_seq (by rfl) T.len PySem.boot_len (pa_cons (pv 0) pa_nil)) (nomark _)) (pe_one (pe_cmpR op_lt (pv 2) (pe_ix ix_list (pv 0) (pv 1) (fun _ _ => rfl)) (nomark _))))), ?_⟩
    refine ⟨_, rfl, _, rfl, a, _, rfl, .inl hS, _, _, rfl, rfl, _, rfl, ?_⟩
    rw [List.length_map]
    refine ite2 (fun e1 => ?_) (fun e1 => ?_)
    · have e1 : (r : Int) < (rp.length : Int) := of_decide_eq_true e1
      refine ⟨_, rfl, _, rfl, _, rfl, a, _, _, _, rfl, rfl, hS, at_of (j := r) rfl (kAt_get (by omega) h0), _, _, rfl, rfl, ?_⟩
      show Q (.bl (decide ((q : Int) < ((kAt rp r : Nat) : Int)))) H
      rw [decide_eq_true (by omega : r < rp.length), Bool.true_and] at k
      rw [show decide ((q : Int) < ((kAt rp r : Nat) : Int)) = decide (q < kAt rp r) from decide_eq_decide.mpr (by omega)]
      exact k
    · have e1 : ¬ (r : Int) < (rp.length : Int) := fun z => e1 (decide_eq_true z)
      rw [decide_eq_false (by omega : ¬ r < rp.length), Bool.false_and] at k
      exact k
/-! ### key_to_pipe -/
def spKeyP (CS : Addr) : Sp := fun vs H Q _ => ∃ (a : Addr) (s : S5) (q : Int), vs = [.ref a, .int q] ∧ StopAt CS H a s ∧ Q (.int (q - s.sh)) H
theorem scKeyP : FnScope ["stop", "pipe"] ["stop", "pipe"] (defScope tKeyP) := ⟨rfl, rfl, rfl, by decide +kernel, rfl, by decide +kernel, by decide +kernel⟩
theorem ok_keyP (F : Fun K "key_to_pipe" "key_to_pipe" tKeyP f fd) (T : Txt K mg CS CC aT) : FnOk P w K mg base CX0 1 f fd ["stop", "pipe"] (spKeyP CS) := by
  refine F.ok scKeyP (fun vs H Q E h => ?_) (fun cdv A outer s₀ H vs Q E hr h => ?_)
  · obtain ⟨a, s, q, rfl, _⟩ := h
    rfl
  · obtain ⟨a, s, q, rfl, ⟨dx, ha⟩, k⟩ := h
    refine ⟨_, pss_one (ps_ret (pe_op op_sub (pv 1) (pe_fld (pv 0) rfl))), ?_⟩
    exact ⟨_, rfl, _, rfl, a, CS, dx, _, _, rfl, ha, T.clS, T.sS, sf_sh s, _, _, rfl, rfl, k⟩
/-! ### speaks_by -/
theorem int_of {i j : Int} (h : decide (V.int i = V.int j) = true) : i = j := by
  have z : V.int i = V.int j := of_decide_eq_true h
  injection z
theorem int_not {i j : Int} (h : ¬ decide (V.int i = V.int j) = true) : ¬ i = j := fun z => h (decide_eq_true (congrArg V.int z))
theorem int_is {i : Int} (h : 0 ≤ i) : V.int ((i.toNat : Nat) : Int) = V.int i := by
  rw [show ((i.toNat : Nat) : Int) = i by omega]
def spSpBy (CS : Addr) : Sp := fun vs H Q _ => ∃ (a : Addr) (s : S5) (r q snd : Nat), vs = [.ref a, .int (r : Nat), .int (q : Nat), .int (snd : Nat)] ∧ StopAt CS H a s ∧ 0 ≤ s.lo ∧ Q (.bl (speaksBy s r q snd)) H
theorem scSpBy : FnScope ["stop", "rank", "pipe", "sounding", "key"] ["stop", "rank", "pipe", "sounding"] (defScope tSpBy) := ⟨rfl, rfl, rfl, by decide +kernel, rfl, by decide +kernel, by decide +kernel⟩
theorem ok_spBy (F : Fun K "speaks_by" "speaks_by" tSpBy f fd) (T : Txt K mg CS CC aT) (D1 : Def P w K mg base 1 "key_to_pipe" g1 d1 ["stop", "pipe"] (spKeyP CS)) (D2 : Def P w K mg base 1 "has" g2 d2 ["bits", "number"] spHas) :
    FnOk P w K mg base CX0 2 f fd ["stop", "rank", "pipe", "sounding"] (spSpBy CS) := by
  refine F.ok scSpBy (fun vs H Q E h => ?_) (fun cdv A outer s₀ H vs Q E hr h => ?_)
  · obtain ⟨a, s, r, q, snd, rfl, _⟩ := h
    rfl
  · obtain ⟨a, s, r, q, snd, rfl, ⟨dx, ha⟩, lo0, k⟩ := h
    refine ⟨_, pss_cons (ps_set (i := 4) scSpBy.nd rfl (Or.inl rfl) (pe_d D1 hr rfl (pa_cons (pv 0) (pa_cons (pv 2) pa_nil st_name) st_name) st_name (pl_cons st_name pl_nil)))
      (pss_one (ps_ret (pe_and (pe_cmpR op_eq (pe_fld (pv 0) rfl) (pv 1) (nomark _)) (pe_and (pe_chain op_le op_le (pe_fld (pv 0) rfl) (pv 4) (pe_fld (pv 0) rfl))
        (pe_one (pe_d D2 hr rfl (pa_cons (pv 3) (pa_cons (pv 4) pa_nil st_name) st_name) st_name (pl_cons st_name pl_nil))))))), ?_⟩
    have kf : speaksBy s r q snd = false → Q (.bl false) H := fun e => by rw [e] at k; exact k
    refine ⟨_, rfl, _, rfl, a, s, _, rfl, ⟨dx, ha⟩, ?_⟩
    refine ⟨_, rfl, a, CS, dx, _, _, rfl, ha, T.clS, T.sR, sf_r s, _, rfl, rfl, _, rfl, ?_⟩
    refine ite2 (fun e1 => ?_) (fun e1 => kf (by unfold speaksBy; rw [decide_eq_false (int_not e1)]; rfl))
    have e1 := int_of e1
    refine ⟨_, rfl, a, CS, dx, _, _, rfl, ha, T.clS, T.sL, sf_lo s, _, rfl, _, _, rfl, rfl, _, rfl, ?_⟩
    refine ite2 (fun e2 => ?_) (fun e2 => ⟨_, rfl, iteF (kf (by rw [Bool.not_eq_true] at e2; unfold speaksBy; rw [e2, Bool.false_and, Bool.false_and, Bool.and_false]))⟩)
    refine ⟨_, rfl, a, CS, dx, _, _, rfl, ha, T.clS, T.sH, sf_hi s, _, _, rfl, rfl, _, rfl, ?_⟩
    refine ite2 (fun e3 => ?_) (fun e3 => kf (by rw [Bool.not_eq_true] at e3; unfold speaksBy; rw [e3, Bool.and_false, Bool.false_and, Bool.and_false]))
    have e2' : s.lo ≤ (q : Int) - s.sh := of_decide_eq_true e2
    refine ⟨_, rfl, _, rfl, snd, ((q : Int) - s.sh).toNat, (by rw [int_is (by omega)]; rfl), ?_⟩
    unfold speaksBy at k
    rw [decide_eq_true e1, e2, e3] at k
    exact k
/-! ### sounds_by -/
def spSoBy (K : PySem.W.Frag) (CC : Addr) : Sp := fun vs H Q _ => ∃ (a a4 : Addr) (c : C3) (d k : Int) (ks : List Int), vs = [.ref a, .int d, .int k, .ref a4] ∧ CoupAt CC H a c ∧ SqL K H a4 (ks.map V.int) ∧ (∀ x ∈ ks, 0 ≤ x) ∧ 0 ≤ c.a ∧ c.a.toNat < ks.length ∧ Q (.bl (soundsBy c d k ks)) H
theorem scSoBy : FnScope ["coupler", "division", "key", "keys", "start"] ["coupler", "division", "key", "keys"] (defScope tSoBy) := ⟨rfl, rfl, rfl, by decide +kernel, rfl, by decide +kernel, by decide +kernel⟩
theorem ok_soBy (F : Fun K "sounds_by" "sounds_by" tSoBy f fd) (T : Txt K mg CS CC aT) (D1 : Def P w K mg base 1 "has" g1 d1 ["bits", "number"] spHas) :
    FnOk P w K mg base CX0 2 f fd ["coupler", "division", "key", "keys"] (spSoBy K CC) := by
  refine F.ok scSoBy (fun vs H Q E h => ?_) (fun cdv A outer s₀ H vs Q E hr h => ?_)
  · obtain ⟨a, a4, c, d, y, ks, rfl, _⟩ := h
    rfl
  · obtain ⟨a, a4, c, d, y, ks, rfl, ⟨dx, ha⟩, hS, h0, ca0, cal, k⟩ := h
    refine ⟨_, pss_cons (ps_set (i := 4) scSoBy.nd rfl (Or.inl rfl) (pe_op op_sub (pv 2) (pe_fld (pv 0) rfl)))
      (pss_one (ps_ret (pe_and (pe_cmpR op_eq (pe_fld (pv 0) rfl) (pv 1) (nomark _)) (pe_and (pe_chain op_le op_lt pe_int (pv 4) (pe_gi rfl T.keys))
        (pe_one (pe_d D1 hr rfl (pa_cons (pe_ix ix_list (pv 3) (pe_fld (pv 0) rfl) (fun _ _ => rfl)) (pa_cons (pv 4) pa_nil st_name) st_sub) st_sub (pl_cons st_name pl_nil))))))), ?_⟩
    have kf : soundsBy c d y ks = false → Q (.bl false) H := fun e => by rw [e] at k; exact k
    refine ⟨_, rfl, _, rfl, a, CC, dx, _, _, rfl, ha, T.clC, T.cS, cf_sh c, _, _, rfl, rfl, ?_⟩
    refine ⟨_, rfl, a, CC, dx, _, _, rfl, ha, T.clC, T.cB, cf_b c, _, rfl, rfl, _, rfl, ?_⟩
    refine ite2 (fun e1 => ?_) (fun e1 => kf (by unfold soundsBy; rw [decide_eq_false (int_not e1)]; rfl))
    have e1 := int_of e1
    refine ⟨_, rfl, _, _, rfl, rfl, _, rfl, ?_⟩
    refine ite2 (fun e2 => ?_) (fun e2 => ⟨_, rfl, iteF (kf (by rw [Bool.not_eq_true] at e2; unfold soundsBy; rw [e2, Bool.false_and, Bool.false_and, Bool.and_false]))⟩)
    refine ⟨_, _, rfl, rfl, _, rfl, ?_⟩
    refine ite2 (fun e3 => ?_) (fun e3 => kf (by rw [Bool.not_eq_true] at e3; unfold soundsBy; rw [e3, Bool.and_false, Bool.false_and, Bool.and_false]))
    have e2' : 0 ≤ y - c.sh := of_decide_eq_true e2
    refine ⟨_, rfl, _, rfl, a, CC, dx, _, _, rfl, ha, T.clC, T.cA, cf_a c, a4, _, _, _, rfl, rfl, hS, at_of (j := c.a.toNat) (by omega) (kAt_get cal h0), _, rfl, kAt ks c.a.toNat, (y - c.sh).toNat, (by rw [int_is e2']; rfl), ?_⟩
    unfold soundsBy at k
    rw [decide_eq_true e1, e2, e3] at k
    exact k
/-! ### least_stop -/
def spLeastS (K : PySem.W.Frag) (CS : Addr) : Sp := fun vs H Q _ => ∃ (a1 a5 : Addr) (sh r q : Nat) (as : List Addr) (ss : List S5) (snd : List Nat), vs = [.ref a1, .int (sh : Nat), .int (r : Nat), .int (q : Nat), .ref a5] ∧
  SqL K H a1 (as.map V.ref) ∧ ObjsAt (StopAt CS H) as ss ∧ SqL K H a5 (natsV snd) ∧ (∀ s ∈ ss, 0 ≤ s.d ∧ s.d.toNat < snd.length ∧ 0 ≤ s.lo) ∧ ∀ H', Same H H' → Q (.int (leastI (pS sh r q snd ss) ss.length)) H'
theorem scLeastS : FnScope ["stops", "stops_held", "rank", "pipe", "sounding", "number", "stop"] ["stops", "stops_held", "rank", "pipe", "sounding"] (defScope tLeastS) := ⟨rfl, rfl, rfl, by decide +kernel, rfl, by decide +kernel, by decide +kernel⟩
theorem ok_leastS (F : Fun K "least_stop" "least_stop" tLeastS f fd) (T : Txt K mg CS CC aT) (D1 : Def P w K mg base 1 "has" g1 d1 ["bits", "number"] spHas) (D2 : Def P w K mg base 2 "speaks_by" g2 d2 ["stop", "rank", "pipe", "sounding"] (spSpBy CS)) :
    FnOk P w K mg base CX0 3 f fd ["stops", "stops_held", "rank", "pipe", "sounding"] (spLeastS K CS) := by
  refine F.ok scLeastS (fun vs H Q E h => ?_) (fun cdv A outer s₀ H vs Q E hr h => ?_)
  · obtain ⟨a1, a5, sh, r, q, as, ss, snd, rfl, _⟩ := h
    rfl
  · obtain ⟨a1, a5, sh, r, q, as, ss, snd, rfl, hS1, hO, hS5, hss, k⟩ := h
    have hr1 : Room 1 _ := hr.mono (by decide)
    refine ⟨_, pss_cons (ps_for PassesOwn.never rfl (pi_enum rfl T.enumerate (pa_cons (pv 0) pa_nil)) (pg_tup rfl (pgs_cons (pg_name (i := 5) scLeastS.nd rfl (Or.inl rfl)) (pgs_cons (pg_name (i := 6) scLeastS.nd rfl (Or.inl rfl)) pgs_nil)))
        (pss_one (ps_if (PW.pt (pw_and (pt_val (pe_d D1 hr1 rfl (pa_cons (pv 1) (pa_cons (pv 5) pa_nil st_name) st_name) st_name (pl_cons st_name pl_nil)))
          (pw_and1 (pt_val (pe_d D2 hr rfl (pa_cons (pv 6) (pa_cons (pv 2) (pa_cons (pv 3) (pa_cons (pe_ix ix_list (pv 4) (pe_fld (pv 6) rfl) (fun _ _ => rfl)) pa_nil st_sub) st_name) st_name) st_name) st_name (pl_cons st_name (pl_cons st_name (pl_cons st_sub pl_nil))))))))
          (pss_one (ps_ret (pv 5))) pss_nil)))
      (pss_one (ps_ret (pe_gi rfl T.noneFound))), ?_⟩
    refine ⟨_, rfl, a1, _, rfl, hS1, for_enum (K := K) (a := a1) (xs := as.map V.ref) (fun i σ H' => ∃ v5 v6 : Option V, σ = [some (.ref a1), some (.int (sh : Int)), some (.int (r : Int)), some (.int (q : Int)), some (.ref a5), v5, v6] ∧ Same H H' ∧ ∀ j : Nat, j < i → pS sh r q snd ss j = false)
      ⟨none, none, rfl, Same.refl H, fun j hj => absurd hj (Nat.not_lt_zero j)⟩ (fun i σ H' _ ⟨_, _, _, s1, _⟩ => s1.seq hS1) ?_ ?_⟩
    · rintro i y σ H1 Tp hi hT ⟨v5, v6, rfl, s1, hall⟩
      obtain ⟨z, hz, rfl⟩ := map_get hi
      obtain ⟨c, hc, hA⟩ := hO.at_ i z hz
      have s2 : Same H (upd H1 Tp (.tup [.int (i : Nat), .ref z])) := s1.trans (Same.new hT)
      obtain ⟨dx, hz2⟩ := hA.same s2
      obtain ⟨d0, dl, lo0⟩ := hss c (List.mem_of_getElem? hc)
      have hpS : pS sh r q snd ss i = (sh.testBit i && speaksBy c r q (snd.getD c.d.toNat 0)) := by unfold pS; rw [hc]
      have kt : pS sh r q snd ss i = false → ∀ j : Nat, j < i + 1 → pS sh r q snd ss j = false := fun e j hj => by
        by_cases hji : j = i
        · subst hji
          exact e
        · exact hall j (by omega)
      have kk : pS sh r q snd ss i = true → Q (.int (i : Int)) (upd H1 Tp (.tup [.int (i : Nat), .ref z])) := fun e => by
        have k := k _ s2
        rw [least_at (List.getElem?_eq_some_iff.mp hc).1 e hall] at k
        exact k
      refine ⟨Tp, _, rfl, SqT.of upd_same, rfl, _, _, rfl, _, _, rfl, rfl, ?_⟩
      refine ⟨_, rfl, _, rfl, sh, i, rfl, _, rfl, ?_⟩
      refine ite2 (fun e1 => ?_) (fun e1 => iteF ⟨_, _, rfl, s2, kt (by rw [Bool.not_eq_true] at e1; rw [hpS, e1]; rfl)⟩)
      refine ⟨_, rfl, _, rfl, _, rfl, _, rfl, _, rfl, z, CS, dx, _, _, rfl, hz2, T.clS, T.sD, sf_d c, a5, _, _, _, rfl, rfl, s2.seq hS5, at_of (j := c.d.toNat) (by omega) (natsV_get dl), z, c, r, q, _, rfl, ⟨dx, hz2⟩, lo0, _, rfl, ?_⟩
      refine ite2 (fun e2 => ⟨_, rfl, kk (by rw [hpS, e1, e2]; rfl)⟩) (fun e2 => ⟨_, _, rfl, s2, kt (by rw [Bool.not_eq_true] at e2; rw [hpS, e2, Bool.and_false])⟩)
    · rintro σ H1 ⟨v5, v6, rfl, s1, hall⟩
      rw [List.length_map, hO.len] at hall
      have k := k H1 s1
      rw [least_none hall] at k
      exact k
/-! ### least_coupler -/
def spLeastC (K : PySem.W.Frag) (CC : Addr) : Sp := fun vs H Q _ => ∃ (a1 a5 : Addr) (ch : Nat) (d y : Int) (as : List Addr) (cs : List C3) (ks : List Int), vs = [.ref a1, .int (ch : Nat), .int d, .int y, .ref a5] ∧
  SqL K H a1 (as.map V.ref) ∧ ObjsAt (CoupAt CC H) as cs ∧ SqL K H a5 (ks.map V.int) ∧ (∀ x ∈ ks, 0 ≤ x) ∧ (∀ c ∈ cs, 0 ≤ c.a ∧ c.a.toNat < ks.length) ∧ ∀ H', Same H H' → Q (.int (leastI (pC ch d y ks cs) cs.length)) H'
theorem scLeastC : FnScope ["couplers", "couplers_held", "division", "key", "keys", "number", "coupler"] ["couplers", "couplers_held", "division", "key", "keys"] (defScope tLeastC) := ⟨rfl, rfl, rfl, by decide +kernel, rfl, by decide +kernel, by decide +kernel⟩
theorem ok_leastC (F : Fun K "least_coupler" "least_coupler" tLeastC f fd) (T : Txt K mg CS CC aT) (D1 : Def P w K mg base 1 "has" g1 d1 ["bits", "number"] spHas) (D2 : Def P w K mg base 2 "sounds_by" g2 d2 ["coupler", "division", "key", "keys"] (spSoBy K CC)) :
    FnOk P w K mg base CX0 3 f fd ["couplers", "couplers_held", "division", "key", "keys"] (spLeastC K CC) := by
  refine F.ok scLeastC (fun vs H Q E h => ?_) (fun cdv A outer s₀ H vs Q E hr h => ?_)
  · obtain ⟨a1, a5, ch, d, y, as, cs, ks, rfl, _⟩ := h
    rfl
  · obtain ⟨a1, a5, ch, d, y, as, cs, ks, rfl, hS1, hO, hS5, h0, hcs, k⟩ := h
    have hr1 : Room 1 _ := hr.mono (by decide)
    refine ⟨_, pss_cons (ps_for PassesOwn.never rfl (pi_enum rfl T.enumerate (pa_cons (pv 0) pa_nil)) (pg_tup rfl (pgs_cons (pg_name (i := 5) scLeastC.nd rfl (Or.inl rfl)) (pgs_cons (pg_name (i := 6) scLeastC.nd rfl (Or.inl rfl)) pgs_nil)))
        (pss_one (ps_if (PW.pt (pw_and (pt_val (pe_d D1 hr1 rfl (pa_cons (pv 1) (pa_cons (pv 5) pa_nil st_name) st_name) st_name (pl_cons st_name pl_nil)))
          (pw_and1 (pt_val (pe_d D2 hr rfl (pa_cons (pv 6) (pa_cons (pv 2) (pa_cons (pv 3) (pa_cons (pv 4) pa_nil st_name) st_name) st_name) st_name) st_name (pl_cons st_name (pl_cons st_name (pl_cons st_name pl_nil))))))))
          (pss_one (ps_ret (pv 5))) pss_nil)))
      (pss_one (ps_ret (pe_gi rfl T.noneFound))), ?_⟩
    refine ⟨_, rfl, a1, _, rfl, hS1, for_enum (K := K) (a := a1) (xs := as.map V.ref) (fun i σ H' => ∃ v5 v6 : Option V, σ = [some (.ref a1), some (.int (ch : Int)), some (.int d), some (.int y), some (.ref a5), v5, v6] ∧ Same H H' ∧ ∀ j : Nat, j < i → pC ch d y ks cs j = false)
      ⟨none, none, rfl, Same.refl H, fun j hj => absurd hj (Nat.not_lt_zero j)⟩ (fun i σ H' _ ⟨_, _, _, s1, _⟩ => s1.seq hS1) ?_ ?_⟩
    · rintro i x σ H1 Tp hi hT ⟨v5, v6, rfl, s1, hall⟩
      obtain ⟨z, hz, rfl⟩ := map_get hi
      obtain ⟨c, hc, hA⟩ := hO.at_ i z hz
      have s2 : Same H (upd H1 Tp (.tup [.int (i : Nat), .ref z])) := s1.trans (Same.new hT)
      obtain ⟨dx, hz2⟩ := hA.same s2
      obtain ⟨ca0, cal⟩ := hcs c (List.mem_of_getElem? hc)
      have hpC : pC ch d y ks cs i = (ch.testBit i && soundsBy c d y ks) := by unfold pC; rw [hc]
      have kt : pC ch d y ks cs i = false → ∀ j : Nat, j < i + 1 → pC ch d y ks cs j = false := fun e j hj => by
        by_cases hji : j = i
        · subst hji
          exact e
        · exact hall j (by omega)
      have kk : pC ch d y ks cs i = true → Q (.int (i : Int)) (upd H1 Tp (.tup [.int (i : Nat), .ref z])) := fun e => by
        have k := k _ s2
        rw [least_at (List.getElem?_eq_some_iff.mp hc).1 e hall] at k
        exact k
      refine ⟨Tp, _, rfl, SqT.of upd_same, rfl, _, _, rfl, _, _, rfl, rfl, ?_⟩
      refine ⟨_, rfl, _, rfl, ch, i, rfl, _, rfl, ?_⟩
      refine ite2 (fun e1 => ?_) (fun e1 => iteF ⟨_, _, rfl, s2, kt (by rw [Bool.not_eq_true] at e1; rw [hpC, e1]; rfl)⟩)
      refine ⟨_, rfl, _, rfl, _, rfl, _, rfl, z, a5, c, d, y, ks, rfl, ⟨dx, hz2⟩, s2.seq hS5, h0, ca0, cal, _, rfl, ?_⟩
      refine ite2 (fun e2 => ⟨_, rfl, kk (by rw [hpC, e1, e2]; rfl)⟩) (fun e2 => ⟨_, _, rfl, s2, kt (by rw [Bool.not_eq_true] at e2; rw [hpC, e2, Bool.and_false])⟩)
    · rintro σ H1 ⟨v5, v6, rfl, s1, hall⟩
      rw [List.length_map, hO.len] at hall
      have k := k H1 s1
      rw [least_none hall] at k
      exact k
end
end Pip

set_option Elab.async false
set_option linter.all false
set_option maxRecDepth 100000
set_option maxHeartbeats 4000000
namespace Pip
open PySem PySem.Spec PyProof.Rows L2
section
variable {P : Program} {w : World} {K : PySem.W.Frag} {mg : Str → Option Value} {base : Heap} {CS CC aT : Addr} {f g1 g2 g3 g4 g5 g6 g7 g8 g9 : Addr} {fd d1 d2 d3 d4 d5 d6 d7 d8 d9 : FuncData}
/-! ### cause_of_key -/
def spCause (K : PySem.W.Frag) (CC : Addr) : Sp := fun vs H Q _ => ∃ (a5 a6 : Addr) (d y ch off : Nat) (as : List Addr) (cs : List C3) (ks : List Int), vs = [.int (d : Nat), .int (y : Nat), .int (ch : Nat), .int (off : Nat), .ref a5, .ref a6] ∧
  SqL K H a5 (as.map V.ref) ∧ ObjsAt (CoupAt CC H) as cs ∧ SqL K H a6 (ks.map V.int) ∧ (∀ x ∈ ks, 0 ≤ x) ∧ d < ks.length ∧ (∀ c ∈ cs, 0 ≤ c.a ∧ c.a.toNat < ks.length) ∧
  (((kAt ks d).testBit y && !off.testBit d) = true ∨ ∃ i, i < cs.length ∧ pC ch (d : Int) (y : Int) ks cs i = true) ∧
  ∀ H' l, Same H H' → H' l = some (.lst ((causeL (d : Int) (y : Int) ch off cs ks).map V.int)) → Q (.ref l) H'
theorem cause_self {d y ch off : Nat} {cs : List C3} {ks : List Int} (h : ((kAt ks d).testBit y && !off.testBit d) = true) : causeL (d : Int) (y : Int) ch off cs ks = [255, (y : Int)] := by
  unfold causeL
  rw [show ((d : Int)).toNat = d by omega, show ((y : Int)).toNat = y by omega, if_pos h]
theorem cause_coup {d y ch off : Nat} {cs : List C3} {ks : List Int} (h : ¬ ((kAt ks d).testBit y && !off.testBit d) = true) (he : ∃ i, i < cs.length ∧ pC ch (d : Int) (y : Int) ks cs i = true) :
    ∃ (i : Nat) (c : C3), cs[i]? = some c ∧ leastI (pC ch (d : Int) (y : Int) ks cs) cs.length = (i : Int) ∧ causeL (d : Int) (y : Int) ch off cs ks = [(i : Int), (y : Int) - c.sh] := by
  obtain ⟨i, hi, hp⟩ := he
  cases ff : (List.range cs.length).find? (pC ch (d : Int) (y : Int) ks cs) with
  | none =>
    rw [List.find?_eq_none] at ff
    exact absurd hp (ff i (List.mem_range.mpr hi))
  | some j =>
    have hj := List.mem_range.mp (List.mem_of_find?_eq_some ff)
    have ej : cs[j]? = some cs[j] := List.getElem?_eq_getElem hj
    refine ⟨j, cs[j], ej, ?_, ?_⟩
    · unfold leastI
      rw [ff]
    · unfold causeL
      rw [show ((d : Int)).toNat = d by omega, show ((y : Int)).toNat = y by omega, if_neg h, ff]
      simp only [ej]
theorem scCause : FnScope ["division", "key", "couplers_held", "off", "couplers", "keys", "number"] ["division", "key", "couplers_held", "off", "couplers", "keys"] (defScope tCause) := ⟨rfl, rfl, rfl, by decide +kernel, rfl, by decide +kernel, by decide +kernel⟩
theorem ok_cause (F : Fun K "cause_of_key" "cause_of_key" tCause f fd) (T : Txt K mg CS CC aT) (D1 : Def P w K mg base 1 "has" g1 d1 ["bits", "number"] spHas) (D2 : Def P w K mg base 3 "least_coupler" g2 d2 ["couplers", "couplers_held", "division", "key", "keys"] (spLeastC K CC)) :
    FnOk P w K mg base CX0 4 f fd ["division", "key", "couplers_held", "off", "couplers", "keys"] (spCause K CC) := by
  refine F.ok scCause (fun vs H Q E h => ?_) (fun cdv A outer s₀ H vs Q E hr h => ?_)
  · obtain ⟨a5, a6, d, y, ch, off, as, cs, ks, rfl, _⟩ := h
    rfl
  · obtain ⟨a5, a6, d, y, ch, off, as, cs, ks, rfl, hS5, hO, hS6, h0, hd, hcs, hso, k⟩ := h
    have hr1 : Room 1 _ := hr.mono (by decide)
    refine ⟨_, pss_cons (ps_if (PW.pt (pw_and (pt_val (pe_d D1 hr1 rfl (pa_cons (pe_ix ix_list (pv 5) (pv 0) (fun _ _ => rfl)) (pa_cons (pv 1) pa_nil st_name) st_sub) st_sub (pl_cons st_name pl_nil)))
          (pw_and1 (pt_not (pt_val (pe_d D1 hr1 rfl (pa_cons (pv 3) (pa_cons (pv 0) pa_nil st_name) st_name) st_name (pl_cons st_name pl_nil)))))))
        (pss_one (ps_ret (pe_lst (pa_cons (pe_gi rfl T.itself) (pa_cons (pv 1) pa_nil st_name) st_name)))) pss_nil)
      (pss_cons (ps_set (i := 6) scCause.nd rfl (Or.inl rfl) (pe_d D2 hr rfl (pa_cons (pv 4) (pa_cons (pv 2) (pa_cons (pv 0) (pa_cons (pv 1) (pa_cons (pv 5) pa_nil st_name) st_name) st_name) st_name) st_name) st_name (pl_cons st_name (pl_cons st_name (pl_cons st_name (pl_cons st_name pl_nil))))))
      (pss_one (ps_ret (pe_lst (pa_cons (pv 6) (pa_cons (pe_op op_sub (pv 1) (pe_fld (pe_ix ix_list (pv 4) (pv 6) (fun _ _ => rfl)) rfl)) pa_nil st_bin) st_name))))), ?_⟩
    refine ⟨_, rfl, _, rfl, a6, _, _, _, rfl, rfl, hS6, at_of (j := d) rfl (kAt_get hd h0), _, rfl, kAt ks d, y, rfl, _, rfl, ?_⟩
    refine ite2 (fun e1 => ?_) (fun e1 => iteF ?_)
    · refine ⟨_, rfl, _, rfl, off, d, rfl, _, rfl, ?_⟩
      refine ite2 (fun e2 => ?_) (fun e2 => ?_)
      · refine ⟨_, rfl, (by show 2 ≤ sizeLine; decide), fun p hp => k _ p (Same.new hp) ?_⟩
        rw [upd_same, cause_self (by rw [e1, e2]; rfl)]
        rfl
      · have hn : ¬ ((kAt ks d).testBit y && !off.testBit d) = true := by
          rw [Bool.not_eq_true] at e2
          rw [e2, Bool.and_false]
          decide
        obtain ⟨i, c, hc, el, ec⟩ := cause_coup (ch := ch) (cs := cs) hn (hso.resolve_left hn)
        obtain ⟨z, hz, hA⟩ := hO.get hc
        refine ⟨_, rfl, _, rfl, _, rfl, _, rfl, _, rfl, a5, a6, ch, (d : Int), (y : Int), as, cs, ks, rfl, hS5, hO, hS6, h0, hcs, fun H1 s1 => ?_⟩
        obtain ⟨dx, hz2⟩ := hA.same s1
        rw [el]
        refine ⟨_, rfl, _, rfl, _, rfl, _, rfl, a5, _, _, _, rfl, rfl, s1.seq hS5, at_of (j := i) rfl (get_map hz), z, CC, dx, _, _, rfl, hz2, T.clC, T.cS, cf_sh c, _, _, rfl, rfl, (by show 2 ≤ sizeLine; decide), fun p hp => k _ p (s1.trans (Same.new hp)) ?_⟩
        rw [upd_same, ec]
        rfl
    · have hn : ¬ ((kAt ks d).testBit y && !off.testBit d) = true := by
        rw [Bool.not_eq_true] at e1
        rw [e1, Bool.false_and]
        decide
      obtain ⟨i, c, hc, el, ec⟩ := cause_coup (ch := ch) (cs := cs) hn (hso.resolve_left hn)
      obtain ⟨z, hz, hA⟩ := hO.get hc
      refine ⟨_, rfl, _, rfl, _, rfl, _, rfl, _, rfl, a5, a6, ch, (d : Int), (y : Int), as, cs, ks, rfl, hS5, hO, hS6, h0, hcs, fun H1 s1 => ?_⟩
      obtain ⟨dx, hz2⟩ := hA.same s1
      rw [el]
      refine ⟨_, rfl, _, rfl, _, rfl, _, rfl, a5, _, _, _, rfl, rfl, s1.seq hS5, at_of (j := i) rfl (get_map hz), z, CC, dx, _, _, rfl, hz2, T.clC, T.cS, cf_sh c, _, _, rfl, rfl, (by show 2 ≤ sizeLine; decide), fun p hp => k _ p (s1.trans (Same.new hp)) ?_⟩
      rw [upd_same, ec]
      rfl
/-! ### why -/
abbrev ps10 : List Str := ["divisions", "stops_held", "couplers_held", "off", "rank", "pipe", "rank_pipes", "stops", "couplers", "keys"]
def spWhy (K : PySem.W.Frag) : Sp := fun vs H Q _ => ∃ (a1 a2 a3 a4 : Addr) (dv sh ch off r q : Nat) (rp st co ks : List Int), vs = [.int (dv : Nat), .int (sh : Nat), .int (ch : Nat), .int (off : Nat), .int (r : Nat), .int (q : Nat), .ref a1, .ref a2, .ref a3, .ref a4] ∧
  SqL K H a1 (rp.map V.int) ∧ SqL K H a2 (st.map V.int) ∧ SqL K H a3 (co.map V.int) ∧ SqL K H a4 (ks.map V.int) ∧ rp.length ≤ 1000 ∧ st.length ≤ 1000 ∧ co.length ≤ 1000 ∧ Asked (dv : Int) (sh : Int) (ch : Int) (off : Int) rp st co ks ∧
  ∀ H' p, H' p = some (.lst ((whyM (dv : Int) sh ch off r q rp st co ks).map V.int)) → Q (.ref p) H'
theorem scWhy : FnScope ["divisions", "stops_held", "couplers_held", "off", "rank", "pipe", "rank_pipes", "stops", "couplers", "keys", "refusal", "all_stops", "all_couplers", "sounding", "number", "stop", "key"] ps10 (defScope tWhy) := ⟨rfl, rfl, rfl, by decide +kernel, rfl, by decide +kernel, by decide +kernel⟩
theorem ok_why (F : Fun K "why" "why" tWhy f fd) (T : Txt K mg CS CC aT) (D1 : Def P w K mg base 6 "refusal_due" g1 d1 ps8 (spRef K)) (D2 : Def P w K mg base 1 "has_pipe" g2 d2 ["rank_pipes", "rank", "pipe"] (spHasP K))
    (D3 : Def P w K mg base 3 "read_stops" g3 d3 ["numbers"] (spReadS K CS)) (D4 : Def P w K mg base 3 "read_couplers" g4 d4 ["numbers"] (spReadC K CC)) (D5 : Def P w K mg base 2 "sounding_keys" g5 d5 ["divisions", "off", "couplers", "keys"] (spSound K CC))
    (D6 : Def P w K mg base 2 "held_ones" g6 d6 ["things", "held"] (spHeld K)) (D7 : Def P w K mg base 3 "least_stop" g7 d7 ["stops", "stops_held", "rank", "pipe", "sounding"] (spLeastS K CS)) (D8 : Def P w K mg base 1 "key_to_pipe" g8 d8 ["stop", "pipe"] (spKeyP CS))
    (D9 : Def P w K mg base 4 "cause_of_key" g9 d9 ["division", "key", "couplers_held", "off", "couplers", "keys"] (spCause K CC)) :
    FnOk P w K mg base CX0 7 f fd ps10 (spWhy K) := by
  refine F.ok scWhy (fun vs H Q E h => ?_) (fun cdv A outer s₀ H vs Q E hr h => ?_)
  · obtain ⟨a1, a2, a3, a4, dv, sh, ch, off, r, q, rp, st, co, ks, rfl, _⟩ := h
    rfl
  · obtain ⟨a1, a2, a3, a4, dv, sh, ch, off, r, q, rp, st, co, ks, rfl, hS1, hS2, hS3, hS4, hl1, hl2, hl3, as, k⟩ := h
    have hr1 : Room 1 _ := hr.mono (by decide)
    have hr2 : Room 2 _ := hr.mono (by decide)
    have hr3 : Room 3 _ := hr.mono (by decide)
    have hr4 : Room 4 _ := hr.mono (by decide)
    refine ⟨_, pss_cons (ps_set (i := 10) scWhy.nd rfl (Or.inl rfl) (pe_d D1 hr rfl (pa_cons (pv 0) (pa_cons (pv 1) (pa_cons (pv 2) (pa_cons (pv 3) (pa_cons (pv 6) (pa_cons (pv 7) (pa_cons (pv 8) (pa_cons (pv 9) pa_nil st_name) st_name) st_name) st_name) st_name) st_name) st_name) st_name) st_name
          (pl_cons st_name (pl_cons st_name (pl_cons st_name (pl_cons st_name (pl_cons st_name (pl_cons st_name (pl_cons st_name pl_nil)))))))))
      (pss_cons (ps_if (pt_cmpR op_ne (pv 10) pe_int (nomark _)) (pss_one (ps_ret (pe_lst (pa_cons (pv 10) pa_nil st_name)))) pss_nil)
      (pss_cons (ps_if (pt_not (pt_val (pe_d D2 hr1 rfl (pa_cons (pv 6) (pa_cons (pv 4) (pa_cons (pv 5) pa_nil st_name) st_name) st_name) st_name (pl_cons st_name (pl_cons st_name pl_nil))))) (pss_one (ps_ret (pe_lst (pa_cons (pe_gi rfl T.silent) pa_nil st_name)))) pss_nil)
      (pss_cons (ps_set (i := 11) scWhy.nd rfl (Or.inl rfl) (pe_d D3 hr3 rfl (pa_cons (pv 7) pa_nil st_name) st_name pl_nil))
      (pss_cons (ps_set (i := 12) scWhy.nd rfl (Or.inl rfl) (pe_d D4 hr3 rfl (pa_cons (pv 8) pa_nil st_name) st_name pl_nil))
      (pss_cons (ps_set (i := 13) scWhy.nd rfl (Or.inl rfl) (pe_d D5 hr2 rfl (pa_cons (pv 0) (pa_cons (pv 3) (pa_cons (pe_d D6 hr2 rfl (pa_cons (pv 12) (pa_cons (pv 2) pa_nil st_name) st_name) st_name (pl_cons st_name pl_nil)) (pa_cons (pv 9) pa_nil st_name) st_call) st_name) st_name) st_name (pl_cons st_name (pl_cons st_call (pl_cons st_name pl_nil)))))
      (pss_cons (ps_set (i := 14) scWhy.nd rfl (Or.inl rfl) (pe_d D7 hr3 rfl (pa_cons (pv 11) (pa_cons (pv 1) (pa_cons (pv 4) (pa_cons (pv 5) (pa_cons (pv 13) pa_nil st_name) st_name) st_name) st_name) st_name) st_name (pl_cons st_name (pl_cons st_name (pl_cons st_name (pl_cons st_name pl_nil))))))
      (pss_cons (ps_if (pt_cmpR op_eq (pv 14) (pe_gi rfl T.noneFound) (nomark _)) (pss_one (ps_ret (pe_lst (pa_cons (pe_gi rfl T.silent) pa_nil st_name)))) pss_nil)
      (pss_cons (ps_set (i := 15) scWhy.nd rfl (Or.inl rfl) (pe_ix ix_list (pv 11) (pv 14) (fun _ _ => rfl)))
      (pss_cons (ps_set (i := 16) scWhy.nd rfl (Or.inl rfl) (pe_d D8 hr1 rfl (pa_cons (pv 15) (pa_cons (pv 5) pa_nil st_name) st_name) st_name (pl_cons st_name pl_nil)))
      (pss_one (ps_ret (pe_op op_cat (pe_lst (pa_cons pe_int (pa_cons (pv 14) (pa_cons (pv 16) pa_nil st_name) st_name) st_con))
        (pe_d D9 hr4 rfl (pa_cons (pe_fld (pv 15) rfl) (pa_cons (pv 16) (pa_cons (pv 2) (pa_cons (pv 3) (pa_cons (pv 12) (pa_cons (pv 9) pa_nil st_name) st_name) st_name) st_name) st_name) st_att) st_att (pl_cons st_name (pl_cons st_name (pl_cons st_name (pl_cons st_name (pl_cons st_name pl_nil)))))))))))))))))), ?_⟩
    have ks0 : ∀ x ∈ ks, 0 ≤ x := fun x hx => (as.hks x hx).1
    refine ⟨_, rfl, _, rfl, _, rfl, _, rfl, _, rfl, _, rfl, _, rfl, _, rfl, a1, a2, a3, a4, dv, sh, ch, off, rp, st, co, ks, rfl, hS1, hS2, hS3, hS4, hl1, hl2, as.st5, hl3, as.co3, ks0, fun H1 s1 => ?_⟩
    refine ⟨_, rfl, rfl, _, rfl, ?_⟩
    refine ite2 (fun e1 => ?_) (fun e1 => ?_)
    · have e1 : refusal (dv : Int) sh ch off rp st co ks ≠ 0 := fun z => by
        rw [z] at e1
        exact absurd e1 (by decide)
      refine ⟨_, rfl, (by show 1 ≤ sizeLine; decide), fun p hp => k _ p ?_⟩
      rw [upd_same]
      unfold whyM
      rw [if_pos e1]
      rfl
    have e1 : refusal (dv : Int) sh ch off rp st co ks = 0 := int_of (ngt e1)
    have o := Ok.of e1
    have hk61 := kAt_lt o
    have hd1 := o.d1
    have hd4 := o.d4
    have hk4 := as.k4
    have e0 : ((dv : Int)).toNat = dv := by omega
    have e1' : ¬ refusal (dv : Int) sh ch off rp st co ks ≠ 0 := fun z => z e1
    -- has_pipe
    refine ⟨_, rfl, _, rfl, _, rfl, a1, rp, r, q, rfl, s1.seq hS1, (fun x hx => (as.hrp x hx).1), _, rfl, ?_⟩
    refine ite2 (fun e2 => ?_) (fun e2 => ?_)
    · have e2 := ngf e2
      rw [Bool.not_eq_true] at e2
      refine ⟨(by show 1 ≤ sizeLine; decide), fun p hp => k _ p ?_⟩
      rw [upd_same]
      unfold whyM
      rw [if_neg e1', if_pos e2]
      rfl
    have e2 : ¬ (decide (r < rp.length) && decide (q < kAt rp r)) = false := by rw [ngt e2]; decide
    -- read_stops, read_couplers
    refine ⟨_, rfl, a2, st, rfl, s1.seq hS2, hl2, as.st5, fun H2 ls ass s2 hLs hOs => ?_⟩
    have s12 := s1.trans s2
    refine ⟨_, rfl, a3, co, rfl, s12.seq hS3, hl3, as.co3, fun H3 lc ac s3 hLc hOc => ?_⟩
    have s13 := s12.trans s3
    have lenc := hOc.len
    rw [readC_len] at lenc
    -- sounding_keys
    refine ⟨_, rfl, _, rfl, _, rfl, _, rfl, lc, ch, ac, rfl, SqL.of hLc, (by omega), fun H4 lh s4 hLh => ?_⟩
    have s14 := s13.trans s4
    have hOc4 : ObjsAt (CoupAt CC H4) (keepL ch ac) (keepL ch (readC co)) := (hOc.mono fun a c h => h.same s4).kept ch
    refine ⟨_, rfl, lh, a4, dv, off, keepL ch ac, keepL ch (readC co), ks, rfl, SqL.of hLh, hOc4, s14.seq hS4, (by omega), (by omega), ks0, hk61, ?_, fun H5 lo s5 hLo => ?_⟩
    · intro c hc
      obtain ⟨i, hi, _⟩ := mem_keep.mp hc
      exact CoupOk.of (o.hco c (List.mem_of_getElem? hi))
    have s25 := s3.trans (s4.trans s5)
    have s35 := s4.trans s5
    have s15 := s14.trans s5
    -- least_stop
    refine ⟨_, rfl, _, rfl, _, rfl, _, rfl, _, rfl, ls, lo, sh, r, q, ass, readS st, soundL dv off (keepL ch (readC co)) ks, rfl, SqL.of (s25 _ _ hLs), hOs.mono (fun a c h => h.same s25), SqL.of hLo, ?_, fun H6 s6 => ?_⟩
    · intro c hc
      obtain ⟨d0, d1, r0, r1, l0, lh, h1, sh0, sh1⟩ := StopOk.of (o.hst c hc)
      rw [sound_len]
      exact ⟨d0, by omega, l0⟩
    have s26 := s25.trans s6
    have s36 := s35.trans s6
    have s16 := s15.trans s6
    refine ⟨_, rfl, rfl, _, rfl, ?_⟩
    cases ff : (List.range (readS st).length).find? (pS sh r q (soundL dv off (keepL ch (readC co)) ks) (readS st)) with
    | none =>
      have el : leastI (pS sh r q (soundL dv off (keepL ch (readC co)) ks) (readS st)) (readS st).length = -1 := by unfold leastI; rw [ff]
      refine ite2 (fun e3 => ?_) (fun e3 => absurd el (int_not e3))
      refine ⟨(by show 1 ≤ sizeLine; decide), fun p hp => k _ p ?_⟩
      rw [upd_same]
      unfold whyM
      rw [if_neg e1', if_neg e2, e0, ff]
      rfl
    | some i =>
      have el : leastI (pS sh r q (soundL dv off (keepL ch (readC co)) ks) (readS st)) (readS st).length = (i : Int) := by unfold leastI; rw [ff]
      refine ite2 (fun e3 => absurd ((int_of e3).symm.trans el) (by omega)) (fun e3 => ?_)
      have hp := find_pS ff
      obtain ⟨s, hs⟩ := pS_some hp
      obtain ⟨k0, k1, k2⟩ := pS_key o hs hp
      obtain ⟨d0, d1, r0, r1, l0, lh', h1, sh0, sh1⟩ := StopOk.of (o.hst s (List.mem_of_getElem? hs))
      obtain ⟨z, hz, hA⟩ := hOs.get hs
      obtain ⟨dx, hz2⟩ := hA.same s26
      have ew : whyM (dv : Int) sh ch off r q rp st co ks = [0, (i : Int), (q : Int) - s.sh] ++ causeL s.d ((q : Int) - s.sh) ch off (readC co) ks := by
        unfold whyM
        rw [if_neg e1', if_neg e2, e0, ff]
        simp only [hs]
      rw [el]
      refine ⟨_, rfl, _, rfl, ls, _, _, _, rfl, rfl, SqL.of (s26 _ _ hLs), at_of (j := i) rfl (get_map hz), ?_⟩
      refine ⟨_, rfl, _, rfl, z, s, _, rfl, ⟨dx, hz2⟩, ?_⟩
      refine ⟨_, rfl, _, rfl, (by show 3 ≤ sizeLine; decide), fun l1 hl1 => ?_⟩
      have s7 : Same H6 (upd H6 l1 (.lst [.int 0, .int (i : Int), .int ((q : Int) - s.sh)])) := Same.new hl1
      have s37 := s36.trans s7
      have s17 := s16.trans s7
      refine ⟨_, rfl, z, CS, dx, _, _, rfl, s7 _ _ hz2, T.clS, T.sD, sf_d s, _, rfl, _, rfl, _, rfl, _, rfl, _, rfl, lc, a4, s.d.toNat, ((q : Int) - s.sh).toNat, ch, off, ac, readC co, ks, (by rw [int_is d0, int_is k0]; rfl),
        SqL.of (s37 _ _ hLc), hOc.mono (fun a c h => h.same s37), s17.seq hS4, ks0, (by omega), ?_, sounds_by o (by omega) (by omega) (by rw [e0]; exact k2), fun H8 l2 s8 hl2 => ?_⟩
      · intro c hc
        obtain ⟨ca0, ca1, cb0, cb1, csh⟩ := CoupOk.of (o.hco c hc)
        exact ⟨ca0, by omega⟩
      refine ⟨l1, l2, _, _, rfl, rfl, s8 _ _ upd_same, hl2, ?_, fun p hp => k _ p ?_⟩
      · rw [List.length_map]
        refine Nat.le_trans (Nat.add_le_add_left (?_ : _ ≤ 2) 3) (by decide)
        unfold causeL
        split
        · exact Nat.le_refl _
        · split
          · split
            · exact Nat.le_refl _
            · exact Nat.zero_le _
          · exact Nat.zero_le _
      · rw [upd_same, ew, List.map_append, show ((s.d.toNat : Nat) : Int) = s.d by omega, show ((((q : Int) - s.sh).toNat : Nat) : Int) = (q : Int) - s.sh by omega]
        rfl
end
end Pip

set_option Elab.async false
set_option linter.all false
set_option maxRecDepth 100000
set_option maxHeartbeats 4000000
namespace Pip
open PySem PySem.Spec PyProof.Rows L2
theorem all_mk {P : Program} {w : World} {K : PySem.W.Frag} {h : Heap} {mg : Str → Option Value} {fa aT CS CC fS fC f0 f1 f2 f3 f4 f5 f6 f7 f8 f9 f10 f11 f12 f13 f14 f15 f16 f17 f18 f19 f20 f21 f22 f23 : Addr} {odIS : Option Addr} {anIS : Option Addr} {slIS : Array (Option Value)} {ocIS kVIS dcIS pmIS cdIS ctIS : Value} {odIC : Option Addr} {anIC : Option Addr} {slIC : Array (Option Value)} {ocIC kVIC dcIC pmIC cdIC ctIC : Value} {od0 : Option Addr} {an0 : Option Addr} {sl0 : Array (Option Value)} {oc0 kV0 dc0 pm0 cd0 ct0 : Value} {od1 : Option Addr} {an1 : Option Addr} {sl1 : Array (Option Value)} {oc1 kV1 dc1 pm1 cd1 ct1 : Value} {od2 : Option Addr} {an2 : Option Addr} {sl2 : Array (Option Value)} {oc2 kV2 dc2 pm2 cd2 ct2 : Value} {od3 : Option Addr} {an3 : Option Addr} {sl3 : Array (Option Value)} {oc3 kV3 dc3 pm3 cd3 ct3 : Value} {od4 : Option Addr} {an4 : Option Addr} {sl4 : Array (Option Value)} {oc4 kV4 dc4 pm4 cd4 ct4 : Value} {od5 : Option Addr} {an5 : Option Addr} {sl5 : Array (Option Value)} {oc5 kV5 dc5 pm5 cd5 ct5 : Value} {od6 : Option Addr} {an6 : Option Addr} {sl6 : Array (Option Value)} {oc6 kV6 dc6 pm6 cd6 ct6 : Value} {od7 : Option Addr} {an7 : Option Addr} {sl7 : Array (Option Value)} {oc7 kV7 dc7 pm7 cd7 ct7 : Value} {od8 : Option Addr} {an8 : Option Addr} {sl8 : Array (Option Value)} {oc8 kV8 dc8 pm8 cd8 ct8 : Value} {od9 : Option Addr} {an9 : Option Addr} {sl9 : Array (Option Value)} {oc9 kV9 dc9 pm9 cd9 ct9 : Value} {od10 : Option Addr} {an10 : Option Addr} {sl10 : Array (Option Value)} {oc10 kV10 dc10 pm10 cd10 ct10 : Value} {od11 : Option Addr} {an11 : Option Addr} {sl11 : Array (Option Value)} {oc11 kV11 dc11 pm11 cd11 ct11 : Value} {od12 : Option Addr} {an12 : Option Addr} {sl12 : Array (Option Value)} {oc12 kV12 dc12 pm12 cd12 ct12 : Value} {od13 : Option Addr} {an13 : Option Addr} {sl13 : Array (Option Value)} {oc13 kV13 dc13 pm13 cd13 ct13 : Value} {od14 : Option Addr} {an14 : Option Addr} {sl14 : Array (Option Value)} {oc14 kV14 dc14 pm14 cd14 ct14 : Value} {od15 : Option Addr} {an15 : Option Addr} {sl15 : Array (Option Value)} {oc15 kV15 dc15 pm15 cd15 ct15 : Value} {od16 : Option Addr} {an16 : Option Addr} {sl16 : Array (Option Value)} {oc16 kV16 dc16 pm16 cd16 ct16 : Value} {od17 : Option Addr} {an17 : Option Addr} {sl17 : Array (Option Value)} {oc17 kV17 dc17 pm17 cd17 ct17 : Value} {od18 : Option Addr} {an18 : Option Addr} {sl18 : Array (Option Value)} {oc18 kV18 dc18 pm18 cd18 ct18 : Value} {od19 : Option Addr} {an19 : Option Addr} {sl19 : Array (Option Value)} {oc19 kV19 dc19 pm19 cd19 ct19 : Value} {od20 : Option Addr} {an20 : Option Addr} {sl20 : Array (Option Value)} {oc20 kV20 dc20 pm20 cd20 ct20 : Value} {od21 : Option Addr} {an21 : Option Addr} {sl21 : Array (Option Value)} {oc21 kV21 dc21 pm21 cd21 ct21 : Value} {od22 : Option Addr} {an22 : Option Addr} {sl22 : Array (Option Value)} {oc22 kV22 dc22 pm22 cd22 ct22 : Value} {od23 : Option Addr} {an23 : Option Addr} {sl23 : Array (Option Value)} {oc23 kV23 dc23 pm23 cd23 ct23 : Value} {t0 t1 t2 t3 t4 t5 t6 t7 t8 t9 t10 t11 t12 t13 t14 : Tok} {tA tB tC : Tok} {odT : Option Addr} {nT : Nat} {slT : Array (Option Value)} (X : K.In h) (G : h.Ns mainGlobals mg) (hfa : mg "why" = some (.ref fa))
    (mCS : PySem.W.nsIn K mainGlobals "Stop" = some (some (.ref CS)))
    (aIS : PySem.W.findIn K (.ref CS) "__init__" = some (some (.ref fS)))
    (iIS : PySem.W.isFn K (.ref fS) = true)
    (lIS : K.lookup fS = some ⟨ocIS, odIS, .func (PySem.W.fnOf "__init__" "Stop.__init__" (defArgs tSInit) (defBody tSInit) (defScope tSInit) .none kVIS dcIS pmIS anIS cdIS ctIS), slIS⟩)
    (cIS : PySem.W.codeIn K cdIS "Stop.__init__" = true)
    (kIS : PySem.W.keepIn K (.ref fS) = true)
    (pgS : PySem.W.plainGet K CS Str.empty = true)
    (hdS : PySem.W.hasDictIn K CS = true)
    (poS : PySem.W.plainOver K CS = true)
    (saS : PySem.W.findIn K (.ref CS) "__setattr__" = some (some (.builtin "object.__setattr__")))
    (mkS : PySem.W.makesIn K CS = true)
    (kcS : PySem.W.keepIn K (.ref CS) = true)
    (nS0 : PySem.W.findIn K (.ref CS) "division" = some none)
    (nS1 : PySem.W.findIn K (.ref CS) "rank" = some none)
    (nS2 : PySem.W.findIn K (.ref CS) "low" = some none)
    (nS3 : PySem.W.findIn K (.ref CS) "high" = some none)
    (nS4 : PySem.W.findIn K (.ref CS) "shift" = some none)
    (mCC : PySem.W.nsIn K mainGlobals "Coupler" = some (some (.ref CC)))
    (aIC : PySem.W.findIn K (.ref CC) "__init__" = some (some (.ref fC)))
    (iIC : PySem.W.isFn K (.ref fC) = true)
    (lIC : K.lookup fC = some ⟨ocIC, odIC, .func (PySem.W.fnOf "__init__" "Coupler.__init__" (defArgs tCInit) (defBody tCInit) (defScope tCInit) .none kVIC dcIC pmIC anIC cdIC ctIC), slIC⟩)
    (cIC : PySem.W.codeIn K cdIC "Coupler.__init__" = true)
    (kIC : PySem.W.keepIn K (.ref fC) = true)
    (pgC : PySem.W.plainGet K CC Str.empty = true)
    (hdC : PySem.W.hasDictIn K CC = true)
    (poC : PySem.W.plainOver K CC = true)
    (saC : PySem.W.findIn K (.ref CC) "__setattr__" = some (some (.builtin "object.__setattr__")))
    (mkC : PySem.W.makesIn K CC = true)
    (kcC : PySem.W.keepIn K (.ref CC) = true)
    (nC0 : PySem.W.findIn K (.ref CC) "source" = some none)
    (nC1 : PySem.W.findIn K (.ref CC) "target" = some none)
    (nC2 : PySem.W.findIn K (.ref CC) "shift" = some none)
    (a0 : PySem.W.nsIn K mainGlobals "read_stops" = some (some (.ref f0)))
    (l0 : K.lookup f0 = some ⟨oc0, od0, .func (PySem.W.fnOf "read_stops" "read_stops" (defArgs tReadS) (defBody tReadS) (defScope tReadS) .none kV0 dc0 pm0 an0 cd0 ct0), sl0⟩)
    (c0 : PySem.W.codeIn K cd0 "read_stops" = true)
    (k0 : PySem.W.keepIn K (.ref f0) = true)
    (a1 : PySem.W.nsIn K mainGlobals "read_couplers" = some (some (.ref f1)))
    (l1 : K.lookup f1 = some ⟨oc1, od1, .func (PySem.W.fnOf "read_couplers" "read_couplers" (defArgs tReadC) (defBody tReadC) (defScope tReadC) .none kV1 dc1 pm1 an1 cd1 ct1), sl1⟩)
    (c1 : PySem.W.codeIn K cd1 "read_couplers" = true)
    (k1 : PySem.W.keepIn K (.ref f1) = true)
    (a2 : PySem.W.nsIn K mainGlobals "is_stop" = some (some (.ref f2)))
    (l2 : K.lookup f2 = some ⟨oc2, od2, .func (PySem.W.fnOf "is_stop" "is_stop" (defArgs tIsS) (defBody tIsS) (defScope tIsS) .none kV2 dc2 pm2 an2 cd2 ct2), sl2⟩)
    (c2 : PySem.W.codeIn K cd2 "is_stop" = true)
    (k2 : PySem.W.keepIn K (.ref f2) = true)
    (a3 : PySem.W.nsIn K mainGlobals "is_coupler" = some (some (.ref f3)))
    (l3 : K.lookup f3 = some ⟨oc3, od3, .func (PySem.W.fnOf "is_coupler" "is_coupler" (defArgs tIsC) (defBody tIsC) (defScope tIsC) .none kV3 dc3 pm3 an3 cd3 ct3), sl3⟩)
    (c3 : PySem.W.codeIn K cd3 "is_coupler" = true)
    (k3 : PySem.W.keepIn K (.ref f3) = true)
    (a4 : PySem.W.nsIn K mainGlobals "are_ranks" = some (some (.ref f4)))
    (l4 : K.lookup f4 = some ⟨oc4, od4, .func (PySem.W.fnOf "are_ranks" "are_ranks" (defArgs tAreR) (defBody tAreR) (defScope tAreR) .none kV4 dc4 pm4 an4 cd4 ct4), sl4⟩)
    (c4 : PySem.W.codeIn K cd4 "are_ranks" = true)
    (k4 : PySem.W.keepIn K (.ref f4) = true)
    (a5 : PySem.W.nsIn K mainGlobals "are_stops" = some (some (.ref f5)))
    (l5 : K.lookup f5 = some ⟨oc5, od5, .func (PySem.W.fnOf "are_stops" "are_stops" (defArgs tAreS) (defBody tAreS) (defScope tAreS) .none kV5 dc5 pm5 an5 cd5 ct5), sl5⟩)
    (c5 : PySem.W.codeIn K cd5 "are_stops" = true)
    (k5 : PySem.W.keepIn K (.ref f5) = true)
    (a6 : PySem.W.nsIn K mainGlobals "are_couplers" = some (some (.ref f6)))
    (l6 : K.lookup f6 = some ⟨oc6, od6, .func (PySem.W.fnOf "are_couplers" "are_couplers" (defArgs tAreC) (defBody tAreC) (defScope tAreC) .none kV6 dc6 pm6 an6 cd6 ct6), sl6⟩)
    (c6 : PySem.W.codeIn K cd6 "are_couplers" = true)
    (k6 : PySem.W.keepIn K (.ref f6) = true)
    (a7 : PySem.W.nsIn K mainGlobals "is_plan" = some (some (.ref f7)))
    (l7 : K.lookup f7 = some ⟨oc7, od7, .func (PySem.W.fnOf "is_plan" "is_plan" (defArgs tIsP) (defBody tIsP) (defScope tIsP) .none kV7 dc7 pm7 an7 cd7 ct7), sl7⟩)
    (c7 : PySem.W.codeIn K cd7 "is_plan" = true)
    (k7 : PySem.W.keepIn K (.ref f7) = true)
    (a8 : PySem.W.nsIn K mainGlobals "has_only" = some (some (.ref f8)))
    (l8 : K.lookup f8 = some ⟨oc8, od8, .func (PySem.W.fnOf "has_only" "has_only" (defArgs tOnly) (defBody tOnly) (defScope tOnly) .none kV8 dc8 pm8 an8 cd8 ct8), sl8⟩)
    (c8 : PySem.W.codeIn K cd8 "has_only" = true)
    (k8 : PySem.W.keepIn K (.ref f8) = true)
    (a9 : PySem.W.nsIn K mainGlobals "are_keys_there" = some (some (.ref f9)))
    (l9 : K.lookup f9 = some ⟨oc9, od9, .func (PySem.W.fnOf "are_keys_there" "are_keys_there" (defArgs tKeys) (defBody tKeys) (defScope tKeys) .none kV9 dc9 pm9 an9 cd9 ct9), sl9⟩)
    (c9 : PySem.W.codeIn K cd9 "are_keys_there" = true)
    (k9 : PySem.W.keepIn K (.ref f9) = true)
    (a10 : PySem.W.nsIn K mainGlobals "refusal_due" = some (some (.ref f10)))
    (l10 : K.lookup f10 = some ⟨oc10, od10, .func (PySem.W.fnOf "refusal_due" "refusal_due" (defArgs tRef) (defBody tRef) (defScope tRef) .none kV10 dc10 pm10 an10 cd10 ct10), sl10⟩)
    (c10 : PySem.W.codeIn K cd10 "refusal_due" = true)
    (k10 : PySem.W.keepIn K (.ref f10) = true)
    (a11 : PySem.W.nsIn K mainGlobals "has" = some (some (.ref f11)))
    (l11 : K.lookup f11 = some ⟨oc11, od11, .func (PySem.W.fnOf "has" "has" (defArgs tHas) (defBody tHas) (defScope tHas) .none kV11 dc11 pm11 an11 cd11 ct11), sl11⟩)
    (c11 : PySem.W.codeIn K cd11 "has" = true)
    (k11 : PySem.W.keepIn K (.ref f11) = true)
    (a12 : PySem.W.nsIn K mainGlobals "first_bits" = some (some (.ref f12)))
    (l12 : K.lookup f12 = some ⟨oc12, od12, .func (PySem.W.fnOf "first_bits" "first_bits" (defArgs tFirst) (defBody tFirst) (defScope tFirst) .none kV12 dc12 pm12 an12 cd12 ct12), sl12⟩)
    (c12 : PySem.W.codeIn K cd12 "first_bits" = true)
    (k12 : PySem.W.keepIn K (.ref f12) = true)
    (a13 : PySem.W.nsIn K mainGlobals "shifted" = some (some (.ref f13)))
    (l13 : K.lookup f13 = some ⟨oc13, od13, .func (PySem.W.fnOf "shifted" "shifted" (defArgs tShift) (defBody tShift) (defScope tShift) .none kV13 dc13 pm13 an13 cd13 ct13), sl13⟩)
    (c13 : PySem.W.codeIn K cd13 "shifted" = true)
    (k13 : PySem.W.keepIn K (.ref f13) = true)
    (a14 : PySem.W.nsIn K mainGlobals "held_ones" = some (some (.ref f14)))
    (l14 : K.lookup f14 = some ⟨oc14, od14, .func (PySem.W.fnOf "held_ones" "held_ones" (defArgs tHeld) (defBody tHeld) (defScope tHeld) .none kV14 dc14 pm14 an14 cd14 ct14), sl14⟩)
    (c14 : PySem.W.codeIn K cd14 "held_ones" = true)
    (k14 : PySem.W.keepIn K (.ref f14) = true)
    (a15 : PySem.W.nsIn K mainGlobals "sounding_keys" = some (some (.ref f15)))
    (l15 : K.lookup f15 = some ⟨oc15, od15, .func (PySem.W.fnOf "sounding_keys" "sounding_keys" (defArgs tSound) (defBody tSound) (defScope tSound) .none kV15 dc15 pm15 an15 cd15 ct15), sl15⟩)
    (c15 : PySem.W.codeIn K cd15 "sounding_keys" = true)
    (k15 : PySem.W.keepIn K (.ref f15) = true)
    (a16 : PySem.W.nsIn K mainGlobals "has_pipe" = some (some (.ref f16)))
    (l16 : K.lookup f16 = some ⟨oc16, od16, .func (PySem.W.fnOf "has_pipe" "has_pipe" (defArgs tHasP) (defBody tHasP) (defScope tHasP) .none kV16 dc16 pm16 an16 cd16 ct16), sl16⟩)
    (c16 : PySem.W.codeIn K cd16 "has_pipe" = true)
    (k16 : PySem.W.keepIn K (.ref f16) = true)
    (a17 : PySem.W.nsIn K mainGlobals "key_to_pipe" = some (some (.ref f17)))
    (l17 : K.lookup f17 = some ⟨oc17, od17, .func (PySem.W.fnOf "key_to_pipe" "key_to_pipe" (defArgs tKeyP) (defBody tKeyP) (defScope tKeyP) .none kV17 dc17 pm17 an17 cd17 ct17), sl17⟩)
    (c17 : PySem.W.codeIn K cd17 "key_to_pipe" = true)
    (k17 : PySem.W.keepIn K (.ref f17) = true)
    (a18 : PySem.W.nsIn K mainGlobals "speaks_by" = some (some (.ref f18)))
    (l18 : K.lookup f18 = some ⟨oc18, od18, .func (PySem.W.fnOf "speaks_by" "speaks_by" (defArgs tSpBy) (defBody tSpBy) (defScope tSpBy) .none kV18 dc18 pm18 an18 cd18 ct18), sl18⟩)
    (c18 : PySem.W.codeIn K cd18 "speaks_by" = true)
    (k18 : PySem.W.keepIn K (.ref f18) = true)
    (a19 : PySem.W.nsIn K mainGlobals "sounds_by" = some (some (.ref f19)))
    (l19 : K.lookup f19 = some ⟨oc19, od19, .func (PySem.W.fnOf "sounds_by" "sounds_by" (defArgs tSoBy) (defBody tSoBy) (defScope tSoBy) .none kV19 dc19 pm19 an19 cd19 ct19), sl19⟩)
    (c19 : PySem.W.codeIn K cd19 "sounds_by" = true)
    (k19 : PySem.W.keepIn K (.ref f19) = true)
    (a20 : PySem.W.nsIn K mainGlobals "least_stop" = some (some (.ref f20)))
    (l20 : K.lookup f20 = some ⟨oc20, od20, .func (PySem.W.fnOf "least_stop" "least_stop" (defArgs tLeastS) (defBody tLeastS) (defScope tLeastS) .none kV20 dc20 pm20 an20 cd20 ct20), sl20⟩)
    (c20 : PySem.W.codeIn K cd20 "least_stop" = true)
    (k20 : PySem.W.keepIn K (.ref f20) = true)
    (a21 : PySem.W.nsIn K mainGlobals "least_coupler" = some (some (.ref f21)))
    (l21 : K.lookup f21 = some ⟨oc21, od21, .func (PySem.W.fnOf "least_coupler" "least_coupler" (defArgs tLeastC) (defBody tLeastC) (defScope tLeastC) .none kV21 dc21 pm21 an21 cd21 ct21), sl21⟩)
    (c21 : PySem.W.codeIn K cd21 "least_coupler" = true)
    (k21 : PySem.W.keepIn K (.ref f21) = true)
    (a22 : PySem.W.nsIn K mainGlobals "cause_of_key" = some (some (.ref f22)))
    (l22 : K.lookup f22 = some ⟨oc22, od22, .func (PySem.W.fnOf "cause_of_key" "cause_of_key" (defArgs tCause) (defBody tCause) (defScope tCause) .none kV22 dc22 pm22 an22 cd22 ct22), sl22⟩)
    (c22 : PySem.W.codeIn K cd22 "cause_of_key" = true)
    (k22 : PySem.W.keepIn K (.ref f22) = true)
    (a23 : PySem.W.nsIn K mainGlobals "why" = some (some (.ref f23)))
    (l23 : K.lookup f23 = some ⟨oc23, od23, .func (PySem.W.fnOf "why" "why" (defArgs tWhy) (defBody tWhy) (defScope tWhy) .none kV23 dc23 pm23 an23 cd23 ct23), sl23⟩)
    (c23 : PySem.W.codeIn K cd23 "why" = true)
    (k23 : PySem.W.keepIn K (.ref f23) = true)
    (z0 : PySem.W.nsIn K mainGlobals "NO_PLAN" = some (some (.int (-22) t0)))
    (z1 : PySem.W.nsIn K mainGlobals "NOT_THERE" = some (some (.int (-71) t1)))
    (z2 : PySem.W.nsIn K mainGlobals "SILENT" = some (some (.int (-2) t2)))
    (z3 : PySem.W.nsIn K mainGlobals "DIVISIONS_MOST" = some (some (.int (4) t3)))
    (z4 : PySem.W.nsIn K mainGlobals "RANKS_MOST" = some (some (.int (16) t4)))
    (z5 : PySem.W.nsIn K mainGlobals "RANK_PIPES_MOST" = some (some (.int (97) t5)))
    (z6 : PySem.W.nsIn K mainGlobals "STOPS_MOST" = some (some (.int (64) t6)))
    (z7 : PySem.W.nsIn K mainGlobals "COUPLERS_MOST" = some (some (.int (32) t7)))
    (z8 : PySem.W.nsIn K mainGlobals "KEYS" = some (some (.int (61) t8)))
    (z9 : PySem.W.nsIn K mainGlobals "STOP_SHIFT_LEAST" = some (some (.int (-60) t9)))
    (z10 : PySem.W.nsIn K mainGlobals "STOP_SHIFT_MOST" = some (some (.int (96) t10)))
    (z11 : PySem.W.nsIn K mainGlobals "NUMBERS_OF_A_STOP" = some (some (.int (5) t11)))
    (z12 : PySem.W.nsIn K mainGlobals "NUMBERS_OF_A_COUPLER" = some (some (.int (3) t12)))
    (z13 : PySem.W.nsIn K mainGlobals "HELD_THERE_ITSELF" = some (some (.int (255) t13)))
    (z14 : PySem.W.nsIn K mainGlobals "NONE_FOUND" = some (some (.int (-1) t14)))
    (mT : PySem.W.nsIn K mainGlobals "COUPLER_SHIFTS" = some (some (.ref aT)))
    (lT : K.lookup aT = some ⟨.type "tuple", odT, .seq #[.int (-12) tA, .int 0 tB, .int 12 tC] nT, slT⟩)
    (b_range : PySem.W.nsIn K mainGlobals "range" = some none)
    (b_len : PySem.W.nsIn K mainGlobals "len" = some none)
    (b_all : PySem.W.nsIn K mainGlobals "all" = some none)
    (b_enumerate : PySem.W.nsIn K mainGlobals "enumerate" = some none) :
    ∃ fd : FuncData, (∀ (s : Shared) (us : List Value), us.length = ps10.length → BindsTo s fd ⟨us, []⟩ (ps10.zip us)) ∧ ∀ base : Heap, K.In base → base.Ns mainGlobals mg → FnOk P w K mg base CX0 7 fa fd ps10 (spWhy K) := by
  have e := hfa.symm.trans (PySem.W.mg_of X G a23)
  cases e
  have T : Txt K mg CS CC aT := {
    clS := ⟨pgS, hdS, poS, saS⟩, clC := ⟨pgC, hdC, poC, saC⟩, sD := nS0, sR := nS1, sL := nS2, sH := nS3, sS := nS4, cA := nC0, cB := nC1, cS := nC2,
    mS := PySem.W.mg_of X G mCS, mC := PySem.W.mg_of X G mCC, mT := PySem.W.mg_of X G mT,
    tup := fun H => .inr ⟨_, #[.int (-12) tA, .int 0 tB, .int 12 tC], nT, lT, rfl, rfl, (by show 3 ≤ sizeLine; decide), .cons ⟨_, rfl⟩ (.cons ⟨_, rfl⟩ (.cons ⟨_, rfl⟩ .nil))⟩,
    noPlan := ⟨_, PySem.W.mg_of X G z0⟩, notThere := ⟨_, PySem.W.mg_of X G z1⟩, silent := ⟨_, PySem.W.mg_of X G z2⟩, divisionsMost := ⟨_, PySem.W.mg_of X G z3⟩, ranksMost := ⟨_, PySem.W.mg_of X G z4⟩, rankPipesMost := ⟨_, PySem.W.mg_of X G z5⟩, stopsMost := ⟨_, PySem.W.mg_of X G z6⟩, couplersMost := ⟨_, PySem.W.mg_of X G z7⟩, keys := ⟨_, PySem.W.mg_of X G z8⟩, shiftLeast := ⟨_, PySem.W.mg_of X G z9⟩, shiftMost := ⟨_, PySem.W.mg_of X G z10⟩, five := ⟨_, PySem.W.mg_of X G z11⟩, three := ⟨_, PySem.W.mg_of X G z12⟩, itself := ⟨_, PySem.W.mg_of X G z13⟩, noneFound := ⟨_, PySem.W.mg_of X G z14⟩,
    range := PySem.W.mg_none_of X G b_range, len := PySem.W.mg_none_of X G b_len, all := PySem.W.mg_none_of X G b_all, enumerate := PySem.W.mg_none_of X G b_enumerate }
  have FIS := fun_mk (st := tSInit) lIS cIS kIS
  have bIS := FIS.binds (ps := ["self", "division", "rank", "low", "high", "shift"]) fun _ _ _ _ _ _ us hl => match us, hl with | [_, _, _, _, _, _], _ => rfl
  have FIC := fun_mk (st := tCInit) lIC cIC kIC
  have bIC := FIC.binds (ps := ["self", "source", "target", "shift"]) fun _ _ _ _ _ _ us hl => match us, hl with | [_, _, _, _], _ => rfl
  have F0 := fun_mk (st := tReadS) l0 c0 k0
  have b0 := F0.binds (ps := ["numbers"]) fun _ _ _ _ _ _ us hl => match us, hl with | [_], _ => rfl
  have F1 := fun_mk (st := tReadC) l1 c1 k1
  have b1 := F1.binds (ps := ["numbers"]) fun _ _ _ _ _ _ us hl => match us, hl with | [_], _ => rfl
  have F2 := fun_mk (st := tIsS) l2 c2 k2
  have b2 := F2.binds (ps := ["stop", "divisions", "ranks"]) fun _ _ _ _ _ _ us hl => match us, hl with | [_, _, _], _ => rfl
  have F3 := fun_mk (st := tIsC) l3 c3 k3
  have b3 := F3.binds (ps := ["coupler", "divisions"]) fun _ _ _ _ _ _ us hl => match us, hl with | [_, _], _ => rfl
  have F4 := fun_mk (st := tAreR) l4 c4 k4
  have b4 := F4.binds (ps := ["rank_pipes"]) fun _ _ _ _ _ _ us hl => match us, hl with | [_], _ => rfl
  have F5 := fun_mk (st := tAreS) l5 c5 k5
  have b5 := F5.binds (ps := ["numbers", "divisions", "ranks"]) fun _ _ _ _ _ _ us hl => match us, hl with | [_, _, _], _ => rfl
  have F6 := fun_mk (st := tAreC) l6 c6 k6
  have b6 := F6.binds (ps := ["numbers", "divisions"]) fun _ _ _ _ _ _ us hl => match us, hl with | [_, _], _ => rfl
  have F7 := fun_mk (st := tIsP) l7 c7 k7
  have b7 := F7.binds (ps := ["divisions", "rank_pipes", "stops", "couplers"]) fun _ _ _ _ _ _ us hl => match us, hl with | [_, _, _, _], _ => rfl
  have F8 := fun_mk (st := tOnly) l8 c8 k8
  have b8 := F8.binds (ps := ["bits", "count"]) fun _ _ _ _ _ _ us hl => match us, hl with | [_, _], _ => rfl
  have F9 := fun_mk (st := tKeys) l9 c9 k9
  have b9 := F9.binds (ps := ["keys", "divisions"]) fun _ _ _ _ _ _ us hl => match us, hl with | [_, _], _ => rfl
  have F10 := fun_mk (st := tRef) l10 c10 k10
  have b10 := F10.binds (ps := ["divisions", "stops_held", "couplers_held", "off", "rank_pipes", "stops", "couplers", "keys"]) fun _ _ _ _ _ _ us hl => match us, hl with | [_, _, _, _, _, _, _, _], _ => rfl
  have F11 := fun_mk (st := tHas) l11 c11 k11
  have b11 := F11.binds (ps := ["bits", "number"]) fun _ _ _ _ _ _ us hl => match us, hl with | [_, _], _ => rfl
  have F12 := fun_mk (st := tFirst) l12 c12 k12
  have b12 := F12.binds (ps := ["count"]) fun _ _ _ _ _ _ us hl => match us, hl with | [_], _ => rfl
  have F13 := fun_mk (st := tShift) l13 c13 k13
  have b13 := F13.binds (ps := ["bits", "shift"]) fun _ _ _ _ _ _ us hl => match us, hl with | [_, _], _ => rfl
  have F14 := fun_mk (st := tHeld) l14 c14 k14
  have b14 := F14.binds (ps := ["things", "held"]) fun _ _ _ _ _ _ us hl => match us, hl with | [_, _], _ => rfl
  have F15 := fun_mk (st := tSound) l15 c15 k15
  have b15 := F15.binds (ps := ["divisions", "off", "couplers", "keys"]) fun _ _ _ _ _ _ us hl => match us, hl with | [_, _, _, _], _ => rfl
  have F16 := fun_mk (st := tHasP) l16 c16 k16
  have b16 := F16.binds (ps := ["rank_pipes", "rank", "pipe"]) fun _ _ _ _ _ _ us hl => match us, hl with | [_, _, _], _ => rfl
  have F17 := fun_mk (st := tKeyP) l17 c17 k17
  have b17 := F17.binds (ps := ["stop", "pipe"]) fun _ _ _ _ _ _ us hl => match us, hl with | [_, _], _ => rfl
  have F18 := fun_mk (st := tSpBy) l18 c18 k18
  have b18 := F18.binds (ps := ["stop", "rank", "pipe", "sounding"]) fun _ _ _ _ _ _ us hl => match us, hl with | [_, _, _, _], _ => rfl
  have F19 := fun_mk (st := tSoBy) l19 c19 k19
  have b19 := F19.binds (ps := ["coupler", "division", "key", "keys"]) fun _ _ _ _ _ _ us hl => match us, hl with | [_, _, _, _], _ => rfl
  have F20 := fun_mk (st := tLeastS) l20 c20 k20
  have b20 := F20.binds (ps := ["stops", "stops_held", "rank", "pipe", "sounding"]) fun _ _ _ _ _ _ us hl => match us, hl with | [_, _, _, _, _], _ => rfl
  have F21 := fun_mk (st := tLeastC) l21 c21 k21
  have b21 := F21.binds (ps := ["couplers", "couplers_held", "division", "key", "keys"]) fun _ _ _ _ _ _ us hl => match us, hl with | [_, _, _, _, _], _ => rfl
  have F22 := fun_mk (st := tCause) l22 c22 k22
  have b22 := F22.binds (ps := ["division", "key", "couplers_held", "off", "couplers", "keys"]) fun _ _ _ _ _ _ us hl => match us, hl with | [_, _, _, _, _, _], _ => rfl
  have F23 := fun_mk (st := tWhy) l23 c23 k23
  have b23 := F23.binds (ps := ["divisions", "stops_held", "couplers_held", "off", "rank", "pipe", "rank_pipes", "stops", "couplers", "keys"]) fun _ _ _ _ _ _ us hl => match us, hl with | [_, _, _, _, _, _, _, _, _, _], _ => rfl
  refine ⟨PySem.W.fnOf "why" "why" (defArgs tWhy) (defBody tWhy) (defScope tWhy) .none kV23 dc23 pm23 an23 cd23 ct23, fun s us hu => match us, hu with | [_, _, _, _, _, _, _, _, _, _], _ => .of_eq rfl, fun base _ _ => ?_⟩
  have D0 : Def P w K mg base 3 "read_stops" f0 _ ["numbers"] (spReadS K CS) := ⟨ok_readS F0 T ⟨mkS, aIS, iIS, kcS⟩ (ok_sinit FIS T) bIS, b0, PySem.W.mg_of X G a0, k0⟩
  have D1 : Def P w K mg base 3 "read_couplers" f1 _ ["numbers"] (spReadC K CC) := ⟨ok_readC F1 T ⟨mkC, aIC, iIC, kcC⟩ (ok_cinit FIC T) bIC, b1, PySem.W.mg_of X G a1, k1⟩
  have D2 : Def P w K mg base 1 "is_stop" f2 _ ["stop", "divisions", "ranks"] (spIsS CS) := ⟨ok_isS F2 T, b2, PySem.W.mg_of X G a2, k2⟩
  have D3 : Def P w K mg base 1 "is_coupler" f3 _ ["coupler", "divisions"] (spIsC CC) := ⟨ok_isC F3 T, b3, PySem.W.mg_of X G a3, k3⟩
  have D4 : Def P w K mg base 1 "are_ranks" f4 _ ["rank_pipes"] (spAreR K) := ⟨ok_areR F4 T, b4, PySem.W.mg_of X G a4, k4⟩
  have D5 : Def P w K mg base 4 "are_stops" f5 _ ["numbers", "divisions", "ranks"] (spAreS K) := ⟨ok_areS F5 T D0 D2, b5, PySem.W.mg_of X G a5, k5⟩
  have D6 : Def P w K mg base 4 "are_couplers" f6 _ ["numbers", "divisions"] (spAreC K) := ⟨ok_areC F6 T D1 D3, b6, PySem.W.mg_of X G a6, k6⟩
  have D7 : Def P w K mg base 5 "is_plan" f7 _ ["divisions", "rank_pipes", "stops", "couplers"] (spIsP K) := ⟨ok_isP F7 T D4 D5 D6, b7, PySem.W.mg_of X G a7, k7⟩
  have D8 : Def P w K mg base 1 "has_only" f8 _ ["bits", "count"] spOnly := ⟨ok_only F8, b8, PySem.W.mg_of X G a8, k8⟩
  have D9 : Def P w K mg base 2 "are_keys_there" f9 _ ["keys", "divisions"] (spKeys K) := ⟨ok_keys F9 T D8, b9, PySem.W.mg_of X G a9, k9⟩
  have D10 : Def P w K mg base 6 "refusal_due" f10 _ ["divisions", "stops_held", "couplers_held", "off", "rank_pipes", "stops", "couplers", "keys"] (spRef K) := ⟨ok_ref F10 T D7 D9 D8, b10, PySem.W.mg_of X G a10, k10⟩
  have D11 : Def P w K mg base 1 "has" f11 _ ["bits", "number"] spHas := ⟨ok_has F11, b11, PySem.W.mg_of X G a11, k11⟩
  have D12 : Def P w K mg base 1 "first_bits" f12 _ ["count"] spFirst := ⟨ok_first F12, b12, PySem.W.mg_of X G a12, k12⟩
  have D13 : Def P w K mg base 1 "shifted" f13 _ ["bits", "shift"] spShift := ⟨ok_shift F13, b13, PySem.W.mg_of X G a13, k13⟩
  have D14 : Def P w K mg base 2 "held_ones" f14 _ ["things", "held"] (spHeld K) := ⟨ok_held F14 T D11, b14, PySem.W.mg_of X G a14, k14⟩
  have D15 : Def P w K mg base 2 "sounding_keys" f15 _ ["divisions", "off", "couplers", "keys"] (spSound K CC) := ⟨ok_sound F15 T D11 D13 D12, b15, PySem.W.mg_of X G a15, k15⟩
  have D16 : Def P w K mg base 1 "has_pipe" f16 _ ["rank_pipes", "rank", "pipe"] (spHasP K) := ⟨ok_hasP F16 T, b16, PySem.W.mg_of X G a16, k16⟩
  have D17 : Def P w K mg base 1 "key_to_pipe" f17 _ ["stop", "pipe"] (spKeyP CS) := ⟨ok_keyP F17 T, b17, PySem.W.mg_of X G a17, k17⟩
  have D18 : Def P w K mg base 2 "speaks_by" f18 _ ["stop", "rank", "pipe", "sounding"] (spSpBy CS) := ⟨ok_spBy F18 T D17 D11, b18, PySem.W.mg_of X G a18, k18⟩
  have D19 : Def P w K mg base 2 "sounds_by" f19 _ ["coupler", "division", "key", "keys"] (spSoBy K CC) := ⟨ok_soBy F19 T D11, b19, PySem.W.mg_of X G a19, k19⟩
  have D20 : Def P w K mg base 3 "least_stop" f20 _ ["stops", "stops_held", "rank", "pipe", "sounding"] (spLeastS K CS) := ⟨ok_leastS F20 T D11 D18, b20, PySem.W.mg_of X G a20, k20⟩
  have D21 : Def P w K mg base 3 "least_coupler" f21 _ ["couplers", "couplers_held", "division", "key", "keys"] (spLeastC K CC) := ⟨ok_leastC F21 T D11 D19, b21, PySem.W.mg_of X G a21, k21⟩
  have D22 : Def P w K mg base 4 "cause_of_key" f22 _ ["division", "key", "couplers_held", "off", "couplers", "keys"] (spCause K CC) := ⟨ok_cause F22 T D11 D21, b22, PySem.W.mg_of X G a22, k22⟩
  exact ok_why F23 T D10 D16 D0 D1 D15 D14 D20 D17 D22
end Pip

set_option Elab.async false
set_option linter.all false
open PySem PySem.W PyProof.Rows
set_option maxRecDepth 100000 in
set_option maxHeartbeats 0 in
theorem PySem.Challenge.cw_keyspipes_s02_why_holds : PySem.Challenge.rw_keyspipes_s02_why.Holds := by
  w_on; k_headS; (case hw => exact ⟨[.int 0, .int 0, .int 0, .int 0, .int 0, .int 0, .list [], .list [], .list [], .list [.int 0, .int 0, .int 0, .int 0]], by decide +kernel, by decide +kernel⟩)
  k_fillS
  refine L2.walk_specK (r := PySem.Challenge.rw_keyspipes_s02_why) (k := 7) (CX := L2.CX0) (ps := Pip.ps10) (sp := Pip.spWhy) (by decide +kernel) rfl rfl ⟨rfl, by decide, by decide⟩ (fun w h Y => PySem.W.kIn_of Y) ?F ?S (fun _ _ _ _ z => z)
  case F =>
    intro w mg fa h Y KX G hmg
    refine' Pip.all_mk KX G hmg ?mCS ?aIS ?iIS ?lIS ?cIS ?kIS ?pgS ?hdS ?poS ?saS ?mkS ?kcS ?nS0 ?nS1 ?nS2 ?nS3 ?nS4 ?mCC ?aIC ?iIC ?lIC ?cIC ?kIC ?pgC ?hdC ?poC ?saC ?mkC ?kcC ?nC0 ?nC1 ?nC2 ?a0 ?l0 ?c0 ?k0 ?a1 ?l1 ?c1 ?k1 ?a2 ?l2 ?c2 ?k2 ?a3 ?l3 ?c3 ?k3 ?a4 ?l4 ?c4 ?k4 ?a5 ?l5 ?c5 ?k5 ?a6 ?l6 ?c6 ?k6 ?a7 ?l7 ?c7 ?k7 ?a8 ?l8 ?c8 ?k8 ?a9 ?l9 ?c9 ?k9 ?a10 ?l10 ?c10 ?k10 ?a11 ?l11 ?c11 ?k11 ?a12 ?l12 ?c12 ?k12 ?a13 ?l13 ?c13 ?k13 ?a14 ?l14 ?c14 ?k14 ?a15 ?l15 ?c15 ?k15 ?a16 ?l16 ?c16 ?k16 ?a17 ?l17 ?c17 ?k17 ?a18 ?l18 ?c18 ?k18 ?a19 ?l19 ?c19 ?k19 ?a20 ?l20 ?c20 ?k20 ?a21 ?l21 ?c21 ?k21 ?a22 ?l22 ?c22 ?k22 ?a23 ?l23 ?c23 ?k23 ?z0 ?z1 ?z2 ?z3 ?z4 ?z5 ?z6 ?z7 ?z8 ?z9 ?z10 ?z11 ?z12 ?z13 ?z14 ?mT ?lT ?b_range ?b_len ?b_all ?b_enumerate
    (case mCS => k_is)
    (case aIS => k_is)
    (case iIS => k_is)
    (case lIS => k_is)
    (case cIS => k_is)
    (case kIS => k_is)
    (case pgS => k_is)
    (case hdS => k_is)
    (case poS => k_is)
    (case saS => k_is)
    (case mkS => k_is)
    (case kcS => k_is)
    (case nS0 => k_is)
    (case nS1 => k_is)
    (case nS2 => k_is)
    (case nS3 => k_is)
    (case nS4 => k_is)
    (case mCC => k_is)
    (case aIC => k_is)
    (case iIC => k_is)
    (case lIC => k_is)
    (case cIC => k_is)
    (case kIC => k_is)
    (case pgC => k_is)
    (case hdC => k_is)
    (case poC => k_is)
    (case saC => k_is)
    (case mkC => k_is)
    (case kcC => k_is)
    (case nC0 => k_is)
    (case nC1 => k_is)
    (case nC2 => k_is)
    (case a0 => k_is)
    (case l0 => k_is)
    (case c0 => k_is)
    (case k0 => k_is)
    (case a1 => k_is)
    (case l1 => k_is)
    (case c1 => k_is)
    (case k1 => k_is)
    (case a2 => k_is)
    (case l2 => k_is)
    (case c2 => k_is)
    (case k2 => k_is)
    (case a3 => k_is)
    (case l3 => k_is)
    (case c3 => k_is)
    (case k3 => k_is)
    (case a4 => k_is)
    (case l4 => k_is)
    (case c4 => k_is)
    (case k4 => k_is)
    (case a5 => k_is)
    (case l5 => k_is)
    (case c5 => k_is)
    (case k5 => k_is)
    (case a6 => k_is)
    (case l6 => k_is)
    (case c6 => k_is)
    (case k6 => k_is)
    (case a7 => k_is)
    (case l7 => k_is)
    (case c7 => k_is)
    (case k7 => k_is)
    (case a8 => k_is)
    (case l8 => k_is)
    (case c8 => k_is)
    (case k8 => k_is)
    (case a9 => k_is)
    (case l9 => k_is)
    (case c9 => k_is)
    (case k9 => k_is)
    (case a10 => k_is)
    (case l10 => k_is)
    (case c10 => k_is)
    (case k10 => k_is)
    (case a11 => k_is)
    (case l11 => k_is)
    (case c11 => k_is)
    (case k11 => k_is)
    (case a12 => k_is)
    (case l12 => k_is)
    (case c12 => k_is)
    (case k12 => k_is)
    (case a13 => k_is)
    (case l13 => k_is)
    (case c13 => k_is)
    (case k13 => k_is)
    (case a14 => k_is)
    (case l14 => k_is)
    (case c14 => k_is)
    (case k14 => k_is)
    (case a15 => k_is)
    (case l15 => k_is)
    (case c15 => k_is)
    (case k15 => k_is)
    (case a16 => k_is)
    (case l16 => k_is)
    (case c16 => k_is)
    (case k16 => k_is)
    (case a17 => k_is)
    (case l17 => k_is)
    (case c17 => k_is)
    (case k17 => k_is)
    (case a18 => k_is)
    (case l18 => k_is)
    (case c18 => k_is)
    (case k18 => k_is)
    (case a19 => k_is)
    (case l19 => k_is)
    (case c19 => k_is)
    (case k19 => k_is)
    (case a20 => k_is)
    (case l20 => k_is)
    (case c20 => k_is)
    (case k20 => k_is)
    (case a21 => k_is)
    (case l21 => k_is)
    (case c21 => k_is)
    (case k21 => k_is)
    (case a22 => k_is)
    (case l22 => k_is)
    (case c22 => k_is)
    (case k22 => k_is)
    (case a23 => k_is)
    (case l23 => k_is)
    (case c23 => k_is)
    (case k23 => k_is)
    (case z0 => k_is)
    (case z1 => k_is)
    (case z2 => k_is)
    (case z3 => k_is)
    (case z4 => k_is)
    (case z5 => k_is)
    (case z6 => k_is)
    (case z7 => k_is)
    (case z8 => k_is)
    (case z9 => k_is)
    (case z10 => k_is)
    (case z11 => k_is)
    (case z12 => k_is)
    (case z13 => k_is)
    (case z14 => k_is)
    (case mT => k_is)
    (case lT => k_is)
    (case b_range => k_is)
    (case b_len => k_is)
    (case b_all => k_is)
    (case b_enumerate => k_is)
  case S =>
    intro K H xs a hO hwi hask hx
    obtain ⟨dv, sh, ch, off, r, q, rp, st, co, ks, u⟩ := a
    have wa : Pip.WhyAsked dv sh ch off r q rp st co ks := Pip.WhyAsked.of hask
    have as := wa.a
    have qq : (Codec.inInt 0 255 dv && (Codec.inInt 0 18446744073709551615 sh && (Codec.inInt 0 4294967295 ch && (Codec.inInt 0 4294967295 off && (Codec.inInt 0 4294967295 r && (Codec.inInt 0 4294967295 q && ((Codec.inLen 0 20 rp && rp.all (Codec.inInt 0 255)) && ((Codec.inLen 0 350 st && st.all (Codec.inInt (-128) 255)) && ((Codec.inLen 0 108 co && co.all (Codec.inInt (-128) 255)) && ((Codec.inLen 4 4 ks && ks.all (Codec.inInt 0 18446744073709551615)) && true)))))))))) = true := hwi
    simp only [Bool.and_eq_true] at qq
    obtain ⟨_, _, _, _, _, _, ⟨q1, _⟩, ⟨q2, _⟩, ⟨q3, _⟩, _⟩ := qq
    have q1 := (Codec.inNat_iff.mp q1).2
    have q2 := (Codec.inNat_iff.mp q2).2
    have q3 := (Codec.inNat_iff.mp q3).2
    obtain ⟨dn, rfl⟩ := Int.eq_ofNat_of_zero_le as.d0
    obtain ⟨sn, rfl⟩ := Int.eq_ofNat_of_zero_le as.s0
    obtain ⟨cn, rfl⟩ := Int.eq_ofNat_of_zero_le as.c0
    obtain ⟨on, rfl⟩ := Int.eq_ofNat_of_zero_le as.o0
    obtain ⟨rn, rfl⟩ := Int.eq_ofNat_of_zero_le wa.r0
    obtain ⟨qn, rfl⟩ := Int.eq_ofNat_of_zero_le wa.q0
    cases hx with
    | cons x1 hx =>
    cases x1
    cases hx with
    | cons x2 hx =>
    cases x2
    cases hx with
    | cons x3 hx =>
    cases x3
    cases hx with
    | cons x4 hx =>
    cases x4
    cases hx with
    | cons x5 hx =>
    cases x5
    cases hx with
    | cons x6 hx =>
    cases x6
    cases hx with
    | cons x7 hx =>
    cases hx with
    | cons x8 hx =>
    cases hx with
    | cons x9 hx =>
    cases hx with
    | cons x10 hx =>
    cases hx
    cases x7 with
    | lst s7 y7 =>
    cases x8 with
    | lst s8 y8 =>
    cases x9 with
    | lst s9 y9 =>
    cases x10 with
    | lst s10 y10 =>
    have e5 := L2.ints_dw rp _ y7
    have e6 := L2.ints_dw st _ y8
    have e7 := L2.ints_dw co _ y9
    have e8 := L2.ints_dw ks _ y10
    subst e5 e6 e7 e8
    refine ⟨_, _, _, _, dn, sn, cn, on, rn, qn, rp, st, co, ks, rfl, s7, s8, s9, s10, (by omega), (by omega), (by omega), as, fun H' p hp => ?_⟩
    rw [← Pip.why_eq as] at hp
    exact .lst (L2.SqL.of hp) (L2.dw_ints _)
#print axioms PySem.Challenge.cw_keyspipes_s02_why_holds

