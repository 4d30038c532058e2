import PyProof.Rows.All
import Wide.All
import OpenK.AllK
import Wide.FinOn
import PyProof.EqAt
import PyProof.EqKinds
import PyProof.TupleCall
import KE.BitLaws
import Open.SpecLaws
import KE.OsHead
import KE.OsGo
import KE.KDictOf
import KE.KDictSum
import PyProof.Rows.SortShellAny
import PyWideLaws
import PySem.Challenge.RW_textcopies_s01_answers
section
set_option Elab.async false
set_option linter.all false
set_option maxRecDepth 100000
namespace L2
open PySem PySem.Spec PyProof.Rows
abbrev Key := Sum Int Str
def keyIs : Key → Value → Bool
  | .inl k, v => Value.isInt k v
  | .inr x, v => Value.isStrOf x v
def keyH (w : World) : Key → Int
  | .inl k => hashInt k
  | .inr x => hashStr w x
theorem keyIs_shape : ∀ {k : Key} {v : Value}, keyIs k v = true → (∃ i t, k = Sum.inl i ∧ v = Value.int i t) ∨ (∃ x t, k = Sum.inr x ∧ v = Value.str x t)
  | .inl i, v, h => by
    obtain ⟨t, e⟩ := Value.isInt_shape (k := i) (v := v) h
    exact .inl ⟨i, t, rfl, e⟩
  | .inr x, v, h => by
    obtain ⟨t, e⟩ := Value.isStrOf_shape (x := x) (v := v) h
    exact .inr ⟨x, t, rfl, e⟩
theorem keyIs_int (i : Int) (t : Tok) : keyIs (.inl i) (.int i t) = true := by simp [keyIs, Value.isInt]
theorem keyIs_str (x : Str) (t : Tok) : keyIs (.inr x) (.str x t) = true := by simp [keyIs, Value.isStrOf]
theorem key_ll (a b : Int) : decide ((Sum.inl a : Key) = Sum.inl b) = (a == b) := by
  by_cases e : a = b
  · subst e; simp
  · have h : ¬ (Sum.inl a : Key) = Sum.inl b := fun q => e (Sum.inl.inj q)
    rw [decide_eq_false h]
    exact (beq_eq_false_iff_ne.mpr e).symm
theorem key_rr (a b : Str) : decide ((Sum.inr a : Key) = Sum.inr b) = decide (a = b) := by
  by_cases e : a = b
  · subst e; simp
  · have h : ¬ (Sum.inr a : Key) = Sum.inr b := fun q => e (Sum.inr.inj q)
    rw [decide_eq_false h, decide_eq_false e]
theorem key_lr (a : Int) (b : Str) : decide ((Sum.inl a : Key) = Sum.inr b) = false := decide_eq_false (fun q => nomatch q)
theorem key_rl (a : Str) (b : Int) : decide ((Sum.inr a : Key) = Sum.inl b) = false := decide_eq_false (fun q => nomatch q)
def mixKind (prog : Program) (w : World) : PySem.KeyKind prog w Key where
  is := keyIs
  hash := keyH w
  inj := fun v a b ha hb => by
    rcases keyIs_shape ha with ⟨i, t, rfl, rfl⟩ | ⟨x, t, rfl, rfl⟩
    · rcases keyIs_shape hb with ⟨j, u, rfl, e⟩ | ⟨y, u, rfl, e⟩
      · injection e with e1 _; rw [e1]
      · exact nomatch e
    · rcases keyIs_shape hb with ⟨j, u, rfl, e⟩ | ⟨y, u, rfl, e⟩
      · exact nomatch e
      · injection e with e1 _; rw [e1]
  byValue := fun k v h => by
    rcases keyIs_shape h with ⟨i, t, rfl, rfl⟩ | ⟨x, t, rfl, rfl⟩ <;> rfl
  pyHash := fun hv h => by
    rcases keyIs_shape hv with ⟨i, t, rfl, rfl⟩ | ⟨x, t, rfl, rfl⟩
    · exact wpAny_pyHash_int h
    · exact wpAny_pyHash_str h
  eqBool := fun hu hv h => by
    rcases keyIs_shape hu with ⟨i, t, rfl, rfl⟩ | ⟨x, t, rfl, rfl⟩
    · rcases keyIs_shape hv with ⟨j, u, rfl, rfl⟩ | ⟨y, u, rfl, rfl⟩
      · rw [key_ll] at h; exact wpAny_eqBool_int h
      · rw [key_lr] at h; exact SeqAt.EqAt.int_str i t y u _ _ _ _ h
    · rcases keyIs_shape hv with ⟨j, u, rfl, rfl⟩ | ⟨y, u, rfl, rfl⟩
      · rw [key_rl] at h; exact SeqAt.EqAt.str_int x t j u _ _ _ _ h
      · rw [key_rr] at h; exact wpAny_eqBool_str h
  «strs» := fun k x t v h => by
    rcases keyIs_shape h with ⟨i, u, rfl, e⟩ | ⟨y, u, rfl, e⟩
    · exact nomatch e
    · injection e with e1 _
      subst e1
      cases v <;> rfl
theorem mixKind_int (prog : Program) (w : World) (i : Int) (t : Tok) : (mixKind prog w).is (.inl i) (.int i t) = true := keyIs_int i t
theorem mixKind_str (prog : Program) (w : World) (x : Str) (t : Tok) : (mixKind prog w).is (.inr x) (.str x t) = true := keyIs_str x t
end L2
namespace L2
open PySem PySem.Spec PyProof.Rows
inductive V where
  | non | bl (b : Bool) | int (i : Int) | str (x : Str) | byt (b : Array UInt8) | flt (b : UInt64) | ref (a : Addr) | ty (n : String)
  deriving DecidableEq
def RelV : V → Value → Prop
  | .non, u => u = Value.none
  | .bl b, u => u = Value.bool b
  | .int i, u => ∃ t, u = Value.int i t
  | .str x, u => ∃ t, u = Value.str x t
  | .byt b, u => ∃ t, u = Value.bytes b t
  | .flt b, u => ∃ t, u = Value.float b t
  | .ref a, u => u = Value.ref a
  | .ty n, u => u = Value.type n
abbrev Vals : List V → List Value → Prop := Paired RelV
theorem Vals.length {xs : List V} {us : List Value} (r : Vals xs us) : xs.length = us.length := Paired.length r
theorem Vals.get : ∀ {xs : List V} {us : List Value} {i : Nat} {x : V}, Vals xs us → xs[i]? = some x → ∃ u, us[i]? = some u ∧ RelV x u
  | _, _, _, _, .nil, e => by simp at e
  | _, _, 0, _, .cons r _, e => by simp at e; subst e; exact ⟨_, rfl, r⟩
  | _, _, i + 1, x, .cons _ t, e => by
    obtain ⟨u, h1, h2⟩ := Vals.get (i := i) (x := x) t (by simpa using e)
    exact ⟨u, by simpa using h1, h2⟩
theorem Vals.set {x : V} {u : Value} (r : RelV x u) : ∀ {xs : List V} {us : List Value} (i : Nat), Vals xs us → Vals (xs.set i x) (us.set i u)
  | _, _, _, .nil => .nil
  | _, _, 0, .cons _ t => .cons r t
  | _, _, i + 1, .cons q t => .cons q (Vals.set r i t)
theorem Vals.append : ∀ {xs ys : List V} {us ws : List Value}, Vals xs us → Vals ys ws → Vals (xs ++ ys) (us ++ ws)
  | _, _, _, _, .nil, s => s
  | _, _, _, _, .cons r t, s => .cons r (Vals.append t s)
theorem Vals.take : ∀ {xs : List V} {us : List Value} (n : Nat), Vals xs us → Vals (xs.take n) (us.take n)
  | _, _, 0, _ => .nil
  | _, _, _ + 1, .nil => .nil
  | _, _, n + 1, .cons r t => .cons r (Vals.take n t)
theorem Vals.drop : ∀ {xs : List V} {us : List Value} (n : Nat), Vals xs us → Vals (xs.drop n) (us.drop n)
  | _, _, 0, r => r
  | _, _, _ + 1, .nil => .nil
  | _, _, n + 1, .cons _ t => Vals.drop n t
def RelO : Option V → Option Value → Prop
  | some v, some u => RelV v u
  | none, none => True
  | _, _ => False
def KV {κ : Type} : List (κ × V) → List (κ × Value) → Prop := Paired fun (p : κ × V) (q : κ × Value) => p.1 = q.1 ∧ RelV p.2 q.2
def kV : Key → V
  | .inl i => .int i
  | .inr x => .str x
inductive HO where
  /-- a list -/
  | lst (xs : List V)
  /-- a tuple (never changes) -/
  | tup (xs : List V)
  /-- a dict whose keys are ints and texts; one whose keys are tuples of ints and texts (the empty one is both) -/
  | dK (kvs : List (Key × V)) | dT (kvs : List (List Key × V))
  /-- a set of ints: its members, its size -/
  | set (S : Int → Bool) (n : Nat)
  /-- an instance of the class at C, its dict at dx, its attributes -/
  | ins (C dx : Addr) (fs : List (Str × V))
  /-- the dict of the instance at x -/
  | own (x : Addr)
  /-- the dict of an exception -/
  | xd (fs : List (Str × V))
  /-- a bound method, f of x -/
  | met (f x : Addr)
  /-- a range object lo, lo + 1, .. below hi -/
  | rng (lo hi : Int)
  /-- a thing that is known to the object (the script; a dict while a loop walks it): read, never written while it is so -/
  | frz (o : Obj) (u : HO)
  /-- a code object's table -/
  | tbl (ps : Array Value)
  /-- any other thing, by what is true of its one object (a def of one's own: SetO a S n := HO.ext fun h => ..) -/
  | ext (φ : Heap → Prop)
abbrev Hp := Addr → Option HO
def upd (H : Hp) (a : Addr) (o : HO) : Hp := fun b => if b = a then some o else H b
theorem upd_same {H : Hp} {a : Addr} {o : HO} : upd H a o a = some o := by unfold upd; rw [if_pos rfl]
theorem upd_ne {H : Hp} {a b : Addr} {o : HO} (h : b ≠ a) : upd H a o b = H b := by unfold upd; rw [if_neg h]
theorem upd_upd {H : Hp} {a : Addr} {o u : HO} : upd (upd H a o) a u = upd H a u := by
  funext b; unfold upd; split <;> rfl
theorem ne_of {H : Hp} {a b : Addr} {o u : HO} (h : H a = some o) (h' : H b = some u) (d : o ≠ u) : a ≠ b := by
  intro e; subst e; rw [h] at h'; exact d (Option.some.inj h')
theorem ne_of_none {H : Hp} {a b : Addr} {o : HO} (h : H a = some o) (h' : H b = none) : a ≠ b := by
  intro e; subst e; rw [h] at h'; cases h'
section
variable (P : Program) (w : World)
def ObjOk (H : Hp) (h : Heap) (a : Addr) : HO → Prop
  | .lst xs => xs.length ≤ sizeLine ∧ ∃ (its : List Value) (n : Nat), Vals xs its ∧ h.get? a = some { cls := .type "list", data := .seq its.toArray n }
  | .tup xs => xs.length ≤ sizeLine ∧ ∃ its : List Value, Vals xs its ∧ IsTup h a its.toArray
  | .dK kvs => kvs.length ≤ sizeLine ∧ (a == sysModules) = false ∧ ∃ vs, KV kvs vs ∧ h.DictOf (mixKind P w) a vs
  | .dT kvs => kvs.length ≤ sizeLine ∧ (a == sysModules) = false ∧ ∃ xs : List (List Key × Addr × Value),
      Paired (fun (p : List Key × V) (q : List Key × Addr × Value) => p.1 = q.1 ∧ H q.2.1 = some (.tup (p.1.map kV)) ∧ RelV p.2 q.2.2) kvs xs ∧
      ∃ o es ep, h.get? a = some o ∧ o.ExactDict ∧ o.data = .dict es ep ∧ es.toList = xs.map (entryOfKey (tupleKind (mixKind P w))) ∧ (xs.map (·.1)).Nodup
  | .set S n => h.SetOf (intKind P w) a S n
  | .ins C dx fs => H dx = some (.own a) ∧ fs.length ≤ 1000 ∧ dx ≠ a ∧ h.get? a = some (PySem.W.instObj C dx) ∧
      ∃ mA, h.Ns1 dx mA ∧ (∀ f, RelO (fs.lookup f) (mA f)) ∧ PySem.Within mA (fs.map (·.1))
  | .own _ => ∃ o, h.get? a = some o
  | .xd fs => ∃ mA, h.Ns1 a mA ∧ ∀ f, RelO (fs.lookup f) (mA f)
  | .rng lo hi => ∃ t u v, h.get? a = some { cls := .type "range", data := .fields #[.int lo t, .int hi u, .int 1 v] }
  | .frz o u => h.get? a = some o ∧ ObjOk H h a u
  | .tbl ps => h.get? a = some { cls := .none, data := .fields ps }
  | .met f x => h.get? a = some (PySem.W.methodObj (.ref f) (.ref x))
  | .ext φ => φ h ∧ (∃ o, h.get? a = some o) ∧ ∀ h1 h2 : Heap, φ h1 → (∀ o, h1.get? a = some o → h2.get? a = some o) → φ h2
def HOk (H : Hp) (h : Heap) : Prop := ∀ a o, H a = some o → ObjOk P w H h a o
end
section
variable {P : Program} {w : World} {H H' : Hp} {h h' : Heap} {a : Addr} {o : HO}
theorem ObjOk.lt (x : ObjOk P w H h a o) : a < h.objs.size := by
  cases o with
  | lst xs => obtain ⟨_, _, _, _, e⟩ := x; exact Heap.lt_size e
  | tup xs => obtain ⟨_, _, _, p⟩ := x; exact p.lt
  | dK kvs => obtain ⟨_, _, _, _, o, _, _, e, _⟩ := x; exact Heap.lt_size e
  | dT kvs => obtain ⟨_, _, _, _, o, _, _, e, _⟩ := x; exact Heap.lt_size e
  | set S n => obtain ⟨o, _, _, _, e, _⟩ := x; exact Heap.lt_size e
  | ins C dx fs => obtain ⟨_, _, _, e, _⟩ := x; exact Heap.lt_size e
  | own y => obtain ⟨_, e⟩ := x; exact Heap.lt_size e
  | xd fs => obtain ⟨_, ⟨_, _, _, e, _⟩, _⟩ := x; exact Heap.lt_size e
  | rng lo hi => obtain ⟨_, _, _, e⟩ := x; exact Heap.lt_size e
  | frz ob u => obtain ⟨e, _⟩ := x; exact Heap.lt_size e
  | tbl ps => exact Heap.lt_size (show h.get? a = some _ from x)
  | met f y => exact Heap.lt_size (show h.get? a = some _ from x)
  | ext φ => obtain ⟨_, ⟨_, e⟩, _⟩ := x; exact Heap.lt_size e
theorem Paired.mapP {α β : Type} {F G : α → β → Prop} : ∀ {l₁ : List α} {l₂ : List β}, Paired F l₁ l₂ → (∀ a b, F a b → G a b) → Paired G l₁ l₂
  | _, _, .nil, _ => .nil
  | _, _, .cons r t, f => .cons (f _ _ r) (Paired.mapP t f)
theorem ObjOk.stay (x : ObjOk P w H h a o) (k : ∀ b u, (b = a ∨ H b = some (.own a)) → h.get? b = some u → h'.get? b = some u)
    (ho : ∀ b, H b = some (.own a) → H' b = some (.own a)) (ht : ∀ b xs, H b = some (.tup xs) → H' b = some (.tup xs)) : ObjOk P w H' h' a o := by
  induction o with
  | lst xs => obtain ⟨z, its, n, r, e⟩ := x; exact ⟨z, its, n, r, k _ _ (.inl rfl) e⟩
  | tup xs => obtain ⟨z, its, r, ob, e, c⟩ := x; exact ⟨z, its, r, ob, k _ _ (.inl rfl) e, c⟩
  | dK kvs => obtain ⟨z, y, vs, r, ob, es, ep, e, c⟩ := x; exact ⟨z, y, vs, r, ob, es, ep, k _ _ (.inl rfl) e, c⟩
  | dT kvs =>
    obtain ⟨z, y, xs, r, ob, es, ep, e, c⟩ := x
    exact ⟨z, y, xs, Paired.mapP r fun p q z => ⟨z.1, ht _ _ z.2.1, z.2.2⟩, ob, es, ep, k _ _ (.inl rfl) e, c⟩
  | set S n => obtain ⟨ob, es, ep, t, e, c⟩ := x; exact ⟨ob, es, ep, t, k _ _ (.inl rfl) e, c⟩
  | ins C dx fs =>
    obtain ⟨d, z, ne, e, mA, ⟨od, es, ep, e2, c⟩, r⟩ := x
    exact ⟨ho _ d, z, ne, k _ _ (.inl rfl) e, mA, ⟨od, es, ep, k _ _ (.inr d) e2, c⟩, r⟩
  | own y => obtain ⟨ob, e⟩ := x; exact ⟨ob, k _ _ (.inl rfl) e⟩
  | xd fs => obtain ⟨mA, ⟨od, es, ep, e, c⟩, r⟩ := x; exact ⟨mA, ⟨od, es, ep, k _ _ (.inl rfl) e, c⟩, r⟩
  | rng lo hi => obtain ⟨t, u, v, e⟩ := x; exact ⟨t, u, v, k _ _ (.inl rfl) e⟩
  | frz ob u ih => obtain ⟨e, q⟩ := x; exact ⟨k _ _ (.inl rfl) e, ih q⟩
  | tbl ps =>
    have e : h.get? a = some { cls := .none, data := .fields ps } := x
    show h'.get? a = some { cls := .none, data := .fields ps }
    exact k a _ (.inl rfl) e
  | met f y =>
    have e : h.get? a = some (PySem.W.methodObj (.ref f) (.ref y)) := x
    show h'.get? a = some (PySem.W.methodObj (.ref f) (.ref y))
    exact k a _ (.inl rfl) e
  | ext φ => obtain ⟨p, ⟨o, e⟩, st⟩ := x; exact ⟨st _ _ p fun o q => k _ _ (.inl rfl) q, ⟨o, k _ _ (.inl rfl) e⟩, st⟩
theorem HOk.lt (x : HOk P w H h) (e : H a = some o) : a < h.objs.size := (x a o e).lt
theorem HOk.fresh (x : HOk P w H h) (e : h.objs.size ≤ a) : H a = none := by
  cases q : H a with
  | none => rfl
  | some u => exact absurd (Nat.lt_of_lt_of_le (x.lt q) e) (Nat.lt_irrefl _)
theorem HOk.kept (x : HOk P w H h) (k : ∀ b u, h.get? b = some u → h'.get? b = some u) : HOk P w H h' := fun a o e =>
  (x a o e).stay (fun b u _ q => k b u q) (fun _ q => q) fun _ _ q => q
theorem HOk.laid (x : HOk P w H h) (k : ∀ b u, h.get? b = some u → h'.get? b = some u) (hp : h.objs.size ≤ a) (new : ObjOk P w (upd H a o) h' a o) : HOk P w (upd H a o) h' := fun b u e => by
  have hn := x.fresh hp
  by_cases hb : b = a
  · subst hb; rw [upd_same] at e; cases e; exact new
  · rw [upd_ne hb] at e
    exact (x b u e).stay (fun c v _ q => k c v q) (fun c q => by rw [upd_ne (ne_of_none q hn)]; exact q) fun c xs q => by rw [upd_ne (ne_of_none q hn)]; exact q
end
def Rd (H : Hp) (a : Addr) (u : HO) : Prop := H a = some u ∨ ∃ o, H a = some (.frz o u)
theorem Rd.ok {P : Program} {w : World} {H : Hp} {h : Heap} {a : Addr} {u : HO} (r : Rd H a u) (x : HOk P w H h) : ObjOk P w H h a u := by
  rcases r with r | ⟨o, r⟩
  · exact x a u r
  · obtain ⟨_, q⟩ := x a _ r
    exact q
def Mut : Option HO → Prop
  | some (.lst _) => True
  | some (.dK _) => True
  | some (.dT _) => True
  | some (.set _ _) => True
  | some (.ins _ _ _) => True
  | some (.ext _) => True
  | _ => False
section
variable {P : Program} {w : World} {H : Hp} {h h' : Heap} {x e : Addr} {o' : HO}
theorem HOk.write (ok : HOk P w H h) (mu : Mut (H x)) (he : e = x ∨ H e = some (.own x)) (k : ∀ b u, b ≠ e → h.get? b = some u → h'.get? b = some u) (heo : ∃ u, h'.get? e = some u)
    (new : ObjOk P w (upd H x o') h' x o') : HOk P w (upd H x o') h' := fun b u q => by
  have nown : ∀ c y, H c = some (.own y) → c ≠ x := fun c y r z => by subst z; rw [r] at mu; exact mu
  have ntup : ∀ c xs, H c = some (.tup xs) → c ≠ x := fun c xs r z => by subst z; rw [r] at mu; exact mu
  by_cases hb : b = x
  · subst hb; rw [upd_same] at q; cases q; exact new
  · rw [upd_ne hb] at q
    by_cases hbe : b = e
    · have q' : H b = some (.own x) := by
        rcases he with z | z
        · exact absurd (hbe.trans z) hb
        · rw [hbe]; exact z
      rw [q] at q'; cases q'
      obtain ⟨v, hv⟩ := heo
      exact ⟨v, by rw [hbe]; exact hv⟩
    · refine (ok b u q).stay (fun c v hc r => k c v ?_ r) (fun c r => by rw [upd_ne (nown c b r)]; exact r) fun c xs r => by rw [upd_ne (ntup c xs r)]; exact r
      rcases hc with rfl | hc
      · exact hbe
      · rintro rfl
        rcases he with z | z
        · exact nown c b hc z
        · rw [hc] at z; cases z; exact hb rfl
end
structure Un (fs ex : List Addr) (H H' : Hp) (h h' : Heap) : Prop where
  keep : ∀ b o, h.get? b = some o → H b = none → b ∉ fs → b ∉ ex → h'.get? b = some o
  slot : ∀ b o, h.get? b = some o → H b = none → b ∈ fs → b ∉ ex → ∃ sl, h'.get? b = some { o with slots := sl }
  free : ∀ b o, h.get? b = some o → H b = none → b ∉ ex → H' b = none
  there : ∀ b o, h.get? b = some o → b ∉ ex → ∃ o', h'.get? b = some o'
  tups : ∀ b xs, H b = some (.tup xs) → H' b = some (.tup xs)
  frzs : ∀ b o u, H b = some (.frz o u) → H' b = some (.frz o u)
  tbls : ∀ b ps, H b = some (.tbl ps) → ∃ more, H' b = some (.tbl (ps ++ more))
section
variable {fs fs' ex ex' : List Addr} {H H1 H2 : Hp} {h h1 h2 h' : Heap} {a x e : Addr} {o : HO}
theorem Un.any (u : Un fs ex H H1 h h1) {b : Addr} {ob : Obj} (q : h.get? b = some ob) (n : H b = none) (hx : b ∉ ex) : ∃ sl, h1.get? b = some { ob with slots := sl } := by
  by_cases hb : b ∈ fs
  · exact u.slot b ob q n hb hx
  · exact ⟨ob.slots, u.keep b ob q n hb hx⟩
theorem Un.kept (k : ∀ b u, h.get? b = some u → h'.get? b = some u) : Un fs ex H H h h' :=
  ⟨fun b ob q _ _ _ => k b ob q, fun b ob q _ _ _ => ⟨ob.slots, k b ob q⟩, fun _ _ _ n _ => n, fun b ob q _ => ⟨ob, k b ob q⟩, fun _ _ q => q, fun _ _ _ q => q, fun _ ps q => ⟨#[], by rw [q]; simp⟩⟩
theorem Un.refl : Un fs ex H H h h := Un.kept fun _ _ q => q
theorem Un.laid (k : ∀ b u, h.get? b = some u → h'.get? b = some u) (hp : h.objs.size ≤ a) (hn : H a = none) : Un fs ex H (upd H a o) h h' where
  keep := fun b u q _ _ _ => k b u q
  slot := fun b u q _ _ _ => ⟨u.slots, k b u q⟩
  free := fun b u q n _ => by rw [upd_ne (Nat.ne_of_lt (Nat.lt_of_lt_of_le (Heap.lt_size q) hp))]; exact n
  there := fun b u q _ => ⟨u, k b u q⟩
  tups := fun b xs q => by rw [upd_ne (ne_of_none q hn)]; exact q
  frzs := fun b u xs q => by rw [upd_ne (ne_of_none q hn)]; exact q
  tbls := fun b ps q => ⟨#[], by rw [upd_ne (ne_of_none q hn), q]; simp⟩
theorem Un.write (mu : Mut (H x)) (he : e = x ∨ H e = some (.own x)) (k : ∀ b u, b ≠ e → h.get? b = some u → h'.get? b = some u) (heo : ∃ u, h'.get? e = some u) : Un fs ex H (upd H x o) h h' := by
  have hx : ∀ b, H b = none → b ≠ x := fun b n z => by subst z; rw [n] at mu; exact mu
  have hb : ∀ b, H b = none → b ≠ e := fun b n z => by
    subst z
    rcases he with r | r
    · exact hx b n r
    · rw [n] at r; cases r
  have hm : ∀ b u, H b = some u → ¬ Mut (some u) → b ≠ x := fun b u q nm z => by subst z; rw [q] at mu; exact nm mu
  refine ⟨fun b u q n _ _ => k b u (hb b n) q, fun b u q n _ _ => ⟨u.slots, k b u (hb b n) q⟩, fun b u q n _ => by rw [upd_ne (hx b n)]; exact n, fun b u q _ => ?_,
    fun b xs q => by rw [upd_ne (hm b _ q fun z => z)]; exact q, fun b u xs q => by rw [upd_ne (hm b _ q fun z => z)]; exact q, fun b ps q => ⟨#[], by rw [upd_ne (hm b _ q fun z => z), q]; simp⟩⟩
  by_cases hbe : b = e
  · subst hbe; exact heo
  · exact ⟨u, k b u hbe q⟩
end
def trk (h : Heap) (H : Hp) : List Addr := (List.range h.objs.size).filter fun a => (H a).isSome
def hidT (h : Heap) (H : Hp) : Heap := PySem.W.hideAll h (trk h H)
theorem hidT_size (h : Heap) (H : Hp) : (hidT h H).objs.size = h.objs.size := PySem.W.hideAll_size _ _
theorem hidT_get {h : Heap} {H : Hp} {b : Addr} {o : Obj} (e : h.get? b = some o) (n : H b = none) : (hidT h H).get? b = some o :=
  PySem.W.hideAll_get _ e fun hm => by
    have q : (H b).isSome = true := (List.mem_filter.mp hm).2
    rw [n] at q; simp at q
theorem of_hidT {h : Heap} {H : Hp} {b : Addr} {o : Obj} (e : (hidT h H).get? b = some o) : h.get? b = some o ∧ H b = none := by
  have e' : h.get? b = some o := PySem.W.of_hideAll (trk h H) e
  refine ⟨e', ?_⟩
  cases q : H b with
  | none => rfl
  | some x =>
    have hm : b ∈ trk h H := List.mem_filter.mpr ⟨List.mem_range.mpr (Heap.lt_size e'), by simp [q]⟩
    have z : (hidT h H).get? b = none := PySem.W.hideAll_none (trk h H) hm
    rw [z] at e; cases e
end L2
namespace L2
open PySem PySem.Spec PyProof.Rows
structure Mod (K : PySem.W.Frag) (mg : Str → Option Value) (base : Heap) : Prop where
  kin : K.In base
  glob : base.Ns mainGlobals mg
  blt : ∃ mb, base.Ns builtinsNs mb ∧ ∀ x : Str, x ≠ "__name__" → mb x = bootBuiltins x
  nolimit : base.NoLimit
structure Cx where
  prog : Program
  w : World
  K : PySem.W.Frag
  mg : Str → Option Value
  base : Heap
  A : Around
  N : List Str
  s_0 : Shared
  H_0 : Hp
  env : Env
  outer : List Env
  stack : List Env
  ex : List Addr
  fn : Str → Bool
  calm : Bool
  pn : List (Addr × Obj)
  xe : Value → Shared → Prop
def frs (l : List Env) : List Addr := l.filterMap (·.frame)
abbrev Cx.fs (X : Cx) : List Addr := frs X.outer
def Vis (sc : Scope) (x : Str) : Prop := sc.names.lookup x = some .local ∨ sc.names.lookup x = some .cell ∨ sc.names.lookup x = some .free
def Loc (sc : Scope) (x : Str) : Prop := sc.names.lookup x = some .local ∨ sc.names.lookup x = some .cell
def Look (env : Env) (h : Heap) (m : Str → Option Value) (x : Str) (u : Value) : Prop :=
  (env.kindOf x = some .local ∧ m x = some u) ∨ ((env.kindOf x = some .cell ∨ env.kindOf x = some .free) ∧ ∃ c, env.cells.lookup x = some c ∧ h.IsCell c (some u))
structure Cx.Ok (X : Cx) : Prop where
  mod : Mod X.K X.mg X.base
  kind : X.env.scope.kind = .function
  glob : X.env.globals = mainGlobals
  blt : X.env.builtins = builtinsNs
  above : X.s_0.heap.objs.size ≤ X.env.locals
  inj : ∀ x y c, X.env.cells.lookup x = some c → X.env.cells.lookup y = some c → x = y
  has : ∀ x, (X.env.kindOf x = some .cell ∨ X.env.kindOf x = some .free) → ∃ c, X.env.cells.lookup x = some c
  cab : ∀ x c, X.fn x = true → X.env.cells.lookup x = some c → X.s_0.heap.objs.size ≤ c
  hd : X.calm = true → X.A.handled = none
  frames : X.A.frames = some X.stack
  stk : X.stack = X.outer ∨ (X.stack = X.env :: X.outer ∧ X.env.frame = some X.env.locals)
  exf : ∀ b ∈ X.ex, b ≠ X.env.locals ∧ ∀ x c, X.env.cells.lookup x = some c → c ≠ b
  bs : ∀ b o, X.base.get? b = some o → X.s_0.heap.get? b = some o ∧ X.H_0 b = none
  bsz : X.base.objs.size ≤ X.s_0.heap.objs.size
  noex : ∀ b o, X.base.get? b = some o → b ∉ X.ex
  exfs : ∀ b ∈ X.ex, b ∉ X.fs
  funs : X.s_0.heap.FunFrames X.base X.outer
  frf : ∀ b ∈ X.fs, X.H_0 b = none
structure Inv (X : Cx) (pins : List (Addr × Obj)) (σ : List (Option V)) (H : Hp) (s : Shared) : Prop where
  ok : X.Ok
  os : s.os = X.s_0.os
  bare : AllBare s.gens
  base : Un X.fs X.ex X.H_0 H X.s_0.heap s.heap
  loc : ∃ m, s.heap.Ns X.env.locals m ∧ ∀ (i : Nat) (x : Str) (v : V), X.N[i]? = some x → σ[i]? = some (some v) → Vis X.env.scope x → ∃ u, RelV v u ∧ Look X.env s.heap m x u
  cell : ∀ x c, X.env.cells.lookup x = some c → ∃ v, s.heap.IsCell c v
  free : H X.env.locals = none
  freeC : ∀ x c, X.env.cells.lookup x = some c → H c = none
  pin : ∀ p ∈ X.pn ++ pins, s.heap.get? p.1 = some p.2 ∧ H p.1 = none ∧ p.1 ≠ X.env.locals ∧ p.1 ∉ X.fs ∧ ∀ v, p.2.data ≠ .cell v
  hok : HOk X.prog X.w H s.heap
  len : σ.length = X.N.length
section
variable {X : Cx} {pins : List (Addr × Obj)} {σ : List (Option V)} {H H' : Hp} {s : Shared} {h' : Heap}
theorem Cx.Ok.nofr (ok : X.Ok) {b : Addr} {o : Obj} (e : X.base.get? b = some o) : b ∉ X.fs := fun hb => by
  have := (ok.funs.mem hb).1
  rw [e] at this; cases this
theorem Inv.bs (I : Inv X pins σ H s) : ∀ b o, X.base.get? b = some o → s.heap.get? b = some o ∧ H b = none := fun b o e =>
  ⟨I.base.keep b o (I.ok.bs b o e).1 (I.ok.bs b o e).2 (I.ok.nofr e) (I.ok.noex b o e), I.base.free b o (I.ok.bs b o e).1 (I.ok.bs b o e).2 (I.ok.noex b o e)⟩
theorem Inv.bk (I : Inv X pins σ H s) : ∀ b o, X.base.get? b = some o → s.heap.get? b = some o := fun b o e => (I.bs b o e).1
theorem Inv.mod (I : Inv X pins σ H s) : Mod X.K X.mg X.base := I.ok.mod
theorem Inv.kIn (I : Inv X pins σ H s) : X.K.In s.heap := I.ok.mod.kin.keeps I.bk
theorem Inv.fr (I : Inv X pins σ H s) : ∃ m, Fr X.base X.env.locals s.heap m :=
  let ⟨m, hn, _⟩ := I.loc
  ⟨m, hn, I.bk, Nat.le_trans I.ok.bsz I.ok.above⟩
theorem Inv.lt (I : Inv X pins σ H s) : X.env.locals < s.heap.objs.size := let ⟨_, hn, _⟩ := I.loc; hn.lt
theorem Inv.sz (I : Inv X pins σ H s) : X.s_0.heap.objs.size ≤ s.heap.objs.size := Nat.le_trans I.ok.above (Nat.le_of_lt I.lt)
theorem Inv.nofs (I : Inv X pins σ H s) {a : Addr} (h : s.heap.objs.size ≤ a) : a ∉ X.fs := fun hb => by
  obtain ⟨_, o, ho, _⟩ := I.ok.funs.mem hb
  exact absurd (Nat.lt_of_lt_of_le (Heap.lt_size ho) (Nat.le_trans I.sz h)) (Nat.lt_irrefl _)
theorem Inv.cne (I : Inv X pins σ H s) : ∀ x c, X.env.cells.lookup x = some c → c ≠ X.env.locals := fun x c e z => by
  obtain ⟨v, o, ho, hd⟩ := I.cell x c e
  obtain ⟨m, ⟨o', es, ep, ho', hd', _⟩, _⟩ := I.loc
  rw [z, ho'] at ho; cases ho; rw [hd'] at hd; cases hd
theorem Inv.funs (I : Inv X pins σ H s) : s.heap.FunFrames X.base X.outer := by
  have all : ∀ (l : List Env), (∀ b ∈ frs l, b ∈ X.fs) → X.s_0.heap.FunFrames X.base l → s.heap.FunFrames X.base l := by
    intro l
    induction l with
    | nil => intro _ _; trivial
    | cons env r ih =>
      intro hs hl
      obtain ⟨hk, ⟨L, o, hf, hn, ho, hd⟩, hr⟩ := hl
      have hL : L ∈ X.fs := hs L (by unfold frs; rw [List.filterMap_cons, hf]; exact List.mem_cons_self)
      obtain ⟨sl, e⟩ := I.base.slot L o ho (I.ok.frf L hL) hL fun z => I.ok.exfs L z hL
      exact ⟨hk, ⟨L, _, hf, hn, e, hd⟩, ih (fun b hb => hs b (by unfold frs; rw [List.filterMap_cons, hf]; exact List.mem_cons_of_mem _ hb)) hr⟩
  exact all X.outer (fun _ hb => hb) I.ok.funs
theorem Inv.stack (I : Inv X pins σ H s) : s.heap.FunFrames X.base X.stack := by
  rcases I.ok.stk with e | ⟨e, hf⟩
  · rw [e]; exact I.funs
  · rw [e]
    obtain ⟨m, hn, _⟩ := I.loc
    refine .cons (by rw [I.ok.kind]; decide) hf hn ?_ I.funs
    exact Heap.get?_none_of_le (Nat.le_trans I.ok.bsz I.ok.above)
theorem Inv.stkSub (I : Inv X pins σ H s) : ∀ b ∈ frs X.stack, b ∈ X.env.locals :: X.fs := fun b hb => by
  rcases I.ok.stk with e | ⟨e, hf⟩
  · rw [e] at hb; exact List.mem_cons_of_mem _ hb
  · rw [e] at hb
    unfold frs at hb
    rw [List.filterMap_cons, hf] at hb
    exact hb
theorem Inv.stkFree (I : Inv X pins σ H s) : ∀ b ∈ frs X.stack, H b = none := fun b hb => by
  rcases List.mem_cons.mp (I.stkSub b hb) with e | hb
  · rw [e]; exact I.free
  · obtain ⟨_, o, ho, _⟩ := I.ok.funs.mem hb
    exact I.base.free b o ho (I.ok.frf b hb) fun z => I.ok.exfs b z hb
theorem Inv.step {g' : Array GenState} {t' : Nat} {d' : Drawn} {ch : List Addr} (I : Inv X pins σ H s)
    (hch : ∀ b ∈ ch, (b ∈ X.ex ∨ X.s_0.heap.objs.size ≤ b) ∧ b ≠ X.env.locals ∧ (∀ x c, X.env.cells.lookup x = some c → c ≠ b) ∧ ∀ p ∈ X.pn ++ pins, p.1 ≠ b)
    (keep : ∀ b o, b ≠ X.env.locals → b ∉ X.fs → b ∉ ch → s.heap.get? b = some o → H b = none → h'.get? b = some o)
    (slot : ∀ b o, b ≠ X.env.locals → b ∈ X.fs → b ∉ ch → s.heap.get? b = some o → H b = none → ∃ sl, h'.get? b = some { o with slots := sl }) (free : ∀ b o, b ∉ ch → s.heap.get? b = some o → H b = none → H' b = none)
    (there : ∀ b o, b ∉ ch → s.heap.get? b = some o → ∃ o', h'.get? b = some o')
    (tups : ∀ b xs, H b = some (.tup xs) → H' b = some (.tup xs)) (frzs : ∀ b o u, H b = some (.frz o u) → H' b = some (.frz o u)) (tbls : ∀ b ps, H b = some (.tbl ps) → ∃ more, H' b = some (.tbl (ps ++ more)))
    (ns : ∀ m, s.heap.Ns X.env.locals m → h'.Ns X.env.locals m) (hok : HOk X.prog X.w H' h') (hg : AllBare g') :
    Inv X pins σ H' { s with heap := h', gens := g', drawn := d', toks := t' } := by
  have neL : ∀ b o, X.s_0.heap.get? b = some o → b ≠ X.env.locals := fun b o e => Nat.ne_of_lt (Nat.lt_of_lt_of_le (Heap.lt_size e) I.ok.above)
  have neC : ∀ b o, X.s_0.heap.get? b = some o → b ∉ X.ex → b ∉ ch := fun b o e hx hb => by
    rcases (hch b hb).1 with z | z
    · exact hx z
    · exact absurd (Nat.lt_of_lt_of_le (Heap.lt_size e) z) (Nat.lt_irrefl _)
  have cellK : ∀ x c, X.env.cells.lookup x = some c → ∀ v, s.heap.IsCell c v → h'.IsCell c v := fun x c e v ⟨o, ho, hd⟩ => by
    have nch : c ∉ ch := fun z => (hch c z).2.2.1 x c e rfl
    by_cases hc : c ∈ X.fs
    · obtain ⟨sl, q⟩ := slot c o (I.cne x c e) hc nch ho (I.freeC x c e)
      exact ⟨_, q, hd⟩
    · exact ⟨o, keep c o (I.cne x c e) hc nch ho (I.freeC x c e), hd⟩
  refine ⟨I.ok, I.os, hg, ⟨fun b o e n hb hx => ?_, fun b o e n hb hx => ?_, fun b o e n hx => ?_, fun b o e hx => ?_, fun b xs e => tups b xs (I.base.tups b xs e), fun b o xs e => frzs b o xs (I.base.frzs b o xs e), fun b ps e => ?_⟩, ?_, fun x c e => ?_, ?_, fun x c e => ?_, fun p hp => ?_, hok, I.len⟩
  · exact keep b o (neL b o e) hb (neC b o e hx) (I.base.keep b o e n hb hx) (I.base.free b o e n hx)
  · obtain ⟨sl, e1⟩ := I.base.slot b o e n hb hx
    obtain ⟨sl', e2⟩ := slot b _ (neL b o e) hb (neC b o e hx) e1 (I.base.free b o e n hx)
    exact ⟨sl', e2⟩
  · obtain ⟨o', e1⟩ := I.base.there b o e hx
    exact free b o' (neC b o e hx) e1 (I.base.free b o e n hx)
  · obtain ⟨o', e1⟩ := I.base.there b o e hx
    exact there b o' (neC b o e hx) e1
  · obtain ⟨m1, e1⟩ := I.base.tbls b ps e
    obtain ⟨m2, e2⟩ := tbls b _ e1
    exact ⟨m1 ++ m2, by rw [e2, Array.append_assoc]⟩
  · obtain ⟨m, hn, hl⟩ := I.loc
    refine ⟨m, ns m hn, fun i x v e1 e2 e3 => ?_⟩
    obtain ⟨u, r, l⟩ := hl i x v e1 e2 e3
    refine ⟨u, r, ?_⟩
    rcases l with l | ⟨k, c, e, z⟩
    · exact .inl l
    · exact .inr ⟨k, c, e, cellK x c e _ z⟩
  · obtain ⟨v, z⟩ := I.cell x c e
    exact ⟨v, cellK x c e v z⟩
  · obtain ⟨m, ⟨o, _, _, ho, _⟩, _⟩ := I.loc
    exact free _ o (fun z => (hch _ z).2.1 rfl) ho I.free
  · obtain ⟨v, o, ho, hd⟩ := I.cell x c e
    exact free c o (fun z => (hch c z).2.2.1 x c e rfl) ho (I.freeC x c e)
  · obtain ⟨e, n, ne, nf, d⟩ := I.pin p hp
    have nch : p.1 ∉ ch := fun z => (hch p.1 z).2.2.2 p hp rfl
    exact ⟨keep p.1 p.2 ne nf nch e n, free p.1 p.2 nch e n, ne, nf, d⟩
theorem Inv.un {t' : Nat} (I : Inv X pins σ H s) (u : Un X.fs [] H H' s.heap h') (hok : HOk X.prog X.w H' h') : Inv X pins σ H' { s with heap := h', toks := t' } := by
  obtain ⟨m, ⟨o, es, ep, ho, r⟩, _⟩ := id I.loc
  obtain ⟨sl, hL⟩ := u.any ho I.free (by simp)
  exact I.step (g' := s.gens) (d' := s.drawn) (ch := []) (fun _ z => nomatch z) (fun b o _ hb _ e n => u.keep b o e n hb (by simp)) (fun b o _ hb _ e n => u.slot b o e n hb (by simp)) (fun b o _ e n => u.free b o e n (by simp)) (fun b o _ e => u.there b o e (by simp)) u.tups u.frzs u.tbls (fun m' hm => by
    obtain ⟨o', es', ep', ho', r'⟩ := hm
    rw [ho] at ho'; cases ho'
    exact ⟨_, es', ep', hL, r'⟩) hok I.bare
theorem Inv.call {g' : Array GenState} {t' : Nat} {d' : Drawn} {ch : List Addr} (I : Inv X pins σ H s) (u : Un (frs X.stack) ch H H' s.heap h') (hok : HOk X.prog X.w H' h') (hg : AllBare g')
    (hch : ∀ b ∈ ch, (b ∈ X.ex ∨ X.s_0.heap.objs.size ≤ b) ∧ b ≠ X.env.locals ∧ (∀ x c, X.env.cells.lookup x = some c → c ≠ b) ∧ ∀ p ∈ X.pn ++ pins, p.1 ≠ b) :
    Inv X pins σ H' { s with heap := h', gens := g', drawn := d', toks := t' } := by
  obtain ⟨m, ⟨o, es, ep, ho, r⟩, _⟩ := id I.loc
  obtain ⟨sl, hL⟩ := u.any ho I.free fun z => (hch _ z).2.1 rfl
  exact I.step (ch := ch) hch (fun b o hL hb hc e n => u.keep b o e n (fun z => (List.mem_cons.mp (I.stkSub b z)).elim hL hb) hc) (fun b o _ _ hc e n => u.any e n hc) (fun b o hc e n => u.free b o e n hc) (fun b o hc e => u.there b o e hc) u.tups u.frzs u.tbls (fun m' hm => by
    obtain ⟨o', es', ep', ho', r'⟩ := hm
    rw [ho] at ho'; cases ho'
    exact ⟨_, es', ep', hL, r'⟩) hok hg
theorem Inv.turned {t' : Nat} {it : Addr} (I : Inv X pins σ H s) (k : ∀ b o, b ≠ it → s.heap.get? b = some o → h'.get? b = some o) (hn : H it = none) (hL : it ≠ X.env.locals)
    (h1 : it ∈ X.ex ∨ X.s_0.heap.objs.size ≤ it) (h2 : ∀ x c, X.env.cells.lookup x = some c → c ≠ it) (h3 : ∀ p ∈ X.pn ++ pins, p.1 ≠ it) : Inv X pins σ H { s with heap := h', toks := t' } := by
  have nit : ∀ b u, H b = some u → b ≠ it := fun b u e z => by rw [z, hn] at e; cases e
  refine I.step (g' := s.gens) (d' := s.drawn) (ch := [it]) (fun b hb => ?_) (fun b o _ _ hc e _ => k b o (fun z => hc (by simp [z])) e) (fun b o _ _ hc e _ => ⟨o.slots, k b o (fun z => hc (by simp [z])) e⟩) (fun _ _ _ _ n => n)
    (fun b o hc e => ⟨o, k b o (fun z => hc (by simp [z])) e⟩) (fun _ _ e => e) (fun _ _ _ e => e) (fun b ps e => ⟨#[], by rw [e]; simp⟩) (fun m hm => ?_) (fun b u e => ?_) I.bare
  · have e : b = it := by simpa using hb
    subst e
    exact ⟨h1, hL, h2, h3⟩
  · obtain ⟨o, es, ep, ho, r⟩ := hm
    exact ⟨o, es, ep, k _ o (Ne.symm hL) ho, r⟩
  · refine (I.hok b u e).stay (fun c v hc q => k c v ?_ q) (fun _ q => q) fun _ _ q => q
    rcases hc with z | z
    · rw [z]; exact nit b u e
    · exact nit c _ z
theorem Inv.tok (I : Inv X pins σ H s) (t : Nat) : Inv X pins σ H { s with toks := t } := I.un (h' := s.heap) (t' := t) Un.refl I.hok
theorem Inv.kept {t' : Nat} (I : Inv X pins σ H s) (k : ∀ b u, s.heap.get? b = some u → h'.get? b = some u) : Inv X pins σ H { s with heap := h', toks := t' } := I.un (Un.kept k) (I.hok.kept k)
theorem Inv.laid {a : Addr} {o : HO} {t' : Nat} (I : Inv X pins σ H s) (k : ∀ b u, s.heap.get? b = some u → h'.get? b = some u) (hp : s.heap.objs.size ≤ a) (new : ObjOk X.prog X.w (upd H a o) h' a o) :
    Inv X pins σ (upd H a o) { s with heap := h', toks := t' } := I.un (Un.laid k hp (I.hok.fresh hp)) (I.hok.laid k hp new)
theorem Inv.write {x e : Addr} {o : HO} {t' : Nat} (I : Inv X pins σ H s) (mu : Mut (H x)) (he : e = x ∨ H e = some (.own x)) (k : ∀ b u, b ≠ e → s.heap.get? b = some u → h'.get? b = some u) (heo : ∃ u, h'.get? e = some u)
    (new : ObjOk X.prog X.w (upd H x o) h' x o) : Inv X pins σ (upd H x o) { s with heap := h', toks := t' } := I.un (Un.write mu he k heo) (I.hok.write mu he k heo new)
theorem Inv.weak {σ' : List (Option V)} (I : Inv X pins σ H s) (hl : σ'.length = σ.length) (w : ∀ (i : Nat) v, σ'[i]? = some (some v) → σ[i]? = some (some v)) : Inv X pins σ' H s :=
  ⟨I.ok, I.os, I.bare, I.base, let ⟨m, hn, hl'⟩ := I.loc; ⟨m, hn, fun i x v e1 e2 e3 => hl' i x v e1 (w i v e2) e3⟩, I.cell, I.free, I.freeC, I.pin, I.hok, hl.trans I.len⟩
theorem Inv.pins_of {pins' : List (Addr × Obj)} (I : Inv X pins σ H s) (h : ∀ p ∈ pins', s.heap.get? p.1 = some p.2 ∧ H p.1 = none ∧ p.1 ≠ X.env.locals ∧ p.1 ∉ X.fs ∧ ∀ v, p.2.data ≠ .cell v) : Inv X pins' σ H s :=
  ⟨I.ok, I.os, I.bare, I.base, I.loc, I.cell, I.free, I.freeC, fun p hp => (List.mem_append.mp hp).elim (fun z => I.pin p (List.mem_append_left _ z)) (h p), I.hok, I.len⟩
theorem nodup_ix {N : List Str} (hN : N.Nodup) {i j : Nat} {x : Str} (a : N[i]? = some x) (b : N[j]? = some x) : i = j := by
  obtain ⟨h1, e1⟩ := List.getElem?_eq_some_iff.mp a
  obtain ⟨h2, e2⟩ := List.getElem?_eq_some_iff.mp b
  exact (List.getElem_inj hN).mp (e1.trans e2.symm)
theorem store_ok2 {M : Model} {A : Around} {E : Value → Shared → Prop} {i : Nat} {x : Str} {v : V} {u : Value} {Q : Unit → Shared → Prop} (I : Inv X pins σ H s) (hN : X.N.Nodup) (hi : X.N[i]? = some x) (hx : Loc X.env.scope x) (r : RelV v u)
    (h : ∀ s', Inv X pins (σ.set i (some v)) H s' → (∃ a, Heap.SameBut a s.heap s'.heap ∧ (a = X.env.locals ∨ X.env.cells.lookup x = some a)) → Q () s') (hf : X.fn x = true ∨ X.env.scope.names.lookup x = some .local := by first | exact .inl rfl | exact .inr rfl | assumption) : wpAny M A (storeName X.env x u) Q E s := by
  obtain ⟨m, hn, hl⟩ := id I.loc
  have hcls : (X.env.scope.kind == .class || (X.env.scope.kind == .module && X.env.locals != X.env.globals)) = false := by rw [I.ok.kind]; rfl
  have hiσ : i < σ.length := by rw [I.len]; exact (List.getElem?_eq_some_iff.mp hi).1
  have cne := I.cne
  have tracked : ∀ {a : Addr} {h' : Heap}, (∃ o, s.heap.get? a = some o ∧ H a = none) → Heap.SameBut a s.heap h' → HOk X.prog X.w H h' := fun {a h'} ha hs b ob e => by
    obtain ⟨_, _, hfree⟩ := ha
    refine (I.hok b ob e).stay (fun c w' hc q => (hs.2 c ?_).trans q) (fun _ q => q) fun _ _ q => q
    rintro rfl
    rcases hc with rfl | hc
    · rw [hfree] at e; cases e
    · rw [hfree] at hc; cases hc
  rcases hx with hk | hk
  · refine wpAny_storeName_local hk hn (fun h' hn' hs => ?_) hcls
    obtain ⟨oL, _, _, hoL, _⟩ := id hn
    refine h _ ⟨I.ok, I.os, I.bare, ⟨fun b o e n hb hx => ?_, fun b o e n hb hx => ?_, I.base.free, fun b o e hx => ?_, I.base.tups, I.base.frzs, I.base.tbls⟩, ⟨_, hn', fun j y v' e1 e2 e3 => ?_⟩, fun y c e => ?_, I.free, I.freeC, fun p hp => ?_, tracked ⟨oL, hoL, I.free⟩ hs, by simpa using I.len⟩ ⟨_, hs, .inl rfl⟩
    · exact (hs.2 b (Nat.ne_of_lt (Nat.lt_of_lt_of_le (Heap.lt_size e) I.ok.above))).trans (I.base.keep b o e n hb hx)
    · obtain ⟨sl, e1⟩ := I.base.slot b o e n hb hx
      exact ⟨sl, (hs.2 b (Nat.ne_of_lt (Nat.lt_of_lt_of_le (Heap.lt_size e) I.ok.above))).trans e1⟩
    · obtain ⟨o', e1⟩ := I.base.there b o e hx
      exact ⟨o', (hs.2 b (Nat.ne_of_lt (Nat.lt_of_lt_of_le (Heap.lt_size e) I.ok.above))).trans e1⟩
    · by_cases hj : j = i
      · subst hj
        rw [hi] at e1; cases e1
        rw [List.getElem?_set_self hiσ] at e2
        cases e2
        exact ⟨u, r, .inl ⟨hk, by simp⟩⟩
      · rw [List.getElem?_set_ne (Ne.symm hj)] at e2
        obtain ⟨u', r', q⟩ := hl j y v' e1 e2 e3
        refine ⟨u', r', ?_⟩
        rcases q with ⟨k, e⟩ | ⟨k, c, e, z⟩
        · refine .inl ⟨k, ?_⟩
          have : y ≠ x := fun e => hj (nodup_ix hN e1 (e ▸ hi))
          simp [this, e]
        · exact .inr ⟨k, c, e, z.sameBut hs (cne y c e)⟩
    · obtain ⟨w', z⟩ := I.cell y c e
      exact ⟨w', z.sameBut hs (cne y c e)⟩
    · obtain ⟨e, n, ne, nf, d⟩ := I.pin p hp
      exact ⟨(hs.2 p.1 ne).trans e, n, ne, nf, d⟩
  · have hfn : X.fn x = true := by
      rcases hf with z | z
      · exact z
      · rw [z] at hk; cases hk
    obtain ⟨c, hc⟩ := I.ok.has x (.inl hk)
    obtain ⟨w', z⟩ := I.cell x c hc
    refine wpAny_storeName_cell I.ok.kind hk hc z (fun h' hc' hs => ?_)
    obtain ⟨oc, hoc, hocd⟩ := id z
    refine h { s with heap := h' } ⟨I.ok, I.os, I.bare, ⟨fun b o e n hb hx => ?_, fun b o e n hb hx => ?_, I.base.free, fun b o e hx => ?_, I.base.tups, I.base.frzs, I.base.tbls⟩, ⟨m, hn.sameBut hs (Ne.symm (cne x c hc)), fun j y v' e1 e2 e3 => ?_⟩, fun y c' e => ?_, I.free, I.freeC, fun p hp => ?_, tracked ⟨oc, hoc, I.freeC x c hc⟩ hs, by simpa using I.len⟩ ⟨c, hs, .inr hc⟩
    · exact (hs.2 b (Nat.ne_of_lt (Nat.lt_of_lt_of_le (Heap.lt_size e) (I.ok.cab x c hfn hc)))).trans (I.base.keep b o e n hb hx)
    · obtain ⟨sl, e1⟩ := I.base.slot b o e n hb hx
      exact ⟨sl, (hs.2 b (Nat.ne_of_lt (Nat.lt_of_lt_of_le (Heap.lt_size e) (I.ok.cab x c hfn hc)))).trans e1⟩
    · obtain ⟨o', e1⟩ := I.base.there b o e hx
      exact ⟨o', (hs.2 b (Nat.ne_of_lt (Nat.lt_of_lt_of_le (Heap.lt_size e) (I.ok.cab x c hfn hc)))).trans e1⟩
    · by_cases hj : j = i
      · subst hj
        rw [hi] at e1; cases e1
        rw [List.getElem?_set_self hiσ] at e2
        cases e2
        exact ⟨u, r, .inr ⟨.inl hk, c, hc, hc'⟩⟩
      · rw [List.getElem?_set_ne (Ne.symm hj)] at e2
        obtain ⟨u', r', q⟩ := hl j y v' e1 e2 e3
        refine ⟨u', r', ?_⟩
        rcases q with q | ⟨k, c', e, z'⟩
        · exact .inl q
        · refine .inr ⟨k, c', e, z'.sameBut hs ?_⟩
          rintro rfl
          exact hj (nodup_ix hN e1 (I.ok.inj _ _ _ e hc ▸ hi))
    · by_cases hcc : c' = c
      · subst hcc; exact ⟨_, hc'⟩
      · obtain ⟨w2, z2⟩ := I.cell y c' e
        exact ⟨w2, z2.sameBut hs hcc⟩
    · obtain ⟨e, n, ne, nf, d⟩ := I.pin p hp
      refine ⟨(hs.2 p.1 ?_).trans e, n, ne, nf, d⟩
      intro q
      rw [q, hoc] at e
      have q' : oc = p.2 := Option.some.inj e
      exact d w' (by rw [← q']; exact hocd)
theorem store_ok {M : Model} {A : Around} {E : Value → Shared → Prop} {i : Nat} {x : Str} {v : V} {u : Value} {Q : Unit → Shared → Prop} (I : Inv X pins σ H s) (hN : X.N.Nodup) (hi : X.N[i]? = some x) (hx : Loc X.env.scope x) (r : RelV v u)
    (h : ∀ s', Inv X pins (σ.set i (some v)) H s' → Q () s') (hf : X.fn x = true ∨ X.env.scope.names.lookup x = some .local := by first | exact .inl rfl | exact .inr rfl | assumption) : wpAny M A (storeName X.env x u) Q E s :=
  store_ok2 I hN hi hx r (fun s' I' _ => h s' I') hf
theorem Inv.call' {s' : Shared} {ch : List Addr} (I : Inv X pins σ H s) (ho : s'.os = s.os) (u : Un (frs X.stack) ch H H' s.heap s'.heap) (hok : HOk X.prog X.w H' s'.heap) (hg : AllBare s'.gens)
    (hch : ∀ b ∈ ch, (b ∈ X.ex ∨ X.s_0.heap.objs.size ≤ b) ∧ b ≠ X.env.locals ∧ (∀ x c, X.env.cells.lookup x = some c → c ≠ b) ∧ ∀ p ∈ X.pn ++ pins, p.1 ≠ b) : Inv X pins σ H' s' := by
  obtain ⟨h', g', d', t', o'⟩ := s'
  have e : o' = s.os := ho
  subst e
  exact I.call (g' := g') (t' := t') (d' := d') u hok hg hch
end
abbrev XK := Value → Option Addr → Hp → Prop
abbrev St := List (Option V)
abbrev VK := V → Hp → Prop
abbrev TE := St → Hp → VK → Prop
abbrev TT := St → Hp → (Bool → Hp → Prop) → Prop
abbrev TA := St → Hp → (List V → Hp → Prop) → Prop
structure Ends where
  nx : St → Hp → Prop
  rt : VK
  bk : St → Hp → Prop := fun _ _ => False
  ct : St → Hp → Prop := fun _ _ => False
abbrev TS := Ends → St → Hp → Prop
def EP (X : Cx) (pins : List (Addr × Obj)) (σ : St) (Q : VK) (u : Value) (s' : Shared) : Prop := ∃ v H', Inv X pins σ H' s' ∧ RelV v u ∧ Q v H'
def TP (X : Cx) (pins : List (Addr × Obj)) (σ : St) (Q : Bool → Hp → Prop) (b : Bool) (s' : Shared) : Prop := ∃ H', Inv X pins σ H' s' ∧ Q b H'
def AP (X : Cx) (pins : List (Addr × Obj)) (σ : St) (Q : List V → Hp → Prop) (us : List Value) (s' : Shared) : Prop := ∃ vs H', Inv X pins σ H' s' ∧ Vals vs us ∧ Q vs H'
def SP (X : Cx) (pins : List (Addr × Obj)) (D : Ends) (f : Flow) (s' : Shared) : Prop :=
  match f with
  | .next => ∃ σ' H', Inv X pins σ' H' s' ∧ D.nx σ' H'
  | .brk => ∃ σ' H', Inv X pins σ' H' s' ∧ D.bk σ' H'
  | .cont => ∃ σ' H', Inv X pins σ' H' s' ∧ D.ct σ' H'
  | .ret u => ∃ v σ' H', Inv X pins σ' H' s' ∧ RelV v u ∧ D.rt v H'
def PE (X : Cx) (e : Expr) (t : TE) : Prop :=
  ∀ (pins : List (Addr × Obj)) (s : Shared) (σ : St) (H : Hp) (Q : VK), Inv X pins σ H s → t σ H Q → wpAny (model X.prog X.w) X.A (eval e X.env) (EP X pins σ Q) X.xe s
def PT (X : Cx) (e : Expr) (t : TT) : Prop :=
  ∀ (pins : List (Addr × Obj)) (s : Shared) (σ : St) (H : Hp) (Q : Bool → Hp → Prop), Inv X pins σ H s → t σ H Q → wpAny (model X.prog X.w) X.A (isTrue e X.env (eval e X.env)) (TP X pins σ Q) X.xe s
def PW (X : Cx) (e : Expr) (t : TT) : Prop :=
  ∀ (whole : Sem Value) (pins : List (Addr × Obj)) (s : Shared) (σ : St) (H : Hp) (Q : Bool → Hp → Prop), Inv X pins σ H s → t σ H Q → wpAny (model X.prog X.w) X.A (isTrue e X.env whole) (TP X pins σ Q) X.xe s
theorem PW.pt {X : Cx} {e : Expr} {t : TT} (h : PW X e t) : PT X e t := h _
def PA (X : Cx) (es : List Expr) (t : TA) : Prop :=
  ∀ (pos : Pos) (pins : List (Addr × Obj)) (s : Shared) (σ : St) (H : Hp) (Q : List V → Hp → Prop), Inv X pins σ H s → t σ H Q → wpAny (model X.prog X.w) X.A (spliced (backTo pos (starEach es X.env))) (AP X pins σ Q) X.xe s
def PS (X : Cx) (st : Stmt) (t : TS) : Prop :=
  ∀ (pins : List (Addr × Obj)) (s : Shared) (σ : St) (H : Hp) (D : Ends), Inv X pins σ H s → t D σ H → wpAny (model X.prog X.w) X.A (exec st X.env) (SP X pins D) X.xe s
def PSs (X : Cx) (st : List Stmt) (t : TS) : Prop :=
  ∀ (pins : List (Addr × Obj)) (s : Shared) (σ : St) (H : Hp) (D : Ends), Inv X pins σ H s → t D σ H → wpAny (model X.prog X.w) X.A (execs st X.env) (SP X pins D) X.xe s
theorem thn {α : Type} {t : Sem α} {Q Q' : α → Shared → Prop} {M : Model} {A : Around} {E : Value → Shared → Prop} {s : Shared} (h : wpAny M A t Q E s) (hQ : ∀ a s, Q a s → Q' a s) : wpAny M A t Q' E s := wpAny_mono h hQ fun _ _ x => x
end L2
namespace L2
open PySem PySem.Spec PyProof.Rows
section
variable {X : Cx}
theorem bin {a b : Expr} {ta tb : TE} (ha : PE X a ta) (hb : PE X b tb) {pins : List (Addr × Obj)} {s : Shared} {σ : St} {H : Hp} {R : V → V → Hp → Prop} (I : Inv X pins σ H s) (h : ta σ H fun x H1 => tb σ H1 fun y H2 => R x y H2)
    {α : Type} {Q : α → Shared → Prop} {f : Value → Value → Sem α}
    (hf : ∀ v u s2 x y H2, Inv X pins σ H2 s2 → RelV x v → RelV y u → R x y H2 → wpAny (model X.prog X.w) X.A (f v u) Q X.xe s2) :
    wpAny (model X.prog X.w) X.A (eval a X.env) (fun v s₁ => wpAny (model X.prog X.w) X.A (eval b X.env) (fun u s₂ => wpAny (model X.prog X.w) X.A (f v u) Q X.xe s₂) X.xe s₁) X.xe s := by
  refine thn (ha pins s σ H _ I h) fun v s1 ⟨x, H1, I1, r1, q1⟩ => ?_
  refine thn (hb pins s1 σ H1 _ I1 q1) fun u s2 ⟨y, H2, I2, r2, q2⟩ => ?_
  exact hf v u s2 x y H2 I2 r1 r2 q2
def tVar (i : Nat) : TE := fun σ H Q => ∃ v, σ[i]? = some (some v) ∧ Q v H
def tC (v : V) : TE := fun _ H Q => Q v H
theorem pe_var {i : Nat} {x : Str} {pos : Pos} (hN : X.N[i]? = some x) (hv : Vis X.env.scope x) (hd : (x == ("__debug__" : Str)) = false := by decide) (hcd : (x == ("__classdict__" : Str)) = false := by decide) : PE X (.Name x pos) (tVar i) := by
  intro pins s σ H Q I h
  obtain ⟨v, e, h⟩ := h
  obtain ⟨m, hn, hl⟩ := I.loc
  obtain ⟨u, r, l⟩ := hl i x v hN e hv
  have fin : EP X pins σ Q u s := ⟨v, H, I, r, h⟩
  rcases l with ⟨hk, hm⟩ | ⟨hk, c, hc, hcell⟩
  · exact wpAny_Name (wpAny_loadName_local I.ok.kind hk hn hm fin) hd
  · rcases hk with hk | hk
    · exact wpAny_Name (wpAny_loadName_cell I.ok.kind hk hc hcell fin) hd
    · exact wpAny_Name (wpAny_loadName_free I.ok.kind hk hc hcell fin hcd) hd
theorem pe_int {i j pos} : PE X (.Constant (.int i) j pos) (tC (.int i)) := fun _ _ _ H _ I h => wpAny_Constant_int ⟨.int i, H, I.tok _, ⟨_, rfl⟩, h⟩
theorem pe_bl {b j pos} : PE X (.Constant (.bool b) j pos) (tC (.bl b)) := fun _ _ _ H _ I h => Constant_bool ⟨.bl b, H, I, rfl, h⟩
theorem pe_non {j pos} : PE X (.Constant .none j pos) (tC .non) := fun _ _ _ H _ I h => Constant_none ⟨.non, H, I, rfl, h⟩
def Gl (X : Cx) (x : Str) : Prop := X.env.kindOf x = some .globalImplicit
theorem ld_glob {E : Value → Shared → Prop} {pins : List (Addr × Obj)} {s : Shared} {σ : St} {H : Hp} {x : Str} {u : Value} {pos : Pos} {Q : Value → Shared → Prop} (I : Inv X pins σ H s) (hg : Gl X x) (hm : X.mg x = some u) (h : Q u s)
    (hd : (x == ("__debug__" : Str)) = false := by decide) : wpAny (model X.prog X.w) X.A (eval (.Name x pos) X.env) Q E s :=
  Calls.Name_function_global I.ok.kind hg (Calls.loadGlobal_global (by rw [I.ok.glob]; exact I.mod.glob.keeps I.bk) hm h) hd
theorem ld_blt {E : Value → Shared → Prop} {pins : List (Addr × Obj)} {s : Shared} {σ : St} {H : Hp} {x : Str} {u : Value} {pos : Pos} {Q : Value → Shared → Prop} (I : Inv X pins σ H s) (hg : Gl X x) (hm : X.mg x = none) (hv : bootBuiltins x = some u) (h : Q u s)
    (hn : x ≠ "__name__" := by decide) (hd : (x == ("__debug__" : Str)) = false := by decide) : wpAny (model X.prog X.w) X.A (eval (.Name x pos) X.env) Q E s := by
  obtain ⟨mb, h1, h2⟩ := I.mod.blt
  exact Calls.Name_function_global I.ok.kind hg (Calls.loadGlobal_builtin (by rw [I.ok.glob]; exact I.mod.glob.keeps I.bk) hm (by rw [I.ok.blt]; exact h1.keeps I.bk) ((h2 x hn).trans hv) h) hd
theorem pe_glob {x : Str} {v : V} {u : Value} {pos : Pos} (hg : Gl X x) (hm : X.mg x = some u) (r : RelV v u) (hd : (x == ("__debug__" : Str)) = false := by decide) : PE X (.Name x pos) (tC v) :=
  fun _ _ _ H _ I h => ld_glob I hg hm ⟨v, H, I, r, h⟩ hd
variable {a b : Expr} {ta tb : TE} {pos : Pos}
def PC (X : Cx) (op : CmpOp) (a b : Expr) (t : TE) : Prop :=
  ∀ (pins : List (Addr × Obj)) (s : Shared) (σ : St) (H : Hp) (Q : VK), Inv X pins σ H s → t σ H Q →
    wpAny (model X.prog X.w) X.A (eval a X.env) (fun v s₁ => wpAny (model X.prog X.w) X.A (eval b X.env) (fun u s₂ => wpAny (model X.prog X.w) X.A (compareOp op v u) (EP X pins σ Q) X.xe s₂) X.xe s₁) X.xe s
def tB (t : TE) : TT := fun σ H Q => t σ H fun x H1 => ∃ c, x = .bl c ∧ Q c H1
theorem pe_cmp {op : CmpOp} {t : TE} (h : PC X op a b t) (h1 : behindInMarks op b = false := by first | exact nobehind _ (by decide) (by decide) | rfl) : PE X (.Compare a [op] [b] pos) t := fun pins s σ H Q I hw => wpAny_Compare1 (h pins s σ H Q I hw) h1
theorem pt_cmp {op : CmpOp} {t : TE} (h : PC X op a b t) (h1 : behindInMarks op b = false := by first | exact nobehind _ (by decide) (by decide) | rfl) : PT X (.Compare a [op] [b] pos) (tB t) := by
  intro pins s σ H Q I hw
  refine wpAny_isTrue_Compare1 (thn (h pins s σ H _ I hw) fun v s1 h1 => thn h1 fun u s2 h2 => thn h2 fun c s3 ⟨x, H1, I1, r1, q1⟩ => ?_) h1
  obtain ⟨d, rfl, q⟩ := q1
  cases r1
  exact wpAny_truthy_bool ⟨H1, I1, q⟩
theorem pt_val {e : Expr} {t : TE} (h : PE X e t) (he : ∀ whole, isTrue e X.env whole = (do let v ← whole; standAt e.pos; holding [v] (truthy v)) := by intro _; rfl) : PT X e (tB t) := by
  intro pins s σ H Q I hw
  refine isTrue_plain (thn (h pins s σ H _ I hw) fun v s1 ⟨x, H1, I1, r1, q1⟩ => ?_) (he _)
  obtain ⟨d, rfl, q⟩ := q1
  cases r1
  exact wpAny_truthy_bool ⟨H1, I1, q⟩
variable {tA tB' : TT} {rest : List Expr}
def tOr (t u : TT) : TT := fun σ H Q => t σ H fun c H1 => if c = true then Q true H1 else u σ H1 Q
def tNot (t : TT) : TT := fun σ H Q => t σ H fun c H1 => Q (!c) H1
theorem pw_or1 (ha : PT X a tA) : PW X (.BoolOp .Or [a] pos) tA := by
  intro wh pins s σ H Q I h
  refine isTrue_or (thn (ha pins s σ H Q I h) fun c s1 e => ?_)
  cases c with
  | false => exact isTrue_or_nil e
  | true => exact e
theorem pw_or (ha : PT X a tA) (hb : PW X (.BoolOp .Or (b :: rest) pos) tB') : PW X (.BoolOp .Or (a :: b :: rest) pos) (tOr tA tB') := by
  intro wh pins s σ H Q I h
  refine isTrue_or (thn (ha pins s σ H _ I h) fun c s1 ⟨H1, I1, q1⟩ => ?_)
  cases c with
  | true => exact ⟨H1, I1, q1⟩
  | false => exact hb wh pins s1 σ H1 Q I1 q1
theorem pt_not (ha : PT X a tA) : PT X (.UnaryOp .Not a pos) (tNot tA) := by
  intro pins s σ H Q I h
  exact isTrue_not (ha pins s σ H (fun c H1 => Q (!c) H1) I h)
def tAndV (ta tb : TE) : TE := fun σ H Q => ta σ H fun x H1 => ∃ c, x = .bl c ∧ if c = true then tb σ H1 Q else Q (.bl false) H1
def tOrV (ta tb : TE) : TE := fun σ H Q => ta σ H fun x H1 => ∃ c, x = .bl c ∧ if c = true then Q (.bl true) H1 else tb σ H1 Q
theorem pe_one {op} {t : TE} (h : PE X a t) : PE X (.BoolOp op [a] pos) t := fun pins s σ H Q I hw => BoolOp_one (h pins s σ H Q I hw)
theorem pe_and (ha : PE X a ta) (hb : PE X (.BoolOp .And (b :: rest) pos) tb) : PE X (.BoolOp .And (a :: b :: rest) pos) (tAndV ta tb) := by
  intro pins s σ H Q I h
  refine BoolOp_and (thn (ha pins s σ H _ I h) fun v s1 ⟨x, H1, I1, r1, q1⟩ => ?_)
  obtain ⟨c, rfl, q1⟩ := q1
  cases r1
  refine wpAny_truthy_bool ?_
  cases c with
  | true => exact hb pins s1 σ H1 Q I1 q1
  | false => exact ⟨.bl false, H1, I1, rfl, q1⟩
theorem pe_or (ha : PE X a ta) (hb : PE X (.BoolOp .Or (b :: rest) pos) tb) : PE X (.BoolOp .Or (a :: b :: rest) pos) (tOrV ta tb) := by
  intro pins s σ H Q I h
  refine BoolOp_or (thn (ha pins s σ H _ I h) fun v s1 ⟨x, H1, I1, r1, q1⟩ => ?_)
  obtain ⟨c, rfl, q1⟩ := q1
  cases r1
  refine wpAny_truthy_bool ?_
  cases c with
  | false => exact hb pins s1 σ H1 Q I1 q1
  | true => exact ⟨.bl true, H1, I1, rfl, q1⟩
def tIf (t : TT) (ta tb : TE) : TE := fun σ H Q => t σ H fun c H1 => if c = true then ta σ H1 Q else tb σ H1 Q
theorem pe_ifExp {c : Expr} (hc : PT X c tA) (ha : PE X a ta) (hb : PE X b tb) : PE X (.IfExp c a b pos) (tIf tA ta tb) := by
  intro pins s σ H Q I h
  refine wpAny_IfExp (thn (hc pins s σ H _ I h) fun d s1 ⟨H1, I1, q1⟩ => ?_)
  cases d with
  | true => exact ha pins s1 σ H1 Q I1 q1
  | false => exact hb pins s1 σ H1 Q I1 q1
end
end L2
namespace L2
open PySem PySem.Spec PyProof.Rows
def SqL (K : PySem.W.Frag) (H : Hp) (a : Addr) (xs : List V) : Prop :=
  Rd H a (.lst xs) ∨
    ∃ (o : Obj) (its : Array Value) (n : Nat), K.lookup a = some o ∧ o.cls = .type "list" ∧ o.dict = none ∧ o.data = .seq its n ∧ its.size ≤ sizeLine ∧ Vals xs its.toList
def SqT (K : PySem.W.Frag) (H : Hp) (a : Addr) (xs : List V) : Prop :=
  Rd H a (.tup xs) ∨
    ∃ (o : Obj) (its : Array Value) (n : Nat), K.lookup a = some o ∧ o.cls = .type "tuple" ∧ o.data = .seq its n ∧ its.size ≤ sizeLine ∧ Vals xs its.toList
def absV : Value → Option V
  | .none => some .non
  | .bool b => some (.bl b)
  | .int i _ => some (.int i)
  | .str x _ => some (.str x)
  | .bytes b _ => some (.byt b)
  | .float b _ => some (.flt b)
  | .ref a => some (.ref a)
  | .type n => some (.ty n)
  | _ => none
theorem RelV.abs {x : V} {u : Value} (r : RelV x u) : absV u = some x := by
  cases x with
  | non => cases r; rfl
  | bl _ => cases r; rfl
  | int _ => obtain ⟨t, rfl⟩ := r; rfl
  | str _ => obtain ⟨t, rfl⟩ := r; rfl
  | byt _ => obtain ⟨t, rfl⟩ := r; rfl
  | flt _ => obtain ⟨t, rfl⟩ := r; rfl
  | ref _ => cases r; rfl
  | ty _ => cases r; rfl
theorem RelV.inj {x y : V} {u : Value} (r : RelV x u) (q : RelV y u) : x = y := Option.some.inj (r.abs.symm.trans q.abs)
theorem Vals.inj : ∀ {xs ys : List V} {us : List Value}, Vals xs us → Vals ys us → xs = ys
  | _, _, _, .nil, .nil => rfl
  | _, _, _, .cons r t, .cons r' t' => by rw [r.inj r', Vals.inj t t']
section
variable {X : Cx} {pins : List (Addr × Obj)} {σ : St} {H : Hp} {s : Shared} {a : Addr} {xs ys : List V}
theorem SqL.of {K : PySem.W.Frag} (h : H a = some (.lst xs)) : SqL K H a xs := .inl (.inl h)
theorem SqT.of {K : PySem.W.Frag} (h : H a = some (.tup xs)) : SqT K H a xs := .inl (.inl h)
theorem Inv.list (I : Inv X pins σ H s) (h : SqL X.K H a xs) : ∃ its : List Value, Vals xs its ∧ PlainL s.heap a its.toArray ∧ xs.length ≤ sizeLine := by
  rcases h with h | ⟨o, its, n, hk, hc, hd, hs, hz, r⟩
  · obtain ⟨z, its, n, r, e⟩ := h.ok I.hok
    exact ⟨its, r, ⟨_, n, e, rfl, rfl, rfl⟩, z⟩
  · refine ⟨its.toList, r, ⟨o, n, I.kIn a o hk, hc, hd, by simpa using hs⟩, ?_⟩
    have e := r.length
    simp only [Array.length_toList] at e
    omega
theorem Inv.tuple (I : Inv X pins σ H s) (h : SqT X.K H a xs) : ∃ its : List Value, Vals xs its ∧ IsTup s.heap a its.toArray ∧ xs.length ≤ sizeLine := by
  rcases h with h | ⟨o, its, n, hk, hc, hs, hz, r⟩
  · obtain ⟨z, its, r, p⟩ := h.ok I.hok
    exact ⟨its, r, p, z⟩
  · refine ⟨its.toList, r, ⟨o, I.kIn a o hk, hc, n, by simpa using hs⟩, ?_⟩
    have e := r.length
    simp only [Array.length_toList] at e
    omega
theorem Inv.list_inj (I : Inv X pins σ H s) (h : SqL X.K H a xs) (h' : SqL X.K H a ys) : xs = ys := by
  obtain ⟨its, r, ⟨o, n, e, _, _, d⟩, _⟩ := I.list h
  obtain ⟨its', r', ⟨o', n', e', _, _, d'⟩, _⟩ := I.list h'
  rw [e] at e'; cases e'
  rw [d] at d'
  injection d' with d1 _
  have : its = its' := by simpa using congrArg Array.toList d1
  subst this
  exact r.inj r'
end
abbrev Cx.wish (X : Cx) (E : Value → Shared → Prop) : Cx := { X with xe := E }
abbrev Cx.nox (X : Cx) : Cx := X.wish fun _ _ => False
theorem Cx.Ok.wish {X : Cx} (ok : X.Ok) (E : Value → Shared → Prop) : (X.wish E).Ok :=
  ⟨ok.mod, ok.kind, ok.glob, ok.blt, ok.above, ok.inj, ok.has, ok.cab, ok.hd, ok.frames, ok.stk, ok.exf, ok.bs, ok.bsz, ok.noex, ok.exfs, ok.funs, ok.frf⟩
theorem Cx.Ok.unwish {X : Cx} {E : Value → Shared → Prop} (ok : (X.wish E).Ok) : X.Ok :=
  ⟨ok.mod, ok.kind, ok.glob, ok.blt, ok.above, ok.inj, ok.has, ok.cab, ok.hd, ok.frames, ok.stk, ok.exf, ok.bs, ok.bsz, ok.noex, ok.exfs, ok.funs, ok.frf⟩
section
variable {X : Cx} {pins : List (Addr × Obj)} {σ : St} {H : Hp} {s : Shared} {E : Value → Shared → Prop}
theorem Inv.wish (I : Inv X pins σ H s) (E : Value → Shared → Prop) : Inv (X.wish E) pins σ H s := ⟨I.ok.wish E, I.os, I.bare, I.base, I.loc, I.cell, I.free, I.freeC, I.pin, I.hok, I.len⟩
theorem Inv.unwish (I : Inv (X.wish E) pins σ H s) : Inv X pins σ H s := ⟨I.ok.unwish, I.os, I.bare, I.base, I.loc, I.cell, I.free, I.freeC, I.pin, I.hok, I.len⟩
theorem SP.unwish {D : Ends} {f : Flow} {s' : Shared} (h : SP (X.wish E) pins D f s') : SP X pins D f s' := by
  cases f with
  | next => obtain ⟨σ', H', I, q⟩ := h; exact ⟨σ', H', I.unwish, q⟩
  | brk => obtain ⟨σ', H', I, q⟩ := h; exact ⟨σ', H', I.unwish, q⟩
  | cont => obtain ⟨σ', H', I, q⟩ := h; exact ⟨σ', H', I.unwish, q⟩
  | ret u => obtain ⟨v, σ', H', I, r, q⟩ := h; exact ⟨v, σ', H', I.unwish, r, q⟩
theorem PSs.nox {st : List Stmt} {t : TS} (h : PSs X.nox st t) : PSs X st t := fun pins s σ H D I hw =>
  wpAny_mono (h pins s σ H D (I.wish _) hw) (fun _ _ q => q.unwish) fun _ _ z => False.elim z
end
section
variable {X : Cx} {st : Stmt} {rest : List Stmt} {t u : TS} {e : Expr} {te : TE} {pos : Pos}
def tNext : TS := fun D σ H => D.nx σ H
def tSeq (t u : TS) : TS := fun D σ H => t { D with nx := u D } σ H
theorem pss_nil : PSs X [] tNext := fun _ _ σ H _ I h => wpAny_execs_nil ⟨σ, H, I, h⟩
theorem pss_cons (h1 : PS X st t) (h2 : PSs X rest u) : PSs X (st :: rest) (tSeq t u) := by
  intro pins s σ H D I h
  refine wpAny_execs_cons (thn (h1 pins s σ H { D with nx := u D } I h) fun f s1 q => ?_)
  cases f with
  | next =>
    obtain ⟨σ', H', I', q⟩ := q
    exact h2 pins s1 σ' H' D I' q
  | ret v => exact q
  | brk => exact q
  | cont => exact q
theorem pss_one (h1 : PS X st t) : PSs X [st] t := by
  intro pins s σ H D I h
  refine wpAny_execs_cons (thn (h1 pins s σ H D I h) fun f s1 q => ?_)
  cases f with
  | next => exact wpAny_execs_nil q
  | ret v => exact q
  | brk => exact q
  | cont => exact q
theorem Inv.quiet {pins : List (Addr × Obj)} {σ : St} {H : Hp} {s : Shared} (I : Inv X pins σ H s) : interactive X.env = false := by simp [interactive, I.ok.kind]
def tDrop (te : TE) : TS := fun D σ H => te σ H fun _ H1 => D.nx σ H1
theorem ps_expr (he : PE X e te) (hs : swapsWith e none pos.line X.env = pure false := by rfl) : PS X (.Expr e pos) (tDrop te) := by
  intro pins s σ H D I h
  exact wpAny_Expr_any (thn (he pins s σ H _ I h) fun v s1 ⟨x, H1, I1, r1, q1⟩ => ⟨σ, H1, I1, q1⟩) I.quiet hs
def tRet (te : TE) : TS := fun D σ H => te σ H D.rt
theorem ps_ret (he : PE X e te) : PS X (.Return (some e) pos) (tRet te) := by
  intro pins s σ H D I h
  exact wpAny_Return_some (thn (he pins s σ H _ I h) fun v s1 ⟨x, H1, I1, r1, q1⟩ => ⟨x, σ, H1, I1, r1, q1⟩)
def tIfS (c : TT) (t u : TS) : TS := fun D σ H => c σ H fun b H1 => if b = true then t D σ H1 else u D σ H1
theorem ps_if {c : Expr} {a b : List Stmt} {tc : TT} (hc : PT X c tc) (ha : PSs X a t) (hb : PSs X b u) : PS X (.If c a b pos) (tIfS tc t u) := by
  intro pins s σ H D I h
  refine wpAny_If (thn (hc pins s σ H _ I h) fun d s1 ⟨H1, I1, q1⟩ => ?_)
  cases d with
  | true => exact ha pins s1 σ H1 D I1 q1
  | false => exact hb pins s1 σ H1 D I1 q1
end
abbrev TG := V → St → Hp → (St → Hp → Prop) → Prop
abbrev TGs := List V → St → Hp → (St → Hp → Prop) → Prop
def PG (X : Cx) (target : Expr) (t : TG) : Prop :=
  ∀ (pins : List (Addr × Obj)) (s : Shared) (σ : St) (H : Hp) (v : V) (u : Value) (Q : St → Hp → Prop), Inv X pins σ H s → RelV v u → t v σ H Q →
    wpAny (model X.prog X.w) X.A (assign target X.env u) (fun _ s' => ∃ σ' H', Inv X pins σ' H' s' ∧ Q σ' H') X.xe s
def PGs (X : Cx) (ts : List Expr) (t : TGs) : Prop :=
  ∀ (pins : List (Addr × Obj)) (s : Shared) (σ : St) (H : Hp) (vs : List V) (us : List Value) (Q : St → Hp → Prop), Inv X pins σ H s → Vals vs us → t vs σ H Q →
    wpAny (model X.prog X.w) X.A (assignInOrder ((assignEach ts X.env).map (·.2)) us) (fun _ s' => ∃ σ' H', Inv X pins σ' H' s' ∧ Q σ' H') X.xe s
abbrev TSet := V → V → V → Hp → (Hp → Prop) → Prop
def PSet (X : Cx) (t : TSet) : Prop :=
  ∀ (pins : List (Addr × Obj)) (s : Shared) (σ : St) (H : Hp) (o i v : V) (ov iv u : Value) (Q : Hp → Prop), Inv X pins σ H s → RelV o ov → RelV i iv → RelV v u → t o i v H Q →
    wpAny (model X.prog X.w) X.A (setItem ov iv u) (fun _ s' => ∃ H', Inv X pins σ H' s' ∧ Q H') X.xe s
abbrev TIp := V → V → Hp → VK → Prop
section
variable {X : Cx} {pos : Pos}
def gName (i : Nat) : TG := fun v σ H Q => Q (σ.set i (some v)) H
theorem pg_name {i : Nat} {x : Str} (hN : X.N.Nodup) (hi : X.N[i]? = some x) (hx : Loc X.env.scope x) (hf : X.fn x = true ∨ X.env.scope.names.lookup x = some .local := by first | exact .inl rfl | exact .inr rfl | assumption) : PG X (.Name x pos) (gName i) := by
  intro pins s σ H v u Q I r h
  exact wpAny_assign_Name (store_ok I hN hi hx r (fun s' I' => ⟨_, H, I', h⟩) hf)
def gNil : TGs := fun vs σ H Q => vs = [] ∧ Q σ H
def gCons (t : TG) (u : TGs) : TGs := fun vs σ H Q => ∃ v r, vs = v :: r ∧ t v σ H fun σ' H' => u r σ' H' Q
theorem pgs_nil : PGs X [] gNil := by
  intro pins s σ H vs us Q I r h
  obtain ⟨e, h⟩ := h
  subst e
  cases r
  exact assignInOrder_nil ⟨σ, H, I, h⟩
theorem pgs_cons {e : Expr} {es : List Expr} {t : TG} {u : TGs} (h1 : PG X e t) (h2 : PGs X es u)
    (hs : (assignEach (e :: es) X.env).map (·.2) = assign e X.env :: (assignEach es X.env).map (·.2) := by rfl) : PGs X (e :: es) (gCons t u) := by
  intro pins s σ H vs us Q I r h
  obtain ⟨v, vr, e1, h⟩ := h
  subst e1
  cases r with
  | cons r rr =>
    rw [hs]
    refine assignInOrder_cons (thn (h1 pins s σ H _ _ _ I r h) fun _ s1 ⟨σ1, H1, I1, q1⟩ => ?_)
    exact h2 pins s1 σ1 H1 _ _ Q I1 rr q1
def gTup (K : PySem.W.Frag) (n : Nat) (t : TGs) : TG := fun v σ H Q => ∃ a xs, v = .ref a ∧ SqT K H a xs ∧ xs.length = n ∧ t xs σ H Q
theorem pg_tup {es : List Expr} {k : Nat} {t : TGs} {n : Nat} (hc : X.calm = true) (h : PGs X es t)
    (hn : (assignEach es X.env).length = n := by rfl) (hst : (assignEach es X.env).findIdx? (·.1) = none := by rfl) : PG X (.Tuple es k pos) (gTup X.K n t) := by
  intro pins s σ H v u Q I r hw
  obtain ⟨a, xs, e1, hq, hl, hw⟩ := hw
  subst e1
  cases r
  obtain ⟨its, rv, ht, hz⟩ := I.tuple hq
  refine assign_Tuple_tuple (I.ok.hd hc) ht (by simp [hn, ← hl, rv.length]) hst fun h' hx => ?_
  have I1 : Inv X pins σ H { s with heap := h' } := I.kept (t' := s.toks) fun b o e => hx b o (Nat.ne_of_lt (Heap.lt_size e)) e
  exact h pins _ σ H xs _ Q I1 (by simpa using rv) hw
def gSub (to ti : TE) (t : TSet) : TG := fun v σ H Q => to σ H fun o H1 => ti σ H1 fun i H2 => t o i v H2 fun H3 => Q σ H3
theorem pg_sub {o i : Expr} {to ti : TE} {t : TSet} (ho : PE X o to) (hi : PE X i ti) (hs : PSet X t)
    (ha : ∀ v, assign (.Subscript o i pos) X.env v = (do
      let ov ← holding [v] (eval o X.env)
      let iv ← holding [v, ov] (eval i X.env)
      standAt pos
      holding [v, ov, iv] (setItem ov iv v)
      release [v, ov, iv] []) := by intro _; rfl) : PG X (.Subscript o i pos) (gSub to ti t) := by
  intro pins s σ H v u Q I r h
  rw [ha]
  refine wpAny_bind (wpAny_holding (thn (ho pins s σ H _ I h) fun ov s1 ⟨x, H1, I1, r1, q1⟩ => ?_))
  refine wpAny_bind (wpAny_holding (thn (hi pins s1 σ H1 _ I1 q1) fun iv s2 ⟨y, H2, I2, r2, q2⟩ => ?_))
  refine wpAny_bind (wpAny_standAt (wpAny_bind (wpAny_holding (thn (hs pins s2 σ H2 x y v ov iv u _ I2 r1 r2 r q2) fun _ s3 ⟨H3, I3, q3⟩ => ?_))))
  exact wpAny_release ⟨σ, H3, I3, q3⟩
def tAsg (te : TE) (g : TG) : TS := fun D σ H => te σ H fun x H1 => g x σ H1 D.nx
theorem ps_asg {tg e : Expr} {te : TE} {g : TG} (he : PE X e te) (hg : PG X tg g) (hs : swapsWithSole [tg] e pos.line X.env = pure false := by rfl) (hw : swappedStores [tg] e X.env = pure none := by rfl)
    (h1 : (assignEach [tg] X.env).map (·.2) = [assign tg X.env] := by rfl) : PS X (.Assign [tg] e pos) (tAsg te g) := by
  intro pins s σ H D I h
  refine wpAny_Assign_stores (thn (he pins s σ H _ I h) fun v s1 ⟨x, H1, I1, r1, q1⟩ => ?_) hs hw
  rw [h1]
  exact thn (hg pins s1 σ H1 x v _ I1 r1 q1) fun _ s2 q => q
theorem ps_set {i : Nat} {x : Str} {e : Expr} {te : TE} {pos' : Pos} (hN : X.N.Nodup) (hi : X.N[i]? = some x) (hx : Loc X.env.scope x) (he : PE X e te) (hs : swapsWith e (some (.Name x pos')) pos.line X.env = pure false := by rfl) (hf : X.fn x = true ∨ X.env.scope.names.lookup x = some .local := by first | exact .inl rfl | exact .inr rfl | assumption) :
    PS X (.Assign [.Name x pos'] e pos) (tAsg te (gName i)) := by
  intro pins s σ H D I h
  refine wpAny_Assign_Name (thn (he pins s σ H _ I h) fun v s1 ⟨y, H1, I1, r1, q1⟩ => ?_) hs
  exact store_ok I1 hN hi hx r1 (fun s2 I2 => ⟨_, H1, I2, q1⟩) hf
end
section
variable {X : Cx} {pos : Pos}
def tWhile (c : TT) (tb : TS) : TS := fun D σ H => ∃ W : Nat → St → Hp → Prop, (∃ m, W m σ H) ∧ ∀ m σ H, W m σ H →
  c σ H fun b H1 => if b = true then ∃ N : St → Hp → Prop, (∀ σ' H', N σ' H' → ∃ m', m' < m ∧ W m' σ' H') ∧ tb { D with nx := N, ct := N, bk := D.nx } σ H1 else D.nx σ H1
theorem ps_while {c : Expr} {body : List Stmt} {tc : TT} {tb : TS} (hp : PassesOwn (model X.prog X.w) X.A X.env X.xe) (hc : PT X c tc) (hb : PSs X body tb) : PS X (.While c body [] pos) (tWhile tc tb) := by
  intro pins s σ H D I h
  obtain ⟨W, ⟨m0, w0⟩, turn⟩ := h
  refine wpAny_While (codeAny_whileLoop (fun n s' => ∃ σ' H', Inv X pins σ' H' s' ∧ W n σ' H') ?_ m0 ⟨σ, H, I, w0⟩)
  rintro n s1 ⟨σ1, H1, I1, w1⟩
  refine wpAny_passesOwn hp (thn (hc pins s1 σ1 H1 _ I1 (turn n σ1 H1 w1)) fun b s2 ⟨H2, I2, q2⟩ => ?_)
  cases b with
  | true =>
    obtain ⟨N, hN, q2⟩ := q2
    rw [if_pos rfl]
    refine wpAny_passesOwn hp (thn (hb pins s2 σ1 H2 _ I2 q2) fun f s3 q3 => ?_)
    cases f with
    | next =>
      obtain ⟨σ3, H3, I3, n3⟩ := q3
      obtain ⟨m', hm, w3⟩ := hN σ3 H3 n3
      exact ⟨m', hm, σ3, H3, I3, w3⟩
    | cont =>
      obtain ⟨σ3, H3, I3, n3⟩ := q3
      obtain ⟨m', hm, w3⟩ := hN σ3 H3 n3
      exact ⟨m', hm, σ3, H3, I3, w3⟩
    | brk => exact q3
    | ret v => exact q3
  | false =>
    rw [if_neg Bool.false_ne_true]
    exact wpAny_execs_nil ⟨σ1, H2, I2, q2⟩
end
structure It where
  go : Nat → Hp → Prop
  yld : Nat → Hp → V → Hp → Prop
  stop : Nat → Hp → Prop
def FpOk (X : Cx) (pins : List (Addr × Obj)) (H : Hp) (b : Addr) : Prop :=
  H b = none ∧ b ≠ X.env.locals ∧ b ∉ X.fs ∧ (b ∈ X.ex ∨ X.s_0.heap.objs.size ≤ b) ∧ (∀ x c, X.env.cells.lookup x = some c → c ≠ b) ∧ ∀ p ∈ X.pn ++ pins, p.1 ≠ b
theorem Inv.fpOk {X : Cx} {pins : List (Addr × Obj)} {σ : St} {H H' : Hp} {s : Shared} {b : Addr} (I : Inv X pins σ H s) (hb : s.heap.objs.size ≤ b) (hn : H' b = none) : FpOk X pins H' b := by
  refine ⟨hn, Nat.ne_of_gt (Nat.lt_of_lt_of_le I.lt hb), I.nofs hb, .inr (Nat.le_trans I.sz hb), fun x c e z => ?_, fun p hp z => ?_⟩
  · obtain ⟨v, q⟩ := I.cell x c e
    exact absurd (Nat.lt_of_lt_of_le q.lt (by rw [z]; exact hb)) (Nat.lt_irrefl _)
  · exact absurd (Nat.lt_of_lt_of_le (Heap.lt_size (I.pin p hp).1) (by rw [z]; exact hb)) (Nat.lt_irrefl _)
structure Turn (P : Program) (w : World) (K : PySem.W.Frag) (tg : Expr) (J : It) (fp : List Addr) (it : Addr) (tn : Nat → Heap → Prop) : Prop where
  mem : it ∈ fp
  obj : ∀ i h, tn i h → ∀ b ∈ fp, ∃ o, h.get? b = some o ∧ ∀ v, o.data ≠ .cell v
  keep : ∀ i h h', tn i h → (∀ b ∈ fp, ∀ o, h.get? b = some o → h'.get? b = some o) → tn i h'
  item : ∀ (X : Cx), X.prog = P → X.w = w → X.K = K → X.calm = true → ∀ (i : Nat) (pins : List (Addr × Obj)) (s : Shared) (σ : St) (H : Hp) (E : Value → Shared → Prop), Inv X pins σ H s → (∀ b ∈ fp, FpOk X pins H b) → tn i s.heap → J.go i H →
    wpAny (model P w) X.A (pyNext (.ref it)) (fun r s1 => ∃ u, r = some u ∧
      wpAny (model P w) X.A (letOwnedTupleGo tg (.ref it) u) (fun _ s2 => ∃ x H', Inv X pins σ H' s2 ∧ RelV x u ∧ J.yld i H x H' ∧ tn (i + 1) s2.heap ∧ ∀ b ∈ fp, H' b = none) E s1) E s
  done : ∀ (X : Cx), X.prog = P → X.w = w → X.K = K → X.calm = true → ∀ (i : Nat) (pins : List (Addr × Obj)) (s : Shared) (σ : St) (H : Hp) (E : Value → Shared → Prop), Inv X pins σ H s → (∀ b ∈ fp, FpOk X pins H b) → tn i s.heap → J.stop i H →
    wpAny (model P w) X.A (pyNext (.ref it)) (fun r s1 => r = none ∧ Inv X pins σ H s1) E s
  self : ∀ (A : Around) (i : Nat) (s : Shared) (Q : Value → Shared → Prop) (E : Value → Shared → Prop), tn i s.heap → Q (.ref it) s → wpAny (model P w) A (pyIter (.ref it)) Q E s
abbrev TI := St → Hp → (It → Hp → Prop) → Prop
def PIE (X : Cx) (pins : List (Addr × Obj)) (σ : St) (tg : Expr) (R : It → Hp → Prop) (itv : Value) (s2 : Shared) : Prop :=
  ∃ (it : Addr) (fp : List Addr) (tn : Nat → Heap → Prop) (J : It) (H' : Hp), itv = .ref it ∧ Inv X pins σ H' s2 ∧ Turn X.prog X.w X.K tg J fp it tn ∧ tn 0 s2.heap ∧ (∀ b ∈ fp, FpOk X pins H' b) ∧ R J H'
def PI (X : Cx) (tg iter : Expr) (wi : TI) : Prop :=
  ∀ (pins : List (Addr × Obj)) (s : Shared) (σ : St) (H : Hp) (R : It → Hp → Prop), Inv X pins σ H s → wi σ H R →
    wpAny (model X.prog X.w) X.A (eval iter X.env) (fun v s1 => wpAny (model X.prog X.w) X.A (pyIter v) (PIE X pins σ tg R) X.xe s1) X.xe s
theorem go_of {M : Model} {A : Around} {E : Value → Shared → Prop} {s : Shared} {tg : Expr} {it : Addr} {u : Value} {o : Obj} {n : String} {vs : Array Value} {Q : Unit → Shared → Prop} (ho : s.heap.get? it = some o) (hc : o.cls = .type n) (hd : o.data = .fields vs)
    (hn : ["enumerate", "zip", "dict_itemiterator", "dict_reverseitemiterator", "odict_iterator", "itertools.zip_longest", "itertools.pairwise"].contains n = false) (hQ : Q () s) : wpAny M A (letOwnedTupleGo tg (.ref it) u) Q E s := by
  unfold letOwnedTupleGo
  cases tg <;> first
    | exact wpAny_pure hQ
    | (cases u <;> first
        | exact wpAny_pure hQ
        | (refine wpAny_bind (wpAny_load ho ?_)
           rw [hc, hd]
           show wpAny M A (if (["enumerate", "zip", "dict_itemiterator", "dict_reverseitemiterator", "odict_iterator", "itertools.zip_longest", "itertools.pairwise"].contains n && vs[0]? == some (rawInt _)) = true then _ else _) Q E s
           rw [if_neg (by intro h; rw [hn, Bool.false_and] at h; cases h)]
           exact wpAny_pure hQ))
def Itl (K : PySem.W.Frag) (a : Addr) : It :=
  ⟨fun i H => ∃ xs x, SqL K H a xs ∧ xs[i]? = some x, fun i H x H' => H' = H ∧ ∀ xs, SqL K H a xs → xs[i]? = some x, fun i H => ∃ xs, SqL K H a xs ∧ xs.length ≤ i⟩
def Itr (lo : Int) (n : Nat) : It := ⟨fun i _ => i < n, fun i H x H' => H' = H ∧ x = .int (lo + i), fun i _ => n ≤ i⟩
theorem turn_list {P : Program} {w : World} {K : PySem.W.Frag} {tg : Expr} (a it : Addr) : Turn P w K tg (Itl K a) [it] it (fun i h => h.IsListIter it a i) where
  mem := by simp
  obj := fun i h st b hb => by
    have e : b = it := by simpa using hb
    subst e
    obtain ⟨o, e, c, d⟩ := st
    exact ⟨o, e, fun v z => by rw [d] at z; cases z⟩
  keep := fun i h h' st k => st.at fun o e => k it (by simp) o e
  item := by
    intro X hP hw hK hc i pins s σ H E I hf st hg
    subst hP hw hK
    obtain ⟨xs, x, hq, hx⟩ := hg
    obtain ⟨its, rv, p, hz⟩ := I.list hq
    obtain ⟨u, hu, ru⟩ := rv.get hx
    obtain ⟨f0, f1, f2, f3, f4, f5⟩ := hf it (by simp)
    refine wpAny_pyNext_list_item st p.isList (x := u) (by simpa using hu) fun h' st' sb => ?_
    have I1 : Inv X pins σ H { s with heap := h' } := I.turned (t' := s.toks) (fun b o hb e => (sb.2 b hb).trans e) f0 f1 f3 f4 f5
    obtain ⟨o, e, c, d⟩ := id st'
    exact ⟨u, rfl, go_of (s := { s with heap := h' }) e c d (by decide) ⟨x, H, I1, ru, ⟨rfl, fun ys hy => by rw [I.list_inj hy hq]; exact hx⟩, st', fun b hb => (hf b hb).1⟩⟩
  done := by
    intro X hP hw hK hc i pins s σ H E I hf st hg
    subst hP hw hK
    obtain ⟨xs, hq, hx⟩ := hg
    obtain ⟨its, rv, p, hz⟩ := I.list hq
    obtain ⟨f0, f1, f2, f3, f4, f5⟩ := hf it (by simp)
    have hl := rv.length
    exact wpAny_pyNext_list_end (I.ok.hd hc) st p.isList (by simp; omega) fun h' eb => ⟨rfl, I.turned (t' := s.toks) (fun b o hb e => eb b o hb e) f0 f1 f3 f4 f5⟩
  self := fun _ _ _ _ _ st h => wpAny_pyIter_listiter st h
theorem turn_range {P : Program} {w : World} {K : PySem.W.Frag} {tg : Expr} (it : Addr) (lo : Int) (n : Nat) : Turn P w K tg (Itr lo n) [it] it (fun i h => IsRangeIter h it (lo + (i : Nat) * 1) ((n : Int) - (i : Nat)) 1) where
  mem := by simp
  obj := fun i h st b hb => by
    have e : b = it := by simpa using hb
    subst e
    exact ⟨_, st, fun v z => by
      have z' : Data.fields _ = Data.cell v := z
      cases z'⟩
  keep := fun i h h' st k => k it (by simp) _ st
  item := by
    intro X hP hw hK hc i pins s σ H E I hf st hg
    subst hP hw hK
    obtain ⟨f0, f1, f2, f3, f4, f5⟩ := hf it (by simp)
    have W := Walks.range (prog := X.prog) (w := X.w) (I.ok.hd hc) it lo 1 n
    refine W.item i s _ _ hg st fun v h' tk hv st' kk => ?_
    obtain ⟨t, rfl⟩ := hv
    have I1 : Inv X pins σ H { s with heap := h', toks := tk } := I.turned (fun b o hb e => kk b o (by simpa using hb) e) f0 f1 f3 f4 f5
    refine ⟨_, rfl, go_of (s := { s with heap := h', toks := tk }) (n := "range_iterator") st' rfl rfl (by decide) ⟨.int (lo + i), H, I1, ⟨t, ?_⟩, ⟨rfl, rfl⟩, st', fun b hb => (hf b hb).1⟩⟩
    rw [Int.mul_one]
  done := by
    intro X hP hw hK hc i pins s σ H E I hf st hg
    subst hP hw hK
    obtain ⟨f0, f1, f2, f3, f4, f5⟩ := hf it (by simp)
    exact wpAny_pyNext_range_end (I.ok.hd hc) st (by have : n ≤ i := hg; omega) fun h' eb => ⟨rfl, I.turned (t' := s.toks) (fun b o hb e => eb b o hb e) f0 f1 f3 f4 f5⟩
  self := fun _ _ _ _ _ st h => wpAny_pyIter_rangeiter st h
end L2
namespace L2
open PySem PySem.Spec PyProof.Rows
section
variable {X : Cx} {tg : Expr}
def iList (K : PySem.W.Frag) (tl : TE) : TI := fun σ H R => tl σ H fun x H1 => ∃ a, x = .ref a ∧ (∃ xs, SqL K H1 a xs) ∧ R (Itl K a) H1
theorem pi_list {l : Expr} {tl : TE} (hl : PE X l tl) : PI X tg l (iList X.K tl) := by
  intro pins s σ H R I h
  refine thn (hl pins s σ H _ I h) fun v s1 ⟨x, H1, I1, r1, q1⟩ => ?_
  obtain ⟨a, e, ⟨xs, hq⟩, q⟩ := q1
  subst e
  cases r1
  obtain ⟨its, rv, p, hz⟩ := I1.list hq
  refine wpAny_pyIter_list p.isList ?_
  refine ⟨s1.heap.objs.size, [s1.heap.objs.size], _, _, H1, rfl, I1.kept (t' := s1.toks) fun b o e => Heap.get?_push_of_some _ e, turn_list a _, ⟨_, Heap.get?_push_size _ rfl, rfl, rfl⟩, fun b hb => ?_, q⟩
  have e : b = s1.heap.objs.size := by simpa using hb
  subst e
  exact I1.fpOk (Nat.le_refl _) (I1.hok.fresh (Nat.le_refl _))
theorem range_it {pins : List (Addr × Obj)} {σ : St} {H : Hp} {s : Shared} {R : It → Hp → Prop} {E : Value → Shared → Prop} {lo hi : Int} {t u v : Tok} {tk : Nat} (I : Inv X pins σ H s) (h1 : -(2 ^ 62) ≤ lo) (h2 : lo < 2 ^ 62) (h3 : -(2 ^ 62) ≤ hi) (h4 : hi < 2 ^ 62)
    (q : R (Itr lo (hi - lo).toNat) H) : wpAny (model X.prog X.w) X.A (pyIter (.ref s.heap.objs.size)) (PIE X pins σ tg R) E { s with heap := s.heap.push { cls := .type "range", data := .fields #[.int lo t, .int hi u, .int 1 v] }, toks := tk } := by
  refine wpAny_pyIter_range (IsRange.new ..) (small_one h1 h2 h3 h4) ?_
  have I1 : Inv X pins σ H { s with heap := s.heap.push { cls := .type "range", data := .fields #[.int lo t, .int hi u, .int 1 v] }, toks := tk } := I.kept fun b o e => Heap.get?_push_of_some _ e
  refine ⟨(s.heap.push { cls := .type "range", data := .fields #[.int lo t, .int hi u, .int 1 v] }).objs.size, [(s.heap.push { cls := .type "range", data := .fields #[.int lo t, .int hi u, .int 1 v] }).objs.size], _, _, H, rfl,
    I1.kept (t' := tk) fun b o e => Heap.get?_push_of_some _ e, turn_range _ lo (hi - lo).toNat, ?_, fun b hb => ?_, q⟩
  · have e1 : lo + ((0 : Nat) : Int) * 1 = lo := by simp
    have e2 : (((hi - lo).toNat : Nat) : Int) - ((0 : Nat) : Int) = Builtin.Range.rangeSize lo hi 1 := by rw [rangeSize_one]; split <;> omega
    show IsRangeIter _ _ (lo + ((0 : Nat) : Int) * 1) ((((hi - lo).toNat : Nat) : Int) - ((0 : Nat) : Int)) 1
    rw [e1, e2]
    exact Heap.get?_push_size _ rfl
  · have e : b = (s.heap.push { cls := .type "range", data := .fields #[.int lo t, .int hi u, .int 1 v] }).objs.size := by simpa using hb
    subst e
    exact I1.fpOk (Nat.le_refl _) (I1.hok.fresh (Nat.le_refl _))
def iRng1 (ta : TA) : TI := fun σ H R => ta σ H fun vs H1 => ∃ j : Int, vs = [.int j] ∧ -(2 ^ 62) ≤ j ∧ j < 2 ^ 62 ∧ R (Itr 0 j.toNat) H1
def iRng2 (ta : TA) : TI := fun σ H R => ta σ H fun vs H1 => ∃ i j : Int, vs = [.int i, .int j] ∧ (-(2 ^ 62) ≤ i ∧ i < 2 ^ 62 ∧ -(2 ^ 62) ≤ j ∧ j < 2 ^ 62) ∧ R (Itr i (j - i).toNat) H1
theorem pi_range1 {a : Expr} {ta : TA} {p pos : Pos} (hg : Gl X "range") (hm : X.mg "range" = none) (ha : PA X [a] ta) (hs : starEach [a] X.env = [(false, eval a X.env)] := by rfl) : PI X tg (.Call (.Name "range" p) [a] [] pos) (iRng1 ta) := by
  intro pins s σ H R I h
  refine Call_ (ld_blt I hg hm boot_range (PyProof.Rows.callWith_type1 (thn (ha pos pins s σ H _ I h) fun us s1 ⟨vs, H1, I1, r1, q1⟩ => ?_) hs rfl))
  obtain ⟨j, e, q1, q2, q⟩ := q1
  subst e
  cases r1 with
  | cons r rr =>
    cases rr
    obtain ⟨t, rfl⟩ := r
    exact call_range_1 (range_it I1 (by omega) (by omega) q1 q2 (by simpa using q))
theorem pi_range2 {a b : Expr} {ta : TA} {p pos : Pos} (hg : Gl X "range") (hm : X.mg "range" = none) (ha : PA X [a, b] ta) (hs : starEach [a, b] X.env = [(false, eval a X.env), (false, eval b X.env)] := by rfl) (hs2 : starEach [b] X.env = [(false, eval b X.env)] := by rfl) :
    PI X tg (.Call (.Name "range" p) [a, b] [] pos) (iRng2 ta) := by
  intro pins s σ H R I h
  refine Call_ (ld_blt I hg hm boot_range (PyProof.Rows.callWith_type1 (thn (ha pos pins s σ H _ I h) fun us s1 ⟨vs, H1, I1, r1, q1⟩ => ?_) (by rw [hs, hs2]) (by rw [hs2]; rfl)))
  obtain ⟨i, j, e, ⟨q1, q2, q3, q4⟩, q⟩ := q1
  subst e
  cases r1 with
  | cons r rr =>
    cases rr with
    | cons r' rr =>
      cases rr
      obtain ⟨t, rfl⟩ := r
      obtain ⟨t', rfl⟩ := r'
      exact call_range_2 (range_it I1 q1 q2 q3 q4 q)
def tFor (wi : TI) (g : TG) (tb : TS) : TS := fun D σ H => wi σ H fun J H1 => ∃ W : Nat → Nat → St → Hp → Prop, (∃ m, W 0 m σ H1) ∧ ∀ i m σ H, W i m σ H →
  (J.stop i H ∧ D.nx σ H) ∨ (J.go i H ∧ ∃ N : St → Hp → Prop, (∀ σ' H', N σ' H' → ∃ m', m' < m ∧ W (i + 1) m' σ' H') ∧ ∀ x H', J.yld i H x H' → g x σ H' fun σ2 H2 => tb { D with nx := N, ct := N, bk := D.nx } σ2 H2)
def pinsAt (fp : List Addr) (h : Heap) : List (Addr × Obj) := fp.filterMap fun b => (h.get? b).map fun o => (b, o)
theorem mem_pinsAt {fp : List Addr} {h : Heap} {b : Addr} {o : Obj} (hb : b ∈ fp) (e : h.get? b = some o) : (b, o) ∈ pinsAt fp h := List.mem_filterMap.mpr ⟨b, hb, by rw [e]; rfl⟩
theorem of_pinsAt {fp : List Addr} {h : Heap} {p : Addr × Obj} (hp : p ∈ pinsAt fp h) : p.1 ∈ fp ∧ h.get? p.1 = some p.2 := by
  obtain ⟨b, hb, e⟩ := List.mem_filterMap.mp hp
  cases q : h.get? b with
  | none => rw [q] at e; cases e
  | some o =>
    rw [q] at e
    have e' : (b, o) = p := Option.some.inj e
    subst e'
    exact ⟨hb, q⟩
theorem Inv.pinned {pins : List (Addr × Obj)} {σ : St} {H : Hp} {s : Shared} {fp : List Addr} (I : Inv X pins σ H s) (hf : ∀ b ∈ fp, FpOk X pins H b) (ho : ∀ b ∈ fp, ∃ o, s.heap.get? b = some o ∧ ∀ v, o.data ≠ .cell v) : Inv X (pins ++ pinsAt fp s.heap) σ H s :=
  I.pins_of fun p hp => (List.mem_append.mp hp).elim (fun z => I.pin p (List.mem_append_right _ z)) fun z => by
    obtain ⟨hb, e⟩ := of_pinsAt z
    obtain ⟨f0, f1, f2, _⟩ := hf p.1 hb
    obtain ⟨o, e', d⟩ := ho p.1 hb
    rw [e] at e'; cases e'
    exact ⟨e, f0, f1, f2, d⟩
theorem Inv.unpinned {pins pl : List (Addr × Obj)} {σ : St} {H : Hp} {s : Shared} (I : Inv X (pins ++ pl) σ H s) : Inv X pins σ H s := I.pins_of fun p hp => I.pin p (List.mem_append_right _ (List.mem_append_left _ hp))
theorem ps_for {iter : Expr} {body : List Stmt} {wi : TI} {g : TG} {tb : TS} {pos : Pos} (hp : PassesOwn (model X.prog X.w) X.A X.env X.xe) (hc : X.calm = true) (hi : PI X tg iter wi) (hg : PG X tg g) (hb : PSs X body tb)
    (hs : ∀ x, foldedSetIterable iter X.env x = pure x := by intro _; rfl) : PS X (.For tg iter body [] pos) (tFor wi g tb) := by
  intro pins s σ H D I h
  refine wpAny_For (thn (hi pins s σ H _ I h) fun v s1 h1 => thn h1 fun itv s2 h2 => ?_) hs
  obtain ⟨it, fp, tn, J, H2, e, I2, T, st2, f2, W, ⟨m0, w0⟩, turn⟩ := h2
  subst e
  -- what stays true of the iterator's objects through the loop
  have stat : ∀ {H' : Hp}, (∀ b ∈ fp, H' b = none) → ∀ b ∈ fp, FpOk X pins H' b := fun hn b hb => ⟨hn b hb, (f2 b hb).2⟩
  refine codeAny_forLoop_any (fun n s' => ∃ i σ' H', Inv X pins σ' H' s' ∧ tn i s'.heap ∧ (∀ b ∈ fp, H' b = none) ∧ W i n σ' H') ?_ m0 ⟨0, σ, H2, I2, st2, fun b hb => (f2 b hb).1, w0⟩
  rintro n s3 ⟨i, σ3, H3, I3, st3, fr3, w3⟩
  rcases turn i n σ3 H3 w3 with ⟨stop, qn⟩ | ⟨go, N, hN, step⟩
  · refine wpAny_passesOwn hp (thn (T.done X rfl rfl rfl hc i pins s3 σ3 H3 X.xe I3 (stat fr3) st3 stop) fun r s4 ⟨hr, I4⟩ => ?_)
    subst hr
    exact wpAny_execs_nil ⟨σ3, H3, I4, qn⟩
  · refine wpAny_passesOwn hp (thn (T.item X rfl rfl rfl hc i pins s3 σ3 H3 X.xe I3 (stat fr3) st3 go) fun r s4 ⟨u, hr, h4⟩ => ?_)
    subst hr
    refine wpAny_passesOwn hp (thn h4 fun _ s5 ⟨x, H5, I5, r5, y5, st5, fr5⟩ => ?_)
    have I5' := I5.pinned (stat fr5) (T.obj _ _ st5)
    refine wpAny_passesOwn hp (thn (hg _ s5 σ3 H5 x u _ I5' r5 (step x H5 y5)) fun _ s6 ⟨σ6, H6, I6, q6⟩ => ?_)
    refine wpAny_passesOwn hp (thn (hb _ s6 σ6 H6 _ I6 q6) fun f s7 q7 => ?_)
    have again : ∀ {σ7 : St} {H7 : Hp}, Inv X (pins ++ pinsAt fp s5.heap) σ7 H7 s7 → N σ7 H7 → ∃ m, m < n ∧ ∃ i σ' H', Inv X pins σ' H' s7 ∧ tn i s7.heap ∧ (∀ b ∈ fp, H' b = none) ∧ W i m σ' H' := fun {σ7 H7} I7 n7 => by
      obtain ⟨m', hm, w7⟩ := hN σ7 H7 n7
      refine ⟨m', hm, i + 1, σ7, H7, I7.unpinned, T.keep _ _ _ st5 fun b hb o e => (I7.pin (b, o) (List.mem_append_right _ (List.mem_append_right _ (mem_pinsAt hb e)))).1, fun b hb => ?_, w7⟩
      obtain ⟨o, e, d⟩ := T.obj _ _ st5 b hb
      exact (I7.pin (b, o) (List.mem_append_right _ (List.mem_append_right _ (mem_pinsAt hb e)))).2.1
    cases f with
    | next => obtain ⟨σ7, H7, I7, n7⟩ := q7; exact again I7 n7
    | cont => obtain ⟨σ7, H7, I7, n7⟩ := q7; exact again I7 n7
    | brk => obtain ⟨σ7, H7, I7, q7⟩ := q7; exact ⟨σ7, H7, I7.unpinned, q7⟩
    | ret v => obtain ⟨x7, σ7, H7, I7, r7, q7⟩ := q7; exact ⟨x7, σ7, H7, I7.unpinned, r7, q7⟩
end
theorem for_list {K : PySem.W.Frag} {a : Addr} {xs : List V} {g : TG} {tb : TS} {D : Ends} {σ : St} {H : Hp} (Pv : Nat → St → Hp → Prop) (h0 : Pv 0 σ H) (hl : ∀ i σ H, i ≤ xs.length → Pv i σ H → SqL K H a xs)
    (hs : ∀ i x σ H, xs[i]? = some x → Pv i σ H → g x σ H fun σ2 H2 => tb { D with nx := Pv (i + 1), ct := Pv (i + 1), bk := D.nx } σ2 H2) (hd : ∀ σ H, Pv xs.length σ H → D.nx σ H) :
    ∃ W : Nat → Nat → St → Hp → Prop, (∃ m, W 0 m σ H) ∧ ∀ i m σ H, W i m σ H →
      ((Itl K a).stop i H ∧ D.nx σ H) ∨ ((Itl K a).go i H ∧ ∃ N : St → Hp → Prop, (∀ σ' H', N σ' H' → ∃ m', m' < m ∧ W (i + 1) m' σ' H') ∧ ∀ x H', (Itl K a).yld i H x H' → g x σ H' fun σ2 H2 => tb { D with nx := N, ct := N, bk := D.nx } σ2 H2) := by
  refine ⟨fun i m σ H => m = xs.length - i ∧ i ≤ xs.length ∧ Pv i σ H, ⟨xs.length, by simp, Nat.zero_le _, h0⟩, ?_⟩
  rintro i m σ H ⟨rfl, hi, p⟩
  have q := hl i σ H hi p
  by_cases hlt : i < xs.length
  · refine .inr ⟨⟨xs, xs[i], q, by simp [hlt]⟩, Pv (i + 1), fun σ' H' p' => ⟨xs.length - (i + 1), by omega, rfl, hlt, p'⟩, fun x H' y => ?_⟩
    obtain ⟨e, y⟩ := y
    subst e
    exact hs i x σ _ (y xs q) p
  · have e : i = xs.length := by omega
    subst e
    exact .inl ⟨⟨xs, q, Nat.le_refl _⟩, hd σ H p⟩
theorem for_range {lo : Int} {n : Nat} {g : TG} {tb : TS} {D : Ends} {σ : St} {H : Hp} (Pv : Nat → St → Hp → Prop) (h0 : Pv 0 σ H)
    (hs : ∀ i σ H, i < n → Pv i σ H → g (.int (lo + i)) σ H fun σ2 H2 => tb { D with nx := Pv (i + 1), ct := Pv (i + 1), bk := D.nx } σ2 H2) (hd : ∀ σ H, Pv n σ H → D.nx σ H) :
    ∃ W : Nat → Nat → St → Hp → Prop, (∃ m, W 0 m σ H) ∧ ∀ i m σ H, W i m σ H →
      ((Itr lo n).stop i H ∧ D.nx σ H) ∨ ((Itr lo n).go i H ∧ ∃ N : St → Hp → Prop, (∀ σ' H', N σ' H' → ∃ m', m' < m ∧ W (i + 1) m' σ' H') ∧ ∀ x H', (Itr lo n).yld i H x H' → g x σ H' fun σ2 H2 => tb { D with nx := N, ct := N, bk := D.nx } σ2 H2) := by
  refine ⟨fun i m σ H => m = n - i ∧ i ≤ n ∧ Pv i σ H, ⟨n, by simp, Nat.zero_le _, h0⟩, ?_⟩
  rintro i m σ H ⟨rfl, hi, p⟩
  by_cases hlt : i < n
  · refine .inr ⟨hlt, Pv (i + 1), fun σ' H' p' => ⟨n - (i + 1), by omega, rfl, hlt, p'⟩, fun x H' y => ?_⟩
    obtain ⟨e, y⟩ := y
    subst e y
    exact hs i σ _ hlt p
  · have e : i = n := by omega
    subst e
    exact .inl ⟨Nat.le_refl _, hd σ H p⟩
end L2
namespace L2
open PySem PySem.Spec PyProof.Rows
abbrev R2 := V → V → Hp → VK → Prop
def OpR (X : Cx) (f : Value → Value → Sem Value) (r : R2) : Prop :=
  ∀ (pins : List (Addr × Obj)) (s : Shared) (σ : St) (H : Hp) (x y : V) (v u : Value) (Q : VK), Inv X pins σ H s → RelV x v → RelV y u → r x y H Q →
    wpAny (model X.prog X.w) X.A (f v u) (EP X pins σ Q) X.xe s
def CallR (X : Cx) (f : Value) (r : List V → Hp → VK → Prop) : Prop :=
  ∀ (pins : List (Addr × Obj)) (s : Shared) (σ : St) (H : Hp) (xs : List V) (us : List Value) (Q : VK), Inv X pins σ H s → Vals xs us → r xs H Q →
    wpAny (model X.prog X.w) X.A (call f us) (EP X pins σ Q) X.xe s
def tOp (r : R2) (ta tb : TE) : TE := fun σ H Q => ta σ H fun x H1 => tb σ H1 fun y H2 => r x y H2 Q
def rI (C : Int → Int → Prop) (g : Int → Int → V) : R2 := fun x y H Q => ∃ i j, x = .int i ∧ y = .int j ∧ C i j ∧ Q (g i j) H
def rI0 (g : Int → Int → V) : R2 := fun x y H Q => ∃ i j, x = .int i ∧ y = .int j ∧ Q (g i j) H
section
variable {X : Cx} {a b c : Expr} {ta tb tc : TE} {pos : Pos}
theorem binT (ha : PE X a ta) (hb : PE X b tb) {pins : List (Addr × Obj)} {s : Shared} {σ : St} {H : Hp} {R : V → V → Hp → Prop} (I : Inv X pins σ H s)
    (h : ta σ H fun x H1 => tb σ H1 fun y H2 => R x y H2) {Q : Value → Shared → Prop} {f : Value → Value → Sem Value}
    (hf : ∀ v u s2 x y H2, Inv X pins σ H2 s2 → RelV x v → RelV y u → R x y H2 → wpAny (model X.prog X.w) X.A (f v u) Q X.xe s2) :
    wpAny (model X.prog X.w) X.A (eval a X.env) (fun v s₁ => wpAny (model X.prog X.w) X.A (eval b X.env) (fun u s₂ => wpAny (model X.prog X.w) X.A (f v u) Q X.xe s₂) X.xe s₁) X.xe s := by
  refine thn (ha pins s σ H _ I h) fun v s1 ⟨x, H1, I1, r1, q1⟩ => ?_
  refine thn (hb pins s1 σ H1 _ I1 q1) fun u s2 ⟨y, H2, I2, r2, q2⟩ => ?_
  exact hf v u s2 x y H2 I2 r1 r2 q2
theorem pe_op {op : Operator} {r : R2} (ho : OpR X (binaryOp op) r) (ha : PE X a ta) (hb : PE X b tb) : PE X (.BinOp a op b pos) (tOp r ta tb) := by
  intro pins s σ H Q I h
  exact wpAny_BinOp (binT ha hb I h fun v u s2 x y H2 I2 rx ry q => ho pins s2 σ H2 x y v u Q I2 rx ry q)
theorem opI {f : Value → Value → Sem Value} {C : Int → Int → Prop} {g : Int → Int → Int}
    (rule : ∀ (i j : Int) (t u : Tok) (s : Shared) (Q : Value → Shared → Prop) (E : Value → Shared → Prop), C i j → Q (.int (g i j) s.toks) { s with toks := s.toks + 1 } → wpAny (model X.prog X.w) X.A (f (.int i t) (.int j u)) Q E s) :
    OpR X f (rI C fun i j => .int (g i j)) := by
  intro pins s σ H x y v u Q I rx ry h
  obtain ⟨i, j, rfl, rfl, hc, q⟩ := h
  obtain ⟨t, rfl⟩ := rx
  obtain ⟨t', rfl⟩ := ry
  exact rule i j t t' s _ _ hc ⟨.int (g i j), H, I.tok _, ⟨_, rfl⟩, q⟩
theorem opI0 {f : Value → Value → Sem Value} {g : Int → Int → Int}
    (rule : ∀ (i j : Int) (t u : Tok) (s : Shared) (Q : Value → Shared → Prop) (E : Value → Shared → Prop), Q (.int (g i j) s.toks) { s with toks := s.toks + 1 } → wpAny (model X.prog X.w) X.A (f (.int i t) (.int j u)) Q E s) :
    OpR X f (rI0 fun i j => .int (g i j)) := by
  intro pins s σ H x y v u Q I rx ry h
  obtain ⟨i, j, rfl, rfl, q⟩ := h
  obtain ⟨t, rfl⟩ := rx
  obtain ⟨t', rfl⟩ := ry
  exact rule i j t t' s _ _ ⟨.int (g i j), H, I.tok _, ⟨_, rfl⟩, q⟩
theorem opB0 {f : Value → Value → Sem Value} {g : Int → Int → Bool}
    (rule : ∀ (i j : Int) (t u : Tok) (s : Shared) (Q : Value → Shared → Prop) (E : Value → Shared → Prop), Q (.bool (g i j)) s → wpAny (model X.prog X.w) X.A (f (.int i t) (.int j u)) Q E s) :
    OpR X f (rI0 fun i j => .bl (g i j)) := by
  intro pins s σ H x y v u Q I rx ry h
  obtain ⟨i, j, rfl, rfl, q⟩ := h
  obtain ⟨t, rfl⟩ := rx
  obtain ⟨t', rfl⟩ := ry
  exact rule i j t t' s _ _ ⟨.bl (g i j), H, I, rfl, q⟩
def CDiv (i j : Int) : Prop := 0 < j ∧ j < 1073741824
def CMul (i j : Int) : Prop := (-(2 ^ 64) < i ∧ i < 2 ^ 64) ∨ (-(2 ^ 64) < j ∧ j < 2 ^ 64)
theorem CMul.ok {i j : Int} (h : CMul i j) : IntMulOk i j := by
  rcases h with ⟨h1, h2⟩ | ⟨h1, h2⟩
  · exact .of_left (intBits_le_64 h1 h2)
  · exact .of_right (intBits_le_64 h1 h2)
theorem op_add : OpR X (binaryOp .Add) (rI0 fun i j => .int (i + j)) := opI0 fun _ _ _ _ _ _ _ q => add_int q
theorem op_sub : OpR X (binaryOp .Sub) (rI0 fun i j => .int (i - j)) := opI0 fun _ _ _ _ _ _ _ q => sub_int q
theorem op_mul : OpR X (binaryOp .Mult) (rI CMul fun i j => .int (i * j)) := opI fun _ _ _ _ _ _ _ hc q => mul_int q hc.ok
theorem op_fdiv : OpR X (binaryOp .FloorDiv) (rI CDiv fun i j => .int (i / j)) := opI fun i j _ _ _ _ _ hc q => by
  have h1 : (0 : Int) < j := hc.1
  have h2 : j < 1073741824 := hc.2
  exact floordiv_int (by omega) (by rw [Int.fdiv_eq_ediv_of_nonneg i (by omega)]; exact q) (.inl (PyProof.noPylong_small (by omega)))
theorem op_mod : OpR X (binaryOp .Mod) (rI (fun _ j => 0 < j) fun i j => .int (i % j)) := opI fun i j _ _ _ _ _ hc q => by
  have h1 : (0 : Int) < j := hc
  exact mod_int' (by omega) (by rw [Int.fmod_eq_emod_of_nonneg i (by omega)]; exact q)
end
def scal : V → V → Bool
  | .non, .non => true | .non, .int _ => true | .int _, .non => true | .non, .bl _ => true | .bl _, .non => true | .non, .str _ => true | .str _, .non => true
  | .int _, .int _ => true | .bl _, .bl _ => true | .str _, .str _ => true | .byt _, .byt _ => true
  | .int _, .str _ => true | .str _, .int _ => true | .bl _, .str _ => true | .str _, .bl _ => true
  | _, _ => false
def rEq : R2 := fun x y H Q => scal x y = true ∧ Q (.bl (decide (x = y))) H
def rNe : R2 := fun x y H Q => scal x y = true ∧ Q (.bl (!decide (x = y))) H
theorem dec_int {i j : Int} : decide (V.int i = V.int j) = (i == j) := by
  rw [Bool.eq_iff_iff]
  simp
theorem dec_bl {i j : Bool} : decide (V.bl i = V.bl j) = (i == j) := by
  rw [Bool.eq_iff_iff]
  simp
theorem dec_str {i j : Str} : decide (V.str i = V.str j) = (i == j) := by
  rw [Bool.eq_iff_iff]
  simp
theorem dec_byt {i j : Array UInt8} : decide (V.byt i = V.byt j) = (i.toList == j.toList) := by
  rw [Bool.eq_iff_iff]
  cases i
  cases j
  simp
section
variable {X : Cx} {a b c : Expr} {ta tb tc : TE} {pos : Pos}
theorem fin_bl {pins : List (Addr × Obj)} {σ : St} {H : Hp} {s : Shared} {Q : VK} {k k' : Bool} (I : Inv X pins σ H s) (q : Q (.bl k) H) (e : k = k') : EP X pins σ Q (.bool k') s := by
  subst e
  exact ⟨.bl k, H, I, rfl, q⟩
theorem op_eq : OpR X (compareOp .Eq) rEq := by
  intro pins s σ H x y v u Q I rx ry h
  obtain ⟨hs, q⟩ := h
  cases x with
  | non =>
    cases rx
    cases y with
    | non => cases ry; exact PySem.EqNone.eq_none_none (fin_bl I q (by simp))
    | bl j => cases ry; exact PySem.EqNone.eq_none_bool (fin_bl I q (by simp))
    | int j => obtain ⟨t', rfl⟩ := ry; exact PySem.EqNone.eq_none_int (fin_bl I q (by simp))
    | str j => obtain ⟨t', rfl⟩ := ry; exact PySem.EqNone.eq_none_str (fin_bl I q (by simp))
    | _ => exact absurd (show false = true from hs) Bool.false_ne_true
  | bl i =>
    cases rx
    cases y with
    | non => cases ry; exact PySem.EqNone.eq_bool_none (fin_bl I q (by simp))
    | bl j => cases ry; exact eq_bool (fin_bl I q dec_bl)
    | str j => obtain ⟨t', rfl⟩ := ry; exact PySem.EqMixed.eq_bool_str (fin_bl I q (by simp))
    | _ => exact absurd (show false = true from hs) Bool.false_ne_true
  | int i =>
    obtain ⟨t, rfl⟩ := rx
    cases y with
    | non => cases ry; exact PySem.EqNone.eq_int_none (fin_bl I q (by simp))
    | int j => obtain ⟨t', rfl⟩ := ry; exact eq_int (fin_bl I q dec_int)
    | str j => obtain ⟨t', rfl⟩ := ry; exact PySem.EqMixed.eq_int_str (fin_bl I q (by simp))
    | _ => exact absurd (show false = true from hs) Bool.false_ne_true
  | str i =>
    obtain ⟨t, rfl⟩ := rx
    cases y with
    | non => cases ry; exact PySem.EqNone.eq_str_none (fin_bl I q (by simp))
    | bl j => cases ry; exact PySem.EqMixed.eq_str_bool (fin_bl I q (by simp))
    | int j => obtain ⟨t', rfl⟩ := ry; exact PySem.EqMixed.eq_str_int (fin_bl I q (by simp))
    | str j => obtain ⟨t', rfl⟩ := ry; exact eq_str (fin_bl I q dec_str)
    | _ => exact absurd (show false = true from hs) Bool.false_ne_true
  | byt i =>
    obtain ⟨t, rfl⟩ := rx
    cases y with
    | byt j => obtain ⟨t', rfl⟩ := ry; exact PySem.W.eq_bytes (fin_bl I q dec_byt)
    | _ => exact absurd (show false = true from hs) Bool.false_ne_true
  | _ => cases y <;> exact absurd (show false = true from hs) Bool.false_ne_true
theorem op_ne : OpR X (compareOp .NotEq) rNe := by
  intro pins s σ H x y v u Q I rx ry h
  obtain ⟨hs, q⟩ := h
  cases x with
  | non =>
    cases rx
    cases y with
    | non => cases ry; exact PySem.EqNone.ne_none_none (fin_bl I q (by simp))
    | bl j => cases ry; exact PySem.EqNone.ne_none_bool (fin_bl I q (by simp))
    | int j => obtain ⟨t', rfl⟩ := ry; exact PySem.EqNone.ne_none_int (fin_bl I q (by simp))
    | str j => obtain ⟨t', rfl⟩ := ry; exact PySem.EqNone.ne_none_str (fin_bl I q (by simp))
    | _ => exact absurd (show false = true from hs) Bool.false_ne_true
  | bl i =>
    cases rx
    cases y with
    | non => cases ry; exact PySem.EqNone.ne_bool_none (fin_bl I q (by simp))
    | bl j => cases ry; exact ne_bool (fin_bl I q (congrArg not dec_bl))
    | str j => obtain ⟨t', rfl⟩ := ry; exact PySem.EqMixed.ne_bool_str (fin_bl I q (by simp))
    | _ => exact absurd (show false = true from hs) Bool.false_ne_true
  | int i =>
    obtain ⟨t, rfl⟩ := rx
    cases y with
    | non => cases ry; exact PySem.EqNone.ne_int_none (fin_bl I q (by simp))
    | int j => obtain ⟨t', rfl⟩ := ry; exact ne_int (fin_bl I q (congrArg not dec_int))
    | str j => obtain ⟨t', rfl⟩ := ry; exact PySem.EqMixed.ne_int_str (fin_bl I q (by simp))
    | _ => exact absurd (show false = true from hs) Bool.false_ne_true
  | str i =>
    obtain ⟨t, rfl⟩ := rx
    cases y with
    | non => cases ry; exact PySem.EqNone.ne_str_none (fin_bl I q (by simp))
    | bl j => cases ry; exact PySem.EqMixed.ne_str_bool (fin_bl I q (by simp))
    | int j => obtain ⟨t', rfl⟩ := ry; exact PySem.EqMixed.ne_str_int (fin_bl I q (by simp))
    | str j => obtain ⟨t', rfl⟩ := ry; exact ne_str (fin_bl I q (congrArg not dec_str))
    | _ => exact absurd (show false = true from hs) Bool.false_ne_true
  | byt i =>
    obtain ⟨t, rfl⟩ := rx
    cases y with
    | byt j => obtain ⟨t', rfl⟩ := ry; exact PySem.W.ne_bytes (fin_bl I q (congrArg not dec_byt))
    | _ => exact absurd (show false = true from hs) Bool.false_ne_true
  | _ => cases y <;> exact absurd (show false = true from hs) Bool.false_ne_true
theorem op_lt : OpR X (compareOp .Lt) (rI0 fun i j => .bl (decide (i < j))) := opB0 fun _ _ _ _ _ _ _ q => lt_int q
theorem op_le : OpR X (compareOp .LtE) (rI0 fun i j => .bl (decide (i ≤ j))) := opB0 fun _ _ _ _ _ _ _ q => le_int q
theorem op_gt : OpR X (compareOp .Gt) (rI0 fun i j => .bl (decide (j < i))) := opB0 fun _ _ _ _ _ _ _ q => gt_int q
theorem op_ge : OpR X (compareOp .GtE) (rI0 fun i j => .bl (decide (j ≤ i))) := opB0 fun _ _ _ _ _ _ _ q => ge_int q
theorem nomark (b : Expr) {op : CmpOp} (h : op ≠ .In := by decide) (h2 : op ≠ .NotIn := by decide) : behindInMarks op b = false := by
  have e1 : (op == CmpOp.In) = false := by cases op <;> first | rfl | exact absurd rfl h
  have e2 : (op == CmpOp.NotIn) = false := by cases op <;> first | rfl | exact absurd rfl h2
  cases b <;> simp [behindInMarks, e1, e2]
theorem pe_cmpR {op : CmpOp} {r : R2} (ho : OpR X (compareOp op) r) (ha : PE X a ta) (hb : PE X b tb) (hm : behindInMarks op b = false) : PE X (.Compare a [op] [b] pos) (tOp r ta tb) := by
  intro pins s σ H Q I h
  exact wpAny_Compare1 (binT ha hb I h fun v u s2 x y H2 I2 rx ry q => ho pins s2 σ H2 x y v u Q I2 rx ry q) hm
def tTest (t : TE) : TT := fun σ H Q => t σ H fun x H' => ∃ k, x = .bl k ∧ Q k H'
theorem pt_cmpR {op : CmpOp} {r : R2} (ho : OpR X (compareOp op) r) (ha : PE X a ta) (hb : PE X b tb) (hm : behindInMarks op b = false) : PT X (.Compare a [op] [b] pos) (tTest (tOp r ta tb)) := by
  intro pins s σ H Q I h
  refine wpAny_isTrue_Compare1 (thn (ha pins s σ H _ I h) fun v s1 ⟨x, H1, I1, r1, q1⟩ => thn (hb pins s1 σ H1 _ I1 q1) fun u s2 ⟨y, H2, I2, r2, q2⟩ =>
    thn (ho pins s2 σ H2 x y v u _ I2 r1 r2 q2) fun c s3 ⟨z, H3, I3, r3, k, e, q3⟩ => ?_) hm
  subst e
  cases r3
  exact wpAny_truthy_bool ⟨H3, I3, q3⟩
theorem line63 : (sizeLine : Nat) < 2 ^ 63 := by rw [sizeLine_eq]; decide
theorem vals1 {x : V} {us : List Value} (r : Vals [x] us) : ∃ u, us = [u] ∧ RelV x u := by
  cases r with
  | cons r1 r2 => cases r2; exact ⟨_, rfl, r1⟩
end
end L2
namespace L2
open PySem PySem.Spec PyProof.Rows
structure ObjM (h : Heap) (x dx C : Addr) (mA : Str → Option Value) : Prop where
  obj : h.get? x = some (PySem.W.instObj C dx)
  ns : h.Ns1 dx mA
  ne : dx ≠ x
theorem lookIn_ns {h : Heap} {dx : Addr} {mA : Str → Option Value} (n : h.Ns1 dx mA) : ∃ od, h.get? dx = some od ∧ ∀ name, PySem.W.lookIn name od = some (mA name) := by
  obtain ⟨o, es, ep, ho, hd, hk, _, hm⟩ := n
  refine ⟨o, ho, fun name => ?_⟩
  have e := hm name
  unfold nsFind findBy at e
  rw [← Array.find?_toList] at e
  unfold PySem.W.lookIn
  rw [hd]
  dsimp only
  split
  · rename_i y q
    rw [q] at e
    exact congrArg some e
  · rename_i q
    rw [q] at e
    have a : es.toList.any (·.refKey) = false := by
      rw [List.any_eq_false]
      intro y hy
      obtain ⟨z, t, hkey⟩ := hk y (Array.mem_toList_iff.mp hy)
      simp [DictEntry.refKey, hkey]
    have a' : ¬ es.toList.any (·.refKey) = true := by rw [a]; exact Bool.false_ne_true
    rw [if_neg a']
    exact congrArg some e
theorem ObjM.look {h : Heap} {x dx C : Addr} {mA : Str → Option Value} (I : ObjM h x dx C mA) : ∃ od, PySem.W.InstAt h x (PySem.W.instObj C dx) C (some od) ∧ ∀ name, PySem.W.lookIn name od = some (mA name) :=
  let ⟨od, ho, hl⟩ := lookIn_ns I.ns
  ⟨od, ⟨I.obj, rfl, rfl, ho⟩, hl⟩
section
variable {prog : Program} {w : World} {A : Around} {E : Value → Shared → Prop} {s : Shared} {K : PySem.W.Frag} {x dx C f : Addr} {mA : Str → Option Value} {name : Str} {v : Value}
theorem get_map {expr : Bool} {Q : Value → Shared → Prop} (X : K.In s.heap) (I : ObjM s.heap x dx C mA) (hg : PySem.W.plainGet K C name = true) (hh : PySem.W.hasDictIn K C = true)
    (ha : PySem.W.findIn K (.ref C) name = some none) (hv : mA name = some v) (hv' : PySem.W.handedIn v = true) (h : Q v { s with toks := s.toks + 1 }) :
    wpAny (model prog w) A (getAttr (.ref x) name expr) Q E s := by
  obtain ⟨od, J, hl⟩ := I.look
  exact PySem.W.get_value X J (PySem.W.plainGet_of hg).1 (PySem.W.findObj_own hh ha rfl (by rw [hl, hv])) hv' h
theorem set_map {ns : List Str} {Q : Unit → Shared → Prop} (X : K.In s.heap) (I : ObjM s.heap x dx C mA)
    (hs : PySem.W.findIn K (.ref C) "__setattr__" = some (some (.builtin "object.__setattr__"))) (hp : PySem.W.plainOver K C = true) (ht : PySem.W.takerIn K C name = some none) (hh : PySem.W.hasDictIn K C = true)
    (hw : PySem.Within mA ns) (hsz : ns.length ≤ sizeLine)
    (h : ∀ h', ObjM h' x dx C (fun y => if y = name then some v else mA y) → Heap.SameBut dx s.heap h' → Q () { s with heap := h', toks := s.toks + 2 }) :
    wpAny (model prog w) A (setAttr (.ref x) name v) Q E s := by
  obtain ⟨od, J, hl⟩ := I.look
  refine PySem.W.set_plain X J hs (PySem.W.osa_open (s := { s with toks := s.toks + 1 }) (r := none) X J hp ht fun b => ?_)
  obtain ⟨cd, hc, hd'⟩ := PySem.W.any_some hh
  have hx : s.heap.get? x = some ⟨.ref C, some dx, .plain, #[]⟩ := I.obj
  refine wpAny_bind (wpAny_pure (wpAny_bind (wpAny_bind (wpAny_loadPart hx (wpAny_bind (PySem.W.Looks.here (s := { s with toks := s.toks + 1 }) (PySem.W.looks_clsIn X hc) ?_))))))
  rw [hd']
  refine wpAny_pure (a := some dx) (wpAny_bind (wpAny_pure (wpAny_bind ?_)))
  refine wpAny_nsSet1 (s := { s with toks := s.toks + 1 }) I.ns fun h' hn2 hs2 => ?_
  obtain ⟨oD, esD, epD, hoD, hdD, hcD⟩ := hn2.count (PySem.Within.cons name v hw)
  refine wpAny_bind (wpAny_lookBehind hoD (by rw [hdD]; exact pastItsLine_dict (Nat.le_trans hcD (by rw [List.length_cons]; omega))) ?_)
  exact wpAny_pure (h _ ⟨(hs2.2 _ (Ne.symm I.ne)).trans I.obj, hn2, I.ne⟩ hs2)
theorem make_map {R : Result → Shared → Prop} {vs : List Value} {kw : List (Str × Value)} (X : K.In s.heap) (hm : PySem.W.makesIn K C = true)
    (hi : PySem.W.findIn K (.ref C) "__init__" = some (some (.ref f))) (hf : PySem.W.typeIn K (.ref f) = some (.type "function"))
    (h : codeAny (model prog w) (A.under (.builtin "type.__call__" ⟨.ref C :: vs, kw⟩)) (.call (.ref f) ⟨.ref (s.heap.objs.size + 1) :: vs, kw⟩) (PySem.W.InitBack (s.heap.objs.size + 1) R)
      { s with heap := (s.heap.push PySem.W.emptyDict).push (PySem.W.instObj C s.heap.objs.size) }) :
    codeAny (model prog w) A (.call (.ref C) ⟨vs, kw⟩) R s := by
  obtain ⟨hh, g, d, t, os⟩ := s
  exact PySem.W.make_core (PySem.W.makes_of X hm) (PySem.W.looks_findIn X hi) (fun self => PySem.W.bind_fn X self hf) (.inl rfl) h
end
def putF (f : Str) (v : V) : List (Str × V) → List (Str × V)
  | [] => [(f, v)]
  | (g, x) :: r => if g = f then (g, v) :: r else (g, x) :: putF f v r
theorem lookup_putF (f g : Str) (v : V) : ∀ fs : List (Str × V), (putF f v fs).lookup g = if g = f then some v else fs.lookup g
  | [] => by
    show List.lookup g [(f, v)] = _
    by_cases h : g = f
    · have hb : (g == f) = true := beq_iff_eq.mpr h
      simp only [List.lookup, hb, if_pos h]
    · have hb : (g == f) = false := beq_eq_false_iff_ne.mpr h
      simp only [List.lookup, hb, if_neg h]
  | (k, x) :: r => by
    have ih := lookup_putF f g v r
    rw [show putF f v ((k, x) :: r) = (if k = f then (k, v) :: r else (k, x) :: putF f v r) from rfl]
    by_cases hk : k = f
    · rw [if_pos hk]
      by_cases h : g = k
      · have hb : (g == k) = true := beq_iff_eq.mpr h
        simp only [List.lookup, hb, if_pos (h.trans hk)]
      · have hb : (g == k) = false := beq_eq_false_iff_ne.mpr h
        simp only [List.lookup, hb, if_neg (fun e : g = f => h (e.trans hk.symm))]
    · rw [if_neg hk]
      by_cases h : g = k
      · have hb : (g == k) = true := beq_iff_eq.mpr h
        simp only [List.lookup, hb, if_neg (fun e : g = f => hk (h.symm.trans e))]
      · have hb : (g == k) = false := beq_eq_false_iff_ne.mpr h
        simp only [List.lookup, hb]
        exact ih
theorem keys_putF (f : Str) (v : V) : ∀ fs : List (Str × V), f ∈ (putF f v fs).map (·.1) ∧ ∀ g, g ∈ fs.map (·.1) → g ∈ (putF f v fs).map (·.1)
  | [] => ⟨by simp [putF], fun g h => by simp at h⟩
  | (k, x) :: r => by
    obtain ⟨i1, i2⟩ := keys_putF f v r
    rw [show putF f v ((k, x) :: r) = (if k = f then (k, v) :: r else (k, x) :: putF f v r) from rfl]
    by_cases hk : k = f
    · rw [if_pos hk]
      subst hk
      exact ⟨by simp, fun g h => by simpa using h⟩
    · rw [if_neg hk]
      refine ⟨?_, fun g h => ?_⟩
      · rw [List.map_cons]
        exact List.mem_cons_of_mem _ i1
      · rw [List.map_cons] at h ⊢
        rcases List.mem_cons.mp h with e | e
        · exact List.mem_cons.mpr (.inl e)
        · exact List.mem_cons_of_mem _ (i2 g e)
theorem length_putF (f : Str) (v : V) : ∀ fs : List (Str × V), (putF f v fs).length ≤ fs.length + 1
  | [] => by simp [putF]
  | (k, x) :: r => by
    have ih := length_putF f v r
    rw [show putF f v ((k, x) :: r) = (if k = f then (k, v) :: r else (k, x) :: putF f v r) from rfl]
    by_cases hk : k = f
    · rw [if_pos hk, List.length_cons, List.length_cons]; omega
    · rw [if_neg hk, List.length_cons, List.length_cons]; omega
theorem RelO.some_of {v : V} {o : Option Value} (r : RelO (some v) o) : ∃ u, o = some u ∧ RelV v u := by
  cases o with
  | none => exact (show False from r).elim
  | some u => exact ⟨u, rfl, r⟩
theorem handed_of {v : V} {u : Value} (r : RelV v u) : PySem.W.handedIn u = true := by
  cases v with
  | non => cases (show u = Value.none from r); rfl
  | bl b => cases (show u = Value.bool b from r); rfl
  | int i => obtain ⟨t, e⟩ := (show ∃ t, u = Value.int i t from r); cases e; rfl
  | str x => obtain ⟨t, e⟩ := (show ∃ t, u = Value.str x t from r); cases e; rfl
  | byt b => obtain ⟨t, e⟩ := (show ∃ t, u = Value.bytes b t from r); cases e; rfl
  | flt b => obtain ⟨t, e⟩ := (show ∃ t, u = Value.float b t from r); cases e; rfl
  | ref a => cases (show u = Value.ref a from r); rfl
  | ty n => cases (show u = Value.type n from r); rfl
section
variable {P : Program} {w : World} {H H' : Hp} {h h' : Heap} {a C dx : Addr} {fs fs' : List (Str × V)}
theorem ins_get (hok : HOk P w H h) (e : H a = some (.ins C dx fs)) : ∃ mA, ObjM h a dx C mA ∧ (∀ f, RelO (fs.lookup f) (mA f)) ∧ PySem.Within mA (fs.map (·.1)) ∧ fs.length ≤ 1000 ∧ H dx = some (.own a) := by
  obtain ⟨d, z, ne, ob, mA, n, r, q⟩ := (show ObjOk P w H h a (.ins C dx fs) from hok a _ e)
  exact ⟨mA, ⟨ob, n, ne⟩, r, q, z, d⟩
end
structure Cls (K : PySem.W.Frag) (C : Addr) : Prop where
  pg : PySem.W.plainGet K C Str.empty = true
  hd : PySem.W.hasDictIn K C = true
  po : PySem.W.plainOver K C = true
  sa : PySem.W.findIn K (.ref C) "__setattr__" = some (some (.builtin "object.__setattr__"))
theorem Cls.get {K : PySem.W.Frag} {C : Addr} (c : Cls K C) (f : Str) : PySem.W.plainGet K C f = true := c.pg
def NoAttr (K : PySem.W.Frag) (C : Addr) (f : Str) : Prop := PySem.W.findIn K (.ref C) f = some none
theorem NoAttr.taker {K : PySem.W.Frag} {C : Addr} {f : Str} (n : NoAttr K C f) : PySem.W.takerIn K C f = some none := by
  unfold PySem.W.takerIn
  rw [show PySem.W.findIn K (.ref C) f = some none from n]
  rfl
structure Con (K : PySem.W.Frag) (C : Addr) (f : Str) (v : V) (u : Value) : Prop where
  at_ : PySem.W.findIn K (.ref C) f = some (some u)
  rel : RelV v u
  get : PySem.W.specialIn K u "__get__" = some none
  cp : PySem.W.copiedNames.contains f = false
structure Meth (K : PySem.W.Frag) (C : Addr) (m : Str) (f : Addr) : Prop where
  at_ : PySem.W.findIn K (.ref C) m = some (some (.ref f))
  fn : PySem.W.isFn K (.ref f) = true
  kp : PySem.W.keepIn K (.ref f) = true
section
variable {X : Cx} {pins : List (Addr × Obj)} {σ : St} {H : Hp} {s : Shared} {a C dx : Addr} {fs : List (Str × V)} {f : Str} {v : V} {A : Around} {E : Value → Shared → Prop}
theorem getattr_ok {b : Bool} {Q : Value → Shared → Prop} (I : Inv X pins σ H s) (e : H a = some (.ins C dx fs)) (c : Cls X.K C) (n : NoAttr X.K C f) (l : fs.lookup f = some v)
    (h : ∀ u s', Inv X pins σ H s' → RelV v u → Q u s') : wpAny (model X.prog X.w) A (getAttr (.ref a) f b) Q E s := by
  obtain ⟨mA, O, r, _, _, _⟩ := ins_get I.hok e
  obtain ⟨u, hu, ru⟩ := RelO.some_of (v := v) (o := mA f) (by rw [← l]; exact r f)
  exact get_map I.kIn O (c.get f) c.hd n hu (handed_of ru) (h u _ (I.tok _) ru)
theorem setattr_ok {y : V} {u : Value} {Q : Unit → Shared → Prop} (I : Inv X pins σ H s) (e : H a = some (.ins C dx fs)) (c : Cls X.K C) (n : NoAttr X.K C f) (hl : fs.length < 1000) (ry : RelV y u)
    (h : ∀ s', Inv X pins σ (upd H a (.ins C dx (putF f y fs))) s' → Q () s') : wpAny (model X.prog X.w) A (setAttr (.ref a) f u) Q E s := by
  obtain ⟨mA, O, r, wi, _, ho⟩ := ins_get I.hok e
  have hz : (fs.map (·.1)).length ≤ sizeLine := by rw [List.length_map, sizeLine_eq]; omega
  refine set_map I.kIn O c.sa c.po n.taker c.hd wi hz fun h' O' sb => h _ ?_
  have hd : ∃ o, h'.get? dx = some o := let ⟨o, _, _, e', _⟩ := O'.ns; ⟨o, e'⟩
  refine I.write (x := a) (e := dx) (by rw [e]; exact True.intro) (.inr ho) (fun b q hb z => (sb.2 b hb).trans z) hd ?_
  refine ⟨by rw [upd_ne O.ne]; exact ho, ?_, O.ne, O'.obj, _, O'.ns, fun g => ?_, fun g hg => ?_⟩
  · have := length_putF f y fs; omega
  · show RelO ((putF f y fs).lookup g) (if g = f then some u else mA g)
    rw [lookup_putF]
    by_cases q : g = f
    · rw [if_pos q, if_pos q]; exact ry
    · rw [if_neg q, if_neg q]; exact r g
  · by_cases q : g = f
    · rw [q]; exact (keys_putF f y fs).1
    · refine (keys_putF f y fs).2 g (wi g fun z => hg ?_)
      show (if g = f then some u else mA g) = none
      rw [if_neg q]; exact z
theorem Inv.made (I : Inv X pins σ H s) : Inv X pins σ (upd (upd H s.heap.objs.size (.own (s.heap.objs.size + 1))) (s.heap.objs.size + 1) (.ins C s.heap.objs.size []))
    { s with heap := (s.heap.push PySem.W.emptyDict).push (PySem.W.instObj C s.heap.objs.size) } := by
  have e1 : (s.heap.push PySem.W.emptyDict).get? s.heap.objs.size = some PySem.W.emptyDict := Heap.get?_push_size s.heap rfl
  have e2 : ((s.heap.push PySem.W.emptyDict).push (PySem.W.instObj C s.heap.objs.size)).get? (s.heap.objs.size + 1) = some (PySem.W.instObj C s.heap.objs.size) := by
    have := Heap.get?_push_size (s.heap.push PySem.W.emptyDict) (o := PySem.W.instObj C s.heap.objs.size) rfl
    rwa [Heap.size_push] at this
  have e3 : (s.heap.push PySem.W.emptyDict).Ns s.heap.objs.size (fun _ => none) := ⟨PySem.W.emptyDict, #[], _, e1, rfl, (fun e he => absurd he (by simp)), fun _ => rfl⟩
  have I1 := I.laid (a := s.heap.objs.size) (o := .own (s.heap.objs.size + 1)) (h' := s.heap.push PySem.W.emptyDict) (t' := s.toks) (fun b u q => Heap.get?_push_of_some _ q) (Nat.le_refl _) ⟨_, e1⟩
  refine I1.laid (a := s.heap.objs.size + 1) (o := .ins C s.heap.objs.size []) (t' := s.toks) (fun b u q => Heap.get?_push_of_some _ q) (Nat.le_of_eq (Heap.size_push _ _)) ?_
  have ne : s.heap.objs.size ≠ s.heap.objs.size + 1 := Nat.ne_of_lt (Nat.lt_succ_self _)
  refine ⟨by rw [upd_ne ne, upd_same], Nat.zero_le _, ne, e2, fun _ => none, (Heap.Ns1.of_empty e3).at fun o q => Heap.get?_push_of_some _ q, fun _ => True.intro, fun y hy => absurd rfl hy⟩
theorem attr_of {prog : Program} {w : World} {env : Env} {e : Expr} {f : Str} {pos : Pos} {s : Shared} {Q : Value → Shared → Prop} (hb : attributeBase e f env (eval e env) = eval e env)
    (h : wpAny (model prog w) A (eval e env) (fun o s₁ => wpAny (model prog w) A (getAttr o f true) Q E s₁) E s) : wpAny (model prog w) A (eval (.Attribute e f pos) env) Q E s :=
  Attribute_any_ h (by rw [arm_eval_Attribute, hb])
end
def tFld (K : PySem.W.Frag) (ta : TE) (f : Str) : TE := fun σ H Q => ta σ H fun x H1 => ∃ a C dx fs v, x = .ref a ∧ H1 a = some (.ins C dx fs) ∧ Cls K C ∧ NoAttr K C f ∧ fs.lookup f = some v ∧ Q v H1
def sFld (K : PySem.W.Frag) (ta tv : TE) (f : Str) : TS := fun D σ H => tv σ H fun y H1 => ta σ H1 fun x H2 => ∃ a C dx fs, x = .ref a ∧ H2 a = some (.ins C dx fs) ∧ Cls K C ∧ NoAttr K C f ∧ fs.length < 1000 ∧
  D.nx σ (upd H2 a (.ins C dx (putF f y fs)))
section
variable {X : Cx} {o e value : Expr} {f : Str} {pos pos' tpos : Pos} {ta tv : TE}
theorem pe_fld (he : PE X e ta) (hb : attributeBase e f X.env (eval e X.env) = eval e X.env) : PE X (.Attribute e f pos) (tFld X.K ta f) := by
  intro pins s σ H Q I h
  refine attr_of hb (thn (he pins s σ H _ I h) fun u s1 ⟨x, H1, I1, rx, a, C, dx, fs, v, ex, ea, c, n, l, q⟩ => ?_)
  subst ex
  obtain rfl : u = Value.ref a := rx
  exact getattr_ok I1 ea c n l fun u' s2 I2 ru => ⟨v, H1, I2, ru, q⟩
theorem ps_fld (ha : PE X o ta) (hv : PE X value tv) (hs : swapsWith value (some (.Attribute o f pos')) pos.line X.env = pure false) : PS X (.Assign [.Attribute o f pos'] value pos) (sFld X.K ta tv f) := by
  intro pins s σ H D I h
  refine plainObj_wpAny_Assign_Attribute (thn (hv pins s σ H _ I h) fun u s1 ⟨y, H1, I1, ry, q⟩ => thn (ha pins s1 σ H1 _ I1 q) fun ov s2 ⟨x, H2, I2, rx, a, C, dx, fs, ex, ea, c, n, l, q2⟩ => ?_) hs
  subst ex
  obtain rfl : ov = Value.ref a := rx
  exact setattr_ok I2 ea c n l ry fun s3 I3 => ⟨σ, _, I3, q2⟩
end
section
variable {X : Cx} {pins : List (Addr × Obj)} {σ : St} {H : Hp} {s : Shared} {A : Around} {E : Value → Shared → Prop} {Q : Value → Shared → Prop} {c : Value} {b : Bool}
inductive TyOf (K : PySem.W.Frag) (H : Hp) : V → Value → Prop where
  | non : TyOf K H .non (.type "NoneType")
  | bl (x : Bool) : TyOf K H (.bl x) (.type "bool")
  | int (i : Int) : TyOf K H (.int i) (.type "int")
  | str (x : Str) : TyOf K H (.str x) (.type "str")
  | flt (x : UInt64) : TyOf K H (.flt x) (.type "float")
  | lst {a : Addr} {xs : List V} (e : H a = some (.lst xs)) : TyOf K H (.ref a) (.type "list")
  | frz {a : Addr} {o : Obj} {xs : List V} (e : H a = some (.frz o (.lst xs))) : TyOf K H (.ref a) (.type "list")
  | tup {a : Addr} {xs : List V} (e : H a = some (.tup xs)) : TyOf K H (.ref a) (.type "tuple")
  | dK {a : Addr} {kvs : List (Key × V)} (e : H a = some (.dK kvs)) : TyOf K H (.ref a) (.type "dict")
  | dT {a : Addr} {kvs : List (List Key × V)} (e : H a = some (.dT kvs)) : TyOf K H (.ref a) (.type "dict")
  | ins {a C dx : Addr} {fs : List (Str × V)} (e : H a = some (.ins C dx fs)) (cl : Cls K C) (ha : PySem.W.findIn K (.ref C) "__class__" = some (some (.builtin "object.__class__")))
      (hn : PySem.W.specialIn K (.builtin "object.__class__") "__get__" = some (some (.builtin "getset_descriptor.__get__"))) (htk : PySem.W.takesIn K (.builtin "object.__class__") = some true)
      (hm : PySem.W.mroIn K C (.type "object") = some true) : TyOf K H (.ref a) (.ref C)
end
end L2
namespace L2
open PySem PySem.Spec PyProof.Rows
structure Room (k : Nat) (A : Around) : Prop where
  hd : A.handled = none
  dp : A.depth + 3 * k + 5 < recursionLimit
  un : A.units + 16 * k + 200 < cLine
theorem Room.mono {j k : Nat} {A : Around} (r : Room k A) (h : j ≤ k) : Room j A := ⟨r.hd, by have := r.dp; omega, by have := r.un; omega⟩
theorem Room.deeper {k : Nat} {A : Around} (r : Room (k + 1) A) (env : Env) : Room k (A.deeper env) :=
  ⟨r.hd, by have := r.dp; show A.depth + 1 + 3 * k + 5 < _; omega, by have := r.un; show A.units + 3 + 16 * k + 200 < _; omega⟩
theorem make_depth {A : Around} {C : Addr} {us : List Value} {kw : List (Str × Value)} : (A.under (.builtin "type.__call__" ⟨.ref C :: us, kw⟩)).depth = A.depth + 1 := by
  first | rfl | simp [Around.under, Code.weight, Code.isCreation, Code.isGuard, Code.isCaller, Code.frames, Code.isFrame, guardIds]
theorem make_units {A : Around} {C : Addr} {us : List Value} {kw : List (Str × Value)} : (A.under (.builtin "type.__call__" ⟨.ref C :: us, kw⟩)).units = A.units + 1 := by
  first | rfl | simp [Around.under, Code.cUnits, Code.frames, Code.isFrame]
theorem Room.make {k : Nat} {A : Around} (r : Room (k + 1) A) (C : Addr) (us : List Value) (kw : List (Str × Value)) : Room k (A.under (.builtin "type.__call__" ⟨.ref C :: us, kw⟩)) :=
  ⟨r.hd, by have := r.dp; rw [make_depth]; omega, by have := r.un; rw [make_units]; omega⟩
theorem Room.depth {k : Nat} {A : Around} (r : Room k A) : A.depth < recursionLimit := by have := r.dp; omega
theorem Room.units {k : Nat} {A : Around} (r : Room k A) : A.units + 64 < cLine := by have := r.un; omega
def tNil : TA := fun _ H Q => Q [] H
def tCons (ta : TE) (tr : TA) : TA := fun σ H Q => ta σ H fun x H1 => tr σ H1 fun xs H2 => Q (x :: xs) H2
section
variable {X : Cx} {e : Expr} {es : List Expr} {te : TE} {t : TA} {pos : Pos}
theorem pa_nil : PA X [] tNil := fun _ _ _ _ H Q I h => Calls.spliced_nil ⟨[], H, I, .nil, h⟩
theorem pa_cons (ha : PE X e te) (hr : PA X es t) (hs : starEach (e :: es) X.env = (false, eval e X.env) :: starEach es X.env := by rfl) : PA X (e :: es) (tCons te t) := by
  intro pos pins s σ H Q I h
  rw [hs]
  show wpAny _ _ (spliced ((false, eval e X.env) :: backTo pos (starEach es X.env))) _ _ s
  refine Calls.spliced_cons (thn (ha pins s σ H _ I h) fun u s1 ⟨x, H1, I1, r1, q1⟩ => ?_)
  exact thn (hr pos pins s1 σ H1 _ I1 q1) fun us s2 ⟨xs, H2, I2, r2, q2⟩ => ⟨x :: xs, H2, I2, .cons r1 r2, q2⟩
def tTup (t : TA) : TE := fun σ H Q => t σ H fun xs H1 => xs.length ≤ sizeLine ∧ ∀ p, H1 p = none → Q (.ref p) (upd H1 p (.tup xs))
def tLst (t : TA) : TE := fun σ H Q => t σ H fun xs H1 => xs.length ≤ sizeLine ∧ ∀ p, H1 p = none → Q (.ref p) (upd H1 p (.lst xs))
theorem pe_tup {x1} (h : PA X es t) : PE X (.Tuple es x1 pos) (tTup t) := by
  intro pins s σ H Q I hq
  refine wpAny_Tuple_spliced (thn (h pos pins s σ H _ I hq) fun us s1 ⟨xs, H1, I1, r, z, q⟩ => ⟨by rw [← r.length]; exact z, ?_⟩)
  have hf : H1 s1.heap.objs.size = none := I1.hok.fresh (Nat.le_refl _)
  refine ⟨.ref s1.heap.objs.size, upd H1 s1.heap.objs.size (.tup xs), I1.laid (t' := s1.toks) (fun b u e => Heap.get?_push_of_some _ e) (Nat.le_refl _) ?_, rfl, q _ hf⟩
  exact ⟨z, us, r, ⟨_, Heap.get?_push_size _ rfl, rfl, _, rfl⟩⟩
theorem pe_lst (h : PA X es t) : PE X (.List es pos) (tLst t) := by
  intro pins s σ H Q I hq
  refine wpAny_List_spliced (thn (h pos pins s σ H _ I hq) fun us s1 ⟨xs, H1, I1, r, z, q⟩ => ⟨by rw [← r.length]; exact z, ?_⟩)
  have hf : H1 s1.heap.objs.size = none := I1.hok.fresh (Nat.le_refl _)
  refine ⟨.ref s1.heap.objs.size, upd H1 s1.heap.objs.size (.lst xs), I1.laid (t' := s1.toks) (fun b u e => Heap.get?_push_of_some _ e) (Nat.le_refl _) ?_, rfl, q _ hf⟩
  exact ⟨z, us, 0, r, Heap.get?_push_size _ rfl⟩
end
abbrev Sp := List V → Hp → VK → XK → Prop
abbrev CXT := List Env → Hp → Shared → XK → Value → Shared → Prop
structure Env0 (P : Program) (w : World) (K : PySem.W.Frag) (mg : Str → Option Value) (base : Heap) (A : Around) (outer : List Env) (s : Shared) (H : Hp) : Prop where
  frames : A.frames = some outer
  mod : Mod K mg base
  bs : ∀ b o, base.get? b = some o → s.heap.get? b = some o ∧ H b = none
  bsz : base.objs.size ≤ s.heap.objs.size
  funs : s.heap.FunFrames base outer
  frf : ∀ b ∈ frs outer, H b = none
  hok : HOk P w H s.heap
  bare : AllBare s.gens
def CE (outer : List Env) (P : Program) (w : World) (H : Hp) (s : Shared) (Q : VK) (u : Value) (s' : Shared) : Prop :=
  ∃ v H', s'.os = s.os ∧ AllBare s'.gens ∧ Un (frs outer) [] H H' s.heap s'.heap ∧ HOk P w H' s'.heap ∧ RelV v u ∧ Q v H'
def CR (CX : CXT) (outer : List Env) (P : Program) (w : World) (H : Hp) (s : Shared) (Q : VK) (E : XK) (r : Result) (s' : Shared) : Prop :=
  match r with
  | .ok (.ret u) => CE outer P w H s Q u s'
  | .ok _ => False
  | .error e => CX outer H s E e s'
structure FnOk (P : Program) (w : World) (K : PySem.W.Frag) (mg : Str → Option Value) (base : Heap) (CX : CXT) (k : Nat) (f : Addr) (fd : FuncData) (ps : List Str) (sp : Sp) : Prop where
  len : ∀ vs H Q E, sp vs H Q E → vs.length = ps.length
  run : ∀ (A : Around) (outer : List Env) (s : Shared) (H : Hp) (args : Args) (us : List Value) (vs : List V) (Q : VK) (E : XK), Room k A → Env0 P w K mg base A outer s H → BindsTo s fd args (ps.zip us) → Vals vs us → sp vs H Q E →
    codeAny (model P w) A (.call (.ref f) args) (CR CX outer P w H s Q E) s
theorem Env0.make {P : Program} {w : World} {K : PySem.W.Frag} {mg : Str → Option Value} {base : Heap} {A : Around} {outer : List Env} {s : Shared} {H : Hp} (e : Env0 P w K mg base A outer s H) (C : Addr) (us : List Value) (kw : List (Str × Value)) :
    Env0 P w K mg base (A.under (.builtin "type.__call__" ⟨.ref C :: us, kw⟩)) outer s H := ⟨by first | exact e.frames | (simpa [Around.under, Code.envs, Code.isFrame, pushEnvs] using e.frames), e.mod, e.bs, e.bsz, e.funs, e.frf, e.hok, e.bare⟩
section
variable {X : Cx} {pins : List (Addr × Obj)} {σ : St} {H : Hp} {s s' : Shared}
theorem Inv.env0 (I : Inv X pins σ H s) : Env0 X.prog X.w X.K X.mg X.base X.A X.stack s H :=
  ⟨I.ok.frames, I.ok.mod, I.bs, Nat.le_trans I.ok.bsz I.sz, I.stack, I.stkFree, I.hok, I.bare⟩
theorem Inv.after {Q : VK} {u : Value} (I : Inv X pins σ H s) (h : CE X.stack X.prog X.w H s Q u s') : EP X pins σ Q u s' := by
  obtain ⟨v, H', os, bare, un, hok, r, q⟩ := h
  obtain ⟨hh, g, d, t, os'⟩ := s'
  obtain rfl : os' = s.os := os
  exact ⟨v, H', I.call (h' := hh) (g' := g) (d' := d) (t' := t) (ch := []) un hok bare (fun b z => absurd z (by simp)), r, q⟩
end
def tCall (sp : Sp) (dvs : List V) (E : XK) (t : TA) : TE := fun σ H Q => t σ H fun vs H1 => sp (vs ++ dvs) H1 Q E
def tMake (C : Addr) (sp : Sp) (dvs : List V) (E : XK) (t : TA) : TE := fun σ H Q => t σ H fun vs H1 => ∀ x dx, H1 x = none → H1 dx = none → dx ≠ x →
  sp (.ref x :: (vs ++ dvs)) (upd (upd H1 dx (.own x)) x (.ins C dx [])) (fun v H2 => v = .non ∧ Q (.ref x) H2) E
def Binds (K : PySem.W.Frag) (fd : FuncData) (ps : List Str) (ds : List Value) : Prop :=
  ∀ (s : Shared) (us : List Value), K.In s.heap → (us ++ ds).length = ps.length → BindsTo s fd ⟨us, []⟩ (ps.zip (us ++ ds))
theorem Binds.all {K : PySem.W.Frag} {fd : FuncData} {ps : List Str} (h : ∀ us : List Value, us.length = ps.length → bindArgs fd ⟨us, []⟩ = pure (ps.zip us)) : Binds K fd ps [] := fun s us _ hl => by
  rw [List.append_nil] at hl ⊢
  exact .of_eq (h us hl)
def Passes (CX : CXT) (X : Cx) (E : XK) : Prop := ∀ (pins : List (Addr × Obj)) (σ : St) (H : Hp) (s : Shared) (e : Value) (s' : Shared), Inv X pins σ H s → CX X.stack H s E e s' → X.xe e s'
section
variable {X : Cx} {CX : CXT} {k : Nat} {f C : Addr} {fd : FuncData} {ps : List Str} {sp : Sp} {dvs : List V} {ds : List Value} {E : XK} {x m : Str} {p pos apos : Pos} {e o : Expr} {es : List Expr} {ta : TE} {t : TA}
theorem run_fn {pins : List (Addr × Obj)} {σ : St} {H : Hp} {s : Shared} {Q : VK} {us : List Value} {vs : List V} (F : FnOk X.prog X.w X.K X.mg X.base CX k f fd ps sp) (hr : Room k X.A) (hb : Binds X.K fd ps ds) (hd : Vals dvs ds) (hx : Passes CX X E)
    (I : Inv X pins σ H s) (r : Vals vs us) (h : sp (vs ++ dvs) H Q E) : wpAny (model X.prog X.w) X.A (call (.ref f) us) (EP X pins σ Q) X.xe s := by
  have r2 : Vals (vs ++ dvs) (us ++ ds) := r.append hd
  have hl : (us ++ ds).length = ps.length := by rw [← r2.length]; exact F.len _ _ _ _ h
  refine wpAny_call (codeAny_mono (F.run X.A X.stack s H ⟨us, []⟩ (us ++ ds) (vs ++ dvs) Q E hr I.env0 (hb s us I.kIn hl) r2 h) fun r s' hq => ?_)
  cases r with
  | error e => exact hx pins σ H s e s' I hq
  | ok fl =>
    cases fl with
    | ret u => exact I.after hq
    | next => exact False.elim hq
    | brk => exact False.elim hq
    | cont => exact False.elim hq
theorem pe_call (F : FnOk X.prog X.w X.K X.mg X.base CX k f fd ps sp) (hr : Room k X.A) (hg : Gl X x) (hm : X.mg x = some (.ref f)) (hk : PySem.W.keepIn X.K (.ref f) = true) (hb : Binds X.K fd ps ds) (hd : Vals dvs ds) (hx : Passes CX X E)
    (ha : PA X (e :: es) t) (hdb : (x == ("__debug__" : Str)) = false := by decide) (he : starEach (e :: es) X.env = (false, eval e X.env) :: starEach es X.env := by rfl) (hpl : (backTo pos (starEach es X.env)).any (·.1) = false := by rfl) :
    PE X (.Call (.Name x p) (e :: es) [] pos) (tCall sp dvs E t) := by
  intro pins s σ H Q I h
  refine wpAny_Call_Name_kw (ld_glob I hg hm ?_ hdb)
  refine PySem.W.callWith_K (h₀ := X.base) I.ok.mod.kin hk (thn (ha pos pins s σ H _ I h) fun us s1 ⟨vs, H1, I1, r, q⟩ => ⟨I1.kIn, ?_⟩) he hpl
  exact run_fn F hr hb hd hx I1 r q
structure Mk (K : PySem.W.Frag) (C f : Addr) : Prop where
  makes : PySem.W.makesIn K C = true
  init : PySem.W.findIn K (.ref C) "__init__" = some (some (.ref f))
  fn : PySem.W.isFn K (.ref f) = true
  kp : PySem.W.keepIn K (.ref C) = true
theorem run_make {pins : List (Addr × Obj)} {σ : St} {H : Hp} {s : Shared} {Q : VK} {us : List Value} {vs : List V} (M : Mk X.K C f) (F : FnOk X.prog X.w X.K X.mg X.base CX k f fd ps sp) (hr : Room (k + 1) X.A) (hb : Binds X.K fd ps ds) (hd : Vals dvs ds)
    (hx : Passes CX X E) (I : Inv X pins σ H s) (r : Vals vs us)
    (h : ∀ x dx, H x = none → H dx = none → dx ≠ x → sp (.ref x :: (vs ++ dvs)) (upd (upd H dx (.own x)) x (.ins C dx [])) (fun v H2 => v = .non ∧ Q (.ref x) H2) E) :
    wpAny (model X.prog X.w) X.A (call (.ref C) us) (EP X pins σ Q) X.xe s := by
  have hq := h (s.heap.objs.size + 1) s.heap.objs.size (I.hok.fresh (Nat.le_succ _)) (I.hok.fresh (Nat.le_refl _)) (Nat.ne_of_lt (Nat.lt_succ_self _))
  have I2 := Inv.made (C := C) I
  have r2 : Vals (V.ref (s.heap.objs.size + 1) :: (vs ++ dvs)) (Value.ref (s.heap.objs.size + 1) :: (us ++ ds)) := .cons rfl (r.append hd)
  have hl : (Value.ref (s.heap.objs.size + 1) :: us ++ ds).length = ps.length := by
    have e := r2.length
    rw [F.len _ _ _ _ hq] at e
    exact e.symm
  refine wpAny_call (make_map (f := f) I.kIn M.makes M.init (beq_iff_eq.mp M.fn) (codeAny_mono (F.run _ X.stack _ _ ⟨Value.ref (s.heap.objs.size + 1) :: us, []⟩ (Value.ref (s.heap.objs.size + 1) :: (us ++ ds)) _ _ E (hr.make C us [])
    (I2.env0.make C us []) (hb _ (Value.ref (s.heap.objs.size + 1) :: us) I2.kIn hl) r2 hq) fun r s' hq' => ?_))
  cases r with
  | error e => exact hx pins σ _ _ e s' I2 hq'
  | ok fl =>
    cases fl with
    | ret u =>
      obtain ⟨v, H', I3, rv, ev, q3⟩ := I2.after hq'
      subst ev
      exact ⟨rv, ⟨V.ref (s.heap.objs.size + 1), H', I3, rfl, q3⟩⟩
    | next => exact False.elim hq'
    | brk => exact False.elim hq'
    | cont => exact False.elim hq'
theorem pe_make (M : Mk X.K C f) (F : FnOk X.prog X.w X.K X.mg X.base CX k f fd ps sp) (hr : Room (k + 1) X.A) (hg : Gl X x) (hm : X.mg x = some (.ref C)) (hb : Binds X.K fd ps ds) (hd : Vals dvs ds) (hx : Passes CX X E)
    (ha : PA X (e :: es) t) (hdb : (x == ("__debug__" : Str)) = false := by decide) (he : starEach (e :: es) X.env = (false, eval e X.env) :: starEach es X.env := by rfl) (hpl : (backTo pos (starEach es X.env)).any (·.1) = false := by rfl) :
    PE X (.Call (.Name x p) (e :: es) [] pos) (tMake C sp dvs E t) := by
  intro pins s σ H Q I h
  refine wpAny_Call_Name_kw (ld_glob I hg hm ?_ hdb)
  refine PySem.W.callWith_K (h₀ := X.base) I.ok.mod.kin M.kp (thn (ha pos pins s σ H _ I h) fun us s1 ⟨vs, H1, I1, r, q⟩ => ⟨I1.kIn, ?_⟩) he hpl
  exact run_make M F hr hb hd hx I1 r q
end
section
variable {X : Cx} {CX : CXT} {k : Nat} {f C : Addr} {fd : FuncData} {ps ks : List Str} {sp : Sp} {E : XK} {x m : Str} {p pos apos kpos : Pos} {e o : Expr} {es : List Expr} {kws : List Keyword} {te ta : TE} {t tk : TA} {nm : Option Str}
structure KBinds (K : PySem.W.Frag) (fd : FuncData) (ps ks : List Str) (g : List Value → List Value → List Value) (gV : List V → List V → List V) : Prop where
  to : ∀ (s : Shared) (us ws : List Value), K.In s.heap → (g us ws).length = ps.length → BindsTo s fd ⟨us, ks.zip ws⟩ (ps.zip (g us ws))
  rel : ∀ {vs : List V} {us : List Value} {zs : List V} {ws : List Value}, Vals vs us → Vals zs ws → Vals (gV vs zs) (g us ws)
variable {g : List Value → List Value → List Value} {gV : List V → List V → List V}
end
structure FnScope (N P : List Str) (sc : Scope) : Prop where
  kind : sc.kind = .function
  co : sc.isCoroutine = false
  gen : sc.isGenerator = false
  nd : N.Nodup
  pre : N.take P.length = P
  par : ∀ x ∈ P, sc.names.lookup x = some .local ∨ sc.names.lookup x = some .cell
  nofree : ∀ y ∈ sc.names, y.2 ≠ .free
theorem bindL_out {kindOf : Str → Option NameKind} {x : Str} : ∀ {binds : List (Str × Value)} {m : Str → Option Value}, (∀ v, (x, v) ∉ binds) → bindL kindOf binds m x = m x
  | [], _, _ => rfl
  | (n, v) :: r, m, h => by
    unfold bindL
    rw [bindL_out fun w hw => h w (List.mem_cons_of_mem _ hw)]
    split
    · have : x ≠ n := by rintro rfl; exact h v List.mem_cons_self
      simp [this]
    · rfl
theorem bindC_out {kindOf : Str → Option NameKind} {x : Str} : ∀ {binds : List (Str × Value)} {m : Str → Option Value}, (∀ v, (x, v) ∉ binds) → bindC kindOf binds m x = m x
  | [], _, _ => rfl
  | (n, v) :: r, m, h => by
    unfold bindC
    rw [bindC_out fun w hw => h w (List.mem_cons_of_mem _ hw)]
    split
    · rfl
    · have : x ≠ n := by rintro rfl; exact h v List.mem_cons_self
      simp [this]
theorem bindL_get {kindOf : Str → Option NameKind} {x : Str} {v : Value} : ∀ {P : List Str} {vs : List Value} {i : Nat} {m : Str → Option Value}, P.Nodup → P[i]? = some x → vs[i]? = some v → kindOf x = some .local →
    bindL kindOf (P.zip vs) m x = some v
  | [], _, _, _, _, h, _, _ => by simp at h
  | _ :: _, [], _, _, _, _, h, _ => by simp at h
  | p :: P, w :: vs, 0, m, nd, h1, h2, hk => by
    simp at h1 h2; subst h1; subst h2
    show bindL kindOf ((p, w) :: P.zip vs) m p = _
    unfold bindL
    rw [bindL_out fun v hv => (List.nodup_cons.mp nd).1 (List.of_mem_zip hv).1, if_pos hk]
    simp
  | p :: P, w :: vs, i + 1, m, nd, h1, h2, hk => by
    show bindL kindOf ((p, w) :: P.zip vs) m x = _
    unfold bindL
    exact bindL_get (i := i) (List.nodup_cons.mp nd).2 (by simpa using h1) (by simpa using h2) hk
theorem bindC_get {kindOf : Str → Option NameKind} {x : Str} {v : Value} : ∀ {P : List Str} {vs : List Value} {i : Nat} {m : Str → Option Value}, P.Nodup → P[i]? = some x → vs[i]? = some v → kindOf x ≠ some .local →
    bindC kindOf (P.zip vs) m x = some v
  | [], _, _, _, _, h, _, _ => by simp at h
  | _ :: _, [], _, _, _, _, h, _ => by simp at h
  | p :: P, w :: vs, 0, m, nd, h1, h2, hk => by
    simp at h1 h2; subst h1; subst h2
    show bindC kindOf ((p, w) :: P.zip vs) m p = _
    unfold bindC
    rw [bindC_out fun v hv => (List.nodup_cons.mp nd).1 (List.of_mem_zip hv).1, if_neg hk]
    simp
  | p :: P, w :: vs, i + 1, m, nd, h1, h2, hk => by
    show bindC kindOf ((p, w) :: P.zip vs) m x = _
    unfold bindC
    exact bindC_get (i := i) (List.nodup_cons.mp nd).2 (by simpa using h1) (by simpa using h2) hk
def start (N : List Str) (vs : List V) : St := vs.map some ++ List.replicate (N.length - vs.length) none
def cxOf (CX : CXT) (P : Program) (w : World) (K : PySem.W.Frag) (mg : Str → Option Value) (base : Heap) (N : List Str) (qual : Str) (scope : Scope) (f : Addr) (cd : Value) (A : Around) (outer : List Env) (s : Shared) (H : Hp) (E : XK) : Cx where
  prog := P
  w := w
  K := K
  mg := mg
  base := base
  A := A.deeper (envOfC qual scope s.heap.objs.size f cd)
  N := N
  s_0 := s
  H_0 := H
  env := envOfC qual scope s.heap.objs.size f cd
  outer := outer
  stack := envOfC qual scope s.heap.objs.size f cd :: outer
  ex := []
  calm := true
  fn := fun _ => true
  pn := []
  xe := fun e s' => wpAny (model P w) (A.deeper (envOfC qual scope s.heap.objs.size f cd)) (leaving (envOfC qual scope s.heap.objs.size f cd) e) (fun _ s'' => CX outer H s E e s'') (fun e' s'' => CX outer H s E e' s'') s'
theorem cell_has {sc : Scope} {n : Nat} {x : Str} (h : sc.names.lookup x = some .cell) : ∃ c, (cellsFrom n sc.names []).lookup x = some c := by
  have q := PySem.W.cellsFrom_some sc.names n [] (.inl h)
  exact Option.isSome_iff_exists.mp q
theorem inv_start {CX : CXT} {P : Program} {w : World} {K : PySem.W.Frag} {mg : Str → Option Value} {base : Heap} {N ps : List Str} {qual : Str} {scope : Scope} {f : Addr} {cd : Value} {A : Around} {outer : List Env} {s s1 : Shared} {H : Hp} {E : XK} {us : List Value} {vs : List V}
    (S : FnScope N ps scope) (hd : A.handled = none) (e0 : Env0 P w K mg base A outer s H) (hl : vs.length = ps.length) (r : Vals vs us)
    (x : InCallC s s.heap.objs.size (bindL (envOfC qual scope s.heap.objs.size f cd).kindOf (ps.zip us) fun _ => none) (cellsFrom (s.heap.objs.size + 1) scope.names []) (bindC (envOfC qual scope s.heap.objs.size f cd).kindOf (ps.zip us) fun _ => none) s1) :
    Inv (cxOf CX P w K mg base N qual scope f cd A outer s H E) [] (start N vs) H s1 := by
  have hpl : ps.length ≤ N.length := by have := congrArg List.length S.pre; rw [List.length_take] at this; omega
  obtain ⟨h1, tk, rfl, hk⟩ := x.done
  have noA : ∀ b : Addr, b ∉ (cxOf CX P w K mg base N qual scope f cd A outer s H E).ex := fun b z => absurd (show b ∈ ([] : List Addr) from z) (by simp)
  refine ⟨⟨e0.mod, S.kind, rfl, rfl, Nat.le_refl _, fun y z c h1 h2 => ?_, fun y hy => ?_, fun y c _ h => ?_, fun _ => hd, Around.frames_deeper e0.frames, .inr ⟨rfl, rfl⟩, fun b z => absurd z (noA b), e0.bs, e0.bsz, fun b _ _ => noA b, fun b z => absurd z (noA b), e0.funs, e0.frf⟩,
    rfl, e0.bare, Un.kept hk, ⟨_, x.toInCall.ns, fun i y v h1 h2 h3 => ?_⟩, fun y c h => ⟨_, x.cell y c h⟩, e0.hok.fresh (Nat.le_refl _), fun y c h => ?_, fun p hp => absurd (show p ∈ ([] : List (Addr × Obj)) from hp) (by simp), e0.hok.kept hk, ?_⟩
  · exact name_of_addr x.apart (PySem.mem_of_lookup h1) (PySem.mem_of_lookup h2)
  · have hy : scope.names.lookup y = some .cell ∨ scope.names.lookup y = some .free := hy
    rcases hy with hy | hy
    · exact cell_has hy
    · exact absurd rfl (S.nofree _ (PySem.mem_of_lookup hy))
  · exact Nat.le_of_lt (x.above y c (PySem.mem_of_lookup h))
  · have hi : i < vs.length := by
      unfold start at h2
      by_cases hi : i < vs.length
      · exact hi
      · rw [List.getElem?_append_right (by simpa using hi)] at h2
        rw [List.getElem?_replicate] at h2
        split at h2 <;> cases h2
    have ha : vs[i]? = some v := by
      unfold start at h2
      rw [List.getElem?_append_left (by simpa using hi), List.getElem?_map] at h2
      cases e : vs[i]? with
      | none => rw [e] at h2; cases h2
      | some a => rw [e] at h2; cases h2; rfl
    obtain ⟨u, hu, rv⟩ := r.get ha
    have hp : ps[i]? = some y := by
      rw [← S.pre, List.getElem?_take_of_lt (by omega)]; exact h1
    have ndP : ps.Nodup := by rw [← S.pre]; exact S.nd.sublist (List.take_sublist _ _)
    refine ⟨u, rv, ?_⟩
    rcases S.par y (List.mem_of_getElem? hp) with k | k
    · exact .inl ⟨k, bindL_get ndP hp hu k⟩
    · obtain ⟨c, e⟩ := cell_has (n := s.heap.objs.size + 1) k
      refine .inr ⟨.inl k, c, e, ?_⟩
      have q := x.cell y c e
      rw [bindC_get ndP hp hu (by show scope.names.lookup y ≠ _; rw [k]; decide)] at q
      exact q
  · exact e0.hok.fresh (Nat.le_of_lt (x.above y c (PySem.mem_of_lookup h)))
  · unfold start
    show _ = N.length
    rw [List.length_append, List.length_map, List.length_replicate]
    omega
theorem fn_of {CX : CXT} {P : Program} {w : World} {K : PySem.W.Frag} {mg : Str → Option Value} {base : Heap} {k : Nat} {f : Addr} {name qual : Str} {params : Arguments} {body : List Stmt} {scope : Scope} {dV kV doc pm cdv ct oc : Value} {an od : Option Addr}
    {osl : Array (Option Value)} {N ps : List Str} {sp : Sp} (lk : K.lookup f = some ⟨oc, od, .func (PySem.W.fnOf name qual params body scope dV kV doc pm an cdv ct), osl⟩) (hcd : PySem.W.codeIn K cdv qual = true) (S : FnScope N ps scope)
    (len : ∀ vs H Q E, sp vs H Q E → vs.length = ps.length)
    (hbody : ∀ (A : Around) (outer : List Env) (s : Shared) (H : Hp) (vs : List V) (Q : VK) (E : XK), Room k (A.deeper (envOfC qual scope s.heap.objs.size f cdv)) → sp vs H Q E →
      ∃ t, PSs (cxOf CX P w K mg base N qual scope f cdv A outer s H E) body t ∧ t { nx := fun _ H' => Q .non H', rt := Q } (start N vs) H) :
    FnOk P w K mg base CX (k + 1) f (PySem.W.fnOf name qual params body scope dV kV doc pm an cdv ct) ps sp := by
  refine ⟨len, fun A outer s H args us vs Q E hr e0 hb r hsp => ?_⟩
  have hl := len _ _ _ _ hsp
  have KX : K.In s.heap := e0.mod.kin.keeps fun b o e => (e0.bs b o e).1
  have lim : s.heap.NoLimit := e0.mod.nolimit.keeps fun b o e => (e0.bs b o e).1
  have hkind : ∀ y ∈ ps.zip us, scope.names.lookup y.1 = some .local ∨ (scope.names.lookup y.1 = some .cell ∧ ((cellsFrom (s.heap.objs.size + 1) scope.names []).lookup y.1).isSome = true) := fun ⟨n, v⟩ hy => by
    rcases S.par n (List.of_mem_zip hy).1 with q | q
    · exact .inl q
    · exact .inr ⟨q, PySem.W.cellsFrom_some _ _ _ (.inl q)⟩
  refine codeAny_call_function hr.depth (KX _ _ lk) rfl S.co S.gen rfl (PySem.W.codeRec_of KX hcd) (hb _ _ _ _ ?_)
  refine wpAny_newFunctionEnv_cells S.kind hkind fun env he s1 x => ?_
  subst he
  refine ⟨lim.keeps x.toInCall.keep, codeAny_func ?_⟩
  obtain ⟨t, ht, hq⟩ := hbody A outer s H vs Q E (hr.deeper _) hsp
  have I : Inv (cxOf CX P w K mg base N qual scope f cdv A outer s H E) [] (start N vs) H s1 := inv_start S hr.hd e0 hl r x
  refine wpAny_mono (ht [] s1 (start N vs) H _ I hq) (fun fl s' hs => ?_) fun e s' hs => hs
  have fin : ∀ {σ' : St} {H' : Hp} {v : V} {u : Value}, Inv (cxOf CX P w K mg base N qual scope f cdv A outer s H E) [] σ' H' s' → RelV v u → Q v H' → CE outer P w H s Q u s' :=
    fun {σ' H' v u} J rv q => ⟨v, H', J.os, J.bare, J.base, J.hok, rv, q⟩
  cases fl with
  | ret u =>
    obtain ⟨v, σ', H', J, rv, q⟩ := hs
    exact fin J rv q
  | next =>
    obtain ⟨σ', H', J, q⟩ := hs
    exact fin (v := V.non) (u := Value.none) J rfl q
  | brk =>
    obtain ⟨_, _, _, q⟩ := hs
    exact False.elim q
  | cont =>
    obtain ⟨_, _, _, q⟩ := hs
    exact False.elim q
end L2
namespace L2
open PySem PySem.Spec PyProof.Rows
section
variable {X : Cx} {x : Str} {p pos : Pos} {e : Expr} {es : List Expr} {t : TA} {id T : String} {r : List V → Hp → VK → Prop}
def tCB (r : List V → Hp → VK → Prop) (t : TA) : TE := fun σ H Q => t σ H fun vs H1 => r vs H1 Q
theorem pe_callB (hc : CallR X (.builtin id) r) (hg : Gl X x) (hm : X.mg x = none) (hv : bootBuiltins x = some (.builtin id)) (ha : PA X (e :: es) t) (hn : x ≠ "__name__" := by decide) (hdb : (x == ("__debug__" : Str)) = false := by decide)
    (he : starEach (e :: es) X.env = (false, eval e X.env) :: starEach es X.env := by rfl) (hpl : (backTo pos (starEach es X.env)).any (·.1) = false := by rfl) : PE X (.Call (.Name x p) (e :: es) [] pos) (tCB r t) := by
  intro pins s σ H Q I h
  refine wpAny_Call_Name_kw (ld_blt I hg hm hv ?_ hn hdb)
  exact PyProof.Rows.callWith_builtin1 (thn (ha pos pins s σ H _ I h) fun us s1 ⟨vs, H1, I1, r1, q1⟩ => hc pins s1 σ H1 vs us Q I1 r1 q1) he hpl
theorem pe_callTy (hc : CallR X (.type T) r) (hg : Gl X x) (hm : X.mg x = none) (hv : bootBuiltins x = some (.type T)) (ha : PA X (e :: es) t) (hn : x ≠ "__name__" := by decide) (hdb : (x == ("__debug__" : Str)) = false := by decide)
    (he : starEach (e :: es) X.env = (false, eval e X.env) :: starEach es X.env := by rfl) (hpl : (backTo pos (starEach es X.env)).any (·.1) = false := by rfl) : PE X (.Call (.Name x p) (e :: es) [] pos) (tCB r t) := by
  intro pins s σ H Q I h
  refine wpAny_Call_Name_kw (ld_blt I hg hm hv ?_ hn hdb)
  exact PyProof.Rows.callWith_type1 (thn (ha pos pins s σ H _ I h) fun us s1 ⟨vs, H1, I1, r1, q1⟩ => hc pins s1 σ H1 vs us Q I1 r1 q1) he hpl
end
end L2
namespace HT
open PySem PyProof.Rows
section
open PySem.SeqAt
open PySem.AutoSeq1 (wpAny_loadPart')
open PySem.MeetsSeq PySem.MeetsSeq2 PySem.MeetsSeq3
end
section
variable {prog : Program} {w : World} {A : Around} {E : Value → Shared → Prop} {s : Shared}
def sIx (n d : Nat) : Option Int → Nat
  | none => d
  | some v => if v < 0 then (v + (n : Int)).toNat else min v.toNat n
theorem sIx_none (n d : Nat) : sIx n d none = d := rfl
theorem sIx_nat (n d k : Nat) : sIx n d (some (k : Int)) = min k n := by
  show (if (k : Int) < 0 then ((k : Int) + (n : Int)).toNat else min (k : Int).toNat n) = min k n
  rw [if_neg (by omega), Int.toNat_natCast]
end
end HT
namespace L2
open PySem PySem.Spec PyProof.Rows
abbrev TO := St → Hp → (Option Int → Hp → Prop) → Prop
def PO (X : Cx) (e : Option Expr) (t : TO) : Prop :=
  ∀ (pins : List (Addr × Obj)) (s : Shared) (σ : St) (H : Hp) (Q : Option Int → Hp → Prop), Inv X pins σ H s → t σ H Q →
    wpAny (model X.prog X.w) X.A (evalPart e X.env) (fun u s' => ∃ o H', Inv X pins σ H' s' ∧ IsPart u o ∧ Q o H') X.xe s
def tNoPart : TO := fun _ H Q => Q none H
def tPart (t : TE) : TO := fun σ H Q => t σ H fun x H1 => ∃ i, x = .int i ∧ Q (some i) H1
section
variable {X : Cx} {e : Expr} {te : TE} {lo hi : Option Expr} {tl th : TO} {pos p2 : Pos}
theorem po_none : PO X none tNoPart := by
  intro pins s σ H Q I h
  rw [evalPart_none]
  exact wpAny_pure ⟨none, H, I, .none, h⟩
theorem po_some (h : PE X e te) : PO X (some e) (tPart te) := by
  intro pins s σ H Q I hw
  rw [evalPart_some]
  refine thn (h pins s σ H _ I hw) fun u s1 ⟨x, H1, I1, r1, q1⟩ => ?_
  obtain ⟨i, rfl, q⟩ := q1
  obtain ⟨t, rfl⟩ := r1
  exact ⟨some i, H1, I1, .int i t, q⟩
def SlR (X : Cx) (r : V → Option Int → Option Int → Hp → VK → Prop) : Prop :=
  ∀ (pins : List (Addr × Obj)) (s : Shared) (σ : St) (H : Hp) (x : V) (v vl vu : Value) (lo hi : Option Int) (sl : Addr) (Q : VK), Inv X pins σ H s → RelV x v → s.heap.IsSliceOf sl vl vu .none → IsPart vl lo → IsPart vu hi → r x lo hi H Q →
    ∃ T id, typeLookup (.type T) "__getitem__" = pure (some (.builtin id)) ∧ s.TypeIs v T ∧ wpAny (model X.prog X.w) X.A (getItem v (.ref sl)) (EP X pins σ Q) X.xe s
def tSl (r : V → Option Int → Option Int → Hp → VK → Prop) (te : TE) (tl th : TO) : TE := fun σ H Q => te σ H fun x H1 => tl σ H1 fun l H2 => th σ H2 fun u H3 => r x l u H3 Q
theorem pe_slice {r : V → Option Int → Option Int → Hp → VK → Prop} (hr : SlR X r) (he : PE X e te) (hl : PO X lo tl) (hu : PO X hi th) : PE X (.Subscript e (.Slice lo hi none p2) pos) (tSl r te tl th) := by
  intro pins s σ H Q I h
  refine Subscript_ (thn (he pins s σ H _ I h) fun v s1 ⟨x, H1, I1, r1, q1⟩ => ?_)
  refine wpAny_Slice (thn (hl pins s1 σ H1 _ I1 q1) fun vl s2 ⟨l, H2, I2, pl, q2⟩ => thn (hu pins s2 σ H2 _ I2 q2) fun vu s3 ⟨u, H3, I3, pu, q3⟩ => ?_)
  rw [evalPart_none]
  refine wpAny_pure ?_
  have I4 : Inv X pins σ H3 { s3 with heap := s3.heap.push { cls := .type "slice", data := .fields #[vl, vu, .none] } } := I3.kept (t' := s3.toks) fun b ob q => Heap.get?_push_of_some _ q
  obtain ⟨T, id, hT, ht, hg⟩ := hr pins { s3 with heap := s3.heap.push { cls := .type "slice", data := .fields #[vl, vu, .none] } } σ H3 x v vl vu l u s3.heap.objs.size Q I4 r1 (Heap.IsSliceOf.new ..) pl pu q3
  show wpAny (model X.prog X.w) X.A (subscriptTail e (.Slice lo hi none p2) v (.ref s3.heap.objs.size)) (EP X pins σ Q) X.xe { s3 with heap := s3.heap.push { cls := .type "slice", data := .fields #[vl, vu, .none] } }
  exact tail_any (ops := [.ref s3.heap.objs.size, v]) ht hT hg (by with_unfolding_all rfl)
def cutV (xs : List V) (lo hi : Option Int) : List V := (xs.drop (HT.sIx xs.length 0 lo)).take (HT.sIx xs.length xs.length hi - HT.sIx xs.length 0 lo)
theorem cutV_length (xs : List V) (lo hi : Option Int) : (cutV xs lo hi).length ≤ xs.length := by
  unfold cutV
  rw [List.length_take, List.length_drop]
  omega
end
end L2
namespace L2
open PySem PySem.Spec PyProof.Rows
def ixN (n : Nat) (i : Int) : Option Nat := if 0 ≤ i then (if i < n then some i.toNat else none) else if -(n : Int) ≤ i then some (i + n).toNat else none
def atI {α : Type} (xs : List α) (i : Int) : Option α := (ixN xs.length i).bind fun j => xs[j]?
theorem ixN_seq {n : Nat} {i : Int} {j : Nat} (h : ixN n i = some j) : seqIndex? i n = some j ∧ j < n ∧ -(n : Int) ≤ i ∧ i < n := by
  unfold ixN at h
  by_cases h0 : 0 ≤ i
  · rw [if_pos h0] at h
    by_cases h1 : i < n
    · rw [if_pos h1] at h
      have e : i.toNat = j := Option.some.inj h
      exact ⟨by rw [seqIndex_of h0 h1, e], by omega, by omega, h1⟩
    · rw [if_neg h1] at h; cases h
  · rw [if_neg h0] at h
    by_cases h1 : -(n : Int) ≤ i
    · rw [if_pos h1] at h
      have e : (i + n).toNat = j := Option.some.inj h
      exact ⟨by rw [seqIndex_neg (by omega) h1, e], by omega, h1, by omega⟩
    · rw [if_neg h1] at h; cases h
theorem atI_get {α : Type} {xs : List α} {i : Int} {v : α} (h : atI xs i = some v) : ∃ j, seqIndex? i xs.length = some j ∧ xs[j]? = some v ∧ j < xs.length ∧ -(xs.length : Int) ≤ i ∧ i < xs.length := by
  unfold atI at h
  cases e : ixN xs.length i with
  | none => rw [e] at h; cases h
  | some j =>
    rw [e] at h
    obtain ⟨h1, h2, h3, h4⟩ := ixN_seq e
    exact ⟨j, h1, h, h2, h3, h4⟩
theorem atI_nat {α : Type} {xs : List α} {j : Nat} {v : α} (h : xs[j]? = some v) : atI xs (j : Int) = some v := by
  have hj : j < xs.length := (List.getElem?_eq_some_iff.mp h).1
  have e : ixN xs.length (j : Int) = some j := by
    unfold ixN
    rw [if_pos (by omega), if_pos (by omega)]; simp
  unfold atI; rw [e]; exact h
def PlainIx (b : Expr) : Prop := ∀ o i, subscripted b false o i = operate [o, i] (getItem o i)
def IxR (X : Cx) (r : R2) : Prop :=
  ∀ (value slice : Expr) (pins : List (Addr × Obj)) (s : Shared) (σ : St) (H : Hp) (x y : V) (v u : Value) (Q : VK), Inv X pins σ H s → RelV x v → RelV y u → r x y H Q →
    subscripted slice false v u = operate [v, u] (getItem v u) → wpAny (model X.prog X.w) X.A (subscriptTail value slice v u) (EP X pins σ Q) X.xe s
def MtR (X : Cx) (id : String) (r : V → List V → Hp → VK → Prop) : Prop :=
  ∀ (pins : List (Addr × Obj)) (s : Shared) (σ : St) (H : Hp) (x : V) (xs : List V) (v : Value) (us : List Value) (Q : VK), Inv X pins σ H s → RelV x v → Vals xs us → r x xs H Q →
    wpAny (model X.prog X.w) X.A (call (.builtin id) (v :: us)) (EP X pins σ Q) X.xe s
section
variable {X : Cx} {a b : Expr} {ta tb : TE} {pos : Pos}
theorem pe_ix {r : R2} (hr : IxR X r) (ha : PE X a ta) (hb : PE X b tb) (hs : PlainIx b) : PE X (.Subscript a b pos) (tOp r ta tb) := by
  intro pins s σ H Q I h
  exact Subscript_ (binT ha hb I h fun v u s2 x y H2 I2 rx ry q => hr a b pins s2 σ H2 x y v u Q I2 rx ry q (hs _ _))
def rIxL (K : PySem.W.Frag) : R2 := fun x y H Q => ∃ p xs i v, x = .ref p ∧ y = .int i ∧ SqL K H p xs ∧ atI xs i = some v ∧ Q v H
def rIxT (K : PySem.W.Frag) : R2 := fun x y H Q => ∃ p xs i v, x = .ref p ∧ y = .int i ∧ SqT K H p xs ∧ atI xs i = some v ∧ Q v H
theorem ix_list : IxR X (rIxL X.K) := by
  intro value slice pins s σ H x y v u Q I rx ry h hs
  obtain ⟨p, xs, i, z, rfl, rfl, hq, he, q⟩ := h
  cases rx
  obtain ⟨t, rfl⟩ := ry
  obtain ⟨its, r, pl, hz⟩ := I.list hq
  obtain ⟨j, h1, h2, h3, h4, h5⟩ := atI_get he
  obtain ⟨w, ew, rw'⟩ := r.get h2
  have hl := r.length
  have hn := line63
  have fin : EP X pins σ Q w s := ⟨z, H, I, rw', q⟩
  by_cases h0 : 0 ≤ i
  · have hj : i.toNat = j := by
      rw [seqIndex_of h0 h5] at h1
      exact Option.some.inj h1
    exact item_listR pl.isList h0 (by omega) (by rw [hj]; simpa using ew) fin hs
  · have hj : (i + (its.toArray.size : Int)).toNat = j := by
      rw [seqIndex_neg (by omega) h4] at h1
      rw [List.size_toArray, ← hl]
      exact Option.some.inj h1
    exact subscriptTail_builtinR (x := w) pl.isList.typeIs slot_list_getitem.lookup
      (wpAny_getItem_list_neg (Q := fun r s' => r = w ∧ EP X pins σ Q r s') pl.isList (by omega) (by rw [List.size_toArray] <;> omega) (by omega) (by rw [hj]; simpa using ew) ⟨rfl, fin⟩) hs
theorem ix_tup : IxR X (rIxT X.K) := by
  intro value slice pins s σ H x y v u Q I rx ry h hs
  obtain ⟨p, xs, i, z, rfl, rfl, hq, he, q⟩ := h
  cases rx
  obtain ⟨t, rfl⟩ := ry
  obtain ⟨its, r, pl, hz⟩ := I.tuple hq
  obtain ⟨j, h1, h2, h3, h4, h5⟩ := atI_get he
  obtain ⟨w, ew, rw'⟩ := r.get h2
  have hl := r.length
  have hn := line63
  have fin : EP X pins σ Q w s := ⟨z, H, I, rw', q⟩
  exact subscriptTail_builtinR (x := w) pl.typeIs slot_tuple_getitem.lookup
    (getItem_tuple (j := j) (Q := fun r s' => r = w ∧ EP X pins σ Q r s') pl (by omega) (by omega) (by rw [List.size_toArray, ← hl]; exact h1) (by simpa using ew) ⟨rfl, fin⟩) hs
theorem mapSeq_set (its : List Value) (n j : Nat) (u : Value) : Obj.mapSeq (·.setIfInBounds j u) { cls := .type "list", data := .seq its.toArray n } = { cls := .type "list", data := .seq (its.set j u).toArray n } := by
  simp [Obj.mapSeq]
theorem Inv.lst {pins : List (Addr × Obj)} {σ : St} {H : Hp} {s : Shared} {p : Addr} {xs : List V} (I : Inv X pins σ H s) (h : H p = some (.lst xs)) :
    ∃ (its : List Value) (n : Nat), Vals xs its ∧ s.heap.get? p = some { cls := .type "list", data := .seq its.toArray n } ∧ xs.length ≤ sizeLine := by
  obtain ⟨z, its, n, r, e⟩ := I.hok p _ h
  exact ⟨its, n, r, e, z⟩
theorem Inv.lstUpd {pins : List (Addr × Obj)} {σ : St} {H : Hp} {s : Shared} {p : Addr} {xs ys : List V} {its its' : List Value} {n n' : Nat} {f : Obj → Obj} (I : Inv X pins σ H s) (h : H p = some (.lst xs))
    (ho : s.heap.get? p = some { cls := .type "list", data := .seq its.toArray n }) (hf : f { cls := .type "list", data := .seq its.toArray n } = { cls := .type "list", data := .seq its'.toArray n' }) (r : Vals ys its') (hz : ys.length ≤ sizeLine) (t : Nat) :
    Inv X pins σ (upd H p (.lst ys)) { s with heap := s.heap.update p f, toks := t } := by
  have e : (s.heap.update p f).get? p = some { cls := .type "list", data := .seq its'.toArray n' } := by
    rw [Heap.get?_update_self f ho (by rw [hf] <;> rfl), hf]
  refine I.write (x := p) (e := p) (by rw [h]; trivial) (.inl rfl) (fun b u hb q => (Heap.get?_update_other _ _ (Ne.symm hb)).trans q) ⟨_, e⟩ ?_
  exact ⟨hz, its', n', r, e⟩
def rSetL : V → V → V → Hp → (Hp → Prop) → Prop := fun o i v H Q => ∃ p xs k j, o = .ref p ∧ i = .int k ∧ H p = some (.lst xs) ∧ ixN xs.length k = some j ∧ Q (upd H p (.lst (xs.set j v)))
theorem set_list : PSet X rSetL := by
  intro pins s σ H o i v ov iv u Q I ro ri rv h
  obtain ⟨p, xs, k, j, rfl, rfl, hp, hj, q⟩ := h
  cases ro
  obtain ⟨t, rfl⟩ := ri
  obtain ⟨its, n, r, ho, hz⟩ := I.lst hp
  obtain ⟨h1, h2, h3, h4⟩ := ixN_seq hj
  have hl := r.length
  have hn := line63
  have I' : Inv X pins σ (upd H p (.lst (xs.set j v))) { s with heap := s.heap.update p (Obj.mapSeq (·.setIfInBounds j u)) } :=
    I.lstUpd hp ho (mapSeq_set its n j u) (r.set rv j) (by rw [List.length_set]; exact hz) s.toks
  by_cases h0 : 0 ≤ k
  · have hk : k.toNat = j := by
      rw [seqIndex_of h0 h4] at h1
      exact Option.some.inj h1
    exact PySem.W.ki_setAt ho h0 (by omega) (by rw [List.size_toArray, ← hl]; exact h4) (by rw [hk]; exact ⟨_, I', q⟩)
  · have hk : (k + (its.toArray.size : Int)).toNat = j := by
      rw [seqIndex_neg (by omega) h3] at h1
      rw [List.size_toArray, ← hl]
      exact Option.some.inj h1
    exact PySem.W.ki_setBack ho (by omega) (by rw [List.size_toArray, ← hl]; exact h3) (by omega) (by rw [hk]; exact ⟨_, I', q⟩)
theorem slice_bounds (lo hi : Option Int) (n : Nat) : (sliceBounds lo hi none n).1 = ((HT.sIx n 0 lo : Nat) : Int) ∧ (sliceBounds lo hi none n).2.1 = ((HT.sIx n n hi : Nat) : Int) ∧ (sliceBounds lo hi none n).2.2 = 1 := by
  refine ⟨?_, ?_, rfl⟩
  · cases lo with
    | none => simp [sliceBounds, HT.sIx]
    | some i =>
      simp only [sliceBounds, HT.sIx, Option.getD_none, show (1 : Int) > 0 by decide, if_true]
      by_cases h : i < 0
      · simp only [h, if_true] <;> omega
      · simp only [h, if_false] <;> omega
  · cases hi with
    | none => simp [sliceBounds, HT.sIx]
    | some i =>
      simp only [sliceBounds, HT.sIx, Option.getD_none, show (1 : Int) > 0 by decide, if_true]
      by_cases h : i < 0
      · simp only [h, if_true] <;> omega
      · simp only [h, if_false] <;> omega
theorem slicePick_cut (its : List Value) (lo hi : Option Int) : slicePick its.toArray lo hi none = ((its.drop (HT.sIx its.length 0 lo)).take (HT.sIx its.length its.length hi - HT.sIx its.length 0 lo)).toArray := by
  obtain ⟨h1, h2, h3⟩ := slice_bounds lo hi its.toArray.size
  unfold slicePick
  rw [h1, h2, h3]
  simp only [sliceRange_one, pick_run, List.size_toArray] <;> rfl
def rSlL (K : PySem.W.Frag) : V → Option Int → Option Int → Hp → VK → Prop := fun x lo hi H Q => ∃ a xs, x = .ref a ∧ SqL K H a xs ∧ ∀ p, H p = none → Q (.ref p) (upd H p (.lst (cutV xs lo hi)))
theorem sl_list : SlR X (rSlL X.K) := by
  intro pins s σ H x v vl vu lo hi sl Q I rx hs pl pu h
  obtain ⟨a, xs, rfl, hx, q⟩ := h
  cases rx
  obtain ⟨its, r, ht, hz⟩ := I.list hx
  have hlen := r.length
  refine ⟨"list", _, slot_list_getitem.lookup, ht.isList.typeIs, ?_⟩
  refine wpAny_getItem_list_slice ht.isList hs pl pu .none (by simp) ?_ (by rw [List.size_toArray] <;> omega)
  rw [slicePick_cut, ← hlen]
  refine ⟨.ref s.heap.objs.size, _, I.laid (t' := s.toks) (o := .lst (cutV xs lo hi)) (fun b ob q => Heap.get?_push_of_some _ q) (Nat.le_refl _) ?_, rfl, q _ (I.hok.fresh (Nat.le_refl _))⟩
  exact ⟨Nat.le_trans (cutV_length xs lo hi) hz, _, 0, (r.drop (HT.sIx xs.length 0 lo)).take (HT.sIx xs.length xs.length hi - HT.sIx xs.length 0 lo), Heap.get?_push_size _ rfl⟩
def flatV : V → Bool
  | .non => true
  | .bl _ => true
  | .int _ => true
  | .str _ => true
  | _ => false
def eqV : V → V → Bool
  | .non, .non => true
  | .bl a, .bl b => a == b
  | .bl a, .int b => (if a then 1 else 0) == b
  | .int a, .bl b => a == (if b then 1 else 0)
  | .int a, .int b => a == b
  | .str a, .str b => a == b
  | _, _ => false
theorem eqAt_V {A : Around} {s : Shared} {y x : V} {u v : Value} (ry : RelV y u) (rx : RelV x v) (fy : flatV y = true) (fx : flatV x = true) : SeqAt.EqAt A s u v (eqV y x) := by
  cases y with
  | non =>
    cases ry
    cases x with
    | non => cases rx; exact SeqAt.EqAt.same _
    | bl b => cases rx; exact SeqAt.EqAt.none_bool b
    | int b => obtain ⟨t, rfl⟩ := rx; exact SeqAt.EqAt.none_int b t
    | str b => obtain ⟨t, rfl⟩ := rx; exact SeqAt.EqAt.none_str b t
    | _ => exact absurd (show false = true from fx) Bool.false_ne_true
  | bl a =>
    cases ry
    cases x with
    | non => cases rx; exact SeqAt.EqAt.bool_none a
    | bl b => cases rx; exact SeqAt.EqAt.bool_bool a b
    | int b => obtain ⟨t, rfl⟩ := rx; exact SeqAt.EqAt.bool_int a b t
    | str b => obtain ⟨t, rfl⟩ := rx; exact SeqAt.EqAt.bool_str a b t
    | _ => exact absurd (show false = true from fx) Bool.false_ne_true
  | int a =>
    obtain ⟨t', rfl⟩ := ry
    cases x with
    | non => cases rx; exact SeqAt.EqAt.int_none a t'
    | bl b => cases rx; exact SeqAt.EqAt.int_bool a t' b
    | int b => obtain ⟨t, rfl⟩ := rx; exact SeqAt.EqAt.int_int a t' b t
    | str b => obtain ⟨t, rfl⟩ := rx; exact SeqAt.EqAt.int_str a t' b t
    | _ => exact absurd (show false = true from fx) Bool.false_ne_true
  | str a =>
    obtain ⟨t', rfl⟩ := ry
    cases x with
    | non => cases rx; exact SeqAt.EqAt.str_none a t'
    | bl b => cases rx; exact SeqAt.EqAt.str_bool a t' b
    | int b => obtain ⟨t, rfl⟩ := rx; exact SeqAt.EqAt.str_int a t' b t
    | str b => obtain ⟨t, rfl⟩ := rx; exact SeqAt.EqAt.str_str a t' b t
    | _ => exact absurd (show false = true from fx) Bool.false_ne_true
  | _ => exact absurd (show false = true from fy) Bool.false_ne_true
def eqU (x : V) (u : Value) : Bool := match u with
  | .none => eqV .non x
  | .bool b => eqV (.bl b) x
  | .int i _ => eqV (.int i) x
  | .str z _ => eqV (.str z) x
  | _ => false
theorem eqU_of {x y : V} {u : Value} (r : RelV y u) (f : flatV y = true) : eqU x u = eqV y x := by
  cases y with
  | non => cases r; rfl
  | bl b => cases r; rfl
  | int i => obtain ⟨t, rfl⟩ := r; rfl
  | str z => obtain ⟨t, rfl⟩ := r; rfl
  | _ => exact absurd (show false = true from f) Bool.false_ne_true
theorem any_eqU {x : V} : ∀ {xs : List V} {us : List Value}, Vals xs us → xs.all flatV = true → us.any (eqU x) = xs.any fun y => eqV y x
  | _, _, .nil, _ => rfl
  | y :: xs, u :: us, .cons r t, f => by
    rw [List.all_cons, Bool.and_eq_true] at f
    rw [List.any_cons, List.any_cons, eqU_of r f.1, any_eqU t f.2]
theorem mem_eqAt {A : Around} {s : Shared} {x : V} {v : Value} (rx : RelV x v) (fx : flatV x = true) : ∀ {xs : List V} {us : List Value}, Vals xs us → xs.all flatV = true → ∀ u ∈ us, SeqAt.EqAt A s u v (eqU x u)
  | _, _, .nil, _ => fun u hu => by cases hu
  | y :: xs, u :: us, .cons r t, f => fun u' hu => by
    rw [List.all_cons, Bool.and_eq_true] at f
    rcases List.mem_cons.mp hu with rfl | hu
    · rw [eqU_of r f.1]; exact eqAt_V r rx f.1 fx
    · exact mem_eqAt rx fx t f.2 u' hu
def inV (x : V) (xs : List V) : Bool := xs.any fun y => eqV y x
def rIn (K : PySem.W.Frag) (neg : Bool) : R2 := fun x y H Q => ∃ p xs, y = .ref p ∧ (SqL K H p xs ∨ SqT K H p xs) ∧ flatV x = true ∧ xs.all flatV = true ∧ Q (.bl (if neg then !inV x xs else inV x xs)) H
theorem op_notIn_seq : OpR X (compareOp .NotIn) (rIn X.K true) := by
  intro pins s σ H x y v u Q I rx ry h
  obtain ⟨p, xs, rfl, hq, fx, fs, q⟩ := h
  cases ry
  rcases hq with hq | hq
  · obtain ⟨its, r, pl, hz⟩ := I.list hq
    refine SeqAt.notIn_listAt (eqU x) pl.isList (fun w hw => mem_eqAt rx fx r fs w (by simpa using hw)) ⟨.bl _, H, I, rfl, ?_⟩
    rw [show its.toArray.any (eqU x) = its.any (eqU x) by simp, any_eqU r fs]
    exact q
  · obtain ⟨its, r, pl, hz⟩ := I.tuple hq
    refine SeqAt.notIn_tupleAt (eqU x) pl (fun w hw => mem_eqAt rx fx r fs w (by simpa using hw)) ⟨.bl _, H, I, rfl, ?_⟩
    rw [show its.toArray.any (eqU x) = its.any (eqU x) by simp, any_eqU r fs]
    exact q
theorem call_len_seq : CallR X (.builtin "len") (fun xs H Q => ∃ p ys, xs = [.ref p] ∧ (SqL X.K H p ys ∨ SqT X.K H p ys) ∧ Q (.int ys.length) H) := by
  intro pins s σ H xs us Q I r h
  obtain ⟨p, ys, rfl, hq, q⟩ := h
  obtain ⟨u, rfl, rx⟩ := vals1 r
  cases rx
  have hn := line63
  rcases hq with hq | hq
  · obtain ⟨its, r', pl, hz⟩ := I.list hq
    have hlen := r'.length
    exact Calls.call_len_list pl.isList (by simp only [List.size_toArray] <;> omega) ⟨.int ys.length, H, I.tok _, ⟨s.toks + 1, by rw [List.size_toArray, hlen]⟩, q⟩
  · obtain ⟨its, r', pl, hz⟩ := I.tuple hq
    have hlen := r'.length
    exact len_tuple pl (by simp only [List.size_toArray] <;> omega) ⟨.int ys.length, H, I.tok _, ⟨s.toks + 1, by rw [List.size_toArray, hlen]⟩, q⟩
theorem call_list_of : CallR X (.type "list") (fun xs H Q => ∃ p ys, xs = [.ref p] ∧ (SqL X.K H p ys ∨ SqT X.K H p ys) ∧ ∀ l, H l = none → Q (.ref l) (upd H l (.lst ys))) := by
  intro pins s σ H xs us Q I r h
  obtain ⟨p, ys, rfl, hq, q⟩ := h
  obtain ⟨u, rfl, rx⟩ := vals1 r
  cases rx
  have fin : ∀ (its : List Value), Vals ys its → ys.length ≤ sizeLine → ∀ (h' : Heap) (c' : Nat), (∀ b o', s.heap.get? b = some o' → h'.get? b = some o') →
      h'.get? s.heap.objs.size = some { cls := .type "list", dict := none, data := .seq its.toArray c', slots := #[] } → EP X pins σ Q (.ref s.heap.objs.size) { s with heap := h' } := fun its r' hz h' c' kp e =>
    ⟨.ref s.heap.objs.size, _, I.laid (t' := s.toks) kp (Nat.le_refl _) (show ObjOk X.prog X.w _ h' _ (.lst ys) from ⟨hz, its, c', r', e⟩), rfl, q _ (I.hok.fresh (Nat.le_refl _))⟩
  rcases hq with hq | hq
  · obtain ⟨its, r', pl, hz⟩ := I.list hq
    have hlen := r'.length
    obtain ⟨o, ho, hc, n, hd⟩ := pl.isList
    exact call_list_seq p (.inl rfl) ho hc hd (fun h' c' kp e => fin its r' hz h' c' kp e) (by simp only [List.size_toArray] <;> omega)
  · obtain ⟨its, r', pl, hz⟩ := I.tuple hq
    have hlen := r'.length
    obtain ⟨o, ho, hc, n, hd⟩ := pl
    exact call_list_seq p (.inr rfl) ho hc hd (fun h' c' kp e => fin its r' hz h' c' kp e) (by simp only [List.size_toArray] <;> omega)
def tyV (K : PySem.W.Frag) (T : String) (x : V) (H : Hp) : Prop := match x with
  | .str _ => T = "str"
  | .int _ => T = "int"
  | .ref p => (T = "list" ∧ ∃ xs, SqL K H p xs) ∨ (T = "tuple" ∧ ∃ o, K.lookup p = some o ∧ o.cls = .type "tuple" ∧ o.dict = none) ∨
      (T = "dict" ∧ ((∃ kvs, H p = some (.dK kvs)) ∨ ∃ kvs, H p = some (.dT kvs))) ∨ (T = "set" ∧ ∃ S n, H p = some (.set S n))
  | _ => False
theorem tyV_is {pins : List (Addr × Obj)} {σ : St} {H : Hp} {s : Shared} {T : String} {x : V} {v : Value} (I : Inv X pins σ H s) (r : RelV x v) (ty : tyV X.K T x H) :
    s.TypeIs v T ∧ ∀ a, v = .ref a → ∃ ob, s.heap.get? a = some ob ∧ ob.dict = none := by
  cases x with
  | str z =>
    obtain ⟨t, rfl⟩ := r
    cases (show T = "str" from ty)
    exact ⟨typeIs_str s z t, fun _ e => nomatch e⟩
  | int i =>
    obtain ⟨t, rfl⟩ := r
    cases (show T = "int" from ty)
    exact ⟨typeIs_int s i t, fun _ e => nomatch e⟩
  | ref p =>
    cases r
    rcases ty with ⟨rfl, xs, hq⟩ | ⟨rfl, o, hk, hc, hd⟩ | ⟨rfl, hk⟩ | ⟨rfl, S, n, hk⟩
    · obtain ⟨its, _, pl, _⟩ := I.list hq
      refine ⟨pl.isList.typeIs, fun a e => ?_⟩
      cases e
      obtain ⟨o, n, e, c, hd, _⟩ := pl
      exact ⟨o, e, hd⟩
    · refine ⟨⟨o, I.kIn p o hk, hc⟩, fun a e => ?_⟩
      cases e
      exact ⟨o, I.kIn _ o hk, hd⟩
    · have z : ∃ o, s.heap.get? p = some o ∧ o.ExactDict := by
        rcases hk with ⟨kvs, hk⟩ | ⟨kvs, hk⟩
        · obtain ⟨_, _, _, _, o, _, _, e, ex, _⟩ := I.hok p _ hk
          exact ⟨o, e, ex⟩
        · obtain ⟨_, _, _, _, o, _, _, e, ex, _⟩ := I.hok p _ hk
          exact ⟨o, e, ex⟩
      obtain ⟨o, e, ex⟩ := z
      refine ⟨⟨o, e, ex.1⟩, fun a e2 => ?_⟩
      cases e2
      exact ⟨o, e, ex.2.1⟩
    · obtain ⟨o, _, _, _, e, ex, _⟩ := I.hok p _ hk
      refine ⟨⟨o, e, ex.1⟩, fun a e2 => ?_⟩
      cases e2
      exact ⟨o, e, ex.2.1⟩
  | _ => exact False.elim ty
def tBM (K : PySem.W.Frag) (T : String) (r : V → List V → Hp → VK → Prop) (to : TE) (t : TA) : TE := fun σ H Q => to σ H fun x H1 => tyV K T x H1 ∧ t σ H1 fun xs H2 => r x xs H2 Q
variable {o e : Expr} {es : List Expr} {to : TE} {t : TA} {name : Str} {apos cpos : Pos} {T id : String} {r : V → List V → Hp → VK → Prop}
theorem pe_bm (pa : PlainAttrs T) (slot : Slot T name id) (hty : typeOf (.builtin id) = pure (.type "method_descriptor")) (hm : MtR X id r) (ho : PE X o to) (ha : PA X (e :: es) t)
    (hbase : attributeBase o name X.env (eval o X.env) = eval o X.env := by rfl)
    (hfew : ((backTo cpos (starEach (e :: es) X.env)).all (fun x => !x.1) && (backToKw cpos (keywordEach [] X.env)).all (fun x => x.1.isSome)
      && decide ((e :: es).length + ([] : List Keyword).length + (if ([] : List Keyword).isEmpty then 0 else 1) < 30)) = true := by rfl)
    (hline : (apos.endLine == cpos.line) = true := by rfl) (hs : starEach (e :: es) X.env = (false, eval e X.env) :: starEach es X.env := by rfl) (hplain : (backTo cpos (starEach es X.env)).any (·.1) = false := by rfl) :
    PE X (.Call (.Attribute o name apos) (e :: es) [] cpos) (tBM X.K T r to t) := by
  intro pins s σ H Q I h
  refine wpAny_Call_method_late hbase hfew hline rfl (thn (ho pins s σ H _ I h) fun v s1 ⟨x, H1, I1, r1, ty, q1⟩ => ?_)
  obtain ⟨h1, h2⟩ := tyV_is I1 r1 ty
  refine ⟨T, id, pa, slot, hty, h1, h2, ?_⟩
  have hA := ha cpos pins s1 σ H1 _ I1 q1
  rw [hs] at hA ⊢
  refine Calls.callWith_builtin (by show (false || (backTo cpos (starEach es X.env)).any (·.1)) = false; rw [hplain] <;> rfl) (Calls.evalArgs_plain ?_)
  exact thn hA fun us s2 ⟨vs, H2, I2, r2, q2⟩ => hm pins s2 σ H2 x vs v us Q I2 r1 r2 q2
end
end L2
namespace L2
open PySem PySem.Spec PyProof.Rows
def MtM (X : Cx) (id : String) (r : V → List V → Hp → VK → Prop) : Prop :=
  ∀ (pins : List (Addr × Obj)) (s : Shared) (σ : St) (H : Hp) (x : V) (xs : List V) (v : Value) (us : List Value) (Q : VK), Inv X pins σ H s → RelV x v → Vals xs us → r x xs H Q →
    wpAny (model X.prog X.w) X.A (call (.builtin id) (v :: us)) (EP X pins σ Q) X.xe s
theorem Vals.one : ∀ {x : V} {us : List Value}, Vals [x] us → ∃ u, us = [u] ∧ RelV x u
  | _, _, .cons r .nil => ⟨_, rfl, r⟩
theorem Vals.rep {xs : List V} {us : List Value} (h : Vals xs us) : ∀ k : Nat, Vals (List.replicate k xs).flatten (List.replicate k us).flatten
  | 0 => .nil
  | k + 1 => by
    rw [List.replicate_succ, List.replicate_succ, List.flatten_cons, List.flatten_cons]
    exact Vals.append h (Vals.rep h k)
theorem foldl_rep (its : List Value) : ∀ (k : Nat) (acc : List Value),
    List.foldl (fun x1 x2 => x1 ++ x2) acc.toArray (List.replicate k its.toArray) = (acc ++ (List.replicate k its).flatten).toArray
  | 0, acc => by simp
  | k + 1, acc => by
    have e : acc.toArray ++ its.toArray = (acc ++ its).toArray := by simp
    have e2 : (acc ++ its) ++ (List.replicate k its).flatten = acc ++ (List.replicate (k + 1) its).flatten := by
      rw [List.replicate_succ, List.flatten_cons, List.append_assoc]
    rw [← e2, ← foldl_rep its k (acc ++ its), ← e, List.replicate_succ, List.foldl_cons]
section
variable {X : Cx} {pins : List (Addr × Obj)} {σ : St} {H : Hp} {s : Shared} {l b : Addr} {xs ys zs : List V}
theorem Inv.lset {its its' : List Value} {n : Nat} {f : Array Value → Array Value} {t' : Nat} (I : Inv X pins σ H s) (hH : H l = some (.lst xs))
    (e : s.heap.get? l = some { cls := .type "list", data := .seq its.toArray n }) (hf : f its.toArray = its'.toArray) (hv : Vals ys its') (hz : ys.length ≤ sizeLine) :
    Inv X pins σ (upd H l (.lst ys)) { s with heap := s.heap.update l (Obj.mapSeq f), toks := t' } := by
  have q := PySem.IsL.update e f
  rw [hf] at q
  refine I.write (x := l) (e := l) (by rw [hH]; exact trivial) (.inl rfl) (fun b' u hb hu => (Heap.get?_update_other s.heap (Obj.mapSeq f) (Ne.symm hb)).trans hu) ⟨_, q⟩ ?_
  exact ⟨hz, its', _, hv, q⟩
theorem Inv.lnew {its : List Value} {t' : Nat} (I : Inv X pins σ H s) (hv : Vals ys its) (hz : ys.length ≤ sizeLine) :
    Inv X pins σ (upd H s.heap.objs.size (.lst ys)) { s with heap := s.heap.push { cls := .type "list", data := .seq its.toArray }, toks := t' } :=
  I.laid (fun _ _ q => Heap.get?_push_of_some _ q) (Nat.le_refl _) ⟨hz, its, 0, hv, Heap.get?_push_size _ rfl⟩
theorem Inv.fresh (I : Inv X pins σ H s) : H s.heap.objs.size = none := I.hok.fresh (Nat.le_refl _)
theorem Inv.lstM (I : Inv X pins σ H s) (hH : H l = some (.lst xs)) : xs.length ≤ sizeLine ∧ ∃ (its : List Value) (n : Nat), Vals xs its ∧ xs.length = its.length ∧ s.heap.get? l = some { cls := .type "list", data := .seq its.toArray n } := by
  obtain ⟨z, its, n, r, e⟩ := I.hok l _ hH
  exact ⟨z, its, n, r, r.length, e⟩
theorem notLongL {n : Nat} (h : n ≤ sizeLine) : Builtin.List.listTooLong n = false := by
  unfold Builtin.List.listTooLong
  exact decide_eq_false (by omega)
end
section
variable {X : Cx}
def rAppend : V → List V → Hp → VK → Prop := fun x vs H Q => ∃ l xs y, x = .ref l ∧ vs = [y] ∧ H l = some (.lst xs) ∧ xs.length < sizeLine ∧ Q .non (upd H l (.lst (xs ++ [y])))
theorem mt_append : MtM X "list.append" rAppend := by
  intro pins s σ H x vs v us Q I rx rv h
  obtain ⟨l, xs, y, rfl, rfl, hH, hz, q⟩ := h
  cases rx
  obtain ⟨u, rfl, ru⟩ := rv.one
  obtain ⟨z, its, n, r, hl, e⟩ := I.lstM hH
  refine call_meets F.slot_list_append ⟨_, e, rfl⟩ F.entry_list_append (F.args_list_append_2 _ _) (PySem.list_append l its.toArray n u (by rw [List.size_toArray]; omega)) ⟨e, ?_⟩
  refine ⟨.non, _, I.lset (its' := its ++ [u]) hH e (by simp) (r.append (.cons ru .nil)) ?_, rfl, q⟩
  rw [List.length_append, List.length_singleton]
  omega
def rExtend : V → List V → Hp → VK → Prop := fun x vs H Q => ∃ l b xs zs, x = .ref l ∧ vs = [.ref b] ∧ H l = some (.lst xs) ∧ H b = some (.lst zs) ∧ xs.length + zs.length ≤ sizeLine ∧ Q .non (upd H l (.lst (xs ++ zs)))
theorem mt_extend : MtM X "list.extend" rExtend := by
  intro pins s σ H x vs v us Q I rx rv h
  obtain ⟨l, b, xs, zs, rfl, rfl, hH, hB, hz, q⟩ := h
  cases rx
  obtain ⟨u, rfl, ru⟩ := rv.one
  cases ru
  obtain ⟨z, its, n, r, hl, e⟩ := I.lstM hH
  obtain ⟨z2, its2, n2, r2, hl2, e2⟩ := I.lstM hB
  have hsz : its.toArray.size + its2.toArray.size ≤ sizeLine := by rw [List.size_toArray, List.size_toArray]; omega
  have hlong : ¬ (!its.toArray.isEmpty && Builtin.List.listTooLong (its.toArray.size + its2.toArray.size)) = true := by
    rw [notLongL hsz, Bool.and_false]
    exact Bool.false_ne_true
  refine call_meets F.slot_list_extend ⟨_, e, rfl⟩ F.entry_list_extend (F.args_list_extend_2 _ _)
    (AutoSeq1.list_extend_list_list_0 l its.toArray n b its2.toArray n2 hlong (by rw [List.size_toArray]; omega) (by omega)) ⟨e, e2, ?_⟩
  refine ⟨.non, _, I.lset (its' := its ++ its2) hH e (by simp) (r.append r2) ?_, rfl, q⟩
  rw [List.length_append]
  omega
def rCat : R2 := fun x y H Q => ∃ l b xs zs, x = .ref l ∧ y = .ref b ∧ H l = some (.lst xs) ∧ H b = some (.lst zs) ∧ xs.length + zs.length ≤ sizeLine ∧ ∀ p, H p = none → Q (.ref p) (upd H p (.lst (xs ++ zs)))
theorem op_cat : OpR X (binaryOp .Add) rCat := by
  intro pins s σ H x y v u Q I rx ry h
  obtain ⟨l, b, xs, zs, rfl, rfl, hH, hB, hz, q⟩ := h
  cases rx
  cases ry
  obtain ⟨z, its, n, r, hl, e⟩ := I.lstM hH
  obtain ⟨z2, its2, n2, r2, hl2, e2⟩ := I.lstM hB
  refine PySem.P.add_list e e2 ?_ (by rw [List.size_toArray, List.size_toArray]; omega)
  have ea : its.toArray ++ its2.toArray = (its ++ its2).toArray := by simp
  rw [ea]
  exact ⟨.ref _, _, I.lnew (t' := s.toks) (r.append r2) (by rw [List.length_append]; omega), rfl, q _ I.fresh⟩
def rRep : R2 := fun x y H Q => ∃ l k xs, x = .ref l ∧ y = .int k ∧ H l = some (.lst xs) ∧ -(2 ^ 63) ≤ k ∧ k < 2 ^ 63 ∧ xs.length * k.toNat ≤ sizeLine ∧
  ∀ p, H p = none → Q (.ref p) (upd H p (.lst (List.replicate k.toNat xs).flatten))
theorem len_rep {α : Type} (xs : List α) (k : Nat) : (List.replicate k xs).flatten.length = k * xs.length := by
  induction k with
  | zero => simp
  | succ k ih => rw [List.replicate_succ, List.flatten_cons, List.length_append, ih, Nat.succ_mul, Nat.add_comm]
theorem op_rep : OpR X (binaryOp .Mult) rRep := by
  intro pins s σ H x y v u Q I rx ry h
  obtain ⟨l, k, xs, rfl, rfl, hH, h1, h2, hz, q⟩ := h
  cases rx
  obtain ⟨t, rfl⟩ := ry
  obtain ⟨z, its, n, r, hl, e⟩ := I.lstM hH
  have hlen : its.toArray.size * k.toNat ≤ sizeLine := by rw [List.size_toArray, ← hl]; exact hz
  have hcap : ¬ its.toArray.size * k.toNat > (2 ^ 63 - 1) / 8 := by
    have : (sizeLine : Nat) ≤ (2 ^ 63 - 1) / 8 := by decide
    omega
  have hfit : ¬ (!Builtin.List.listFitsIndex k) = true := by
    rw [fitsIndex_both h1 h2]
    exact Bool.false_ne_true
  have hlong : ¬ Builtin.List.listTooLong (its.toArray.size * k.toNat) = true := by
    rw [notLongL hlen]
    exact Bool.false_ne_true
  have hnew : List.foldl (fun x1 x2 => x1 ++ x2) #[] (List.replicate (if its.toArray.isEmpty = true then 0 else k.toNat) its.toArray) = (List.replicate k.toNat its).flatten.toArray := by
    have f0 : ∀ m : Nat, List.foldl (fun x1 x2 => x1 ++ x2) #[] (List.replicate m its.toArray) = (List.replicate m its).flatten.toArray := fun m => by
      have := foldl_rep its m []
      rw [List.nil_append] at this
      exact this
    rw [f0]
    cases its with
    | nil => simp
    | cons a r' => rw [if_neg (by simp)]
  refine wpAny_binaryOp_repeat_ref (T := "list") (U := "int") (by decide) ⟨_, e, rfl⟩ (fun s' => typeIs_int s' k t) noFill_list_mul F.fills_int_mul F.slot_int_rmul repeat_list F.slot_int_index.lookup
    (call_meets F.slot_int_rmul (typeIs_int s k t) F.entry_int_rmul (F.args_int_rmul_2 _ _) (int___rmul___int_list k t l its.toArray n)
      ⟨e, rfl, ⟨_, e, rfl⟩, call_meets F.slot_list_mul ⟨_, e, rfl⟩ F.entry_list_mul (F.args_list_mul_2 _ _) (AutoListH.list___mul___list_int_3 l its.toArray n k t hfit hcap hlong) ⟨e, ?_⟩⟩)
  rw [hnew]
  exact ⟨.ref _, _, I.lnew (t' := s.toks) (r.rep k.toNat) (by rw [len_rep, Nat.mul_comm]; exact hz), rfl, q _ I.fresh⟩
end
section
variable {prog : Program} {w : World} {A : Around} {E : Value → Shared → Prop} {s : Shared}
set_option maxRecDepth 100000 in
end
section
variable {X : Cx}
end
end L2
namespace L2
open PySem PySem.Spec PyProof.Rows
theorem Vals.ints : ∀ {ns : List Int} {us : List Value}, Vals (ns.map V.int) us → IntsAre us ns
  | [], us, h => by
    rw [List.map_nil] at h
    cases h
    exact IntsAre.nil
  | n :: ns, us, h => by
    rw [List.map_cons] at h
    cases h with
    | cons r t =>
      obtain ⟨k, rfl⟩ := r
      exact IntsAre.cons n k (Vals.ints t)
theorem vals_of_ints : ∀ {us : List Value} {ns : List Int}, IntsAre us ns → Vals (ns.map V.int) us
  | _, _, .nil => by rw [List.map_nil]; exact Paired.nil
  | _, _, .cons n t h => by rw [List.map_cons]; exact Paired.cons (show RelV (V.int n) (Value.int n t) from ⟨t, rfl⟩) (vals_of_ints h)
theorem Vals.ref1 {a : Addr} {us : List Value} (r : Vals [V.ref a] us) : us = [Value.ref a] := by
  cases r with
  | cons r t =>
    cases t
    cases r
    rfl
section
variable {prog : Program} {w : World} {A : Around} {E : Value → Shared → Prop} {s : Shared} {l : Addr} {its : List Value} {ns : List Int} {Q : Value → Shared → Prop}
theorem max_raw (hh : A.handled = none) (hl : s.heap.IsList l its.toArray) (hi : IntsAre its ns) (hne : 0 < ns.length)
    (h : ∀ h' tk M t', (∀ b o, s.heap.get? b = some o → h'.get? b = some o) → M ∈ ns → (∀ a, a ∈ ns → a ≤ M) → Q (.int M t') { s with heap := h', toks := tk }) : wpAny (model prog w) A (call (.builtin "max") [.ref l]) Q E s := by
  obtain ⟨xs, e⟩ := hi.allInts.items
  have hn : numsOf (intItems xs).toList = ns := by rw [← e]; exact hi.numsOf
  rw [nums_intItems] at hn
  subst hn
  rw [e] at hl
  have hsz : 0 < xs.size := by simpa using hne
  refine PySem.max_intList hh hl hsz fun v h' tk hv hk => ?_
  obtain ⟨t, rfl⟩ := intItems_at hv
  obtain ⟨h1, h2⟩ := argBest_gt (numAt xs) (xs.size - 1)
  refine h h' tk _ t hk ?_ fun a ha => ?_
  · rw [numAt_eq]; exact PySem.getD_mem (by rw [List.length_map, Array.length_toList]; omega)
  · obtain ⟨j, hj, rfl⟩ := mem_getD ha
    rw [List.length_map, Array.length_toList] at hj
    rw [← numAt_eq]; exact h2 j (by omega)
end
section
variable {X : Cx}
def rMax (K : PySem.W.Frag) : List V → Hp → VK → Prop := fun vs H Q => ∃ (a : Addr) (ns : List Int), vs = [V.ref a] ∧ SqL K H a (ns.map V.int) ∧ 0 < ns.length ∧ ∀ m, m ∈ ns → (∀ y, y ∈ ns → y ≤ m) → Q (.int m) H
theorem cr_max (hc : X.calm = true) : CallR X (.builtin "max") (rMax X.K) := by
  intro pins s σ H vs us Q I r h
  obtain ⟨a, ns, rfl, hs, hne, q⟩ := h
  obtain ⟨its, rv, hl, _⟩ := I.list hs
  rw [Vals.ref1 r]
  exact max_raw (I.ok.hd hc) hl.isList rv.ints hne fun h' tk m t' hk h1 h2 => ⟨.int _, H, I.kept hk, ⟨_, rfl⟩, q m h1 h2⟩
end
section
variable {X : Cx}
def rIndex (K : PySem.W.Frag) : V → List V → Hp → VK → Prop := fun x xs H Q => ∃ (a : Addr) (ys : List V) (y : V) (j : Nat) (z : V), x = V.ref a ∧ xs = [y] ∧ SqL K H a ys ∧ flatV y = true ∧ ys.all flatV = true ∧ ys[j]? = some z ∧ eqV z y = true ∧
  (∀ (m : Nat) (z' : V), m < j → ys[m]? = some z' → eqV z' y = false) ∧ Q (.int (j : Nat)) H
theorem flat_at {ys : List V} (f : ys.all flatV = true) {j : Nat} {z : V} (h : ys[j]? = some z) : flatV z = true := List.all_eq_true.mp f z (List.mem_of_getElem? h)
theorem mt_index : MtR X "list.index" (rIndex X.K) := by
  intro pins s σ H x xs v us Q I rx rxs h
  obtain ⟨a, ys, y, j, z, rfl, rfl, hs, fy, fys, hz, hzj, hno, q⟩ := h
  cases rx
  cases rxs with
  | cons ry rt =>
    rename_i uy ut
    cases rt
    obtain ⟨its, rv, ⟨⟨cls, dd, data, sl⟩, n, ho, hc, hdn, hd⟩, hlen⟩ := I.list hs
    simp only at hc hd
    subst hc hd
    obtain ⟨u, hu, ru⟩ := rv.get hz
    obtain ⟨hjl, hje⟩ := List.getElem?_eq_some_iff.mp hu
    have hvl := rv.length
    have hj : j < its.toArray.size := by simpa using hjl
    have hsl := sizeLine_eq
    refine call_meets PySem.F.slot_list_index ⟨_, ho, rfl⟩ PySem.F.entry_list_index (PySem.F.args_list_index_2 _ _)
      (SeqAt.list_indexAt a its.toArray n dd sl uy (eqU y) j hj (by omega) ?_ ?_) ⟨ho, fun u' hu' => mem_eqAt ry fy rv fys u' (by simpa using hu'), ?_⟩
    · have e1 : its.toArray[j] = u := by simpa using hje
      rw [e1, eqU_of ru (flat_at fys hz)]
      exact hzj
    · intro m hm hmj
      have hml : m < its.length := by simpa using hm
      have hmy : m < ys.length := by omega
      have hy' : ys[m]? = some ys[m] := List.getElem?_eq_getElem hmy
      obtain ⟨u2, hu2, ru2⟩ := rv.get hy'
      obtain ⟨_, hme⟩ := List.getElem?_eq_some_iff.mp hu2
      have e1 : its.toArray[m] = u2 := by simpa using hme
      rw [e1, eqU_of ru2 (flat_at fys hy')]
      exact hno m _ hmj hy'
    · exact ⟨.int (j : Nat), H, I.tok _, ⟨_, rfl⟩, q⟩
end
section
variable {X : Cx}
end
section
variable {X : Cx}
end
mutual
inductive Dp (K : PySem.W.Frag) (H : Hp) : V → PyData → Prop
  | non : Dp K H .non .none
  | bl (b : Bool) : Dp K H (.bl b) (.bool b)
  | int (i : Int) : Dp K H (.int i) (.int i)
  | str (x : Str) : Dp K H (.str x) (.str x)
  | lst {a : Addr} {xs : List V} {ds : List PyData} : SqL K H a xs → DpAll K H xs ds → Dp K H (.ref a) (.list ds)
  | tup {a : Addr} {xs : List V} {ds : List PyData} : SqT K H a xs → DpAll K H xs ds → Dp K H (.ref a) (.tuple ds)
inductive DpAll (K : PySem.W.Frag) (H : Hp) : List V → List PyData → Prop
  | nil : DpAll K H [] []
  | cons {v : V} {vs : List V} {d : PyData} {ds : List PyData} : Dp K H v d → DpAll K H vs ds → DpAll K H (v :: vs) (d :: ds)
end
section
variable {X : Cx} {pins : List (Addr × Obj)} {σ : St} {H : Hp} {s : Shared}
mutual
theorem Dp.reads (I : Inv X pins σ H s) : ∀ (d : PyData) (v : V) (u : Value), Dp X.K H v d → RelV v u → ∃ as, Reads s.heap u d as
  | .none, _, _, h, r => by
    cases h
    cases r
    exact ⟨_, Reads.none⟩
  | .bool b, _, _, h, r => by
    cases h
    cases r
    exact ⟨_, Reads.bool b⟩
  | .int i, _, _, h, r => by
    cases h
    obtain ⟨t, rfl⟩ := r
    exact ⟨_, Reads.int i t⟩
  | .str x, _, _, h, r => by
    cases h
    obtain ⟨t, rfl⟩ := r
    exact ⟨_, Reads.str x t⟩
  | .list ds, _, _, h, r => by
    cases h with
    | lst hs ha =>
      cases r
      obtain ⟨its, rv, ⟨o, n, ho, hc, _, hd⟩, _⟩ := I.list hs
      obtain ⟨as, hr⟩ := Dp.readsAll I ds _ its ha rv
      exact ⟨_, Reads.list ho hc hd hr⟩
  | .tuple ds, _, _, h, r => by
    cases h with
    | tup hs ha =>
      cases r
      obtain ⟨its, rv, ⟨o, ho, hc, n, hd⟩, _⟩ := I.tuple hs
      obtain ⟨as, hr⟩ := Dp.readsAll I ds _ its ha rv
      exact ⟨_, Reads.tuple ho hc hd hr⟩
  | .dict _, _, _, h, _ => by cases h
theorem Dp.readsAll (I : Inv X pins σ H s) : ∀ (ds : List PyData) (vs : List V) (us : List Value), DpAll X.K H vs ds → Vals vs us → ∃ as, ReadsAll s.heap us ds as
  | [], _, _, h, r => by
    cases h
    cases r
    exact ⟨_, ReadsAll.nil⟩
  | d :: ds, _, _, h, r => by
    cases h with
    | cons h1 h2 =>
      cases r with
      | cons r1 r2 =>
        obtain ⟨as, q1⟩ := Dp.reads I d _ _ h1 r1
        obtain ⟨bs, q2⟩ := Dp.readsAll I ds _ _ h2 r2
        exact ⟨_, ReadsAll.cons q1 q2⟩
end
end
section
variable {X : Cx}
def rNeD (K : PySem.W.Frag) : R2 := fun x y H Q => ∃ d e, Dp K H x d ∧ Dp K H y e ∧ SeqAt.shaped d = true ∧ SeqAt.shaped e = true ∧ Q (.bl (!PyData.eqv d e)) H
theorem op_neD (hu : X.A.units + 64 < cLine) : OpR X (compareOp .NotEq) (rNeD X.K) := by
  intro pins s σ H x y v u Q I rx ry h
  obtain ⟨d, e, hd, he, sd, se, q⟩ := h
  obtain ⟨as, r1⟩ := Dp.reads I d x v hd rx
  obtain ⟨bs, r2⟩ := Dp.reads I e y u he ry
  exact SeqAt.compareNe_shaped r1 r2 sd se hu ⟨.bl _, H, I, rfl, q⟩
end
end L2
namespace L2
open PySem PySem.Spec PyProof.Rows
abbrev CellAt (h : Heap) (c : Addr) (v : Option Value) : Prop := h.IsCell c v
def relS (scope sc : Scope) : Scope :=
  { scope with names := scope.names.map fun (n, k) => if (k == .free && sc.kind == .function && sc.names.lookup n == some .cell) then (n, .cell) else (n, k) }
def cloFrom (cells : List (Str × Addr)) : List (Str × NameKind) → List (Str × Addr) → List (Str × Addr)
  | [], acc => acc
  | (n, k) :: r, acc => if k == .free then cloFrom cells r ((n, (cells.lookup n).getD 0) :: acc) else cloFrom cells r acc
theorem closure_loop (env : Env) (f : Str × NameKind → List (Str × Addr) → Sem (ForInStep (List (Str × Addr))))
    (hf : ∀ n k c, f (n, k) c = if k == .free then (do let a ← cellOf env n; pure (.yield ((n, a) :: c))) else pure (.yield c)) :
    ∀ (names : List (Str × NameKind)) (acc : List (Str × Addr)), (∀ y ∈ names, y.2 = .free → ∃ c, env.cells.lookup y.1 = some c) → forIn names acc f = pure (cloFrom env.cells names acc)
  | [], acc, _ => by rw [List.forIn_nil]; rfl
  | (n, k) :: r, acc, h => by
    rw [List.forIn_cons, hf]
    have ih := fun acc => closure_loop env f hf r acc fun y hy => h y (List.mem_cons_of_mem _ hy)
    unfold cloFrom
    by_cases hk : (k == NameKind.free) = true
    · rw [if_pos hk, if_pos hk]
      obtain ⟨c, hc⟩ := h (n, k) List.mem_cons_self (by simpa using hk)
      have e : cellOf env n = pure c := by unfold cellOf; rw [hc]
      rw [e]
      have e2 : (env.cells.lookup n).getD 0 = c := by rw [hc]; rfl
      rw [e2]
      exact ih _
    · rw [if_neg hk, if_neg hk]
      exact ih _
theorem closure_ok {scope : Scope} {env : Env} (h : ∀ y ∈ scope.names, y.2 = .free → ∃ c, env.cells.lookup y.1 = some c) : closureFor scope env = pure (cloFrom env.cells scope.names []) := by
  simp only [closureFor]
  rw [closure_loop env _ (fun n k c => rfl) scope.names [] h]
  rfl
theorem mem_lookup {α : Type} : ∀ {l : List (Str × α)} {n : Str} {c : α}, (n, c) ∈ l → ∃ c', l.lookup n = some c'
  | (k, v) :: r, n, c, h => by
    rw [List.lookup_cons]
    cases hb : n == k with
    | true => exact ⟨_, rfl⟩
    | false =>
      rcases List.mem_cons.mp h with e | h
      · cases e; simp at hb
      · exact mem_lookup h
theorem cloFrom_mem {cells : List (Str × Addr)} : ∀ {names : List (Str × NameKind)} {acc : List (Str × Addr)} {n : Str} {c : Addr}, (n, c) ∈ cloFrom cells names acc → (n, c) ∈ acc ∨ ((n, .free) ∈ names ∧ c = (cells.lookup n).getD 0)
  | [], _, _, _, h => .inl h
  | (m, k) :: r, acc, n, c, h => by
    unfold cloFrom at h
    split at h
    · rename_i hk
      have hk : k = .free := by simpa using hk
      rcases cloFrom_mem h with h | ⟨h1, h2⟩
      · rcases List.mem_cons.mp h with e | h
        · cases e; exact .inr ⟨hk ▸ List.mem_cons_self, rfl⟩
        · exact .inl h
      · exact .inr ⟨List.mem_cons_of_mem _ h1, h2⟩
    · rcases cloFrom_mem h with h | ⟨h1, h2⟩
      · exact .inl h
      · exact .inr ⟨List.mem_cons_of_mem _ h1, h2⟩
theorem cloFrom_acc {cells : List (Str × Addr)} : ∀ {names : List (Str × NameKind)} {acc : List (Str × Addr)} {p : Str × Addr}, p ∈ acc → p ∈ cloFrom cells names acc
  | [], _, _, h => h
  | (m, k) :: r, acc, p, h => by
    unfold cloFrom
    split
    · exact cloFrom_acc (List.mem_cons_of_mem _ h)
    · exact cloFrom_acc h
theorem cloFrom_has {cells : List (Str × Addr)} : ∀ {names : List (Str × NameKind)} {acc : List (Str × Addr)} {n : Str}, (n, .free) ∈ names → (n, (cells.lookup n).getD 0) ∈ cloFrom cells names acc
  | (m, k) :: r, acc, n, h => by
    unfold cloFrom
    rcases List.mem_cons.mp h with e | h
    · cases e
      exact cloFrom_acc List.mem_cons_self
    · split
      · exact cloFrom_has h
      · exact cloFrom_has h
theorem cells_mem : ∀ {names : List (Str × NameKind)} {h : Heap} {acc : List (Str × Addr)} {x : Str} {c : Addr}, (x, c) ∈ cellsFrom h.objs.size names acc →
    (x, c) ∈ acc ∨ ((x, .cell) ∈ names ∧ h.objs.size ≤ c ∧ CellAt (pushCells h names) c none)
  | [], _, _, _, _, h => .inl h
  | (n, k) :: r, h, acc, x, c, hm => by
    unfold cellsFrom at hm
    unfold pushCells
    split at hm
    · rename_i hk
      rw [if_pos hk]
      have hk : k = .cell := by simpa using hk
      rw [← Heap.size_push h { cls := .type "cell", data := .cell none }] at hm
      rcases cells_mem hm with hm | ⟨h1, h2, h3⟩
      · rcases List.mem_cons.mp hm with e | hm
        · cases e
          exact .inr ⟨hk ▸ List.mem_cons_self, Nat.le_refl _, _, pushCells_keeps r _ _ _ (Heap.get?_push_size _ rfl), rfl⟩
        · exact .inl hm
      · rw [Heap.size_push] at h2
        exact .inr ⟨List.mem_cons_of_mem _ h1, Nat.le_of_succ_le h2, h3⟩
    · rename_i hk
      rw [if_neg hk]
      rcases cells_mem hm with hm | ⟨h1, h2, h3⟩
      · exact .inl hm
      · exact .inr ⟨List.mem_cons_of_mem _ h1, h2, h3⟩
theorem cells_acc : ∀ {names : List (Str × NameKind)} {n : Nat} {acc : List (Str × Addr)} {p : Str × Addr}, p ∈ acc → p ∈ cellsFrom n names acc
  | [], _, _, _, h => h
  | (m, k) :: r, n, acc, p, h => by
    unfold cellsFrom
    split
    · exact cells_acc (List.mem_cons_of_mem _ h)
    · exact cells_acc h
theorem cells_has : ∀ {names : List (Str × NameKind)} {n : Nat} {acc : List (Str × Addr)} {x : Str}, (x, .cell) ∈ names → ∃ c, (x, c) ∈ cellsFrom n names acc
  | (m, k) :: r, n, acc, x, h => by
    unfold cellsFrom
    rcases List.mem_cons.mp h with e | h
    · cases e
      exact ⟨n, cells_acc List.mem_cons_self⟩
    · split
      · exact cells_has h
      · exact cells_has h
theorem cells_inj : ∀ {names : List (Str × NameKind)} {h : Heap} {acc : List (Str × Addr)} {x y : Str} {c : Addr}, (∀ p ∈ acc, p.2 < h.objs.size) → (∀ x y c, (x, c) ∈ acc → (y, c) ∈ acc → x = y) →
    (x, c) ∈ cellsFrom h.objs.size names acc → (y, c) ∈ cellsFrom h.objs.size names acc → x = y
  | [], _, _, _, _, _, _, hi, h1, h2 => hi _ _ _ h1 h2
  | (n, k) :: r, h, acc, x, y, c, hl, hi, h1, h2 => by
    unfold cellsFrom at h1 h2
    split at h1
    · rename_i hk
      rw [if_pos hk] at h2
      rw [← Heap.size_push h { cls := .type "cell", data := .cell none }] at h1 h2
      refine cells_inj (h := h.push _) (fun p hp => ?_) (fun x y c a b => ?_) h1 h2
      · rw [Heap.size_push]
        rcases List.mem_cons.mp hp with rfl | hp
        · exact Nat.lt_succ_self _
        · exact Nat.lt_succ_of_lt (hl p hp)
      · rcases List.mem_cons.mp a with e | a <;> rcases List.mem_cons.mp b with e' | b
        · cases e; cases e'; rfl
        · cases e; exact absurd (hl _ b) (Nat.lt_irrefl _)
        · cases e'; exact absurd (hl _ a) (Nat.lt_irrefl _)
        · exact hi _ _ _ a b
    · rename_i hk
      rw [if_neg hk] at h2
      exact cells_inj hl hi h1 h2
theorem newEnv_comp {M : Model} {A : Around} {E : Value → Shared → Prop} {s : Shared} {scope : Scope} {globals : Addr} {closure : List (Str × Addr)} {qual : Str} {func : Option Addr} {code : Value} {around : Env} {builtins : Addr} {Q : Env → Shared → Prop}
    (h : Q (newEnv scope s.heap.objs.size globals (cellsFrom (s.heap.objs.size + 1) scope.names closure) qual func code (some around) builtins)
      { s with heap := pushCells (s.heap.push { cls := .type "dict", data := .dict #[] }) scope.names }) :
    wpAny M A (newFunctionEnv scope globals closure [] qual func code (some around) builtins) Q E s := by
  simp only [newFunctionEnv, Option.isSome_some, if_true]
  refine wpAny_bind (wpAny_alloc ?_)
  refine wpAny_bind (wpAny_layCells _ (fun n k c => rfl) scope.names closure _ _ ?_)
  rw [show ({ s with heap := s.heap.push { cls := .type "dict", data := .dict #[] } } : Shared).heap.objs.size = s.heap.objs.size + 1 from Heap.size_push ..]
  rw [List.forIn_nil]
  exact wpAny_bind (wpAny_pure (wpAny_pure h))
theorem lookup_relS {sc : Scope} : ∀ {names : List (Str × NameKind)} {x : Str} {k : NameKind},
    (names.map fun (n, k) => if (k == NameKind.free && sc.kind == .function && sc.names.lookup n == some .cell) then (n, NameKind.cell) else (n, k)).lookup x = some k →
    ∃ k', names.lookup x = some k' ∧ (k = k' ∨ (k' = .free ∧ k = .cell))
  | [], _, _, h => by simp at h
  | (n, k₀) :: r, x, k, h => by
    have ih := @lookup_relS sc r x k
    have h' : List.lookup x ((if (k₀ == NameKind.free && sc.kind == .function && sc.names.lookup n == some .cell) = true then (n, NameKind.cell) else (n, k₀)) :: (r.map _)) = some k := h
    cases hx : x == n with
    | true =>
      simp only [List.lookup_cons, hx]
      by_cases hc : (k₀ == NameKind.free && sc.kind == .function && sc.names.lookup n == some .cell) = true
      · rw [if_pos hc] at h'
        simp only [List.lookup_cons, hx] at h'
        cases h'
        simp only [Bool.and_eq_true, beq_iff_eq] at hc
        exact ⟨k₀, rfl, .inr ⟨hc.1.1, rfl⟩⟩
      · rw [if_neg hc] at h'
        simp only [List.lookup_cons, hx] at h'
        cases h'
        exact ⟨_, rfl, .inl rfl⟩
    | false =>
      simp only [List.lookup_cons, hx]
      by_cases hc : (k₀ == NameKind.free && sc.kind == .function && sc.names.lookup n == some .cell) = true
      · rw [if_pos hc] at h'
        simp only [List.lookup_cons, hx] at h'
        exact ih h'
      · rw [if_neg hc] at h'
        simp only [List.lookup_cons, hx] at h'
        exact ih h'
structure BlkOk (N : List Str) (sc scope : Scope) (own : List (Str × Nat)) : Prop where
  kind : scope.kind = .function
  uniq : ∀ y ∈ scope.names, scope.names.lookup y.1 = some y.2
  ix : ∀ p ∈ own, N[p.2]? = some p.1
  free : ∀ y ∈ scope.names, y.2 = .free → sc.names.lookup y.1 = some .cell ∨ sc.names.lookup y.1 = some .free
  own : ∀ y ∈ scope.names, y.2 = .local ∨ y.2 = .cell → y.1 ∈ own.map (·.1) ∨ y.1 ∉ N
def wipe (σ : St) : List Nat → St
  | [] => σ
  | v :: vs => (wipe σ vs).set v none
theorem wipe_length (σ : St) : ∀ vs : List Nat, (wipe σ vs).length = σ.length
  | [] => rfl
  | v :: vs => by unfold wipe; rw [List.length_set, wipe_length σ vs]
theorem wipe_some {σ : St} {i : Nat} {x : V} : ∀ {vs : List Nat}, (wipe σ vs)[i]? = some (some x) → σ[i]? = some (some x) ∧ i ∉ vs
  | [], h => ⟨h, by simp⟩
  | v :: vs, h => by
    unfold wipe at h
    by_cases hi : v = i
    · subst hi
      by_cases hv : v < (wipe σ vs).length
      · rw [List.getElem?_set_self hv] at h; cases h
      · rw [List.getElem?_eq_none (by simpa using hv)] at h; cases h
    · rw [List.getElem?_set_ne hi] at h
      obtain ⟨h1, h2⟩ := wipe_some h
      exact ⟨h1, by simp only [List.mem_cons, not_or]; exact ⟨fun e => hi e.symm, h2⟩⟩
abbrev Cx.blk (X : Cx) (s : Shared) (H : Hp) (scope : Scope) (cenv : Env) (fp : List Addr) : Cx := { X with s_0 := s, H_0 := H, env := cenv, outer := X.stack, ex := fp, fn := fun x => scope.names.lookup x == some .cell, pn := [], xe := fun _ _ => False }
section
variable {X : Cx} {pins : List (Addr × Obj)} {σ : St} {H : Hp} {s : Shared}
theorem block_start {scope : Scope} {own : List (Str × Nat)} {fp : List Addr} (I : Inv X pins σ H s) (ok : BlkOk X.N X.env.scope scope own) (hN : X.N.Nodup) (hfp : ∀ b ∈ fp, FpOk X pins H b ∧ b < s.heap.objs.size) :
    Inv (X.blk s H scope (compEnvC scope (cellsFrom (s.heap.objs.size + 1) scope.names (cloFrom X.env.cells scope.names [])) s.heap.objs.size X.env) fp) [] (wipe σ (own.map (·.2))) H { s with heap := pushCells (s.heap.push { cls := .type "dict", data := .dict #[] }) scope.names } := by
  have hfree : ∀ y ∈ scope.names, y.2 = .free → ∃ c, X.env.cells.lookup y.1 = some c := fun y hy e => by
    rcases ok.free y hy e with k | k
    · exact I.ok.has _ (.inl k)
    · exact I.ok.has _ (.inr k)
  generalize hcenv : compEnvC scope (cellsFrom (s.heap.objs.size + 1) scope.names (cloFrom X.env.cells scope.names [])) s.heap.objs.size X.env = cenv
  have kp : ∀ b o, s.heap.get? b = some o → (pushCells (s.heap.push { cls := .type "dict", data := .dict #[] }) scope.names).get? b = some o := fun b o e => pushCells_keeps _ _ _ _ (Heap.get?_push_of_some _ e)
  have hL : cenv.locals = s.heap.objs.size := by rw [← hcenv]; rfl
  have hcl : cenv.cells = cellsFrom (s.heap.objs.size + 1) scope.names (cloFrom X.env.cells scope.names []) := by rw [← hcenv]; rfl
  have hsc : cenv.scope = relS scope X.env.scope := by rw [← hcenv]; rfl
  rw [← Heap.size_push s.heap { cls := .type "dict", data := .dict #[] }] at hcl
  have cm : ∀ {y c}, (y, c) ∈ cloFrom X.env.cells scope.names [] → X.env.cells.lookup y = some c ∧ c < s.heap.objs.size := fun {y c} hm => by
    rcases cloFrom_mem hm with hm | ⟨h1, rfl⟩
    · cases hm
    · obtain ⟨c, hc⟩ := hfree _ h1 rfl
      rw [hc]
      obtain ⟨w, z⟩ := I.cell _ _ hc
      exact ⟨rfl, z.lt⟩
  have mem : ∀ {y c}, cenv.cells.lookup y = some c → (X.env.cells.lookup y = some c ∧ c < s.heap.objs.size) ∨ (s.heap.objs.size + 1 ≤ c ∧ CellAt (pushCells (s.heap.push { cls := .type "dict", data := .dict #[] }) scope.names) c none) := fun {y c} e => by
    rw [hcl] at e
    rcases cells_mem (PySem.mem_of_lookup e) with hm | ⟨_, h2, h3⟩
    · exact .inl (cm hm)
    · rw [Heap.size_push] at h2; exact .inr ⟨h2, h3⟩
  have look : ∀ {y}, scope.names.lookup y = some .free → ∃ c, cenv.cells.lookup y = some c ∧ X.env.cells.lookup y = some c := fun {y} hl => by
    have hy : (y, NameKind.free) ∈ scope.names := PySem.mem_of_lookup hl
    obtain ⟨c', e'⟩ := mem_lookup (cells_acc (names := scope.names) (n := (s.heap.push { cls := .type "dict", data := .dict #[] }).objs.size) (cloFrom_has (cells := X.env.cells) (acc := []) hy))
    rw [← hcl] at e'
    refine ⟨c', e', ?_⟩
    rw [hcl] at e'
    rcases cells_mem (PySem.mem_of_lookup e') with hm | ⟨h1, _, _⟩
    · exact (cm hm).1
    · have := ok.uniq _ h1
      rw [hl] at this; cases this
  have okB : (X.blk s H scope cenv fp).Ok := by
    refine ⟨I.ok.mod, by show cenv.scope.kind = _; rw [hsc]; exact ok.kind, by show cenv.globals = _; rw [← hcenv]; exact I.ok.glob, by show cenv.builtins = _; rw [← hcenv]; exact I.ok.blt, by show s.heap.objs.size ≤ cenv.locals; rw [hL]; exact Nat.le_refl _,
      fun y z c e1 e2 => ?_, fun y hy => ?_, fun y c z e => ?_, I.ok.hd, I.ok.frames, .inl rfl, fun b hb => ⟨?_, fun y c e z => ?_⟩, I.bs, Nat.le_trans I.ok.bsz I.sz, fun b o e hb => ?_, fun b hb z => ?_, I.stack, I.stkFree⟩
    · have e1 : cenv.cells.lookup y = some c := e1
      have e2 : cenv.cells.lookup z = some c := e2
      rw [hcl] at e1 e2
      refine cells_inj (fun p hp => ?_) (fun y z c a b => I.ok.inj y z c (cm a).1 (cm b).1) (PySem.mem_of_lookup e1) (PySem.mem_of_lookup e2)
      rw [Heap.size_push]
      exact Nat.lt_succ_of_lt (cm (y := p.1) (c := p.2) hp).2
    · show ∃ c, cenv.cells.lookup y = some c
      have key : ∀ k, cenv.kindOf y = some k → (k = .cell ∨ k = .free) → ∃ c, cenv.cells.lookup y = some c := fun k hk hk' => by
        unfold Env.kindOf at hk
        rw [hsc] at hk
        obtain ⟨k', e, r⟩ := lookup_relS hk
        have : k' = .cell ∨ k' = .free := by
          rcases r with rfl | ⟨rfl, _⟩
          · exact hk'
          · exact .inr rfl
        rcases this with rfl | rfl
        · obtain ⟨c, hm⟩ := cells_has (n := (s.heap.push { cls := .type "dict", data := .dict #[] }).objs.size) (acc := cloFrom X.env.cells scope.names []) (PySem.mem_of_lookup e)
          obtain ⟨c', e'⟩ := mem_lookup hm
          exact ⟨c', by rw [hcl]; exact e'⟩
        · obtain ⟨c, h1, _⟩ := look e
          exact ⟨c, h1⟩
      rcases hy with hy | hy
      · exact key _ hy (.inl rfl)
      · exact key _ hy (.inr rfl)
    · have z : (scope.names.lookup y == some NameKind.cell) = true := z
      have z : scope.names.lookup y = some .cell := by simpa using z
      have e : cenv.cells.lookup y = some c := e
      rw [hcl] at e
      rcases cells_mem (PySem.mem_of_lookup e) with hm | ⟨_, h2, _⟩
      · rcases cloFrom_mem hm with hm | ⟨h1, _⟩
        · cases hm
        · have q := ok.uniq _ h1
          rw [z] at q; cases q
      · rw [Heap.size_push] at h2
        exact Nat.le_of_succ_le h2
    · show b ≠ cenv.locals
      rw [hL]; exact Nat.ne_of_lt (hfp b hb).2
    · have e : cenv.cells.lookup y = some c := e
      rcases mem e with ⟨h1, _⟩ | ⟨h1, _⟩
      · exact (hfp b hb).1.2.2.2.2.1 y c h1 z
      · have h2 : s.heap.objs.size + 1 ≤ b := by rw [← z]; exact h1
        exact absurd (Nat.lt_of_lt_of_le (hfp b hb).2 (Nat.le_of_succ_le h2)) (Nat.lt_irrefl _)
    · rcases (hfp b hb).1.2.2.2.1 with z | z
      · exact I.ok.noex b o e z
      · exact absurd (Nat.lt_of_lt_of_le (Heap.lt_size e) (Nat.le_trans I.ok.bsz z)) (Nat.lt_irrefl _)
    · rcases List.mem_cons.mp (I.stkSub b z) with z | z
      · exact (hfp b hb).1.2.1 z
      · exact (hfp b hb).1.2.2.1 z
  refine ⟨okB, rfl, I.bare, Un.kept kp, ⟨fun _ => none, ?_, fun i y av e1 e2 e3 => ?_⟩, fun y c e => ?_, ?_, fun y c e => ?_, fun p hp => ?_, I.hok.kept kp, by rw [wipe_length]; exact I.len⟩
  · show Heap.Ns _ cenv.locals _
    rw [hL]
    exact Heap.Ns.keeps (Heap.Ns.new ..) fun b o e => pushCells_keeps _ _ _ _ e
  · obtain ⟨e2, hne⟩ := wipe_some e2
    have hfr : scope.names.lookup y = some .free ∧ (cenv.kindOf y = some .cell ∨ cenv.kindOf y = some .free) := by
      have key : ∀ k, cenv.scope.names.lookup y = some k → k = .local ∨ k = .cell ∨ k = .free → scope.names.lookup y = some .free ∧ (cenv.kindOf y = some .cell ∨ cenv.kindOf y = some .free) := fun k hk hk' => by
        have hk0 := hk
        rw [hsc] at hk
        obtain ⟨k', e, r⟩ := lookup_relS hk
        have no : ¬ (k' = .local ∨ k' = .cell) := fun hh => by
          rcases ok.own _ (PySem.mem_of_lookup e) hh with e' | e'
          · obtain ⟨p, hp, hpy⟩ := List.mem_map.mp e'
            have e3 := ok.ix p hp
            have : p.1 = y := hpy
            rw [this] at e3
            exact hne (List.mem_map.mpr ⟨p, hp, nodup_ix hN e3 e1⟩)
          · exact e' (List.mem_of_getElem? e1)
        rcases r with rfl | ⟨rfl, rfl⟩
        · rcases hk' with rfl | rfl | rfl
          · exact absurd (.inl rfl) no
          · exact absurd (.inr rfl) no
          · exact ⟨e, .inr hk0⟩
        · exact ⟨e, .inl hk0⟩
      have e3 : Vis cenv.scope y := e3
      rcases e3 with e3 | e3 | e3
      · exact key _ e3 (.inl rfl)
      · exact key _ e3 (.inr (.inl rfl))
      · exact key _ e3 (.inr (.inr rfl))
    obtain ⟨m, hn, hl⟩ := I.loc
    have hvis : Vis X.env.scope y := (ok.free _ (PySem.mem_of_lookup hfr.1) rfl).elim (fun k => .inr (.inl k)) (fun k => .inr (.inr k))
    obtain ⟨w, r, q⟩ := hl i y av e1 e2 hvis
    refine ⟨w, r, .inr ⟨hfr.2, ?_⟩⟩
    obtain ⟨c, h1, h2⟩ := look hfr.1
    rcases q with ⟨k, _⟩ | ⟨_, c', e', z⟩
    · have k : X.env.scope.names.lookup y = some .local := k
      rcases ok.free _ (PySem.mem_of_lookup hfr.1) rfl with k' | k' <;> rw [show X.env.scope.names.lookup y = _ from k'] at k <;> cases k
    · rw [h2] at e'; cases e'
      exact ⟨c, h1, z.keeps kp⟩
  · have e : cenv.cells.lookup y = some c := e
    rcases mem e with ⟨h1, _⟩ | ⟨_, z⟩
    · obtain ⟨w, z⟩ := I.cell y c h1
      exact ⟨w, z.keeps kp⟩
    · exact ⟨_, z⟩
  · show H cenv.locals = none
    rw [hL]; exact I.hok.fresh (Nat.le_refl _)
  · have e : cenv.cells.lookup y = some c := e
    rcases mem e with ⟨h1, _⟩ | ⟨h1, _⟩
    · exact I.freeC y c h1
    · exact I.hok.fresh (Nat.le_of_succ_le h1)
  · exact absurd (show p ∈ ([] : List (Addr × Obj)) ++ [] from hp) (by simp)
theorem app_ok {E : Value → Shared → Prop} {D : Addr} {xs : List V} {y : V} {v : Value} {Q : Value → Shared → Prop} (I : Inv X pins σ H s) (hD : H D = some (.lst xs)) (hz : xs.length < sizeLine) (r : RelV y v)
    (h : ∀ s', Inv X pins σ (upd H D (.lst (xs ++ [y]))) s' → Q .none s') : wpAny (model X.prog X.w) X.A (call (.builtin "list.append") [.ref D, v]) Q E s := by
  obtain ⟨hz', its, n, ri, e⟩ := I.hok D _ hD
  have hl := ri.length
  refine append_at (hsz := by rw [List.size_toArray]; omega) e fun h' sb ho' => ?_
  refine h { s with heap := h' } (I.write (t' := s.toks) (by rw [hD]; trivial) (.inl rfl) (fun b u hb q => (sb.2 b hb).trans q) ⟨_, ho'⟩ ⟨by rw [List.length_append]; exact hz, its ++ [v], n + 1, ri.append (.cons r .nil), ?_⟩)
  rw [ho']
  simp
def PTs (X : Cx) (ifs : List Expr) (t : TT) : Prop :=
  ∀ (pins : List (Addr × Obj)) (s : Shared) (σ : St) (H : Hp) (Q : Bool → Hp → Prop), Inv X pins σ H s → t σ H Q →
    wpAny (model X.prog X.w) X.A (forIn ifs true fun c r => if r = true then do let ok ← isTrue c X.env (eval c X.env); pure (ForInStep.yield ok) else pure (ForInStep.yield r)) (TP X pins σ Q) X.xe s
def tYes : TT := fun _ H Q => Q true H
theorem pts_nil : PTs X [] tYes := fun _ _ _ H _ I h => wpAny_tests_nil ⟨H, I, h⟩
theorem pts_one {c : Expr} {t : TT} (h : PT X c t) : PTs X [c] t := fun pins s σ H Q I hw => wpAny_tests_one (h pins s σ H Q I hw)
end
theorem thnF {α : Type} {t : Sem α} {Q Q' : α → Shared → Prop} {M : Model} {A : Around} {E : Value → Shared → Prop} {s : Shared} (h : wpAny M A t Q (fun _ _ => False) s) (hQ : ∀ a s, Q a s → Q' a s) : wpAny M A t Q' E s := wpAny_mono h hQ fun _ _ z => False.elim z
theorem compLoop_any {prog : Program} {w : World} {A : Around} {R : Result → Shared → Prop} {s : Shared} {elt target iter : Expr} {ifs : List Expr} {scope : Scope} {pos : Pos} {it acc : Value} {env : Env} (I : Nat → Shared → Prop)
    (turn : ∀ n s, I n s → wpAny (model prog w) A (pyNext it) (fun r s₁ => match r with
      | none => R (.ok .next) s₁
      | some v => wpAny (model prog w) A (letOwnedTupleGo target it v) (fun _ s₁' => wpAny (model prog w) A (assign target env v) (fun _ s₂ =>
          wpAny (model prog w) A (forIn ifs true fun c r => if r = true then do let ok ← isTrue c env (eval c env); pure (ForInStep.yield ok) else pure (ForInStep.yield r)) (fun ok s₃ =>
            if ok = true then wpAny (model prog w) A (eval elt env) (fun x s₄ =>
              wpAny (model prog w) A (call (.builtin "list.append") [acc, x]) (fun _ s₅ => ∃ m, m < n ∧ I m s₅) (notedBy (model prog w) A env fun e s' => R (.error e) s') s₄) (notedBy (model prog w) A env fun e s' => R (.error e) s') s₃
            else ∃ m, m < n ∧ I m s₃) (notedBy (model prog w) A env fun e s' => R (.error e) s') s₂) (notedBy (model prog w) A env fun e s' => R (.error e) s') s₁') (notedBy (model prog w) A env fun e s' => R (.error e) s') s₁) (notedBy (model prog w) A env fun e s' => R (.error e) s') s)
    (n : Nat) (h : I n s) :
    codeAny (model prog w) A (.compLoop (.ListComp elt [⟨target, iter, ifs, 0⟩] scope pos) 0 it acc env) R s := by
  refine codeAny_loop rfl I (fun n s hI => ?_) n h
  show wpAny _ A ((compTurn (.ListComp elt [⟨target, iter, ifs, 0⟩] scope pos) 0 it acc env).onRaise (fun x => do noteFrame x env; theTreesLotGoes x)) _ _ s
  refine wpAny_noted ?_
  rw [compTurn_list]
  refine wpAny_bind (wpAny_standAt (wpAny_bind (wpAny_mono (turn n s hI) (fun r s₁ h₁ => ?_) fun _ _ h' => h')))
  cases r with
  | none => exact wpAny_pure h₁
  | some v =>
    refine wpAny_bind (wpAny_mono h₁ (fun _ s₁' h₁' => ?_) fun _ _ h' => h')
    refine wpAny_bind (wpAny_mono h₁' (fun _ s₂ h₂ => wpAny_bind (wpAny_mono h₂ (fun ok s₃ h₃ => ?_) fun _ _ h' => h')) fun _ _ h' => h')
    cases ok with
    | false => exact wpAny_pure ⟨rfl, h₃⟩
    | true =>
      exact wpAny_bind (wpAny_bind (wpAny_mono h₃ (fun x s₄ h₄ => wpAny_bind (wpAny_mono h₄ (fun _ s₅ h₅ => wpAny_pure (wpAny_pure ⟨rfl, h₅⟩)) fun _ _ h' => h')) fun _ _ h' => h'))
section
variable {X : Cx}
def tLc (wi : TI) (g : TG) (tt : TT) (te : TE) (vs : List Nat) : TE := fun σ H Q => wi σ H fun J H1 => ∀ D, H1 D = none → ∃ W : Nat → Nat → Hp → Prop, (∃ m, W 0 m (upd H1 D (.lst []))) ∧ ∀ i m H, W i m H →
  (J.stop i H ∧ Q (.ref D) H) ∨ (J.go i H ∧ ∃ Nx : Hp → Prop, (∀ H', Nx H' → ∃ m', m' < m ∧ W (i + 1) m' H') ∧ ∀ x H', J.yld i H x H' → g x (wipe σ vs) H' fun σ2 H2 => wipe σ2 vs = wipe σ vs ∧ tt σ2 H2 fun b H3 =>
    if b = true then te σ2 H3 fun y H4 => ∃ acc, H4 D = some (.lst acc) ∧ acc.length < sizeLine ∧ Nx (upd H4 D (.lst (acc ++ [y]))) else Nx H3)
theorem lc_core {pins : List (Addr × Obj)} {s : Shared} {σ : St} {H : Hp} {Q : VK} {elt tg iter : Expr} {ifs : List Expr} {scope : Scope} {own : List (Str × Nat)} {pos pos' : Pos} {wi : TI} {g : TG} {tt : TT} {te : TE} {use : Option (Value → Sem Unit)} {Qf : Value → Shared → Prop}
    (hc : X.calm = true) (hN : X.N.Nodup) (I : Inv X pins σ H s) (hi : PI X tg iter wi) (ok : BlkOk X.N X.env.scope scope own)
    (hg : ∀ (s : Shared) (H : Hp) (C : Addr) (cl : List (Str × Addr)) (fp : List Addr), PG (X.blk s H scope (compEnvC scope cl C X.env) fp) tg g) (ht : ∀ (s : Shared) (H : Hp) (C : Addr) (cl : List (Str × Addr)) (fp : List Addr), PTs (X.blk s H scope (compEnvC scope cl C X.env) fp) ifs tt)
    (he : ∀ (s : Shared) (H : Hp) (C : Addr) (cl : List (Str × Addr)) (fp : List Addr), PE (X.blk s H scope (compEnvC scope cl C X.env) fp) elt te) (hs : ∀ x, foldedSetIterable iter X.env x = pure x)
    (h : tLc wi g tt te (own.map (·.2)) σ H Q)
    (hRR : ∀ D C s' m H', Inv X pins σ H' s' → Q (.ref D) H' → s'.heap.Ns C m → FpOk X pins H' C → compPost (model X.prog X.w) X.A X.xe use Qf (.ref D) C (.ok .next) s') :
    wpAny (model X.prog X.w) X.A (comprehension (.ListComp elt [⟨tg, iter, ifs, 0⟩] scope pos) scope X.env pos' (newList []) false (eval iter X.env) use) Qf X.xe s := by
  have hfree : ∀ y ∈ scope.names, y.2 = .free → ∃ c, X.env.cells.lookup y.1 = some c := fun y hy e => by
    rcases ok.free y hy e with k | k
    · exact I.ok.has _ (.inl k)
    · exact I.ok.has _ (.inr k)
  refine wpAny_comprehension_free (use := use) rfl hs (closure_ok hfree) ok.kind (fun y hy e => by rw [ok.uniq y hy, e])
    (thn (hi pins s σ H _ I h) fun xv s1 hx => thn hx fun itv s2 h2 => ?_)
  obtain ⟨it, fp, tn, J, H2, e, I2, T, st2, f2, q⟩ := h2
  subst e
  refine wpAny_newObj_type (newEnv_comp ?_) (by show 0 ≤ sizeLine; decide)
  generalize hD : s2.heap.objs.size = D
  have hDn : H2 D = none := I2.hok.fresh (Nat.le_of_eq hD)
  obtain ⟨W, ⟨m0, w0⟩, turn⟩ := q D hDn
  -- the new list
  generalize hs3 : ({ s2 with heap := s2.heap.push { cls := .type "list", data := .seq ([] : List Value).toArray } } : Shared) = s3
  have I3 : Inv X pins σ (upd H2 D (.lst [])) s3 := by
    rw [← hs3]
    refine I2.laid (t' := s2.toks) (fun b o e => Heap.get?_push_of_some _ e) (Nat.le_of_eq hD) ⟨Nat.zero_le _, [], 0, .nil, ?_⟩
    rw [← hD]
    exact Heap.get?_push_size _ rfl
  have h3 : s3.heap = s2.heap.push { cls := .type "list", data := .seq ([] : List Value).toArray } := by rw [← hs3]
  have sz : ∀ b ∈ fp, b < s2.heap.objs.size := fun b hb => by
    obtain ⟨o, e, _⟩ := T.obj _ _ st2 b hb
    exact Heap.lt_size e
  have f3 : ∀ b ∈ fp, FpOk X pins (upd H2 D (.lst [])) b ∧ b < s3.heap.objs.size := fun b hb => by
    have hlt := sz b hb
    refine ⟨⟨?_, (f2 b hb).2⟩, by rw [h3, Heap.size_push]; exact Nat.lt_succ_of_lt hlt⟩
    rw [upd_ne (by rw [← hD]; exact Nat.ne_of_lt hlt)]
    exact (f2 b hb).1
  have st3 : tn 0 s3.heap := T.keep _ _ _ st2 fun b _ o e => by rw [h3]; exact Heap.get?_push_of_some _ e
  have I4 := block_start I3 ok hN f3
  have pg := hg s3 (upd H2 D (.lst [])) s3.heap.objs.size (cellsFrom (s3.heap.objs.size + 1) scope.names (cloFrom X.env.cells scope.names [])) fp
  have pt := ht s3 (upd H2 D (.lst [])) s3.heap.objs.size (cellsFrom (s3.heap.objs.size + 1) scope.names (cloFrom X.env.cells scope.names [])) fp
  have pe := he s3 (upd H2 D (.lst [])) s3.heap.objs.size (cellsFrom (s3.heap.objs.size + 1) scope.names (cloFrom X.env.cells scope.names [])) fp
  show codeAny _ _ (.compStart (.ListComp elt [⟨tg, iter, ifs, 0⟩] scope pos) 0 (.ref it) (.ref D) (compEnvC scope (cellsFrom (s3.heap.objs.size + 1) scope.names (cloFrom X.env.cells scope.names [])) s3.heap.objs.size X.env)) (compPost (model X.prog X.w) X.A X.xe use Qf (.ref D) s3.heap.objs.size) { s3 with heap := pushCells (s3.heap.push { cls := .type "dict", data := .dict #[] }) scope.names }
  have nfp : ∀ b ∈ fp, (upd H2 D (.lst [])) b = none := fun b hb => (f3 b hb).1.1
  generalize hce : compEnvC scope (cellsFrom (s3.heap.objs.size + 1) scope.names (cloFrom X.env.cells scope.names [])) s3.heap.objs.size X.env = ce at I4 pg pt pe ⊢
  have cL : ce.locals = s3.heap.objs.size := by subst hce; rfl
  generalize hH3 : upd H2 D (.lst []) = H3 at I3 I4 pg pt pe w0 nfp f3
  generalize hs4 : ({ s3 with heap := pushCells (s3.heap.push { cls := .type "dict", data := .dict #[] }) scope.names } : Shared) = s4 at I4 ⊢
  have st4 : tn 0 s4.heap := T.keep _ _ _ st3 fun b _ o e => by rw [← hs4]; exact pushCells_keeps _ _ _ _ (Heap.get?_push_of_some _ e)
  have stat : ∀ {σ' : St} {H' : Hp} {s' : Shared}, Inv (X.blk s3 H3 scope ce fp) [] σ' H' s' → (∀ b ∈ fp, H' b = none) → ∀ b ∈ fp, FpOk (X.blk s3 H3 scope ce fp) [] H' b := fun {σ' H' s'} I' hn b hb =>
    ⟨hn b hb, (I'.ok.exf b hb).1, I'.ok.exfs b hb, .inl hb, fun x c e => (I'.ok.exf b hb).2 x c e, fun p hp => absurd (show p ∈ ([] : List (Addr × Obj)) ++ [] from hp) (by simp)⟩
  have loop : codeAny (model X.prog X.w) X.A (.compLoop (.ListComp elt [⟨tg, iter, ifs, 0⟩] scope pos) 0 (.ref it) (.ref D) ce) (compPost (model X.prog X.w) X.A X.xe use Qf (.ref D) s3.heap.objs.size) s4 := by
    refine compLoop_any (fun n s' => ∃ i H', Inv (X.blk s3 H3 scope ce fp) [] (wipe σ (own.map (·.2))) H' s' ∧ tn i s'.heap ∧ (∀ b ∈ fp, H' b = none) ∧ W i n H') ?_ m0 ⟨0, H3, I4, st4, nfp, w0⟩
    rintro n s5 ⟨i, H5, I5, st5, n5, w5⟩
    rcases turn i n H5 w5 with ⟨stop, qq⟩ | ⟨go, Nx, hNx, step⟩
    · have td := T.done (X.blk s3 H3 scope ce fp) rfl rfl rfl hc i [] s5 _ H5 (fun _ _ => False) I5 (stat I5 n5) st5 stop
      refine thnF td fun r s6 ⟨hr, I6⟩ => ?_
      subst hr
      -- back in the def's context
      have I7 : Inv X pins σ H5 s6 := I3.call' (ch := fp) I6.os I6.base I6.hok I6.bare fun b hb => ⟨(f3 b hb).1.2.2.2.1, (f3 b hb).1.2.1, (f3 b hb).1.2.2.2.2.1, (f3 b hb).1.2.2.2.2.2⟩
      have nC : H5 s3.heap.objs.size = none := by
        have z : H5 ce.locals = none := I6.free
        rw [cL] at z
        exact z
      obtain ⟨m, hn, _⟩ := I6.loc
      have hn : s6.heap.Ns ce.locals m := hn
      rw [cL] at hn
      exact hRR D s3.heap.objs.size s6 m H5 I7 qq hn (I3.fpOk (Nat.le_refl _) nC)
    · have ti := T.item (X.blk s3 H3 scope ce fp) rfl rfl rfl hc i [] s5 _ H5 (fun _ _ => False) I5 (stat I5 n5) st5 go
      refine thnF ti fun r s6 ⟨u, hr, h6⟩ => ?_
      subst hr
      refine thnF h6 fun _ s7 ⟨x, H7, I7, r7, y7, st7, n7⟩ => ?_
      have I7' := I7.pinned (stat I7 n7) (T.obj _ _ st7)
      refine thnF (pg _ s7 _ H7 x u _ I7' r7 (step x H7 y7)) fun _ s8 ⟨σ8, H8, I8, hw8, q8⟩ => ?_
      refine thnF (pt _ s8 σ8 H8 _ I8 q8) fun b s9 ⟨H9, I9, q9⟩ => ?_
      -- the turn's end
      have fin : ∀ {s' : Shared} {H' : Hp}, Inv (X.blk s3 H3 scope ce fp) ([] ++ pinsAt fp s7.heap) σ8 H' s' → Nx H' → ∃ m, m < n ∧ ∃ i H', Inv (X.blk s3 H3 scope ce fp) [] (wipe σ (own.map (·.2))) H' s' ∧ tn i s'.heap ∧ (∀ b ∈ fp, H' b = none) ∧ W i m H' := fun {s' H'} I' nx => by
        obtain ⟨m', hm, w'⟩ := hNx H' nx
        have pin' : ∀ b ∈ fp, ∀ o, s7.heap.get? b = some o → s'.heap.get? b = some o ∧ H' b = none := fun b hb o e =>
          let z := I'.pin (b, o) (List.mem_append_right _ (List.mem_append_right _ (mem_pinsAt hb e)))
          ⟨z.1, z.2.1⟩
        have hl : (wipe σ (own.map (·.2))).length = σ8.length := by rw [← hw8, wipe_length]
        refine ⟨m', hm, i + 1, H', (I'.unpinned (pins := [])).weak hl (fun j v e => ?_), T.keep _ _ _ st7 fun b hb o e => (pin' b hb o e).1, fun b hb => ?_, w'⟩
        · rw [← hw8] at e
          exact (wipe_some e).1
        · obtain ⟨o, e, _⟩ := T.obj _ _ st7 b hb
          exact (pin' b hb o e).2
      cases b with
      | false =>
        simp only [Bool.false_eq_true, if_false] at q9 ⊢
        exact fin I9 q9
      | true =>
        simp only [if_true] at q9 ⊢
        refine thnF (pe _ s9 σ8 H9 _ I9 q9) fun z s10 ⟨yv, H10, I10, r10, acc, hD10, hz10, nx⟩ => ?_
        exact app_ok (X := X.blk s3 H3 scope ce fp) I10 hD10 hz10 r10 fun s11 I11 => fin I11 nx
  exact codeAny_compStart_list loop (T.self X.A 0 _ _ _ st4 loop)
theorem pe_lc {elt tg iter : Expr} {ifs : List Expr} {scope : Scope} {own : List (Str × Nat)} {pos : Pos} {wi : TI} {g : TG} {tt : TT} {te : TE} (hc : X.calm = true) (hN : X.N.Nodup) (hi : PI X tg iter wi) (ok : BlkOk X.N X.env.scope scope own)
    (hg : ∀ (s : Shared) (H : Hp) (C : Addr) (cl : List (Str × Addr)) (fp : List Addr), PG (X.blk s H scope (compEnvC scope cl C X.env) fp) tg g) (ht : ∀ (s : Shared) (H : Hp) (C : Addr) (cl : List (Str × Addr)) (fp : List Addr), PTs (X.blk s H scope (compEnvC scope cl C X.env) fp) ifs tt)
    (he : ∀ (s : Shared) (H : Hp) (C : Addr) (cl : List (Str × Addr)) (fp : List Addr), PE (X.blk s H scope (compEnvC scope cl C X.env) fp) elt te) (hs : ∀ x, foldedSetIterable iter X.env x = pure x := by intro _; rfl) :
    PE X (.ListComp elt [⟨tg, iter, ifs, 0⟩] scope pos) (tLc wi g tt te (own.map (·.2))) := by
  intro pins s σ H Q I h
  rw [eval_ListComp]
  refine lc_core hc hN I hi ok hg ht he hs h fun D C s' m H' I' q hn f => ⟨m, hn, fun h'' sb => ?_⟩
  obtain ⟨f0, f1, f2, f3, f4, f5⟩ := f
  exact ⟨.ref D, H', I'.turned (t' := s'.toks) (fun b o hb e => (sb.2 b hb).trans e) f0 f1 f3 f4 f5, rfl, q⟩
theorem ps_setLc {i : Nat} {y : Str} {py : Pos} {elt tg iter : Expr} {ifs : List Expr} {scope : Scope} {own : List (Str × Nat)} {pos spos : Pos} {wi : TI} {g : TG} {tt : TT} {te : TE} (hc : X.calm = true) (hN : X.N.Nodup) (hy : X.N[i]? = some y) (hyl : X.env.scope.names.lookup y = some .local)
    (hsw : swapsWith (.ListComp elt [⟨tg, iter, ifs, 0⟩] scope pos) (some (.Name y py)) spos.line X.env = pure true) (hi : PI X tg iter wi) (ok : BlkOk X.N X.env.scope scope own)
    (hg : ∀ (s : Shared) (H : Hp) (C : Addr) (cl : List (Str × Addr)) (fp : List Addr), PG (X.blk s H scope (compEnvC scope cl C X.env) fp) tg g) (ht : ∀ (s : Shared) (H : Hp) (C : Addr) (cl : List (Str × Addr)) (fp : List Addr), PTs (X.blk s H scope (compEnvC scope cl C X.env) fp) ifs tt)
    (he : ∀ (s : Shared) (H : Hp) (C : Addr) (cl : List (Str × Addr)) (fp : List Addr), PE (X.blk s H scope (compEnvC scope cl C X.env) fp) elt te) (hs : ∀ x, foldedSetIterable iter X.env x = pure x := by intro _; rfl) :
    PS X (.Assign [.Name y py] (.ListComp elt [⟨tg, iter, ifs, 0⟩] scope pos) spos) (tAsg (tLc wi g tt te (own.map (·.2))) (gName i)) := by
  intro pins s σ H D I h
  rw [exec_Assign_Name_used _ _ _ _ hsw]
  refine wpAny_bind (wpAny_standAt (wpAny_bind ?_))
  show wpAny _ X.A (do let _ ← comprehension (.ListComp elt [⟨tg, iter, ifs, 0⟩] scope pos) scope X.env (firstIterPos [⟨tg, iter, ifs, 0⟩] pos) (newList []) false (eval iter X.env) (some (assign (.Name y py) X.env))) _ _ s
  have h : tLc wi g tt te (own.map (·.2)) σ H (fun x H1 => gName i x σ H1 D.nx) := h
  refine wpAny_bind (thn (lc_core (Qf := fun _ s' => SP X pins D .next s') hc hN I hi ok hg ht he hs h fun L C s' m H' I' q hn f => ?_) fun _ s' hq => wpAny_pure (wpAny_pure hq))
  show wpAny _ _ (assign (.Name y py) X.env (.ref L)) _ _ _
  refine wpAny_assign_Name (store_ok2 (v := V.ref L) I' hN hy (.inl hyl) rfl (fun s2 I2 ⟨a, sb, ha⟩ => ?_) (.inr hyl))
  obtain ⟨f0, f1, f2, f3, f4, f5⟩ := f
  have haC : C ≠ a := by
    rcases ha with z | z
    · rw [z]; exact f1
    · exact fun e => f4 y a z e.symm
  refine ⟨m, hn.sameBut sb haC, fun h3 sb3 => ?_⟩
  exact ⟨_, H', I2.turned (t' := s2.toks) (fun b o hb e => (sb3.2 b hb).trans e) f0 f1 f3 f4 f5, q⟩
end
end L2
namespace L2
open PySem PySem.Spec PyProof.Rows
section
variable {prog : Program} {w : World} {A : Around} {R : Result → Shared → Prop} {s : Shared} {elt t0 i0 t1 i1 : Expr} {ifs0 ifs1 : List Expr} {scope : Scope} {pos : Pos} {it acc : Value} {env : Env}
end
section
variable {X : Cx}
end
end L2
namespace L2
open PySem PySem.Spec PyProof.Rows
section
variable {κ : Type} [DecidableEq κ]
def valV (kvs : List (κ × V)) (k : κ) : Option V := (kvs.find? fun kv => decide (kv.1 = k)).map (·.2)
def putK (kvs : List (κ × V)) (k : κ) (v : V) : List (κ × V) :=
  if (kvs.any fun kv => decide (kv.1 = k)) = true then kvs.map (fun kv => if kv.1 = k then (kv.1, v) else kv) else kvs ++ [(k, v)]
theorem valV_pos {p : κ × V} {r : List (κ × V)} {k : κ} (e : p.1 = k) : valV (p :: r) k = some p.2 := by simp [valV, List.find?_cons, e]
theorem valV_neg {p : κ × V} {r : List (κ × V)} {k : κ} (e : ¬ p.1 = k) : valV (p :: r) k = valV r k := by simp [valV, List.find?_cons, e]
theorem valV_any (k : κ) : ∀ kvs : List (κ × V), (kvs.any fun kv => decide (kv.1 = k)) = (valV kvs k).isSome
  | [] => rfl
  | p :: r => by
    rw [List.any_cons]
    by_cases e : p.1 = k
    · simp only [valV_pos e, decide_eq_true e, Bool.true_or, Option.isSome_some]
    · rw [valV_neg e, decide_eq_false e, Bool.false_or]; exact valV_any k r
theorem valV_map (k j : κ) (y : V) : ∀ kvs : List (κ × V), valV (kvs.map fun kv => if kv.1 = k then (kv.1, y) else kv) j = (valV kvs j).map fun x => if j = k then y else x
  | [] => rfl
  | p :: r => by
    have ih := valV_map k j y r
    rw [List.map_cons]
    by_cases h : p.1 = k
    · rw [if_pos h]
      by_cases e : p.1 = j
      · rw [valV_pos (p := (p.1, y)) e, valV_pos e, Option.map_some, if_pos (e.symm.trans h)]
      · rw [valV_neg (p := (p.1, y)) e, valV_neg e, ih]
    · rw [if_neg h]
      by_cases e : p.1 = j
      · rw [valV_pos (p := p) e, valV_pos e, Option.map_some, if_neg (fun z => h (e.trans z))]
      · rw [valV_neg (p := p) e, valV_neg e, ih]
theorem valV_snoc (k j : κ) (y : V) : ∀ kvs : List (κ × V), valV kvs k = none → valV (kvs ++ [(k, y)]) j = if j = k then some y else valV kvs j
  | [], _ => by
    by_cases e : k = j
    · rw [if_pos e.symm]; exact valV_pos (p := (k, y)) e
    · rw [if_neg (fun z => e z.symm)]; exact valV_neg (p := (k, y)) e
  | p :: r, hn => by
    rw [List.cons_append]
    have hk : ¬ p.1 = k := fun z => by rw [valV_pos z] at hn; cases hn
    rw [valV_neg hk] at hn
    have ih := valV_snoc k j y r hn
    by_cases e : p.1 = j
    · rw [valV_pos e, valV_pos e, if_neg (fun z => hk (e.trans z))]
    · rw [valV_neg e, valV_neg e, ih]
theorem valV_put (kvs : List (κ × V)) (k j : κ) (y : V) : valV (putK kvs k y) j = if j = k then some y else valV kvs j := by
  unfold putK
  by_cases a : (kvs.any fun kv => decide (kv.1 = k)) = true
  · rw [if_pos a, valV_map]
    rw [valV_any] at a
    by_cases e : j = k
    · obtain ⟨x, hx⟩ := Option.isSome_iff_exists.mp a
      rw [if_pos e, e, hx, Option.map_some, if_pos rfl]
    · rw [if_neg e]
      cases valV kvs j with
      | none => rfl
      | some x => rw [Option.map_some, if_neg e]
  · rw [if_neg a]
    refine valV_snoc k j y kvs ?_
    rw [valV_any] at a
    cases q : valV kvs k with
    | none => rfl
    | some x => rw [q] at a; exact (a rfl).elim
theorem length_putK (kvs : List (κ × V)) (k : κ) (v : V) : (putK kvs k v).length ≤ kvs.length + 1 := by
  unfold putK
  split
  · rw [List.length_map]; omega
  · rw [List.length_append, List.length_cons, List.length_nil]; omega
theorem putK_new {kvs : List (κ × V)} {k : κ} (v : V) (h : valV kvs k = none) : putK kvs k v = kvs ++ [(k, v)] := by
  unfold putK
  rw [valV_any, h]
  exact if_neg (by decide)
theorem RelO.isSome_eq {o : Option V} {u : Option Value} (r : RelO o u) : o.isSome = u.isSome := by
  cases o with
  | none => cases u with
    | none => rfl
    | some _ => exact (show False from r).elim
  | some _ => cases u with
    | none => exact (show False from r).elim
    | some _ => rfl
theorem KV.val {kvs : List (κ × V)} {vs : List (κ × Value)} (r : KV kvs vs) (k : κ) : RelO (valV kvs k) (valueAt vs k) := by
  unfold KV at r
  induction r with
  | nil => exact True.intro
  | @cons p q ps qs h t ih =>
    obtain ⟨h1, h2⟩ := h
    by_cases e : p.1 = k
    · have e' : q.1 = k := h1.symm.trans e
      have b : valueAt (q :: qs) k = some q.2 := by simp [valueAt, List.find?_cons, e']
      rw [valV_pos e, b]; exact h2
    · have e' : ¬ q.1 = k := fun z => e (h1.trans z)
      have b : valueAt (q :: qs) k = valueAt qs k := by simp [valueAt, List.find?_cons, e']
      rw [valV_neg e, b]; exact ih
theorem KV.any {kvs : List (κ × V)} {vs : List (κ × Value)} (r : KV kvs vs) (k : κ) : (kvs.any fun kv => decide (kv.1 = k)) = vs.any fun kv => decide (kv.1 = k) := by
  unfold KV at r
  induction r with
  | nil => rfl
  | cons h t ih => rw [List.any_cons, List.any_cons, ih, h.1]
theorem KV.repl {kvs : List (κ × V)} {vs : List (κ × Value)} (r : KV kvs vs) (k : κ) {y : V} {u : Value} (ry : RelV y u) :
    KV (kvs.map fun kv => if kv.1 = k then (kv.1, y) else kv) (vs.map fun kv => if kv.1 = k then (kv.1, u) else kv) := by
  unfold KV at r ⊢
  induction r with
  | nil => exact .nil
  | @cons p q ps qs h t ih =>
    rw [List.map_cons, List.map_cons]
    refine .cons ?_ ih
    obtain ⟨h1, h2⟩ := h
    by_cases e : p.1 = k
    · rw [if_pos e, if_pos (h1.symm.trans e)]; exact ⟨h1, ry⟩
    · rw [if_neg e, if_neg (fun z => e (h1.trans z))]; exact ⟨h1, h2⟩
theorem KV.put {kvs : List (κ × V)} {vs : List (κ × Value)} (r : KV kvs vs) (k : κ) {y : V} {u : Value} (ry : RelV y u) : KV (putK kvs k y) (stored vs k u) := by
  unfold putK stored
  rw [r.any k]
  by_cases e : (vs.any fun kv => decide (kv.1 = k)) = true
  · rw [if_pos e, if_pos e]; exact r.repl k ry
  · rw [if_neg e, if_neg e]; exact Paired.snoc r ⟨rfl, ry⟩
theorem KV.keys {kvs : List (κ × V)} {vs : List (κ × Value)} (r : KV kvs vs) : kvs.map (·.1) = vs.map (·.1) := by
  unfold KV at r
  induction r with
  | nil => rfl
  | cons h t ih => rw [List.map_cons, List.map_cons, ih, h.1]
theorem KV.length {kvs : List (κ × V)} {vs : List (κ × Value)} (r : KV kvs vs) : kvs.length = vs.length := Paired.length r
end
theorem kV_is {P : Program} {w : World} {k : Key} {u : Value} (r : RelV (kV k) u) : (mixKind P w).is k u = true := by
  cases k with
  | inl i => obtain ⟨t, e⟩ := (show ∃ t, u = Value.int i t from r); subst e; exact mixKind_int P w i t
  | inr x => obtain ⟨t, e⟩ := (show ∃ t, u = Value.str x t from r); subst e; exact mixKind_str P w x t
theorem items_are {P : Program} {w : World} : ∀ {ks : List Key} {us : List Value}, Vals (ks.map kV) us → ItemsAre (mixKind P w) ks us
  | [], _, r => by rw [List.map_nil] at r; cases r; exact .nil
  | k :: ks, _, r => by
    rw [List.map_cons] at r
    cases r with
    | cons h t => exact .cons (kV_is h) (items_are t)
abbrev KT (H : Hp) : List (List Key × V) → List (List Key × Addr × Value) → Prop := Paired fun p q => p.1 = q.1 ∧ H q.2.1 = some (.tup (p.1.map kV)) ∧ RelV p.2 q.2.2
theorem KT.val {H : Hp} {kvs : List (List Key × V)} {xs : List (List Key × Addr × Value)} (r : KT H kvs xs) (k : List Key) : RelO (valV kvs k) ((atKey xs k).map (·.2)) := by
  induction r with
  | nil => exact True.intro
  | @cons p q ps qs h t ih =>
    obtain ⟨h1, _, h2⟩ := h
    by_cases e : p.1 = k
    · have e' : q.1 = k := h1.symm.trans e
      have b : atKey (q :: qs) k = some q.2 := by simp [atKey, List.find?_cons, e']
      rw [valV_pos e, b]; exact h2
    · have e' : ¬ q.1 = k := fun z => e (h1.trans z)
      have b : atKey (q :: qs) k = atKey qs k := by simp [atKey, List.find?_cons, e']
      rw [valV_neg e, b]; exact ih
theorem KT.repl {H : Hp} {kvs : List (List Key × V)} {xs : List (List Key × Addr × Value)} (r : KT H kvs xs) (k : List Key) {y : V} {u : Value} (ry : RelV y u) :
    KT H (kvs.map fun kv => if kv.1 = k then (kv.1, y) else kv) (xs.map (putAt k u)) := by
  induction r with
  | nil => exact .nil
  | @cons p q ps qs h t ih =>
    rw [List.map_cons, List.map_cons]
    refine .cons ?_ ih
    obtain ⟨h1, h2, h3⟩ := h
    unfold putAt
    by_cases e : p.1 = k
    · rw [if_pos e, if_pos (h1.symm.trans e)]; exact ⟨h1, h2, ry⟩
    · rw [if_neg e, if_neg (fun z => e (h1.trans z))]; exact ⟨h1, h2, h3⟩
theorem KT.put {H : Hp} {kvs : List (List Key × V)} {xs : List (List Key × Addr × Value)} (r : KT H kvs xs) (k : List Key) {b : Addr} {y : V} {u : Value} (hb : H b = some (.tup (k.map kV))) (ry : RelV y u) :
    KT H (putK kvs k y) (storedH xs k b u) := by
  have e : (kvs.any fun kv => decide (kv.1 = k)) = (atKey xs k).isSome := by
    rw [valV_any, (r.val k).isSome_eq, Option.isSome_map]
  unfold putK storedH
  rw [e]
  by_cases q : (atKey xs k).isSome = true
  · rw [if_pos q, if_pos q]; exact r.repl k ry
  · rw [if_neg q, if_neg q]; exact Paired.snoc r ⟨rfl, hb, ry⟩
theorem KT.keeps {H H' : Hp} {kvs : List (List Key × V)} {xs : List (List Key × Addr × Value)} (r : KT H kvs xs) (ht : ∀ b ys, H b = some (.tup ys) → H' b = some (.tup ys)) : KT H' kvs xs :=
  Paired.mapP r fun _ _ z => ⟨z.1, ht _ _ z.2.1, z.2.2⟩
section
variable {P : Program} {w : World} {H : Hp} {h : Heap} {a : Addr}
theorem rd_of {u : HO} (ok : HOk P w H h) (e : Rd H a u) : ObjOk P w H h a u := e.ok ok
theorem dk_rd {kvs : List (Key × V)} (ok : HOk P w H h) (e : Rd H a (.dK kvs)) : kvs.length ≤ sizeLine ∧ (a == sysModules) = false ∧ ∃ vs, KV kvs vs ∧ h.DictOf (mixKind P w) a vs :=
  show ObjOk P w H h a (.dK kvs) from rd_of ok e
theorem dk_of {kvs : List (Key × V)} (ok : HOk P w H h) (e : H a = some (.dK kvs)) : kvs.length ≤ sizeLine ∧ (a == sysModules) = false ∧ ∃ vs, KV kvs vs ∧ h.DictOf (mixKind P w) a vs := dk_rd ok (.inl e)
theorem key_of {ks : List Key} (ok : HOk P w H h) (e : H a = some (.tup (ks.map kV))) : (tupleKind (mixKind P w)).is h ks a := by
  obtain ⟨_, its, r, o, h1, h2, n, h3⟩ := (show ObjOk P w H h a (.tup (ks.map kV)) from ok a _ e)
  exact ⟨o, its.toArray, n, h1, h2, h3, by simpa using items_are r⟩
theorem dt_rd {kvs : List (List Key × V)} (ok : HOk P w H h) (e : Rd H a (.dT kvs)) : kvs.length ≤ sizeLine ∧ (a == sysModules) = false ∧
    ∃ xs, KT H kvs xs ∧ h.DictOfH (tupleKind (mixKind P w)) a xs := by
  obtain ⟨z, y, xs, r, o, es, ep, h1, h2, h3, h4, h5⟩ := (show ObjOk P w H h a (.dT kvs) from rd_of ok e)
  refine ⟨z, y, xs, r, o, es, ep, h1, h2, h3, h4, fun x hx => ?_, h5⟩
  have all : ∀ {l : List (List Key × V)} {m : List (List Key × Addr × Value)}, KT H l m → ∀ x ∈ m, (tupleKind (mixKind P w)).is h x.1 x.2.1 := by
    intro l m q
    induction q with
    | nil => intro x hx; exact nomatch hx
    | @cons p q ps qs hq t ih =>
      intro x hx
      rcases List.mem_cons.mp hx with e | hx
      · subst e
        exact key_of ok (by rw [← hq.1]; exact hq.2.1)
      · exact ih x hx
  exact all r x hx
theorem dt_of {kvs : List (List Key × V)} (ok : HOk P w H h) (e : H a = some (.dT kvs)) : kvs.length ≤ sizeLine ∧ (a == sysModules) = false ∧
    ∃ xs, KT H kvs xs ∧ h.DictOfH (tupleKind (mixKind P w)) a xs := dt_rd ok (.inl e)
end
def DGet (H : Hp) (a : Addr) (y : V) (r : Option V) : Prop :=
  (∃ kvs k, Rd H a (.dK kvs) ∧ y = kV k ∧ r = valV kvs k) ∨ ∃ kvs k b, Rd H a (.dT kvs) ∧ y = .ref b ∧ H b = some (.tup (k.map kV)) ∧ r = valV kvs k
def DPut (H : Hp) (a : Addr) (y v : V) (H' : Hp) : Prop :=
  (∃ kvs k, H a = some (.dK kvs) ∧ y = kV k ∧ kvs.length < sizeLine ∧ H' = upd H a (.dK (putK kvs k v))) ∨
  ∃ kvs k b, H a = some (.dT kvs) ∧ y = .ref b ∧ H b = some (.tup (k.map kV)) ∧ kvs.length < sizeLine ∧ H' = upd H a (.dT (putK kvs k v))
theorem DGet.k {H : Hp} {a : Addr} {kvs : List (Key × V)} {k : Key} (e : H a = some (.dK kvs)) : DGet H a (kV k) (valV kvs k) := .inl ⟨kvs, k, .inl e, rfl, rfl⟩
theorem DPut.k {H : Hp} {a : Addr} {kvs : List (Key × V)} {k : Key} {v : V} (e : H a = some (.dK kvs)) (hl : kvs.length < sizeLine) : DPut H a (kV k) v (upd H a (.dK (putK kvs k v))) := .inl ⟨kvs, k, e, rfl, hl, rfl⟩
section
variable {X : Cx} {pins : List (Addr × Obj)} {σ : St} {H : Hp} {s : Shared} {a : Addr} {y v : V} {u r : Value} {o : Option V} {A : Around} {E : Value → Shared → Prop}
theorem Inv.big (I : Inv X pins σ H s) : sysModules < s.heap.objs.size := by
  have h : mainGlobals < s.heap.objs.size := (I.mod.glob.keeps I.bk).lt
  exact Nat.lt_trans (by decide) h
theorem d_getItem {Q : Value → Shared → Prop} (hu : A.units + 1 < cLine) (I : Inv X pins σ H s) (g : DGet H a y (some v)) (ry : RelV y u) (h : ∀ w' s', Inv X pins σ H s' → RelV v w' → Q w' s') :
    wpAny (model X.prog X.w) A (getItem (.ref a) u) Q E s := by
  rcases g with ⟨kvs, k, e, ey, l⟩ | ⟨kvs, k, b, e, ey, eb, l⟩
  · subst ey
    obtain ⟨z, hd, vs, rel, dd⟩ := dk_rd I.hok e
    obtain ⟨w', hw, rw'⟩ := RelO.some_of (v := v) (o := valueAt vs k) (by rw [l]; exact rel.val k)
    exact wpAny_getItem_of (kV_is ry) dd.mapOf hw (h w' _ (I.tok _) rw')
  · subst ey
    cases (show u = Value.ref b from ry)
    obtain ⟨z, hd, xs, rel, dd⟩ := dt_rd I.hok e
    obtain ⟨w', hw, rw'⟩ := RelO.some_of (v := v) (o := (atKey xs k).map (·.2)) (by rw [l]; exact rel.val k)
    obtain ⟨p, hp, hp2⟩ := Option.map_eq_some_iff.mp hw
    refine wpAny_getItem_heap (tupleKind_room_in1 hu) (key_of I.hok eb) dd hp ?_
    rw [hp2]
    exact h w' _ (I.tok _) rw'
theorem d_in {Q : Value → Shared → Prop} (hu : A.units + 1 < cLine) (I : Inv X pins σ H s) (g : DGet H a y o) (ry : RelV y u) (h : ∀ s', Inv X pins σ H s' → Q (.bool o.isSome) s') :
    wpAny (model X.prog X.w) A (compareOp .In u (.ref a)) Q E s := by
  rcases g with ⟨kvs, k, e, ey, l⟩ | ⟨kvs, k, b, e, ey, eb, l⟩
  · subst ey
    obtain ⟨z, hd, vs, rel, dd⟩ := dk_rd I.hok e
    refine wpAny_in_of (kV_is ry) hd dd.mapOf ?_
    rw [← (rel.val k).isSome_eq, ← l]
    exact h _ (I.tok _)
  · subst ey
    cases (show u = Value.ref b from ry)
    obtain ⟨z, hd, xs, rel, dd⟩ := dt_rd I.hok e
    refine wpAny_in_heap (tupleKind_room_in1 hu) (key_of I.hok eb) hd dd ?_
    have q := (rel.val k).isSome_eq
    rw [Option.isSome_map] at q
    rw [← q, ← l]
    exact h _ (I.tok _)
theorem d_notIn {Q : Value → Shared → Prop} (hu : A.units + 1 < cLine) (I : Inv X pins σ H s) (g : DGet H a y o) (ry : RelV y u) (h : ∀ s', Inv X pins σ H s' → Q (.bool (!o.isSome)) s') :
    wpAny (model X.prog X.w) A (compareOp .NotIn u (.ref a)) Q E s := by
  rcases g with ⟨kvs, k, e, ey, l⟩ | ⟨kvs, k, b, e, ey, eb, l⟩
  · subst ey
    obtain ⟨z, hd, vs, rel, dd⟩ := dk_rd I.hok e
    refine wpAny_notIn_of (kV_is ry) hd dd.mapOf ?_
    rw [← (rel.val k).isSome_eq, ← l]
    exact h _ (I.tok _)
  · subst ey
    cases (show u = Value.ref b from ry)
    obtain ⟨z, hd, xs, rel, dd⟩ := dt_rd I.hok e
    refine wpAny_notIn_heap (tupleKind_room_in1 hu) (key_of I.hok eb) hd dd ?_
    have q := (rel.val k).isSome_eq
    rw [Option.isSome_map] at q
    rw [← q, ← l]
    exact h _ (I.tok _)
theorem d_write {h' : Heap} {t' : Nat} {ob : HO} (I : Inv X pins σ H s) (mu : Mut (H a)) (hs : Heap.SameBut a s.heap h') (he : ∃ q, h'.get? a = some q) (new : ObjOk X.prog X.w (upd H a ob) h' a ob) :
    Inv X pins σ (upd H a ob) { s with heap := h', toks := t' } :=
  I.write (x := a) (e := a) mu (.inl rfl) (fun b q hb z => (hs.2 b hb).trans z) he new
theorem dk_new {P : Program} {w : World} {H' : Hp} {h' : Heap} {kvs : List (Key × V)} {vs : List (Key × Value)} (z : kvs.length ≤ sizeLine) (hd : (a == sysModules) = false) (rel : KV kvs vs) (dd : h'.DictOf (mixKind P w) a vs) :
    ObjOk P w H' h' a (.dK kvs) := ⟨z, hd, vs, rel, dd⟩
theorem d_setItem {H' : Hp} {Q : Unit → Shared → Prop} (hu : A.units + 1 < cLine) (I : Inv X pins σ H s) (g : DPut H a y v H') (ry : RelV y u) (rv : RelV v r) (h : ∀ s', Inv X pins σ H' s' → Q () s') :
    wpAny (model X.prog X.w) A (setItem (.ref a) u r) Q E s := by
  rcases g with ⟨kvs, k, e, ey, l, eH⟩ | ⟨kvs, k, b, e, ey, eb, l, eH⟩
  · subst ey eH
    obtain ⟨z, hd, vs, rel, dd⟩ := dk_of I.hok e
    have hz : vs.length ≤ sizeLine := by rw [← rel.length]; exact z
    have hl : (putK kvs k v).length ≤ sizeLine := by have := length_putK kvs k v; omega
    refine wpAny_setItem_pairs (hsz := hz) (kV_is ry) dd fun h' dd' hs => h _ ?_
    have he : ∃ q, h'.get? a = some q := let ⟨q, _, _, hq, _⟩ := dd'; ⟨q, hq⟩
    exact d_write I (by rw [e]; exact True.intro) hs he (dk_new hl hd (rel.put k rv) dd')
  · subst ey eH
    cases (show u = Value.ref b from ry)
    obtain ⟨z, hd, xs, rel, dd⟩ := dt_of I.hok e
    have hz : xs.length ≤ sizeLine := by rw [← Paired.length rel]; exact z
    have hl : (putK kvs k v).length ≤ sizeLine := by have := length_putK kvs k v; omega
    refine wpAny_setItem_heap (hsz := hz) (tupleKind_room_in1 hu) (key_of I.hok eb) dd fun h' dd' hs => h _ ?_
    obtain ⟨q, es, ep, hq, h2, h3, h4, _, h5⟩ := dd'
    refine d_write I (by rw [e]; exact True.intro) hs ⟨q, hq⟩ ⟨hl, hd, _, (rel.put k eb rv).keeps fun c ys ec => ?_, q, es, ep, hq, h2, h3, h4, h5⟩
    rw [upd_ne (ne_of ec e (fun z => nomatch z))]
    exact ec
end
section
variable {X : Cx} {pins : List (Addr × Obj)} {σ : St} {H : Hp} {s : Shared} {a : Addr} {kvs : List (Key × V)} {k : Key} {u : Value} {A : Around} {E : Value → Shared → Prop}
theorem d_len {Q : Value → Shared → Prop} (I : Inv X pins σ H s) (e : Rd H a (.dK kvs)) (h : ∀ t s', Inv X pins σ H s' → Q (.int kvs.length t) s') : wpAny (model X.prog X.w) A (call (.builtin "len") [.ref a]) Q E s := by
  obtain ⟨z, hd, vs, rel, dd⟩ := dk_rd I.hok e
  refine call_len_dict hd dd (by rw [← rel.length]; rw [sizeLine_eq] at z; omega) ?_
  rw [← rel.length]
  exact h _ _ (I.tok _)
end
def NoSl (i : Expr) : Prop := ∀ ov iv, subscripted i false ov iv = operate [ov, iv] (getItem ov iv)
theorem subD_of {prog : Program} {w : World} {A : Around} {E : Value → Shared → Prop} {s : Shared} {env : Env} {value slice : Expr} {pos : Pos} {T id : String} {Q : Value → Shared → Prop}
    (hl : typeLookup (.type T) "__getitem__" = pure (some (.builtin id))) (hs : NoSl slice)
    (h : wpAny (model prog w) A (eval value env) (fun o s₁ => wpAny (model prog w) A (eval slice env) (fun i s₂ => s₂.TypeIs o T ∧ wpAny (model prog w) A (getItem o i) Q E s₂) E s₁) E s) :
    wpAny (model prog w) A (eval (.Subscript value slice pos) env) Q E s := by
  refine Subscript_ (wpAny_mono h (fun o s₁ h₁ => wpAny_mono h₁ (fun i s₂ h₂ => ?_) fun _ _ x => x) fun _ _ x => x)
  obtain ⟨hT, h₂⟩ := h₂
  unfold subscriptTail
  refine wpAny_bind ?_
  rw [getitemInPython_of_ne hT.not_modules]
  refine wpAny_bind (wpAny_specialOf hT hl ?_)
  have fin : wpAny (model prog w) A (subscripted slice false o i) (fun r s₃ => wpAny (model prog w) A (letTemporaryGo value o r >>= fun _ => pure r) Q E s₃) E s₂ := by
    rw [hs o i]
    exact wpAny_operating (wpAny_mono h₂ (fun r s₃ h₃ => wpAny_bind (wpAny_letTemporaryGo (wpAny_pure h₃))) fun _ _ x => x)
  first
    | exact wpAny_pure (wpAny_bind fin)
    | exact wpAny_bind (wpAny_pure (wpAny_bind fin))
    | exact wpAny_bind fin
theorem dict_typeIs {X : Cx} {pins : List (Addr × Obj)} {σ : St} {H : Hp} {s : Shared} {a : Addr} {y : V} {o : Option V} (I : Inv X pins σ H s) (g : DGet H a y o) : s.TypeIs (.ref a) "dict" := by
  rcases g with ⟨kvs, k, e, _, _⟩ | ⟨kvs, k, b, e, _, _, _⟩
  · obtain ⟨_, _, vs, _, dd⟩ := dk_rd I.hok e
    exact dd.typeIs
  · obtain ⟨_, _, xs, _, dd⟩ := dt_rd I.hok e
    exact dd.typeIs
def tDGet (td ty : TE) : TE := fun σ H Q => td σ H fun x H1 => ty σ H1 fun y H2 => ∃ a v, x = .ref a ∧ DGet H2 a y (some v) ∧ Q v H2
def tDIn (ty td : TE) : TE := fun σ H Q => ty σ H fun y H1 => td σ H1 fun x H2 => ∃ a o, x = .ref a ∧ DGet H2 a y o ∧ Q (.bl o.isSome) H2
def tDNotIn (ty td : TE) : TE := fun σ H Q => ty σ H fun y H1 => td σ H1 fun x H2 => ∃ a o, x = .ref a ∧ DGet H2 a y o ∧ Q (.bl (!o.isSome)) H2
def sDPut (td ty tv : TE) : TS := fun D σ H => tv σ H fun v H1 => td σ H1 fun x H2 => ty σ H2 fun y H3 => ∃ a H4, x = .ref a ∧ DPut H3 a y v H4 ∧ D.nx σ H4
section
variable {X : Cx} {o i e value : Expr} {pos pos' tpos : Pos} {td ty tv : TE}
theorem pe_dget (hu : X.A.units + 1 < cLine) (ho : PE X o td) (hi : PE X i ty) (hs : NoSl i) : PE X (.Subscript o i pos) (tDGet td ty) := by
  intro pins s σ H Q I h
  refine subD_of PySem.F.slot_dict_getitem.lookup hs (thn (ho pins s σ H _ I h) fun u s1 ⟨x, H1, I1, rx, q1⟩ => thn (hi pins s1 σ H1 _ I1 q1) fun iv s2 ⟨y, H2, I2, ry, a, v, ex, g, q2⟩ => ?_)
  subst ex
  obtain rfl : u = Value.ref a := rx
  exact ⟨dict_typeIs I2 g, d_getItem hu I2 g ry fun w' s3 I3 rw' => ⟨v, H2, I3, rw', q2⟩⟩
theorem pc_din (hu : X.A.units + 1 < cLine) (hi : PE X i ty) (ho : PE X o td) : PC X .In i o (tDIn ty td) := by
  intro pins s σ H Q I h
  refine thn (hi pins s σ H _ I h) fun iv s1 ⟨y, H1, I1, ry, q1⟩ => thn (ho pins s1 σ H1 _ I1 q1) fun u s2 ⟨x, H2, I2, rx, a, ov, ex, g, q2⟩ => ?_
  subst ex
  obtain rfl : u = Value.ref a := rx
  exact d_in hu I2 g ry fun s3 I3 => ⟨.bl ov.isSome, H2, I3, rfl, q2⟩
theorem pc_dnotin (hu : X.A.units + 1 < cLine) (hi : PE X i ty) (ho : PE X o td) : PC X .NotIn i o (tDNotIn ty td) := by
  intro pins s σ H Q I h
  refine thn (hi pins s σ H _ I h) fun iv s1 ⟨y, H1, I1, ry, q1⟩ => thn (ho pins s1 σ H1 _ I1 q1) fun u s2 ⟨x, H2, I2, rx, a, ov, ex, g, q2⟩ => ?_
  subst ex
  obtain rfl : u = Value.ref a := rx
  exact d_notIn hu I2 g ry fun s3 I3 => ⟨.bl (!ov.isSome), H2, I3, rfl, q2⟩
theorem ps_dput (hu : X.A.units + 1 < cLine) (ho : PE X o td) (hi : PE X i ty) (hv : PE X value tv) (hs : swapsWith value (some (.Subscript o i pos')) pos.line X.env = pure false) :
    PS X (.Assign [.Subscript o i pos'] value pos) (sDPut td ty tv) := by
  intro pins s σ H D I h
  refine wpAny_Assign_Subscript (thn (hv pins s σ H _ I h) fun r s1 ⟨v, H1, I1, rv, q1⟩ => thn (ho pins s1 σ H1 _ I1 q1) fun u s2 ⟨x, H2, I2, rx, q2⟩ => thn (hi pins s2 σ H2 _ I2 q2) fun iv s3 ⟨y, H3, I3, ry, a, H4, ex, g, q3⟩ => ?_) hs
  subst ex
  obtain rfl : u = Value.ref a := rx
  exact d_setItem hu I3 g ry rv fun s4 I4 => ⟨σ, H4, I4, q3⟩
end
theorem dk_empty {P : Program} {w : World} {H : Hp} (h : Heap) (hb : sysModules < h.objs.size) : ObjOk P w H (h.push { cls := .type "dict", data := .dict #[] }) h.objs.size (.dK []) :=
  ⟨Nat.zero_le _, beq_eq_false_iff_ne.mpr (Ne.symm (Nat.ne_of_lt hb)), [], .nil, Heap.DictOf.new h⟩
def tDNewK : TE := fun _ H Q => ∀ p, H p = none → Q (.ref p) (upd H p (.dK []))
section
variable {X : Cx} {pos : Pos}
theorem pe_dnewK : PE X (.Dict [] [] pos) tDNewK := fun pins s σ H Q I h =>
  wpAny_Dict_empty ⟨.ref s.heap.objs.size, _, I.laid (a := s.heap.objs.size) (o := .dK []) (t' := s.toks) (fun _ _ q => Heap.get?_push_of_some _ q) (Nat.le_refl _) (dk_empty s.heap I.big), rfl, h _ (I.hok.fresh (Nat.le_refl _))⟩
end
def tPairs : List (TE × TE) → St → Hp → (List (V × V) → Hp → Prop) → Prop
  | [], _, H, Q => Q [] H
  | (tk, tv) :: r, σ, H, Q => tk σ H fun x H1 => tv σ H1 fun y H2 => tPairs r σ H2 fun ps H3 => Q ((x, y) :: ps) H3
abbrev VV : List (V × V) → List (Value × Value) → Prop := Paired fun p q => RelV p.1 q.1 ∧ RelV p.2 q.2
def PPs (X : Cx) (pos : Pos) (keys : List (Option Expr)) (values : List Expr) (trs : List (TE × TE)) : Prop :=
  ∀ (pins : List (Addr × Obj)) (s : Shared) (σ : St) (H : Hp) (Q : List (V × V) → Hp → Prop), Inv X pins σ H s → tPairs trs σ H Q →
    wpAny (model X.prog X.w) X.A (evalPairs (pairTrees keys values X.env pos)) (fun vs s' => ∃ ps H', Inv X pins σ H' s' ∧ VV ps vs ∧ Q ps H') X.xe s
theorem pps_nil {X : Cx} {pos : Pos} : PPs X pos [] [] [] := fun pins s σ H Q I h => pairTrees_nil_walk ⟨[], H, I, .nil, h⟩
theorem pps_cons {X : Cx} {pos : Pos} {k v : Expr} {ks : List (Option Expr)} {vs : List Expr} {tk tv : TE} {trs : List (TE × TE)} (hk : PE X k tk) (hv : PE X v tv) (hr : PPs X pos ks vs trs) :
    PPs X pos (some k :: ks) (v :: vs) ((tk, tv) :: trs) := fun pins s σ H Q I h =>
  pairTrees_cons_walk (thn (hk pins s σ H _ I h) fun u s1 ⟨x, H1, I1, rx, q1⟩ => thn (hv pins s1 σ H1 _ I1 q1) fun w2 s2 ⟨y, H2, I2, ry, q2⟩ =>
    thn (hr pins s2 σ H2 _ I2 q2) fun ws s3 ⟨ps, H3, I3, rel, q3⟩ => ⟨(x, y) :: ps, H3, I3, .cons ⟨rx, ry⟩ rel, q3⟩)
def mergeK (kvs more : List (Key × V)) : List (Key × V) := more.foldl (fun acc kv => putK acc kv.1 kv.2) kvs
theorem KV.merge : ∀ {more : List (Key × V)} {rs : List (Key × Value)} {kvs : List (Key × V)} {vs : List (Key × Value)}, KV more rs → KV kvs vs → KV (mergeK kvs more) (merged vs rs) := by
  intro more rs kvs vs r
  unfold KV at r
  induction r generalizing kvs vs with
  | nil => intro q; exact q
  | @cons p q ps qs h t ih =>
    intro r0
    have e : KV (putK kvs p.1 p.2) (stored vs q.1 q.2) := by
      have := r0.put p.1 h.2
      rw [← h.1]; exact this
    exact ih e
theorem length_mergeK : ∀ (more kvs : List (Key × V)), (mergeK kvs more).length ≤ kvs.length + more.length
  | [], kvs => by show kvs.length ≤ kvs.length + 0; omega
  | p :: r, kvs => by
    have h1 := length_mergeK r (putK kvs p.1 p.2)
    have h2 := length_putK kvs p.1 p.2
    show (mergeK (putK kvs p.1 p.2) r).length ≤ _
    rw [List.length_cons]; omega
theorem carries_of {P : Program} {w : World} : ∀ {kvs : List (Key × V)} {ws : List (Value × Value)}, VV (kvs.map fun kv => (kV kv.1, kv.2)) ws → ∃ rs, Carries (mixKind P w) ws rs ∧ KV kvs rs
  | [], _, r => by rw [List.map_nil] at r; cases r; exact ⟨[], True.intro, .nil⟩
  | p :: kvs, _, r => by
    rw [List.map_cons] at r
    cases r with
    | @cons a b as bs h t =>
      obtain ⟨rs, c, q⟩ := carries_of (P := P) (w := w) t
      obtain ⟨b1, b2⟩ := b
      exact ⟨(p.1, b2) :: rs, ⟨kV_is h.1, rfl, c⟩, .cons ⟨rfl, h.2⟩ q⟩
def tDisp (trs : List (TE × TE)) : TE := fun σ H Q => ∀ p, H p = none → tPairs trs σ (upd H p (.dK [])) fun ps H2 => H2 p = some (.dK []) ∧ ∃ kvs : List (Key × V), ps = kvs.map (fun kv => (kV kv.1, kv.2)) ∧ kvs.length ≤ 15 ∧ Q (.ref p) (upd H2 p (.dK (mergeK [] kvs)))
theorem pe_disp {X : Cx} {pos : Pos} {keys : List (Option Expr)} {values : List Expr} {trs : List (TE × TE)} (h : PPs X pos keys values trs) (hall : keys.all (·.isSome) = true) (hl : keys.length = values.length) (h0 : keys ≠ [])
    (h15 : keys.length ≤ 15) : PE X (.Dict keys values pos) (tDisp trs) := by
  intro pins s σ H Q I q
  have hn := I.hok.fresh (Nat.le_refl s.heap.objs.size)
  have I1 := I.laid (a := s.heap.objs.size) (o := .dK []) (h' := s.heap.push { cls := .type "dict", data := .dict #[] }) (t' := s.toks) (fun _ _ q => Heap.get?_push_of_some _ q) (Nat.le_refl _) (dk_empty s.heap I.big)
  refine wpAny_Dict_walk (knd := mixKind X.prog X.w) hall hl h0 h15 (thn (h pins _ σ _ _ I1 (q _ hn)) fun ws s2 ⟨ps, H2, I2, rel, e, kvs, ep, lk, q2⟩ => ?_)
  subst ep
  obtain ⟨rs, c, rk⟩ := carries_of (P := X.prog) (w := X.w) rel
  obtain ⟨z, hd, vs0, r0, dd⟩ := dk_of I2.hok e
  cases r0
  refine ⟨rs, c, dd, fun h' dd' hs => ⟨.ref s.heap.objs.size, _, ?_, rfl, q2⟩⟩
  have hz : (mergeK [] kvs).length ≤ sizeLine := by
    have h1 := length_mergeK kvs []
    rw [List.length_nil] at h1
    rw [sizeLine_eq]; omega
  have he : ∃ q, h'.get? s.heap.objs.size = some q := let ⟨q, _, _, hq, _⟩ := dd'; ⟨q, hq⟩
  exact d_write I2 (by rw [e]; exact True.intro) hs he (dk_new hz hd (rk.merge .nil) dd')
structure M1 (X : Cx) (o : Expr) (m : Str) (apos : Pos) (e : Expr) (cpos : Pos) : Prop where
  base : attributeBase o m X.env (eval o X.env) = eval o X.env
  few : ((backTo cpos (starEach [e] X.env)).all (fun x => !x.1) && (backToKw cpos (keywordEach [] X.env)).all (fun x => x.1.isSome)
    && decide (([e] : List Expr).length + ([] : List Keyword).length + (if ([] : List Keyword).isEmpty then 0 else 1) < 30)) = true
  line : (apos.endLine == cpos.line) = true
  trees : backTo cpos (starEach [e] X.env) = [(false, eval e X.env)]
structure M2 (X : Cx) (o : Expr) (m : Str) (apos : Pos) (e f : Expr) (cpos : Pos) : Prop where
  base : attributeBase o m X.env (eval o X.env) = eval o X.env
  few : ((backTo cpos (starEach [e, f] X.env)).all (fun x => !x.1) && (backToKw cpos (keywordEach [] X.env)).all (fun x => x.1.isSome)
    && decide (([e, f] : List Expr).length + ([] : List Keyword).length + (if ([] : List Keyword).isEmpty then 0 else 1) < 30)) = true
  line : (apos.endLine == cpos.line) = true
  trees : backTo cpos (starEach [e, f] X.env) = [(false, eval e X.env), (false, eval f X.env)]
section
variable {X : Cx} {pins : List (Addr × Obj)} {σ : St} {H : Hp} {s : Shared} {a : Addr} {y d : V} {u r : Value} {o : Option V} {A : Around} {E : Value → Shared → Prop}
end
section
variable {X : Cx} {o e f : Expr} {apos cpos : Pos} {td ty tx : TE}
end
section
variable {X : Cx} {pins : List (Addr × Obj)} {σ : St} {H : Hp} {s : Shared} {a : Addr} {kvs : List (Key × V)} {A : Around} {E : Value → Shared → Prop}
end
section
variable {X : Cx} {pins : List (Addr × Obj)} {σ : St} {H : Hp} {s : Shared} {a : Addr} {y : V} {u : Value} {A : Around} {E : Value → Shared → Prop}
end
end L2
namespace L2
open PySem PySem.Spec PyProof.Rows
section
variable {prog : Program} {w : World} {A : Around} {E : Value → Shared → Prop}
end
section
variable {X : Cx}
end
end L2
namespace L2
open PySem PySem.Spec PyProof.Rows
section
variable {X : Cx} {pins : List (Addr × Obj)} {σ : St} {H : Hp} {s : Shared} {h' : Heap}
theorem Inv.turnedL {t' : Nat} {ch : List Addr} (I : Inv X pins σ H s) (k : ∀ b o, b ∉ ch → s.heap.get? b = some o → h'.get? b = some o) (hf : ∀ b ∈ ch, FpOk X pins H b) : Inv X pins σ H { s with heap := h', toks := t' } := by
  have nit : ∀ b u, H b = some u → b ∉ ch := fun b u e z => by
    have q := (hf b z).1
    rw [q] at e; cases e
  refine I.step (g' := s.gens) (d' := s.drawn) (ch := ch) (fun b hb => ⟨(hf b hb).2.2.2.1, (hf b hb).2.1, (hf b hb).2.2.2.2.1, (hf b hb).2.2.2.2.2⟩) (fun b o _ _ hc e _ => k b o hc e) (fun b o _ _ hc e _ => ⟨o.slots, k b o hc e⟩)
    (fun _ _ _ _ n => n) (fun b o hc e => ⟨o, k b o hc e⟩) (fun _ _ e => e) (fun _ _ _ e => e) (fun b ps e => ⟨#[], by rw [e]; simp⟩) (fun m hm => ?_) (fun b u e => ?_) I.bare
  · obtain ⟨o, es, ep, ho, r⟩ := hm
    exact ⟨o, es, ep, k _ o (fun z => (hf _ z).2.1 rfl) ho, r⟩
  · refine (I.hok b u e).stay (fun c v hc q => k c v ?_ q) (fun _ q => q) fun _ _ q => q
    rcases hc with z | z
    · rw [z]; exact nit b u e
    · exact nit c _ z
theorem Inv.turnedNew {t' : Nat} {ch : List Addr} {T : Addr} {ob : HO} (I : Inv X pins σ H s) (k : ∀ b o, b ∉ ch → s.heap.get? b = some o → h'.get? b = some o) (hf : ∀ b ∈ ch, FpOk X pins H b) (hT : s.heap.objs.size ≤ T)
    (new : ObjOk X.prog X.w (upd H T ob) h' T ob) : Inv X pins σ (upd H T ob) { s with heap := h', toks := t' } := by
  have hn : H T = none := I.hok.fresh hT
  have nit : ∀ b u, H b = some u → b ∉ ch := fun b u e z => by
    have q := (hf b z).1
    rw [q] at e; cases e
  refine I.step (g' := s.gens) (d' := s.drawn) (ch := ch) (fun b hb => ⟨(hf b hb).2.2.2.1, (hf b hb).2.1, (hf b hb).2.2.2.2.1, (hf b hb).2.2.2.2.2⟩) (fun b o _ _ hc e _ => k b o hc e) (fun b o _ _ hc e _ => ⟨o.slots, k b o hc e⟩)
    (fun b o _ e n => ?_) (fun b o hc e => ⟨o, k b o hc e⟩) (fun b xs e => ?_) (fun b o u e => ?_) (fun b ps e => ⟨#[], ?_⟩) (fun m hm => ?_) (fun b u e => ?_) I.bare
  · rw [upd_ne (Nat.ne_of_lt (Nat.lt_of_lt_of_le (Heap.lt_size e) hT))]; exact n
  · rw [upd_ne (ne_of_none e hn)]; exact e
  · rw [upd_ne (ne_of_none e hn)]; exact e
  · rw [upd_ne (ne_of_none e hn), e]; simp
  · obtain ⟨o, es, ep, ho, r⟩ := hm
    exact ⟨o, es, ep, k _ o (fun z => (hf _ z).2.1 rfl) ho, r⟩
  · by_cases hb : b = T
    · subst hb
      rw [upd_same] at e
      cases e
      exact new
    · rw [upd_ne hb] at e
      refine (I.hok b u e).stay (fun c v hc q => k c v ?_ q) (fun c q => by rw [upd_ne (ne_of_none q hn)]; exact q) fun c xs q => by rw [upd_ne (ne_of_none q hn)]; exact q
      rcases hc with z | z
      · rw [z]; exact nit b u e
      · exact nit c _ z
end
section
variable {X : Cx}
end
section
variable {X : Cx} {tg : Expr}
end
section
variable {X : Cx} {tg : Expr}
end
section
variable {prog : Program} {w : World} {A : Around} {E : Value → Shared → Prop} {s : Shared}
end
section
variable {X : Cx} {pins : List (Addr × Obj)} {σ : St} {H : Hp} {s : Shared} {d : Addr} {o : Obj}
end
section
variable {P : Program} {w : World} {K : PySem.W.Frag} {tg : Expr} {d : Addr} {o : Obj} {es : Array DictEntry} {ep : Nat}
end
section
variable {X : Cx} {tg e : Expr} {td : TE} {apos cpos : Pos}
end
theorem boot_zip5 : bootBuiltins "zip" = some (.type "zip") := by decide +kernel
def Itz (K : PySem.W.Frag) (a b : Addr) : It :=
  ⟨fun i H => ∃ (xs ys : List V) (x y : V), SqL K H a xs ∧ SqL K H b ys ∧ xs[i]? = some x ∧ ys[i]? = some y,
    fun i H v H' => ∃ T x y, v = .ref T ∧ H T = none ∧ H' = upd H T (.tup [x, y]) ∧ (∀ xs, SqL K H a xs → xs[i]? = some x) ∧ ∀ ys, SqL K H b ys → ys[i]? = some y,
    fun i H => ∃ xs ys : List V, SqL K H a xs ∧ SqL K H b ys ∧ (xs.length ≤ i ∨ ys.length ≤ i)⟩
theorem turn_zip {P : Program} {w : World} {K : PySem.W.Frag} {elts : List Expr} {kk : Nat} {tpos : Pos} {a b z TI TO i1 i2 : Addr} (D : ZipApart z TI TO i1 i2 a b) :
    Turn P w K (.Tuple elts kk tpos) (Itz K a b) [z, TI, TO, i1, i2] z (fun i h => IsZip h z TI TO .none ∧ IsPair h TI (.ref i1) (.ref i2) ∧ (∃ x y, IsPair h TO x y) ∧ h.IsListIter i1 a i ∧ h.IsListIter i2 b i) where
  mem := by simp
  obj := fun i h st c hc => by
    obtain ⟨hz, hTI, ⟨x, y, hTO⟩, ⟨o1, e1, _, d1⟩, ⟨o2, e2, _, d2⟩⟩ := st
    have e' : c = z ∨ c = TI ∨ c = TO ∨ c = i1 ∨ c = i2 := by simpa using hc
    rcases e' with q | q | q | q | q
    · rw [q]; exact ⟨_, hz, fun v q => nomatch q⟩
    · rw [q]; exact ⟨_, hTI, fun v q => nomatch q⟩
    · rw [q]; exact ⟨_, hTO, fun v q => nomatch q⟩
    · rw [q]; exact ⟨o1, e1, fun v q => by rw [d1] at q; cases q⟩
    · rw [q]; exact ⟨o2, e2, fun v q => by rw [d2] at q; cases q⟩
  keep := fun i h h' st k => by
    obtain ⟨hz, hTI, ⟨x, y, hTO⟩, h1, h2⟩ := st
    exact ⟨k z (by simp) _ hz, k TI (by simp) _ hTI, ⟨x, y, k TO (by simp) _ hTO⟩, h1.at fun o q => k i1 (by simp) o q, h2.at fun o q => k i2 (by simp) o q⟩
  item := by
    intro X hP hw hK hc i pins s σ H E I hf st hg
    subst hP hw hK
    obtain ⟨hz, hTI, ⟨x0, y0, hTO⟩, h1, h2⟩ := st
    obtain ⟨xs, ys, x, y, hqx, hqy, hx, hy⟩ := hg
    obtain ⟨its, rv, p, _⟩ := I.list hqx
    obtain ⟨its2, rv2, p2, _⟩ := I.list hqy
    obtain ⟨u, hu, ru⟩ := rv.get hx
    obtain ⟨u2, hu2, ru2⟩ := rv2.get hy
    have hzl : z < s.heap.objs.size := Heap.lt_size hz
    refine wpAny_pyNext_zip_item D hz hTI hTO h1 h2 p.isList p2.isList (x := u) (y := u2) (by simpa using hu) (by simpa using hu2) fun h' z' TO' h1' h2' hT hsz hk => ?_
    refine ⟨_, rfl, wpAny_letOwnedTupleGo_zip (s := { s with heap := h' }) z' fun h'' z'' sb => ?_⟩
    have hT2 : h''.get? s.heap.objs.size = some { cls := .type "tuple", data := .seq #[u, u2] } := (sb.2 _ (Nat.ne_of_gt hzl)).trans hT
    have new : ObjOk X.prog X.w (upd H s.heap.objs.size (.tup [x, y])) h'' s.heap.objs.size (.tup [x, y]) :=
      ⟨by show 2 ≤ sizeLine; decide, [u, u2], .cons ru (.cons ru2 .nil), ⟨_, hT2, rfl, _, rfl⟩⟩
    have I1 : Inv X pins σ (upd H s.heap.objs.size (.tup [x, y])) { s with heap := h'' } :=
      I.turnedNew (t' := s.toks) (ch := [z, TI, TO, i1, i2]) (fun c o hb q => (sb.2 c (fun q' => hb (by simp [q']))).trans (hk c o (fun q' => hb (by simp [q'])) (fun q' => hb (by simp [q'])) (fun q' => hb (by simp [q'])) (fun q' => hb (by simp [q'])) q)) hf (Nat.le_refl _) new
    refine ⟨.ref s.heap.objs.size, _, I1, rfl, ⟨_, x, y, rfl, I.hok.fresh (Nat.le_refl _), rfl, fun l hl => by rw [I.list_inj hl hqx]; exact hx, fun l hl => by rw [I.list_inj hl hqy]; exact hy⟩, ⟨z'', ?_, ⟨u, u2, ?_⟩, ?_, ?_⟩, fun c hcm => ?_⟩
    · exact (sb.2 _ D.TIz).trans (hk _ _ D.TIz D.TITO D.TIi1 D.TIi2 hTI)
    · exact (sb.2 _ D.TOz).trans TO'
    · exact h1'.at fun o q => (sb.2 _ D.i1z).trans q
    · exact h2'.at fun o q => (sb.2 _ D.i2z).trans q
    · have hlt : c < s.heap.objs.size := by
        have e' : c = z ∨ c = TI ∨ c = TO ∨ c = i1 ∨ c = i2 := by simpa using hcm
        rcases e' with q | q | q | q | q
        · rw [q]; exact hzl
        · rw [q]; exact Heap.lt_size hTI
        · rw [q]; exact Heap.lt_size hTO
        · rw [q]; obtain ⟨_, e1, _⟩ := h1; exact Heap.lt_size e1
        · rw [q]; obtain ⟨_, e2, _⟩ := h2; exact Heap.lt_size e2
      rw [upd_ne (Nat.ne_of_lt hlt)]
      exact (hf c hcm).1
  done := by
    intro X hP hw hK hc i pins s σ H E I hf st hg
    subst hP hw hK
    obtain ⟨hz, hTI, ⟨x0, y0, hTO⟩, h1, h2⟩ := st
    obtain ⟨xs, ys, hqx, hqy, hend⟩ := hg
    obtain ⟨its, rv, p, _⟩ := I.list hqx
    obtain ⟨its2, rv2, p2, _⟩ := I.list hqy
    have l1 := rv.length
    have l2 := rv2.length
    have he : its.toArray[i]? = none ∨ its2.toArray[i]? = none := by
      rcases hend with q | q
      · exact .inl (by simp; omega)
      · exact .inr (by simp; omega)
    exact wpAny_pyNext_zip_end (I.ok.hd hc) D hz hTI hTO h1 h2 p.isList p2.isList he fun h' hk => ⟨rfl, I.turnedL (t' := s.toks) (ch := [z, TI, TO, i1, i2]) (fun c o hb q =>
      hk c o (fun q' => hb (by simp [q'])) (fun q' => hb (by simp [q'])) (fun q' => hb (by simp [q'])) (fun q' => hb (by simp [q'])) q) hf⟩
  self := fun A i s Q E st h => wpAny_pyIter_zip st.1 h
def iZip (K : PySem.W.Frag) (ta : TA) : TI := fun σ H R => ta σ H fun vs H1 => ∃ a b xs ys, vs = [.ref a, .ref b] ∧ SqL K H1 a xs ∧ SqL K H1 b ys ∧ R (Itz K a b) H1
theorem pi_zip {X : Cx} {e e2 : Expr} {ta : TA} {p pos tpos : Pos} {elts : List Expr} {kk : Nat} (hg : Gl X "zip") (hm : X.mg "zip" = none) (ha : PA X [e, e2] ta)
    (hs : starEach [e, e2] X.env = (false, eval e X.env) :: starEach [e2] X.env := by rfl) (hpl : (backTo pos (starEach [e2] X.env)).any (·.1) = false := by rfl) :
    PI X (.Tuple elts kk tpos) (.Call (.Name "zip" p) [e, e2] [] pos) (iZip X.K ta) := by
  intro pins s σ H R I h
  refine Call_ (ld_blt I hg hm boot_zip5 (PyProof.Rows.callWith_type1 (thn (ha pos pins s σ H _ I h) fun us s1 ⟨vs, H1, I1, r1, q1⟩ => ?_) hs hpl))
  obtain ⟨a, b, xs, ys, ex, hqx, hqy, q⟩ := q1
  subst ex
  cases r1 with
  | cons r rr =>
    cases rr with
    | cons r' rr =>
      cases rr
      cases r
      cases r'
      obtain ⟨its, rv, p1, _⟩ := I1.list hqx
      obtain ⟨its2, rv2, p2, _⟩ := I1.list hqy
      have la : a < s1.heap.objs.size := p1.lt
      have lb : b < s1.heap.objs.size := p2.lt
      refine call_zip_2 p1.isList p2.isList fun h' hz hTI hTO h1 h2 hsz hk => wpAny_pyIter_zip hz ?_
      have I2 : Inv X pins σ H1 { s1 with heap := h' } := I1.kept (t' := s1.toks) hk
      refine ⟨s1.heap.objs.size + 4, [s1.heap.objs.size + 4, s1.heap.objs.size + 2, s1.heap.objs.size + 3, s1.heap.objs.size, s1.heap.objs.size + 1], _, _, H1, rfl, I2, turn_zip (PySem.W.ktu_apart s1.heap.objs.size a b la lb), ⟨hz, hTI, ⟨_, _, hTO⟩, h1, h2⟩, fun c hcm => ?_, q⟩
      have e' : c = s1.heap.objs.size + 4 ∨ c = s1.heap.objs.size + 2 ∨ c = s1.heap.objs.size + 3 ∨ c = s1.heap.objs.size ∨ c = s1.heap.objs.size + 1 := by simpa using hcm
      have hle : s1.heap.objs.size ≤ c := by
        rcases e' with z | z | z | z | z
        · rw [z]; exact Nat.le_add_right _ _
        · rw [z]; exact Nat.le_add_right _ _
        · rw [z]; exact Nat.le_add_right _ _
        · rw [z]; exact Nat.le_refl _
        · rw [z]; exact Nat.le_add_right _ _
      exact I1.fpOk hle (I1.hok.fresh hle)
end L2
section 
namespace Bits
open PySem PyProof.Rows
end Bits
end 
section 
namespace TL
open PySem PySem.Builtin PySem.Builtin.Str PySem.StrLaws
abbrev tl (x : Str) : List Nat := x.cps.toList
end TL
end 
namespace L2
open PySem PySem.Spec PyProof.Rows
section
variable {X : Cx} {pins : List (Addr × Obj)} {σ : St} {H : Hp} {s : Shared} {Q : VK}
end
section
variable {X : Cx}
end
section
variable {X : Cx} {o e : Expr} {to te : TE}
end
end L2
namespace L2
open PySem PySem.Spec PyProof.Rows
section
variable {X : Cx}
end
end L2
namespace Att
open PySem PySem.W PySem.Calls PyProof.Rows
section
variable {prog : Program} {w : World} {A : Around} {E : Value → Shared → Prop} {s : Shared} {K : Frag}
end
end Att
namespace L2
open PySem PySem.Spec PyProof.Rows
end L2
namespace L2
open PySem PySem.Spec PyProof.Rows
abbrev KOf {K : PySem.W.Frag} {h : Heap} (_ : K.In h) : PySem.W.Frag := K
end L2
/- THE LAST THEOREM (shape; LID, My.* are yours):
   My.Adr: a structure of the addresses that your layer names (classes, functions); My.Txt K t: a structure (Prop) of the equations over K;
   My.txt_mk : {K} {implicit addresses ..} (e1 : nsIn K mainGlobals "law" = some (some (.ref f))) (e2 : K.lookup f = some ⟨oc, od, .func (fnOf "law" "law" params body scope dV kV doc pm an cdv ct), sl⟩) (e3 : codeIn K cdv "law" = true) .. : ∃ t, My.Txt K t

set_option maxRecDepth 100000 in
set_option maxHeartbeats 0 in
theorem PySem.Challenge.cw_LID_holds : PySem.Challenge.rw_LID.Holds := by
  w_on; o_law; k_head; (case hw => w_witness2)
  k_fill
  refine L2.walk_of (l := PySem.Challenge.rw_LID) (n := 63) (k := 40) (x := "script") (CX := fun w => ..) (sp := fun _ => My.sp_law) rfl (by decide) rfl ⟨rfl, by decide, by decide⟩ (fun w h Y => PySem.W.kIn_of Y) ?F ?S ?C
  case F =>
    intro w mg fa h KX G hmg
    have T : ∃ t, My.Txt (L2.KOf KX) t := by
      dsimp only [L2.KOf]                          -- K must stand as «<heap const> w.params» for k_is
      refine' My.txt_mk ?e1 ?e2 ?e3 ..
      (case e1 => PySem.W.k_is)                    -- in the order: a name -> its address -> its object -> its parts
      (case e2 => PySem.W.k_is)
      ..
    obtain ⟨t, T⟩ := T
    have e0 := hmg.symm.trans (PySem.W.mg_of KX G T.law)
    cases e0                                       -- fa is the law's own address
    exact ⟨_, fun s u => .of_eq rfl, fun base kb nb => My.law_fn T kb nb⟩     -- if «.of_eq rfl» comes too early: refine' ⟨_, ?b, fun base kb nb => My.law_fn T kb nb⟩; exact fun s u => .of_eq rfl
  case S => exact fun w H a ns hl hO hS => ..
  case C => exact ..
(the tactic k_is has no namespace: write k_is) -/
namespace L2
open PySem PySem.Spec PyProof.Rows
def inClass (s : Stmt) (j : Nat) : Stmt := match s with
  | .ClassDef _ _ _ body _ _ _ _ _ _ _ => body.getD j (.Pass ⟨0, 0, 0, 0⟩)
  | _ => .Pass ⟨0, 0, 0, 0⟩
def defArgs (s : Stmt) : Arguments := match s with
  | .FunctionDef _ a _ _ _ _ _ _ _ _ => a
  | _ => { posonlyargs := [], args := [], vararg := none, kwonlyargs := [], kw_defaults := [], kwarg := none, defaults := [] }
def defBody (s : Stmt) : List Stmt := match s with
  | .FunctionDef _ _ b _ _ _ _ _ _ _ => b
  | _ => []
def defScope (s : Stmt) : Scope := match s with
  | .FunctionDef _ _ _ _ _ _ sc _ _ _ => sc
  | _ => { kind := .function, names := [], isGenerator := false, isCoroutine := false }
abbrev CX0 : CXT := fun _ _ _ _ _ _ => False
abbrev E0 : XK := fun _ _ _ => False
theorem pass0 {X : Cx} : Passes CX0 X E0 := fun _ _ _ _ _ _ _ h => h.elim
structure Fun (K : PySem.W.Frag) (x qual : Str) (st : Stmt) (f : Addr) (fd : FuncData) : Prop where
  ex : ∃ (oc : Value) (od : Option Addr) (kV doc pm : Value) (an : Option Addr) (cdv ct : Value) (osl : Array (Option Value)),
    fd = PySem.W.fnOf x qual (defArgs st) (defBody st) (defScope st) .none kV doc pm an cdv ct ∧ K.lookup f = some ⟨oc, od, .func fd, osl⟩ ∧ PySem.W.codeIn K cdv qual = true
  kp : PySem.W.keepIn K (.ref f) = true
section
variable {P : Program} {w : World} {K : PySem.W.Frag} {mg : Str → Option Value} {base : Heap}
theorem Fun.ok {x qual : Str} {st : Stmt} {f : Addr} {fd : FuncData} {N ps : List Str} {k : Nat} {sp : Sp} (F : Fun K x qual st f fd) (S : FnScope N ps (defScope st)) (len : ∀ vs H Q E, sp vs H Q E → vs.length = ps.length)
    (hbody : ∀ (cdv : Value) (A : Around) (outer : List Env) (s : Shared) (H : Hp) (vs : List V) (Q : VK) (E : XK), Room k (A.deeper (envOfC qual (defScope st) s.heap.objs.size f cdv)) → sp vs H Q E →
      ∃ t, PSs (cxOf CX0 P w K mg base N qual (defScope st) f cdv A outer s H E).nox (defBody st) t ∧ t { nx := fun _ H' => Q .non H', rt := Q } (start N vs) H) : FnOk P w K mg base CX0 (k + 1) f fd ps sp := by
  obtain ⟨oc, od, kV, doc, pm, an, cdv, ct, osl, rfl, lk, hcd⟩ := F.ex
  refine fn_of lk hcd S len fun A outer s H vs Q E hr hsp => ?_
  obtain ⟨t, h, q⟩ := hbody cdv A outer s H vs Q E hr hsp
  exact ⟨t, h.nox, q⟩
theorem Fun.binds {x qual : Str} {st : Stmt} {f : Addr} {fd : FuncData} {ps : List Str} (F : Fun K x qual st f fd)
    (h : ∀ (kV doc pm : Value) (an : Option Addr) (cdv ct : Value) (us : List Value), us.length = ps.length → bindArgs (PySem.W.fnOf x qual (defArgs st) (defBody st) (defScope st) .none kV doc pm an cdv ct) ⟨us, []⟩ = pure (ps.zip us)) : Binds K fd ps [] := by
  obtain ⟨oc, od, kV, doc, pm, an, cdv, ct, osl, rfl, lk, hcd⟩ := F.ex
  exact .all (h kV doc pm an cdv ct)
theorem fun_mk {x qual : Str} {st : Stmt} {f : Addr} {oc : Value} {od an : Option Addr} {osl : Array (Option Value)} {kV doc pm cdv ct : Value} (l : K.lookup f = some ⟨oc, od, .func (PySem.W.fnOf x qual (defArgs st) (defBody st) (defScope st) .none kV doc pm an cdv ct), osl⟩)
    (c : PySem.W.codeIn K cdv qual = true) (k : PySem.W.keepIn K (.ref f) = true) : Fun K x qual st f (PySem.W.fnOf x qual (defArgs st) (defBody st) (defScope st) .none kV doc pm an cdv ct) := ⟨⟨oc, od, kV, doc, pm, an, cdv, ct, osl, rfl, l, c⟩, k⟩
end
theorem hu_of {A : Around} {k : Nat} (hr : Room k A) : A.units + 1 < cLine := Nat.lt_of_le_of_lt (Nat.add_le_add_left (by decide : 1 ≤ 64) _) hr.units
section
variable {X : Cx}
theorem pv (i : Nat) {x : Str} {pos : Pos} (hN : X.N[i]? = some x := by rfl) (hv : Vis X.env.scope x := by first | exact Or.inl rfl | exact Or.inr (Or.inl rfl) | exact Or.inr (Or.inr rfl)) (hd : (x == ("__debug__" : Str)) = false := by decide)
    (hcd : (x == ("__classdict__" : Str)) = false := by decide) : PE X (.Name x pos) (tVar i) := pe_var hN hv hd hcd
theorem call_lenD : CallR X (.builtin "len") (fun xs H Q => ∃ a kvs, xs = [V.ref a] ∧ H a = some (.dK kvs) ∧ Q (.int kvs.length) H) := by
  intro pins s σ H xs us Q I r h
  obtain ⟨a, kvs, rfl, ha, q⟩ := h
  obtain ⟨u, rfl, ru⟩ := vals1 r
  cases ru
  exact d_len I (.inl ha) fun t s' I' => ⟨.int kvs.length, H, I', ⟨t, rfl⟩, q⟩
end
theorem iteF {A B : Prop} (h : B) : if false = true then A else B := by
  rw [if_neg Bool.false_ne_true]
  exact h
theorem iteT {A B : Prop} (h : A) : if true = true then A else B := by
  rw [if_pos rfl]
  exact h
def Same (H H' : Hp) : Prop := ∀ b o, H b = some o → H' b = some o
theorem Same.refl (H : Hp) : Same H H := fun _ _ h => h
theorem Same.trans {H H1 H2 : Hp} (a : Same H H1) (b : Same H1 H2) : Same H H2 := fun c o h => b c o (a c o h)
theorem Same.free {H H' : Hp} (e : Same H H') {l : Addr} (h : H' l = Option.none) : H l = Option.none := by
  cases q : H l with
  | none => rfl
  | some o =>
    rw [e l o q] at h
    cases h
theorem Same.seq {K : PySem.W.Frag} {H H' : Hp} {a : Addr} {xs : List V} (e : Same H H') (h : SqL K H a xs) : SqL K H' a xs := by
  rcases h with (h | ⟨o, h⟩) | h
  · exact .inl (.inl (e _ _ h))
  · exact .inl (.inr ⟨o, e _ _ h⟩)
  · exact .inr h
section
variable {κ : Type} [DecidableEq κ]
end
theorem at_of {xs : List V} {z : Int} {j : Nat} {v : V} (e : z = (j : Int)) (h : xs[j]? = some v) : atI xs z = some v := by
  rw [e]
  exact atI_nat h
end L2
end
section
set_option Elab.async false
set_option linter.all false
set_option maxRecDepth 100000
set_option maxHeartbeats 2000000
namespace L2
open PySem PySem.Spec PyProof.Rows
open PySem.W (WData Codec OpenSpec Well WellAll ReadsW ReadsAllW)
mutual
/-- x stands for the datum d, lists and tuples all the way -/
inductive Dw (K : PySem.W.Frag) (H : Hp) : V → WData → Prop
  | non : Dw K H .non .none
  | bl (b : Bool) : Dw K H (.bl b) (.bool b)
  | int (i : Int) : Dw K H (.int i) (.int i)
  | str (x : Str) : Dw K H (.str x) (.str x)
  | byt (b : Array UInt8) : Dw K H (.byt b) (.bytes b.toList)
  | lst {a : Addr} {xs : List V} {ds : List WData} : SqL K H a xs → DwAll K H xs ds → Dw K H (.ref a) (.list ds)
  | tup {a : Addr} {xs : List V} {ds : List WData} : SqT K H a xs → DwAll K H xs ds → Dw K H (.ref a) (.tuple ds)
inductive DwAll (K : PySem.W.Frag) (H : Hp) : List V → List WData → Prop
  | nil : DwAll K H [] []
  | cons {v : V} {vs : List V} {d : WData} {ds : List WData} : Dw K H v d → DwAll K H vs ds → DwAll K H (v :: vs) (d :: ds)
end
theorem dw_ints {K : PySem.W.Frag} {H : Hp} : ∀ ns : List Int, DwAll K H (ns.map V.int) (ns.map WData.int)
  | [] => .nil
  | n :: r => .cons (.int n) (dw_ints r)
theorem ints_dw {K : PySem.W.Frag} {H : Hp} : ∀ (ns : List Int) (xs : List V), DwAll K H xs (ns.map WData.int) → xs = ns.map V.int
  | [], xs, h => by
    cases h
    rfl
  | n :: r, xs, h => by
    cases h with
    | cons h1 h2 =>
      cases h1
      rw [ints_dw r _ h2] <;> rfl
section
variable {P : Program} {w : World} {K : PySem.W.Frag} {H : Hp} {h : Heap} {R : PySem.W.WRecords} {cl : Str → Option Addr}
theorem sqL_at {a : Addr} {xs : List V} (hok : HOk P w H h) (KX : K.In h) (q : SqL K H a xs) : ∃ (its : List Value) (o : Obj) (n : Nat), Vals xs its ∧ h.get? a = some o ∧ o.cls = .type "list" ∧ o.data = .seq its.toArray n := by
  rcases q with q | ⟨o, its, n, e, hc, _, hd, _, hv⟩
  · obtain ⟨_, its, n, hv, e⟩ := (show ObjOk P w H h a (.lst xs) from q.ok hok)
    exact ⟨its, _, n, hv, e, rfl, rfl⟩
  · exact ⟨its.toList, o, n, hv, KX _ _ e, hc, by simp [hd]⟩
theorem sqT_at {a : Addr} {xs : List V} (hok : HOk P w H h) (KX : K.In h) (q : SqT K H a xs) : ∃ (its : List Value) (o : Obj) (n : Nat), Vals xs its ∧ h.get? a = some o ∧ o.cls = .type "tuple" ∧ o.data = .seq its.toArray n := by
  rcases q with q | ⟨o, its, n, e, hc, hd, _, hv⟩
  · obtain ⟨_, its, hv, o, e, hc, n, hd⟩ := (show ObjOk P w H h a (.tup xs) from q.ok hok)
    exact ⟨its, o, n, hv, e, hc, hd⟩
  · exact ⟨its.toList, o, n, hv, KX _ _ e, hc, by simp [hd]⟩
mutual
theorem Dw.reads (hok : HOk P w H h) (KX : K.In h) : ∀ (d : WData) (v : V) (u : Value), Dw K H v d → RelV v u → ∃ as, ReadsW R cl h u d as
  | .none, _, _, x, r => by
    cases x
    cases r
    exact ⟨_, ReadsW.none⟩
  | .bool b, _, _, x, r => by
    cases x
    cases r
    exact ⟨_, ReadsW.bool b⟩
  | .int i, _, _, x, r => by
    cases x
    obtain ⟨t, rfl⟩ := r
    exact ⟨_, ReadsW.int i t⟩
  | .str s, _, _, x, r => by
    cases x
    obtain ⟨t, rfl⟩ := r
    exact ⟨_, ReadsW.str s t⟩
  | .bytes b, _, _, x, r => by
    cases x
    obtain ⟨t, rfl⟩ := r
    exact ⟨_, ReadsW.bytes _ t⟩
  | .list ds, _, _, x, r => by
    cases x with
    | lst hs ha =>
      cases r
      obtain ⟨its, o, n, rv, ho, hc, hd⟩ := sqL_at hok KX hs
      obtain ⟨as, hr⟩ := Dw.readsAll hok KX ds _ its ha rv
      exact ⟨_, ReadsW.list ho hc hd hr⟩
  | .tuple ds, _, _, x, r => by
    cases x with
    | tup hs ha =>
      cases r
      obtain ⟨its, o, n, rv, ho, hc, hd⟩ := sqT_at hok KX hs
      obtain ⟨as, hr⟩ := Dw.readsAll hok KX ds _ its ha rv
      exact ⟨_, ReadsW.tuple ho hc hd hr⟩
  | .float _, _, _, x, _ => by cases x
  | .dict _, _, _, x, _ => by cases x
  | .bytearray _, _, _, x, _ => by cases x
  | .set _, _, _, x, _ => by cases x
  | .frozenset _, _, _, x, _ => by cases x
  | .obj _ _, _, _, x, _ => by cases x
theorem Dw.readsAll (hok : HOk P w H h) (KX : K.In h) : ∀ (ds : List WData) (vs : List V) (us : List Value), DwAll K H vs ds → Vals vs us → ∃ as, ReadsAllW R cl h us ds as
  | [], _, _, x, r => by
    cases x
    cases r
    exact ⟨_, ReadsAllW.nil⟩
  | d :: ds, _, _, x, r => by
    cases x with
    | cons h1 h2 =>
      cases r with
      | cons r1 r2 =>
        obtain ⟨as, q1⟩ := Dw.reads hok KX d _ _ h1 r1
        obtain ⟨bs, q2⟩ := Dw.readsAll hok KX ds _ _ h2 r2
        exact ⟨_, ReadsAllW.cons q1 q2⟩
end
end
mutual
/-- data that a codec tells -/
def plW : WData → Bool
  | .none => true
  | .bool _ => true
  | .int _ => true
  | .str _ => true
  | .bytes _ => true
  | .list xs => plWs xs
  | .tuple xs => plWs xs
  | _ => false
def plWs : List WData → Bool
  | [] => true
  | x :: r => plW x && plWs r
end
theorem plWs_map {α : Type} {f : α → WData} (h : ∀ a, plW (f a) = true) : ∀ l : List α, plWs (l.map f) = true
  | [] => rfl
  | x :: r => by
    show (plW (f x) && plWs (r.map f)) = true
    rw [h x, plWs_map h r] <;> rfl
theorem pl_enc : ∀ (c : Codec) (a : c.denote), plW (c.enc a) = true
  | .unit, _ => rfl
  | .bool, _ => rfl
  | .int _ _, _ => rfl
  | .nat _ _, _ => rfl
  | .u8, _ => rfl
  | .bytes _ _, _ => rfl
  | .text _ _ _ _, _ => rfl
  | .list _ _ c, a => plWs_map (fun x => pl_enc c x) a
  | .pair c d, a => by
    show (plW (c.enc a.1) && (plW (d.enc a.2) && true)) = true
    rw [pl_enc c a.1, pl_enc d a.2] <;> rfl
  | .triple c d e, a => by
    show (plW (c.enc a.1) && (plW (d.enc a.2.1) && (plW (e.enc a.2.2) && true))) = true
    rw [pl_enc c a.1, pl_enc d a.2.1, pl_enc e a.2.2] <;> rfl
  | .option c, none => rfl
  | .option c, some x => pl_enc c x
theorem pl_encAll : ∀ (cs : List Codec) (a : Codec.denoteAll cs), plWs (Codec.encAll cs a) = true
  | [], _ => rfl
  | c :: cs, a => by
    show (plW (c.enc a.1) && plWs (Codec.encAll cs a.2)) = true
    rw [pl_enc c a.1, pl_encAll cs a.2] <;> rfl
theorem weight_mem : ∀ {xs : List WData} {d : WData}, d ∈ xs → d.weight ≤ WData.weightAll xs
  | [], d, h => absurd h (by simp)
  | x :: r, d, h => by
    show d.weight ≤ x.weight + 1 + WData.weightAll r
    rcases List.mem_cons.mp h with e | m
    · rw [e]
      omega
    · have z := weight_mem m
      omega
def toV : Value → V
  | .none => .non
  | .bool b => .bl b
  | .int i _ => .int i
  | .str x _ => .str x
  | .bytes b _ => .byt b
  | .ref a => .ref a
  | _ => .non
def OkU (A : List Addr) : Value → Prop
  | .none => True
  | .bool _ => True
  | .int _ _ => True
  | .str _ _ => True
  | .bytes _ _ => True
  | .ref a => a ∈ A
  | _ => False
theorem OkU.mono {A B : List Addr} (h : ∀ a ∈ A, a ∈ B) : ∀ {u : Value}, OkU A u → OkU B u := fun {u} x => by
  cases u with
  | ref a => exact h a x
  | none => trivial
  | bool b => trivial
  | int i t => trivial
  | str s t => trivial
  | bytes b t => trivial
  | _ => exact False.elim x
theorem relV_toV {A : List Addr} {u : Value} (x : OkU A u) : RelV (toV u) u := by
  cases u with
  | ref a => rfl
  | none => rfl
  | bool b => rfl
  | int i t => exact ⟨t, rfl⟩
  | str s t => exact ⟨t, rfl⟩
  | bytes b t => exact ⟨t, rfl⟩
  | _ => exact False.elim x
theorem vals_toV {A : List Addr} : ∀ {vs : List Value}, (∀ u ∈ vs, OkU A u) → Vals (vs.map toV) vs
  | [], _ => .nil
  | u :: r, h => .cons (relV_toV (h u (List.mem_cons_self ..))) (vals_toV fun x hx => h x (List.mem_cons_of_mem _ hx))
def ArgOb (h : Heap) (A : List Addr) (a : Addr) : Prop := ∃ vs : List Value, vs.length ≤ sizeLine ∧ (∀ u ∈ vs, OkU A u) ∧
  (h.get? a = some { cls := .type "list", data := .seq vs.toArray } ∨ h.get? a = some { cls := .type "tuple", data := .seq vs.toArray })
theorem ArgOb.mono {h : Heap} {A B : List Addr} {a : Addr} (k : ∀ a ∈ A, a ∈ B) (x : ArgOb h A a) : ArgOb h B a := by
  obtain ⟨vs, h1, h2, h3⟩ := x
  exact ⟨vs, h1, fun u hu => (h2 u hu).mono k, h3⟩
theorem wellAll_len {P : Params} {h : Heap} : ∀ {vs : List Value} {ds : List WData}, WellAll P h vs ds → vs.length = ds.length
  | _, _, .nil => rfl
  | _, _, .cons _ b => by
    show _ + 1 = _ + 1
    rw [wellAll_len b]
theorem well_list {P : Params} {h : Heap} {v : Value} {ds : List WData} (x : Well P h v (.list ds)) : ∃ (a : Addr) (vs : List Value), v = .ref a ∧ h.get? a = some { cls := .type "list", data := .seq vs.toArray } ∧ WellAll P h vs ds := by
  cases x with
  | list ho hall => exact ⟨_, _, rfl, ho, hall⟩
theorem well_tuple {P : Params} {h : Heap} {v : Value} {ds : List WData} (x : Well P h v (.tuple ds)) : ∃ (a : Addr) (vs : List Value), v = .ref a ∧ h.get? a = some { cls := .type "tuple", data := .seq vs.toArray } ∧ WellAll P h vs ds := by
  cases x with
  | tuple ho hall => exact ⟨_, _, rfl, ho, hall⟩
theorem well_cons {P : Params} {h : Heap} {us : List Value} {d : WData} {ds : List WData} (x : WellAll P h us (d :: ds)) : ∃ (v : Value) (vs : List Value), us = v :: vs ∧ Well P h v d ∧ WellAll P h vs ds := by
  cases x with
  | cons a b => exact ⟨_, _, rfl, a, b⟩
theorem line_of {n : Nat} (h : n ≤ 1048576) : n ≤ sizeLine := Nat.le_trans h (by decide)
section
variable {P : Params} {h : Heap}
mutual
theorem area_one : ∀ (d : WData) (v : Value), Well P h v d → plW d = true → d.weight ≤ 1048576 → ∃ A : List Addr, OkU A v ∧ ∀ a ∈ A, ArgOb h A a
  | .none, _, x, _, _ => by
    cases x
    exact ⟨[], trivial, fun a m => absurd m (by simp)⟩
  | .bool b, _, x, _, _ => by
    cases x
    exact ⟨[], trivial, fun a m => absurd m (by simp)⟩
  | .int i, _, x, _, _ => by
    cases x
    exact ⟨[], trivial, fun a m => absurd m (by simp)⟩
  | .str s, _, x, _, _ => by
    cases x
    exact ⟨[], trivial, fun a m => absurd m (by simp)⟩
  | .bytes b, _, x, _, _ => by
    cases x
    exact ⟨[], trivial, fun a m => absurd m (by simp)⟩
  | .list ds, _, x, p, z => by
    obtain ⟨a, vs, rfl, ho, hall⟩ := well_list x
    have z2 : WData.weightAll ds ≤ 1048576 := z
    obtain ⟨A, h1, h2⟩ := area_all ds _ hall p fun d hd => Nat.le_trans (weight_mem hd) z2
    have k : ∀ b ∈ A, b ∈ a :: A := fun b hb => List.mem_cons_of_mem _ hb
    refine ⟨a :: A, List.mem_cons_self .., fun b hb => ?_⟩
    rcases List.mem_cons.mp hb with e | m
    · rw [e]
      exact ⟨vs, line_of (by rw [wellAll_len hall]; exact Nat.le_trans (PySem.W.length_le_weightAllW ds) z2), fun u hu => (h1 u hu).mono k, .inl ho⟩
    · exact (h2 b m).mono k
  | .tuple ds, _, x, p, z => by
    obtain ⟨a, vs, rfl, ho, hall⟩ := well_tuple x
    have z2 : WData.weightAll ds ≤ 1048576 := z
    obtain ⟨A, h1, h2⟩ := area_all ds _ hall p fun d hd => Nat.le_trans (weight_mem hd) z2
    have k : ∀ b ∈ A, b ∈ a :: A := fun b hb => List.mem_cons_of_mem _ hb
    refine ⟨a :: A, List.mem_cons_self .., fun b hb => ?_⟩
    rcases List.mem_cons.mp hb with e | m
    · rw [e]
      exact ⟨vs, line_of (by rw [wellAll_len hall]; exact Nat.le_trans (PySem.W.length_le_weightAllW ds) z2), fun u hu => (h1 u hu).mono k, .inr ho⟩
    · exact (h2 b m).mono k
  | .float _, _, _, p, _ => Bool.noConfusion (show false = true from p)
  | .dict _, _, _, p, _ => Bool.noConfusion (show false = true from p)
  | .bytearray _, _, _, p, _ => Bool.noConfusion (show false = true from p)
  | .set _, _, _, p, _ => Bool.noConfusion (show false = true from p)
  | .frozenset _, _, _, p, _ => Bool.noConfusion (show false = true from p)
  | .obj _ _, _, _, p, _ => Bool.noConfusion (show false = true from p)
theorem area_all : ∀ (ds : List WData) (vs : List Value), WellAll P h vs ds → plWs ds = true → (∀ d ∈ ds, d.weight ≤ 1048576) → ∃ A : List Addr, (∀ u ∈ vs, OkU A u) ∧ ∀ a ∈ A, ArgOb h A a
  | [], _, x, _, _ => by
    cases x
    exact ⟨[], fun u m => absurd m (by simp), fun a m => absurd m (by simp)⟩
  | d :: ds, _, x, p, z => by
    obtain ⟨v, vs, rfl, x1, x2⟩ := well_cons x
    have q : plW d = true ∧ plWs ds = true := Bool.and_eq_true_iff.mp p
    obtain ⟨A, a1, a2⟩ := area_one d v x1 q.1 (z d (List.mem_cons_self ..))
    obtain ⟨B, b1, b2⟩ := area_all ds vs x2 q.2 fun e he => z e (List.mem_cons_of_mem _ he)
    have kA : ∀ b ∈ A, b ∈ A ++ B := fun b hb => List.mem_append.mpr (.inl hb)
    have kB : ∀ b ∈ B, b ∈ A ++ B := fun b hb => List.mem_append.mpr (.inr hb)
    refine ⟨A ++ B, fun u hu => ?_, fun b hb => ?_⟩
    · rcases List.mem_cons.mp hu with e | m
      · rw [e]
        exact a1.mono kA
      · exact (b1 u m).mono kB
    · rcases List.mem_append.mp hb with m | m
      · exact (a2 b m).mono kA
      · exact (b2 b m).mono kB
end
end
def hoOf (o : Obj) : Option HO := match o.data with
  | .seq vs _ => if (o.cls == Value.type "list") = true then some (.frz o (.lst (vs.toList.map toV))) else some (.frz o (.tup (vs.toList.map toV)))
  | _ => none
def argH (K : PySem.W.Frag) (h : Heap) (A : List Addr) : Hp := fun b => if b ∈ A then (if (K.lookup b).isNone = true then (h.get? b).bind hoOf else none) else none
def OnlyF (H : Hp) : Prop := ∀ b, H b = none ∨ ∃ o u, H b = some (.frz o u)
theorem hoOf_lst (vs : List Value) : hoOf { cls := .type "list", data := .seq vs.toArray } = some (.frz { cls := .type "list", data := .seq vs.toArray } (.lst (vs.map toV))) := by
  show (if (Value.type "list" == Value.type "list") = true then some (HO.frz { cls := .type "list", data := .seq vs.toArray } (.lst (vs.toArray.toList.map toV))) else some (HO.frz { cls := .type "list", data := .seq vs.toArray } (.tup (vs.toArray.toList.map toV)))) = _
  rw [if_pos (beq_self_eq_true _)]
theorem hoOf_tup (vs : List Value) : hoOf { cls := .type "tuple", data := .seq vs.toArray } = some (.frz { cls := .type "tuple", data := .seq vs.toArray } (.tup (vs.map toV))) := by
  show (if (Value.type "tuple" == Value.type "list") = true then some (HO.frz { cls := .type "tuple", data := .seq vs.toArray } (.lst (vs.toArray.toList.map toV))) else some (HO.frz { cls := .type "tuple", data := .seq vs.toArray } (.tup (vs.toArray.toList.map toV)))) = _
  rw [if_neg (by decide)]
section
variable {P : Program} {w : World} {K : PySem.W.Frag} {h : Heap} {A : List Addr}
theorem argH_at {b : Addr} {o : Obj} (hb : b ∈ A) (hk : K.lookup b = none) (e : h.get? b = some o) : argH K h A b = hoOf o := by
  unfold argH
  rw [if_pos hb, hk, if_pos (show (none : Option Obj).isNone = true from rfl), e] <;> rfl
theorem of_argH {b : Addr} {u : HO} (q : argH K h A b = some u) : b ∈ A ∧ K.lookup b = none := by
  unfold argH at q
  by_cases hb : b ∈ A
  · rw [if_pos hb] at q
    cases hk : K.lookup b with
    | none => exact ⟨hb, rfl⟩
    | some o =>
      rw [hk, if_neg (by simp)] at q
      cases q
  · rw [if_neg hb] at q
    cases q
theorem argH_is (ar : ∀ a ∈ A, ArgOb h A a) {b : Addr} {u : HO} (q : argH K h A b = some u) : K.lookup b = none ∧ ∃ vs : List Value, vs.length ≤ sizeLine ∧ (∀ u ∈ vs, OkU A u) ∧
    ((h.get? b = some { cls := .type "list", data := .seq vs.toArray } ∧ u = .frz { cls := .type "list", data := .seq vs.toArray } (.lst (vs.map toV))) ∨
     (h.get? b = some { cls := .type "tuple", data := .seq vs.toArray } ∧ u = .frz { cls := .type "tuple", data := .seq vs.toArray } (.tup (vs.map toV)))) := by
  obtain ⟨hb, hk⟩ := of_argH q
  obtain ⟨vs, h1, h2, h3⟩ := ar b hb
  refine ⟨hk, vs, h1, h2, ?_⟩
  rcases h3 with e | e
  · rw [argH_at hb hk e, hoOf_lst] at q
    exact .inl ⟨e, (Option.some.inj q).symm⟩
  · rw [argH_at hb hk e, hoOf_tup] at q
    exact .inr ⟨e, (Option.some.inj q).symm⟩
theorem argH_only (ar : ∀ a ∈ A, ArgOb h A a) : OnlyF (argH K h A) := fun b => by
  cases q : argH K h A b with
  | none => exact .inl rfl
  | some u =>
    obtain ⟨_, vs, _, _, ⟨_, e⟩ | ⟨_, e⟩⟩ := argH_is ar q
    · exact .inr ⟨_, _, by rw [e]⟩
    · exact .inr ⟨_, _, by rw [e]⟩
theorem argH_ok (ar : ∀ a ∈ A, ArgOb h A a) : HOk P w (argH K h A) h := fun b u q => by
  obtain ⟨_, vs, h1, h2, ⟨e, rfl⟩ | ⟨e, rfl⟩⟩ := argH_is ar q
  · exact ⟨e, by rw [List.length_map]; exact h1, vs, _, vals_toV h2, e⟩
  · exact ⟨e, by rw [List.length_map]; exact h1, vs, vals_toV h2, _, e, rfl, _, rfl⟩
theorem seq_inj {c c' : Value} {vs us : List Value} (e : (some { cls := c, data := .seq vs.toArray } : Option Obj) = some { cls := c', data := .seq us.toArray }) : c = c' ∧ vs = us := by
  have e1 := Option.some.inj e
  have e2 : c = c' := congrArg Obj.cls e1
  have e3 : Data.seq vs.toArray = Data.seq us.toArray := congrArg Obj.data e1
  injection e3 with e4
  refine ⟨e2, ?_⟩
  have e5 := congrArg Array.toList e4
  simpa using e5
theorem argL (KX : K.In h) (ar : ∀ a ∈ A, ArgOb h A a) {a : Addr} {vs : List Value} (ha : a ∈ A) (e : h.get? a = some { cls := .type "list", data := .seq vs.toArray }) : (∀ u ∈ vs, OkU A u) ∧ SqL K (argH K h A) a (vs.map toV) := by
  obtain ⟨us, h1, h2, h3⟩ := ar a ha
  have hu : us = vs := by
    rcases h3 with q | q
    · rw [e] at q
      exact (seq_inj q).2.symm
    · rw [e] at q
      exact absurd (Value.type.inj (seq_inj q).1) (by decide)
  subst hu
  refine ⟨h2, ?_⟩
  cases hk : K.lookup a with
  | none => exact .inl (.inr ⟨_, by rw [argH_at ha hk e, hoOf_lst]⟩)
  | some o =>
    have e2 := KX a o hk
    rw [e] at e2
    obtain rfl := Option.some.inj e2
    exact .inr ⟨_, us.toArray, _, hk, rfl, rfl, rfl, by rw [List.size_toArray]; exact h1, by simpa using vals_toV h2⟩
theorem argT (KX : K.In h) (ar : ∀ a ∈ A, ArgOb h A a) {a : Addr} {vs : List Value} (ha : a ∈ A) (e : h.get? a = some { cls := .type "tuple", data := .seq vs.toArray }) : (∀ u ∈ vs, OkU A u) ∧ SqT K (argH K h A) a (vs.map toV) := by
  obtain ⟨us, h1, h2, h3⟩ := ar a ha
  have hu : us = vs := by
    rcases h3 with q | q
    · rw [e] at q
      exact absurd (Value.type.inj (seq_inj q).1) (by decide)
    · rw [e] at q
      exact (seq_inj q).2.symm
  subst hu
  refine ⟨h2, ?_⟩
  cases hk : K.lookup a with
  | none => exact .inl (.inr ⟨_, by rw [argH_at ha hk e, hoOf_tup]⟩)
  | some o =>
    have e2 := KX a o hk
    rw [e] at e2
    obtain rfl := Option.some.inj e2
    exact .inr ⟨_, us.toArray, _, hk, rfl, rfl, by rw [List.size_toArray]; exact h1, by simpa using vals_toV h2⟩
mutual
theorem dw_one {Pm : Params} (KX : K.In h) (ar : ∀ a ∈ A, ArgOb h A a) : ∀ (d : WData) (v : Value), Well Pm h v d → plW d = true → OkU A v → Dw K (argH K h A) (toV v) d
  | .none, _, x, _, _ => by
    cases x
    exact .non
  | .bool b, _, x, _, _ => by
    cases x
    exact .bl b
  | .int i, _, x, _, _ => by
    cases x
    exact .int i
  | .str s, _, x, _, _ => by
    cases x
    exact .str s
  | .bytes b, _, x, _, _ => by
    cases x
    have z := Dw.byt (K := K) (H := argH K h A) b.toArray
    exact z
  | .list ds, _, x, p, hu => by
    obtain ⟨a, vs, rfl, ho, hall⟩ := well_list x
    obtain ⟨h2, hs⟩ := argL KX ar hu ho
    exact .lst hs (dw_all KX ar ds _ hall p h2)
  | .tuple ds, _, x, p, hu => by
    obtain ⟨a, vs, rfl, ho, hall⟩ := well_tuple x
    obtain ⟨h2, hs⟩ := argT KX ar hu ho
    exact .tup hs (dw_all KX ar ds _ hall p h2)
  | .float _, _, _, p, _ => Bool.noConfusion (show false = true from p)
  | .dict _, _, _, p, _ => Bool.noConfusion (show false = true from p)
  | .bytearray _, _, _, p, _ => Bool.noConfusion (show false = true from p)
  | .set _, _, _, p, _ => Bool.noConfusion (show false = true from p)
  | .frozenset _, _, _, p, _ => Bool.noConfusion (show false = true from p)
  | .obj _ _, _, _, p, _ => Bool.noConfusion (show false = true from p)
theorem dw_all {Pm : Params} (KX : K.In h) (ar : ∀ a ∈ A, ArgOb h A a) : ∀ (ds : List WData) (vs : List Value), WellAll Pm h vs ds → plWs ds = true → (∀ u ∈ vs, OkU A u) → DwAll K (argH K h A) (vs.map toV) ds
  | [], _, x, _, _ => by
    cases x
    exact .nil
  | d :: ds, _, x, p, hu => by
    obtain ⟨v, vs, rfl, x1, x2⟩ := well_cons x
    have q : plW d = true ∧ plWs ds = true := Bool.and_eq_true_iff.mp p
    exact .cons (dw_one KX ar d v x1 q.1 (hu _ (List.mem_cons_self ..))) (dw_all KX ar ds vs x2 q.2 fun u m => hu u (List.mem_cons_of_mem _ m))
end
end
theorem spec_call {P : Program} {w : World} {K : PySem.W.Frag} {mg mb : Str → Option Value} {CX : CXT} {k : Nat} {fa : Addr} {fd : FuncData} {ps : List Str} {sp : Sp} {s₁ : Shared} {vals : List Value} {ds : List WData} {R : PySem.W.WRecords} {cl : Str → Option Addr} {d0 : WData}
    (KX : K.In s₁.heap) (hns : s₁.heap.Ns mainGlobals mg) (hb : s₁.heap.Ns builtinsNs mb) (hbb : ∀ x : Str, x ≠ "__name__" → mb x = bootBuiltins x) (hlim : s₁.heap.NoLimit) (hg : s₁.gens = #[])
    (hwl : WellAll w.params s₁.heap vals ds) (hpl : plWs ds = true) (hwt : ∀ d ∈ ds, d.weight ≤ 1048576) (hr : Room k callerA)
    (F : ∀ base : Heap, K.In base → base.Ns mainGlobals mg → FnOk P w K mg base CX k fa fd ps sp) (hbind : ∀ (s : Shared) (us : List Value), us.length = ps.length → BindsTo s fd ⟨us, []⟩ (ps.zip us)) (hlen : ds.length = ps.length)
    (hsp : ∀ (H : Hp) (xs : List V), OnlyF H → DwAll K H xs ds → sp xs H (fun v H' => Dw K H' v d0) fun _ _ _ => False)
    (hCX : ∀ H e s', CX [] H s₁ (fun _ _ _ => False) e s' → False) :
    codeAny (model P w) callerA (.call (.ref fa) ⟨vals, []⟩) (fun r s' => ∃ u as, r = .ok (.ret u) ∧ ReadsW R cl s'.heap u d0 as ∧ OldK s₁.heap s'.heap ∧ s'.os = s₁.os ∧ AllBare s'.gens) s₁ := by
  obtain ⟨A, ho, ar⟩ := area_all ds vals hwl hpl hwt
  have hO : OnlyF (argH K s₁.heap A) := argH_only ar
  have hok : HOk P w (argH K s₁.heap A) s₁.heap := argH_ok ar
  have hS := dw_all KX ar ds vals hwl hpl ho
  have hV := vals_toV ho
  have hK : ∀ b u, argH K s₁.heap A b = some u → K.lookup b = none := fun b u q => (argH_is ar q).1
  have noA : ∀ {b : Addr} {o : Obj} {es : Array DictEntry} {ep : Nat}, s₁.heap.get? b = some o → o.data = .dict es ep → argH K s₁.heap A b = none := fun {b o es ep} e d => by
    cases q : argH K s₁.heap A b with
    | none => rfl
    | some u =>
      obtain ⟨_, vs, _, _, ⟨e2, _⟩ | ⟨e2, _⟩⟩ := argH_is ar q
      · rw [e2] at e
        cases e
        have d' : Data.seq vs.toArray _ = Data.dict es ep := d
        cases d'
      · rw [e2] at e
        cases e
        have d' : Data.seq vs.toArray _ = Data.dict es ep := d
        cases d'
  generalize argH K s₁.heap A = H at hO hok hS hK noA
  have base_of : ∀ {b : Addr} {o : Obj}, s₁.heap.get? b = some o → H b = none → (hidT s₁.heap H).get? b = some o := fun e n => hidT_get e n
  have nsK : ∀ {b : Addr} {m : Str → Option Value}, s₁.heap.Ns b m → (hidT s₁.heap H).Ns b m := fun {b m} ⟨o, es, ep, e, d, r⟩ => ⟨o, es, ep, base_of e (noA e d), d, r⟩
  have nK : ∀ b o, K.lookup b = some o → H b = none := fun b o e => by
    cases q : H b with
    | none => rfl
    | some u =>
      rw [hK b u q] at e
      cases e
  have hKb : K.In (hidT s₁.heap H) := fun b o e => base_of (KX b o e) (nK b o e)
  have hM : Mod K mg (hidT s₁.heap H) := ⟨hKb, nsK hns, ⟨mb, nsK hb, hbb⟩, let ⟨mc, h1, h2⟩ := hlim; ⟨mc, nsK h1, h2⟩⟩
  have e0 : Env0 P w K mg (hidT s₁.heap H) callerA [] s₁ H := ⟨rfl, hM, fun b o e => of_hidT e, Nat.le_of_eq (hidT_size _ _), trivial, fun b hb => absurd (show b ∈ ([] : List Addr) from hb) (by simp), hok, .of_eq hg⟩
  have hl : vals.length = ps.length := by rw [wellAll_len hwl]; exact hlen
  refine codeAny_mono ((F _ hKb (nsK hns)).run callerA [] s₁ H ⟨vals, []⟩ vals (vals.map toV) _ _ hr e0 (hbind s₁ vals hl) hV (hsp H _ hO hS)) fun r s' x => ?_
  cases r with
  | error e => exact (hCX H e s' x).elim
  | ok fl =>
    cases fl with
    | next => exact False.elim x
    | brk => exact False.elim x
    | cont => exact False.elim x
    | ret u =>
      obtain ⟨v, H', os, bare, un, hok', r', q⟩ := x
      have kept : ∀ b o, s₁.heap.get? b = some o → s'.heap.get? b = some o := fun b o e => by
        cases q2 : H b with
        | none => exact un.keep b o e q2 (by intro z; exact absurd (show b ∈ ([] : List Addr) from z) (by simp)) (by simp)
        | some u2 =>
          rcases hO b with z | ⟨ob, u3, z⟩
          · rw [q2] at z
            cases z
          · have z2 := un.frzs b ob _ z
            obtain ⟨e1, _⟩ := hok b _ z
            obtain ⟨e2, _⟩ := hok' b _ z2
            rw [e] at e1
            cases e1
            exact e2
      have KX' : K.In s'.heap := fun b o e => kept b o (KX b o e)
      obtain ⟨as, hrd⟩ := Dw.reads (R := R) (cl := cl) hok' KX' d0 v u q r'
      exact ⟨u, as, rfl, hrd, OldK.of_keep kept, os, bare⟩
theorem layable_weight {ds : List WData} (h : WData.layableAll ds = true) : ∀ d ∈ ds, d.weight ≤ 1048576 := fun d hd =>
  (PySem.W.layableW_iff.mp (List.all_eq_true.mp h d hd)).2.2
theorem encAll_len : ∀ (cs : List Codec) (a : Codec.denoteAll cs), (Codec.encAll cs a).length = cs.length
  | [], _ => rfl
  | c :: cs, a => by
    show (Codec.encAll cs a.2).length + 1 = cs.length + 1
    rw [encAll_len cs a.2]
theorem walk_spec {r : OpenSpec} {k : Nat} {q : Program} {loose : List Str} {XP : (Str → Option Value) → Heap → Prop} {YP : World → Heap → Prop} {d : DefRec} {K : Params → PySem.W.Frag} {CX : World → CXT} {ps : List Str} {sp : World → Sp}
    (hwell : r.wellSaid = true) (hdf : d.params.defaults = []) (hlen : r.args.length = ps.length) (hr : Room k callerA)
    (hY : ∀ (w : World) (h : Heap), YP w h → (K w.params).In h)
    (F : ∀ (w : World) (mg : Str → Option Value) (fa : Addr) (h : Heap), YP w h → (K w.params).In h → h.Ns mainGlobals mg → mg d.name = some (.ref fa) →
      ∃ fd : FuncData, (∀ (s : Shared) (us : List Value), us.length = ps.length → BindsTo s fd ⟨us, []⟩ (ps.zip us)) ∧
        ∀ base : Heap, (K w.params).In base → base.Ns mainGlobals mg → FnOk r.prog w (K w.params) mg base (CX w) k fa fd ps (sp w))
    (hsp : ∀ (w : World) (H : Hp) (xs : List V) (a : Codec.denoteAll r.args), OnlyF H → Codec.withinAll r.args a = true → Codec.app r.args r.asked a = true → DwAll (K w.params) H xs (Codec.encAll r.args a) →
      sp w xs H (fun v H' => Dw (K w.params) H' v (r.ret.enc (Codec.app r.args r.f a))) fun _ _ _ => False)
    (hCX : ∀ (w : World) (H : Hp) (s : Shared) (e : Value) (s' : Shared), CX w [] H s (fun _ _ _ => False) e s' → False) :
    PySem.W.WalkOS q loose XP YP r d [] (fun f vs => PySem.call f vs) := by
  intro w s_0 s₁ mg mb G Y fa o pm cd doc dV kV ho hd hcd hD hmg hg args vals as hpre hlay hrd hwl hlo
  obtain ⟨a, e1, e2⟩ := PySem.W.os_pre_some hpre
  obtain ⟨e3, hwi⟩ := Codec.encAll_of_decAll r.args args a e1
  subst e3
  have KX := hY w _ Y
  obtain ⟨fd, hb, hF⟩ := F w mg fa _ Y KX G.T.g hmg
  refine PySem.W.enter_call (codeAny_mono (spec_call (R := []) (cl := classAt s_0.heap) (d0 := r.ret.enc (Codec.app r.args r.f a)) KX G.T.g G.T.b G.T.builtins G.T.nolimit hg hwl (pl_encAll _ _) (layable_weight hlay) hr hF hb (by rw [encAll_len]; exact hlen)
    (fun H xs hO hS => hsp w H xs a hO hwi e2 hS) fun H e s' => hCX w H s₁ e s') fun r' s' hq => ?_)
  obtain ⟨u, as', rfl, h1, h2, h3, h4⟩ := hq
  exact ⟨.inl ⟨u, _, as', rfl, fun _ => rfl, h1, (OpenSpec.post_iff hwell hwi _ _).mpr rfl, fun z => Bool.noConfusion (show false = true from z)⟩, h2, h3, h4⟩
theorem walk_specK {r : OpenSpec} {k : Nat} {q : Program} {loose : List Str} {XP : (Str → Option Value) → Heap → Prop} {YP : World → Heap → Prop} {d : DefRec} {K : Params → PySem.W.Frag} {CX : CXT} {ps : List Str} {sp : PySem.W.Frag → Sp}
    (hwell : r.wellSaid = true) (hdf : d.params.defaults = []) (hlen : r.args.length = ps.length) (hr : Room k callerA)
    (hY : ∀ (w : World) (h : Heap), YP w h → (K w.params).In h)
    (F : ∀ (w : World) (mg : Str → Option Value) (fa : Addr) (h : Heap), YP w h → (K w.params).In h → h.Ns mainGlobals mg → mg d.name = some (.ref fa) →
      ∃ fd : FuncData, (∀ (s : Shared) (us : List Value), us.length = ps.length → BindsTo s fd ⟨us, []⟩ (ps.zip us)) ∧
        ∀ base : Heap, (K w.params).In base → base.Ns mainGlobals mg → FnOk r.prog w (K w.params) mg base CX k fa fd ps (sp (K w.params)))
    (hsp : ∀ (K : PySem.W.Frag) (H : Hp) (xs : List V) (a : Codec.denoteAll r.args), OnlyF H → Codec.withinAll r.args a = true → Codec.app r.args r.asked a = true → DwAll K H xs (Codec.encAll r.args a) →
      sp K xs H (fun v H' => Dw K H' v (r.ret.enc (Codec.app r.args r.f a))) fun _ _ _ => False)
    (hCX : ∀ (H : Hp) (s : Shared) (e : Value) (s' : Shared), CX [] H s (fun _ _ _ => False) e s' → False) :
    PySem.W.WalkOS q loose XP YP r d [] (fun f vs => PySem.call f vs) :=
  walk_spec (K := K) (CX := fun _ => CX) (sp := fun w => sp (K w.params)) hwell hdf hlen hr hY F (fun w H xs a h1 h2 h3 h4 => hsp (K w.params) H xs a h1 h2 h3 h4) fun _ H s e s' => hCX H s e s'
end L2
end
section
set_option maxRecDepth 4000
namespace Tc
open Sn04
def num (i : Id) : Nat := i.count * 256 + i.site
theorem num_inj {a b : Id} (ha : a.site ≤ 255) (hb : b.site ≤ 255) (h : num a = num b) : a = b := by
  cases a with
  | mk c s =>
    cases b with
    | mk d t =>
      have h' : c * 256 + s = d * 256 + t := h
      have ha' : s ≤ 255 := ha
      have hb' : t ≤ 255 := hb
      have e1 : c = d := by omega
      have e2 : s = t := by omega
      rw [e1, e2]
theorem lt_num {a b : Id} (ha : a.site ≤ 255) (hb : b.site ≤ 255) : a.lt b = true ↔ num a < num b := by
  unfold Id.lt num
  rw [Bool.or_eq_true, Bool.and_eq_true, decide_eq_true_eq, decide_eq_true_eq, decide_eq_true_eq]
  constructor
  · intro h
    rcases h with h | ⟨h1, h2⟩ <;> omega
  · intro h
    omega
theorem num_lt_of_count {a b : Id} (ha : a.site ≤ 255) (h : a.count < b.count) : num a < num b := by
  unfold num
  omega
theorem num_nothing : num nothing = 0 := rfl
theorem mem_insert {c x : Change} : ∀ {l : List Change}, x ∈ insert c l ↔ x = c ∨ x ∈ l
  | [] => by simp [Sn04.insert]
  | y :: r => by
    unfold Sn04.insert
    split
    · simp
    · rw [List.mem_cons, mem_insert (l := r), List.mem_cons]
      constructor
      · rintro (h | h | h)
        · exact .inr (.inl h)
        · exact .inl h
        · exact .inr (.inr h)
      · rintro (h | h | h)
        · exact .inr (.inl h)
        · exact .inl h
        · exact .inr (.inr h)
theorem length_insert {c : Change} : ∀ {l : List Change}, (insert c l).length = l.length + 1
  | [] => rfl
  | y :: r => by
    unfold Sn04.insert
    split
    · rfl
    · rw [List.length_cons, length_insert (l := r), List.length_cons]
abbrev Srt (l : List Change) : Prop := l.Pairwise fun a b => num a.id < num b.id
abbrev Sites (l : List Change) : Prop := ∀ c ∈ l, c.id.site ≤ 255
theorem insert_split {c : Change} (hc : c.id.site ≤ 255) : ∀ {l : List Change}, Srt l → Sites l → (∀ x ∈ l, num x.id ≠ num c.id) →
    ∃ lo hi, l = lo ++ hi ∧ insert c l = lo ++ c :: hi ∧ (∀ x ∈ lo, num x.id < num c.id) ∧ ∀ x ∈ hi, num c.id < num x.id
  | [], _, _, _ => ⟨[], [], rfl, rfl, by simp, by simp⟩
  | y :: r, hs, hb, hn => by
    have hy : y.id.site ≤ 255 := hb y (List.mem_cons_self ..)
    have hs := List.pairwise_cons.mp hs
    unfold Sn04.insert
    by_cases h : c.id.lt y.id = true
    · rw [if_pos h]
      have h' := (lt_num hc hy).mp h
      refine ⟨[], y :: r, rfl, rfl, by simp, fun x hx => ?_⟩
      rcases List.mem_cons.mp hx with rfl | hx
      · exact h'
      · exact Nat.lt_trans h' (hs.1 x hx)
    · rw [if_neg h]
      have h' : num y.id < num c.id := by
        have h1 : ¬ num c.id < num y.id := fun q => h ((lt_num hc hy).mpr q)
        have h2 := hn y (List.mem_cons_self ..)
        omega
      obtain ⟨lo, hi, e1, e2, h3, h4⟩ := insert_split hc hs.2 (fun x hx => hb x (List.mem_cons_of_mem _ hx)) (fun x hx => hn x (List.mem_cons_of_mem _ hx))
      refine ⟨y :: lo, hi, by rw [e1]; rfl, by rw [e2]; rfl, fun x hx => ?_, h4⟩
      rcases List.mem_cons.mp hx with rfl | hx
      · exact h'
      · exact h3 x hx
theorem insert_srt {c : Change} {l : List Change} (hc : c.id.site ≤ 255) (hs : Srt l) (hb : Sites l) (hn : ∀ x ∈ l, num x.id ≠ num c.id) : Srt (insert c l) := by
  obtain ⟨lo, hi, e1, e2, h3, h4⟩ := insert_split hc hs hb hn
  rw [e2]
  rw [e1] at hs
  have hs' := List.pairwise_append.mp hs
  refine List.pairwise_append.mpr ⟨hs'.1, List.pairwise_cons.mpr ⟨h4, hs'.2.1⟩, fun a ha b hb' => ?_⟩
  rcases List.mem_cons.mp hb' with rfl | hb'
  · exact h3 a ha
  · exact hs'.2.2 a ha b hb'
theorem srt_ext : ∀ {l m : List Change}, Srt l → Srt m → (∀ x, x ∈ l ↔ x ∈ m) → l = m
  | [], [], _, _, _ => rfl
  | [], y :: r, _, _, h => absurd ((h y).mpr (List.mem_cons_self ..)) (by simp)
  | x :: r, [], _, _, h => absurd ((h x).mp (List.mem_cons_self ..)) (by simp)
  | x :: r, y :: t, hl, hm, h => by
    have hl := List.pairwise_cons.mp hl
    have hm := List.pairwise_cons.mp hm
    have e : x = y := by
      rcases List.mem_cons.mp ((h x).mp (List.mem_cons_self ..)) with e | e
      · exact e
      · rcases List.mem_cons.mp ((h y).mpr (List.mem_cons_self ..)) with e2 | e2
        · exact e2.symm
        · have a := hm.1 x e
          have b := hl.1 y e2
          omega
    subst e
    have ih : r = t := srt_ext hl.2 hm.2 fun z => by
      constructor
      · intro hz
        rcases List.mem_cons.mp ((h z).mp (List.mem_cons_of_mem _ hz)) with e | e
        · have := hl.1 z hz; rw [e] at this; omega
        · exact e
      · intro hz
        rcases List.mem_cons.mp ((h z).mpr (List.mem_cons_of_mem _ hz)) with e | e
        · have := hm.1 z hz; rw [e] at this; omega
        · exact e
    rw [ih]
theorem filter_insert {c : Change} {l : List Change} {p : Change → Bool} (hc : c.id.site ≤ 255) (hs : Srt l) (hb : Sites l) (hn : ∀ x ∈ l, num x.id ≠ num c.id) :
    (insert c l).filter p = if p c = true then insert c (l.filter p) else l.filter p := by
  have hs1 := insert_srt hc hs hb hn
  have hsf : Srt (l.filter p) := hs.filter _
  split
  · rename_i h
    refine srt_ext (hs1.filter _) (insert_srt hc hsf (fun x hx => hb x ((List.mem_filter.mp hx).1)) fun x hx => hn x ((List.mem_filter.mp hx).1)) fun x => ?_
    rw [List.mem_filter, mem_insert, mem_insert, List.mem_filter]
    constructor
    · rintro ⟨rfl | h1, h2⟩
      · exact .inl rfl
      · exact .inr ⟨h1, h2⟩
    · rintro (rfl | ⟨h1, h2⟩)
      · exact ⟨.inl rfl, h⟩
      · exact ⟨.inr h1, h2⟩
  · rename_i h
    refine srt_ext (hs1.filter _) hsf fun x => ?_
    rw [List.mem_filter, mem_insert, List.mem_filter]
    constructor
    · rintro ⟨rfl | h1, h2⟩
      · exact absurd h2 h
      · exact ⟨h1, h2⟩
    · rintro ⟨h1, h2⟩
      exact ⟨.inr h1, h2⟩
theorem foldl_insert_end {l m : List Change} (hs : Srt (m ++ l)) (hb : Sites (m ++ l)) : l.foldl (fun m c => insert c m) m = m ++ l := by
  induction l generalizing m with
  | nil => simp
  | cons y r ih =>
    have e : insert y m = m ++ [y] := by
      have hs' := List.pairwise_append.mp hs
      have hy : ∀ x ∈ m, num x.id < num y.id := fun x hx => hs'.2.2 x hx y (List.mem_cons_self ..)
      refine srt_ext (insert_srt (hb y (by simp)) hs'.1 (fun x hx => hb x (by simp [hx])) fun x hx => Nat.ne_of_lt (hy x hx)) ?_ fun x => ?_
      · exact List.pairwise_append.mpr ⟨hs'.1, by simp, fun a ha b hb' => by
          rw [List.mem_singleton] at hb'; subst hb'; exact hy a ha⟩
      · rw [mem_insert, List.mem_append, List.mem_singleton, Or.comm]
    rw [List.foldl_cons, e, ih (by rw [List.append_assoc]; exact hs) (by rw [List.append_assoc]; exact hb), List.append_assoc]
    rfl
theorem sorted_id {l : List Change} (hs : Srt l) (hb : Sites l) : Sn04.sorted l = l := by
  unfold Sn04.sorted
  rw [foldl_insert_end (by rw [List.nil_append]; exact hs) (by rw [List.nil_append]; exact hb), List.nil_append]
theorem find_some {l : List Change} {i : Id} {c : Change} (h : find l i = some c) : c ∈ l ∧ c.id = i := by
  unfold find at h
  exact ⟨List.mem_of_find?_eq_some h, by have := List.find?_some h; simpa using this⟩
theorem find_none {l : List Change} {i : Id} : find l i = none ↔ ∀ c ∈ l, c.id ≠ i := by
  unfold find
  rw [List.find?_eq_none]
  constructor
  · intro h c hc e
    exact h c hc (decide_eq_true e)
  · intro h c hc e
    exact h c hc (of_decide_eq_true e)
theorem srt_inj {l : List Change} (hs : Srt l) : ∀ {a b : Change}, a ∈ l → b ∈ l → num a.id = num b.id → a = b := by
  induction l with
  | nil => intro a b ha; simp at ha
  | cons y r ih =>
    have hs := List.pairwise_cons.mp hs
    intro a b ha hb e
    rcases List.mem_cons.mp ha with ea | ha <;> rcases List.mem_cons.mp hb with eb | hb
    · rw [ea, eb]
    · have := hs.1 b hb; rw [ea] at e; omega
    · have := hs.1 a ha; rw [eb] at e; omega
    · exact ih hs.2 ha hb e
theorem find_mem {l : List Change} (hs : Srt l) {c : Change} (h : c ∈ l) : find l c.id = some c := by
  cases e : find l c.id with
  | none => exact absurd rfl (find_none.mp e c h)
  | some d =>
    obtain ⟨h1, h2⟩ := find_some e
    rw [srt_inj hs h1 h (by rw [h2])]
theorem isPut_iff {l : List Change} (hs : Srt l) {i : Id} : isPut l i = true ↔ ∃ c ∈ l, c.id = i ∧ c.out = false := by
  unfold isPut
  constructor
  · intro h
    split at h
    · rename_i c e
      obtain ⟨h1, h2⟩ := find_some e
      exact ⟨c, h1, h2, by cases q : c.out <;> simp_all⟩
    · cases h
  · rintro ⟨c, h1, rfl, h3⟩
    rw [find_mem hs h1]
    simp [h3]
theorem le_foldl_max : ∀ (l : List Change) (a : Nat), a ≤ l.foldl (fun m c => max m c.id.count) a ∧ ∀ c ∈ l, c.id.count ≤ l.foldl (fun m c => max m c.id.count) a
  | [], a => ⟨Nat.le_refl _, by simp⟩
  | x :: r, a => by
    have ih := le_foldl_max r (max a x.id.count)
    rw [List.foldl_cons]
    refine ⟨by omega, fun c hc => ?_⟩
    rcases List.mem_cons.mp hc with rfl | hc
    · omega
    · exact ih.2 c hc
theorem foldl_max_mem : ∀ (l : List Change) (a : Nat), l.foldl (fun m c => max m c.id.count) a = a ∨ ∃ c ∈ l, c.id.count = l.foldl (fun m c => max m c.id.count) a
  | [], a => .inl rfl
  | x :: r, a => by
    rw [List.foldl_cons]
    rcases foldl_max_mem r (max a x.id.count) with h | ⟨c, hc, h⟩
    · by_cases q : x.id.count ≤ a
      · exact .inl (by omega)
      · exact .inr ⟨x, List.mem_cons_self .., by omega⟩
    · exact .inr ⟨c, List.mem_cons_of_mem _ hc, h⟩
theorem le_top {l : List Change} {c : Change} (h : c ∈ l) : c.id.count ≤ top l := (le_foldl_max l 0).2 c h
theorem top_mem (l : List Change) : top l = 0 ∨ ∃ c ∈ l, c.id.count = top l := foldl_max_mem l 0
theorem top_is {l : List Change} {n : Nat} (h1 : ∀ c ∈ l, c.id.count ≤ n) (h2 : n = 0 ∨ ∃ c ∈ l, c.id.count = n) : top l = n := by
  have a : top l ≤ n := by
    rcases top_mem l with h | ⟨c, hc, h⟩
    · omega
    · rw [← h]; exact h1 c hc
  have b : n ≤ top l := by
    rcases h2 with h | ⟨c, hc, h⟩
    · omega
    · rw [← h]; exact le_top hc
  omega
theorem top_insert {c : Change} {l : List Change} : top (insert c l) = max (top l) c.id.count := by
  refine top_is (fun x hx => ?_) ?_
  · rcases mem_insert.mp hx with rfl | hx
    · omega
    · have := le_top hx; omega
  · by_cases q : top l ≤ c.id.count
    · exact .inr ⟨c, mem_insert.mpr (.inl rfl), by omega⟩
    · rcases top_mem l with h | ⟨d, hd, h⟩
      · omega
      · exact .inr ⟨d, mem_insert.mpr (.inr hd), by omega⟩
theorem seen_insert {c : Change} {l : List Change} (s : Nat) : Sn04.seen (insert c l) s = if c.id.site = s then max (Sn04.seen l s) c.id.count else Sn04.seen l s := by
  unfold Sn04.seen
  have key : ∀ x, x ∈ (insert c l).filter (fun c => decide (c.id.site = s)) ↔ (x = c ∧ c.id.site = s) ∨ x ∈ l.filter (fun c => decide (c.id.site = s)) := fun x => by
    rw [List.mem_filter, mem_insert, List.mem_filter, decide_eq_true_eq]
    constructor
    · rintro ⟨rfl | h, h2⟩
      · exact .inl ⟨rfl, h2⟩
      · exact .inr ⟨h, h2⟩
    · rintro (⟨rfl, h⟩ | ⟨h, h2⟩)
      · exact ⟨.inl rfl, h⟩
      · exact ⟨.inr h, h2⟩
  split
  · rename_i hs
    refine top_is (fun x hx => ?_) ?_
    · rcases (key x).mp hx with ⟨rfl, _⟩ | hx
      · omega
      · have := le_top hx; omega
    · by_cases q : top (l.filter fun c => decide (c.id.site = s)) ≤ c.id.count
      · exact .inr ⟨c, (key c).mpr (.inl ⟨rfl, hs⟩), by omega⟩
      · rcases top_mem (l.filter fun c => decide (c.id.site = s)) with h | ⟨d, hd, h⟩
        · omega
        · exact .inr ⟨d, (key d).mpr (.inr hd), by omega⟩
  · rename_i hs
    refine top_is (fun x hx => ?_) ?_
    · rcases (key x).mp hx with ⟨_, h⟩ | hx
      · exact absurd h hs
      · exact le_top hx
    · rcases top_mem (l.filter fun c => decide (c.id.site = s)) with h | ⟨d, hd, h⟩
      · exact .inl h
      · exact .inr ⟨d, (key d).mpr (.inr hd), h⟩
theorem seen_le_top (l : List Change) (s : Nat) : Sn04.seen l s ≤ top l := by
  unfold Sn04.seen
  rcases top_mem (l.filter fun c => decide (c.id.site = s)) with h | ⟨d, hd, h⟩
  · omega
  · rw [← h]; exact le_top ((List.mem_filter.mp hd).1)
theorem le_seen {l : List Change} {c : Change} (h : c ∈ l) : c.id.count ≤ Sn04.seen l c.id.site := by
  unfold Sn04.seen
  exact le_top (List.mem_filter.mpr ⟨h, decide_eq_true rfl⟩)
end Tc
end
section
set_option maxRecDepth 4000
namespace Tc
open Sn04
structure Fit (l : List Change) (c : Change) : Prop where
  site1 : 1 ≤ c.id.site
  site2 : c.id.site ≤ 255
  osite : c.other.site ≤ 255
  cnt : c.id.count < 4294967296
  lt : c.other.count < c.id.count
  oth : (c.other = nothing ∧ c.out = false) ∨ isPut l c.other = true
structure WF (l : List Change) : Prop where
  srt : Srt l
  fit : ∀ c ∈ l, Fit l c
theorem WF.sites {l : List Change} (h : WF l) : Sites l := fun c hc => (h.fit c hc).site2
theorem WF.nil : WF [] := ⟨.nil, fun c hc => by simp at hc⟩
abbrev New (l : List Change) (c : Change) : Prop := ∀ x ∈ l, num x.id ≠ num c.id
theorem isPut_grow {c : Change} {l : List Change} (h : WF l) (hc : c.id.site ≤ 255) (hn : New l c) {i : Id} (q : isPut l i = true) : isPut (insert c l) i = true := by
  obtain ⟨x, h1, h2, h3⟩ := (isPut_iff h.srt).mp q
  exact (isPut_iff (insert_srt hc h.srt h.sites hn)).mpr ⟨x, mem_insert.mpr (.inr h1), h2, h3⟩
theorem Fit.grow {c x : Change} {l : List Change} (h : WF l) (hc : c.id.site ≤ 255) (hn : New l c) (q : Fit l x) : Fit (insert c l) x :=
  ⟨q.site1, q.site2, q.osite, q.cnt, q.lt, q.oth.imp id fun z => isPut_grow h hc hn z⟩
theorem WF.insert {c : Change} {l : List Change} (h : WF l) (f : Fit l c) (hn : New l c) : WF (Sn04.insert c l) :=
  ⟨insert_srt f.site2 h.srt h.sites hn, fun x hx => by
    rcases mem_insert.mp hx with rfl | hx
    · exact f.grow h f.site2 hn
    · exact (h.fit x hx).grow h f.site2 hn⟩
def isKid (i : Id) (c : Change) : Bool := !c.out && decide (c.other = i)
theorem isKid_iff {i : Id} {c : Change} : isKid i c = true ↔ c.out = false ∧ c.other = i := by
  unfold isKid
  rw [Bool.and_eq_true, decide_eq_true_eq]
  cases c.out <;> simp
theorem behind_eq {l : List Change} (h : WF l) (i : Id) : behind l i = (l.filter (isKid i)).reverse := by
  unfold behind
  rw [sorted_id]
  · rfl
  · exact h.srt.filter _
  · exact fun c hc => h.sites c (List.mem_filter.mp hc).1
theorem mem_behind {l : List Change} (h : WF l) {i : Id} {c : Change} : c ∈ behind l i ↔ c ∈ l ∧ c.out = false ∧ c.other = i := by
  rw [behind_eq h, List.mem_reverse, List.mem_filter, isKid_iff]
def rest (l : List Change) (i : Id) : Nat := (l.filter fun c => decide (i.count < c.id.count)).length
theorem rest_le (l : List Change) (i : Id) : rest l i ≤ l.length := List.length_filter_le ..
theorem filter_len_lt {p q : Change → Bool} {c : Change} : ∀ {l : List Change}, c ∈ l → (∀ x, p x = true → q x = true) → p c = false → q c = true → (l.filter p).length < (l.filter q).length
  | x :: r, hc, hpq, hp, hq => by
    have le : (r.filter p).length ≤ (r.filter q).length := by
      clear hc
      induction r with
      | nil => simp
      | cons y t ih =>
        rw [List.filter_cons, List.filter_cons]
        by_cases h : p y = true
        · rw [if_pos h, if_pos (hpq y h)]; simpa using ih
        · rw [if_neg h]
          split
          · rw [List.length_cons]; omega
          · exact ih
    rcases List.mem_cons.mp hc with rfl | hc
    · rw [List.filter_cons, List.filter_cons, if_neg (by rw [hp]; simp), if_pos hq, List.length_cons]
      omega
    · have ih := filter_len_lt hc hpq hp hq
      rw [List.filter_cons, List.filter_cons]
      by_cases h : p x = true
      · rw [if_pos h, if_pos (hpq x h)]; simpa using ih
      · rw [if_neg h]
        split
        · rw [List.length_cons]; omega
        · exact ih
theorem rest_kid {l : List Change} (h : WF l) {i : Id} {c : Change} (hc : c ∈ behind l i) : rest l c.id < rest l i := by
  obtain ⟨h1, h2, h3⟩ := (mem_behind h).mp hc
  have hl := (h.fit c h1).lt
  rw [h3] at hl
  refine filter_len_lt h1 (fun x hx => ?_) (by simp) (by simpa using hl)
  rw [decide_eq_true_eq] at hx ⊢
  omega
theorem flatMap_congr' {α β : Type} {f g : α → List β} : ∀ {l : List α}, (∀ x ∈ l, f x = g x) → l.flatMap f = l.flatMap g
  | [], _ => rfl
  | x :: r, h => by
    rw [List.flatMap_cons, List.flatMap_cons, h x (List.mem_cons_self ..), flatMap_congr' fun y hy => h y (List.mem_cons_of_mem _ hy)]
theorem order_fuel {l : List Change} (h : WF l) : ∀ (f : Nat) (i : Id), rest l i ≤ f → order l (f + 1) i = order l f i
  | 0, i, hf => by
    have e : behind l i = [] := by
      cases q : behind l i with
      | nil => rfl
      | cons c r =>
        have := rest_kid h (i := i) (c := c) (by rw [q]; exact List.mem_cons_self ..)
        omega
    show (behind l i).flatMap _ = []
    rw [e]
    rfl
  | f + 1, i, hf => by
    show (behind l i).flatMap (fun c => c :: order l (f + 1) c.id) = (behind l i).flatMap fun c => c :: order l f c.id
    refine flatMap_congr' fun c hc => ?_
    have := rest_kid h hc
    rw [order_fuel h f c.id (by omega)]
theorem order_more {l : List Change} (h : WF l) {i : Id} {f : Nat} (hf : rest l i ≤ f) : ∀ k, order l (f + k) i = order l f i
  | 0 => rfl
  | k + 1 => by
    rw [← Nat.add_assoc, order_fuel h (f + k) i (by omega), order_more h hf k]
def ordr (l : List Change) (i : Id) : List Change := order l (l.length + 1) i
theorem order_ordr {l : List Change} (h : WF l) {i : Id} {f : Nat} (hf : l.length ≤ f) : order l f i = ordr l i := by
  obtain ⟨k, rfl⟩ : ∃ k, f = l.length + k := ⟨f - l.length, by omega⟩
  unfold ordr
  rw [order_more h (rest_le l i) k, order_more h (rest_le l i) 1]
theorem ordr_eq {l : List Change} (h : WF l) (i : Id) : ordr l i = (behind l i).flatMap fun c => c :: ordr l c.id := by
  show (behind l i).flatMap (fun c => c :: order l l.length c.id) = _
  refine flatMap_congr' fun c _ => ?_
  rw [order_ordr h (Nat.le_refl _)]
theorem down {l : List Change} (h : WF l) {M : Id → Prop} (step : ∀ i, (∀ c ∈ behind l i, M c.id) → M i) (i : Id) : M i := by
  generalize e : rest l i = n
  induction n using Nat.strongRecOn generalizing i with
  | ind n ih =>
    exact step i fun c hc => ih (rest l c.id) (by rw [← e]; exact rest_kid h hc) c.id rfl
theorem mem_ordr {l : List Change} (h : WF l) {x : Change} {i : Id} : x ∈ ordr l i → x ∈ l ∧ x.out = false ∧ i.count < x.id.count := by
  refine down h (M := fun i => x ∈ ordr l i → x ∈ l ∧ x.out = false ∧ i.count < x.id.count) (fun i ih hx => ?_) i
  rw [ordr_eq h, List.mem_flatMap] at hx
  obtain ⟨c, hc, hx⟩ := hx
  obtain ⟨h1, h2, h3⟩ := (mem_behind h).mp hc
  have hl := (h.fit c h1).lt
  rw [h3] at hl
  rcases List.mem_cons.mp hx with rfl | hx
  · exact ⟨h1, h2, hl⟩
  · obtain ⟨a, b, c⟩ := ih c hc hx
    exact ⟨a, b, by omega⟩
theorem ordr_kid {l : List Change} (h : WF l) {x c : Change} {i : Id} (hx : x ∈ ordr l i) (hc : c ∈ behind l x.id) : c ∈ ordr l i := by
  revert hx
  refine down h (M := fun i => x ∈ ordr l i → c ∈ ordr l i) (fun i ih hx => ?_) i
  rw [ordr_eq h, List.mem_flatMap] at hx ⊢
  obtain ⟨d, hd, hx⟩ := hx
  refine ⟨d, hd, ?_⟩
  rcases List.mem_cons.mp hx with rfl | hx
  · refine List.mem_cons_of_mem _ ?_
    rw [ordr_eq h, List.mem_flatMap]
    exact ⟨c, hc, List.mem_cons_self ..⟩
  · exact List.mem_cons_of_mem _ (ih d hd hx)
theorem ordr_all {l : List Change} (h : WF l) {c : Change} (hc : c ∈ l) (ho : c.out = false) : c ∈ ordr l nothing := by
  generalize e : c.id.count = n
  induction n using Nat.strongRecOn generalizing c with
  | ind n ih =>
    have f := h.fit c hc
    rcases f.oth with ⟨h1, _⟩ | h1
    · rw [ordr_eq h, List.mem_flatMap]
      exact ⟨c, (mem_behind h).mpr ⟨hc, ho, h1⟩, List.mem_cons_self ..⟩
    · obtain ⟨x, x1, x2, x3⟩ := (isPut_iff h.srt).mp h1
      have hl := f.lt
      rw [← x2] at hl
      have hx := ih x.id.count (by omega) x1 x3 rfl
      exact ordr_kid h hx ((mem_behind h).mpr ⟨hc, ho, x2.symm⟩)
theorem behind_out {c : Change} {l : List Change} (h : WF l) (f : Fit l c) (hn : New l c) (ho : c.out = true) (i : Id) : behind (insert c l) i = behind l i := by
  rw [behind_eq (h.insert f hn), behind_eq h, filter_insert f.site2 h.srt h.sites hn, if_neg]
  intro q
  rw [isKid_iff, ho] at q
  cases q.1
theorem ordr_out {c : Change} {l : List Change} (h : WF l) (f : Fit l c) (hn : New l c) (ho : c.out = true) (i : Id) : ordr (insert c l) i = ordr l i := by
  refine down h (M := fun i => ordr (insert c l) i = ordr l i) (fun i ih => ?_) i
  rw [ordr_eq (h.insert f hn), ordr_eq h, behind_out h f hn ho]
  exact flatMap_congr' fun d hd => by rw [ih d hd]
def skip (c : Change) (l : List Change) : List Change := l.takeWhile (fun x => decide (num c.id < num x.id)) ++ c :: l.dropWhile fun x => decide (num c.id < num x.id)
def ins (o : Id) (c : Change) : List Change → List Change
  | [] => []
  | x :: r => if x.id = o then x :: skip c r else x :: ins o c r
def Stops (c : Change) (B : List Change) : Prop := ∀ b r, B = b :: r → num b.id < num c.id
theorem skip_stops {c : Change} {B : List Change} (h : Stops c B) : skip c B = c :: B := by
  cases B with
  | nil => rfl
  | cons b r =>
    have := h b r rfl
    unfold skip
    rw [List.takeWhile_cons_of_neg (by simp; omega), List.dropWhile_cons_of_neg (by simp; omega)]
    rfl
theorem skip_append {c : Change} {B : List Change} (h : Stops c B) : ∀ R : List Change, skip c (R ++ B) = skip c R ++ B
  | [] => by
    rw [List.nil_append, skip_stops h]
    rfl
  | x :: r => by
    have ih := skip_append h r
    unfold skip at ih ⊢
    by_cases q : num c.id < num x.id
    · rw [List.cons_append, List.takeWhile_cons_of_pos (by simpa using q), List.dropWhile_cons_of_pos (by simpa using q), List.takeWhile_cons_of_pos (by simpa using q), List.dropWhile_cons_of_pos (by simpa using q), List.cons_append, ih]
      rfl
    · rw [List.cons_append, List.takeWhile_cons_of_neg (by simpa using q), List.dropWhile_cons_of_neg (by simpa using q), List.takeWhile_cons_of_neg (by simpa using q), List.dropWhile_cons_of_neg (by simpa using q)]
      rfl
theorem skip_greater {c : Change} {B : List Change} : ∀ {R : List Change}, (∀ x ∈ R, num c.id < num x.id) → skip c (R ++ B) = R ++ skip c B
  | [], _ => rfl
  | x :: r, h => by
    have q := h x (List.mem_cons_self ..)
    have ih := skip_greater (B := B) (R := r) fun y hy => h y (List.mem_cons_of_mem _ hy)
    unfold skip at ih ⊢
    rw [List.cons_append, List.takeWhile_cons_of_pos (by simpa using q), List.dropWhile_cons_of_pos (by simpa using q), List.cons_append, ih]
    rfl
theorem ins_left {o : Id} {c : Change} {R : List Change} : ∀ {A : List Change}, (∀ x ∈ A, x.id ≠ o) → ins o c (A ++ R) = A ++ ins o c R
  | [], _ => rfl
  | x :: r, h => by
    show (if x.id = o then _ else x :: ins o c (r ++ R)) = _
    rw [if_neg (h x (List.mem_cons_self ..)), ins_left fun y hy => h y (List.mem_cons_of_mem _ hy)]
    rfl
theorem ins_right {o : Id} {c : Change} {B : List Change} (hB : Stops c B) : ∀ {R : List Change}, (∃ x ∈ R, x.id = o) → ins o c (R ++ B) = ins o c R ++ B
  | [], h => by simp at h
  | x :: r, h => by
    show (if x.id = o then x :: skip c (r ++ B) else x :: ins o c (r ++ B)) = (if x.id = o then x :: skip c r else x :: ins o c r) ++ B
    by_cases q : x.id = o
    · rw [if_pos q, if_pos q, skip_append hB]
      rfl
    · rw [if_neg q, if_neg q, ins_right hB]
      · rfl
      · obtain ⟨y, hy, e⟩ := h
        rcases List.mem_cons.mp hy with rfl | hy
        · exact absurd e q
        · exact ⟨y, hy, e⟩
section
variable {c : Change} {l : List Change}
theorem behind_new (h : WF l) (f : Fit l c) (hn : New l c) : behind (insert c l) c.id = [] := by
  have hw := h.insert f hn
  cases q : behind (insert c l) c.id with
  | nil => rfl
  | cons x r =>
    obtain ⟨h1, h2, h3⟩ := (mem_behind hw).mp (show x ∈ behind (insert c l) c.id by rw [q]; exact List.mem_cons_self ..)
    exfalso
    rcases mem_insert.mp h1 with rfl | h1
    · have := f.lt
      rw [h3] at this
      omega
    · rcases (h.fit x h1).oth with ⟨e, _⟩ | e
      · have := f.site1
        rw [← h3, e] at this
        exact absurd this (by decide)
      · obtain ⟨y, y1, y2, _⟩ := (isPut_iff h.srt).mp e
        exact hn y y1 (by rw [y2, h3])
theorem ordr_new (h : WF l) (f : Fit l c) (hn : New l c) : ordr (insert c l) c.id = [] := by
  rw [ordr_eq (h.insert f hn), behind_new h f hn]
  rfl
theorem behind_apart (h : WF l) (f : Fit l c) (hn : New l c) {i : Id} (hi : i ≠ c.other) : behind (insert c l) i = behind l i := by
  rw [behind_eq (h.insert f hn), behind_eq h, filter_insert f.site2 h.srt h.sites hn, if_neg]
  intro q
  rw [isKid_iff] at q
  exact hi q.2.symm
theorem behind_at (h : WF l) (f : Fit l c) (hn : New l c) (ho : c.out = false) : ∃ hi lo, behind l c.other = hi ++ lo ∧ behind (insert c l) c.other = hi ++ c :: lo ∧
    (∀ x ∈ hi, num c.id < num x.id) ∧ ∀ x ∈ lo, num x.id < num c.id := by
  rw [behind_eq (h.insert f hn), behind_eq h, filter_insert f.site2 h.srt h.sites hn, if_pos (isKid_iff.mpr ⟨ho, rfl⟩)]
  obtain ⟨lo, hi, e1, e2, h3, h4⟩ := insert_split f.site2 (l := l.filter (isKid c.other)) (h.srt.filter _) (fun x hx => h.sites x (List.mem_filter.mp hx).1) (fun x hx => hn x (List.mem_filter.mp hx).1)
  refine ⟨hi.reverse, lo.reverse, by rw [e1, List.reverse_append], by rw [e2, List.reverse_append, List.reverse_cons, List.append_assoc]; rfl, fun x hx => h4 x (List.mem_reverse.mp hx), fun x hx => h3 x (List.mem_reverse.mp hx)⟩
theorem behind_desc (h : WF l) (i : Id) : (behind l i).Pairwise fun a b => num b.id < num a.id := by
  rw [behind_eq h, List.pairwise_reverse]
  exact h.srt.filter _
theorem ordr_apart (h : WF l) (f : Fit l c) (hn : New l c) {i : Id} : i ≠ c.other → (∀ x ∈ ordr l i, x.id ≠ c.other) → ordr (insert c l) i = ordr l i := by
  refine down h (M := fun i => i ≠ c.other → (∀ x ∈ ordr l i, x.id ≠ c.other) → ordr (insert c l) i = ordr l i) (fun i ih h1 h2 => ?_) i
  rw [ordr_eq (h.insert f hn), behind_apart h f hn h1]
  rw [ordr_eq h] at h2 ⊢
  refine flatMap_congr' fun d hd => ?_
  have hd2 : ∀ x ∈ d :: ordr l d.id, x.id ≠ c.other := fun x hx => h2 x (List.mem_flatMap.mpr ⟨d, hd, hx⟩)
  rw [ih d hd (hd2 d (List.mem_cons_self ..)) fun x hx => hd2 x (List.mem_cons_of_mem _ hx)]
theorem ordr_at (h : WF l) (f : Fit l c) (hn : New l c) (ho : c.out = false) : ordr (insert c l) c.other = skip c (ordr l c.other) := by
  obtain ⟨hi, lo, e1, e2, h3, h4⟩ := behind_at h f hn ho
  have same : ∀ d ∈ behind l c.other, d :: ordr (insert c l) d.id = d :: ordr l d.id := fun d hd => by
    obtain ⟨d1, d2, d3⟩ := (mem_behind h).mp hd
    have hl := (h.fit d d1).lt
    rw [d3] at hl
    rw [ordr_apart h f hn]
    · intro e; rw [e] at hl; omega
    · intro x hx e
      have := (mem_ordr h hx).2.2
      rw [e] at this
      omega
  rw [ordr_eq (h.insert f hn), e2, ordr_eq h c.other, e1, List.flatMap_append, List.flatMap_append, List.flatMap_cons, ordr_new h f hn]
  rw [flatMap_congr' (l := hi) (g := fun d => d :: ordr l d.id) fun d hd => same d (by rw [e1]; exact List.mem_append_left _ hd)]
  rw [flatMap_congr' (l := lo) (g := fun d => d :: ordr l d.id) fun d hd => same d (by rw [e1]; exact List.mem_append_right _ hd)]
  rw [skip_greater, skip_stops]
  · rfl
  · intro b r e
    cases lo with
    | nil => cases e
    | cons d t =>
      rw [List.flatMap_cons] at e
      have e' : d = b := by injection e
      rw [← e']
      exact h4 d (List.mem_cons_self ..)
  · intro x hx
    obtain ⟨d, hd, hx⟩ := List.mem_flatMap.mp hx
    have q := h3 d hd
    rcases List.mem_cons.mp hx with rfl | hx
    · exact q
    · have hdl : d ∈ l := ((mem_behind h).mp (show d ∈ behind l c.other by rw [e1]; exact List.mem_append_left _ hd)).1
      exact Nat.lt_trans q (num_lt_of_count (h.sites d hdl) (mem_ordr h hx).2.2)
abbrev Apart (l : List Change) : Prop := l.Pairwise fun a b => a.id ≠ b.id
theorem split_flat {f : Change → List Change} {o : Id} : ∀ {ds : List Change}, Apart (ds.flatMap f) → (∃ x ∈ ds.flatMap f, x.id = o) →
    ∃ D1 d D2, ds = D1 ++ d :: D2 ∧ (∃ x ∈ f d, x.id = o) ∧ (∀ e ∈ D1, ∀ x ∈ f e, x.id ≠ o) ∧ ∀ e ∈ D2, ∀ x ∈ f e, x.id ≠ o
  | [], _, h => by simp at h
  | d :: r, ha, h => by
    rw [List.flatMap_cons] at ha h
    have ha' := List.pairwise_append.mp ha
    by_cases q : ∃ x ∈ f d, x.id = o
    · refine ⟨[], d, r, rfl, q, by simp, fun e he x hx => ?_⟩
      obtain ⟨y, hy, e1⟩ := q
      intro e2
      exact ha'.2.2 y hy x (List.mem_flatMap.mpr ⟨e, he, hx⟩) (e1.trans e2.symm)
    · obtain ⟨D1, d', D2, e1, h1, h2, h3⟩ := split_flat (ds := r) ha'.2.1 (by
        obtain ⟨x, hx, e⟩ := h
        rcases List.mem_append.mp hx with hx | hx
        · exact absurd ⟨x, hx, e⟩ q
        · exact ⟨x, hx, e⟩)
      refine ⟨d :: D1, d', D2, by rw [e1]; rfl, h1, fun e he x hx => ?_, h3⟩
      rcases List.mem_cons.mp he with rfl | he
      · exact fun z => q ⟨x, hx, z⟩
      · exact h2 e he x hx
theorem ordr_in (h : WF l) (f : Fit l c) (hn : New l c) (ho : c.out = false) {i : Id} : i ≠ c.other → Apart (ordr l i) → (∃ x ∈ ordr l i, x.id = c.other) → ordr (insert c l) i = ins c.other c (ordr l i) := by
  refine down h (M := fun i => i ≠ c.other → Apart (ordr l i) → (∃ x ∈ ordr l i, x.id = c.other) → ordr (insert c l) i = ins c.other c (ordr l i)) (fun i ih h1 h2 h3 => ?_) i
  rw [ordr_eq (h.insert f hn), behind_apart h f hn h1]
  rw [ordr_eq h] at h2 h3 ⊢
  obtain ⟨D1, d, D2, e, hd, hD1, hD2⟩ := split_flat h2 h3
  have desc := behind_desc h i
  have mem := fun x => (mem_behind h (i := i) (c := x)).mp
  rw [e] at desc h2
  rw [e] at mem ih
  have blk : ∀ x, (∀ y ∈ x :: ordr l x.id, y.id ≠ c.other) → x :: ordr (insert c l) x.id = x :: ordr l x.id := fun x hx => by
    rw [ordr_apart h f hn (hx x (List.mem_cons_self ..)) fun y hy => hx y (List.mem_cons_of_mem _ hy)]
  have dmem : d ∈ D1 ++ d :: D2 := by simp
  rw [e, List.flatMap_append, List.flatMap_append, List.flatMap_cons, List.flatMap_cons, flatMap_congr' (l := D1) fun x hx => blk x (hD1 x hx), flatMap_congr' (l := D2) fun x hx => blk x (hD2 x hx)]
  rw [List.flatMap_append, List.flatMap_cons] at h2
  have hap : Apart (d :: ordr l d.id) := (List.pairwise_append.mp (List.pairwise_append.mp h2).2.1).1
  have oc : num c.other < num c.id := num_lt_of_count f.osite f.lt
  have ds : d.id.site ≤ 255 := h.sites d (mem d dmem).1
  have dle : num d.id ≤ num c.other := by
    obtain ⟨x, hx, ex⟩ := hd
    rcases List.mem_cons.mp hx with rfl | hx
    · rw [ex]; exact Nat.le_refl _
    · have := (mem_ordr h hx).2.2
      rw [ex] at this
      exact Nat.le_of_lt (num_lt_of_count ds this)
  have st : Stops c (D2.flatMap fun c => c :: ordr l c.id) := fun b r eb => by
    cases D2 with
    | nil => cases eb
    | cons d2 t =>
      rw [List.flatMap_cons] at eb
      have e' : d2 = b := by injection eb
      rw [← e']
      have := (List.pairwise_cons.mp (List.pairwise_append.mp desc).2.1).1 d2 (List.mem_cons_self ..)
      omega
  rw [ins_left (A := D1.flatMap fun c => c :: ordr l c.id) (fun x hx => by
    obtain ⟨y, hy, hx⟩ := List.mem_flatMap.mp hx
    exact hD1 y hy x hx), ins_right st hd]
  congr 2
  show d :: ordr (insert c l) d.id = (if d.id = c.other then d :: skip c (ordr l d.id) else d :: ins c.other c (ordr l d.id))
  by_cases q : d.id = c.other
  · rw [if_pos q, q, ordr_at h f hn ho]
  · rw [if_neg q, ih d dmem q (List.pairwise_cons.mp hap).2]
    obtain ⟨x, hx, ex⟩ := hd
    rcases List.mem_cons.mp hx with rfl | hx
    · exact absurd ex q
    · exact ⟨x, hx, ex⟩
end
def skipN (n : Nat) (l : List Nat) : List Nat := l.takeWhile (fun x => decide (n < x)) ++ n :: l.dropWhile fun x => decide (n < x)
def insN (o n : Nat) : List Nat → List Nat
  | [] => []
  | x :: r => if x = o then x :: skipN n r else x :: insN o n r
def nums (l : List Change) : List Nat := l.map fun c => num c.id
theorem skip_nums (c : Change) : ∀ l : List Change, nums (skip c l) = skipN (num c.id) (nums l)
  | [] => rfl
  | x :: r => by
    have ih := skip_nums c r
    unfold skip skipN nums at ih ⊢
    by_cases q : num c.id < num x.id
    · rw [List.takeWhile_cons_of_pos (by simpa using q), List.dropWhile_cons_of_pos (by simpa using q), List.map_cons, List.takeWhile_cons_of_pos (by simpa using q), List.dropWhile_cons_of_pos (by simpa using q), List.cons_append, List.map_cons, ih]
      rfl
    · rw [List.takeWhile_cons_of_neg (by simpa using q), List.dropWhile_cons_of_neg (by simpa using q), List.map_cons, List.takeWhile_cons_of_neg (by simpa using q), List.dropWhile_cons_of_neg (by simpa using q)]
      rfl
theorem ins_nums {o : Id} (ho : o.site ≤ 255) (c : Change) : ∀ {l : List Change}, Sites l → nums (ins o c l) = insN (num o) (num c.id) (nums l)
  | [], _ => rfl
  | x :: r, h => by
    have hx := h x (List.mem_cons_self ..)
    show nums (if x.id = o then x :: skip c r else x :: ins o c r) = if num x.id = num o then _ else _
    by_cases q : x.id = o
    · rw [if_pos q, if_pos (by rw [q])]
      show num x.id :: nums (skip c r) = _
      rw [skip_nums]
      rfl
    · rw [if_neg q, if_neg (fun e => q (num_inj hx ho e))]
      show num x.id :: nums (ins o c r) = _
      rw [ins_nums ho c fun y hy => h y (List.mem_cons_of_mem _ hy)]
      rfl
def ring (l : List Change) : List Nat := 0 :: nums (ordr l nothing)
theorem sites_ordr {l : List Change} (h : WF l) (i : Id) : Sites (ordr l i) := fun x hx => h.sites x (mem_ordr h hx).1
theorem ring_put {c : Change} {l : List Change} (h : WF l) (f : Fit l c) (hn : New l c) (ho : c.out = false) (ha : (ring l).Nodup) : ring (insert c l) = insN (num c.other) (num c.id) (ring l) := by
  unfold ring
  show _ = if 0 = num c.other then _ else _
  by_cases q : c.other = nothing
  · rw [q, num_nothing, if_pos rfl]
    have e := ordr_at h f hn ho
    rw [q] at e
    rw [e, skip_nums]
  · have nz : ¬ 0 = num c.other := by
      intro e
      exact q (num_inj f.osite (by decide) (by rw [num_nothing]; exact e.symm))
    rw [if_neg nz]
    have ex : ∃ x ∈ ordr l nothing, x.id = c.other := by
      rcases f.oth with ⟨h1, _⟩ | h1
      · exact absurd h1 q
      · obtain ⟨x, x1, x2, x3⟩ := (isPut_iff h.srt).mp h1
        exact ⟨x, ordr_all h x1 x3, x2⟩
    have ap : Apart (ordr l nothing) := by
      have h2 := (List.nodup_cons.mp ha).2
      unfold nums List.Nodup at h2
      rw [List.pairwise_map] at h2
      exact h2.imp fun hne e => hne (by rw [e])
    rw [ordr_in h f hn ho (fun e => q e.symm) ap ex, ins_nums f.osite c (sites_ordr h _)]
theorem ring_out {c : Change} {l : List Change} (h : WF l) (f : Fit l c) (hn : New l c) (ho : c.out = true) : ring (insert c l) = ring l := by
  unfold ring
  rw [ordr_out h f hn ho]
end Tc
end
section
set_option maxRecDepth 4000
namespace Tc
open Sn04
structure Good (l : List Change) : Prop where
  wf : WF l
  nd : (ring l).Nodup
theorem mem_nums {l : List Change} {n : Nat} : n ∈ nums l ↔ ∃ c ∈ l, num c.id = n := by
  unfold nums
  rw [List.mem_map]
theorem new_iff {l : List Change} {c : Change} : New l c ↔ num c.id ∉ nums l := by
  rw [mem_nums]
  constructor
  · rintro h ⟨x, hx, e⟩
    exact h x hx e
  · intro h x hx e
    exact h ⟨x, hx, e⟩
theorem num_pos {l : List Change} {c : Change} (f : Fit l c) : 256 < num c.id := by
  have h1 := f.site1
  have h2 := f.lt
  unfold num
  omega
theorem ring_sub {l : List Change} (h : WF l) {n : Nat} (hn : n ∈ ring l) : n = 0 ∨ n ∈ nums l := by
  rcases List.mem_cons.mp hn with e | e
  · exact .inl e
  · obtain ⟨c, hc, e⟩ := mem_nums.mp e
    exact .inr (mem_nums.mpr ⟨c, (mem_ordr h hc).1, e⟩)
theorem ring_has {l : List Change} (h : WF l) {i : Id} (hi : i = nothing ∨ isPut l i = true) : num i ∈ ring l := by
  rcases hi with rfl | hi
  · exact List.mem_cons_self ..
  · obtain ⟨x, x1, rfl, x3⟩ := (isPut_iff h.srt).mp hi
    exact List.mem_cons_of_mem _ (mem_nums.mpr ⟨x, ordr_all h x1 x3, rfl⟩)
theorem Fit.ring {l : List Change} {c : Change} (h : WF l) (f : Fit l c) : num c.other ∈ ring l := ring_has h (f.oth.imp (·.1) id)
theorem ring_new {l : List Change} {c : Change} (h : WF l) (f : Fit l c) (hn : New l c) : num c.id ∉ ring l := fun q => by
  rcases ring_sub h q with e | e
  · have := num_pos f; omega
  · exact new_iff.mp hn e
theorem skipN_perm (n : Nat) (l : List Nat) : (skipN n l).Perm (n :: l) := by
  unfold skipN
  refine List.perm_middle.trans ?_
  rw [List.takeWhile_append_dropWhile]
theorem insN_perm {o n : Nat} : ∀ {l : List Nat}, o ∈ l → (insN o n l).Perm (n :: l)
  | [], h => by simp at h
  | x :: r, h => by
    show (if x = o then x :: skipN n r else x :: insN o n r).Perm _
    split
    · exact ((skipN_perm n r).cons x).trans (List.Perm.swap n x r)
    · rename_i q
      rcases List.mem_cons.mp h with e | h
      · exact absurd e.symm q
      · exact ((insN_perm h).cons x).trans (List.Perm.swap n x r)
theorem Good.insert {l : List Change} {c : Change} (h : Good l) (f : Fit l c) (hn : New l c) : Good (Sn04.insert c l) := by
  refine ⟨h.wf.insert f hn, ?_⟩
  cases ho : c.out with
  | true => rw [ring_out h.wf f hn ho]; exact h.nd
  | false =>
    rw [ring_put h.wf f hn ho h.nd]
    refine (insN_perm (f.ring h.wf)).nodup_iff.mpr (List.nodup_cons.mpr ⟨ring_new h.wf f hn, h.nd⟩)
theorem Good.nil : Good [] := by
  refine ⟨WF.nil, ?_⟩
  have e : ring [] = [0] := rfl
  rw [e]
  simp
def goneN (l : List Change) (n : Nat) : Bool := l.any fun c => c.out && decide (num c.other = n)
theorem goneN_iff {l : List Change} {n : Nat} : goneN l n = true ↔ ∃ c ∈ l, c.out = true ∧ num c.other = n := by
  unfold goneN
  rw [List.any_eq_true]
  constructor
  · rintro ⟨c, h1, h2⟩
    rw [Bool.and_eq_true, decide_eq_true_eq] at h2
    exact ⟨c, h1, h2⟩
  · rintro ⟨c, h1, h2⟩
    exact ⟨c, h1, by rw [Bool.and_eq_true, decide_eq_true_eq]; exact h2⟩
theorem goneN_insert (l : List Change) (c : Change) (n : Nat) : goneN (insert c l) n = (goneN l n || (c.out && decide (num c.other = n))) := by
  unfold goneN
  rw [Bool.eq_iff_iff, Bool.or_eq_true, List.any_eq_true, List.any_eq_true]
  constructor
  · rintro ⟨x, hx, h⟩
    rcases mem_insert.mp hx with rfl | hx
    · exact .inr h
    · exact .inl ⟨x, hx, h⟩
  · rintro (⟨x, hx, h⟩ | h)
    · exact ⟨x, mem_insert.mpr (.inr hx), h⟩
    · exact ⟨c, mem_insert.mpr (.inl rfl), h⟩
theorem isOut_num {l : List Change} (h : WF l) {i : Id} (hi : i.site ≤ 255) : isOut l i = goneN l (num i) := by
  unfold isOut goneN
  rw [Bool.eq_iff_iff, List.any_eq_true, List.any_eq_true]
  constructor
  · rintro ⟨c, hc, q⟩
    rw [Bool.and_eq_true, decide_eq_true_eq] at q
    exact ⟨c, hc, by rw [Bool.and_eq_true, decide_eq_true_eq]; exact ⟨q.1, by rw [q.2]⟩⟩
  · rintro ⟨c, hc, q⟩
    rw [Bool.and_eq_true, decide_eq_true_eq] at q
    exact ⟨c, hc, by rw [Bool.and_eq_true, decide_eq_true_eq]; exact ⟨q.1, num_inj (h.fit c hc).osite hi q.2⟩⟩
theorem goneN_known {l : List Change} (h : WF l) {n : Nat} (q : goneN l n = true) : n ∈ nums l := by
  obtain ⟨c, hc, h1, h2⟩ := goneN_iff.mp q
  rcases (h.fit c hc).oth with ⟨_, e⟩ | e
  · rw [e] at h1; cases h1
  · obtain ⟨x, x1, x2, _⟩ := (isPut_iff h.srt).mp e
    exact mem_nums.mpr ⟨x, x1, by rw [x2, h2]⟩
def shown (l : List Change) : List Nat := nums (stand l)
theorem shown_eq {l : List Change} (h : WF l) : shown l = (ring l).tail.filter fun n => !goneN l n := by
  show nums ((ordr l nothing).filter fun c => !isOut l c.id) = (nums (ordr l nothing)).filter fun n => !goneN l n
  have key : ∀ r : List Change, (∀ x ∈ r, x.id.site ≤ 255) → nums (r.filter fun c => !isOut l c.id) = (nums r).filter fun n => !goneN l n := by
    intro r hr
    induction r with
    | nil => rfl
    | cons x t ih =>
      have ih' := ih fun y hy => hr y (List.mem_cons_of_mem _ hy)
      have e := isOut_num h (hr x (List.mem_cons_self ..))
      rw [List.filter_cons, e]
      show _ = (num x.id :: nums t).filter _
      rw [List.filter_cons]
      by_cases q : (!goneN l (num x.id)) = true
      · rw [if_pos q, if_pos q, ← ih']; rfl
      · rw [if_neg q, if_neg q, ih']
  exact key _ (sites_ordr h _)
theorem shown_length (l : List Change) : (shown l).length = (stand l).length := by
  unfold shown nums
  rw [List.length_map]
theorem lengthOf_eq (l : List Change) : lengthOf l = ((shown l).length : Nat) := by
  unfold lengthOf text
  rw [List.length_map, shown_length]
theorem shown_nodup {l : List Change} (h : Good l) : (shown l).Nodup := by
  rw [shown_eq h.wf]
  have h2 := h.nd
  unfold ring at h2 ⊢
  exact (List.nodup_cons.mp h2).2.filter _
theorem mem_stand {l : List Change} (h : WF l) {c : Change} (hc : c ∈ stand l) : c ∈ l ∧ c.out = false ∧ isOut l c.id = false := by
  unfold stand at hc
  obtain ⟨h1, h2⟩ := List.mem_filter.mp hc
  obtain ⟨h3, h4, _⟩ := mem_ordr h (show c ∈ ordr l nothing from h1)
  exact ⟨h3, h4, by simpa using h2⟩
def grow (l news : List Change) : List Change := news.foldl (fun l c => insert c l) l
theorem grow_cons (l r : List Change) (c : Change) : grow l (c :: r) = grow (insert c l) r := rfl
theorem grow_append (l a b : List Change) : grow l (a ++ b) = grow (grow l a) b := List.foldl_append ..
theorem grow_snoc (l a : List Change) (c : Change) : grow l (a ++ [c]) = insert c (grow l a) := grow_append ..
theorem grow_length : ∀ (r l : List Change), (grow l r).length = l.length + r.length
  | [], l => rfl
  | c :: r, l => by
    rw [grow_cons, grow_length r, length_insert, List.length_cons]
    omega
def Steps : List Change → List Change → Prop
  | _, [] => True
  | l, c :: r => Fit l c ∧ New l c ∧ Steps (insert c l) r
theorem Steps.good : ∀ {r l : List Change}, Good l → Steps l r → Good (grow l r)
  | [], _, h, _ => h
  | c :: r, l, h, s => by
    rw [grow_cons]
    exact Steps.good (h.insert s.1 s.2.1) s.2.2
theorem steps_append : ∀ {a b l : List Change}, Steps l (a ++ b) ↔ Steps l a ∧ Steps (grow l a) b
  | [], b, l => by
    show Steps l b ↔ True ∧ Steps l b
    simp
  | c :: a, b, l => by
    show Fit l c ∧ New l c ∧ Steps (insert c l) (a ++ b) ↔ (Fit l c ∧ New l c ∧ Steps (insert c l) a) ∧ Steps (grow (insert c l) a) b
    rw [steps_append (a := a)]
    constructor
    · rintro ⟨h1, h2, h3, h4⟩; exact ⟨⟨h1, h2, h3⟩, h4⟩
    · rintro ⟨⟨h1, h2, h3⟩, h4⟩; exact ⟨h1, h2, h3, h4⟩
theorem steps_snoc {a l : List Change} {c : Change} (h : Steps l a) (f : Fit (grow l a) c) (n : New (grow l a) c) : Steps l (a ++ [c]) :=
  steps_append.mpr ⟨h, f, n, trivial⟩
theorem steps_at : ∀ {r l : List Change} {i : Nat} {c : Change}, Steps l r → r[i]? = some c → Fit (grow l (r.take i)) c ∧ New (grow l (r.take i)) c
  | [], _, _, _, _, h => by simp at h
  | d :: r, l, 0, c, s, h => by
    have e : d = c := by simpa using h
    subst e
    exact ⟨s.1, s.2.1⟩
  | d :: r, l, i + 1, c, s, h => steps_at (i := i) s.2.2 (by simpa using h)
theorem insN_split {o n : Nat} : ∀ {A B : List Nat}, o ∉ A → insN o n (A ++ o :: B) = A ++ o :: skipN n B
  | [], B, _ => by
    show (if o = o then _ else _) = _
    rw [if_pos rfl]
    rfl
  | x :: A, B, h => by
    show (if x = o then _ else x :: insN o n (A ++ o :: B)) = _
    rw [if_neg (fun e => h (by rw [e]; exact List.mem_cons_self ..)), insN_split fun q => h (List.mem_cons_of_mem _ q)]
    rfl
theorem skipN_top {n : Nat} {B : List Nat} (h : ∀ x ∈ B, x < n) : skipN n B = n :: B := by
  cases B with
  | nil => rfl
  | cons b r =>
    have := h b (List.mem_cons_self ..)
    unfold skipN
    rw [List.takeWhile_cons_of_neg (by simp; omega), List.dropWhile_cons_of_neg (by simp; omega)]
    rfl
theorem num_top {l : List Change} (h : WF l) {n : Nat} (hn : n ∈ nums l) : n < (top l + 1) * 256 := by
  obtain ⟨c, hc, rfl⟩ := mem_nums.mp hn
  have h1 := le_top hc
  have h2 := h.sites c hc
  unfold num
  omega
theorem other_lt {l : List Change} (h : WF l) {o : Id} (ho : o = nothing ∨ isPut l o = true) : o.count ≤ top l := by
  rcases ho with rfl | ho
  · exact Nat.zero_le _
  · obtain ⟨x, x1, rfl, _⟩ := (isPut_iff h.srt).mp ho
    exact le_top x1
theorem own_fit {l : List Change} (h : WF l) {o : Id} {site : Nat} {out : Bool} {b : Nat} (s1 : 1 ≤ site) (s2 : site ≤ 255) (ho : (o = nothing ∧ out = false) ∨ isPut l o = true) (hs : o.site ≤ 255) (ht : top l + 1 < 4294967296) :
    Fit l ⟨⟨top l + 1, site⟩, out, o, b⟩ ∧ New l ⟨⟨top l + 1, site⟩, out, o, b⟩ := by
  refine ⟨⟨s1, s2, hs, ht, Nat.lt_succ_of_le (other_lt h (ho.imp (·.1) id)), ho⟩, fun x hx e => ?_⟩
  have h1 := num_top h (mem_nums.mpr ⟨x, hx, rfl⟩)
  rw [e] at h1
  have h2 : (top l + 1) * 256 + site < (top l + 1) * 256 := h1
  omega
theorem put_steps {site : Nat} (s1 : 1 ≤ site) (s2 : site ≤ 255) : ∀ (b : List Nat) (l : List Change) (o : Id), Good l → (o = nothing ∨ isPut l o = true) → o.site ≤ 255 → top l + b.length < 4294967296 →
    Steps l (putting site (top l + 1) o b) ∧
    (∀ A B, ring l = A ++ num o :: B → ring (grow l (putting site (top l + 1) o b)) = A ++ num o :: (nums (putting site (top l + 1) o b) ++ B)) ∧
    ∀ n, goneN (grow l (putting site (top l + 1) o b)) n = goneN l n
  | [], l, o, _, _, _, _ => ⟨trivial, fun A B e => e, fun _ => rfl⟩
  | x :: b, l, o, h, ho, hs, ht => by
    rw [List.length_cons] at ht
    obtain ⟨f, hn⟩ := own_fit (b := x) (out := false) h.wf s1 s2 (ho.imp (fun e => ⟨e, rfl⟩) id) hs (by omega)
    have h' := h.insert f hn
    have tp : top (insert ⟨⟨top l + 1, site⟩, false, o, x⟩ l) = top l + 1 := by
      rw [top_insert]
      show max (top l) (top l + 1) = _
      omega
    have ih := put_steps s1 s2 b (insert ⟨⟨top l + 1, site⟩, false, o, x⟩ l) ⟨top l + 1, site⟩ h'
      (.inr ((isPut_iff h'.wf.srt).mpr ⟨_, mem_insert.mpr (.inl rfl), rfl, rfl⟩)) s2 (by rw [tp]; omega)
    rw [tp] at ih
    show (Fit l _ ∧ New l _ ∧ Steps _ (putting site (top l + 1 + 1) ⟨top l + 1, site⟩ b)) ∧ _
    refine ⟨⟨f, hn, ih.1⟩, fun A B e => ?_, fun n => ?_⟩
    · have hA : num o ∉ A := by
        have := h.nd
        rw [e] at this
        intro q
        exact (List.nodup_append.mp this).2.2 _ q _ (List.mem_cons_self ..) rfl
      have r1 : ring (insert ⟨⟨top l + 1, site⟩, false, o, x⟩ l) = (A ++ [num o]) ++ num ⟨top l + 1, site⟩ :: B := by
        rw [ring_put h.wf f hn rfl h.nd, e, insN_split hA, skipN_top, List.append_assoc]
        · rfl
        · intro y hy
          have : y ∈ ring l := by rw [e]; simp [hy]
          have hz : num ⟨top l + 1, site⟩ = (top l + 1) * 256 + site := rfl
          rw [hz]
          rcases ring_sub h.wf this with e0 | e0
          · omega
          · have := num_top h.wf e0
            omega
      have r2 := ih.2.1 _ _ r1
      show ring (grow (insert ⟨⟨top l + 1, site⟩, false, o, x⟩ l) (putting site (top l + 1 + 1) ⟨top l + 1, site⟩ b)) = _
      rw [r2, List.append_assoc]
      rfl
    · show goneN (grow (insert ⟨⟨top l + 1, site⟩, false, o, x⟩ l) (putting site (top l + 1 + 1) ⟨top l + 1, site⟩ b)) n = _
      rw [ih.2.2 n, goneN_insert]
      show (goneN l n || false) = _
      rw [Bool.or_false]
theorem cut_at {α : Type} {p : α → Bool} {A B : List α} {x : α} {sh : List α} {i : Nat} (hx : p x = true) (e : (A ++ x :: B).filter p = sh) (nd : sh.Nodup) (hi : sh[i]? = some x) : A.filter p = sh.take i ∧ B.filter p = sh.drop (i + 1) := by
  rw [List.filter_append, List.filter_cons, if_pos hx] at e
  have e2 : sh[(A.filter p).length]? = some x := by
    rw [← e, List.getElem?_append_right (Nat.le_refl _), Nat.sub_self]
    rfl
  obtain ⟨h1, q1⟩ := List.getElem?_eq_some_iff.mp hi
  obtain ⟨h2, q2⟩ := List.getElem?_eq_some_iff.mp e2
  have ei : i = (A.filter p).length := (List.getElem_inj nd).mp (q1.trans q2.symm)
  subst ei
  constructor
  · rw [← e, List.take_left]
  · rw [← e]
    rw [show (A.filter p ++ x :: B.filter p) = (A.filter p ++ [x]) ++ B.filter p by simp]
    rw [show (A.filter p).length + 1 = (A.filter p ++ [x]).length by simp, List.drop_left]
theorem nums_putting (site : Nat) : ∀ (b : List Nat) (t : Nat) (o : Id), nums (putting site t o b) = (List.range b.length).map fun i => (t + i) * 256 + site
  | [], _, _ => rfl
  | x :: b, t, o => by
    show num ⟨t, site⟩ :: nums (putting site (t + 1) ⟨t, site⟩ b) = _
    rw [nums_putting site b, List.length_cons, List.range_succ_eq_map, List.map_cons, List.map_map]
    congr 1
    refine List.map_congr_left fun i _ => ?_
    show (t + 1 + i) * 256 + site = (t + (i + 1)) * 256 + site
    omega
theorem putting_length (site : Nat) : ∀ (b : List Nat) (t : Nat) (o : Id), (putting site t o b).length = b.length
  | [], _, _ => rfl
  | x :: b, t, o => by
    show (putting site (t + 1) ⟨t, site⟩ b).length + 1 = _
    rw [putting_length site b]
    rfl
theorem putting_at (site : Nat) : ∀ (b : List Nat) (t : Nat) (o : Id) (i x : Nat), b[i]? = some x → (putting site t o b)[i]? = some ⟨⟨t + i, site⟩, false, if i = 0 then o else ⟨t + i - 1, site⟩, x⟩
  | [], _, _, _, _, h => by simp at h
  | y :: b, t, o, 0, x, h => by
    have e : y = x := by simpa using h
    subst e
    rfl
  | y :: b, t, o, i + 1, x, h => by
    show (putting site (t + 1) ⟨t, site⟩ b)[i]? = _
    rw [putting_at site b (t + 1) ⟨t, site⟩ i x (by simpa using h), if_neg (Nat.succ_ne_zero i)]
    have e1 : t + 1 + i = t + (i + 1) := by omega
    by_cases q : i = 0
    · subst q
      rw [if_pos rfl]
      rfl
    · rw [if_neg q, e1]
theorem put_shown {site : Nat} (s1 : 1 ≤ site) (s2 : site ≤ 255) {b : List Nat} {l : List Change} {o : Id} {a : Nat} (h : Good l) (ha : a ≤ (shown l).length) (ho : (a = 0 ∧ o = nothing) ∨ (0 < a ∧ (stand l)[a - 1]?.map (fun c => c.id) = some o)) (ht : top l + b.length < 4294967296) :
    Steps l (putting site (top l + 1) o b) ∧ shown (grow l (putting site (top l + 1) o b)) = (shown l).take a ++ nums (putting site (top l + 1) o b) ++ (shown l).drop a := by
  have hp : (o = nothing ∨ isPut l o = true) ∧ o.site ≤ 255 := by
    rcases ho with ⟨_, rfl⟩ | ⟨_, q⟩
    · exact ⟨.inl rfl, by decide⟩
    · cases e : (stand l)[a - 1]? with
      | none => rw [e] at q; cases q
      | some c =>
        rw [e] at q
        have q' : c.id = o := Option.some.inj q
        obtain ⟨h1, h2, h3⟩ := mem_stand h.wf (List.mem_of_getElem? e)
        exact ⟨.inr ((isPut_iff h.wf.srt).mpr ⟨c, h1, q', h2⟩), by rw [← q']; exact h.wf.sites c h1⟩
  obtain ⟨st, rg, gn⟩ := put_steps s1 s2 b l o h hp.1 hp.2 ht
  refine ⟨st, ?_⟩
  have h' := st.good h
  rw [shown_eq h'.wf]
  have gn' : (fun n => !goneN (grow l (putting site (top l + 1) o b)) n) = fun n => !goneN l n := by
    funext n
    rw [gn n]
  rw [gn']
  have fresh : (nums (putting site (top l + 1) o b)).filter (fun n => !goneN l n) = nums (putting site (top l + 1) o b) := by
    rw [List.filter_eq_self]
    intro n hn
    rw [nums_putting, List.mem_map] at hn
    obtain ⟨i, _, rfl⟩ := hn
    cases q : goneN l ((top l + 1 + i) * 256 + site) with
    | false => rfl
    | true =>
      have := num_top h.wf (goneN_known h.wf q)
      omega
  rcases ho with ⟨rfl, rfl⟩ | ⟨ha0, q⟩
  · have e0 : ring l = [] ++ num nothing :: (ring l).tail := rfl
    rw [rg _ _ e0]
    show ((nums _ ++ (ring l).tail).filter _) = _
    rw [List.filter_append, fresh, ← shown_eq h.wf]
    simp
  · have hi : (shown l)[a - 1]? = some (num o) := by
      unfold shown nums
      rw [List.getElem?_map]
      cases e : (stand l)[a - 1]? with
      | none => rw [e] at q; cases q
      | some c =>
        rw [e] at q
        have q' : c.id = o := Option.some.inj q
        rw [← q']
        rfl
    have hm : num o ∈ shown l := List.mem_of_getElem? hi
    rw [shown_eq h.wf] at hm
    obtain ⟨m1, m2⟩ := List.mem_filter.mp hm
    obtain ⟨A, B, eAB⟩ := List.append_of_mem m1
    have er : ring l = (0 :: A) ++ num o :: B := by
      show 0 :: (ring l).tail = 0 :: (A ++ num o :: B)
      rw [eAB]
    rw [rg _ _ er]
    show ((A ++ num o :: (nums _ ++ B)).filter _) = _
    have es := shown_eq h.wf
    rw [eAB] at es
    obtain ⟨c1, c2⟩ := cut_at (p := fun n => !goneN l n) m2 es.symm (shown_nodup h) hi
    rw [List.filter_append, List.filter_cons, if_pos m2, List.filter_append, fresh, c1, c2]
    have ea : a - 1 + 1 = a := by omega
    rw [ea]
    have et : (shown l).take a = (shown l).take (a - 1) ++ [num o] := by
      have := List.take_succ (l := shown l) (i := a - 1)
      rw [ea, hi] at this
      exact this
    rw [et]
    simp
theorem nums_taking (site : Nat) : ∀ (xs : List Change) (t : Nat), nums (taking site t xs) = (List.range xs.length).map fun i => (t + i) * 256 + site
  | [], _ => rfl
  | x :: b, t => by
    show num ⟨t, site⟩ :: nums (taking site (t + 1) b) = _
    rw [nums_taking site b, List.length_cons, List.range_succ_eq_map, List.map_cons, List.map_map]
    congr 1
    refine List.map_congr_left fun i _ => ?_
    show (t + 1 + i) * 256 + site = (t + (i + 1)) * 256 + site
    omega
theorem taking_length (site : Nat) : ∀ (b : List Change) (t : Nat), (taking site t b).length = b.length
  | [], _ => rfl
  | x :: b, t => by
    show (taking site (t + 1) b).length + 1 = _
    rw [taking_length site b]
    rfl
theorem taking_at (site : Nat) : ∀ (b : List Change) (t : Nat) (i : Nat) (x : Change), b[i]? = some x → (taking site t b)[i]? = some ⟨⟨t + i, site⟩, true, x.id, 0⟩
  | [], _, _, _, h => by simp at h
  | y :: b, t, 0, x, h => by
    have e : y = x := by simpa using h
    subst e
    rfl
  | y :: b, t, i + 1, x, h => by
    show (taking site (t + 1) b)[i]? = _
    rw [taking_at site b (t + 1) i x (by simpa using h)]
    have e1 : t + 1 + i = t + (i + 1) := by omega
    rw [e1]
theorem take_steps {site : Nat} (s1 : 1 ≤ site) (s2 : site ≤ 255) : ∀ (xs l : List Change), Good l → (∀ x ∈ xs, x ∈ l ∧ x.out = false) → top l + xs.length < 4294967296 →
    Steps l (taking site (top l + 1) xs) ∧ ring (grow l (taking site (top l + 1) xs)) = ring l ∧ ∀ n, goneN (grow l (taking site (top l + 1) xs)) n = (goneN l n || decide (n ∈ nums xs))
  | [], l, _, _, _ => ⟨trivial, rfl, fun n => by simp [grow, taking, nums]⟩
  | x :: xs, l, h, hx, ht => by
    rw [List.length_cons] at ht
    obtain ⟨x1, x2⟩ := hx x (List.mem_cons_self ..)
    obtain ⟨f, hn⟩ := own_fit (b := 0) (out := true) h.wf s1 s2 (.inr ((isPut_iff h.wf.srt).mpr ⟨x, x1, rfl, x2⟩)) (h.wf.sites x x1) (by omega)
    have h' := h.insert f hn
    have tp : top (insert ⟨⟨top l + 1, site⟩, true, x.id, 0⟩ l) = top l + 1 := by
      rw [top_insert]
      show max (top l) (top l + 1) = _
      omega
    have ih := take_steps s1 s2 xs (insert ⟨⟨top l + 1, site⟩, true, x.id, 0⟩ l) h' (fun y hy => by
      obtain ⟨y1, y2⟩ := hx y (List.mem_cons_of_mem _ hy)
      exact ⟨mem_insert.mpr (.inr y1), y2⟩) (by rw [tp]; omega)
    rw [tp] at ih
    show (Fit l _ ∧ New l _ ∧ Steps _ (taking site (top l + 1 + 1) xs)) ∧ ring (grow (insert ⟨⟨top l + 1, site⟩, true, x.id, 0⟩ l) (taking site (top l + 1 + 1) xs)) = _ ∧ ∀ n, goneN (grow (insert ⟨⟨top l + 1, site⟩, true, x.id, 0⟩ l) (taking site (top l + 1 + 1) xs)) n = _
    refine ⟨⟨f, hn, ih.1⟩, by rw [ih.2.1, ring_out h.wf f hn rfl], fun n => ?_⟩
    rw [ih.2.2 n, goneN_insert]
    show (goneN l n || (true && decide (num x.id = n)) || decide (n ∈ nums xs)) = (goneN l n || decide (n ∈ num x.id :: nums xs))
    rw [Bool.or_assoc]
    congr 1
    rw [Bool.eq_iff_iff, Bool.or_eq_true, Bool.and_eq_true, decide_eq_true_eq, decide_eq_true_eq, decide_eq_true_eq, List.mem_cons]
    constructor
    · rintro (⟨_, e⟩ | e)
      · exact .inl e.symm
      · exact .inr e
    · rintro (e | e)
      · exact .inl ⟨rfl, e.symm⟩
      · exact .inr e
theorem filter_out_mid {α : Type} [DecidableEq α] {sh : List α} (nd : sh.Nodup) (a k : Nat) : sh.filter (fun n => !decide (n ∈ (sh.drop a).take k)) = sh.take a ++ sh.drop (a + k) := by
  have e : sh = sh.take a ++ ((sh.drop a).take k ++ sh.drop (a + k)) := by
    rw [← List.drop_drop, List.take_append_drop, List.take_append_drop]
  generalize hM : (sh.drop a).take k = M at e ⊢
  have nd' := nd
  rw [e] at nd'
  have n1 := List.nodup_append.mp nd'
  have n2 := List.nodup_append.mp n1.2.1
  conv => lhs; rw [e]
  rw [List.filter_append, List.filter_append]
  have f1 : (sh.take a).filter (fun n => !decide (n ∈ M)) = sh.take a := by
    rw [List.filter_eq_self]
    intro x hx
    simp only [Bool.not_eq_true', decide_eq_false_iff_not]
    intro q
    exact n1.2.2 x hx x (List.mem_append_left _ q) rfl
  have f2 : M.filter (fun n => !decide (n ∈ M)) = [] := by
    rw [List.filter_eq_nil_iff]
    intro x hx
    simp [hx]
  have f3 : (sh.drop (a + k)).filter (fun n => !decide (n ∈ M)) = sh.drop (a + k) := by
    rw [List.filter_eq_self]
    intro x hx
    simp only [Bool.not_eq_true', decide_eq_false_iff_not]
    intro q
    exact n2.2.2 x q x hx rfl
  rw [f1, f2, f3]
  rfl
theorem take_shown {site : Nat} (s1 : 1 ≤ site) (s2 : site ≤ 255) {l : List Change} {a k : Nat} (h : Good l) (ht : top l + (((stand l).drop a).take k).length < 4294967296) :
    Steps l (taking site (top l + 1) (((stand l).drop a).take k)) ∧ shown (grow l (taking site (top l + 1) (((stand l).drop a).take k))) = (shown l).take a ++ (shown l).drop (a + k) := by
  obtain ⟨st, rg, gn⟩ := take_steps s1 s2 (((stand l).drop a).take k) l h (fun x hx => by
    obtain ⟨h1, h2, _⟩ := mem_stand h.wf (List.mem_of_mem_drop (List.mem_of_mem_take hx))
    exact ⟨h1, h2⟩) ht
  refine ⟨st, ?_⟩
  have h' := st.good h
  rw [shown_eq h'.wf, rg]
  have e : nums (((stand l).drop a).take k) = ((shown l).drop a).take k := by
    unfold shown nums
    rw [List.map_take, List.map_drop]
  have gn' : (fun n => !goneN (grow l (taking site (top l + 1) (((stand l).drop a).take k))) n) = fun n => (!decide (n ∈ ((shown l).drop a).take k)) && !goneN l n := by
    funext n
    rw [gn n, e, Bool.not_or, Bool.and_comm]
  rw [gn', ← List.filter_filter, ← shown_eq h.wf]
  exact filter_out_mid (shown_nodup h) a k
theorem mem_grow {x : Change} : ∀ {r l : List Change}, x ∈ grow l r ↔ x ∈ l ∨ x ∈ r
  | [], l => by simp [grow]
  | c :: r, l => by
    rw [grow_cons, mem_grow (r := r), mem_insert, List.mem_cons]
    constructor
    · rintro ((h | h) | h)
      · exact .inr (.inl h)
      · exact .inl h
      · exact .inr (.inr h)
    · rintro (h | h | h)
      · exact .inl (.inr h)
      · exact .inl (.inl h)
      · exact .inr h
theorem join_steps {l m : List Change} (hl : WF l) (hm : WF m) (same : ∀ c ∈ m, ∀ x, find l c.id = some x → x = c) : ∀ (m2 m1 : List Change), m = m1 ++ m2 → Steps (grow l (m1.filter fun c => (find l c.id).isNone)) (m2.filter fun c => (find l c.id).isNone)
  | [], _, _ => trivial
  | c :: m2, m1, e => by
    have cm : c ∈ m := by rw [e]; simp
    have ih := join_steps hl hm same m2 (m1 ++ [c]) (by rw [e]; simp)
    rw [List.filter_append, List.filter_cons] at ih
    rw [List.filter_cons]
    by_cases q : (find l c.id).isNone = true
    · rw [if_pos q] at ih ⊢
      rw [List.filter_nil, grow_snoc] at ih
      have hs := hm.srt
      rw [e] at hs
      have hlt : ∀ x ∈ m1, num x.id < num c.id := fun x hx => (List.pairwise_append.mp hs).2.2 x hx c (List.mem_cons_self ..)
      have inq : ∀ x, x ∈ m1 → x ∈ grow l (m1.filter fun c => (find l c.id).isNone) := fun x hx => by
        rw [mem_grow]
        cases w : find l x.id with
        | none => exact .inr (List.mem_filter.mpr ⟨hx, by rw [w]; rfl⟩)
        | some y =>
          have := same x (by rw [e]; simp [hx]) y w
          subst this
          exact .inl (find_some w).1
      have fm := hm.fit c cm
      have sub : ∀ x ∈ grow l (m1.filter fun c => (find l c.id).isNone), x ∈ l ∨ x ∈ m1 := fun x hx => by
        rcases mem_grow.mp hx with hx | hx
        · exact .inl hx
        · exact .inr (List.mem_filter.mp hx).1
      have nw : New (grow l (m1.filter fun c => (find l c.id).isNone)) c := fun x hx ee => by
        rcases sub x hx with hx | hx
        · have : x.id = c.id := num_inj (hl.sites x hx) fm.site2 ee
          have w : find l c.id = none := by simpa using q
          exact find_none.mp w x hx this
        · have := hlt x hx
          omega
      refine ⟨⟨fm.site1, fm.site2, fm.osite, fm.cnt, fm.lt, ?_⟩, nw, ih⟩
      rcases fm.oth with h1 | h1
      · exact .inl h1
      · obtain ⟨x, x1, x2, x3⟩ := (isPut_iff hm.srt).mp h1
        have xlt : num x.id < num c.id := by rw [x2]; exact num_lt_of_count fm.osite fm.lt
        have xm1 : x ∈ m1 := by
          rw [e] at x1
          rcases List.mem_append.mp x1 with h | h
          · exact h
          · rcases List.mem_cons.mp h with rfl | h
            · omega
            · have := (List.pairwise_cons.mp (List.pairwise_append.mp hs).2.1).1 x h
              omega
        refine .inr ?_
        unfold isPut
        have key : find (grow l (m1.filter fun c => (find l c.id).isNone)) c.other = some x := by
          have hx := inq x xm1
          cases w : find (grow l (m1.filter fun c => (find l c.id).isNone)) c.other with
          | none => exact absurd x2 (find_none.mp w x hx)
          | some y =>
            obtain ⟨y1, y2⟩ := find_some w
            congr 1
            rcases sub y y1 with y1 | y1
            · have w2 : find l x.id = some y := by rw [x2, ← y2]; exact find_mem hl.srt y1
              exact same x (by rw [e]; simp [xm1]) y w2
            · exact srt_inj hm.srt (by rw [e]; simp [y1]) (by rw [e]; simp [xm1]) (by rw [y2, x2])
        rw [key]
        simp [x3]
    · rw [if_neg q] at ih ⊢
      rw [List.filter_nil, List.append_nil] at ih
      exact ih
end Tc
end
section
set_option maxRecDepth 4000
namespace Tc
open Sn04
def kindN (c : Change) : Nat := if c.out = true then 2 else 1
theorem num_div {i : Id} (h : i.site ≤ 255) : num i / 256 = i.count := by
  unfold num
  omega
theorem num_mod {i : Id} (h : i.site ≤ 255) : num i % 256 = i.site := by
  unfold num
  omega
theorem le4 {v : Nat} (h : v < 4294967296) : le 4 v = [v % 256, v / 256 % 256, v / 65536 % 256, v / 16777216] := by
  show [v % 256, v / 256 % 256, v / 256 / 256 % 256, v / 256 / 256 / 256 % 256] = _
  have e1 : v / 256 / 256 = v / 65536 := by rw [Nat.div_div_eq_div_mul]
  have e2 : v / 256 / 256 / 256 % 256 = v / 16777216 := by
    rw [Nat.div_div_eq_div_mul, Nat.div_div_eq_div_mul]
    omega
  rw [e2, e1]
theorem encode_eq {l : List Change} {c : Change} (f : Fit l c) : encode c = [c.id.site, kindN c, c.byte, 0] ++
    ([c.id.count % 256, c.id.count / 256 % 256, c.id.count / 65536 % 256, c.id.count / 16777216] ++
    ([c.other.count % 256, c.other.count / 256 % 256, c.other.count / 65536 % 256, c.other.count / 16777216] ++ [c.other.site, 0, 0, 0])) := by
  have h1 := f.cnt
  have h2 := f.lt
  unfold encode
  rw [le4 h1, le4 (by omega)]
  rfl
theorem kind_inj {c d : Change} (h : kindN c = kindN d) : c.out = d.out := by
  unfold kindN at h
  cases e1 : c.out <;> cases e2 : d.out <;> simp_all
theorem change_ext {c d : Change} (hi : c.id = d.id) (hk : kindN c = kindN d) (hb : c.byte = d.byte) (s1 : c.other.site ≤ 255) (s2 : d.other.site ≤ 255) (ho : num c.other = num d.other) : c = d := by
  have e1 := kind_inj hk
  have e2 := num_inj s1 s2 ho
  cases c
  cases d
  simp_all
def rowCh (r0 r1 r2 r4 r5 r6 r7 r8 r9 r10 r11 r12 : Nat) : Change :=
  ⟨⟨r4 + r5 * 256 + r6 * 65536 + r7 * 16777216, r0⟩, r1 == 2, ⟨r8 + r9 * 256 + r10 * 65536 + r11 * 16777216, r12⟩, r2⟩
theorem decode_row (r0 r1 r2 r3 r4 r5 r6 r7 r8 r9 r10 r11 r12 r13 r14 r15 : Nat) :
    decode [r0, r1, r2, r3, r4, r5, r6, r7, r8, r9, r10, r11, r12, r13, r14, r15] =
      if (r1 = 1 ∨ (r1 = 2 ∧ r2 = 0)) ∧ r3 = 0 ∧ r13 = 0 ∧ r14 = 0 ∧ r15 = 0 then some (rowCh r0 r1 r2 r4 r5 r6 r7 r8 r9 r10 r11 r12) else none := by
  have e : ∀ a b c d : Nat, unle [a, b, c, d] = a + b * 256 + c * 65536 + d * 16777216 := fun a b c d => by
    show a + 256 * (b + 256 * (c + 256 * (d + 256 * 0))) = _
    omega
  unfold decode rowCh
  show (if (r1 = 1 ∨ (r1 = 2 ∧ r2 = 0)) ∧ r3 = 0 ∧ r13 = 0 ∧ r14 = 0 ∧ r15 = 0 then some (⟨⟨unle [r4, r5, r6, r7], r0⟩, r1 == 2, ⟨unle [r8, r9, r10, r11], r12⟩, r2⟩ : Change) else none) = _
  rw [e, e]
theorem sixteen {α : Type} : ∀ {l : List α}, l.length = 16 → ∃ r0 r1 r2 r3 r4 r5 r6 r7 r8 r9 r10 r11 r12 r13 r14 r15, l = [r0, r1, r2, r3, r4, r5, r6, r7, r8, r9, r10, r11, r12, r13, r14, r15]
  | [r0, r1, r2, r3, r4, r5, r6, r7, r8, r9, r10, r11, r12, r13, r14, r15], _ => ⟨r0, r1, r2, r3, r4, r5, r6, r7, r8, r9, r10, r11, r12, r13, r14, r15, rfl⟩
theorem row_kind {r1 : Nat} (h : r1 = 1 ∨ r1 = 2) (r0 r2 r4 r5 r6 r7 r8 r9 r10 r11 r12 : Nat) : kindN (rowCh r0 r1 r2 r4 r5 r6 r7 r8 r9 r10 r11 r12) = r1 := by
  unfold kindN rowCh
  rcases h with rfl | rfl <;> rfl
def greats (l : List Change) : List Nat := (List.range 256).map (Sn04.seen l)
theorem greats_length (l : List Change) : (greats l).length = 256 := by
  unfold greats
  rw [List.length_map, List.length_range]
theorem greats_at (l : List Change) {s : Nat} (h : s < 256) : (greats l)[s]? = some (Sn04.seen l s) := by
  unfold greats
  rw [List.getElem?_map, List.getElem?_range h]
  rfl
theorem greats_max {l : List Change} (h : Sites l) {m : Nat} (h1 : m ∈ greats l) (h2 : ∀ y ∈ greats l, y ≤ m) : m = top l := by
  unfold greats at h1 h2
  obtain ⟨s, _, rfl⟩ := List.mem_map.mp h1
  have a := seen_le_top l s
  rcases top_mem l with e | ⟨c, hc, e⟩
  · omega
  · have b := h2 (Sn04.seen l c.id.site) (List.mem_map.mpr ⟨c.id.site, List.mem_range.mpr (Nat.lt_succ_of_le (h c hc)), rfl⟩)
    have d := le_seen hc
    omega
theorem greats_insert {c : Change} {l : List Change} (hc : c.id.site ≤ 255) : greats (insert c l) = if Sn04.seen l c.id.site < c.id.count then (greats l).set c.id.site c.id.count else greats l := by
  have len : (greats (insert c l)).length = 256 := greats_length _
  split
  · rename_i q
    refine List.ext_getElem? fun s => ?_
    by_cases hs : s < 256
    · rw [greats_at _ hs, seen_insert]
      by_cases e : c.id.site = s
      · subst e
        rw [if_pos rfl, List.getElem?_set_self (by rw [greats_length]; exact hs)]
        congr 1
        omega
      · rw [if_neg e, List.getElem?_set_ne e, greats_at _ hs]
    · rw [List.getElem?_eq_none (by rw [len]; omega), List.getElem?_eq_none (by rw [List.length_set, greats_length]; omega)]
  · rename_i q
    refine List.ext_getElem? fun s => ?_
    by_cases hs : s < 256
    · rw [greats_at _ hs, greats_at _ hs, seen_insert]
      split
      · rename_i e
        rw [e] at q
        congr 1
        omega
      · rfl
    · rw [List.getElem?_eq_none (by rw [len]; omega), List.getElem?_eq_none (by rw [greats_length]; omega)]
theorem greats_nil : greats [] = List.replicate 256 0 := by
  unfold greats
  refine List.ext_getElem? fun s => ?_
  rw [List.getElem?_map]
  by_cases hs : s < 256
  · rw [List.getElem?_range hs, List.getElem?_replicate, if_pos hs]
    rfl
  · rw [List.getElem?_eq_none (by rw [List.length_range]; omega), List.getElem?_eq_none (by rw [List.length_replicate]; omega)]
    rfl
theorem place_none {l : List Change} {count site : Nat} (h : WF l) (q : site ≤ 255 → count * 256 + site ∉ shown l) : (stand l).findIdx? (fun c => decide (c.id = ⟨count, site⟩)) = none := by
  rw [List.findIdx?_eq_none_iff]
  intro c hc
  rw [decide_eq_false_iff_not]
  intro e
  have hs := h.sites c (mem_stand h hc).1
  rw [e] at hs
  exact q hs (mem_nums.mpr ⟨c, hc, by rw [e]; rfl⟩)
theorem place_some {l : List Change} {count site j : Nat} (h : WF l) (hs : site ≤ 255) (hj : (shown l)[j]? = some (count * 256 + site)) (hm : ∀ m, m < j → (shown l)[m]? ≠ some (count * 256 + site)) :
    (stand l).findIdx? (fun c => decide (c.id = ⟨count, site⟩)) = some j := by
  rw [List.findIdx?_eq_some_iff_getElem]
  have hj' := hj
  unfold shown nums at hj'
  rw [List.getElem?_map] at hj'
  cases e : (stand l)[j]? with
  | none => rw [e] at hj'; cases hj'
  | some c =>
    rw [e] at hj'
    have e' : num c.id = num ⟨count, site⟩ := Option.some.inj hj'
    obtain ⟨lt, ec⟩ := List.getElem?_eq_some_iff.mp e
    refine ⟨lt, ?_, fun m hmj => ?_⟩
    · rw [ec, decide_eq_true_eq]
      exact num_inj (h.sites c (mem_stand h (List.mem_of_getElem? e)).1) hs e'
    · intro q
      rw [decide_eq_true_eq] at q
      refine hm m hmj ?_
      unfold shown nums
      rw [List.getElem?_map, List.getElem?_eq_getElem (by omega)]
      show some (num _) = _
      rw [q]
      rfl
theorem learnAll_bad {l : List Change} {b : List Nat} {n : Nat} (h : decode (b.take 16) = none) : learnAll l b (n + 1) = none := by
  show (decode (b.take 16)).bind _ = none
  rw [h]
  rfl
theorem learnAll_step {l : List Change} {b : List Nat} {n : Nat} {c : Change} (h : decode (b.take 16) = some c) : learnAll l b (n + 1) = (learned l c).bind fun m => learnAll m (b.drop 16) n := by
  show (decode (b.take 16)).bind _ = _
  rw [h]
  rfl
theorem learned_known {l : List Change} {c x : Change} (h : find l c.id = some x) : learned l c = if x = c then some l else none := by
  unfold learned
  rw [h]
theorem learned_new {l : List Change} {c : Change} (h : find l c.id = none) : learned l c = if c.id.site = 0 ∨ c.id.count ≤ Sn04.seen l c.id.site ∨ c.id.count ≤ c.other.count ∨ (c.other = nothing ∧ c.out = true) ∨ (c.other ≠ nothing ∧ isPut l c.other = false) then none else some (insert c l) := by
  unfold learned
  rw [h]
theorem together_bad {l m : List Change} {c x : Change} (hc : c ∈ m) (h : find l c.id = some x) (hx : x ≠ c) : together l m = none := by
  unfold together
  rw [if_pos]
  rw [List.any_eq_true]
  refine ⟨c, hc, ?_⟩
  rw [h]
  exact decide_eq_true hx
theorem together_good {l m : List Change} (same : ∀ c ∈ m, ∀ x, find l c.id = some x → x = c) : together l m = some (grow l (m.filter fun c => (find l c.id).isNone)) := by
  unfold together
  rw [if_neg]
  · rfl
  · rw [List.any_eq_true]
    rintro ⟨c, hc, q⟩
    cases e : find l c.id with
    | none => rw [e] at q; cases q
    | some x =>
      rw [e] at q
      exact of_decide_eq_true q (same c hc x e)
end Tc
end
section
set_option maxRecDepth 4000
namespace Tc
open Sn04
theorem perm_sorted : ∀ {l m : List Int}, l.Pairwise (· ≤ ·) → m.Pairwise (· ≤ ·) → l.Perm m → l = m
  | [], m, _, _, p => p.nil_eq
  | a :: l, [], _, _, p => absurd p.length_eq (by simp)
  | a :: l, b :: m, h1, h2, p => by
    have e : a = b := by
      have ha : a ∈ b :: m := p.mem_iff.mp (List.mem_cons_self ..)
      have hb : b ∈ a :: l := p.mem_iff.mpr (List.mem_cons_self ..)
      rw [List.pairwise_cons] at h1 h2
      rcases List.mem_cons.mp ha with q | q
      · exact q
      · rcases List.mem_cons.mp hb with r | r
        · exact r.symm
        · have := h1.1 b r
          have := h2.1 a q
          omega
    subst e
    rw [perm_sorted (List.pairwise_cons.mp h1).2 (List.pairwise_cons.mp h2).2 p.cons_inv]
theorem nums_sorted {l : List Change} (h : Srt l) : ((nums l).map fun n : Nat => (n : Int)).Pairwise (· ≤ ·) := by
  unfold nums
  rw [List.map_map, List.pairwise_map]
  refine h.imp fun {a b} q => ?_
  show ((num a.id : Nat) : Int) ≤ ((num b.id : Nat) : Int)
  omega
theorem nums_length (l : List Change) : (nums l).length = l.length := List.length_map ..
def newer (seen : List Nat) (n : Nat) : Bool := decide (seen.getD (n % 256) 0 < n / 256)
theorem nums_newer {l : List Change} (h : Sites l) (seen : List Nat) : nums (l.filter fun c => decide (seen.getD c.id.site 0 < c.id.count)) = (nums l).filter (newer seen) := by
  unfold nums
  rw [List.filter_map]
  congr 1
  refine List.filter_congr fun c hc => ?_
  show _ = newer seen (num c.id)
  unfold newer
  rw [num_div (h c hc), num_mod (h c hc)]
theorem encode_length (c : Change) : (encode c).length = 16 := rfl
theorem encodes_length : ∀ l : List Change, (l.flatMap encode).length = 16 * l.length
  | [] => rfl
  | c :: l => by
    rw [List.flatMap_cons, List.length_append, encode_length, encodes_length l, List.length_cons]
    omega
theorem encodes_snoc (l : List Change) (c : Change) : (l ++ [c]).flatMap encode = l.flatMap encode ++ encode c := by
  rw [List.flatMap_append]
  simp
theorem num_zero {i : Id} : num i = 0 ↔ i = nothing := by
  constructor
  · intro h
    cases i with
    | mk c s =>
      have h' : c * 256 + s = 0 := h
      have e1 : c = 0 := by omega
      have e2 : s = 0 := by omega
      rw [e1, e2]
      rfl
  · rintro rfl
    rfl
theorem isPut_none {l : List Change} {i : Id} (h : num i ∉ nums l) : isPut l i = false := by
  have e : find l i = none := find_none.mpr fun c hc q => h (mem_nums.mpr ⟨c, hc, by rw [q]⟩)
  unfold isPut
  rw [e]
theorem isPut_at {l : List Change} (hl : WF l) {i : Id} {c : Change} (hi : i.site ≤ 255) (hc : c ∈ l) (e : num c.id = num i) : isPut l i = !c.out := by
  have e' : c.id = i := num_inj (hl.sites c hc) hi e
  unfold isPut
  rw [← e', find_mem hl.srt hc]
def Bars (l : List Change) (c : Change) : Prop := c.id.site = 0 ∨ c.id.count ≤ Sn04.seen l c.id.site ∨ c.id.count ≤ c.other.count ∨ (c.other = nothing ∧ c.out = true) ∨ (c.other ≠ nothing ∧ isPut l c.other = false)
instance (l : List Change) (c : Change) : Decidable (Bars l c) := by
  unfold Bars
  infer_instance
theorem learned_bars {l : List Change} {c : Change} (h : find l c.id = none) : learned l c = if Bars l c then none else some (insert c l) := learned_new h
theorem find_new {l : List Change} {c : Change} (h : num c.id ∉ nums l) : find l c.id = none := find_none.mpr fun x hx q => h (mem_nums.mpr ⟨x, hx, by rw [q]⟩)
theorem find_old {l : List Change} (hl : WF l) {c x : Change} (hc : c.id.site ≤ 255) (hx : x ∈ l) (e : num x.id = num c.id) : find l c.id = some x := by
  have e' : x.id = c.id := num_inj (hl.sites x hx) hc e
  rw [← e']
  exact find_mem hl.srt hx
theorem fit_of {l : List Change} {c : Change} (h : ¬ Bars l c) (s2 : c.id.site ≤ 255) (os : c.other.site ≤ 255) (cn : c.id.count < 4294967296) : Fit l c := by
  unfold Bars at h
  simp only [not_or, not_and, Bool.not_eq_true, Bool.not_eq_false] at h
  obtain ⟨h1, h2, h3, h4, h5⟩ := h
  refine ⟨by omega, s2, os, cn, by omega, ?_⟩
  by_cases q : c.other = nothing
  · exact .inl ⟨q, h4 q⟩
  · exact .inr (h5 q)
theorem greats_new {l : List Change} {c : Change} (h : ¬ Bars l c) (s2 : c.id.site ≤ 255) : greats (insert c l) = (greats l).set c.id.site c.id.count := by
  rw [greats_insert s2, if_pos]
  unfold Bars at h
  simp only [not_or] at h
  omega
end Tc
end
section
set_option Elab.async false
set_option linter.all false
set_option maxRecDepth 100000
set_option maxHeartbeats 2000000
namespace Tp
open PySem PySem.Spec PyProof.Rows L2
open Sn04 (Change)
/-! ### the text by places -/
def top (i : Nat) : Stmt := PySem.Challenge.pw_textcopies_s01_answers.main.body.getD i (.Pass ⟨0, 0, 0, 0⟩)
abbrev sInit : Stmt := inClass (top 15) 0
/-! ### defs as globals -/
structure Has (P : Program) (w : World) (K : PySem.W.Frag) (mg : Str → Option Value) (base : Heap) (k : Nat) (x : Str) (ps : List Str) (sp : Sp) : Prop where
  ex : ∃ f fd, FnOk P w K mg base CX0 k f fd ps sp ∧ mg x = some (.ref f) ∧ PySem.W.keepIn K (.ref f) = true ∧ Binds K fd ps []
structure Def (K : PySem.W.Frag) (mg : Str → Option Value) (x : Str) (st : Stmt) (ps : List Str) : Prop where
  ex : ∃ f fd, Fun K x x st f fd ∧ mg x = some (.ref f) ∧ Binds K fd ps []
section
variable {P : Program} {w : World} {K : PySem.W.Frag} {mg : Str → Option Value} {base : Heap}
theorem Def.has {x : Str} {st : Stmt} {ps N : List Str} {k : Nat} {sp : Sp} (D : Def K mg x st ps) (S : FnScope N ps (defScope st)) (len : ∀ vs H Q E, sp vs H Q E → vs.length = ps.length)
    (hbody : ∀ (f : Addr) (cdv : Value) (A : Around) (outer : List Env) (s : Shared) (H : Hp) (vs : List V) (Q : VK) (E : XK), Room k (A.deeper (envOfC x (defScope st) s.heap.objs.size f cdv)) → sp vs H Q E →
      ∃ t, PSs (cxOf CX0 P w K mg base N x (defScope st) f cdv A outer s H E).nox (defBody st) t ∧ t { nx := fun _ H' => Q .non H', rt := Q } (start N vs) H) : Has P w K mg base (k + 1) x ps sp := by
  obtain ⟨f, fd, F, m, b⟩ := D.ex
  exact ⟨f, fd, F.ok S len (hbody f), m, F.kp, b⟩
theorem pe_fn {X : Cx} {k : Nat} {x : Str} {ps : List Str} {sp : Sp} {e : Expr} {es : List Expr} {t : TA} {p pos : Pos} (h : Has X.prog X.w X.K X.mg X.base k x ps sp) (hr : Room k X.A) (ha : PA X (e :: es) t) (hg : Gl X x := by rfl)
    (hdb : (x == ("__debug__" : Str)) = false := by decide) (he : starEach (e :: es) X.env = (false, eval e X.env) :: starEach es X.env := by rfl) (hpl : (backTo pos (starEach es X.env)).any (·.1) = false := by rfl) : PE X (.Call (.Name x p) (e :: es) [] pos) (tCall sp [] E0 t) := by
  obtain ⟨f, fd, F, m, kp, b⟩ := h.ex
  exact pe_call F hr hg m kp b .nil pass0 ha hdb he hpl
end
/-! ### numbers -/
abbrev iv (n : Nat) : V := .int (n : Int)
abbrev ivs (l : List Nat) : List V := l.map iv
/-- an int of the module -/
structure GI (mg : Str → Option Value) (x : Str) (i : Int) : Prop where
  ex : ∃ t, mg x = some (.int i t)
theorem pe_gi {X : Cx} {x : Str} {i : Int} {pos : Pos} (h : GI X.mg x i) (hg : Gl X x := by rfl) (hd : (x == ("__debug__" : Str)) = false := by decide) : PE X (.Name x pos) (tC (.int i)) := by
  obtain ⟨t, e⟩ := h.ex
  exact pe_glob hg e ⟨t, rfl⟩ hd
structure Txt (K : PySem.W.Frag) (mg : Str → Option Value) (C : Addr) : Prop where
  cl : Cls K C
  nSite : NoAttr K C "site"
  nKnown : NoAttr K C "known"
  nGreat : NoAttr K C "greatest"
  nFoll : NoAttr K C "follower"
  nGone : NoAttr K C "gone"
  nShown : NoAttr K C "shown"
  mgC : mg "Copy" = some (.ref C)
  MOST : GI mg "MOST_KNOWN" 16384
  GREATEST : GI mg "GREATEST_COUNT" 4294967295
  SITES : GI mg "SITES" 256
  CHSIZE : GI mg "CHANGE_SIZE" 16
  NOTHING : GI mg "NOTHING" 0
  PUTS : GI mg "PUTS_IN" 1
  TAKES : GI mg "TAKES_OUT" 2
  KIND : GI mg "KIND" 0
  BYTE : GI mg "BYTE" 1
  OTHER : GI mg "OTHER" 2
  TOO : GI mg "TOO_MUCH" (-1)
  NOTT : GI mg "NOT_THERE" (-1)
  OUTR : GI mg "OUT_OF_RANGE" (-2)
  UNFIT : GI mg "UNFIT" (-3)
  len : mg "len" = none
  max : mg "max" = none
  range : mg "range" = none
  zip : mg "zip" = none
  sorted : mg "sorted" = none
  dict : mg "dict" = none
  list : mg "list" = none
/-! ### the small defs -/
def spNumberOf : Sp := fun vs H Q _ => ∃ c s : Nat, vs = [iv c, iv s] ∧ Q (iv (c * 256 + s)) H
def spCountOf : Sp := fun vs H Q _ => ∃ n : Nat, vs = [iv n] ∧ Q (iv (n / 256)) H
def spSiteOf : Sp := fun vs H Q _ => ∃ n : Nat, vs = [iv n] ∧ Q (iv (n % 256)) H
def spWithin : Sp := fun vs H Q _ => ∃ v lo hi : Int, vs = [.int v, .int lo, .int hi] ∧ Q (.bl (decide (lo ≤ v) && decide (v ≤ hi))) H
section
variable {P : Program} {w : World} {K : PySem.W.Frag} {mg : Str → Option Value} {base : Heap} {C : Addr}
theorem sc16 : FnScope ["count", "site"] ["count", "site"] (defScope (top 16)) := ⟨rfl, rfl, rfl, by decide +kernel, rfl, by decide +kernel, by decide +kernel⟩
theorem ok_number_of (D : Def K mg "number_of" (top 16) ["count", "site"]) (T : Txt K mg C) : Has P w K mg base 1 "number_of" ["count", "site"] spNumberOf := by
  refine D.has sc16 (fun vs H Q E h => ?_) (fun f cdv A outer s H vs Q E hr h => ?_)
  · obtain ⟨c, s, rfl, _⟩ := h
    rfl
  · obtain ⟨c, s, rfl, k⟩ := h
    refine ⟨_, pss_one (ps_ret (pe_op op_add (pe_op op_mul (pv 0) (pe_gi T.SITES)) (pv 1))), ?_⟩
    refine ⟨_, rfl, _, _, rfl, rfl, .inr ⟨by decide, by decide⟩, _, rfl, _, _, rfl, rfl, ?_⟩
    have e : ((c : Int) * 256 + (s : Int)) = ((c * 256 + s : Nat) : Int) := by omega
    show Q (.int ((c : Int) * 256 + (s : Int))) H
    rw [e]
    exact k
theorem sc17 : FnScope ["number"] ["number"] (defScope (top 17)) := ⟨rfl, rfl, rfl, by decide +kernel, rfl, by decide +kernel, by decide +kernel⟩
theorem ok_count_of (D : Def K mg "count_of" (top 17) ["number"]) (T : Txt K mg C) : Has P w K mg base 1 "count_of" ["number"] spCountOf := by
  refine D.has sc17 (fun vs H Q E h => ?_) (fun f cdv A outer s H vs Q E hr h => ?_)
  · obtain ⟨n, rfl, _⟩ := h
    rfl
  · obtain ⟨n, rfl, k⟩ := h
    refine ⟨_, pss_one (ps_ret (pe_op op_fdiv (pv 0) (pe_gi T.SITES))), ?_⟩
    exact ⟨_, rfl, _, _, rfl, rfl, ⟨by decide, by decide⟩, k⟩
theorem sc18 : FnScope ["number"] ["number"] (defScope (top 18)) := ⟨rfl, rfl, rfl, by decide +kernel, rfl, by decide +kernel, by decide +kernel⟩
theorem ok_site_of (D : Def K mg "site_of" (top 18) ["number"]) (T : Txt K mg C) : Has P w K mg base 1 "site_of" ["number"] spSiteOf := by
  refine D.has sc18 (fun vs H Q E h => ?_) (fun f cdv A outer s H vs Q E hr h => ?_)
  · obtain ⟨n, rfl, _⟩ := h
    rfl
  · obtain ⟨n, rfl, k⟩ := h
    refine ⟨_, pss_one (ps_ret (pe_op op_mod (pv 0) (pe_gi T.SITES))), ?_⟩
    exact ⟨_, rfl, _, _, rfl, rfl, (by show (0 : Int) < 256; decide), k⟩
theorem sc19 : FnScope ["value", "least", "most"] ["value", "least", "most"] (defScope (top 19)) := ⟨rfl, rfl, rfl, by decide +kernel, rfl, by decide +kernel, by decide +kernel⟩
theorem ok_within (D : Def K mg "within" (top 19) ["value", "least", "most"]) : Has P w K mg base 1 "within" ["value", "least", "most"] spWithin := by
  refine D.has sc19 (fun vs H Q E h => ?_) (fun f cdv A outer s H vs Q E hr h => ?_)
  · obtain ⟨v, lo, hi, rfl, _⟩ := h
    rfl
  · obtain ⟨v, lo, hi, rfl, k⟩ := h
    refine ⟨_, pss_one (ps_ret (pe_and (pe_cmpR op_le (pv 1) (pv 0) (nomark _)) (pe_one (pe_cmpR op_le (pv 0) (pv 2) (nomark _))))), ?_⟩
    refine ⟨_, rfl, _, rfl, _, _, rfl, rfl, _, rfl, ?_⟩
    by_cases h1 : lo ≤ v
    · rw [if_pos (decide_eq_true h1)]
      refine ⟨_, rfl, _, rfl, _, _, rfl, rfl, ?_⟩
      rw [decide_eq_true h1, Bool.true_and] at k
      exact k
    · rw [if_neg (by rw [decide_eq_false h1]; exact Bool.false_ne_true)]
      rw [decide_eq_false h1, Bool.false_and] at k
      exact k
end
end Tp
end
section
set_option Elab.async false
set_option linter.all false
set_option maxRecDepth 100000
set_option maxHeartbeats 2000000
namespace Tp
open PySem PySem.Spec PyProof.Rows L2
open Sn04 (Change)
/-! ### a change's tuple; what is known -/
def chV (c : Change) : List V := [iv (Tc.kindN c), iv c.byte, iv (Tc.num c.other)]
abbrev kI (n : Nat) : Key := Sum.inl (n : Int)
theorem kI_inj {a b : Nat} (h : kI a = kI b) : a = b := by
  have := Sum.inl.inj h
  omega
structure Known (H : Hp) (kvs : List (Key × V)) (l : List Change) : Prop where
  keys : (kvs.map (·.1)).Perm ((Tc.nums l).map kI)
  at_ : ∀ c ∈ l, ∃ t, valV kvs (kI (Tc.num c.id)) = some (.ref t) ∧ H t = some (.tup (chV c))
theorem Known.len {H : Hp} {kvs : List (Key × V)} {l : List Change} (h : Known H kvs l) : kvs.length = l.length := by
  have e := h.keys.length_eq
  rw [List.length_map, List.length_map] at e
  rw [e]
  exact List.length_map ..
theorem valV_mem {kvs : List (Key × V)} {k : Key} : (valV kvs k).isSome = true ↔ k ∈ kvs.map (·.1) := by
  rw [← valV_any, List.any_eq_true, List.mem_map]
  constructor
  · rintro ⟨x, h1, h2⟩
    exact ⟨x, h1, of_decide_eq_true h2⟩
  · rintro ⟨x, h1, h2⟩
    exact ⟨x, h1, decide_eq_true h2⟩
theorem Known.has {H : Hp} {kvs : List (Key × V)} {l : List Change} (h : Known H kvs l) (n : Nat) : (valV kvs (kI n)).isSome = decide (n ∈ Tc.nums l) := by
  rw [Bool.eq_iff_iff, valV_mem, h.keys.mem_iff, decide_eq_true_eq, List.mem_map]
  constructor
  · rintro ⟨m, h1, h2⟩
    rw [← kI_inj h2]
    exact h1
  · intro h1
    exact ⟨n, h1, rfl⟩
theorem Known.none {H : Hp} {kvs : List (Key × V)} {l : List Change} (h : Known H kvs l) {n : Nat} (hn : n ∉ Tc.nums l) : valV kvs (kI n) = .none := by
  have e := h.has n
  rw [decide_eq_false hn] at e
  cases q : valV kvs (kI n) with
  | none => rfl
  | some v => rw [q] at e; cases e
theorem Known.mono {H H' : Hp} {kvs : List (Key × V)} {l : List Change} (h : Known H kvs l) (k : ∀ b xs, H b = some (.tup xs) → H' b = some (.tup xs)) : Known H' kvs l :=
  ⟨h.keys, fun c hc => by
    obtain ⟨t, h1, h2⟩ := h.at_ c hc
    exact ⟨t, h1, k _ _ h2⟩⟩
theorem nums_insert (c : Change) : ∀ l : List Change, (Tc.nums (Sn04.insert c l)).Perm (Tc.num c.id :: Tc.nums l)
  | [] => .refl _
  | x :: r => by
    unfold Sn04.insert
    split
    · exact .refl _
    · exact ((nums_insert c r).cons (Tc.num x.id)).trans (List.Perm.swap _ _ _)
theorem Known.put {H H' : Hp} {kvs : List (Key × V)} {l : List Change} {c : Change} {t : Addr} (h : Known H kvs l) (hn : Tc.New l c) (k : ∀ b xs, H b = some (.tup xs) → H' b = some (.tup xs)) (ht : H' t = some (.tup (chV c))) :
    Known H' (putK kvs (kI (Tc.num c.id)) (.ref t)) (Sn04.insert c l) := by
  have e0 := h.none (Tc.new_iff.mp hn)
  refine ⟨?_, fun x hx => ?_⟩
  · rw [putK_new _ e0, List.map_append]
    refine List.perm_append_comm.trans ?_
    show (kI (Tc.num c.id) :: kvs.map (·.1)).Perm _
    refine ((h.keys).cons _).trans ?_
    exact ((nums_insert c l).map kI).symm
  · rw [valV_put]
    rcases Tc.mem_insert.mp hx with rfl | hx
    · exact ⟨t, if_pos rfl, ht⟩
    · obtain ⟨t', h1, h2⟩ := h.at_ x hx
      refine ⟨t', ?_, k _ _ h2⟩
      rw [if_neg (fun e => hn x hx (kI_inj e))]
      exact h1
theorem Known.nil {H : Hp} : Known H [] [] := ⟨.refl _, fun c hc => by simp at hc⟩
/-! ### who follows whom -/
def Lk (R : Nat → Nat → Prop) : List Nat → Prop
  | [] => True
  | [x] => R x 0
  | x :: y :: r => R x y ∧ Lk R (y :: r)
/-- the first of l, or nothing -/
def hd0 : List Nat → Nat
  | [] => 0
  | x :: _ => x
theorem Lk.at {R : Nat → Nat → Prop} {x : Nat} {B : List Nat} : ∀ {A : List Nat}, Lk R (A ++ x :: B) → R x (hd0 B)
  | [], h => by
    cases B with
    | nil => exact h
    | cons y r => exact h.1
  | [a], h => Lk.at (A := []) h.2
  | a :: b :: A, h => Lk.at (A := b :: A) h.2
theorem lk_iff {R : Nat → Nat → Prop} : ∀ {l : List Nat}, Lk R l ↔ ∀ A x B, l = A ++ x :: B → R x (hd0 B)
  | [] => ⟨fun _ A x B e => by simp at e, fun _ => trivial⟩
  | [a] => ⟨fun h A x B e => by
      rw [e] at h
      exact h.at, fun h => h [] a [] rfl⟩
  | a :: b :: r => ⟨fun h A x B e => by
      rw [e] at h
      exact h.at, fun h => ⟨h [] a (b :: r) rfl, lk_iff.mpr fun A x B e => h (a :: A) x B (by rw [e]; rfl)⟩⟩
/-- n put in behind x -/
theorem Lk.put {R R' : Nat → Nat → Prop} {A B : List Nat} {x n : Nat} (h : Lk R (A ++ x :: B)) (nd : (A ++ x :: B).Nodup) (hn : n ∉ A ++ x :: B) (k : ∀ y z, y ≠ x → y ≠ n → R y z → R' y z) (h1 : R' x n) (h2 : R' n (hd0 B)) :
    Lk R' (A ++ x :: n :: B) := by
  rw [lk_iff] at h ⊢
  intro A' y B' e
  have nA : ∀ z ∈ A, z ≠ x ∧ z ≠ n := fun z hz => ⟨fun q => (List.nodup_append.mp nd).2.2 z hz x (List.mem_cons_self ..) q, fun q => hn (by rw [← q]; simp [hz])⟩
  have nB : ∀ z ∈ B, z ≠ x ∧ z ≠ n := fun z hz => ⟨fun q => by
    have := (List.nodup_cons.mp (List.nodup_append.mp nd).2.1).1
    rw [← q] at this
    exact this hz, fun q => hn (by rw [← q]; simp [hz])⟩
  rcases List.append_eq_append_iff.mp e with ⟨m, e1, e2⟩ | ⟨m, e1, e2⟩
  · -- A' = A ++ m
    cases m with
    | nil =>
      have e3 : x = y ∧ n :: B = B' := List.cons.inj e2
      obtain ⟨rfl, rfl⟩ := e3
      exact h1
    | cons z m =>
      obtain ⟨e3, e4⟩ : x = z ∧ n :: B = m ++ y :: B' := List.cons.inj e2
      cases m with
      | nil =>
        obtain ⟨rfl, rfl⟩ : n = y ∧ B = B' := List.cons.inj e4
        exact h2
      | cons u m =>
        obtain ⟨e5, e6⟩ : n = u ∧ B = m ++ y :: B' := List.cons.inj e4
        have yB : y ∈ B := by rw [e6]; simp
        exact k y _ (nB y yB).1 (nB y yB).2 (h (A ++ x :: m) y B' (by rw [e6]; simp))
  · -- A = A' ++ m
    cases m with
    | nil =>
      have e3 : y = x ∧ B' = n :: B := List.cons.inj e2
      obtain ⟨rfl, rfl⟩ := e3
      exact h1
    | cons z m =>
      obtain ⟨e3, e4⟩ : y = z ∧ B' = m ++ x :: n :: B := List.cons.inj e2
      subst e3
      have yA : y ∈ A := by rw [e1]; simp
      have q := h A' y (m ++ x :: B) (by rw [e1]; simp)
      have e7 : hd0 (m ++ x :: B) = hd0 B' := by
        rw [e4]
        cases m <;> rfl
      rw [e7] at q
      exact k y _ (nA y yA).1 (nA y yA).2 q
abbrev FR (fvs : List (Key × V)) (x y : Nat) : Prop := valV fvs (kI x) = some (iv y)
abbrev Foll (fvs : List (Key × V)) (R : List Nat) : Prop := Lk (FR fvs) R
abbrev Gone (gvs : List (Key × V)) (l : List Change) : Prop := ∀ n : Nat, (valV gvs (kI n)).isSome = Tc.goneN l n
/-! ### a copy -/
def cf (site : Nat) (dk dg df dn ds : Addr) : List (Str × V) := [("site", iv site), ("known", .ref dk), ("greatest", .ref dg), ("follower", .ref df), ("gone", .ref dn), ("shown", .ref ds)]
structure Ad where
  p : Addr
  dx : Addr
  dk : Addr
  dg : Addr
  df : Addr
  dn : Addr
  ds : Addr
def Ad.foot (a : Ad) : List Addr := [a.p, a.dk, a.dg, a.df, a.dn, a.ds]
structure CopyAt (C : Addr) (H : Hp) (a : Ad) (site : Nat) (l : List Change) (sh : List Nat) : Prop where
  ins : H a.p = some (.ins C a.dx (cf site a.dk a.dg a.df a.dn a.ds))
  known : ∃ kvs, H a.dk = some (.dK kvs) ∧ Known H kvs l
  great : H a.dg = some (.lst (ivs (Tc.greats l)))
  foll : ∃ fvs, H a.df = some (.dK fvs) ∧ Foll fvs (Tc.ring l) ∧ fvs.length ≤ 2 * l.length + 1
  gone : ∃ gvs, H a.dn = some (.dK gvs) ∧ Gone gvs l ∧ gvs.length ≤ l.length
  shown : H a.ds = some (.lst (ivs sh))
  nd : a.foot.Nodup
  s1 : 1 ≤ site
  s2 : site ≤ 255
  good : Tc.Good l
  most : l.length ≤ 16384
/-- all that stands elsewhere is as it was -/
structure Keeps (a : Ad) (H H' : Hp) : Prop where
  on : ∀ b o, H b = some o → b ∉ a.foot → H' b = some o
  free : ∀ b, H' b = none → H b = none
theorem Keeps.refl (a : Ad) (H : Hp) : Keeps a H H := ⟨fun _ _ h _ => h, fun _ h => h⟩
theorem Keeps.trans {a : Ad} {H H1 H2 : Hp} (x : Keeps a H H1) (y : Keeps a H1 H2) : Keeps a H H2 := ⟨fun b o h n => y.on b o (x.on b o h n) n, fun b h => x.free b (y.free b h)⟩
theorem Keeps.of_same {a : Ad} {H H' : Hp} (h : Same H H') : Keeps a H H' := ⟨fun b o e _ => h b o e, fun b e => h.free e⟩
theorem upd_free {H : Hp} {a b : Addr} {o : HO} (h : upd H a o b = none) : H b = none := by
  by_cases e : b = a
  · subst e
    rw [upd_same] at h
    cases h
  · rw [upd_ne e] at h
    exact h
theorem mem_foot {a : Ad} {b : Addr} : b ∈ a.foot ↔ b = a.p ∨ b = a.dk ∨ b = a.dg ∨ b = a.df ∨ b = a.dn ∨ b = a.ds := by
  unfold Ad.foot
  simp only [List.mem_cons, List.not_mem_nil, or_false]
section
variable {C : Addr} {H H' : Hp} {a : Ad} {site : Nat} {l : List Change} {sh : List Nat}
theorem CopyAt.there (h : CopyAt C H a site l sh) {b : Addr} (hb : b ∈ a.foot) : ∃ o, H b = some o ∧ ∀ xs, o ≠ .tup xs := by
  rcases mem_foot.mp hb with rfl | rfl | rfl | rfl | rfl | rfl
  · exact ⟨_, h.ins, fun _ => by intro q; cases q⟩
  · obtain ⟨_, e, _⟩ := h.known
    exact ⟨_, e, fun _ => by intro q; cases q⟩
  · exact ⟨_, h.great, fun _ => by intro q; cases q⟩
  · obtain ⟨_, e, _⟩ := h.foll
    exact ⟨_, e, fun _ => by intro q; cases q⟩
  · obtain ⟨_, e, _⟩ := h.gone
    exact ⟨_, e, fun _ => by intro q; cases q⟩
  · exact ⟨_, h.shown, fun _ => by intro q; cases q⟩
theorem CopyAt.tup (h : CopyAt C H a site l sh) {b : Addr} {xs : List V} (e : H b = some (.tup xs)) : b ∉ a.foot := fun q => by
  obtain ⟨o, e2, n⟩ := h.there q
  rw [e] at e2
  exact n xs (Option.some.inj e2).symm
theorem CopyAt.free (h : CopyAt C H a site l sh) {b : Addr} (e : H b = none) : b ∉ a.foot := fun q => by
  obtain ⟨o, e2, _⟩ := h.there q
  rw [e] at e2
  cases e2
theorem Keeps.tups (h : CopyAt C H a site l sh) (k : Keeps a H H') : ∀ b xs, H b = some (.tup xs) → H' b = some (.tup xs) := fun b xs e => k.on b _ e (h.tup e)
theorem CopyAt.stay (h : CopyAt C H a site l sh) (k : ∀ b ∈ a.foot, ∀ o, H b = some o → H' b = some o) (kt : ∀ b xs, H b = some (.tup xs) → H' b = some (.tup xs)) : CopyAt C H' a site l sh := by
  obtain ⟨kvs, k1, k2⟩ := h.known
  obtain ⟨fvs, f1, f2⟩ := h.foll
  obtain ⟨gvs, g1, g2⟩ := h.gone
  have m := fun b => (mem_foot (a := a) (b := b)).mpr
  exact ⟨k _ (m _ (.inl rfl)) _ h.ins, ⟨kvs, k _ (m _ (.inr (.inl rfl))) _ k1, k2.mono kt⟩, k _ (m _ (.inr (.inr (.inl rfl)))) _ h.great, ⟨fvs, k _ (m _ (.inr (.inr (.inr (.inl rfl))))) _ f1, f2⟩,
    ⟨gvs, k _ (m _ (.inr (.inr (.inr (.inr (.inl rfl)))))) _ g1, g2⟩, k _ (m _ (.inr (.inr (.inr (.inr (.inr rfl)))))) _ h.shown, h.nd, h.s1, h.s2, h.good, h.most⟩
theorem CopyAt.same (h : CopyAt C H a site l sh) (k : Same H H') : CopyAt C H' a site l sh := h.stay (fun b _ o e => k b o e) fun b xs e => k b _ e
theorem cf_site {dk dg df dn ds : Addr} : (cf site dk dg df dn ds).lookup ("site" : Str) = some (iv site) := by rfl
theorem cf_known {dk dg df dn ds : Addr} : (cf site dk dg df dn ds).lookup ("known" : Str) = some (.ref dk) := by rfl
theorem cf_great {dk dg df dn ds : Addr} : (cf site dk dg df dn ds).lookup ("greatest" : Str) = some (.ref dg) := by rfl
theorem cf_foll {dk dg df dn ds : Addr} : (cf site dk dg df dn ds).lookup ("follower" : Str) = some (.ref df) := by rfl
theorem cf_gone {dk dg df dn ds : Addr} : (cf site dk dg df dn ds).lookup ("gone" : Str) = some (.ref dn) := by rfl
theorem cf_shown {dk dg df dn ds : Addr} : (cf site dk dg df dn ds).lookup ("shown" : Str) = some (.ref ds) := by rfl
theorem cf_put {dk dg df dn ds q : Addr} : putF "shown" (.ref q) (cf site dk dg df dn ds) = cf site dk dg df dn q := by rfl
end
end Tp
end
section
set_option Elab.async false
set_option linter.all false
set_option maxRecDepth 100000
set_option maxHeartbeats 2000000
namespace Tp
open PySem PySem.Spec PyProof.Rows L2
open Sn04 (Change)
theorem iteD {p A B : Prop} [Decidable p] (h1 : p → A) (h2 : ¬ p → B) : if decide p = true then A else B := by
  by_cases h : p
  · rw [if_pos (decide_eq_true h)]
    exact h1 h
  · rw [if_neg (by rw [decide_eq_false h]; exact Bool.false_ne_true)]
    exact h2 h
theorem iteB {b : Bool} {A B : Prop} (h1 : b = true → A) (h2 : b = false → B) : if b = true then A else B := by
  cases b with
  | true => rw [if_pos rfl]; exact h1 rfl
  | false => rw [if_neg Bool.false_ne_true]; exact h2 rfl
theorem same_new {H : Hp} {p : Addr} {o : HO} (h : H p = none) : Same H (upd H p o) := fun b u e => by
  rw [upd_ne (ne_of_none e h)]
  exact e
theorem ivs_at {l : List Nat} {i n : Nat} (h : l[i]? = some n) : (ivs l)[i]? = some (iv n) := by
  unfold ivs
  rw [List.getElem?_map, h]
  rfl
theorem at_iv {l : List Nat} {i n : Nat} (h : l[i]? = some n) : atI (ivs l) (i : Int) = some (iv n) := atI_nat (ivs_at h)
section
variable {P : Program} {w : World} {K : PySem.W.Frag} {mg : Str → Option Value} {base : Heap} {C : Addr}
/-! ### is_stretch -/
def spStretch (C : Addr) : Sp := fun vs H Q _ => ∃ (a : Ad) (site : Nat) (l : List Change) (sh : List Nat) (st k : Int), vs = [.ref a.p, .int st, .int k] ∧ CopyAt C H a site l sh ∧ Q (.bl (decide (0 ≤ st) && (decide (0 ≤ k) && decide (st + k ≤ (sh.length : Int))))) H
theorem sc20 : FnScope ["copy", "start", "k"] ["copy", "start", "k"] (defScope (top 20)) := ⟨rfl, rfl, rfl, by decide +kernel, rfl, by decide +kernel, by decide +kernel⟩
theorem ok_is_stretch (D : Def K mg "is_stretch" (top 20) ["copy", "start", "k"]) (T : Txt K mg C) : Has P w K mg base 1 "is_stretch" ["copy", "start", "k"] (spStretch C) := by
  refine D.has sc20 (fun vs H Q E h => ?_) (fun f cdv A outer s H vs Q E hr h => ?_)
  · obtain ⟨a, site, l, sh, st, k, rfl, _⟩ := h
    rfl
  · obtain ⟨a, site, l, sh, st, k, rfl, hC, hQ⟩ := h
    refine ⟨_, pss_one (ps_ret (pe_and (pe_cmpR op_ge (pv 1) pe_int (nomark _)) (pe_and (pe_cmpR op_ge (pv 2) pe_int (nomark _)) (pe_one (pe_cmpR op_le (pe_op op_add (pv 1) (pv 2))
      (pe_callB call_len_seq (by rfl) T.len PySem.boot_len (pa_cons (pe_fld (pv 0) rfl) pa_nil)) (nomark _)))))), ?_⟩
    refine ⟨_, rfl, _, _, rfl, rfl, _, rfl, iteD (fun h1 => ?_) (fun h1 => ?_)⟩
    · refine ⟨_, rfl, _, _, rfl, rfl, _, rfl, iteD (fun h2 => ?_) (fun h2 => ?_)⟩
      · refine ⟨_, rfl, _, rfl, _, _, rfl, rfl, _, rfl, a.p, C, a.dx, _, _, rfl, hC.ins, T.cl, T.nShown, cf_shown, a.ds, _, rfl, .inl (SqL.of hC.shown), _, _, rfl, rfl, ?_⟩
        rw [decide_eq_true h1, decide_eq_true h2, Bool.true_and, Bool.true_and] at hQ
        rw [List.length_map]
        exact hQ
      · rw [decide_eq_true h1, decide_eq_false h2, Bool.false_and, Bool.and_false] at hQ
        exact hQ
    · rw [decide_eq_false h1, Bool.false_and] at hQ
      exact hQ
/-! ### four bytes -/
def fourB (n : Nat) : List Nat := [n % 256, n / 256 % 256, n / 65536 % 256, n / 16777216]
def spFour : Sp := fun vs H Q _ => ∃ n : Nat, vs = [iv n] ∧ ∀ p, H p = none → Q (.ref p) (upd H p (.lst (ivs (fourB n))))
theorem sc21 : FnScope ["value"] ["value"] (defScope (top 21)) := ⟨rfl, rfl, rfl, by decide +kernel, rfl, by decide +kernel, by decide +kernel⟩
theorem ok_four (D : Def K mg "four_bytes" (top 21) ["value"]) : Has P w K mg base 1 "four_bytes" ["value"] spFour := by
  refine D.has sc21 (fun vs H Q E h => ?_) (fun f cdv A outer s H vs Q E hr h => ?_)
  · obtain ⟨n, rfl, _⟩ := h
    rfl
  · obtain ⟨n, rfl, k⟩ := h
    refine ⟨_, pss_one (ps_ret (pe_lst (pa_cons (pe_op op_mod (pv 0) pe_int) (pa_cons (pe_op op_mod (pe_op op_fdiv (pv 0) pe_int) pe_int) (pa_cons (pe_op op_mod (pe_op op_fdiv (pv 0) pe_int) pe_int) (pa_cons (pe_op op_fdiv (pv 0) pe_int) pa_nil)))))), ?_⟩
    refine ⟨_, rfl, _, _, rfl, rfl, (by show (0 : Int) < 256; decide), ?_⟩
    refine ⟨_, rfl, _, _, rfl, rfl, ⟨by decide, by decide⟩, _, _, rfl, rfl, (by show (0 : Int) < 256; decide), ?_⟩
    refine ⟨_, rfl, _, _, rfl, rfl, ⟨by decide, by decide⟩, _, _, rfl, rfl, (by show (0 : Int) < 256; decide), ?_⟩
    refine ⟨_, rfl, _, _, rfl, rfl, ⟨by decide, by decide⟩, ?_⟩
    exact ⟨by show 4 ≤ sizeLine; decide, k⟩
def spFrom (K : PySem.W.Frag) : Sp := fun vs H Q _ => ∃ (r : Addr) (xs : List Nat) (i a b c d : Nat), vs = [.ref r, iv i] ∧ SqL K H r (ivs xs) ∧ xs[i]? = some a ∧ xs[i + 1]? = some b ∧ xs[i + 2]? = some c ∧ xs[i + 3]? = some d ∧ Q (iv (a + b * 256 + c * 65536 + d * 16777216)) H
theorem sc22 : FnScope ["row", "start"] ["row", "start"] (defScope (top 22)) := ⟨rfl, rfl, rfl, by decide +kernel, rfl, by decide +kernel, by decide +kernel⟩
theorem ok_from (D : Def K mg "from_four_bytes" (top 22) ["row", "start"]) : Has P w K mg base 1 "from_four_bytes" ["row", "start"] (spFrom K) := by
  refine D.has sc22 (fun vs H Q E h => ?_) (fun f cdv A outer s H vs Q E hr h => ?_)
  · obtain ⟨r, xs, i, a, b, c, d, rfl, _⟩ := h
    rfl
  · obtain ⟨r, xs, i, a, b, c, d, rfl, hS, ha, hb, hc, hd, k⟩ := h
    refine ⟨_, pss_one (ps_ret (pe_op op_add (pe_op op_add (pe_op op_add (pe_ix ix_list (pv 0) (pv 1) (fun _ _ => rfl))
      (pe_op op_mul (pe_ix ix_list (pv 0) (pe_op op_add (pv 1) pe_int) (fun _ _ => rfl)) pe_int))
      (pe_op op_mul (pe_ix ix_list (pv 0) (pe_op op_add (pv 1) pe_int) (fun _ _ => rfl)) pe_int))
      (pe_op op_mul (pe_ix ix_list (pv 0) (pe_op op_add (pv 1) pe_int) (fun _ _ => rfl)) pe_int))), ?_⟩
    refine ⟨_, rfl, _, rfl, r, _, _, _, rfl, rfl, hS, at_iv ha, ?_⟩
    refine ⟨_, rfl, _, rfl, _, _, rfl, rfl, r, _, _, _, rfl, rfl, hS, at_iv (i := i + 1) hb, _, _, rfl, rfl, .inr ⟨by decide, by decide⟩, _, _, rfl, rfl, ?_⟩
    refine ⟨_, rfl, _, rfl, _, _, rfl, rfl, r, _, _, _, rfl, rfl, hS, at_iv (i := i + 2) hc, _, _, rfl, rfl, .inr ⟨by decide, by decide⟩, _, _, rfl, rfl, ?_⟩
    refine ⟨_, rfl, _, rfl, _, _, rfl, rfl, r, _, _, _, rfl, rfl, hS, at_iv (i := i + 3) hd, _, _, rfl, rfl, .inr ⟨by decide, by decide⟩, _, _, rfl, rfl, ?_⟩
    have e : ((a : Int) + (b : Int) * 256 + (c : Int) * 65536 + (d : Int) * 16777216) = ((a + b * 256 + c * 65536 + d * 16777216 : Nat) : Int) := by omega
    show Q (.int ((a : Int) + (b : Int) * 256 + (c : Int) * 65536 + (d : Int) * 16777216)) H
    rw [e]
    exact k
end
end Tp
end
section
set_option Elab.async false
set_option linter.all false
set_option maxRecDepth 100000
set_option maxHeartbeats 2000000
namespace Tp
open PySem PySem.Spec PyProof.Rows L2
open Sn04 (Change)
theorem iteN {p A B : Prop} [Decidable p] (h1 : ¬ p → A) (h2 : p → B) : if (!decide p) = true then A else B := by
  by_cases h : p
  · rw [decide_eq_true h]
    exact iteF (h2 h)
  · rw [decide_eq_false h]
    exact iteT (h1 h)
theorem iv_inj {a b : Nat} : iv a = iv b ↔ a = b := by
  constructor
  · intro h
    have := V.int.inj h
    omega
  · intro h
    rw [h]
theorem eqv3L (a b c x y z : Int) : PyData.eqv (.list [.int a, .int b, .int c]) (.list [.int x, .int y, .int z]) = (a == x && (b == y && (c == z && true))) := by rfl
theorem eqv3T (a b c x y z : Int) : PyData.eqv (.tuple [.int a, .int b, .int c]) (.tuple [.int x, .int y, .int z]) = (a == x && (b == y && (c == z && true))) := by rfl
theorem shaped3L (a b c : Int) : SeqAt.shaped (.list [.int a, .int b, .int c]) = true := by rfl
theorem shaped3T (a b c : Int) : SeqAt.shaped (.tuple [.int a, .int b, .int c]) = true := by rfl
section
variable {P : Program} {w : World} {K : PySem.W.Frag} {mg : Str → Option Value} {base : Heap} {C : Addr}
/-! ### sixteen_bytes -/
def spSixteen : Sp := fun vs H Q _ => ∃ (c : Change) (t : Addr) (l : List Change), vs = [iv (Tc.num c.id), .ref t] ∧ H t = some (.tup (chV c)) ∧ Tc.Fit l c ∧ ∀ (H' : Hp) (p : Addr), Same H H' → H' p = some (.lst (ivs (Sn04.encode c))) → Q (.ref p) H'
theorem sc23 : FnScope ["number", "change", "head", "other"] ["number", "change"] (defScope (top 23)) := ⟨rfl, rfl, rfl, by decide +kernel, rfl, by decide +kernel, by decide +kernel⟩
theorem ok_sixteen (D : Def K mg "sixteen_bytes" (top 23) ["number", "change"]) (T : Txt K mg C) (hS : Has P w K mg base 1 "site_of" ["number"] spSiteOf) (hC : Has P w K mg base 1 "count_of" ["number"] spCountOf) (hF : Has P w K mg base 1 "four_bytes" ["value"] spFour) :
    Has P w K mg base 2 "sixteen_bytes" ["number", "change"] spSixteen := by
  refine D.has sc23 (fun vs H Q E h => ?_) (fun f cdv A outer s H vs Q E hr h => ?_)
  · obtain ⟨c, t, l, rfl, _⟩ := h
    rfl
  · obtain ⟨c, t, l, rfl, ht, fit, k⟩ := h
    refine ⟨_, pss_cons (ps_set (i := 2) sc23.nd rfl (Or.inl rfl) (pe_lst (pa_cons (pe_fn hS hr (pa_cons (pv 0) pa_nil)) (pa_cons (pe_ix ix_tup (pv 1) (pe_gi T.KIND) (fun _ _ => rfl)) (pa_cons (pe_ix ix_tup (pv 1) (pe_gi T.BYTE) (fun _ _ => rfl)) (pa_cons pe_int pa_nil))))))
      (pss_cons (ps_set (i := 3) sc23.nd rfl (Or.inl rfl) (pe_op op_cat (pe_fn hF hr (pa_cons (pe_fn hC hr (pa_cons (pe_ix ix_tup (pv 1) (pe_gi T.OTHER) (fun _ _ => rfl)) pa_nil)) pa_nil)) (pe_lst (pa_cons (pe_fn hS hr (pa_cons (pe_ix ix_tup (pv 1) (pe_gi T.OTHER) (fun _ _ => rfl)) pa_nil)) pa_nil))))
      (pss_one (ps_ret (pe_op op_cat (pe_op op_cat (pe_op op_cat (pv 2) (pe_fn hF hr (pa_cons (pe_fn hC hr (pa_cons (pv 0) pa_nil)) pa_nil))) (pv 3)) (pe_lst (pa_cons pe_int (pa_cons pe_int (pa_cons pe_int pa_nil)))))))), ?_⟩
    -- head
    refine ⟨_, rfl, _, rfl, _, rfl, t, _, _, _, rfl, rfl, SqT.of ht, at_of (j := 0) rfl rfl, _, rfl, t, _, _, _, rfl, rfl, SqT.of ht, at_of (j := 1) rfl rfl, (by show 4 ≤ sizeLine; decide), fun p1 h1 => ?_⟩
    have s1 := same_new (o := .lst [iv (Tc.num c.id % 256), iv (Tc.kindN c), iv c.byte, .int 0]) h1
    -- other
    refine ⟨_, rfl, t, _, _, _, rfl, rfl, SqT.of (s1 _ _ ht), at_of (j := 2) rfl rfl, _, rfl, _, rfl, fun p2 h2 => ?_⟩
    have s2 := same_new (o := .lst (ivs (fourB (Tc.num c.other / 256)))) h2
    refine ⟨_, rfl, t, _, _, _, rfl, rfl, SqT.of (s2 _ _ (s1 _ _ ht)), at_of (j := 2) rfl rfl, _, rfl, (by show 1 ≤ sizeLine; decide), fun p3 h3 => ?_⟩
    have s3 := same_new (o := .lst [iv (Tc.num c.other % 256)]) h3
    refine ⟨p2, p3, _, _, rfl, rfl, s3 _ _ upd_same, upd_same, (by show 5 ≤ sizeLine; decide), fun p4 h4 => ?_⟩
    have s4 := same_new (o := .lst (ivs (fourB (Tc.num c.other / 256)) ++ [iv (Tc.num c.other % 256)])) h4
    -- return
    refine ⟨_, rfl, _, rfl, _, rfl, _, rfl, fun p5 h5 => ?_⟩
    have s5 := same_new (o := .lst (ivs (fourB (Tc.num c.id / 256)))) h5
    refine ⟨p1, p5, _, _, rfl, rfl, s5 _ _ (s4 _ _ (s3 _ _ (s2 _ _ upd_same))), upd_same, (by show 8 ≤ sizeLine; decide), fun p6 h6 => ?_⟩
    have s6 := same_new (o := .lst ([iv (Tc.num c.id % 256), iv (Tc.kindN c), iv c.byte, .int 0] ++ ivs (fourB (Tc.num c.id / 256)))) h6
    refine ⟨_, rfl, p6, p4, _, _, rfl, rfl, upd_same, s6 _ _ (s5 _ _ upd_same), (by show 13 ≤ sizeLine; decide), fun p7 h7 => ?_⟩
    have s7 := same_new (o := .lst (([iv (Tc.num c.id % 256), iv (Tc.kindN c), iv c.byte, .int 0] ++ ivs (fourB (Tc.num c.id / 256))) ++ (ivs (fourB (Tc.num c.other / 256)) ++ [iv (Tc.num c.other % 256)]))) h7
    refine ⟨(by show 3 ≤ sizeLine; decide), fun p8 h8 => ?_⟩
    have s8 := same_new (o := .lst [.int 0, .int 0, .int 0]) h8
    refine ⟨p7, p8, _, _, rfl, rfl, s8 _ _ upd_same, upd_same, (by show 16 ≤ sizeLine; decide), fun p9 h9 => ?_⟩
    refine k _ p9 ((((((((s1.trans s2).trans s3).trans s4).trans s5).trans s6).trans s7).trans s8).trans (same_new h9)) ?_
    rw [upd_same, Tc.encode_eq fit, Tc.num_mod fit.site2, Tc.num_mod fit.osite, Tc.num_div fit.site2, Tc.num_div fit.osite]
    rfl
end
end Tp
end
section
set_option Elab.async false
set_option linter.all false
set_option maxRecDepth 100000
set_option maxHeartbeats 2000000
namespace Tp
open PySem PySem.Spec PyProof.Rows L2
open Sn04 (Change)
theorem hu64 {A : Around} {k : Nat} (hr : Room k A) : A.units + 64 < cLine := hr.units
section
variable {P : Program} {w : World} {K : PySem.W.Frag} {mg : Str → Option Value} {base : Heap} {C : Addr}
/-! ### rows -/
def spForm (K : PySem.W.Frag) : Sp := fun vs H Q _ => ∃ (r : Addr) (r0 r1 r2 r3 r4 r5 r6 r7 r8 r9 r10 r11 r12 r13 r14 r15 : Nat), vs = [.ref r] ∧ SqL K H r (ivs [r0, r1, r2, r3, r4, r5, r6, r7, r8, r9, r10, r11, r12, r13, r14, r15]) ∧
  ∀ H' : Hp, Same H H' → Q (.bl (decide ((r1 = 1 ∨ (r1 = 2 ∧ r2 = 0)) ∧ r3 = 0 ∧ r13 = 0 ∧ r14 = 0 ∧ r15 = 0))) H'
theorem sc24 : FnScope ["row"] ["row"] (defScope (top 24)) := ⟨rfl, rfl, rfl, by decide +kernel, rfl, by decide +kernel, by decide +kernel⟩
theorem ok_form (D : Def K mg "has_form" (top 24) ["row"]) (T : Txt K mg C) : Has P w K mg base 1 "has_form" ["row"] (spForm K) := by
  refine D.has sc24 (fun vs H Q E h => ?_) (fun f cdv A outer s H vs Q E hr h => ?_)
  · obtain ⟨r, r0, r1, r2, r3, r4, r5, r6, r7, r8, r9, r10, r11, r12, r13, r14, r15, rfl, _⟩ := h
    rfl
  · obtain ⟨r, r0, r1, r2, r3, r4, r5, r6, r7, r8, r9, r10, r11, r12, r13, r14, r15, rfl, hS, k⟩ := h
    refine ⟨_, pss_cons (ps_if (pw_or (pt_cmpR op_ne (pe_ix ix_list (pv 0) pe_int (fun _ _ => rfl)) pe_int (nomark _)) (pw_or1 (pt_cmpR (op_neD (hu64 hr)) (pe_slice sl_list (pv 0) (po_some pe_int) po_none) (pe_lst (pa_cons pe_int (pa_cons pe_int (pa_cons pe_int pa_nil)))) (nomark _)))).pt
      (pss_one (ps_ret pe_bl)) pss_nil)
      (pss_one (ps_ret (pe_or (pe_cmpR op_eq (pe_ix ix_list (pv 0) pe_int (fun _ _ => rfl)) (pe_gi T.PUTS) (nomark _)) (pe_one (pe_and (pe_cmpR op_eq (pe_ix ix_list (pv 0) pe_int (fun _ _ => rfl)) (pe_gi T.TAKES) (nomark _)) (pe_one (pe_cmpR op_eq (pe_ix ix_list (pv 0) pe_int (fun _ _ => rfl)) pe_int (nomark _)))))))), ?_⟩
    -- row[3] != 0
    refine ⟨_, rfl, r, _, _, _, rfl, rfl, hS, at_of (j := 3) rfl rfl, rfl, _, rfl, iteN (fun h3 => ?_) (fun h3 => ?_)⟩
    · refine iteT ?_
      have e : decide ((r1 = 1 ∨ (r1 = 2 ∧ r2 = 0)) ∧ r3 = 0 ∧ r13 = 0 ∧ r14 = 0 ∧ r15 = 0) = false := decide_eq_false fun q => h3 (by rw [q.2.1]; rfl)
      rw [e] at k
      exact k H (Same.refl H)
    · have e3 : r3 = 0 := iv_inj.mp h3
      -- row[13:] != [0, 0, 0]
      refine ⟨_, rfl, _, rfl, r, _, rfl, hS, fun p1 h1 => ?_⟩
      have s1 := same_new (o := .lst [iv r13, iv r14, iv r15]) h1
      refine ⟨(by show 3 ≤ sizeLine; decide), fun p2 h2 => ?_⟩
      have s2 := same_new (o := .lst [.int 0, .int 0, .int 0]) h2
      have sS := (s1.trans s2)
      refine ⟨.list [.int r13, .int r14, .int r15], .list [.int 0, .int 0, .int 0], .lst (SqL.of (s2 _ _ upd_same)) (.cons (.int _) (.cons (.int _) (.cons (.int _) .nil))), .lst (SqL.of upd_same) (.cons (.int _) (.cons (.int _) (.cons (.int _) .nil))), shaped3L _ _ _, shaped3L _ _ _, _, rfl, ?_⟩
      rw [eqv3L]
      by_cases hz : r13 = 0 ∧ r14 = 0 ∧ r15 = 0
      · have z13 : ((r13 : Int) == 0) = true := by rw [hz.1]; rfl
        have z14 : ((r14 : Int) == 0) = true := by rw [hz.2.1]; rfl
        have z15 : ((r15 : Int) == 0) = true := by rw [hz.2.2]; rfl
        rw [z13, z14, z15]
        refine iteF ?_
        have k' := k _ sS
        refine ⟨_, rfl, r, _, _, _, rfl, rfl, sS.seq hS, at_of (j := 1) rfl rfl, rfl, _, rfl, iteD (fun q1 => ?_) (fun q1 => ?_)⟩
        · have e : decide ((r1 = 1 ∨ (r1 = 2 ∧ r2 = 0)) ∧ r3 = 0 ∧ r13 = 0 ∧ r14 = 0 ∧ r15 = 0) = true := decide_eq_true ⟨.inl (iv_inj.mp q1), e3, hz⟩
          rw [e] at k'
          exact k'
        · refine ⟨_, rfl, r, _, _, _, rfl, rfl, sS.seq hS, at_of (j := 1) rfl rfl, rfl, _, rfl, iteD (fun q2 => ?_) (fun q2 => ?_)⟩
          · refine ⟨_, rfl, r, _, _, _, rfl, rfl, sS.seq hS, at_of (j := 2) rfl rfl, rfl, ?_⟩
            have e : decide (iv r2 = iv 0) = decide ((r1 = 1 ∨ (r1 = 2 ∧ r2 = 0)) ∧ r3 = 0 ∧ r13 = 0 ∧ r14 = 0 ∧ r15 = 0) := by
              rw [decide_eq_decide]
              constructor
              · intro q
                exact ⟨.inr ⟨iv_inj.mp q2, iv_inj.mp q⟩, e3, hz⟩
              · rintro ⟨q | q, _⟩
                · exact absurd (iv_inj.mpr q) q1
                · exact iv_inj.mpr q.2
            rw [← e] at k'
            exact k'
          · have e : decide ((r1 = 1 ∨ (r1 = 2 ∧ r2 = 0)) ∧ r3 = 0 ∧ r13 = 0 ∧ r14 = 0 ∧ r15 = 0) = false := decide_eq_false (by
              rintro ⟨q | q, _⟩
              · exact q1 (iv_inj.mpr q)
              · exact q2 (iv_inj.mpr q.1))
            rw [e] at k'
            exact k'
      · have e : (((r13 : Int) == 0) && (((r14 : Int) == 0) && (((r15 : Int) == 0) && true))) = false := by
          rw [Bool.eq_false_iff]
          intro q
          rw [Bool.and_eq_true, Bool.and_eq_true, Bool.and_eq_true, beq_iff_eq, beq_iff_eq, beq_iff_eq] at q
          exact hz ⟨by omega, by omega, by omega⟩
        rw [e]
        refine iteT ?_
        have e : decide ((r1 = 1 ∨ (r1 = 2 ∧ r2 = 0)) ∧ r3 = 0 ∧ r13 = 0 ∧ r14 = 0 ∧ r15 = 0) = false := decide_eq_false fun q => hz q.2.2
        have k' := k _ sS
        rw [e] at k'
        exact k'
def spNumIn (K : PySem.W.Frag) : Sp := fun vs H Q _ => ∃ (r : Addr) (xs : List Nat) (r0 r4 r5 r6 r7 : Nat), vs = [.ref r] ∧ SqL K H r (ivs xs) ∧ xs[0]? = some r0 ∧ xs[4]? = some r4 ∧ xs[5]? = some r5 ∧ xs[6]? = some r6 ∧ xs[7]? = some r7 ∧
  Q (iv ((r4 + r5 * 256 + r6 * 65536 + r7 * 16777216) * 256 + r0)) H
theorem sc25 : FnScope ["row"] ["row"] (defScope (top 25)) := ⟨rfl, rfl, rfl, by decide +kernel, rfl, by decide +kernel, by decide +kernel⟩
theorem ok_number_in (D : Def K mg "number_in" (top 25) ["row"]) (hN : Has P w K mg base 1 "number_of" ["count", "site"] spNumberOf) (hF : Has P w K mg base 1 "from_four_bytes" ["row", "start"] (spFrom K)) : Has P w K mg base 2 "number_in" ["row"] (spNumIn K) := by
  refine D.has sc25 (fun vs H Q E h => ?_) (fun f cdv A outer s H vs Q E hr h => ?_)
  · obtain ⟨r, xs, r0, r4, r5, r6, r7, rfl, _⟩ := h
    rfl
  · obtain ⟨r, xs, r0, r4, r5, r6, r7, rfl, hS, h0, h4, h5, h6, h7, k⟩ := h
    refine ⟨_, pss_one (ps_ret (pe_fn hN hr (pa_cons (pe_fn hF hr (pa_cons (pv 0) (pa_cons pe_int pa_nil))) (pa_cons (pe_ix ix_list (pv 0) pe_int (fun _ _ => rfl)) pa_nil)))), ?_⟩
    refine ⟨_, rfl, r, xs, 4, r4, r5, r6, r7, rfl, hS, h4, h5, h6, h7, _, rfl, r, _, _, _, rfl, rfl, hS, at_iv (i := 0) h0, _, _, rfl, k⟩
def spChIn (K : PySem.W.Frag) : Sp := fun vs H Q _ => ∃ (r : Addr) (xs : List Nat) (r1 r2 r8 r9 r10 r11 r12 : Nat), vs = [.ref r] ∧ SqL K H r (ivs xs) ∧ xs[1]? = some r1 ∧ xs[2]? = some r2 ∧ xs[8]? = some r8 ∧ xs[9]? = some r9 ∧ xs[10]? = some r10 ∧ xs[11]? = some r11 ∧ xs[12]? = some r12 ∧
  ∀ p, H p = none → Q (.ref p) (upd H p (.tup [iv r1, iv r2, iv ((r8 + r9 * 256 + r10 * 65536 + r11 * 16777216) * 256 + r12)]))
theorem sc26 : FnScope ["row"] ["row"] (defScope (top 26)) := ⟨rfl, rfl, rfl, by decide +kernel, rfl, by decide +kernel, by decide +kernel⟩
theorem ok_change_in (D : Def K mg "change_in" (top 26) ["row"]) (hN : Has P w K mg base 1 "number_of" ["count", "site"] spNumberOf) (hF : Has P w K mg base 1 "from_four_bytes" ["row", "start"] (spFrom K)) : Has P w K mg base 2 "change_in" ["row"] (spChIn K) := by
  refine D.has sc26 (fun vs H Q E h => ?_) (fun f cdv A outer s H vs Q E hr h => ?_)
  · obtain ⟨r, xs, r1, r2, r8, r9, r10, r11, r12, rfl, _⟩ := h
    rfl
  · obtain ⟨r, xs, r1, r2, r8, r9, r10, r11, r12, rfl, hS, h1, h2, h8, h9, h10, h11, h12, k⟩ := h
    refine ⟨_, pss_one (ps_ret (pe_tup (pa_cons (pe_ix ix_list (pv 0) pe_int (fun _ _ => rfl)) (pa_cons (pe_ix ix_list (pv 0) pe_int (fun _ _ => rfl)) (pa_cons (pe_fn hN hr (pa_cons (pe_fn hF hr (pa_cons (pv 0) (pa_cons pe_int pa_nil))) (pa_cons (pe_ix ix_list (pv 0) pe_int (fun _ _ => rfl)) pa_nil))) pa_nil))))), ?_⟩
    refine ⟨_, rfl, r, _, _, _, rfl, rfl, hS, at_iv (i := 1) h1, _, rfl, r, _, _, _, rfl, rfl, hS, at_iv (i := 2) h2, ?_⟩
    refine ⟨_, rfl, r, xs, 8, r8, r9, r10, r11, rfl, hS, h8, h9, h10, h11, _, rfl, r, _, _, _, rfl, rfl, hS, at_iv (i := 12) h12, _, _, rfl, (by show 3 ≤ sizeLine; decide), k⟩
/-! ### stand_behind -/
def spStand : Sp := fun vs H Q _ => ∃ (df : Addr) (n o : Nat) (fvs : List (Key × V)) (R : List Nat), vs = [.ref df, iv n, iv o] ∧ H df = some (.dK fvs) ∧ Foll fvs R ∧ R.Nodup ∧ o ∈ R ∧ n ∉ R ∧ fvs.length + 2 ≤ sizeLine ∧
  ∀ fvs' : List (Key × V), Foll fvs' (Tc.insN o n R) → fvs'.length ≤ fvs.length + 2 → Q .non (upd H df (.dK fvs'))
theorem sc27 : FnScope ["follower", "number", "other", "ahead"] ["follower", "number", "other"] (defScope (top 27)) := ⟨rfl, rfl, rfl, by decide +kernel, rfl, by decide +kernel, by decide +kernel⟩
theorem skipN_split {n : Nat} : ∀ {S T : List Nat}, (∀ y ∈ S, n < y) → (∀ y r, T = y :: r → ¬ n < y) → Tc.skipN n (S ++ T) = S ++ n :: T
  | [], [], _, _ => rfl
  | [], y :: r, _, h => by
    have := h y r rfl
    unfold Tc.skipN
    rw [List.nil_append, List.takeWhile_cons_of_neg (by simpa using this), List.dropWhile_cons_of_neg (by simpa using this)]
    first | done | rfl
  | x :: S, T, h1, h2 => by
    have hx := h1 x (List.mem_cons_self ..)
    have ih := skipN_split (S := S) (T := T) (fun y hy => h1 y (List.mem_cons_of_mem _ hy)) h2
    unfold Tc.skipN at ih ⊢
    rw [List.cons_append, List.takeWhile_cons_of_pos (by simpa using hx), List.dropWhile_cons_of_pos (by simpa using hx), List.cons_append, ih]
    first | done | rfl
theorem ok_stand (D : Def K mg "stand_behind" (top 27) ["follower", "number", "other"]) : Has P w K mg base 1 "stand_behind" ["follower", "number", "other"] spStand := by
  refine D.has sc27 (fun vs H Q E h => ?_) (fun f cdv A outer s H vs Q E hr h => ?_)
  · obtain ⟨df, n, o, fvs, R, rfl, _⟩ := h
    rfl
  · obtain ⟨df, n, o, fvs, R, rfl, hf, lk, nd, ho, hn, hz, k⟩ := h
    have hu := hu_of hr
    refine ⟨_, pss_cons (ps_set (i := 3) sc27.nd rfl (Or.inl rfl) (pv 2))
      (pss_cons (ps_while PassesOwn.never (pt_cmpR op_gt (pe_dget hu (pv 0) (pv 3) (fun _ _ => rfl)) (pv 1) (nomark _)) (pss_one (ps_set (i := 3) sc27.nd rfl (Or.inl rfl) (pe_dget hu (pv 0) (pv 3) (fun _ _ => rfl)))))
      (pss_cons (ps_dput hu (pv 0) (pv 1) (pe_dget hu (pv 0) (pv 3) (fun _ _ => rfl)) rfl)
      (pss_one (ps_dput hu (pv 0) (pv 3) (pv 1) rfl)))), ?_⟩
    obtain ⟨A0, B0, eR⟩ := List.append_of_mem ho
    have oA : o ∉ A0 := fun q => by
      rw [eR] at nd
      exact (List.nodup_append.mp nd).2.2 o q o (List.mem_cons_self ..) rfl
    refine ⟨_, rfl, ?_⟩
    refine ⟨fun m σ H' => H' = H ∧ ∃ (S T L : List Nat) (x : Nat), σ = [some (.ref df), some (iv n), some (iv o), some (iv x)] ∧ B0 = S ++ T ∧ (∀ y ∈ S, n < y) ∧ A0 ++ o :: S = L ++ [x] ∧ m = T.length, ⟨B0.length, rfl, [], B0, A0, o, rfl, rfl, by simp, rfl, rfl⟩, ?_⟩
    rintro m σ H' ⟨rfl, S, T, L, x, rfl, eB, hS, eL, rfl⟩
    have eR2 : R = L ++ x :: T := by
      rw [eR, eB]
      have : A0 ++ o :: (S ++ T) = (A0 ++ o :: S) ++ T := by simp
      rw [this, eL]
      simp
    have lk' := lk
    rw [eR2] at lk'
    have fx : valV fvs (kI x) = some (iv (hd0 T)) := lk'.at
    refine ⟨_, rfl, _, rfl, df, _, rfl, (by have := DGet.k (k := kI x) hf; rw [fx] at this; exact this), _, rfl, _, _, rfl, rfl, _, rfl, iteD (fun h1 => ?_) (fun h1 => ?_)⟩
    · have h1' : n < hd0 T := by omega
      cases T with
      | nil => exact absurd h1' (by show ¬ n < 0; omega)
      | cons t T' =>
        refine ⟨fun σ' H2 => ∃ m', m' < (t :: T').length ∧ (H2 = H' ∧ ∃ (S T L : List Nat) (x : Nat), σ' = [some (.ref df), some (iv n), some (iv o), some (iv x)] ∧ B0 = S ++ T ∧ (∀ y ∈ S, n < y) ∧ A0 ++ o :: S = L ++ [x] ∧ m' = T.length), fun _ _ h => h, ?_⟩
        refine ⟨_, rfl, _, rfl, df, _, rfl, (by have := DGet.k (k := kI x) hf; rw [fx] at this; exact this), ?_⟩
        refine ⟨T'.length, by simp, rfl, S ++ [t], T', L ++ [x], t, rfl, by rw [eB]; simp, fun y hy => ?_, ?_, rfl⟩
        · rcases List.mem_append.mp hy with hy | hy
          · exact hS y hy
          · rw [List.mem_singleton.mp hy]
            exact h1'
        · have : A0 ++ o :: (S ++ [t]) = (A0 ++ o :: S) ++ [t] := by simp
          rw [this, eL]
    · have h1' : ¬ n < hd0 T := by omega
      refine ⟨_, rfl, _, rfl, df, _, rfl, (by have := DGet.k (k := kI x) hf; rw [fx] at this; exact this), _, rfl, _, rfl, df, _, rfl, DPut.k (k := kI n) hf (by omega), ?_⟩
      have hl1 := length_putK fvs (kI n) (iv (hd0 T))
      refine ⟨_, rfl, _, rfl, _, rfl, df, _, rfl, DPut.k (k := kI x) upd_same (by omega), ?_⟩
      rw [upd_upd]
      have hl2 := length_putK (putK fvs (kI n) (iv (hd0 T))) (kI x) (iv n)
      refine k _ ?_ (by omega)
      have hxn : x ≠ n := fun q => hn (by rw [eR2, q]; simp)
      rw [eR, Tc.insN_split oA, eB, skipN_split hS (fun y r e => by rw [e] at h1'; exact h1')]
      have e2 : A0 ++ o :: (S ++ n :: T) = L ++ x :: n :: T := by
        have : A0 ++ o :: (S ++ n :: T) = (A0 ++ o :: S) ++ n :: T := by simp
        rw [this, eL]
        simp
      rw [e2]
      refine Lk.put (R := FR fvs) lk' (by rw [← eR2]; exact nd) (by rw [← eR2]; exact hn) (fun y z h1 h2 h3 => ?_) ?_ ?_
      · show valV (putK (putK fvs (kI n) (iv (hd0 T))) (kI x) (iv n)) (kI y) = _
        rw [valV_put, if_neg (fun q => h1 (kI_inj q)), valV_put, if_neg (fun q => h2 (kI_inj q))]
        exact h3
      · show valV (putK (putK fvs (kI n) (iv (hd0 T))) (kI x) (iv n)) (kI x) = _
        rw [valV_put, if_pos rfl]
      · show valV (putK (putK fvs (kI n) (iv (hd0 T))) (kI x) (iv n)) (kI n) = _
        rw [valV_put, if_neg (fun q => hxn (kI_inj q).symm), valV_put, if_pos rfl]
end
end Tp
end
section
set_option Elab.async false
set_option linter.all false
set_option maxRecDepth 100000
set_option maxHeartbeats 2000000
namespace Tp
open PySem PySem.Spec PyProof.Rows L2
open Sn04 (Change)
theorem foot_ne {a : Ad} (h : a.foot.Nodup) : (a.p ≠ a.dk ∧ a.p ≠ a.dg ∧ a.p ≠ a.df ∧ a.p ≠ a.dn ∧ a.p ≠ a.ds) ∧ (a.dk ≠ a.dg ∧ a.dk ≠ a.df ∧ a.dk ≠ a.dn ∧ a.dk ≠ a.ds) ∧ (a.dg ≠ a.df ∧ a.dg ≠ a.dn ∧ a.dg ≠ a.ds) ∧ (a.df ≠ a.dn ∧ a.df ≠ a.ds) ∧ a.dn ≠ a.ds := by
  unfold Ad.foot at h
  simp only [List.nodup_cons, List.mem_cons, List.not_mem_nil, or_false, not_or, not_false_eq_true, List.nodup_nil, and_true] at h
  exact h
theorem ivs_set (l : List Nat) (i n : Nat) : ivs (l.set i n) = (ivs l).set i (iv n) := List.map_set
theorem line16 {n : Nat} (h : n ≤ 40000) : n < sizeLine := Nat.lt_of_le_of_lt h (by decide)
section
variable {P : Program} {w : World} {K : PySem.W.Frag} {mg : Str → Option Value} {base : Heap} {C : Addr}
/-! ### keep -/
def spKeep (C : Addr) : Sp := fun vs H Q _ => ∃ (a : Ad) (site : Nat) (l : List Change) (sh : List Nat) (c : Change) (t : Addr), vs = [.ref a.p, iv (Tc.num c.id), .ref t] ∧ CopyAt C H a site l sh ∧ H t = some (.tup (chV c)) ∧ Tc.Fit l c ∧ Tc.New l c ∧ l.length < 16384 ∧
  ∀ H' : Hp, CopyAt C H' a site (Sn04.insert c l) sh → Keeps a H H' → Q .non H'
theorem sc28 : FnScope ["copy", "number", "change", "site", "count"] ["copy", "number", "change"] (defScope (top 28)) := ⟨rfl, rfl, rfl, by decide +kernel, rfl, by decide +kernel, by decide +kernel⟩
theorem ok_keep (D : Def K mg "keep" (top 28) ["copy", "number", "change"]) (T : Txt K mg C) (hS : Has P w K mg base 1 "site_of" ["number"] spSiteOf) (hC : Has P w K mg base 1 "count_of" ["number"] spCountOf)
    (hB : Has P w K mg base 1 "stand_behind" ["follower", "number", "other"] spStand) : Has P w K mg base 2 "keep" ["copy", "number", "change"] (spKeep C) := by
  refine D.has sc28 (fun vs H Q E h => ?_) (fun f cdv A outer s H vs Q E hr h => ?_)
  · obtain ⟨a, site, l, sh, c, t, rfl, _⟩ := h
    rfl
  · obtain ⟨a, site, l, sh, c, t, rfl, cp, ht, fit, hn, hm, k⟩ := h
    have hu := hu_of hr
    obtain ⟨⟨n1, n2, n3, n4, n5⟩, ⟨n6, n7, n8, n9⟩, ⟨n10, n11, n12⟩, ⟨n13, n14⟩, n15⟩ := foot_ne cp.nd
    obtain ⟨kvs, k1, k2⟩ := cp.known
    obtain ⟨fvs, f1, f2, f3⟩ := cp.foll
    obtain ⟨gvs, g1, g2, g3⟩ := cp.gone
    refine ⟨_, pss_cons (ps_set (i := 3) sc28.nd rfl (Or.inl rfl) (pe_fn hS hr (pa_cons (pv 1) pa_nil)))
      (pss_cons (ps_set (i := 4) sc28.nd rfl (Or.inl rfl) (pe_fn hC hr (pa_cons (pv 1) pa_nil)))
      (pss_cons (ps_dput hu (pe_fld (pv 0) rfl) (pv 1) (pv 2) rfl)
      (pss_cons (ps_if (pt_cmpR op_gt (pv 4) (pe_ix ix_list (pe_fld (pv 0) rfl) (pv 3) (fun _ _ => rfl)) (nomark _)) (pss_one (ps_asg (pv 4) (pg_sub (pe_fld (pv 0) rfl) (pv 3) set_list))) pss_nil)
      (pss_one (ps_if (pt_cmpR op_eq (pe_ix ix_tup (pv 2) (pe_gi T.KIND) (fun _ _ => rfl)) (pe_gi T.PUTS) (nomark _))
        (pss_one (ps_expr (pe_fn hB hr (pa_cons (pe_fld (pv 0) rfl) (pa_cons (pv 1) (pa_cons (pe_ix ix_tup (pv 2) (pe_gi T.OTHER) (fun _ _ => rfl)) pa_nil))))))
        (pss_one (ps_dput hu (pe_fld (pv 0) rfl) (pe_ix ix_tup (pv 2) (pe_gi T.OTHER) (fun _ _ => rfl)) pe_bl rfl))))))), ?_⟩
    refine ⟨_, rfl, _, rfl, _, rfl, _, rfl, ?_⟩
    rw [Tc.num_mod fit.site2, Tc.num_div fit.site2]
    refine ⟨_, rfl, _, rfl, a.p, C, a.dx, _, _, rfl, cp.ins, T.cl, T.nKnown, cf_known, _, rfl, a.dk, _, rfl, DPut.k (k := kI (Tc.num c.id)) k1 (line16 (by have := k2.len; have := cp.most; omega)), ?_⟩
    -- greatest
    have tne : ∀ b, b ∈ a.foot → t ≠ b := fun b hb q => cp.tup ht (by rw [q]; exact hb)
    have mf := fun b => (mem_foot (a := a) (b := b)).mpr
    have e1p : upd H a.dk (.dK (putK kvs (kI (Tc.num c.id)) (.ref t))) a.p = _ := (upd_ne n1).trans cp.ins
    have e1g : upd H a.dk (.dK (putK kvs (kI (Tc.num c.id)) (.ref t))) a.dg = _ := (upd_ne n6.symm).trans cp.great
    have site256 : c.id.site < 256 := Nat.lt_succ_of_le fit.site2
    refine ⟨_, rfl, _, rfl, a.p, C, a.dx, _, _, rfl, e1p, T.cl, T.nGreat, cf_great, _, rfl, a.dg, _, _, _, rfl, rfl, SqL.of e1g, at_iv (i := c.id.site) (Tc.greats_at l site256), _, _, rfl, rfl, _, rfl, ?_⟩
    -- what is left, over any heap that knows the change and its count
    have rest : ∀ H2 : Hp, H2 a.dk = some (.dK (putK kvs (kI (Tc.num c.id)) (.ref t))) → H2 a.dg = some (.lst (ivs (Tc.greats (Sn04.insert c l)))) → (∀ b, b ≠ a.dk → b ≠ a.dg → H2 b = H b) →
        tIfS (tTest (tOp rEq (tOp (rIxT K) (tVar 2) (tC (.int 0))) (tC (.int 1)))) (tDrop (tCall spStand [] E0 (tCons (tFld K (tVar 0) "follower") (tCons (tVar 1) (tCons (tOp (rIxT K) (tVar 2) (tC (.int 2))) tNil)))))
          (sDPut (tFld K (tVar 0) "gone") (tOp (rIxT K) (tVar 2) (tC (.int 2))) (tC (.bl true))) { nx := fun _ H' => Q .non H', rt := Q } [some (.ref a.p), some (iv (Tc.num c.id)), some (.ref t), some (iv c.id.site), some (iv c.id.count)] H2 := by
      intro H2 q1 q2 q3
      have ip : H2 a.p = _ := (q3 _ n1 n2).trans cp.ins
      have it : H2 t = _ := (q3 _ (tne _ (mf _ (.inr (.inl rfl)))) (tne _ (mf _ (.inr (.inr (.inl rfl)))))).trans ht
      have tups : ∀ b xs, H b = some (.tup xs) → H2 b = some (.tup xs) := fun b xs e => by
        have nb := cp.tup e
        rw [q3 b (fun q => nb (by rw [q]; exact mf _ (.inr (.inl rfl)))) (fun q => nb (by rw [q]; exact mf _ (.inr (.inr (.inl rfl)))))]
        exact e
      have iF : H2 a.df = _ := (q3 _ n7.symm n10.symm).trans f1
      have iN : H2 a.dn = _ := (q3 _ n8.symm n11.symm).trans g1
      have iS : H2 a.ds = _ := (q3 _ n9.symm n12.symm).trans cp.shown
      have fr2 : ∀ b, H2 b = none → H b = none := fun b e => by
        by_cases b1 : b = a.dk
        · rw [b1, q1] at e; cases e
        · by_cases b2 : b = a.dg
          · rw [b2, q2] at e; cases e
          · rw [← q3 b b1 b2]; exact e
      have len' : (Sn04.insert c l).length = l.length + 1 := Tc.length_insert
      have good' := cp.good.insert fit hn
      refine ⟨_, rfl, t, _, _, _, rfl, rfl, SqT.of it, at_of (j := 0) rfl rfl, rfl, _, rfl, iteD (fun h2 => ?_) (fun h2 => ?_)⟩
      · -- it puts in
        have ho : c.out = false := by
          have : Tc.kindN c = 1 := iv_inj.mp h2
          unfold Tc.kindN at this
          cases e : c.out with
          | false => rfl
          | true => rw [e] at this; cases this
        refine ⟨_, rfl, a.p, C, a.dx, _, _, rfl, ip, T.cl, T.nFoll, cf_foll, _, rfl, _, rfl, t, _, _, _, rfl, rfl, SqT.of it, at_of (j := 2) rfl rfl, a.df, Tc.num c.id, Tc.num c.other, fvs, Tc.ring l, rfl, iF, f2, cp.good.nd, fit.ring cp.good.wf, Tc.ring_new cp.good.wf fit hn, Nat.le_of_lt (line16 (by have := cp.most; omega)), fun fvs' h3 h4 => ?_⟩
        refine k _ ⟨(upd_ne n3).trans ip, ⟨_, (upd_ne n7).trans q1, ?_⟩, (upd_ne n10).trans q2, ⟨fvs', upd_same, ?_, by omega⟩, ⟨gvs, (upd_ne n13.symm).trans iN, fun n => ?_, by omega⟩, (upd_ne n14.symm).trans iS, cp.nd, cp.s1, cp.s2, good', by omega⟩ ?_
        · refine k2.put hn (fun b xs e => ?_) ?_
          · rw [upd_ne (ne_of (tups b xs e) iF (by intro z; cases z))]
            exact tups b xs e
          · rw [upd_ne (ne_of it iF (by intro z; cases z))]
            exact it
        · rw [Tc.ring_put cp.good.wf fit hn ho cp.good.nd]
          exact h3
        · rw [g2 n, Tc.goneN_insert, ho, Bool.false_and, Bool.or_false]
        · refine ⟨fun b o e nb => ?_, fun b e => fr2 b (upd_free e)⟩
          rw [upd_ne (fun q => nb (by rw [q]; exact mf _ (.inr (.inr (.inr (.inl rfl)))))), q3 b (fun q => nb (by rw [q]; exact mf _ (.inr (.inl rfl)))) (fun q => nb (by rw [q]; exact mf _ (.inr (.inr (.inl rfl)))))]
          exact e
      · -- it takes out
        have ho : c.out = true := by
          cases e : c.out with
          | true => rfl
          | false => exact absurd (iv_inj.mpr (show Tc.kindN c = 1 by unfold Tc.kindN; rw [e]; rfl)) h2
        refine ⟨_, rfl, a.p, C, a.dx, _, _, rfl, ip, T.cl, T.nGone, cf_gone, _, rfl, t, _, _, _, rfl, rfl, SqT.of it, at_of (j := 2) rfl rfl, a.dn, _, rfl, DPut.k (k := kI (Tc.num c.other)) iN (line16 (by have := cp.most; omega)), ?_⟩
        have hl := length_putK gvs (kI (Tc.num c.other)) (.bl true)
        refine k _ ⟨(upd_ne n4).trans ip, ⟨_, (upd_ne n8).trans q1, ?_⟩, (upd_ne n11).trans q2, ⟨fvs, (upd_ne n13).trans iF, ?_, by omega⟩, ⟨_, upd_same, fun n => ?_, by omega⟩, (upd_ne n15.symm).trans iS, cp.nd, cp.s1, cp.s2, good', by omega⟩ ?_
        · refine k2.put hn (fun b xs e => ?_) ?_
          · rw [upd_ne (ne_of (tups b xs e) iN (by intro z; cases z))]
            exact tups b xs e
          · rw [upd_ne (ne_of it iN (by intro z; cases z))]
            exact it
        · rw [Tc.ring_out cp.good.wf fit hn ho]
          exact f2
        · rw [valV_put, Tc.goneN_insert, ho, Bool.true_and, ← g2 n]
          by_cases e : Tc.num c.other = n
          · rw [if_pos (by rw [e]), decide_eq_true e, Bool.or_true]
            rfl
          · rw [if_neg (fun q => e (kI_inj q).symm), decide_eq_false e, Bool.or_false]
        · refine ⟨fun b o e nb => ?_, fun b e => fr2 b (upd_free e)⟩
          rw [upd_ne (fun q => nb (by rw [q]; exact mf _ (.inr (.inr (.inr (.inr (.inl rfl))))))), q3 b (fun q => nb (by rw [q]; exact mf _ (.inr (.inl rfl)))) (fun q => nb (by rw [q]; exact mf _ (.inr (.inr (.inl rfl)))))]
          exact e
    have gi := Tc.greats_insert (c := c) (l := l) fit.site2
    refine iteD (fun h1 => ?_) (fun h1 => ?_)
    · rw [if_pos (show Sn04.seen l c.id.site < c.id.count by omega)] at gi
      refine ⟨_, rfl, _, rfl, a.p, C, a.dx, _, _, rfl, e1p, T.cl, T.nGreat, cf_great, _, rfl, a.dg, _, _, c.id.site, rfl, rfl, e1g, ?_, ?_⟩
      · rw [List.length_map, Tc.greats_length]
        unfold ixN
        rw [if_pos (by omega), if_pos (by omega)]
        rfl
      · refine rest _ ((upd_ne n6).trans upd_same) ?_ (fun b b1 b2 => by rw [upd_ne b2, upd_ne b1])
        rw [upd_same, gi, ivs_set]
    · rw [if_neg (show ¬ Sn04.seen l c.id.site < c.id.count by omega)] at gi
      refine rest _ upd_same ?_ (fun b b1 b2 => upd_ne b1)
      rw [gi]
      exact e1g
end
end Tp
end
section
set_option Elab.async false
set_option linter.all false
set_option maxRecDepth 100000
set_option maxHeartbeats 2000000
namespace Tp
open PySem PySem.Spec PyProof.Rows L2
open Sn04 (Change)
/-- where a copy stands behind a call: the same object, new things at most -/
structure Moved (a : Ad) (H : Hp) (a' : Ad) : Prop where
  p : a'.p = a.p
  foot : ∀ b ∈ a'.foot, b ∈ a.foot ∨ H b = none
theorem Moved.refl (a : Ad) (H : Hp) : Moved a H a := ⟨rfl, fun b h => .inl h⟩
theorem CopyAt.reshown {C : Addr} {H : Hp} {a : Ad} {site : Nat} {l : List Change} {sh sh' : List Nat} {q : Addr} (cp : CopyAt C H a site l sh) (hq : H q = some (.lst (ivs sh'))) (nq : q ∉ a.foot) :
    CopyAt C (upd H a.p (.ins C a.dx (cf site a.dk a.dg a.df a.dn q))) { a with ds := q } site l sh' := by
  obtain ⟨⟨n1, n2, n3, n4, n5⟩, ⟨n6, n7, n8, n9⟩, ⟨n10, n11, n12⟩, ⟨n13, n14⟩, n15⟩ := foot_ne cp.nd
  have mf := fun b => (mem_foot (a := a) (b := b))
  have nq' : ¬ (q = a.p ∨ q = a.dk ∨ q = a.dg ∨ q = a.df ∨ q = a.dn ∨ q = a.ds) := fun z => nq ((mf q).mpr z)
  simp only [not_or] at nq'
  obtain ⟨m1, m2, m3, m4, m5, m6⟩ := nq'
  obtain ⟨kvs, k1, k2⟩ := cp.known
  obtain ⟨fvs, f1, f2⟩ := cp.foll
  obtain ⟨gvs, g1, g2⟩ := cp.gone
  refine ⟨upd_same, ⟨kvs, (upd_ne n1.symm).trans k1, k2.mono fun b xs e => ?_⟩, (upd_ne n2.symm).trans cp.great, ⟨fvs, (upd_ne n3.symm).trans f1, f2⟩, ⟨gvs, (upd_ne n4.symm).trans g1, g2⟩, (upd_ne m1).trans hq, ?_, cp.s1, cp.s2, cp.good, cp.most⟩
  · rw [upd_ne (ne_of e cp.ins (by intro z; cases z))]
    exact e
  · unfold Ad.foot
    simp only [List.nodup_cons, List.mem_cons, List.not_mem_nil, or_false, not_or, not_false_eq_true, List.nodup_nil, and_true]
    exact ⟨⟨n1, n2, n3, n4, fun z => m1 z.symm⟩, ⟨n6, n7, n8, fun z => m2 z.symm⟩, ⟨n10, n11, fun z => m3 z.symm⟩, ⟨n13, fun z => m4 z.symm⟩, fun z => m5 z.symm⟩
theorem reshown_moved {a : Ad} {H : Hp} {q : Addr} (h : H q = none) : Moved a H { a with ds := q } := by
  refine ⟨rfl, fun b hb => ?_⟩
  rcases mem_foot.mp hb with e | e | e | e | e | e
  · exact .inl (mem_foot.mpr (.inl e))
  · exact .inl (mem_foot.mpr (.inr (.inl e)))
  · exact .inl (mem_foot.mpr (.inr (.inr (.inl e))))
  · exact .inl (mem_foot.mpr (.inr (.inr (.inr (.inl e)))))
  · exact .inl (mem_foot.mpr (.inr (.inr (.inr (.inr (.inl e))))))
  · exact .inr (by rw [show b = q from e]; exact h)
theorem nodup_le : ∀ {xs ys : List Nat}, xs.Nodup → (∀ x ∈ xs, x ∈ ys) → xs.length ≤ ys.length
  | [], _, _, _ => Nat.zero_le _
  | x :: r, ys, nd, h => by
    have nd' := List.nodup_cons.mp nd
    have hx := h x (List.mem_cons_self ..)
    have ih := nodup_le (xs := r) (ys := ys.erase x) nd'.2 fun y hy => (List.mem_erase_of_ne (fun e => nd'.1 (by rw [← e]; exact hy))).mpr (h y (List.mem_cons_of_mem _ hy))
    rw [List.length_erase_of_mem hx] at ih
    have := List.length_pos_of_mem hx
    rw [List.length_cons]
    omega
theorem ring_len {l : List Change} (h : Tc.Good l) : (Tc.ring l).tail.length ≤ l.length := by
  have nd : (0 :: (Tc.ring l).tail).Nodup := h.nd
  have e := nodup_le (ys := Tc.nums l) (List.nodup_cons.mp nd).2 fun x hx => by
    rcases Tc.ring_sub h.wf (List.mem_cons_of_mem 0 hx) with q | q
    · exact absurd (by rw [← q]; exact hx) (List.nodup_cons.mp nd).1
    · exact q
  exact Nat.le_trans e (Nat.le_of_eq (List.length_map ..))
section
variable {P : Program} {w : World} {K : PySem.W.Frag} {mg : Str → Option Value} {base : Heap} {C : Addr}
/-! ### show -/
def spShow (C : Addr) : Sp := fun vs H Q _ => ∃ (a : Ad) (site : Nat) (l : List Change) (sh : List Nat), vs = [.ref a.p] ∧ CopyAt C H a site l sh ∧
  ∀ (H' : Hp) (a' : Ad), CopyAt C H' a' site l (Tc.shown l) → Moved a H a' → Keeps a H H' → Q .non H'
theorem sc29 : FnScope ["copy", "shown", "number"] ["copy"] (defScope (top 29)) := ⟨rfl, rfl, rfl, by decide +kernel, rfl, by decide +kernel, by decide +kernel⟩
theorem ok_show (D : Def K mg "show" (top 29) ["copy"]) (T : Txt K mg C) : Has P w K mg base 1 "show" ["copy"] (spShow C) := by
  refine D.has sc29 (fun vs H Q E h => ?_) (fun f cdv A outer s H vs Q E hr h => ?_)
  · obtain ⟨a, site, l, sh, rfl, _⟩ := h
    rfl
  · obtain ⟨a, site, l, sh, rfl, cp, k⟩ := h
    have hu := hu_of hr
    obtain ⟨fvs, f1, f2, f3⟩ := cp.foll
    obtain ⟨gvs, g1, g2, g3⟩ := cp.gone
    refine ⟨_, pss_cons (ps_set (i := 1) sc29.nd rfl (Or.inl rfl) (pe_lst pa_nil))
      (pss_cons (ps_set (i := 2) sc29.nd rfl (Or.inl rfl) (pe_dget hu (pe_fld (pv 0) rfl) (pe_gi T.NOTHING) (fun _ _ => rfl)))
      (pss_cons (ps_while PassesOwn.never (pt_cmpR op_ne (pv 2) (pe_gi T.NOTHING) (nomark _))
        (pss_cons (ps_if (pt_cmp (pc_dnotin hu (pv 2) (pe_fld (pv 0) rfl))) (pss_one (ps_expr (pe_bm PySem.F.plainAttrs_list PySem.F.slot_list_append PySem.F.type_list_append mt_append (pv 1) (pa_cons (pv 2) pa_nil)))) pss_nil)
        (pss_one (ps_set (i := 2) sc29.nd rfl (Or.inl rfl) (pe_dget hu (pe_fld (pv 0) rfl) (pv 2) (fun _ _ => rfl))))))
      (pss_one (ps_fld (pv 0) (pv 1) rfl)))), ?_⟩
    refine ⟨Nat.zero_le _, fun q hq => ?_⟩
    have s1 := same_new (o := .lst []) hq
    have c1 := cp.same s1
    have f20 : valV fvs (kI 0) = some (iv (hd0 (Tc.ring l).tail)) := by
      have := f2
      rw [show Tc.ring l = [] ++ 0 :: (Tc.ring l).tail from rfl] at this
      exact this.at
    refine ⟨_, rfl, a.p, C, a.dx, _, _, rfl, c1.ins, T.cl, T.nFoll, cf_foll, a.df, _, rfl, (by have := DGet.k (k := kI 0) (s1 _ _ f1); rw [f20] at this; exact this), ?_⟩
    have nd0 : (0 :: (Tc.ring l).tail).Nodup := cp.good.nd
    have lenR : ∀ S T : List Nat, (Tc.ring l).tail = S ++ T → S.length ≤ 40000 := fun S T e => by
      have h1 := ring_len cp.good
      have h2 := cp.most
      rw [e, List.length_append] at h1
      omega
    refine ⟨fun m σ H' => ∃ (S T : List Nat), σ = [some (.ref a.p), some (.ref q), some (iv (hd0 T))] ∧ (Tc.ring l).tail = S ++ T ∧ H' = upd H q (.lst (ivs (S.filter fun n => !Tc.goneN l n))) ∧ m = T.length, ⟨_, [], _, rfl, rfl, rfl, rfl⟩, ?_⟩
    rintro m σ H' ⟨S, T', rfl, eST, rfl, rfl⟩
    have s2 := same_new (o := .lst (ivs (S.filter fun n => !Tc.goneN l n))) hq
    have c2 := cp.same s2
    refine ⟨_, rfl, rfl, _, rfl, iteN (fun h1 => ?_) (fun h1 => ?_)⟩
    · cases T' with
      | nil => exact absurd rfl h1
      | cons n T' =>
        refine ⟨fun σ' H2 => ∃ m', m' < (n :: T').length ∧ ∃ (S T : List Nat), σ' = [some (.ref a.p), some (.ref q), some (iv (hd0 T))] ∧ (Tc.ring l).tail = S ++ T ∧ H2 = upd H q (.lst (ivs (S.filter fun n => !Tc.goneN l n))) ∧ m' = T.length, fun _ _ h => h, ?_⟩
        have fn : valV fvs (kI n) = some (iv (hd0 T')) := by
          have := f2
          rw [show Tc.ring l = 0 :: (Tc.ring l).tail from rfl, eST, show 0 :: (S ++ n :: T') = (0 :: S) ++ n :: T' from rfl] at this
          exact this.at
        refine ⟨_, rfl, _, rfl, a.p, C, a.dx, _, _, rfl, c2.ins, T.cl, T.nGone, cf_gone, a.dn, _, rfl, DGet.k (k := kI n) (s2 _ _ g1), _, rfl, ?_⟩
        rw [g2 n]
        refine iteB (fun h2 => ?_) (fun h2 => ?_)
        · refine ⟨_, rfl, .inl ⟨rfl, _, SqL.of upd_same⟩, _, rfl, q, _, _, rfl, rfl, upd_same, line16 ?_, ?_⟩
          · rw [List.length_map]
            exact Nat.le_trans (List.length_filter_le ..) (lenR S _ eST)
          · rw [upd_upd]
            have s3 := same_new (o := .lst (ivs (S.filter fun n => !Tc.goneN l n) ++ [iv n])) hq
            have c3 := cp.same s3
            refine ⟨_, rfl, a.p, C, a.dx, _, _, rfl, c3.ins, T.cl, T.nFoll, cf_foll, _, rfl, a.df, _, rfl, (by have := DGet.k (k := kI n) (s3 _ _ f1); rw [fn] at this; exact this), ?_⟩
            refine ⟨T'.length, by simp, S ++ [n], T', rfl, by rw [eST]; simp, ?_, rfl⟩
            rw [List.filter_append, List.filter_cons, if_pos h2]
            show upd H q (.lst (ivs _ ++ [iv n])) = upd H q (.lst ((_ ++ [n]).map iv))
            rw [List.map_append]
            rfl
        · refine ⟨_, rfl, a.p, C, a.dx, _, _, rfl, c2.ins, T.cl, T.nFoll, cf_foll, _, rfl, a.df, _, rfl, (by have := DGet.k (k := kI n) (s2 _ _ f1); rw [fn] at this; exact this), ?_⟩
          refine ⟨T'.length, by simp, S ++ [n], T', rfl, by rw [eST]; simp, ?_, rfl⟩
          rw [List.filter_append, List.filter_cons, if_neg (by rw [h2]; exact Bool.false_ne_true), List.filter_nil, List.append_nil]
    · have eT : T' = [] := by
        cases T' with
        | nil => rfl
        | cons n T' =>
          exfalso
          have e0 : n = 0 := iv_inj.mp h1
          rw [eST] at nd0
          exact (List.nodup_cons.mp nd0).1 (by rw [e0]; simp)
      subst eT
      rw [List.append_nil] at eST
      refine ⟨_, rfl, _, rfl, a.p, C, a.dx, _, rfl, c2.ins, T.cl, T.nShown, (by show 6 < 1000; decide), ?_⟩
      have eS : S.filter (fun n => !Tc.goneN l n) = Tc.shown l := by rw [← eST, ← Tc.shown_eq cp.good.wf]
      rw [eS] at c2 s2 ⊢
      refine k _ { a with ds := q } (c2.reshown upd_same (cp.free hq)) (reshown_moved hq) ?_
      refine ⟨fun b o e nb => ?_, fun b e => s2.free (upd_free e)⟩
      rw [upd_ne (fun z => nb (by rw [z]; exact mem_foot.mpr (.inl rfl)))]
      exact s2 _ _ e
end
end Tp
end
section
set_option Elab.async false
set_option linter.all false
set_option maxRecDepth 100000
set_option maxHeartbeats 2000000
namespace Tp
open PySem PySem.Spec PyProof.Rows L2
open Sn04 (Change)
/-- a call's end: the copy as it is then, a new list that is answered -/
def Res (C : Addr) (H : Hp) (a : Ad) (Q : VK) (x : Sn04.Copy) (ans : List Int) : Prop := ∀ (H' : Hp) (a' : Ad) (p : Addr), CopyAt C H' a' x.site x.known (Tc.shown x.known) → Moved a H a' → Keeps a H H' → H p = none → H' p = some (.lst (ans.map V.int)) → Q (.ref p) H'
theorem Res.now {C : Addr} {H H1 : Hp} {a : Ad} {Q : VK} {x : Sn04.Copy} {ans : List Int} (r : Res C H a Q x ans) (cp : CopyAt C H a x.site x.known (Tc.shown x.known)) (s : Same H H1) {p : Addr} (hp : H1 p = none) : Q (.ref p) (upd H1 p (.lst (ans.map V.int))) :=
  r _ a p (cp.same (s.trans (same_new hp))) (Moved.refl a H) (Keeps.of_same (s.trans (same_new hp))) (s.free hp) upd_same
theorem take_snoc {α : Type} : ∀ {l : List α} {i : Nat} {x : α}, l[i]? = some x → l.take (i + 1) = l.take i ++ [x]
  | [], i, x, h => by simp at h
  | a :: l, 0, x, h => by
    have e : a = x := Option.some.inj h
    subst e
    rfl
  | a :: l, i + 1, x, h => by
    have ih := take_snoc (l := l) (i := i) (x := x) h
    show a :: l.take (i + 1) = a :: l.take i ++ [x]
    rw [ih]
    rfl
theorem ivs_get {l : List Nat} {i : Nat} {y : V} (h : (ivs l)[i]? = some y) : ∃ n, l[i]? = some n ∧ y = iv n := by
  unfold ivs at h
  rw [List.getElem?_map] at h
  cases e : l[i]? with
  | none => rw [e] at h; cases h
  | some n =>
    rw [e] at h
    exact ⟨n, rfl, (Option.some.inj h).symm⟩
theorem nums_get {l : List Change} {i n : Nat} (h : (Tc.nums l)[i]? = some n) : ∃ c, l[i]? = some c ∧ Tc.num c.id = n := by
  unfold Tc.nums at h
  rw [List.getElem?_map] at h
  cases e : l[i]? with
  | none => rw [e] at h; cases h
  | some c =>
    rw [e] at h
    exact ⟨c, rfl, Option.some.inj h⟩
section
variable {P : Program} {w : World} {K : PySem.W.Frag} {mg : Str → Option Value} {base : Heap} {C : Addr}
/-! ### keep_all -/
def spKeepAll (C : Addr) : Sp := fun vs H Q _ => ∃ (a : Ad) (site : Nat) (l news : List Change) (ln dc : Addr), vs = [.ref a.p, .ref ln, .ref dc] ∧ CopyAt C H a site l (Tc.shown l) ∧ H ln = some (.lst (ivs (Tc.nums news))) ∧ ln ∉ a.foot ∧ Tc.Steps l news ∧
  (news ≠ [] → dc ∉ a.foot ∧ ∃ cvs, H dc = some (.dK cvs) ∧ ∀ c ∈ news, ∃ t, valV cvs (kI (Tc.num c.id)) = some (.ref t) ∧ H t = some (.tup (chV c))) ∧
  (16384 < l.length + news.length → Res C H a Q ⟨site, l⟩ [-1]) ∧
  (l.length + news.length ≤ 16384 → Res C H a Q ⟨site, Tc.grow l news⟩ [((Tc.shown (Tc.grow l news)).length : Int)])
theorem sc30 : FnScope ["copy", "numbers", "changes", "number"] ["copy", "numbers", "changes"] (defScope (top 30)) := ⟨rfl, rfl, rfl, by decide +kernel, rfl, by decide +kernel, by decide +kernel⟩
theorem ok_keep_all (D : Def K mg "keep_all" (top 30) ["copy", "numbers", "changes"]) (T : Txt K mg C) (hK : Has P w K mg base 2 "keep" ["copy", "number", "change"] (spKeep C)) (hS : Has P w K mg base 1 "show" ["copy"] (spShow C)) :
    Has P w K mg base 3 "keep_all" ["copy", "numbers", "changes"] (spKeepAll C) := by
  refine D.has sc30 (fun vs H Q E h => ?_) (fun f cdv A outer s H vs Q E hr h => ?_)
  · obtain ⟨a, site, l, news, ln, dc, rfl, _⟩ := h
    rfl
  · obtain ⟨a, site, l, news, ln, dc, rfl, cp, hl, nl, st, hd, r1, r2⟩ := h
    have hu := hu_of hr
    have hr1 : Room 1 _ := hr.mono (by decide)
    obtain ⟨kvs, k1, k2⟩ := cp.known
    refine ⟨_, pss_cons (ps_if (pt_cmpR op_gt (pe_op op_add (pe_callB call_lenD (by rfl) T.len PySem.boot_len (pa_cons (pe_fld (pv 0) rfl) pa_nil)) (pe_callB call_len_seq (by rfl) T.len PySem.boot_len (pa_cons (pv 1) pa_nil))) (pe_gi T.MOST) (nomark _)) (pss_one (ps_ret (pe_lst (pa_cons (pe_gi T.TOO) pa_nil)))) pss_nil)
      (pss_cons (ps_for PassesOwn.never rfl (pi_list (pv 1)) (pg_name (i := 3) sc30.nd rfl (Or.inl rfl)) (pss_one (ps_expr (pe_fn hK hr (pa_cons (pv 0) (pa_cons (pv 3) (pa_cons (pe_dget hu (pv 2) (pv 3) (fun _ _ => rfl)) pa_nil)))))))
      (pss_cons (ps_if (pt_cmpR op_gt (pe_callB call_len_seq (by rfl) T.len PySem.boot_len (pa_cons (pv 1) pa_nil)) pe_int (nomark _)) (pss_one (ps_expr (pe_fn hS hr1 (pa_cons (pv 0) pa_nil)))) pss_nil)
      (pss_one (ps_ret (pe_lst (pa_cons (pe_callB call_len_seq (by rfl) T.len PySem.boot_len (pa_cons (pe_fld (pv 0) rfl) pa_nil)) pa_nil)))))), ?_⟩
    refine ⟨_, rfl, a.p, C, a.dx, _, _, rfl, cp.ins, T.cl, T.nKnown, cf_known, a.dk, kvs, rfl, k1, _, rfl, ln, _, rfl, .inl (SqL.of hl), _, _, rfl, rfl, _, _, rfl, rfl, _, rfl, iteD (fun h1 => ?_) (fun h1 => ?_)⟩
    · have e1 := k2.len
      have e2 : (ivs (Tc.nums news)).length = news.length := by rw [List.length_map]; exact List.length_map ..
      refine ⟨(by show 1 ≤ sizeLine; decide), fun p hp => ?_⟩
      exact (r1 (by omega)).now cp (Same.refl H) hp
    · have e1 := k2.len
      have e2 : (ivs (Tc.nums news)).length = news.length := by rw [List.length_map]; exact List.length_map ..
      have hm : l.length + news.length ≤ 16384 := by omega
      have r2 := r2 hm
      refine ⟨_, rfl, ln, rfl, ⟨_, SqL.of hl⟩, for_list (K := K) (a := ln) (xs := ivs (Tc.nums news)) (fun i σ H' => ∃ v : Option V, σ = [some (.ref a.p), some (.ref ln), some (.ref dc), v] ∧ CopyAt C H' a site (Tc.grow l (news.take i)) (Tc.shown l) ∧ Keeps a H H')
        ⟨none, rfl, cp, Keeps.refl a H⟩ (fun i σ H' _ ⟨_, _, _, kp⟩ => SqL.of (kp.on _ _ hl nl)) ?_ ?_⟩
      · rintro i y σ H' hi ⟨v, rfl, c1, kp⟩
        obtain ⟨n, hn, rfl⟩ := ivs_get hi
        obtain ⟨c, hc, rfl⟩ := nums_get hn
        have ne : news ≠ [] := fun q => by rw [q] at hc; simp at hc
        obtain ⟨nd, cvs, hcv, hch⟩ := hd ne
        obtain ⟨t, t1, t2⟩ := hch c (List.mem_of_getElem? hc)
        obtain ⟨fit, nw⟩ := Tc.steps_at st hc
        have ilt : i < news.length := (List.getElem?_eq_some_iff.mp hc).1
        have lg := Tc.grow_length (news.take i) l
        rw [List.length_take] at lg
        refine ⟨_, rfl, _, rfl, _, rfl, _, rfl, dc, _, rfl, (by have := DGet.k (k := kI (Tc.num c.id)) (kp.on _ _ hcv nd); rw [t1] at this; exact this), ?_⟩
        refine ⟨a, site, _, _, c, t, rfl, c1, Keeps.tups cp kp _ _ t2, fit, nw, by omega, fun H2 c2 kp2 => ?_⟩
        refine ⟨_, rfl, ?_, kp.trans kp2⟩
        rw [take_snoc hc, Tc.grow_snoc]
        exact c2
      · rintro σ H' ⟨v, rfl, c1, kp⟩
        rw [e2, List.take_length] at c1
        refine ⟨_, rfl, ln, _, rfl, .inl (SqL.of (kp.on _ _ hl nl)), _, _, rfl, rfl, _, rfl, iteD (fun h2 => ?_) (fun h2 => ?_)⟩
        · refine ⟨_, rfl, a, site, _, _, rfl, c1, fun H2 a2 c2 mv kp2 => ?_⟩
          have ep := mv.p
          refine ⟨_, rfl, a2.p, C, a2.dx, _, _, (by rw [ep]), c2.ins, T.cl, T.nShown, cf_shown, a2.ds, _, rfl, .inl (SqL.of c2.shown), (by show 1 ≤ sizeLine; decide), fun p hp => ?_⟩
          have s3 := same_new (o := .lst [.int ((ivs (Tc.shown (Tc.grow l news))).length : Nat)]) hp
          have kp3 : Keeps a H H2 := kp.trans kp2
          refine r2 _ a2 p (c2.same s3) ⟨ep, fun b hb => ?_⟩ (kp3.trans (Keeps.of_same s3)) (kp3.free p hp) ?_
          · rcases mv.foot b hb with q | q
            · exact .inl q
            · exact .inr (kp.free b q)
          · rw [upd_same, List.length_map]
            rfl
        · have e3 : news = [] := by
            cases news with
            | nil => rfl
            | cons x r => exact absurd (show (0 : Int) < ((ivs (Tc.nums (x :: r))).length : Nat) by rw [e2]; simp) h2
          subst e3
          refine ⟨_, rfl, a.p, C, a.dx, _, _, rfl, c1.ins, T.cl, T.nShown, cf_shown, a.ds, _, rfl, .inl (SqL.of c1.shown), (by show 1 ≤ sizeLine; decide), fun p hp => ?_⟩
          have s3 := same_new (o := .lst [.int ((ivs (Tc.shown l)).length : Nat)]) hp
          refine r2 _ a p (c1.same s3) (Moved.refl a H) (kp.trans (Keeps.of_same s3)) (kp.free p hp) ?_
          · rw [upd_same, List.length_map]
            rfl
end
end Tp
end
section
set_option Elab.async false
set_option linter.all false
set_option maxRecDepth 100000
set_option maxHeartbeats 2000000
namespace Tp
open PySem PySem.Spec PyProof.Rows L2
open Sn04 (Change)
theorem ivs_ints (l : List Nat) : ivs l = (l.map fun n : Nat => (n : Int)).map V.int := by
  rw [List.map_map]
  rfl
theorem max_greats {l : List Change} (h : Tc.Sites l) {m : Int} (h1 : m ∈ (Tc.greats l).map fun n : Nat => (n : Int)) (h2 : ∀ y ∈ (Tc.greats l).map fun n : Nat => (n : Int), y ≤ m) : m = (Sn04.top l : Nat) := by
  obtain ⟨n, hn, rfl⟩ := List.mem_map.mp h1
  rw [Tc.greats_max h hn fun y hy => by
    have := h2 (y : Int) (List.mem_map.mpr ⟨y, hy, rfl⟩)
    omega]
theorem greats_ne (l : List Change) : 0 < ((Tc.greats l).map fun n : Nat => (n : Int)).length := by
  rw [List.length_map, Tc.greats_length]
  decide
theorem pe_fldK {X : Cx} {K : PySem.W.Frag} {e : Expr} {f : Str} {pos : Pos} {ta : TE} (hK : X.K = K) (he : PE X e ta) (hb : attributeBase e f X.env (eval e X.env) = eval e X.env) : PE X (.Attribute e f pos) (tFld K ta f) := by
  subst hK
  exact pe_fld he hb
theorem wipe_set {σ : L2.St} {v : Nat} {x : Option V} : wipe ((wipe σ [v]).set v x) [v] = wipe σ [v] := by
  show ((σ.set v none).set v x).set v none = σ.set v none
  rw [List.set_set, List.set_set]
/-- a list comprehension without a test over a range -/
theorem lc_range {lo : Int} {n : Nat} {v : Nat} {te : TE} {σ : L2.St} {H : Hp} {Q : VK} {D : Addr} (f : Nat → V) (hD : H D = none) (hn : n ≤ 40000)
    (hs : ∀ (i : Nat) (H' : Hp) (R : VK), i < n → Same H H' → R (f i) H' → te ((wipe σ [v]).set v (some (.int (lo + i)))) H' R)
    (hq : Q (.ref D) (upd H D (.lst ((List.range n).map f)))) :
    ∃ W : Nat → Nat → Hp → Prop, (∃ m, W 0 m (upd H D (.lst []))) ∧ ∀ i m H, W i m H →
      ((Itr lo n).stop i H ∧ Q (.ref D) H) ∨ ((Itr lo n).go i H ∧ ∃ Nx : Hp → Prop, (∀ H', Nx H' → ∃ m', m' < m ∧ W (i + 1) m' H') ∧ ∀ x H', (Itr lo n).yld i H x H' → gName v x (wipe σ [v]) H' fun σ2 H2 => wipe σ2 [v] = wipe σ [v] ∧ tYes σ2 H2 fun b H3 =>
        if b = true then te σ2 H3 fun y H4 => ∃ acc, H4 D = some (.lst acc) ∧ acc.length < sizeLine ∧ Nx (upd H4 D (.lst (acc ++ [y]))) else Nx H3) := by
  refine ⟨fun i m H' => i ≤ n ∧ m = n - i ∧ H' = upd H D (.lst ((List.range i).map f)), ⟨n, Nat.zero_le _, rfl, rfl⟩, ?_⟩
  rintro i m H' ⟨hi, rfl, rfl⟩
  by_cases h : i < n
  · refine .inr ⟨h, fun H' => ∃ m', m' < n - i ∧ i + 1 ≤ n ∧ m' = n - (i + 1) ∧ H' = upd H D (.lst ((List.range (i + 1)).map f)), fun _ h => h, ?_⟩
    rintro x H' ⟨rfl, rfl⟩
    refine ⟨wipe_set, ?_⟩
    unfold tYes
    dsimp only
    rw [if_pos rfl]
    refine hs i _ _ h (same_new hD) ⟨_, upd_same, line16 (by rw [List.length_map, List.length_range]; omega), n - (i + 1), by omega, h, rfl, ?_⟩
    rw [upd_upd, List.range_succ, List.map_append]
    rfl
  · have e : i = n := by omega
    subst e
    exact .inl ⟨Nat.le_refl _, hq⟩
/-- a list comprehension over a list -/
theorem lc_list {K : PySem.W.Frag} {a : Addr} {xs : List V} {v : Nat} {tt : TT} {te : TE} {σ : L2.St} {H : Hp} {Q : VK} {D : Addr} (p : V → Bool) (f : V → V) (hD : H D = none) (hS : SqL K H a xs) (hn : xs.length ≤ 40000)
    (ht : ∀ (x : V) (H' : Hp) (R : Bool → Hp → Prop), x ∈ xs → Same H H' → R (p x) H' → tt ((wipe σ [v]).set v (some x)) H' R)
    (hs : ∀ (x : V) (H' : Hp) (R : VK), x ∈ xs → p x = true → Same H H' → R (f x) H' → te ((wipe σ [v]).set v (some x)) H' R)
    (hq : Q (.ref D) (upd H D (.lst ((xs.filter p).map f)))) :
    ∃ W : Nat → Nat → Hp → Prop, (∃ m, W 0 m (upd H D (.lst []))) ∧ ∀ i m H, W i m H →
      ((Itl K a).stop i H ∧ Q (.ref D) H) ∨ ((Itl K a).go i H ∧ ∃ Nx : Hp → Prop, (∀ H', Nx H' → ∃ m', m' < m ∧ W (i + 1) m' H') ∧ ∀ x H', (Itl K a).yld i H x H' → gName v x (wipe σ [v]) H' fun σ2 H2 => wipe σ2 [v] = wipe σ [v] ∧ tt σ2 H2 fun b H3 =>
        if b = true then te σ2 H3 fun y H4 => ∃ acc, H4 D = some (.lst acc) ∧ acc.length < sizeLine ∧ Nx (upd H4 D (.lst (acc ++ [y]))) else Nx H3) := by
  refine ⟨fun i m H' => i ≤ xs.length ∧ m = xs.length - i ∧ H' = upd H D (.lst (((xs.take i).filter p).map f)), ⟨xs.length, Nat.zero_le _, rfl, rfl⟩, ?_⟩
  rintro i m H' ⟨hi, rfl, rfl⟩
  have s1 := same_new (o := .lst (((xs.take i).filter p).map f)) hD
  by_cases h : i < xs.length
  · obtain ⟨x, hx⟩ : ∃ x, xs[i]? = some x := ⟨_, List.getElem?_eq_getElem h⟩
    have mx : x ∈ xs := List.mem_of_getElem? hx
    refine .inr ⟨⟨xs, x, s1.seq hS, hx⟩, fun H' => ∃ m', m' < xs.length - i ∧ i + 1 ≤ xs.length ∧ m' = xs.length - (i + 1) ∧ H' = upd H D (.lst (((xs.take (i + 1)).filter p).map f)), fun _ h => h, ?_⟩
    rintro y H' ⟨rfl, hy⟩
    have e : y = x := Option.some.inj ((hy xs (s1.seq hS)).symm.trans hx)
    subst e
    refine ⟨wipe_set, ht y _ _ mx s1 (iteB (fun q => ?_) (fun q => ?_))⟩
    · refine hs y _ _ mx q s1 ⟨_, upd_same, line16 ?_, xs.length - (i + 1), by omega, h, rfl, ?_⟩
      · rw [List.length_map]
        exact Nat.le_trans (List.length_filter_le ..) (by rw [List.length_take]; omega)
      · rw [upd_upd, take_snoc hx, List.filter_append, List.filter_cons, if_pos q, List.map_append]
        rfl
    · refine ⟨xs.length - (i + 1), by omega, h, rfl, ?_⟩
      rw [take_snoc hx, List.filter_append, List.filter_cons, if_neg (by rw [q]; exact Bool.false_ne_true), List.filter_nil, List.append_nil]
  · have e : i = xs.length := by omega
    subst e
    rw [List.take_length] at s1 ⊢
    exact .inl ⟨⟨xs, s1.seq hS, Nat.le_refl _⟩, hq⟩
section
variable {P : Program} {w : World} {K : PySem.W.Frag} {mg : Str → Option Value} {base : Heap} {C : Addr}
/-! ### has_no_room, own_numbers -/
def spNoRoom (C : Addr) : Sp := fun vs H Q _ => ∃ (a : Ad) (site : Nat) (l : List Change) (sh : List Nat) (k : Nat), vs = [.ref a.p, iv k] ∧ CopyAt C H a site l sh ∧ Q (.bl (decide (16384 < l.length + k) || decide (4294967295 < Sn04.top l + k))) H
theorem sc31 : FnScope ["copy", "k"] ["copy", "k"] (defScope (top 31)) := ⟨rfl, rfl, rfl, by decide +kernel, rfl, by decide +kernel, by decide +kernel⟩
theorem ok_no_room (D : Def K mg "has_no_room" (top 31) ["copy", "k"]) (T : Txt K mg C) : Has P w K mg base 1 "has_no_room" ["copy", "k"] (spNoRoom C) := by
  refine D.has sc31 (fun vs H Q E h => ?_) (fun f cdv A outer s H vs Q E hr h => ?_)
  · obtain ⟨a, site, l, sh, k, rfl, _⟩ := h
    rfl
  · obtain ⟨a, site, l, sh, k, rfl, cp, q⟩ := h
    obtain ⟨kvs, k1, k2⟩ := cp.known
    have e1 := k2.len
    refine ⟨_, pss_one (ps_ret (pe_or (pe_cmpR op_gt (pe_op op_add (pe_callB call_lenD (by rfl) T.len PySem.boot_len (pa_cons (pe_fld (pv 0) rfl) pa_nil)) (pv 1)) (pe_gi T.MOST) (nomark _))
      (pe_one (pe_cmpR op_gt (pe_op op_add (pe_callB (cr_max rfl) (by rfl) T.max PyProof.Rows.boot_max (pa_cons (pe_fld (pv 0) rfl) pa_nil)) (pv 1)) (pe_gi T.GREATEST) (nomark _))))), ?_⟩
    refine ⟨_, rfl, a.p, C, a.dx, _, _, rfl, cp.ins, T.cl, T.nKnown, cf_known, a.dk, kvs, rfl, k1, _, rfl, _, _, rfl, rfl, _, _, rfl, rfl, _, rfl, iteD (fun h1 => ?_) (fun h1 => ?_)⟩
    · rw [decide_eq_true (show 16384 < l.length + k by omega), Bool.true_or] at q
      exact q
    · rw [decide_eq_false (show ¬ 16384 < l.length + k by omega), Bool.false_or] at q
      refine ⟨_, rfl, a.p, C, a.dx, _, _, rfl, cp.ins, T.cl, T.nGreat, cf_great, a.dg, (Tc.greats l).map fun n : Nat => (n : Int), rfl, (by rw [← ivs_ints]; exact SqL.of cp.great), greats_ne l, fun m m1 m2 => ?_⟩
      rw [max_greats cp.good.wf.sites m1 m2]
      refine ⟨_, rfl, _, _, rfl, rfl, _, _, rfl, rfl, ?_⟩
      have e : decide ((4294967295 : Int) < (Sn04.top l : Nat) + (k : Int)) = decide (4294967295 < Sn04.top l + k) := by
        rw [decide_eq_decide]
        omega
      show Q (.bl (decide ((4294967295 : Int) < (Sn04.top l : Nat) + (k : Int)))) H
      rw [e]
      exact q
def spOwn (C : Addr) : Sp := fun vs H Q _ => ∃ (a : Ad) (site : Nat) (l : List Change) (sh : List Nat) (k : Nat), vs = [.ref a.p, iv k] ∧ CopyAt C H a site l sh ∧ k ≤ 16384 ∧
  ∀ p, H p = none → Q (.ref p) (upd H p (.lst (ivs ((List.range k).map fun i => (Sn04.top l + 1 + i) * 256 + site))))
theorem sc32 : FnScope ["copy", "k", "first", "count"] ["copy", "k"] (defScope (top 32)) := ⟨rfl, rfl, rfl, by decide +kernel, rfl, by decide +kernel, by decide +kernel⟩
def lcScope (s : Stmt) : Scope := match s with
  | .Return (some (.ListComp _ _ sc _)) _ => sc
  | .Return (some (.BinOp _ _ (.ListComp _ _ sc _) _)) _ => sc
  | .Assign _ (.ListComp _ _ sc _) _ => sc
  | _ => { kind := .function, names := [], isGenerator := false, isCoroutine := false }
theorem blk32 : BlkOk ["copy", "k", "first", "count"] (defScope (top 32)) (lcScope ((defBody (top 32)).getD 1 (.Pass ⟨0, 0, 0, 0⟩))) [("count", 3)] := ⟨rfl, by decide +kernel, by decide +kernel, by decide +kernel, by decide +kernel⟩
theorem ok_own (D : Def K mg "own_numbers" (top 32) ["copy", "k"]) (T : Txt K mg C) (hN : Has P w K mg base 1 "number_of" ["count", "site"] spNumberOf) : Has P w K mg base 2 "own_numbers" ["copy", "k"] (spOwn C) := by
  refine D.has sc32 (fun vs H Q E h => ?_) (fun f cdv A outer s H vs Q E hr h => ?_)
  · obtain ⟨a, site, l, sh, k, rfl, _⟩ := h
    rfl
  · obtain ⟨a, site, l, sh, k, rfl, cp, hk, q⟩ := h
    refine ⟨_, pss_cons (ps_set (i := 2) sc32.nd rfl (Or.inl rfl) (pe_op op_add (pe_callB (cr_max rfl) (by rfl) T.max PyProof.Rows.boot_max (pa_cons (pe_fld (pv 0) rfl) pa_nil)) pe_int))
      (pss_one (ps_ret (pe_lc (own := [("count", 3)]) rfl sc32.nd (pi_range2 (by rfl) T.range (pa_cons (pv 2) (pa_cons (pe_op op_add (pv 2) (pv 1)) pa_nil))) blk32 (fun s H C cl fp => by exact pg_name (i := 3) sc32.nd rfl (Or.inl rfl)) (fun s H C cl fp => by exact pts_nil)
        (fun s H C cl fp => by exact pe_fn hN hr (pa_cons (pv 3) (pa_cons (pe_fldK (K := K) rfl (pv 0) rfl) pa_nil)))))), ?_⟩
    refine ⟨_, rfl, a.p, C, a.dx, _, _, rfl, cp.ins, T.cl, T.nGreat, cf_great, a.dg, (Tc.greats l).map fun n : Nat => (n : Int), rfl, (by rw [← ivs_ints]; exact SqL.of cp.great), greats_ne l, fun m m1 m2 => ?_⟩
    rw [max_greats cp.good.wf.sites m1 m2]
    refine ⟨_, _, rfl, rfl, ?_⟩
    refine ⟨_, rfl, _, rfl, _, rfl, _, _, rfl, rfl, _, _, rfl, ?_, fun Dd hD => ?_⟩
    · have h1 := cp.good.wf
      have h2 : Sn04.top l < 4294967296 := by
        rcases Tc.top_mem l with e | ⟨c, hc, e⟩
        · omega
        · have := (h1.fit c hc).cnt
          omega
      refine ⟨by omega, by omega, by omega, by omega⟩
    · have en : ((Sn04.top l : Int) + 1 + (k : Int) - ((Sn04.top l : Int) + 1)).toNat = k := by omega
      rw [en]
      refine lc_range (fun i => iv ((Sn04.top l + 1 + i) * 256 + site)) hD (by omega) (fun i H' R hi sm hR => ?_) ?_
      · refine ⟨_, rfl, _, rfl, a.p, C, a.dx, _, _, rfl, sm _ _ cp.ins, T.cl, T.nSite, cf_site, Sn04.top l + 1 + i, site, rfl, hR⟩
      · have := q Dd hD
        unfold ivs at this
        rw [List.map_map] at this
        exact this
end
end Tp
end
section
set_option Elab.async false
set_option linter.all false
set_option maxRecDepth 100000
set_option maxHeartbeats 2000000
namespace Tp
open PySem PySem.Spec PyProof.Rows L2
open Sn04 (Change)
theorem upd_none {H : Hp} {a b : Addr} {o : HO} (h : upd H a o b = none) : b ≠ a ∧ H b = none := by
  refine ⟨fun e => ?_, upd_free h⟩
  rw [e, upd_same] at h
  cases h
section
variable {P : Program} {w : World} {K : PySem.W.Frag} {mg : Str → Option Value} {base : Heap} {C : Addr}
/-! ### Copy(site) -/
def spInit (C : Addr) : Sp := fun vs H Q _ => ∃ (p dx : Addr) (site : Nat), vs = [.ref p, iv site] ∧ H p = some (.ins C dx []) ∧ 1 ≤ site ∧ site ≤ 255 ∧
  ∀ (H' : Hp) (a : Ad), a.p = p → CopyAt C H' a site [] [] → (∀ b o, H b = some o → b ≠ p → H' b = some o) → (∀ b ∈ a.foot, b = p ∨ H b = none) → (∀ b, H' b = none → H b = none) → Q .non H'
theorem scI : FnScope ["self", "site"] ["self", "site"] (defScope sInit) := ⟨rfl, rfl, rfl, by decide +kernel, rfl, by decide +kernel, by decide +kernel⟩
theorem greats_rep : (List.replicate (256 : Int).toNat [V.int 0]).flatten = ivs (Tc.greats []) := by
  rw [Tc.greats_nil]
  show (List.replicate 256 [V.int 0]).flatten = (List.replicate 256 0).map iv
  rw [List.flatten_replicate_singleton, List.map_replicate]
  rfl
theorem ok_init {f : Addr} {fd : FuncData} (F : Fun K "__init__" "Copy.__init__" sInit f fd) (T : Txt K mg C) : FnOk P w K mg base CX0 1 f fd ["self", "site"] (spInit C) := by
  refine F.ok scI (fun vs H Q E h => ?_) (fun cdv A outer s H vs Q E hr h => ?_)
  · obtain ⟨p, dx, site, rfl, _⟩ := h
    rfl
  · obtain ⟨p, dx, site, rfl, hp, s1, s2, k⟩ := h
    refine ⟨_, pss_cons (ps_fld (pv 0) (pv 1) rfl) (pss_cons (ps_fld (pv 0) pe_dnewK rfl) (pss_cons (ps_fld (pv 0) (pe_op op_rep (pe_lst (pa_cons pe_int pa_nil)) (pe_gi T.SITES)) rfl)
      (pss_cons (ps_fld (pv 0) (pe_disp (pps_cons (pe_gi T.NOTHING) (pe_gi T.NOTHING) pps_nil) rfl rfl (by simp) (by decide)) rfl) (pss_cons (ps_fld (pv 0) pe_dnewK rfl) (pss_one (ps_fld (pv 0) (pe_lst pa_nil) rfl)))))), ?_⟩
    -- site
    refine ⟨_, rfl, _, rfl, p, C, dx, _, rfl, hp, T.cl, T.nSite, (by show 0 < 1000; decide), ?_⟩
    -- known
    intro dk hk
    have nk : dk ≠ p := fun z => by rw [z, upd_same] at hk; cases hk
    refine ⟨_, rfl, p, C, dx, _, rfl, (upd_ne nk.symm).trans upd_same, T.cl, T.nKnown, (by show 1 < 1000; decide), ?_⟩
    -- greatest
    refine ⟨(by show 1 ≤ sizeLine; decide), fun g0 hg0 => ?_⟩
    refine ⟨g0, _, _, rfl, rfl, upd_same, by decide, by decide, (by decide), fun dg hg => ?_⟩
    rw [greats_rep]
    obtain ⟨gd1, hg⟩ := upd_none hg
    obtain ⟨gp0, hg0⟩ := upd_none hg0
    obtain ⟨gk0, hg0⟩ := upd_none hg0
    obtain ⟨_, hg0⟩ := upd_none hg0
    obtain ⟨gp, hg⟩ := upd_none hg
    obtain ⟨gk, hg⟩ := upd_none hg
    obtain ⟨_, hg⟩ := upd_none hg
    obtain ⟨_, hk⟩ := upd_none hk
    refine ⟨_, rfl, p, C, dx, _, rfl, (upd_ne gp.symm).trans ((upd_ne gp0.symm).trans upd_same), T.cl, T.nGreat, (by show 2 < 1000; decide), ?_⟩
    -- follower
    intro df hf
    obtain ⟨fp, hf⟩ := upd_none hf
    obtain ⟨fg, hf⟩ := upd_none hf
    obtain ⟨fg0, hf⟩ := upd_none hf
    obtain ⟨_, hf⟩ := upd_none hf
    obtain ⟨fk, hf⟩ := upd_none hf
    obtain ⟨_, hf⟩ := upd_none hf
    refine ⟨upd_same, [(kI 0, iv 0)], rfl, by decide, ?_⟩
    rw [upd_upd]
    refine ⟨_, rfl, p, C, dx, _, rfl, (upd_ne fp.symm).trans upd_same, T.cl, T.nFoll, (by show 3 < 1000; decide), ?_⟩
    -- gone
    intro dn hn
    obtain ⟨np, hn⟩ := upd_none hn
    obtain ⟨nf, hn⟩ := upd_none hn
    obtain ⟨_, hn⟩ := upd_none hn
    obtain ⟨ng, hn⟩ := upd_none hn
    obtain ⟨ng0, hn⟩ := upd_none hn
    obtain ⟨_, hn⟩ := upd_none hn
    obtain ⟨nk2, hn⟩ := upd_none hn
    obtain ⟨_, hn⟩ := upd_none hn
    refine ⟨_, rfl, p, C, dx, _, rfl, (upd_ne np.symm).trans upd_same, T.cl, T.nGone, (by show 4 < 1000; decide), ?_⟩
    -- shown
    refine ⟨Nat.zero_le _, fun ds hs => ?_⟩
    obtain ⟨sp, hs⟩ := upd_none hs
    obtain ⟨sn, hs⟩ := upd_none hs
    obtain ⟨_, hs⟩ := upd_none hs
    obtain ⟨sf, hs⟩ := upd_none hs
    obtain ⟨_, hs⟩ := upd_none hs
    obtain ⟨sg, hs⟩ := upd_none hs
    obtain ⟨sg0, hs⟩ := upd_none hs
    obtain ⟨_, hs⟩ := upd_none hs
    obtain ⟨sk, hs⟩ := upd_none hs
    obtain ⟨_, hs⟩ := upd_none hs
    refine ⟨_, rfl, p, C, dx, _, rfl, (upd_ne sp.symm).trans upd_same, T.cl, T.nShown, (by show 5 < 1000; decide), ?_⟩
    refine k _ ⟨p, dx, dk, dg, df, dn, ds⟩ rfl ⟨?_, ⟨[], ?_, Known.nil⟩, ?_, ⟨[(kI 0, iv 0)], ?_, rfl, by decide⟩, ⟨[], ?_, fun n => rfl, Nat.zero_le _⟩, ?_, ?_, s1, s2, Tc.Good.nil, Nat.zero_le _⟩ ?_ ?_ ?_
    · exact upd_same
    · show upd _ p _ dk = _
      rw [upd_ne nk, upd_ne sk.symm, upd_ne nk, upd_ne nk2.symm, upd_ne nk, upd_ne fk.symm, upd_ne nk, upd_ne gk.symm, upd_ne gk0.symm, upd_ne nk, upd_same]
    · show upd _ p _ dg = _
      rw [upd_ne gp, upd_ne sg.symm, upd_ne gp, upd_ne ng.symm, upd_ne gp, upd_ne fg.symm, upd_ne gp, upd_same]
    · show upd _ p _ df = _
      rw [upd_ne fp, upd_ne sf.symm, upd_ne fp, upd_ne nf.symm, upd_ne fp, upd_same]
      rfl
    · show upd _ p _ dn = _
      rw [upd_ne np, upd_ne sn.symm, upd_ne np, upd_same]
    · show upd _ p _ ds = _
      rw [upd_ne sp, upd_same]
      rfl
    · unfold Ad.foot
      simp only [List.nodup_cons, List.mem_cons, List.not_mem_nil, or_false, not_or, not_false_eq_true, List.nodup_nil, and_true]
      exact ⟨⟨nk.symm, gp.symm, fp.symm, np.symm, sp.symm⟩, ⟨gk.symm, fk.symm, nk2.symm, sk.symm⟩, ⟨fg.symm, ng.symm, sg.symm⟩, ⟨nf.symm, sf.symm⟩, sn.symm⟩
    · intro b o e nb
      rw [upd_ne nb, upd_ne (ne_of_none e hs), upd_ne nb, upd_ne (ne_of_none e hn), upd_ne nb, upd_ne (ne_of_none e hf), upd_ne nb, upd_ne (ne_of_none e hg), upd_ne (ne_of_none e hg0), upd_ne nb, upd_ne (ne_of_none e hk), upd_ne nb]
      exact e
    · intro b hb
      rcases mem_foot.mp hb with e | e | e | e | e | e
      · exact .inl e
      · exact .inr (by rw [show b = dk from e]; exact hk)
      · exact .inr (by rw [show b = dg from e]; exact hg)
      · exact .inr (by rw [show b = df from e]; exact hf)
      · exact .inr (by rw [show b = dn from e]; exact hn)
      · exact .inr (by rw [show b = ds from e]; exact hs)
    · intro b e
      exact upd_free (upd_free (upd_free (upd_free (upd_free (upd_free (upd_free (upd_free (upd_free (upd_free (upd_free (upd_free e)))))))))))
/-! ### open -/
structure HasInit (P : Program) (w : World) (K : PySem.W.Frag) (mg : Str → Option Value) (base : Heap) (C : Addr) : Prop where
  ex : ∃ fI fd, Mk K C fI ∧ FnOk P w K mg base CX0 1 fI fd ["self", "site"] (spInit C) ∧ Binds K fd ["self", "site"] []
theorem pe_copy {X : Cx} {C : Addr} {e : Expr} {t : TA} {p pos : Pos} (h : HasInit X.prog X.w X.K X.mg X.base C) (hm : X.mg "Copy" = some (.ref C)) (hr : Room 2 X.A) (ha : PA X [e] t) (hg : Gl X "Copy" := by rfl) (he : starEach [e] X.env = (false, eval e X.env) :: starEach [] X.env := by rfl) (hpl : (backTo pos (starEach [] X.env)).any (·.1) = false := by rfl) :
    PE X (.Call (.Name "Copy" p) [e] [] pos) (tMake C (spInit C) [] E0 t) := by
  obtain ⟨fI, fd, M, F, b⟩ := h.ex
  exact pe_make M F hr hg hm b .nil pass0 ha (by decide) he hpl
def spOpen (C : Addr) : Sp := fun vs H Q _ => ∃ (lc : Addr) (j : Nat) (site : Int) (us : List V), vs = [.ref lc, iv j, .int site] ∧ H lc = some (.lst us) ∧ j < us.length ∧
  (¬ (1 ≤ site ∧ site ≤ 255) → ∀ p, H p = none → Q (.ref p) (upd H p (.lst [.int (-2)]))) ∧
  (1 ≤ site ∧ site ≤ 255 → ∀ (H' : Hp) (a : Ad) (p : Addr), CopyAt C H' a site.toNat [] [] → (∀ b ∈ a.foot, H b = none) → H' lc = some (.lst (us.set j (.ref a.p))) → (∀ b o, H b = some o → b ≠ lc → H' b = some o) → H p = none → H' p = some (.lst [.int 0]) → Q (.ref p) H')
theorem sc33 : FnScope ["copies", "which", "site"] ["copies", "which", "site"] (defScope (top 33)) := ⟨rfl, rfl, rfl, by decide +kernel, rfl, by decide +kernel, by decide +kernel⟩
theorem ok_open (D : Def K mg "open_copy" (top 33) ["copies", "which", "site"]) (T : Txt K mg C) (hW : Has P w K mg base 1 "within" ["value", "least", "most"] spWithin) (hI : HasInit P w K mg base C) : Has P w K mg base 3 "open_copy" ["copies", "which", "site"] (spOpen C) := by
  refine D.has sc33 (fun vs H Q E h => ?_) (fun f cdv A outer s H vs Q E hr h => ?_)
  · obtain ⟨lc, j, site, us, rfl, _⟩ := h
    rfl
  · obtain ⟨lc, j, site, us, rfl, hl, hj, r1, r2⟩ := h
    have hr1 : Room 1 _ := hr.mono (by decide)
    refine ⟨_, pss_cons (ps_if (pt_not (pt_val (pe_fn hW hr1 (pa_cons (pv 2) (pa_cons pe_int (pa_cons (pe_op op_sub (pe_gi T.SITES) pe_int) pa_nil)))))) (pss_one (ps_ret (pe_lst (pa_cons (pe_gi T.OUTR) pa_nil)))) pss_nil)
      (pss_cons (ps_asg (pe_copy hI T.mgC hr (pa_cons (pv 2) pa_nil)) (pg_sub (pv 0) (pv 1) set_list))
      (pss_one (ps_ret (pe_lst (pa_cons pe_int pa_nil))))), ?_⟩
    refine ⟨_, rfl, _, _, rfl, rfl, _, _, _, rfl, _, rfl, ?_⟩
    by_cases h : 1 ≤ site ∧ site ≤ 255
    · rw [decide_eq_true h.1, show decide (site ≤ 256 - 1) = true from decide_eq_true (by omega)]
      refine iteF ?_
      refine ⟨_, rfl, fun x dx hx hdx ne => ?_⟩
      refine ⟨x, dx, site.toNat, ?_, upd_same, by omega, by omega, fun H' a ap cp kp ff fr => ?_⟩
      · have : ((site.toNat : Nat) : Int) = site := by omega
        show [V.ref x, .int site] = [V.ref x, .int (site.toNat : Nat)]
        rw [this]
      · have kp' : ∀ b o, H b = some o → H' b = some o := fun b o e => kp b o (by rw [upd_ne (ne_of_none e hx), upd_ne (ne_of_none e hdx)]; exact e) (ne_of_none e hx)
        have ff' : ∀ b ∈ a.foot, H b = none := fun b hb => by
          rcases ff b hb with q | q
          · rw [q]; exact hx
          · exact upd_free (upd_free q)
        refine ⟨rfl, _, rfl, _, rfl, lc, _, _, j, rfl, rfl, kp' _ _ hl, ?_, ?_⟩
        · unfold ixN
          rw [if_pos (by omega), if_pos (by omega)]
          rfl
        · have lnf : lc ∉ a.foot := fun q => by
            have := ff' lc q
            rw [hl] at this
            cases this
          refine ⟨(by show 1 ≤ sizeLine; decide), fun p hp => ?_⟩
          obtain ⟨pl, hp'⟩ := upd_none hp
          have c1 : CopyAt C (upd H' lc (.lst (us.set j (.ref a.p)))) a site.toNat [] [] := cp.stay (fun b hb o e => by
            rw [upd_ne (fun q => lnf (by rw [← q]; exact hb))]
            exact e) (fun b xs e => by
            rw [upd_ne (ne_of e (kp' _ _ hl) (by intro z; cases z))]
            exact e)
          have es : us.set j (.ref x) = us.set j (.ref a.p) := by rw [ap]
          rw [es]
          refine r2 h _ a p (c1.same (same_new (by rw [← es]; exact hp))) ff' ((upd_ne pl.symm).trans upd_same) (fun b o e nb => ?_) (upd_free (upd_free (fr p hp'))) upd_same
          rw [upd_ne (fun q => by rw [← q, kp' _ _ e] at hp'; cases hp'), upd_ne nb]
          exact kp' _ _ e
    · have e : (decide (1 ≤ site) && decide (site ≤ 256 - 1)) = false := by
        rw [Bool.and_eq_false_iff]
        by_cases q : 1 ≤ site
        · exact .inr (decide_eq_false (by omega))
        · exact .inl (decide_eq_false q)
      rw [e]
      refine iteT ?_
      exact ⟨(by show 1 ≤ sizeLine; decide), r1 h⟩
end
end Tp
end
section
set_option Elab.async false
set_option linter.all false
set_option maxRecDepth 100000
set_option maxHeartbeats 2000000
namespace Tp
open PySem PySem.Spec PyProof.Rows L2
open Sn04 (Change)
theorem for_zip {K : PySem.W.Frag} {a b : Addr} {xs ys : List V} {g : TG} {tb : TS} {D : Ends} {σ : L2.St} {H : Hp} (Pv : Nat → L2.St → Hp → Prop) (h0 : Pv 0 σ H) (hlen : ys.length = xs.length)
    (hl : ∀ i σ H, i ≤ xs.length → Pv i σ H → SqL K H a xs ∧ SqL K H b ys)
    (hs : ∀ i x y T σ H, xs[i]? = some x → ys[i]? = some y → Pv i σ H → H T = none → g (.ref T) σ (upd H T (.tup [x, y])) fun σ2 H2 => tb { D with nx := Pv (i + 1), ct := Pv (i + 1), bk := D.nx } σ2 H2) (hd : ∀ σ H, Pv xs.length σ H → D.nx σ H) :
    ∃ W : Nat → Nat → L2.St → Hp → Prop, (∃ m, W 0 m σ H) ∧ ∀ i m σ H, W i m σ H →
      ((Itz K a b).stop i H ∧ D.nx σ H) ∨ ((Itz K a b).go i H ∧ ∃ N : L2.St → Hp → Prop, (∀ σ' H', N σ' H' → ∃ m', m' < m ∧ W (i + 1) m' σ' H') ∧ ∀ x H', (Itz K a b).yld i H x H' → g x σ H' fun σ2 H2 => tb { D with nx := N, ct := N, bk := D.nx } σ2 H2) := by
  refine ⟨fun i m σ H => m = xs.length - i ∧ i ≤ xs.length ∧ Pv i σ H, ⟨xs.length, by simp, Nat.zero_le _, h0⟩, ?_⟩
  rintro i m σ H ⟨rfl, hi, p⟩
  obtain ⟨q1, q2⟩ := hl i σ H hi p
  by_cases hlt : i < xs.length
  · refine .inr ⟨⟨xs, ys, xs[i], ys[i]'(by omega), q1, q2, by simp [hlt], by simp⟩, Pv (i + 1), fun σ' H' p' => ⟨xs.length - (i + 1), by omega, rfl, hlt, p'⟩, fun v H' y => ?_⟩
    obtain ⟨T, x, y, rfl, hT, rfl, h1, h2⟩ := y
    exact hs i x y T σ _ (h1 xs q1) (h2 ys q2) p hT
  · have e : i = xs.length := by omega
    subst e
    exact .inl ⟨⟨xs, ys, q1, q2, .inl (Nat.le_refl _)⟩, hd σ H p⟩
theorem cut_to {xs : List V} (n : Nat) : cutV xs none (some (n : Int)) = xs.take n := by
  unfold cutV
  rw [HT.sIx_none, HT.sIx_nat, Nat.sub_zero, List.drop_zero]
  by_cases h : n ≤ xs.length
  · rw [Nat.min_eq_left h]
  · rw [Nat.min_eq_right (by omega), List.take_length, List.take_of_length_le (by omega)]
theorem cut_from {xs : List V} (n : Nat) : cutV xs (some (n : Int)) none = xs.drop n := by
  unfold cutV
  rw [HT.sIx_none, HT.sIx_nat]
  by_cases h : n ≤ xs.length
  · rw [Nat.min_eq_left h, List.take_of_length_le (by rw [List.length_drop]; omega)]
  · rw [Nat.min_eq_right (by omega), List.drop_length, List.drop_of_length_le (by omega)]
    simp
theorem cut_mid {xs : List V} {m n : Nat} (h1 : m ≤ n) (h2 : n ≤ xs.length) : cutV xs (some (m : Int)) (some (n : Int)) = (xs.drop m).take (n - m) := by
  unfold cutV
  rw [HT.sIx_nat, HT.sIx_nat, Nat.min_eq_left h2, Nat.min_eq_left (Nat.le_trans h1 h2)]
/-- what the specification's step asks -/
def Does (C : Addr) (H : Hp) (a : Ad) (Q : VK) (r : Sn04.St × Sn04.Ans) : Prop := ∃ y, r.1 = some y ∧ Res C H a Q y (r.2.value :: r.2.out.map fun n : Nat => (n : Int))
theorem Does.back {C : Addr} {H H1 : Hp} {a : Ad} {Q : VK} {x : Sn04.Copy} {v : Int} {out : List Nat} (d : Does C H a Q (some x, ⟨v, out⟩)) (cp : CopyAt C H a x.site x.known (Tc.shown x.known)) (s : Same H H1) {p : Addr} (hp : H1 p = none) :
    Q (.ref p) (upd H1 p (.lst ((v :: out.map fun n : Nat => (n : Int)).map V.int))) := by
  obtain ⟨y, e, r⟩ := d
  cases e
  exact r.now cp s hp
abbrev no1 : Nat → Sn04.St := fun _ => none
theorem sn_within {a b : Int} {n : Nat} : Sn04.within a b n = false ↔ ¬ (0 ≤ a ∧ 0 ≤ b ∧ a + b ≤ n) := by
  unfold Sn04.within
  rw [← Bool.not_eq_true, Bool.and_eq_true, Bool.and_eq_true, decide_eq_true_eq, decide_eq_true_eq, decide_eq_true_eq]
section
variable {P : Program} {w : World} {K : PySem.W.Frag} {mg : Str → Option Value} {base : Heap} {C : Addr}
/-! ### put -/
def spPut (C : Addr) : Sp := fun vs H Q _ => ∃ (a : Ad) (site : Nat) (l : List Change) (at_ k : Int) (ld : Addr) (b : List Nat), vs = [.ref a.p, .int at_, .int k, .ref ld] ∧ CopyAt C H a site l (Tc.shown l) ∧ H ld = some (.lst (ivs b)) ∧ ld ∉ a.foot ∧
  (0 ≤ k ∧ k ≤ 16384 → (b.length : Int) = k) ∧ Does C H a Q (Sn04.step no1 (some ⟨site, l⟩) (.put at_ b k))
theorem step_put (site : Nat) (l : List Change) (at_ k : Int) (b : List Nat) : Sn04.step no1 (some ⟨site, l⟩) (.put at_ b k) = if Sn04.within at_ 0 (Sn04.stand l).length = false ∨ k < 0 ∨ (Sn04.MOST : Int) < k then (some ⟨site, l⟩, Sn04.says (-2)) else
    Sn04.grown ⟨site, l⟩ (Sn04.putting site (Sn04.top l + 1) (if at_ = 0 then Sn04.nothing else ((Sn04.stand l)[at_.toNat - 1]?.map fun c => c.id).getD Sn04.nothing) b) := rfl
theorem sc34 : FnScope ["copy", "at", "k", "data", "numbers", "behind", "number", "byte"] ["copy", "at", "k", "data"] (defScope (top 34)) := ⟨rfl, rfl, rfl, by decide +kernel, rfl, by decide +kernel, by decide +kernel⟩
theorem ok_put (D : Def K mg "put_bytes" (top 34) ["copy", "at", "k", "data"]) (T : Txt K mg C) (hW : Has P w K mg base 1 "within" ["value", "least", "most"] spWithin) (hR : Has P w K mg base 1 "has_no_room" ["copy", "k"] (spNoRoom C)) (hO : Has P w K mg base 2 "own_numbers" ["copy", "k"] (spOwn C))
    (hK : Has P w K mg base 2 "keep" ["copy", "number", "change"] (spKeep C)) : Has P w K mg base 3 "put_bytes" ["copy", "at", "k", "data"] (spPut C) := by
  refine D.has sc34 (fun vs H Q E h => ?_) (fun f cdv A outer s H vs Q E hr h => ?_)
  · obtain ⟨a, site, l, at_, k, ld, b, rfl, _⟩ := h
    rfl
  · obtain ⟨a, site, l, at_, k, ld, b, rfl, cp, hb, nb, lb, dn⟩ := h
    have hr1 : Room 1 _ := hr.mono (by decide)
    refine ⟨_, pss_cons (ps_if (pw_or (pt_not (pt_val (pe_fn hW hr1 (pa_cons (pv 1) (pa_cons pe_int (pa_cons (pe_callB call_len_seq (by rfl) T.len PySem.boot_len (pa_cons (pe_fld (pv 0) rfl) pa_nil)) pa_nil)))))) (pw_or1 (pt_not (pt_val (pe_fn hW hr1 (pa_cons (pv 2) (pa_cons pe_int (pa_cons (pe_gi T.MOST) pa_nil)))))))).pt
        (pss_one (ps_ret (pe_lst (pa_cons (pe_gi T.OUTR) pa_nil)))) pss_nil)
      (pss_cons (ps_if (pt_val (pe_fn hR hr1 (pa_cons (pv 0) (pa_cons (pv 2) pa_nil)))) (pss_one (ps_ret (pe_lst (pa_cons (pe_gi T.TOO) pa_nil)))) pss_nil)
      (pss_cons (ps_set (i := 4) sc34.nd rfl (Or.inl rfl) (pe_fn hO hr (pa_cons (pv 0) (pa_cons (pv 2) pa_nil))))
      (pss_cons (ps_set (i := 5) sc34.nd rfl (Or.inl rfl) (pe_ifExp (pt_cmpR op_gt (pv 1) pe_int (nomark _)) (pe_ix ix_list (pe_fld (pv 0) rfl) (pe_op op_sub (pv 1) pe_int) (fun _ _ => rfl)) (pe_gi T.NOTHING)))
      (pss_cons (ps_for PassesOwn.never rfl (pi_zip (by rfl) T.zip (pa_cons (pv 4) (pa_cons (pv 3) pa_nil))) (pg_tup rfl (pgs_cons (pg_name (i := 6) sc34.nd rfl (Or.inl rfl)) (pgs_cons (pg_name (i := 7) sc34.nd rfl (Or.inl rfl)) pgs_nil)))
        (pss_cons (ps_expr (pe_fn hK hr (pa_cons (pv 0) (pa_cons (pv 6) (pa_cons (pe_tup (pa_cons (pe_gi T.PUTS) (pa_cons (pv 7) (pa_cons (pv 5) pa_nil)))) pa_nil))))) (pss_one (ps_set (i := 5) sc34.nd rfl (Or.inl rfl) (pv 6)))))
      (pss_cons (ps_fld (pv 0) (pe_op op_cat (pe_op op_cat (pe_slice sl_list (pe_fld (pv 0) rfl) po_none (po_some (pv 1))) (pv 4)) (pe_slice sl_list (pe_fld (pv 0) rfl) (po_some (pv 1)) po_none)) rfl)
      (pss_one (ps_ret (pe_lst (pa_cons (pe_callB call_len_seq (by rfl) T.len PySem.boot_len (pa_cons (pe_fld (pv 0) rfl) pa_nil)) pa_nil))))))))), ?_⟩
    rw [step_put] at dn
    have sl : (Sn04.stand l).length = (Tc.shown l).length := (Tc.shown_length l).symm
    have il : (ivs (Tc.shown l)).length = (Tc.shown l).length := List.length_map ..
    have bad : (¬ (0 ≤ at_ ∧ at_ ≤ (Tc.shown l).length) ∨ ¬ (0 ≤ k ∧ k ≤ 16384)) → ∀ p, H p = none → Q (.ref p) (upd H p (.lst [.int (-2)])) := fun q p hp => by
      rw [if_pos] at dn
      · exact dn.back cp (Same.refl H) hp
      · rw [sn_within, sl]
        have : (Sn04.MOST : Int) = 16384 := rfl
        rw [this]
        omega
    refine ⟨_, rfl, _, rfl, a.p, C, a.dx, _, _, rfl, cp.ins, T.cl, T.nShown, cf_shown, a.ds, _, rfl, .inl (SqL.of cp.shown), _, _, _, rfl, _, rfl, ?_⟩
    rw [il]
    by_cases h1 : 0 ≤ at_ ∧ at_ ≤ (Tc.shown l).length
    · rw [decide_eq_true h1.1, decide_eq_true h1.2]
      refine iteF ?_
      refine ⟨_, rfl, _, _, _, rfl, _, rfl, ?_⟩
      by_cases h2 : 0 ≤ k ∧ k ≤ 16384
      · rw [decide_eq_true h2.1, decide_eq_true h2.2]
        refine iteF ?_
        -- both are in their ranges
        rw [if_neg (by
          rw [sn_within, sl]
          have : (Sn04.MOST : Int) = 16384 := rfl
          rw [this]
          omega)] at dn
        obtain ⟨kn, rfl⟩ : ∃ kn : Nat, k = (kn : Int) := ⟨k.toNat, by omega⟩
        obtain ⟨an, rfl⟩ : ∃ an : Nat, at_ = (an : Int) := ⟨at_.toNat, by omega⟩
        have lb' : b.length = kn := by have := lb h2; omega
        have han : an ≤ (Tc.shown l).length := by omega
        generalize ho : (if (an : Int) = 0 then Sn04.nothing else ((Sn04.stand l)[(an : Int).toNat - 1]?.map fun c => c.id).getD Sn04.nothing) = o at dn
        unfold Sn04.grown at dn
        have pl := Tc.putting_length site b (Sn04.top l + 1) o
        rw [pl, lb'] at dn
        refine ⟨_, rfl, _, rfl, a, site, l, _, kn, rfl, cp, _, rfl, ?_⟩
        by_cases h3 : 16384 < l.length + kn ∨ 4294967296 ≤ Sn04.top l + kn
        · have e : (decide (16384 < l.length + kn) || decide (4294967295 < Sn04.top l + kn)) = true := by
            rw [Bool.or_eq_true, decide_eq_true_eq, decide_eq_true_eq]
            omega
          rw [e]
          refine iteT ⟨(by show 1 ≤ sizeLine; decide), fun p hp => ?_⟩
          rw [if_pos (show Sn04.MOST < l.length + kn ∨ 2 ^ 32 ≤ Sn04.top l + kn from h3)] at dn
          exact dn.back cp (Same.refl H) hp
        · have e : (decide (16384 < l.length + kn) || decide (4294967295 < Sn04.top l + kn)) = false := by
            rw [Bool.or_eq_false_iff, decide_eq_false_iff_not, decide_eq_false_iff_not]
            omega
          rw [e]
          refine iteF ?_
          rw [if_neg (show ¬ (Sn04.MOST < l.length + kn ∨ 2 ^ 32 ≤ Sn04.top l + kn) from h3)] at dn
          have ho' : (an = 0 ∧ o = Sn04.nothing) ∨ (0 < an ∧ (Sn04.stand l)[an - 1]?.map (fun c => c.id) = some o) := by
            by_cases z : an = 0
            · left
              rw [if_pos (by omega)] at ho
              exact ⟨z, ho.symm⟩
            · right
              rw [if_neg (by omega)] at ho
              refine ⟨by omega, ?_⟩
              have e1 : ((an : Int).toNat - 1) = an - 1 := by omega
              rw [e1] at ho
              have lt : an - 1 < (Sn04.stand l).length := by omega
              rw [List.getElem?_eq_getElem lt] at ho ⊢
              rw [← ho]
              rfl
          obtain ⟨st, shw⟩ := Tc.put_shown cp.s1 cp.s2 (b := b) cp.good han ho' (by omega)
          have nn := Tc.nums_putting site b (Sn04.top l + 1) o
          rw [lb'] at nn
          -- numbers
          refine ⟨_, rfl, _, rfl, a, site, l, _, kn, rfl, cp, by omega, fun ln hln => ?_⟩
          rw [← nn]
          have pl' : (Sn04.putting site (Sn04.top l + 1) o b).length = kn := pl.trans lb'
          generalize hnews : Sn04.putting site (Sn04.top l + 1) o b = news at *
          have s1 := same_new (o := .lst (ivs (Tc.nums news))) hln
          have c1 := cp.same s1
          have nln : ln ∉ a.foot := cp.free hln
          -- behind
          have behind : ∀ R : VK, R (iv (Tc.num o)) (upd H ln (.lst (ivs (Tc.nums news)))) → tIf (tTest (tOp (rI0 fun i j => .bl (decide (j < i))) (tVar 1) (tC (.int 0)))) (tOp (rIxL K) (tFld K (tVar 0) "shown") (tOp (rI0 fun i j => .int (i - j)) (tVar 1) (tC (.int 1)))) (tC (.int 0))
              [some (.ref a.p), some (iv an), some (iv kn), some (.ref ld), some (.ref ln), none, none, none] (upd H ln (.lst (ivs (Tc.nums news)))) R := by
            intro R hR
            refine ⟨_, rfl, _, _, rfl, rfl, _, rfl, iteD (fun h4 => ?_) (fun h4 => ?_)⟩
            · rcases ho' with ⟨z, _⟩ | ⟨z, q⟩
              · omega
              · refine ⟨_, rfl, a.p, C, a.dx, _, _, rfl, c1.ins, T.cl, T.nShown, cf_shown, _, rfl, _, _, rfl, rfl, a.ds, _, _, _, rfl, rfl, SqL.of c1.shown, ?_, hR⟩
                refine at_of (j := an - 1) (by omega) (ivs_at ?_)
                unfold Tc.shown Tc.nums
                rw [List.getElem?_map]
                cases w : (Sn04.stand l)[an - 1]? with
                | none => rw [w] at q; cases q
                | some c =>
                  rw [w] at q
                  have : c.id = o := Option.some.inj q
                  rw [← this]
                  rfl
            · rcases ho' with ⟨_, q⟩ | ⟨z, _⟩
              · rw [q] at hR
                exact hR
              · omega
          refine behind _ ?_
          -- the loop
          refine ⟨_, rfl, _, rfl, ln, ld, _, _, rfl, SqL.of upd_same, SqL.of (s1 _ _ hb), for_zip (K := K) (a := ln) (b := ld) (xs := ivs (Tc.nums news)) (ys := ivs b)
            (fun i σ H' => ∃ v6 v7 : Option V, σ = [some (.ref a.p), some (iv an), some (iv kn), some (.ref ld), some (.ref ln), some (iv (if i = 0 then Tc.num o else (Sn04.top l + i) * 256 + site)), v6, v7] ∧ CopyAt C H' a site (Tc.grow l (news.take i)) (Tc.shown l) ∧ Keeps a (upd H ln (.lst (ivs (Tc.nums news)))) H')
            ⟨none, none, rfl, c1, Keeps.refl _ _⟩ ?_ (fun i σ H' _ ⟨_, _, _, _, kp⟩ => ⟨SqL.of (kp.on _ _ upd_same nln), SqL.of (kp.on _ _ (s1 _ _ hb) nb)⟩) ?_ ?_⟩
          · rw [List.length_map, List.length_map, lb']
            exact (pl'.symm).trans (List.length_map ..).symm
          · rintro i x y T' σ H' hx hy ⟨v6, v7, rfl, c2, kp⟩ hT
            obtain ⟨n, hn, rfl⟩ := ivs_get hx
            obtain ⟨c, hc, rfl⟩ := nums_get hn
            obtain ⟨by_, hby, rfl⟩ := ivs_get hy
            have pa := Tc.putting_at site b (Sn04.top l + 1) o i by_ hby
            rw [hnews, hc] at pa
            have ec := Option.some.inj pa
            obtain ⟨fit, nw⟩ := Tc.steps_at st hc
            have ilt : i < news.length := (List.getElem?_eq_some_iff.mp hc).1
            have lg := Tc.grow_length (news.take i) l
            rw [List.length_take] at lg
            have e5 : Tc.num c.other = if i = 0 then Tc.num o else (Sn04.top l + i) * 256 + site := by
              rw [ec]
              show Tc.num (if i = 0 then o else _) = _
              split
              · rfl
              · show (Sn04.top l + 1 + i - 1) * 256 + site = _
                congr 2
                omega
            have e6 : Tc.num c.id = (Sn04.top l + (i + 1)) * 256 + site := by
              rw [ec]
              show (Sn04.top l + 1 + i) * 256 + site = _
              congr 2
              omega
            refine ⟨T', _, rfl, SqT.of upd_same, rfl, _, _, rfl, _, _, rfl, rfl, ?_⟩
            refine ⟨_, rfl, _, rfl, _, rfl, _, rfl, (by show 3 ≤ sizeLine; decide), fun t ht => ?_⟩
            have s2 := (same_new (o := .tup [iv (Tc.num c.id), iv by_]) hT).trans (same_new (o := .tup [.int 1, iv by_, iv (if i = 0 then Tc.num o else (Sn04.top l + i) * 256 + site)]) ht)
            refine ⟨a, site, _, _, c, t, rfl, c2.same s2, ?_, fit, nw, by omega, fun H2 c3 kp2 => ?_⟩
            · rw [upd_same]
              unfold chV
              rw [e5, ec]
              rfl
            · refine ⟨_, rfl, some (iv (Tc.num c.id)), some (iv by_), ?_, ?_, (kp.trans (Keeps.of_same s2)).trans kp2⟩
              · show [_, _, _, _, _, some (iv (Tc.num c.id)), _, _] = _
                rw [if_neg (Nat.succ_ne_zero i), e6]
              · rw [take_snoc hc, Tc.grow_snoc]
                exact c3
          · rintro σ H' ⟨v6, v7, rfl, c2, kp⟩
            have ln2 : (ivs (Tc.nums news)).length = news.length := by rw [List.length_map]; exact List.length_map ..
            rw [ln2, List.take_length] at c2
            have hln' := kp.on _ _ upd_same nln
            have shl : (Tc.shown l).length ≤ 16384 := by
              have := ring_len cp.good
              have h5 := cp.most
              rw [Tc.shown_eq cp.good.wf]
              exact Nat.le_trans (List.length_filter_le ..) (by omega)
            -- copy.shown = copy.shown[:at] + numbers + copy.shown[at:]
            refine ⟨_, rfl, a.p, C, a.dx, _, _, rfl, c2.ins, T.cl, T.nShown, cf_shown, _, rfl, _, rfl, a.ds, _, rfl, SqL.of c2.shown, fun p1 h1' => ?_⟩
            rw [cut_to]
            have t1 := same_new (o := .lst ((ivs (Tc.shown l)).take an)) h1'
            refine ⟨_, rfl, p1, ln, _, _, rfl, rfl, upd_same, t1 _ _ hln', Nat.le_of_lt (line16 (by rw [List.length_take, ln2, il, pl']; omega)), fun p2 h2' => ?_⟩
            have t2 := same_new (o := .lst ((ivs (Tc.shown l)).take an ++ ivs (Tc.nums news))) h2'
            have c4 := c2.same (t1.trans t2)
            refine ⟨_, rfl, a.p, C, a.dx, _, _, rfl, c4.ins, T.cl, T.nShown, cf_shown, _, rfl, _, rfl, a.ds, _, rfl, SqL.of c4.shown, fun p3 h3' => ?_⟩
            rw [cut_from]
            have t3 := same_new (o := .lst ((ivs (Tc.shown l)).drop an)) h3'
            refine ⟨p2, p3, _, _, rfl, rfl, t3 _ _ upd_same, upd_same, Nat.le_of_lt (line16 (by rw [List.length_append, List.length_take, List.length_drop, ln2, il, pl']; omega)), fun p4 h4' => ?_⟩
            have e7 : ((ivs (Tc.shown l)).take an ++ ivs (Tc.nums news)) ++ (ivs (Tc.shown l)).drop an = ivs (Tc.shown (Tc.grow l news)) := by
              rw [shw]
              unfold ivs
              rw [List.map_append, List.map_append, List.map_take, List.map_drop]
            rw [e7]
            have t4 := same_new (o := .lst (ivs (Tc.shown (Tc.grow l news)))) h4'
            have tS := ((t1.trans t2).trans t3).trans t4
            have c5 := c2.same tS
            refine ⟨_, rfl, a.p, C, a.dx, _, rfl, c5.ins, T.cl, T.nShown, (by show 6 < 1000; decide), ?_⟩
            rw [cf_put]
            have kp4 : Keeps a H _ := ((Keeps.of_same s1).trans kp).trans (Keeps.of_same ((t1.trans t2).trans t3))
            have np4 : p4 ∉ a.foot := (c2.same ((t1.trans t2).trans t3)).free h4'
            have c6 := c5.reshown (q := p4) upd_same np4
            refine ⟨_, rfl, a.p, C, a.dx, _, _, rfl, upd_same, T.cl, T.nShown, cf_shown, p4, _, rfl, .inl (SqL.of c6.shown), (by show 1 ≤ sizeLine; decide), fun p5 h5' => ?_⟩
            obtain ⟨y, ey, r⟩ := dn
            cases ey
            have t5 := same_new (o := .lst [.int ((ivs (Tc.shown (Tc.grow l news))).length : Nat)]) h5'
            have kp5 : Keeps a H _ := kp4.trans (Keeps.of_same t4)
            refine r _ { a with ds := p4 } p5 (c6.same t5) (reshown_moved (kp4.free _ h4')) ?_ (kp5.free _ (upd_free h5')) ?_
            · refine kp5.trans ⟨fun b o e nb => ?_, fun b e => upd_free (upd_free e)⟩
              refine t5 _ _ ?_
              rw [upd_ne (fun z => nb (by rw [z]; exact mem_foot.mpr (.inl rfl)))]
              exact e
            · rw [upd_same, List.length_map]
              show some (HO.lst [.int ((Tc.shown (Tc.grow l news)).length : Nat)]) = some (HO.lst [.int (Sn04.lengthOf (Tc.grow l news))])
              rw [Tc.lengthOf_eq]
      · have e : (decide (0 ≤ k) && decide (k ≤ 16384)) = false := by
          rw [Bool.and_eq_false_iff, decide_eq_false_iff_not, decide_eq_false_iff_not]
          omega
        rw [e]
        exact iteT ⟨(by show 1 ≤ sizeLine; decide), bad (.inr h2)⟩
    · have e : (decide (0 ≤ at_) && decide (at_ ≤ (Tc.shown l).length)) = false := by
        rw [Bool.and_eq_false_iff, decide_eq_false_iff_not, decide_eq_false_iff_not]
        omega
      rw [e]
      exact iteT (iteT ⟨(by show 1 ≤ sizeLine; decide), bad (.inl h1)⟩)
end
end Tp
end
section
set_option Elab.async false
set_option linter.all false
set_option maxRecDepth 100000
set_option maxHeartbeats 2000000
namespace Tp
open PySem PySem.Spec PyProof.Rows L2
open Sn04 (Change)
theorem shown_most {C : Addr} {H : Hp} {a : Ad} {site : Nat} {l : List Change} {sh : List Nat} (cp : CopyAt C H a site l sh) : (Tc.shown l).length ≤ 16384 := by
  have := ring_len cp.good
  have h5 := cp.most
  rw [Tc.shown_eq cp.good.wf]
  exact Nat.le_trans (List.length_filter_le ..) (by omega)
section
variable {P : Program} {w : World} {K : PySem.W.Frag} {mg : Str → Option Value} {base : Heap} {C : Addr}
/-! ### take -/
def spTake (C : Addr) : Sp := fun vs H Q _ => ∃ (a : Ad) (site : Nat) (l : List Change) (at_ k : Int), vs = [.ref a.p, .int at_, .int k] ∧ CopyAt C H a site l (Tc.shown l) ∧ Does C H a Q (Sn04.step no1 (some ⟨site, l⟩) (.take at_ k))
theorem step_take (site : Nat) (l : List Change) (at_ k : Int) : Sn04.step no1 (some ⟨site, l⟩) (.take at_ k) = if Sn04.within at_ k (Sn04.stand l).length = false then (some ⟨site, l⟩, Sn04.says (-2)) else
    Sn04.grown ⟨site, l⟩ (Sn04.taking site (Sn04.top l + 1) (((Sn04.stand l).drop at_.toNat).take k.toNat)) := rfl
theorem sc35 : FnScope ["copy", "at", "k", "number", "other"] ["copy", "at", "k"] (defScope (top 35)) := ⟨rfl, rfl, rfl, by decide +kernel, rfl, by decide +kernel, by decide +kernel⟩
theorem ok_take (D : Def K mg "take_bytes" (top 35) ["copy", "at", "k"]) (T : Txt K mg C) (hT : Has P w K mg base 1 "is_stretch" ["copy", "start", "k"] (spStretch C)) (hR : Has P w K mg base 1 "has_no_room" ["copy", "k"] (spNoRoom C)) (hO : Has P w K mg base 2 "own_numbers" ["copy", "k"] (spOwn C))
    (hK : Has P w K mg base 2 "keep" ["copy", "number", "change"] (spKeep C)) : Has P w K mg base 3 "take_bytes" ["copy", "at", "k"] (spTake C) := by
  refine D.has sc35 (fun vs H Q E h => ?_) (fun f cdv A outer s H vs Q E hr h => ?_)
  · obtain ⟨a, site, l, at_, k, rfl, _⟩ := h
    rfl
  · obtain ⟨a, site, l, at_, k, rfl, cp, dn⟩ := h
    have hr1 : Room 1 _ := hr.mono (by decide)
    refine ⟨_, pss_cons (ps_if (pt_not (pt_val (pe_fn hT hr1 (pa_cons (pv 0) (pa_cons (pv 1) (pa_cons (pv 2) pa_nil)))))) (pss_one (ps_ret (pe_lst (pa_cons (pe_gi T.OUTR) pa_nil)))) pss_nil)
      (pss_cons (ps_if (pt_val (pe_fn hR hr1 (pa_cons (pv 0) (pa_cons (pv 2) pa_nil)))) (pss_one (ps_ret (pe_lst (pa_cons (pe_gi T.TOO) pa_nil)))) pss_nil)
      (pss_cons (ps_for PassesOwn.never rfl (pi_zip (by rfl) T.zip (pa_cons (pe_fn hO hr (pa_cons (pv 0) (pa_cons (pv 2) pa_nil))) (pa_cons (pe_slice sl_list (pe_fld (pv 0) rfl) (po_some (pv 1)) (po_some (pe_op op_add (pv 1) (pv 2)))) pa_nil))) (pg_tup rfl (pgs_cons (pg_name (i := 3) sc35.nd rfl (Or.inl rfl)) (pgs_cons (pg_name (i := 4) sc35.nd rfl (Or.inl rfl)) pgs_nil)))
        (pss_one (ps_expr (pe_fn hK hr (pa_cons (pv 0) (pa_cons (pv 3) (pa_cons (pe_tup (pa_cons (pe_gi T.TAKES) (pa_cons pe_int (pa_cons (pv 4) pa_nil)))) pa_nil)))))))
      (pss_cons (ps_fld (pv 0) (pe_op op_cat (pe_slice sl_list (pe_fld (pv 0) rfl) po_none (po_some (pv 1))) (pe_slice sl_list (pe_fld (pv 0) rfl) (po_some (pe_op op_add (pv 1) (pv 2))) po_none)) rfl)
      (pss_one (ps_ret (pe_lst (pa_cons (pe_callB call_len_seq (by rfl) T.len PySem.boot_len (pa_cons (pe_fld (pv 0) rfl) pa_nil)) pa_nil))))))), ?_⟩
    rw [step_take] at dn
    have sl : (Sn04.stand l).length = (Tc.shown l).length := (Tc.shown_length l).symm
    have il : (ivs (Tc.shown l)).length = (Tc.shown l).length := List.length_map ..
    refine ⟨_, rfl, _, rfl, _, rfl, a, site, l, _, at_, k, rfl, cp, _, rfl, ?_⟩
    by_cases h1 : 0 ≤ at_ ∧ 0 ≤ k ∧ at_ + k ≤ (Tc.shown l).length
    · rw [decide_eq_true h1.1, decide_eq_true h1.2.1, decide_eq_true h1.2.2]
      refine iteF ?_
      rw [if_neg (by rw [sn_within, sl]; exact fun q => q h1)] at dn
      obtain ⟨kn, rfl⟩ : ∃ kn : Nat, k = (kn : Int) := ⟨k.toNat, by omega⟩
      obtain ⟨an, rfl⟩ : ∃ an : Nat, at_ = (an : Int) := ⟨at_.toNat, by omega⟩
      have shl := shown_most cp
      have xl : (((Sn04.stand l).drop (an : Int).toNat).take (kn : Int).toNat) = ((Sn04.stand l).drop an).take kn := rfl
      rw [xl] at dn
      have xlen : (((Sn04.stand l).drop an).take kn).length = kn := by
        rw [List.length_take, List.length_drop]
        omega
      unfold Sn04.grown at dn
      have pl := Tc.taking_length site (((Sn04.stand l).drop an).take kn) (Sn04.top l + 1)
      rw [xlen] at pl
      rw [pl] at dn
      refine ⟨_, rfl, _, rfl, a, site, l, _, kn, rfl, cp, _, rfl, ?_⟩
      by_cases h3 : 16384 < l.length + kn ∨ 4294967296 ≤ Sn04.top l + kn
      · have e : (decide (16384 < l.length + kn) || decide (4294967295 < Sn04.top l + kn)) = true := by
          rw [Bool.or_eq_true, decide_eq_true_eq, decide_eq_true_eq]
          omega
        rw [e]
        refine iteT ⟨(by show 1 ≤ sizeLine; decide), fun p hp => ?_⟩
        rw [if_pos (show Sn04.MOST < l.length + kn ∨ 2 ^ 32 ≤ Sn04.top l + kn from h3)] at dn
        exact dn.back cp (Same.refl H) hp
      · have e : (decide (16384 < l.length + kn) || decide (4294967295 < Sn04.top l + kn)) = false := by
          rw [Bool.or_eq_false_iff, decide_eq_false_iff_not, decide_eq_false_iff_not]
          omega
        rw [e]
        refine iteF ?_
        rw [if_neg (show ¬ (Sn04.MOST < l.length + kn ∨ 2 ^ 32 ≤ Sn04.top l + kn) from h3)] at dn
        obtain ⟨st, shw⟩ := Tc.take_shown cp.s1 cp.s2 (a := an) (k := kn) cp.good (by omega)
        have nn := Tc.nums_taking site (((Sn04.stand l).drop an).take kn) (Sn04.top l + 1)
        rw [xlen] at nn
        -- own_numbers(copy, k)
        refine ⟨_, rfl, _, rfl, a, site, l, _, kn, rfl, cp, by omega, fun ln hln => ?_⟩
        rw [← nn]
        generalize hnews : Sn04.taking site (Sn04.top l + 1) (((Sn04.stand l).drop an).take kn) = news at *
        have s1 := same_new (o := .lst (ivs (Tc.nums news))) hln
        have c1 := cp.same s1
        have nln : ln ∉ a.foot := cp.free hln
        -- copy.shown[at:at + k]
        refine ⟨_, rfl, a.p, C, a.dx, _, _, rfl, c1.ins, T.cl, T.nShown, cf_shown, _, rfl, _, rfl, _, rfl, _, rfl, _, _, rfl, rfl, _, rfl, a.ds, _, rfl, SqL.of c1.shown, fun lo hlo => ?_⟩
        have ek : ((an : Int) + (kn : Int)) = ((an + kn : Nat) : Int) := by omega
        rw [ek, cut_mid (Nat.le_add_right an kn) (by rw [il]; omega), Nat.add_sub_cancel_left]
        have exs : ((ivs (Tc.shown l)).drop an).take kn = ivs (((Tc.shown l).drop an).take kn) := by
          unfold ivs
          rw [List.map_take, List.map_drop]
        rw [exs]
        have s2 := same_new (o := .lst (ivs (((Tc.shown l).drop an).take kn))) hlo
        have c2 := c1.same s2
        have nlo : lo ∉ a.foot := c1.free hlo
        refine ⟨ln, lo, _, _, rfl, SqL.of (s2 _ _ upd_same), SqL.of upd_same, for_zip (K := K) (a := ln) (b := lo) (xs := ivs (Tc.nums news)) (ys := ivs (((Tc.shown l).drop an).take kn))
          (fun i σ H' => ∃ v3 v4 : Option V, σ = [some (.ref a.p), some (iv an), some (iv kn), v3, v4] ∧ CopyAt C H' a site (Tc.grow l (news.take i)) (Tc.shown l) ∧ Keeps a (upd (upd H ln (.lst (ivs (Tc.nums news)))) lo (.lst (ivs (((Tc.shown l).drop an).take kn)))) H')
          ⟨none, none, rfl, c2, Keeps.refl _ _⟩ ?_ (fun i σ H' _ ⟨_, _, _, _, kp⟩ => ⟨SqL.of (kp.on _ _ (s2 _ _ upd_same) nln), SqL.of (kp.on _ _ upd_same nlo)⟩) ?_ ?_⟩
        · rw [List.length_map, List.length_map, List.length_take, List.length_drop]
          have : (Tc.nums news).length = news.length := List.length_map ..
          omega
        · rintro i x y T' σ H' hx hy ⟨v3, v4, rfl, c3, kp⟩ hT'
          obtain ⟨n, hn, rfl⟩ := ivs_get hx
          obtain ⟨c, hc, rfl⟩ := nums_get hn
          obtain ⟨m, hm, rfl⟩ := ivs_get hy
          have hm2 : (Tc.nums (((Sn04.stand l).drop an).take kn))[i]? = some m := by
            have : Tc.nums (((Sn04.stand l).drop an).take kn) = ((Tc.shown l).drop an).take kn := by
              unfold Tc.shown Tc.nums
              rw [List.map_take, List.map_drop]
            rw [this]
            exact hm
          obtain ⟨x, hx2, rfl⟩ := nums_get hm2
          have pa := Tc.taking_at site (((Sn04.stand l).drop an).take kn) (Sn04.top l + 1) i x hx2
          rw [hnews, hc] at pa
          have ec := Option.some.inj pa
          obtain ⟨fit, nw⟩ := Tc.steps_at st hc
          have ilt : i < news.length := (List.getElem?_eq_some_iff.mp hc).1
          have lg := Tc.grow_length (news.take i) l
          rw [List.length_take] at lg
          refine ⟨T', _, rfl, SqT.of upd_same, rfl, _, _, rfl, _, _, rfl, rfl, ?_⟩
          refine ⟨_, rfl, _, rfl, _, rfl, (by show 3 ≤ sizeLine; decide), fun t ht => ?_⟩
          have s3 := (same_new (o := .tup [iv (Tc.num c.id), iv (Tc.num x.id)]) hT').trans (same_new (o := .tup [.int 2, .int 0, iv (Tc.num x.id)]) ht)
          refine ⟨a, site, _, _, c, t, rfl, c3.same s3, ?_, fit, nw, by omega, fun H2 c4 kp2 => ?_⟩
          · rw [upd_same, ec]
            rfl
          · refine ⟨some (iv (Tc.num c.id)), some (iv (Tc.num x.id)), rfl, ?_, (kp.trans (Keeps.of_same s3)).trans kp2⟩
            rw [take_snoc hc, Tc.grow_snoc]
            exact c4
        · rintro σ H' ⟨v3, v4, rfl, c3, kp⟩
          have ln2 : (ivs (Tc.nums news)).length = news.length := by rw [List.length_map]; exact List.length_map ..
          rw [ln2, List.take_length] at c3
          -- copy.shown = copy.shown[:at] + copy.shown[at + k:]
          refine ⟨_, rfl, a.p, C, a.dx, _, _, rfl, c3.ins, T.cl, T.nShown, cf_shown, _, rfl, _, rfl, a.ds, _, rfl, SqL.of c3.shown, fun p1 h1' => ?_⟩
          rw [cut_to]
          have t1 := same_new (o := .lst ((ivs (Tc.shown l)).take an)) h1'
          have c4 := c3.same t1
          refine ⟨_, rfl, a.p, C, a.dx, _, _, rfl, c4.ins, T.cl, T.nShown, cf_shown, _, rfl, _, rfl, _, _, rfl, rfl, _, rfl, a.ds, _, rfl, SqL.of c4.shown, fun p3 h3' => ?_⟩
          rw [ek, cut_from]
          have t3 := same_new (o := .lst ((ivs (Tc.shown l)).drop (an + kn))) h3'
          refine ⟨p1, p3, _, _, rfl, rfl, t3 _ _ upd_same, upd_same, Nat.le_of_lt (line16 (by rw [List.length_take, List.length_drop, il]; omega)), fun p4 h4' => ?_⟩
          have e7 : (ivs (Tc.shown l)).take an ++ (ivs (Tc.shown l)).drop (an + kn) = ivs (Tc.shown (Tc.grow l news)) := by
            rw [shw]
            unfold ivs
            rw [List.map_append, List.map_take, List.map_drop]
          rw [e7]
          have t4 := same_new (o := .lst (ivs (Tc.shown (Tc.grow l news)))) h4'
          have c5 := c3.same ((t1.trans t3).trans t4)
          refine ⟨_, rfl, a.p, C, a.dx, _, rfl, c5.ins, T.cl, T.nShown, (by show 6 < 1000; decide), ?_⟩
          rw [cf_put]
          have kp4 : Keeps a H _ := ((Keeps.of_same (s1.trans s2)).trans kp).trans (Keeps.of_same (t1.trans t3))
          have np4 : p4 ∉ a.foot := (c3.same (t1.trans t3)).free h4'
          have c6 := c5.reshown (q := p4) upd_same np4
          refine ⟨_, rfl, a.p, C, a.dx, _, _, rfl, upd_same, T.cl, T.nShown, cf_shown, p4, _, rfl, .inl (SqL.of c6.shown), (by show 1 ≤ sizeLine; decide), fun p5 h5' => ?_⟩
          obtain ⟨y, ey, r⟩ := dn
          cases ey
          have t5 := same_new (o := .lst [.int ((ivs (Tc.shown (Tc.grow l news))).length : Nat)]) h5'
          have kp5 : Keeps a H _ := kp4.trans (Keeps.of_same t4)
          refine r _ { a with ds := p4 } p5 (c6.same t5) (reshown_moved (kp4.free _ h4')) ?_ (kp5.free _ (upd_free h5')) ?_
          · refine kp5.trans ⟨fun b o e nb => ?_, fun b e => upd_free (upd_free e)⟩
            refine t5 _ _ ?_
            rw [upd_ne (fun z => nb (by rw [z]; exact mem_foot.mpr (.inl rfl)))]
            exact e
          · rw [upd_same, List.length_map]
            show some (HO.lst [.int ((Tc.shown (Tc.grow l news)).length : Nat)]) = some (HO.lst [.int (Sn04.lengthOf (Tc.grow l news))])
            rw [Tc.lengthOf_eq]
    · have e : (decide (0 ≤ at_) && (decide (0 ≤ k) && decide (at_ + k ≤ (Tc.shown l).length))) = false := by
        rw [Bool.and_eq_false_iff, Bool.and_eq_false_iff, decide_eq_false_iff_not, decide_eq_false_iff_not, decide_eq_false_iff_not]
        omega
      rw [e]
      refine iteT ⟨(by show 1 ≤ sizeLine; decide), fun p hp => ?_⟩
      rw [if_pos (by rw [sn_within, sl]; exact h1)] at dn
      exact dn.back cp (Same.refl H) hp
end
end Tp
end
section
set_option Elab.async false
set_option linter.all false
set_option maxRecDepth 100000
set_option maxHeartbeats 2000000
namespace Tp
open PySem PySem.Spec PyProof.Rows L2
open Sn04 (Change)
theorem pe_ixK {X : Cx} {K : PySem.W.Frag} {a b : Expr} {ta tb : TE} {pos : Pos} (hK : X.K = K) (ha : PE X a ta) (hb : PE X b tb) (hs : PlainIx b) : PE X (.Subscript a b pos) (tOp (rIxT K) ta tb) := by
  subst hK
  exact pe_ix ix_tup ha hb hs
theorem pe_ixLK {X : Cx} {K : PySem.W.Frag} {a b : Expr} {ta tb : TE} {pos : Pos} (hK : X.K = K) (ha : PE X a ta) (hb : PE X b tb) (hs : PlainIx b) : PE X (.Subscript a b pos) (tOp (rIxL K) ta tb) := by
  subst hK
  exact pe_ix ix_list ha hb hs
/-- a list comprehension without a test over a list, item by item -/
theorem lc_map {K : PySem.W.Frag} {a : Addr} {xs ys : List V} {v : Nat} {te : TE} {σ : L2.St} {H : Hp} {Q : VK} {D : Addr} (hD : H D = none) (hS : SqL K H a xs) (hn : xs.length ≤ 40000) (hy : ys.length = xs.length)
    (hs : ∀ (i : Nat) (x y : V) (H' : Hp) (R : VK), xs[i]? = some x → ys[i]? = some y → Same H H' → R y H' → te ((wipe σ [v]).set v (some x)) H' R)
    (hq : Q (.ref D) (upd H D (.lst ys))) :
    ∃ W : Nat → Nat → Hp → Prop, (∃ m, W 0 m (upd H D (.lst []))) ∧ ∀ i m H, W i m H →
      ((Itl K a).stop i H ∧ Q (.ref D) H) ∨ ((Itl K a).go i H ∧ ∃ Nx : Hp → Prop, (∀ H', Nx H' → ∃ m', m' < m ∧ W (i + 1) m' H') ∧ ∀ x H', (Itl K a).yld i H x H' → gName v x (wipe σ [v]) H' fun σ2 H2 => wipe σ2 [v] = wipe σ [v] ∧ tYes σ2 H2 fun b H3 =>
        if b = true then te σ2 H3 fun y H4 => ∃ acc, H4 D = some (.lst acc) ∧ acc.length < sizeLine ∧ Nx (upd H4 D (.lst (acc ++ [y]))) else Nx H3) := by
  refine ⟨fun i m H' => i ≤ xs.length ∧ m = xs.length - i ∧ H' = upd H D (.lst (ys.take i)), ⟨xs.length, Nat.zero_le _, rfl, rfl⟩, ?_⟩
  rintro i m H' ⟨hi, rfl, rfl⟩
  have s1 := same_new (o := .lst (ys.take i)) hD
  by_cases h : i < xs.length
  · obtain ⟨x, hx⟩ : ∃ x, xs[i]? = some x := ⟨_, List.getElem?_eq_getElem h⟩
    obtain ⟨y, hyi⟩ : ∃ y, ys[i]? = some y := ⟨_, List.getElem?_eq_getElem (by omega)⟩
    refine .inr ⟨⟨xs, x, s1.seq hS, hx⟩, fun H' => ∃ m', m' < xs.length - i ∧ i + 1 ≤ xs.length ∧ m' = xs.length - (i + 1) ∧ H' = upd H D (.lst (ys.take (i + 1))), fun _ h => h, ?_⟩
    rintro z H' ⟨rfl, hz⟩
    have e : z = x := Option.some.inj ((hz xs (s1.seq hS)).symm.trans hx)
    subst e
    refine ⟨wipe_set, ?_⟩
    unfold tYes
    dsimp only
    rw [if_pos rfl]
    refine hs i z y _ _ hx hyi s1 ⟨_, upd_same, line16 ?_, xs.length - (i + 1), by omega, h, rfl, ?_⟩
    · rw [List.length_take]; omega
    · rw [upd_upd, take_snoc hyi]
  · have e : i = xs.length := by omega
    subst e
    rw [← hy, List.take_length] at s1 ⊢
    exact .inl ⟨⟨xs, s1.seq hS, Nat.le_of_eq hy.symm⟩, hq⟩
theorem ans_ivs (v : Int) (out : List Nat) : [V.int v] ++ ivs out = (v :: out.map fun n : Nat => (n : Int)).map V.int := by
  rw [ivs_ints]
  rfl
theorem map_get {α β : Type} {f : α → β} {l : List α} {i : Nat} {y : β} (h : (l.map f)[i]? = some y) : ∃ x, l[i]? = some x ∧ y = f x := by
  rw [List.getElem?_map] at h
  cases e : l[i]? with
  | none => rw [e] at h; cases h
  | some x =>
    rw [e] at h
    exact ⟨x, rfl, (Option.some.inj h).symm⟩
section
variable {P : Program} {w : World} {K : PySem.W.Frag} {mg : Str → Option Value} {base : Heap} {C : Addr}
/-! ### text -/
def spText (C : Addr) : Sp := fun vs H Q _ => ∃ (a : Ad) (site : Nat) (l : List Change) (st k : Int), vs = [.ref a.p, .int st, .int k] ∧ CopyAt C H a site l (Tc.shown l) ∧ Does C H a Q (Sn04.step no1 (some ⟨site, l⟩) (.text st k))
theorem step_text (site : Nat) (l : List Change) (st k : Int) : Sn04.step no1 (some ⟨site, l⟩) (.text st k) = if Sn04.within st k (Sn04.stand l).length = false then (some ⟨site, l⟩, Sn04.says (-2)) else
    (some ⟨site, l⟩, ⟨0, ((Sn04.text l).drop st.toNat).take k.toNat⟩) := rfl
theorem sc36 : FnScope ["copy", "start", "k", "number"] ["copy", "start", "k"] (defScope (top 36)) := ⟨rfl, rfl, rfl, by decide +kernel, rfl, by decide +kernel, by decide +kernel⟩
theorem blk36 : BlkOk ["copy", "start", "k", "number"] (defScope (top 36)) (lcScope ((defBody (top 36)).getD 1 (.Pass ⟨0, 0, 0, 0⟩))) [("number", 3)] := ⟨rfl, by decide +kernel, by decide +kernel, by decide +kernel, by decide +kernel⟩
theorem ok_text (D : Def K mg "tell_text" (top 36) ["copy", "start", "k"]) (T : Txt K mg C) (hT : Has P w K mg base 1 "is_stretch" ["copy", "start", "k"] (spStretch C)) : Has P w K mg base 2 "tell_text" ["copy", "start", "k"] (spText C) := by
  refine D.has sc36 (fun vs H Q E h => ?_) (fun f cdv A outer s H vs Q E hr h => ?_)
  · obtain ⟨a, site, l, st, k, rfl, _⟩ := h
    rfl
  · obtain ⟨a, site, l, st, k, rfl, cp, dn⟩ := h
    have hu := hu_of hr
    obtain ⟨kvs, k1, k2⟩ := cp.known
    refine ⟨_, pss_cons (ps_if (pt_not (pt_val (pe_fn hT hr (pa_cons (pv 0) (pa_cons (pv 1) (pa_cons (pv 2) pa_nil)))))) (pss_one (ps_ret (pe_lst (pa_cons (pe_gi T.OUTR) pa_nil)))) pss_nil)
      (pss_one (ps_ret (pe_op op_cat (pe_lst (pa_cons pe_int pa_nil)) (pe_lc (own := [("number", 3)]) rfl sc36.nd (pi_list (pe_slice sl_list (pe_fld (pv 0) rfl) (po_some (pv 1)) (po_some (pe_op op_add (pv 1) (pv 2))))) blk36 (fun s H C cl fp => by exact pg_name (i := 3) sc36.nd rfl (Or.inl rfl)) (fun s H C cl fp => by exact pts_nil)
        (fun s H C cl fp => by exact pe_ixK (K := K) rfl (pe_dget hu (pe_fldK (K := K) rfl (pv 0) rfl) (pv 3) (fun _ _ => rfl)) (pe_gi T.BYTE) (fun _ _ => rfl)))))), ?_⟩
    rw [step_text] at dn
    have sl : (Sn04.stand l).length = (Tc.shown l).length := (Tc.shown_length l).symm
    have il : (ivs (Tc.shown l)).length = (Tc.shown l).length := List.length_map ..
    refine ⟨_, rfl, _, rfl, _, rfl, a, site, l, _, st, k, rfl, cp, _, rfl, ?_⟩
    by_cases h1 : 0 ≤ st ∧ 0 ≤ k ∧ st + k ≤ (Tc.shown l).length
    · rw [decide_eq_true h1.1, decide_eq_true h1.2.1, decide_eq_true h1.2.2]
      refine iteF ?_
      rw [if_neg (by rw [sn_within, sl]; exact fun q => q h1)] at dn
      obtain ⟨kn, rfl⟩ : ∃ kn : Nat, k = (kn : Int) := ⟨k.toNat, by omega⟩
      obtain ⟨an, rfl⟩ : ∃ an : Nat, st = (an : Int) := ⟨st.toNat, by omega⟩
      have shl := shown_most cp
      rw [show (an : Int).toNat = an from rfl, show (kn : Int).toNat = kn from rfl] at dn
      refine ⟨(by show 1 ≤ sizeLine; decide), fun p1 h1' => ?_⟩
      have s1 := same_new (o := .lst [.int 0]) h1'
      have c1 := cp.same s1
      refine ⟨_, rfl, a.p, C, a.dx, _, _, rfl, c1.ins, T.cl, T.nShown, cf_shown, _, rfl, _, rfl, _, rfl, _, rfl, _, _, rfl, rfl, _, rfl, a.ds, _, rfl, SqL.of c1.shown, fun ls hls => ?_⟩
      have ek : ((an : Int) + (kn : Int)) = ((an + kn : Nat) : Int) := by omega
      rw [ek, cut_mid (Nat.le_add_right an kn) (by rw [il]; omega), Nat.add_sub_cancel_left]
      have exs : ((ivs (Tc.shown l)).drop an).take kn = (((Sn04.stand l).drop an).take kn).map fun c => iv (Tc.num c.id) := by
        unfold ivs Tc.shown Tc.nums
        rw [List.map_take, List.map_drop, List.map_map]
        rfl
      have xlen : (((Sn04.stand l).drop an).take kn).length = kn := by
        rw [List.length_take, List.length_drop]
        omega
      have eys : ((Sn04.text l).drop an).take kn = (((Sn04.stand l).drop an).take kn).map fun c => c.byte := by
        unfold Sn04.text
        rw [List.map_take, List.map_drop]
      have hpart : ∀ c ∈ ((Sn04.stand l).drop an).take kn, c ∈ l := fun c hc => (Tc.mem_stand cp.good.wf (List.mem_of_mem_drop (List.mem_of_mem_take hc))).1
      rw [eys] at dn
      rw [exs]
      generalize ((Sn04.stand l).drop an).take kn = part at dn xlen hpart ⊢
      obtain ⟨xv, hxv⟩ : ∃ xv, xv = part.map fun c => iv (Tc.num c.id) := ⟨_, rfl⟩
      obtain ⟨yv, hyv⟩ : ∃ yv, yv = part.map fun c => iv c.byte := ⟨_, rfl⟩
      have xl : xv.length = kn := by rw [hxv, List.length_map, xlen]
      have yl : yv.length = kn := by rw [hyv, List.length_map, xlen]
      rw [← hxv]
      have s2 := same_new (o := .lst xv) hls
      have hSq : SqL K (upd (upd H p1 (.lst [.int 0])) ls (.lst xv)) ls xv := SqL.of upd_same
      refine ⟨ls, rfl, ⟨_, hSq⟩, fun Dd hD => ?_⟩
      refine lc_map (Q := fun y H2 => rCat (V.ref p1) y H2 Q) (te := tOp (rIxT K) (tDGet (tFld K (tVar 0) "known") (tVar 3)) (tC (V.int 1))) (σ := L2.start ["copy", "start", "k", "number"] [V.ref a.p, V.int an, V.int kn]) (v := 3) (ys := yv) hD hSq (by omega) (by omega) (fun i x y H' R hx hy sm hR => ?_) ?_
      · rw [hxv] at hx
        rw [hyv] at hy
        obtain ⟨c, hc, rfl⟩ := map_get hx
        obtain ⟨c', hc', rfl⟩ := map_get hy
        rw [hc] at hc'
        cases hc'
        obtain ⟨t, t1, t2⟩ := k2.at_ c (hpart c (List.mem_of_getElem? hc))
        have sA := (s1.trans s2).trans sm
        refine ⟨_, rfl, a.p, C, a.dx, _, _, rfl, sA _ _ cp.ins, T.cl, T.nKnown, cf_known, _, rfl, a.dk, _, rfl, (by have := DGet.k (k := kI (Tc.num c.id)) (sA _ _ k1); rw [t1] at this; exact this), t, _, _, _, rfl, rfl, SqT.of (sA _ _ t2), at_of (j := 1) rfl rfl, hR⟩
      · have s3 := same_new (o := .lst yv) hD
        have hlen : ([V.int 0] : List V).length + yv.length ≤ 40000 := by
          rw [yl, List.length_singleton]
          omega
        refine ⟨p1, Dd, _, _, rfl, rfl, s3 _ _ (s2 _ _ upd_same), upd_same, Nat.le_of_lt (line16 hlen), fun p4 h4 => ?_⟩
        have e7 : [V.int 0] ++ yv = ((0 : Int) :: (part.map fun c => c.byte).map fun n : Nat => (n : Int)).map V.int := by
          rw [← ans_ivs, hyv]
          unfold ivs
          rw [List.map_map]
          rfl
        rw [e7]
        exact dn.back cp ((s1.trans s2).trans s3) h4
    · have e : (decide (0 ≤ st) && (decide (0 ≤ k) && decide (st + k ≤ (Tc.shown l).length))) = false := by
        rw [Bool.and_eq_false_iff, Bool.and_eq_false_iff, decide_eq_false_iff_not, decide_eq_false_iff_not, decide_eq_false_iff_not]
        omega
      rw [e]
      refine iteT ⟨(by show 1 ≤ sizeLine; decide), fun p hp => ?_⟩
      rw [if_pos (by rw [sn_within, sl]; exact h1)] at dn
      exact dn.back cp (Same.refl H) hp
/-! ### id -/
def spId (C : Addr) : Sp := fun vs H Q _ => ∃ (a : Ad) (site : Nat) (l : List Change) (at_ : Int), vs = [.ref a.p, .int at_] ∧ CopyAt C H a site l (Tc.shown l) ∧ Does C H a Q (Sn04.step no1 (some ⟨site, l⟩) (.id at_))
theorem step_id (site : Nat) (l : List Change) (at_ : Int) : Sn04.step no1 (some ⟨site, l⟩) (.id at_) = if Sn04.within at_ 1 (Sn04.stand l).length = false then (some ⟨site, l⟩, Sn04.says (-2)) else
    (some ⟨site, l⟩, ⟨0, match (Sn04.stand l)[at_.toNat]? with | some c => [c.id.count, c.id.site] | none => []⟩) := rfl
theorem sc37 : FnScope ["copy", "at"] ["copy", "at"] (defScope (top 37)) := ⟨rfl, rfl, rfl, by decide +kernel, rfl, by decide +kernel, by decide +kernel⟩
theorem ok_id (D : Def K mg "tell_number" (top 37) ["copy", "at"]) (T : Txt K mg C) (hW : Has P w K mg base 1 "within" ["value", "least", "most"] spWithin) (hS : Has P w K mg base 1 "site_of" ["number"] spSiteOf) (hC : Has P w K mg base 1 "count_of" ["number"] spCountOf) : Has P w K mg base 2 "tell_number" ["copy", "at"] (spId C) := by
  refine D.has sc37 (fun vs H Q E h => ?_) (fun f cdv A outer s H vs Q E hr h => ?_)
  · obtain ⟨a, site, l, at_, rfl, _⟩ := h
    rfl
  · obtain ⟨a, site, l, at_, rfl, cp, dn⟩ := h
    refine ⟨_, pss_cons (ps_if (pt_not (pt_val (pe_fn hW hr (pa_cons (pv 1) (pa_cons pe_int (pa_cons (pe_op op_sub (pe_callB call_len_seq (by rfl) T.len PySem.boot_len (pa_cons (pe_fld (pv 0) rfl) pa_nil)) pe_int) pa_nil)))))) (pss_one (ps_ret (pe_lst (pa_cons (pe_gi T.OUTR) pa_nil)))) pss_nil)
      (pss_one (ps_ret (pe_lst (pa_cons pe_int (pa_cons (pe_fn hC hr (pa_cons (pe_ix ix_list (pe_fld (pv 0) rfl) (pv 1) (fun _ _ => rfl)) pa_nil)) (pa_cons (pe_fn hS hr (pa_cons (pe_ix ix_list (pe_fld (pv 0) rfl) (pv 1) (fun _ _ => rfl)) pa_nil)) pa_nil)))))), ?_⟩
    rw [step_id] at dn
    have sl : (Sn04.stand l).length = (Tc.shown l).length := (Tc.shown_length l).symm
    have il : (ivs (Tc.shown l)).length = (Tc.shown l).length := List.length_map ..
    refine ⟨_, rfl, _, rfl, a.p, C, a.dx, _, _, rfl, cp.ins, T.cl, T.nShown, cf_shown, a.ds, _, rfl, .inl (SqL.of cp.shown), _, _, rfl, rfl, _, _, _, rfl, _, rfl, ?_⟩
    rw [il]
    by_cases h1 : 0 ≤ at_ ∧ at_ ≤ (Tc.shown l).length - 1
    · rw [decide_eq_true h1.1, decide_eq_true h1.2]
      refine iteF ?_
      rw [if_neg (by rw [sn_within, sl]; omega)] at dn
      obtain ⟨an, rfl⟩ : ∃ an : Nat, at_ = (an : Int) := ⟨at_.toNat, by omega⟩
      rw [show (an : Int).toNat = an from rfl] at dn
      obtain ⟨c, hc⟩ : ∃ c, (Sn04.stand l)[an]? = some c := ⟨_, List.getElem?_eq_getElem (by omega)⟩
      rw [hc] at dn
      have hn : (Tc.shown l)[an]? = some (Tc.num c.id) := by
        unfold Tc.shown Tc.nums
        rw [List.getElem?_map, hc]
        rfl
      have hs := cp.good.wf.sites c (Tc.mem_stand cp.good.wf (List.mem_of_getElem? hc)).1
      refine ⟨_, rfl, a.p, C, a.dx, _, _, rfl, cp.ins, T.cl, T.nShown, cf_shown, _, rfl, a.ds, _, _, _, rfl, rfl, SqL.of cp.shown, at_iv hn, _, rfl, ?_⟩
      refine ⟨_, rfl, a.p, C, a.dx, _, _, rfl, cp.ins, T.cl, T.nShown, cf_shown, _, rfl, a.ds, _, _, _, rfl, rfl, SqL.of cp.shown, at_iv hn, _, rfl, (by show 3 ≤ sizeLine; decide), fun p hp => ?_⟩
      rw [Tc.num_div hs, Tc.num_mod hs]
      exact dn.back cp (Same.refl H) hp
    · have e : (decide (0 ≤ at_) && decide (at_ ≤ (Tc.shown l).length - 1)) = false := by
        rw [Bool.and_eq_false_iff, decide_eq_false_iff_not, decide_eq_false_iff_not]
        omega
      rw [e]
      refine iteT ⟨(by show 1 ≤ sizeLine; decide), fun p hp => ?_⟩
      rw [if_pos (by rw [sn_within, sl]; omega)] at dn
      exact dn.back cp (Same.refl H) hp
/-! ### place -/
def spPlace (C : Addr) : Sp := fun vs H Q _ => ∃ (a : Ad) (site : Nat) (l : List Change) (cn st : Nat), vs = [.ref a.p, iv cn, iv st] ∧ CopyAt C H a site l (Tc.shown l) ∧ Does C H a Q (Sn04.step no1 (some ⟨site, l⟩) (.place cn st))
theorem step_place (site : Nat) (l : List Change) (cn st : Nat) : Sn04.step no1 (some ⟨site, l⟩) (.place cn st) = (some ⟨site, l⟩, Sn04.says (match (Sn04.stand l).findIdx? fun c => decide (c.id = ⟨cn, st⟩) with | some i => (i : Int) | none => -1)) := rfl
theorem sc38 : FnScope ["copy", "count", "site", "number"] ["copy", "count", "site"] (defScope (top 38)) := ⟨rfl, rfl, rfl, by decide +kernel, rfl, by decide +kernel, by decide +kernel⟩
theorem flat_ivs (l : List Nat) : (ivs l).all flatV = true := by
  rw [List.all_eq_true]
  intro x hx
  obtain ⟨n, _, rfl⟩ := List.mem_map.mp hx
  rfl
theorem inV_ivs (n : Nat) (l : List Nat) : inV (iv n) (ivs l) = decide (n ∈ l) := by
  unfold inV ivs
  rw [Bool.eq_iff_iff, List.any_eq_true, decide_eq_true_eq]
  constructor
  · rintro ⟨y, hy, e⟩
    obtain ⟨m, hm, rfl⟩ := List.mem_map.mp hy
    have : (m : Int) = (n : Int) := by
      have e' : ((m : Int) == (n : Int)) = true := e
      exact eq_of_beq e'
    have e2 : m = n := by omega
    rw [← e2]
    exact hm
  · intro hn
    exact ⟨iv n, List.mem_map.mpr ⟨n, hn, rfl⟩, by show ((n : Int) == (n : Int)) = true; exact beq_self_eq_true _⟩
theorem first_at {l : List Nat} {n : Nat} (h : n ∈ l) : ∃ j : Nat, l[j]? = some n ∧ ∀ m : Nat, m < j → l[m]? ≠ some n := by
  have hi : l.idxOf n < l.length := List.idxOf_lt_length_of_mem h
  refine ⟨l.idxOf n, ?_, fun m hm e => ?_⟩
  · rw [List.getElem?_eq_getElem hi, List.getElem_idxOf]
  · obtain ⟨h1, h2⟩ := List.getElem?_eq_some_iff.mp e
    have := List.not_of_lt_findIdx (p := (· == n)) (xs := l) (i := m) hm
    simp [h2] at this
theorem ok_place (D : Def K mg "tell_place" (top 38) ["copy", "count", "site"]) (T : Txt K mg C) (hN : Has P w K mg base 1 "number_of" ["count", "site"] spNumberOf) : Has P w K mg base 2 "tell_place" ["copy", "count", "site"] (spPlace C) := by
  refine D.has sc38 (fun vs H Q E h => ?_) (fun f cdv A outer s H vs Q E hr h => ?_)
  · obtain ⟨a, site, l, cn, st, rfl, _⟩ := h
    rfl
  · obtain ⟨a, site, l, cn, st, rfl, cp, dn⟩ := h
    refine ⟨_, pss_cons (ps_if (pt_cmpR op_ge (pv 2) (pe_gi T.SITES) (nomark _)) (pss_one (ps_ret (pe_lst (pa_cons (pe_gi T.NOTT) pa_nil)))) pss_nil)
      (pss_cons (ps_set (i := 3) sc38.nd rfl (Or.inl rfl) (pe_fn hN hr (pa_cons (pv 1) (pa_cons (pv 2) pa_nil))))
      (pss_cons (ps_if (pt_cmpR op_notIn_seq (pv 3) (pe_fld (pv 0) rfl) (by with_unfolding_all rfl)) (pss_one (ps_ret (pe_lst (pa_cons (pe_gi T.NOTT) pa_nil)))) pss_nil)
      (pss_one (ps_ret (pe_lst (pa_cons (pe_bm PySem.F.plainAttrs_list PySem.F.slot_list_index PySem.F.type_list_index mt_index (pe_fld (pv 0) rfl) (pa_cons (pv 3) pa_nil)) pa_nil)))))), ?_⟩
    rw [step_place] at dn
    refine ⟨_, rfl, _, _, rfl, rfl, _, rfl, iteD (fun h1 => ?_) (fun h1 => ?_)⟩
    · refine ⟨(by show 1 ≤ sizeLine; decide), fun p hp => ?_⟩
      rw [Tc.place_none cp.good.wf (fun q => absurd q (by omega))] at dn
      exact dn.back cp (Same.refl H) hp
    · have hs : st ≤ 255 := by omega
      refine ⟨_, rfl, _, rfl, cn, st, rfl, ?_⟩
      refine ⟨_, rfl, _, rfl, a.p, C, a.dx, _, _, rfl, cp.ins, T.cl, T.nShown, cf_shown, a.ds, _, rfl, .inl (SqL.of cp.shown), rfl, flat_ivs _, _, rfl, ?_⟩
      show if (!inV (iv (cn * 256 + st)) (ivs (Tc.shown l))) = true then _ else _
      rw [inV_ivs]
      refine iteN (fun h2 => ?_) (fun h2 => ?_)
      · refine ⟨(by show 1 ≤ sizeLine; decide), fun p hp => ?_⟩
        rw [Tc.place_none cp.good.wf (fun _ => h2)] at dn
        exact dn.back cp (Same.refl H) hp
      · obtain ⟨j, hj, hm⟩ := first_at h2
        refine ⟨_, rfl, a.p, C, a.dx, _, _, rfl, cp.ins, T.cl, T.nShown, cf_shown, .inl ⟨rfl, _, SqL.of cp.shown⟩, _, rfl, a.ds, _, _, j, _, rfl, rfl, SqL.of cp.shown, rfl, flat_ivs _, ivs_at hj, ?_, fun m z hmj hz => ?_, (by show 1 ≤ sizeLine; decide), fun p hp => ?_⟩
        · show (((cn * 256 + st : Nat) : Int) == ((cn * 256 + st : Nat) : Int)) = true
          exact beq_self_eq_true _
        · obtain ⟨n, hn, rfl⟩ := ivs_get hz
          show ((n : Int) == ((cn * 256 + st : Nat) : Int)) = false
          rw [beq_eq_false_iff_ne]
          intro q
          have e : n = cn * 256 + st := by omega
          exact hm m hmj (by rw [← e]; exact hn)
        · rw [Tc.place_some cp.good.wf hs hj hm] at dn
          exact dn.back cp (Same.refl H) hp
/-! ### seen -/
def spSeen (C : Addr) : Sp := fun vs H Q _ => ∃ (a : Ad) (site : Nat) (l : List Change), vs = [.ref a.p] ∧ CopyAt C H a site l (Tc.shown l) ∧ Does C H a Q (Sn04.step no1 (some ⟨site, l⟩) .seen)
theorem step_seen (site : Nat) (l : List Change) : Sn04.step no1 (some ⟨site, l⟩) .seen = (some ⟨site, l⟩, ⟨0, Tc.greats l⟩) := rfl
theorem sc39 : FnScope ["copy"] ["copy"] (defScope (top 39)) := ⟨rfl, rfl, rfl, by decide +kernel, rfl, by decide +kernel, by decide +kernel⟩
theorem ok_seen (D : Def K mg "tell_seen" (top 39) ["copy"]) (T : Txt K mg C) : Has P w K mg base 1 "tell_seen" ["copy"] (spSeen C) := by
  refine D.has sc39 (fun vs H Q E h => ?_) (fun f cdv A outer s H vs Q E hr h => ?_)
  · obtain ⟨a, site, l, rfl, _⟩ := h
    rfl
  · obtain ⟨a, site, l, rfl, cp, dn⟩ := h
    refine ⟨_, pss_one (ps_ret (pe_op op_cat (pe_lst (pa_cons pe_int pa_nil)) (pe_fld (pv 0) rfl))), ?_⟩
    refine ⟨(by show 1 ≤ sizeLine; decide), fun p1 h1 => ?_⟩
    have s1 := same_new (o := .lst [.int 0]) h1
    have c1 := cp.same s1
    refine ⟨_, rfl, a.p, C, a.dx, _, _, rfl, c1.ins, T.cl, T.nGreat, cf_great, p1, a.dg, _, _, rfl, rfl, upd_same, c1.great, ?_, fun p2 h2 => ?_⟩
    · rw [List.length_map, Tc.greats_length]
      decide
    · rw [ans_ivs]
      rw [step_seen] at dn
      exact dn.back cp s1 h2
end
end Tp
end
section
set_option Elab.async false
set_option linter.all false
set_option maxRecDepth 100000
set_option maxHeartbeats 2000000
namespace L2
open PySem PySem.Spec PyProof.Rows
section
variable {X : Cx}
def keyN : Key → Int
  | .inl i => i
  | .inr _ => 0
/-- sorted(d) of a dict whose keys are ints -/
def rSortedD : List V → Hp → VK → Prop := fun vs H Q => ∃ (a : Addr) (kvs : List (Key × V)) (ns : List Int), vs = [V.ref a] ∧ H a = some (.dK kvs) ∧ (kvs.map (·.1)).Perm (ns.map Sum.inl) ∧
  ∀ (ns' : List Int) (p : Addr), ns'.Perm ns → ns'.Pairwise (· ≤ ·) → H p = none → Q (.ref p) (upd H p (.lst (ns'.map V.int)))
theorem ints_keys : ∀ {kvs : List (Key × Value)} {us : List Value}, us.length = kvs.length → (∀ k ∈ kvs.map (·.1), ∃ i, k = Sum.inl i) → (∀ (j : Nat) (v : Value), us[j]? = some v → ∃ k x, kvs[j]? = some (k, x) ∧ keyIs k v = true) → IntsAre us (kvs.map fun q => keyN q.1)
  | [], [], _, _, _ => .nil
  | [], _ :: _, h, _, _ => by simp at h
  | _ :: _, [], h, _, _ => by simp at h
  | (k, x) :: kvs, u :: us, hl, hk, h => by
    obtain ⟨k', x', e, q⟩ := h 0 u rfl
    have e' : (k, x) = (k', x') := Option.some.inj e
    cases e'
    obtain ⟨i, rfl⟩ := hk k (List.mem_cons_self ..)
    obtain ⟨t, rfl⟩ := Value.isInt_shape q
    have hl' : us.length = kvs.length := by simpa using hl
    exact .cons i t (ints_keys hl' (fun k' hk' => hk k' (List.mem_cons_of_mem _ hk')) fun j v e => h (j + 1) v (by simpa using e))
theorem cr_sortedD (hc : X.calm = true) : CallR X (.builtin "sorted") rSortedD := by
  intro pins s σ H vs us Q I r h
  obtain ⟨a, kvs, ns, rfl, ha, hp, q⟩ := h
  rw [Vals.ref1 r]
  obtain ⟨z, hd, ws, rel, dd⟩ := dk_of I.hok ha
  obtain ⟨ep, dd⟩ := dd.dictAt
  have hkeys : ∀ k ∈ ws.map (·.1), ∃ i, k = Sum.inl i := fun k hk => by
    rw [← rel.keys] at hk
    obtain ⟨i, _, e⟩ := List.mem_map.mp (hp.mem_iff.mp hk)
    exact ⟨i, e.symm⟩
  refine Calls.call_function_entry kind_sorted plain_sorted entry_sorted (args_sorted1 _) ?_
  unfold Builtin.«sorted»
  refine wpAny_bind (m := checkCount "sorted" 1 1 _) (wpAny_pure ?_)
  refine wpAny_bind (PySem.W.kdu_collect (A := X.A.in1) (PySem.W.kdl_dict (kvs := ws) hd) (I.ok.hd hc) dd (by rw [← rel.length]; exact z) fun h' tk acc hk hacc => ?_)
  have hl : acc.toList.length = ws.length := by rw [Array.length_toList]; exact hacc.1
  have hz : acc.toList.length ≤ sizeLine := by rw [hl, ← rel.length]; exact z
  have hI : IntsAre acc.toList (ws.map fun q => keyN q.1) := ints_keys hl hkeys fun j v e => hacc.2 j v (by rw [← Array.getElem?_toList]; exact e)
  have I' : Inv X pins σ H { s with heap := h', toks := tk } := I.kept hk
  refine wpAny_bind (wpAny_newList ?_ hz)
  have hoL : (h'.push (seqObj "list" acc.toList.toArray 0)).get? h'.objs.size = some (seqObj "list" acc.toList.toArray 0) := Heap.get?_push_size _ rfl
  refine wpAny_bind (wpAny_holding (wpAny_call_entry slot_list_sort ⟨_, hoL, rfl⟩ entry_list_sort (list_sort_treeAny hoL hI hz fun out ns' a1 a2 a3 => ⟨_, rfl, ?_⟩) (args_list_sort _)))
  refine wpAny_pure ⟨_, rfl, ?_⟩
  obtain ⟨e2, he'⟩ := sortedHeap_at (vs := acc.toList) (out := out) hoL
  have pn : ns'.Perm ns := by
    refine a2.trans ?_
    have e3 : (ws.map fun q => keyN q.1) = (kvs.map (·.1)).map keyN := by
      rw [rel.keys, List.map_map]
      rfl
    rw [e3]
    have e4 : (ns.map Sum.inl).map keyN = ns := by
      rw [List.map_map]
      exact List.map_id' ns
    have := hp.map keyN
    rw [e4] at this
    exact this
  have hlen : (ns'.map V.int).length ≤ sizeLine := by
    have e5 := a2.length_eq
    rw [List.length_map] at e5
    rw [List.length_map, e5, ← hl]
    exact hz
  exact ⟨.ref _, upd H h'.objs.size (.lst (ns'.map V.int)), I'.laid (t' := tk) (fun b o e => by
    have hb := Heap.lt_size e
    rw [sortedHeap_old (Nat.ne_of_lt hb) (by rw [size_push']; exact Nat.lt_succ_of_lt hb)]
    exact Heap.get?_push_of_some _ e) (Nat.le_refl _) ⟨hlen, out.toList, e2, vals_of_ints a1, he'⟩, rfl, q ns' _ pn a3 (I'.hok.fresh (Nat.le_refl _))⟩
/-- dict(d) of a dict -/
theorem call_dictD : CallR X (.type "dict") (fun xs H Q => ∃ (a : Addr) (kvs : List (Key × V)), xs = [.ref a] ∧ H a = some (.dK kvs) ∧ ∀ p, H p = none → Q (.ref p) (upd H p (.dK kvs))) := by
  intro pins s σ H xs us Q I r q
  obtain ⟨a, kvs, rfl, ha, q⟩ := q
  rw [Vals.ref1 r]
  obtain ⟨z, hd, ws, rel, dd⟩ := dk_of I.hok ha
  refine PySem.kt_call_dict hd dd (by rw [← rel.length]; exact z) fun h' hd' hs => ?_
  have hm : (s.heap.objs.size == sysModules) = false := beq_eq_false_iff_ne.mpr (Nat.ne_of_gt I.big)
  exact ⟨.ref s.heap.objs.size, upd H s.heap.objs.size (.dK kvs), I.laid (t' := s.toks) (fun b o e => (hs.2 b (Nat.ne_of_lt (Heap.lt_size e))).trans (Heap.get?_push_of_some _ e)) (Nat.le_refl _) ⟨z, hm, ws, rel, hd'⟩, rfl, q _ (I.hok.fresh (Nat.le_refl _))⟩
end
end L2
namespace Tp
open PySem PySem.Spec PyProof.Rows L2
open Sn04 (Change)
/-- a list comprehension's loop, as one word -/
def LC (J : It) (g : TG) (tt : TT) (te : TE) (vs : List Nat) (σ : L2.St) (Q : VK) (D : Addr) (H1 : Hp) : Prop := ∃ W : Nat → Nat → Hp → Prop, (∃ m, W 0 m (upd H1 D (.lst []))) ∧ ∀ i m H, W i m H →
  (J.stop i H ∧ Q (.ref D) H) ∨ (J.go i H ∧ ∃ Nx : Hp → Prop, (∀ H', Nx H' → ∃ m', m' < m ∧ W (i + 1) m' H') ∧ ∀ x H', J.yld i H x H' → g x (wipe σ vs) H' fun σ2 H2 => wipe σ2 vs = wipe σ vs ∧ tt σ2 H2 fun b H3 =>
    if b = true then te σ2 H3 fun y H4 => ∃ acc, H4 D = some (.lst acc) ∧ acc.length < sizeLine ∧ Nx (upd H4 D (.lst (acc ++ [y]))) else Nx H3)
def tLcW (wi : TI) (g : TG) (tt : TT) (te : TE) (vs : List Nat) : TE := fun σ H Q => wi σ H fun J H1 => ∀ D, H1 D = none → LC J g tt te vs σ Q D H1
theorem to_LC {X : Cx} {st : Stmt} {wi : TI} {g : TG} {tt : TT} {te : TE} {vs : List Nat} {i : Nat} (h : PS X st (tAsg (tLc wi g tt te vs) (gName i))) : PS X st (tAsg (tLcW wi g tt te vs) (gName i)) := h
theorem LC.list {K : PySem.W.Frag} {a : Addr} {xs : List V} {v : Nat} {tt : TT} {te : TE} {σ : L2.St} {H : Hp} {Q : VK} {D : Addr} (p : V → Bool) (f : V → V) (hD : H D = none) (hS : SqL K H a xs) (hn : xs.length ≤ 40000)
    (ht : ∀ (x : V) (H' : Hp) (R : Bool → Hp → Prop), x ∈ xs → Same H H' → R (p x) H' → tt ((wipe σ [v]).set v (some x)) H' R)
    (hs : ∀ (x : V) (H' : Hp) (R : VK), x ∈ xs → p x = true → Same H H' → R (f x) H' → te ((wipe σ [v]).set v (some x)) H' R)
    (hq : Q (.ref D) (upd H D (.lst ((xs.filter p).map f)))) : LC (Itl K a) (gName v) tt te [v] σ Q D H := lc_list p f hD hS hn ht hs hq
theorem lineBig {n : Nat} (h : n ≤ 16000000) : n < sizeLine := Nat.lt_of_le_of_lt h (by decide)
/-- the numbers of what is known, sorted -/
theorem Known.sorted {H : Hp} {kvs : List (Key × V)} {l : List Change} (h : Known H kvs l) : (kvs.map (·.1)).Perm (((Tc.nums l).map fun n : Nat => (n : Int)).map Sum.inl) := by
  rw [List.map_map]
  exact h.keys
theorem sorted_is {l : List Change} (h : Tc.Srt l) {ns : List Int} (p : ns.Perm ((Tc.nums l).map fun n : Nat => (n : Int))) (q : ns.Pairwise (· ≤ ·)) : ns.map V.int = ivs (Tc.nums l) := by
  rw [Tc.perm_sorted q (Tc.nums_sorted h) p, ivs_ints]
section
variable {P : Program} {w : World} {K : PySem.W.Frag} {mg : Str → Option Value} {base : Heap} {C : Addr}
/-! ### news -/
def spNews (C : Addr) : Sp := fun vs H Q _ => ∃ (a : Ad) (site : Nat) (l : List Change) (room : Int) (ld : Addr) (seen : List Nat), vs = [.ref a.p, .int room, .ref ld] ∧ CopyAt C H a site l (Tc.shown l) ∧ H ld = some (.lst (ivs seen)) ∧ seen.length = 256 ∧
  Does C H a Q (Sn04.step no1 (some ⟨site, l⟩) (.news seen room))
theorem step_news (site : Nat) (l : List Change) (room : Int) (seen : List Nat) : Sn04.step no1 (some ⟨site, l⟩) (.news seen room) = if room < 0 ∨ (Sn04.MOST : Int) < room then (some ⟨site, l⟩, Sn04.says (-2)) else
    if room < ((l.filter fun c => decide (seen.getD c.id.site 0 < c.id.count)).length : Int) then (some ⟨site, l⟩, Sn04.says (-1)) else
      (some ⟨site, l⟩, ⟨((l.filter fun c => decide (seen.getD c.id.site 0 < c.id.count)).length : Nat), (l.filter fun c => decide (seen.getD c.id.site 0 < c.id.count)).flatMap Sn04.encode⟩) := rfl
theorem sc40 : FnScope ["copy", "room", "seen", "numbers", "answer", "number"] ["copy", "room", "seen"] (defScope (top 40)) := ⟨rfl, rfl, rfl, by decide +kernel, rfl, by decide +kernel, by decide +kernel⟩
theorem blk40 : BlkOk ["copy", "room", "seen", "numbers", "answer", "number"] (defScope (top 40)) (lcScope ((defBody (top 40)).getD 1 (.Pass ⟨0, 0, 0, 0⟩))) [("number", 5)] := ⟨rfl, by decide +kernel, by decide +kernel, by decide +kernel, by decide +kernel⟩
def newerV (seen : List Nat) : V → Bool
  | .int n => Tc.newer seen n.toNat
  | _ => false
theorem filter_newer (seen l : List Nat) : ((ivs l).filter (newerV seen)).map id = ivs (l.filter (Tc.newer seen)) := by
  unfold ivs
  rw [List.map_id, List.filter_map]
  rfl
theorem ok_news (D : Def K mg "tell_news" (top 40) ["copy", "room", "seen"]) (T : Txt K mg C) (hW : Has P w K mg base 1 "within" ["value", "least", "most"] spWithin) (hS : Has P w K mg base 1 "site_of" ["number"] spSiteOf) (hC : Has P w K mg base 1 "count_of" ["number"] spCountOf)
    (hX : Has P w K mg base 2 "sixteen_bytes" ["number", "change"] spSixteen) : Has P w K mg base 3 "tell_news" ["copy", "room", "seen"] (spNews C) := by
  refine D.has sc40 (fun vs H Q E h => ?_) (fun f cdv A outer s H vs Q E hr h => ?_)
  · obtain ⟨a, site, l, room, ld, seen, rfl, _⟩ := h
    rfl
  · obtain ⟨a, site, l, room, ld, seen, rfl, cp, hld, hsl, dn⟩ := h
    have hu := hu_of hr
    have hr1 : Room 1 _ := hr.mono (by decide)
    obtain ⟨kvs, k1, k2⟩ := cp.known
    refine ⟨_, pss_cons (ps_if (pt_not (pt_val (pe_fn hW hr1 (pa_cons (pv 1) (pa_cons pe_int (pa_cons (pe_gi T.MOST) pa_nil)))))) (pss_one (ps_ret (pe_lst (pa_cons (pe_gi T.OUTR) pa_nil)))) pss_nil)
      (pss_cons (to_LC (ps_setLc (i := 3) (own := [("number", 5)]) rfl sc40.nd rfl rfl rfl (pi_list (pe_callB (cr_sortedD rfl) (by rfl) T.sorted PyProof.Rows.boot_sorted (pa_cons (pe_fld (pv 0) rfl) pa_nil))) blk40 (fun s H C cl fp => by exact pg_name (i := 5) sc40.nd rfl (Or.inl rfl))
        (fun s H C cl fp => by exact pts_one (pt_cmpR op_gt (pe_fn hC hr1 (pa_cons (pv 5) pa_nil)) (pe_ixLK (K := K) rfl (pv 2) (pe_fn hS hr1 (pa_cons (pv 5) pa_nil)) (fun _ _ => rfl)) (nomark _)))
        (fun s H C cl fp => by exact pv 5)))
      (pss_cons (ps_if (pt_cmpR op_gt (pe_callB call_len_seq (by rfl) T.len PySem.boot_len (pa_cons (pv 3) pa_nil)) (pv 1) (nomark _)) (pss_one (ps_ret (pe_lst (pa_cons (pe_gi T.TOO) pa_nil)))) pss_nil)
      (pss_cons (ps_set (i := 4) sc40.nd rfl (Or.inl rfl) (pe_lst (pa_cons (pe_callB call_len_seq (by rfl) T.len PySem.boot_len (pa_cons (pv 3) pa_nil)) pa_nil)))
      (pss_cons (ps_for PassesOwn.never rfl (pi_list (pv 3)) (pg_name (i := 5) sc40.nd rfl (Or.inl rfl)) (pss_one (ps_expr (pe_bm PySem.F.plainAttrs_list PySem.F.slot_list_extend PySem.F.type_list_extend mt_extend (pv 4) (pa_cons (pe_fn hX hr (pa_cons (pv 5) (pa_cons (pe_dget hu (pe_fld (pv 0) rfl) (pv 5) (fun _ _ => rfl)) pa_nil))) pa_nil)))))
      (pss_one (ps_ret (pv 4))))))), ?_⟩
    rw [step_news] at dn
    refine ⟨_, rfl, _, _, _, rfl, _, rfl, ?_⟩
    have eM : (Sn04.MOST : Int) = 16384 := rfl
    rw [eM] at dn
    by_cases h1 : 0 ≤ room ∧ room ≤ 16384
    · rw [decide_eq_true h1.1, decide_eq_true h1.2]
      refine iteF ?_
      rw [if_neg (by omega)] at dn
      refine ⟨_, rfl, a.p, C, a.dx, _, _, rfl, cp.ins, T.cl, T.nKnown, cf_known, a.dk, kvs, _, rfl, k1, k2.sorted, fun ns' ps pn sn hps => ?_⟩
      rw [sorted_is cp.good.wf.srt pn sn]
      have s1 := same_new (o := .lst (ivs (Tc.nums l))) hps
      have lenl : (ivs (Tc.nums l)).length = l.length := by rw [List.length_map, Tc.nums_length]
      have hm := cp.most
      have hSq : SqL K (upd H ps (.lst (ivs (Tc.nums l)))) ps (ivs (Tc.nums l)) := SqL.of upd_same
      refine ⟨ps, rfl, ⟨_, hSq⟩, fun Dd hD => ?_⟩
      refine LC.list (newerV seen) id hD hSq (by omega) (fun x H' R hx sm hR => ?_) (fun x H' R hx px sm hR => ?_) ?_
      · obtain ⟨n, hn, rfl⟩ := List.mem_map.mp hx
        have hlt : n % 256 < seen.length := by omega
        have hs : seen[n % 256]? = some (seen.getD (n % 256) 0) := by
          rw [List.getElem?_eq_getElem hlt, List.getD_eq_getElem?_getD, List.getElem?_eq_getElem hlt]
          rfl
        refine ⟨_, rfl, n, rfl, _, rfl, _, rfl, n, rfl, ld, _, _, _, rfl, rfl, SqL.of (sm _ _ (s1 _ _ hld)), at_iv hs, _, _, rfl, rfl, _, rfl, ?_⟩
        have e : decide (((seen.getD (n % 256) 0 : Nat) : Int) < ((n / 256 : Nat) : Int)) = newerV seen (iv n) := by
          show _ = Tc.newer seen ((n : Int)).toNat
          unfold Tc.newer
          rw [decide_eq_decide]
          show _ ↔ seen.getD (n % 256) 0 < n / 256
          omega
        rw [e]
        exact hR
      · exact ⟨_, rfl, hR⟩
      · rw [filter_newer, ← Tc.nums_newer cp.good.wf.sites]
        generalize hm' : (l.filter fun c => decide (seen.getD c.id.site 0 < c.id.count)) = m at dn ⊢
        have s2 := same_new (o := .lst (ivs (Tc.nums m))) hD
        have lenm : (ivs (Tc.nums m)).length = m.length := by rw [List.length_map, Tc.nums_length]
        have mle : m.length ≤ l.length := by rw [← hm']; exact List.length_filter_le ..
        have sub : ∀ c ∈ m, c ∈ l := fun c hc => by rw [← hm'] at hc; exact (List.mem_filter.mp hc).1
        refine ⟨_, rfl, Dd, _, rfl, .inl (SqL.of upd_same), _, rfl, _, _, rfl, rfl, _, rfl, ?_⟩
        rw [lenm]
        refine iteD (fun h2 => ?_) (fun h2 => ?_)
        · refine ⟨(by show 1 ≤ sizeLine; decide), fun p hp => ?_⟩
          rw [if_pos h2] at dn
          exact dn.back cp (s1.trans s2) hp
        · rw [if_neg h2] at dn
          refine ⟨_, rfl, Dd, _, rfl, .inl (SqL.of upd_same), (by show 1 ≤ sizeLine; decide), fun la hla => ?_⟩
          rw [lenm]
          have s3 := s1.trans s2
          have s4 := same_new (o := .lst [.int (m.length : Nat)]) hla
          refine ⟨_, rfl, Dd, rfl, ⟨_, SqL.of (s4 _ _ upd_same)⟩, for_list (K := K) (a := Dd) (xs := ivs (Tc.nums m)) (fun i σ H' => ∃ v : Option V, σ = [some (.ref a.p), some (.int room), some (.ref ld), some (.ref Dd), some (.ref la), v] ∧
              H' la = some (.lst ([.int (m.length : Nat)] ++ ivs ((m.take i).flatMap Sn04.encode))) ∧ Same (upd (upd H ps (.lst (ivs (Tc.nums l)))) Dd (.lst (ivs (Tc.nums m)))) H')
            ⟨none, rfl, upd_same, s4⟩ (fun i σ H' _ ⟨_, _, _, sm⟩ => SqL.of (sm _ _ upd_same)) ?_ ?_⟩
          · rintro i y σ H' hi ⟨v, rfl, hl', sm⟩
            obtain ⟨n, hn, rfl⟩ := ivs_get hi
            obtain ⟨c, hc, rfl⟩ := nums_get hn
            have cl := sub c (List.mem_of_getElem? hc)
            obtain ⟨t, t1, t2⟩ := k2.at_ c cl
            have sA := s3.trans sm
            have ilt : i < m.length := (List.getElem?_eq_some_iff.mp hc).1
            refine ⟨_, rfl, .inl ⟨rfl, _, SqL.of hl'⟩, _, rfl, _, rfl, a.p, C, a.dx, _, _, rfl, sA _ _ cp.ins, T.cl, T.nKnown, cf_known, _, rfl, a.dk, _, rfl, (by have := DGet.k (k := kI (Tc.num c.id)) (sA _ _ k1); rw [t1] at this; exact this), ?_⟩
            refine ⟨c, t, l, rfl, sA _ _ t2, cp.good.wf.fit c cl, fun H2 p sm2 hp2 => ?_⟩
            refine ⟨la, p, _, _, rfl, rfl, sm2 _ _ hl', hp2, Nat.le_of_lt (lineBig ?_), ?_⟩
            · rw [List.length_append, List.length_map, List.length_map, Tc.encodes_length, List.length_take, Tc.encode_length]
              show 1 + 16 * min i m.length + 16 ≤ 16000000
              omega
            · refine ⟨_, rfl, ?_, fun b o e => ?_⟩
              · rw [upd_same, take_snoc hc, Tc.encodes_snoc, List.append_assoc]
                unfold ivs
                rw [List.map_append]
              · have nb : b ≠ la := fun q => by rw [q, hla] at e; cases e
                rw [upd_ne nb]
                exact sm2 _ _ (sm _ _ e)
          · rintro σ H' ⟨v, rfl, hl', sm⟩
            rw [lenm, List.take_length] at hl'
            refine ⟨_, rfl, ?_⟩
            obtain ⟨y, ey, r⟩ := dn
            cases ey
            have sA := s3.trans sm
            refine r H' a la (cp.same sA) (Moved.refl a H) (Keeps.of_same sA) (s3.free hla) ?_
            rw [hl', ans_ivs]
    · have e : (decide (0 ≤ room) && decide (room ≤ 16384)) = false := by
        rw [Bool.and_eq_false_iff, decide_eq_false_iff_not, decide_eq_false_iff_not]
        omega
      rw [e]
      refine iteT ⟨(by show 1 ≤ sizeLine; decide), fun p hp => ?_⟩
      rw [if_pos (by omega)] at dn
      exact dn.back cp (Same.refl H) hp
end
end Tp
end
section
set_option Elab.async false
set_option linter.all false
set_option maxRecDepth 100000
set_option maxHeartbeats 2000000
namespace Tp
open PySem PySem.Spec PyProof.Rows L2
open Sn04 (Change)
theorem iteQ {p A B : Prop} [Decidable p] (h1 : p → A) (h2 : ¬ p → B) : if decide p = true then A else B := iteD h1 h2
theorem Res.after {C : Addr} {H H1 : Hp} {a : Ad} {Q : VK} {x : Sn04.Copy} {ans : List Int} (r : Res C H a Q x ans) (s : Same H H1) : Res C H1 a Q x ans := fun H' a' p cp mv kp hp hp' =>
  r H' a' p cp ⟨mv.p, fun b hb => (mv.foot b hb).imp id fun q => s.free q⟩ ((Keeps.of_same s).trans kp) (s.free hp) hp'
theorem kind_one {c : Change} : Tc.kindN c = 1 ↔ c.out = false := by
  unfold Tc.kindN
  cases c.out <;> simp
theorem Known.of {H : Hp} {kvs : List (Key × V)} {l : List Change} (h : Known H kvs l) {n : Nat} (hn : n ∈ Tc.nums l) : ∃ c ∈ l, Tc.num c.id = n ∧ ∃ t, valV kvs (kI n) = some (.ref t) ∧ H t = some (.tup (chV c)) := by
  obtain ⟨c, hc, rfl⟩ := Tc.mem_nums.mp hn
  exact ⟨c, hc, rfl, h.at_ c hc⟩
section
variable {P : Program} {w : World} {K : PySem.W.Frag} {mg : Str → Option Value} {base : Heap} {C : Addr}
/-! ### may_be_new -/
def spMay : Sp := fun vs H Q _ => ∃ (dk dg : Addr) (c : Change) (t : Addr) (kvs : List (Key × V)) (l : List Change), vs = [.ref dk, .ref dg, iv (Tc.num c.id), .ref t] ∧ H dk = some (.dK kvs) ∧ Known H kvs l ∧ H dg = some (.lst (ivs (Tc.greats l))) ∧ H t = some (.tup (chV c)) ∧
  Tc.WF l ∧ c.id.site ≤ 255 ∧ c.other.site ≤ 255 ∧ Q (.bl (!decide (Tc.Bars l c))) H
theorem sc41 : FnScope ["known", "greatest", "number", "change", "site", "count", "other"] ["known", "greatest", "number", "change"] (defScope (top 41)) := ⟨rfl, rfl, rfl, by decide +kernel, rfl, by decide +kernel, by decide +kernel⟩
theorem ok_may (D : Def K mg "may_be_new" (top 41) ["known", "greatest", "number", "change"]) (T : Txt K mg C) (hS : Has P w K mg base 1 "site_of" ["number"] spSiteOf) (hC : Has P w K mg base 1 "count_of" ["number"] spCountOf) : Has P w K mg base 2 "may_be_new" ["known", "greatest", "number", "change"] spMay := by
  refine D.has sc41 (fun vs H Q E h => ?_) (fun f cdv A outer s H vs Q E hr h => ?_)
  · obtain ⟨dk, dg, c, t, kvs, l, rfl, _⟩ := h
    rfl
  · obtain ⟨dk, dg, c, t, kvs, l, rfl, hk, kn, hg, ht, wf, s2, os, q⟩ := h
    have hu := hu_of hr
    refine ⟨_, pss_cons (ps_set (i := 4) sc41.nd rfl (Or.inl rfl) (pe_fn hS hr (pa_cons (pv 2) pa_nil)))
      (pss_cons (ps_set (i := 5) sc41.nd rfl (Or.inl rfl) (pe_fn hC hr (pa_cons (pv 2) pa_nil)))
      (pss_cons (ps_set (i := 6) sc41.nd rfl (Or.inl rfl) (pe_ix ix_tup (pv 3) (pe_gi T.OTHER) (fun _ _ => rfl)))
      (pss_cons (ps_if (pw_or (pt_cmpR op_eq (pv 4) pe_int (nomark _)) (pw_or (pt_cmpR op_le (pv 5) (pe_ix ix_list (pv 1) (pv 4) (fun _ _ => rfl)) (nomark _)) (pw_or1 (pt_cmpR op_le (pv 5) (pe_fn hC hr (pa_cons (pv 6) pa_nil)) (nomark _))))).pt (pss_one (ps_ret pe_bl)) pss_nil)
      (pss_cons (ps_if (pt_cmpR op_eq (pv 6) (pe_gi T.NOTHING) (nomark _)) (pss_one (ps_ret (pe_cmpR op_eq (pe_ix ix_tup (pv 3) (pe_gi T.KIND) (fun _ _ => rfl)) (pe_gi T.PUTS) (nomark _)))) pss_nil)
      (pss_one (ps_ret (pe_and (pe_cmp (pc_din hu (pv 6) (pv 0))) (pe_one (pe_cmpR op_eq (pe_ix ix_tup (pe_dget hu (pv 0) (pv 6) (fun _ _ => rfl)) (pe_gi T.KIND) (fun _ _ => rfl)) (pe_gi T.PUTS) (nomark _)))))))))), ?_⟩
    refine ⟨_, rfl, _, rfl, _, rfl, _, rfl, ?_⟩
    rw [Tc.num_mod s2, Tc.num_div s2]
    refine ⟨_, rfl, t, _, _, _, rfl, rfl, SqT.of ht, at_of (j := 2) rfl rfl, ?_⟩
    have bad : Tc.Bars l c → Q (.bl false) H := fun b => by
      rw [decide_eq_true b] at q
      exact q
    refine ⟨_, rfl, rfl, _, rfl, iteD (fun h1 => iteT (bad (.inl (iv_inj.mp h1)))) (fun h1 => ?_)⟩
    refine ⟨_, rfl, _, rfl, _, rfl, dg, _, _, _, rfl, rfl, SqL.of hg, at_iv (i := c.id.site) (Tc.greats_at l (Nat.lt_succ_of_le s2)), _, _, rfl, rfl, _, rfl, iteD (fun h2 => iteT (bad (.inr (.inl (by omega))))) (fun h2 => ?_)⟩
    refine ⟨_, rfl, _, rfl, _, rfl, _, _, rfl, rfl, _, rfl, ?_⟩
    rw [Tc.num_div os]
    refine iteD (fun h3 => bad (.inr (.inr (.inl (by omega))))) (fun h3 => ?_)
    have e1 : ¬ c.id.site = 0 := fun z => h1 (iv_inj.mpr z)
    have e2 : ¬ c.id.count ≤ Sn04.seen l c.id.site := by omega
    have e3 : ¬ c.id.count ≤ c.other.count := by omega
    refine ⟨_, rfl, rfl, _, rfl, iteD (fun h4 => ?_) (fun h4 => ?_)⟩
    · have e4 : c.other = Sn04.nothing := Tc.num_zero.mp (iv_inj.mp h4)
      refine ⟨_, rfl, t, _, _, _, rfl, rfl, SqT.of ht, at_of (j := 0) rfl rfl, rfl, ?_⟩
      have e : decide (iv (Tc.kindN c) = iv 1) = !decide (Tc.Bars l c) := by
        rw [Bool.eq_iff_iff, decide_eq_true_eq, Bool.not_eq_true', decide_eq_false_iff_not, iv_inj, kind_one]
        unfold Tc.Bars
        constructor
        · rintro z (y | y | y | y | y)
          · exact e1 y
          · exact e2 y
          · exact e3 y
          · rw [z] at y
            exact Bool.false_ne_true y.2
          · exact y.1 e4
        · intro z
          cases o : c.out with
          | false => rfl
          | true => exact absurd (.inr (.inr (.inr (.inl ⟨e4, o⟩)))) z
      rw [← e] at q
      exact q
    · have e4 : c.other ≠ Sn04.nothing := fun z => h4 (iv_inj.mpr (Tc.num_zero.mpr z))
      refine ⟨_, rfl, _, rfl, dk, _, rfl, DGet.k (k := kI (Tc.num c.other)) hk, _, rfl, ?_⟩
      rw [kn.has]
      refine iteD (fun h5 => ?_) (fun h5 => ?_)
      · obtain ⟨x, hx, ex, t', t1, t2⟩ := kn.of h5
        refine ⟨_, rfl, _, rfl, dk, _, rfl, (by have := DGet.k (k := kI (Tc.num c.other)) hk; rw [t1] at this; exact this), t', _, _, _, rfl, rfl, SqT.of t2, at_of (j := 0) rfl rfl, rfl, ?_⟩
        have ip := Tc.isPut_at wf os hx ex
        have e : decide (iv (Tc.kindN x) = iv 1) = !decide (Tc.Bars l c) := by
          rw [Bool.eq_iff_iff, decide_eq_true_eq, Bool.not_eq_true', decide_eq_false_iff_not, iv_inj, kind_one]
          unfold Tc.Bars
          constructor
          · rintro z (y | y | y | y | y)
            · exact e1 y
            · exact e2 y
            · exact e3 y
            · exact e4 y.1
            · rw [ip, z] at y
              exact Bool.false_ne_true y.2.symm
          · intro z
            cases o : x.out with
            | false => rfl
            | true =>
              rw [o] at ip
              exact absurd (.inr (.inr (.inr (.inr ⟨e4, ip⟩)))) z
        rw [← e] at q
        exact q
      · exact bad (.inr (.inr (.inr (.inr ⟨e4, Tc.isPut_none h5⟩))))
/-! ### learn -/
def spLearn (C : Addr) : Sp := fun vs H Q _ => ∃ (a : Ad) (site : Nat) (l : List Change) (n : Int) (ld : Addr) (b : List Nat), vs = [.ref a.p, .int n, .ref ld] ∧ CopyAt C H a site l (Tc.shown l) ∧ H ld = some (.lst (ivs b)) ∧ (∀ x ∈ b, x ≤ 255) ∧
  (0 ≤ n ∧ n ≤ 16384 → (b.length : Int) = 16 * n) ∧ Does C H a Q (Sn04.step no1 (some ⟨site, l⟩) (.learn b n))
theorem step_learn (site : Nat) (l : List Change) (n : Int) (b : List Nat) : Sn04.step no1 (some ⟨site, l⟩) (.learn b n) = if n < 0 ∨ (Sn04.MOST : Int) < n then (some ⟨site, l⟩, Sn04.says (-2)) else match Sn04.learnAll l b n.toNat with
    | none => (some ⟨site, l⟩, Sn04.says (-3))
    | some m => if Sn04.MOST < m.length then (some ⟨site, l⟩, Sn04.says (-1)) else (some ⟨site, m⟩, Sn04.says (Sn04.lengthOf m)) := rfl
theorem sc42 : FnScope ["copy", "n", "data", "known", "greatest", "numbers", "step", "row", "number", "change"] ["copy", "n", "data"] (defScope (top 42)) := ⟨rfl, rfl, rfl, by decide +kernel, rfl, by decide +kernel, by decide +kernel⟩
theorem ok_learn (D : Def K mg "learn_changes" (top 42) ["copy", "n", "data"]) (T : Txt K mg C) (hW : Has P w K mg base 1 "within" ["value", "least", "most"] spWithin) (hS : Has P w K mg base 1 "site_of" ["number"] spSiteOf) (hC : Has P w K mg base 1 "count_of" ["number"] spCountOf)
    (hF : Has P w K mg base 1 "has_form" ["row"] (spForm K)) (hN : Has P w K mg base 2 "number_in" ["row"] (spNumIn K)) (hI : Has P w K mg base 2 "change_in" ["row"] (spChIn K)) (hM : Has P w K mg base 2 "may_be_new" ["known", "greatest", "number", "change"] spMay)
    (hA : Has P w K mg base 3 "keep_all" ["copy", "numbers", "changes"] (spKeepAll C)) : Has P w K mg base 4 "learn_changes" ["copy", "n", "data"] (spLearn C) := by
  refine D.has sc42 (fun vs H Q E h => ?_) (fun f cdv A outer s H vs Q E hr h => ?_)
  · obtain ⟨a, site, l, n, ld, b, rfl, _⟩ := h
    rfl
  · obtain ⟨a, site, l, n, ld, b, rfl, cp, hld, hby, hbl, dn⟩ := h
    have hu := hu_of hr
    have hr1 : Room 1 _ := hr.mono (by decide)
    have hr2 : Room 2 _ := hr.mono (by decide)
    obtain ⟨kvs, k1, k2⟩ := cp.known
    refine ⟨_, pss_cons (ps_if (pt_not (pt_val (pe_fn hW hr1 (pa_cons (pv 1) (pa_cons pe_int (pa_cons (pe_gi T.MOST) pa_nil)))))) (pss_one (ps_ret (pe_lst (pa_cons (pe_gi T.OUTR) pa_nil)))) pss_nil)
      (pss_cons (ps_set (i := 3) sc42.nd rfl (Or.inl rfl) (pe_callTy call_dictD (by rfl) T.dict PyProof.Rows.boot_dict (pa_cons (pe_fld (pv 0) rfl) pa_nil)))
      (pss_cons (ps_set (i := 4) sc42.nd rfl (Or.inl rfl) (pe_callTy call_list_of (by rfl) T.list PyProof.Rows.boot_list (pa_cons (pe_fld (pv 0) rfl) pa_nil)))
      (pss_cons (ps_set (i := 5) sc42.nd rfl (Or.inl rfl) (pe_lst pa_nil))
      (pss_cons (ps_for PassesOwn.never rfl (pi_range1 (by rfl) T.range (pa_cons (pv 1) pa_nil)) (pg_name (i := 6) sc42.nd rfl (Or.inl rfl))
        (pss_cons (ps_set (i := 7) sc42.nd rfl (Or.inl rfl) (pe_slice sl_list (pv 2) (po_some (pe_op op_mul (pv 6) (pe_gi T.CHSIZE))) (po_some (pe_op op_mul (pe_op op_add (pv 6) pe_int) (pe_gi T.CHSIZE)))))
        (pss_cons (ps_if (pt_not (pt_val (pe_fn hF hr1 (pa_cons (pv 7) pa_nil)))) (pss_one (ps_ret (pe_lst (pa_cons (pe_gi T.UNFIT) pa_nil)))) pss_nil)
        (pss_cons (ps_set (i := 8) sc42.nd rfl (Or.inl rfl) (pe_fn hN hr2 (pa_cons (pv 7) pa_nil)))
        (pss_cons (ps_set (i := 9) sc42.nd rfl (Or.inl rfl) (pe_fn hI hr2 (pa_cons (pv 7) pa_nil)))
        (pss_one (ps_if (pt_cmp (pc_din hu (pv 8) (pv 3))) (pss_one (ps_if (pt_cmpR (op_neD (hu64 hr)) (pe_dget hu (pv 3) (pv 8) (fun _ _ => rfl)) (pv 9) (nomark _)) (pss_one (ps_ret (pe_lst (pa_cons (pe_gi T.UNFIT) pa_nil)))) pss_nil))
          (pss_one (ps_if (pt_val (pe_fn hM hr2 (pa_cons (pv 3) (pa_cons (pv 4) (pa_cons (pv 8) (pa_cons (pv 9) pa_nil))))))
            (pss_cons (ps_dput hu (pv 3) (pv 8) (pv 9) rfl) (pss_cons (ps_asg (pe_fn hC hr1 (pa_cons (pv 8) pa_nil)) (pg_sub (pv 4) (pe_fn hS hr1 (pa_cons (pv 8) pa_nil)) set_list))
              (pss_one (ps_expr (pe_bm PySem.F.plainAttrs_list PySem.F.slot_list_append PySem.F.type_list_append mt_append (pv 5) (pa_cons (pv 8) pa_nil))))))
            (pss_one (ps_ret (pe_lst (pa_cons (pe_gi T.UNFIT) pa_nil)))))))))))))
      (pss_one (ps_ret (pe_fn hA hr (pa_cons (pv 0) (pa_cons (pv 5) (pa_cons (pv 3) pa_nil)))))))))), ?_⟩
    rw [step_learn] at dn
    refine ⟨_, rfl, _, _, _, rfl, _, rfl, ?_⟩
    have eM : (Sn04.MOST : Int) = 16384 := rfl
    have eM' : Sn04.MOST = 16384 := rfl
    rw [eM, eM'] at dn
    by_cases h1 : 0 ≤ n ∧ n ≤ 16384
    · rw [decide_eq_true h1.1, decide_eq_true h1.2]
      refine iteF ?_
      rw [if_neg (by omega)] at dn
      have hbl := hbl h1
      obtain ⟨nn, rfl⟩ : ∃ nn : Nat, n = (nn : Int) := ⟨n.toNat, by omega⟩
      rw [show (nn : Int).toNat = nn from rfl] at dn
      have bad : Sn04.learnAll l b nn = none → ∀ (H1 : Hp) (p : Addr), Same H H1 → H1 p = none → Q (.ref p) (upd H1 p (.lst [.int (-3)])) := fun e H1 p sm hp => by
        rw [e] at dn
        exact dn.back cp sm hp
      -- known, greatest, numbers
      refine ⟨_, rfl, a.p, C, a.dx, _, _, rfl, cp.ins, T.cl, T.nKnown, cf_known, a.dk, kvs, rfl, k1, fun kd hkd => ?_⟩
      have s1 := same_new (o := .dK kvs) hkd
      refine ⟨_, rfl, a.p, C, a.dx, _, _, rfl, s1 _ _ cp.ins, T.cl, T.nGreat, cf_great, a.dg, _, rfl, .inl (SqL.of (s1 _ _ cp.great)), fun gd hgd => ?_⟩
      have s2 := same_new (o := .lst (ivs (Tc.greats l))) hgd
      refine ⟨Nat.zero_le _, fun nd hnd => ?_⟩
      have s3 := same_new (o := .lst []) hnd
      have nkg : kd ≠ gd := fun z => by rw [← z, upd_same] at hgd; cases hgd
      have nkn : kd ≠ nd := fun z => by rw [← z, s2 _ _ upd_same] at hnd; cases hnd
      have ngn : gd ≠ nd := fun z => by rw [← z, upd_same] at hnd; cases hnd
      have fk : H kd = none := hkd
      have fg : H gd = none := s1.free hgd
      have fn : H nd = none := (s1.trans s2).free hnd
      refine ⟨_, rfl, _, rfl, by omega, by omega, for_range (lo := 0) (n := (nn : Int).toNat) (fun i σ H' => ∃ (v6 v7 v8 v9 : Option V) (news : List Change) (kvs' : List (Key × V)), σ = [some (.ref a.p), some (iv nn), some (.ref ld), some (.ref kd), some (.ref gd), some (.ref nd), v6, v7, v8, v9] ∧
          Same H H' ∧ H' kd = some (.dK kvs') ∧ Known H' kvs' (Tc.grow l news) ∧ H' gd = some (.lst (ivs (Tc.greats (Tc.grow l news)))) ∧ H' nd = some (.lst (ivs (Tc.nums news))) ∧ Tc.Steps l news ∧ news.length ≤ i ∧
          Sn04.learnAll l b nn = Sn04.learnAll (Tc.grow l news) (b.drop (16 * i)) (nn - i))
        ⟨none, none, none, none, [], kvs, rfl, (s1.trans s2).trans s3, s3 _ _ (s2 _ _ upd_same), k2.mono fun b xs e => s3 _ _ (s2 _ _ (s1 _ _ e)), s3 _ _ upd_same, upd_same, trivial, Nat.zero_le _, rfl⟩ ?_ ?_⟩
      · rintro i σ H' hi ⟨v6, v7, v8, v9, news, kvs', rfl, sm, hk', kn, hg', hn', st, nl, ela⟩
        have hi : i < nn := hi
        have ilb : (ivs b).length = b.length := List.length_map ..
        refine ⟨_, rfl, _, rfl, _, _, rfl, rfl, .inr ⟨by decide, by decide⟩, _, rfl, _, rfl, _, _, rfl, rfl, _, _, rfl, rfl, .inr ⟨by decide, by decide⟩, _, rfl, ld, _, rfl, SqL.of (sm _ _ hld), fun lr hlr => ?_⟩
        have e1 : (0 + (i : Int)) * 16 = ((16 * i : Nat) : Int) := by omega
        have e2 : (0 + (i : Int) + 1) * 16 = ((16 * i + 16 : Nat) : Int) := by omega
        rw [e1, e2, cut_mid (Nat.le_add_right _ _) (by rw [ilb]; omega), Nat.add_sub_cancel_left]
        have erow : ((ivs b).drop (16 * i)).take 16 = ivs ((b.drop (16 * i)).take 16) := by
          unfold ivs
          rw [List.map_take, List.map_drop]
        rw [erow]
        have hb255 : ∀ x ∈ (b.drop (16 * i)).take 16, x ≤ 255 := fun x hx => hby x (List.mem_of_mem_drop (List.mem_of_mem_take hx))
        have ela' : Sn04.learnAll l b nn = Sn04.learnAll (Tc.grow l news) (b.drop (16 * i)) ((nn - (i + 1)) + 1) := by
          rw [ela, show nn - i = (nn - (i + 1)) + 1 by omega]
        have edrop : (b.drop (16 * i)).drop 16 = b.drop (16 * (i + 1)) := by
          rw [List.drop_drop, show 16 * (i + 1) = 16 * i + 16 by omega]
        obtain ⟨r0, r1, r2, r3, r4, r5, r6, r7, r8, r9, r10, r11, r12, r13, r14, r15, er⟩ := Tc.sixteen (l := (b.drop (16 * i)).take 16) (by rw [List.length_take, List.length_drop]; omega)
        have hdec := Tc.decode_row r0 r1 r2 r3 r4 r5 r6 r7 r8 r9 r10 r11 r12 r13 r14 r15
        rw [← er] at hdec
        rw [er] at hb255
        rw [er]
        have m1 := same_new (o := .lst (ivs [r0, r1, r2, r3, r4, r5, r6, r7, r8, r9, r10, r11, r12, r13, r14, r15])) hlr
        refine ⟨_, rfl, lr, r0, r1, r2, r3, r4, r5, r6, r7, r8, r9, r10, r11, r12, r13, r14, r15, rfl, SqL.of upd_same, fun H2 m2 => ⟨_, rfl, iteN (fun h2 => ?_) (fun h2 => ?_)⟩⟩
        · refine ⟨(by show 1 ≤ sizeLine; decide), fun p hp => ?_⟩
          rw [if_neg h2] at hdec
          exact bad (by rw [ela', Tc.learnAll_bad hdec]) _ p ((sm.trans m1).trans m2) hp
        · rw [if_pos h2] at hdec
          refine ⟨_, rfl, lr, _, r0, r4, r5, r6, r7, rfl, SqL.of (m2 _ _ upd_same), rfl, rfl, rfl, rfl, rfl, ?_⟩
          refine ⟨_, rfl, lr, _, r1, r2, r8, r9, r10, r11, r12, rfl, SqL.of (m2 _ _ upd_same), rfl, rfl, rfl, rfl, rfl, rfl, rfl, fun t ht => ?_⟩
          obtain ⟨c, hc⟩ : ∃ c, c = Tc.rowCh r0 r1 r2 r4 r5 r6 r7 r8 r9 r10 r11 r12 := ⟨_, rfl⟩
          rw [← hc] at hdec
          have ek : Tc.kindN c = r1 := by
            rw [hc]
            exact Tc.row_kind (h2.1.imp id fun z => z.1) ..
          have en : (r4 + r5 * 256 + r6 * 65536 + r7 * 16777216) * 256 + r0 = Tc.num c.id := by rw [hc]; rfl
          have ech : [iv r1, iv r2, iv ((r8 + r9 * 256 + r10 * 65536 + r11 * 16777216) * 256 + r12)] = chV c := by
            unfold chV
            rw [ek, hc]
            rfl
          rw [en, ech]
          have z0 : r0 ≤ 255 := hb255 r0 (by simp)
          have z4 : r4 ≤ 255 := hb255 r4 (by simp)
          have z5 : r5 ≤ 255 := hb255 r5 (by simp)
          have z6 : r6 ≤ 255 := hb255 r6 (by simp)
          have z7 : r7 ≤ 255 := hb255 r7 (by simp)
          have z12 : r12 ≤ 255 := hb255 r12 (by simp)
          have cs : c.id.site ≤ 255 := by rw [hc]; exact z0
          have co : c.other.site ≤ 255 := by rw [hc]; exact z12
          have cc : c.id.count < 4294967296 := by
            rw [hc]
            show r4 + r5 * 256 + r6 * 65536 + r7 * 16777216 < 4294967296
            omega
          have m3 := same_new (o := .tup (chV c)) ht
          have mm : Same H' (upd H2 t (.tup (chV c))) := (m1.trans m2).trans m3
          have gd2 : Tc.Good (Tc.grow l news) := Tc.Steps.good cp.good st
          have kn2 : Known (upd H2 t (.tup (chV c))) kvs' (Tc.grow l news) := kn.mono fun b xs e => mm _ _ e
          have ela2 : Sn04.learnAll l b nn = (Sn04.learned (Tc.grow l news) c).bind fun m => Sn04.learnAll m (b.drop (16 * (i + 1))) (nn - (i + 1)) := by
            rw [ela', Tc.learnAll_step hdec, edrop]
          have lg := Tc.grow_length news l
          have lm := cp.most
          have klen := kn.len
          refine ⟨_, rfl, _, rfl, kd, _, rfl, DGet.k (k := kI (Tc.num c.id)) (mm _ _ hk'), _, rfl, ?_⟩
          rw [kn2.has]
          refine iteD (fun h3 => ?_) (fun h3 => ?_)
          · -- it is known
            obtain ⟨x, hx, ex, t', t1, t2⟩ := kn2.of h3
            have fx := gd2.wf.fit x hx
            refine ⟨_, rfl, _, rfl, kd, _, rfl, (by have := DGet.k (k := kI (Tc.num c.id)) (mm _ _ hk'); rw [t1] at this; exact this), _, rfl, .tuple [.int (Tc.kindN x), .int x.byte, .int (Tc.num x.other)], .tuple [.int (Tc.kindN c), .int c.byte, .int (Tc.num c.other)],
              .tup (SqT.of t2) (.cons (.int _) (.cons (.int _) (.cons (.int _) .nil))), .tup (SqT.of upd_same) (.cons (.int _) (.cons (.int _) (.cons (.int _) .nil))), shaped3T _ _ _, shaped3T _ _ _, _, rfl, ?_⟩
            have ef := Tc.find_old gd2.wf cs hx ex
            have eid : x.id = c.id := Tc.num_inj fx.site2 cs ex
            rw [eqv3T]
            by_cases hq : x = c
            · subst hq
              rw [beq_self_eq_true, beq_self_eq_true, beq_self_eq_true]
              refine iteF ?_
              refine ⟨_, _, _, _, news, kvs', rfl, sm.trans mm, mm _ _ hk', kn2, mm _ _ hg', mm _ _ hn', st, by omega, ?_⟩
              rw [ela2, Tc.learned_known ef, if_pos rfl]
              rfl
            · have e : (((Tc.kindN x : Int) == (Tc.kindN c : Int)) && (((x.byte : Int) == (c.byte : Int)) && (((Tc.num x.other : Int) == (Tc.num c.other : Int)) && true))) = false := by
                rw [Bool.eq_false_iff]
                intro z
                rw [Bool.and_eq_true, Bool.and_eq_true, Bool.and_eq_true, beq_iff_eq, beq_iff_eq, beq_iff_eq] at z
                exact hq (Tc.change_ext eid (by omega) (by omega) fx.osite co (by omega))
              rw [e]
              refine iteT ⟨(by show 1 ≤ sizeLine; decide), fun p hp => ?_⟩
              refine bad ?_ _ p (sm.trans mm) hp
              rw [ela2, Tc.learned_known ef, if_neg hq]
              rfl
          · -- it isn't
            have ef := Tc.find_new h3
            refine ⟨_, rfl, _, rfl, _, rfl, _, rfl, kd, gd, c, t, kvs', Tc.grow l news, rfl, mm _ _ hk', kn2, mm _ _ hg', upd_same, gd2.wf, cs, co, _, rfl, iteN (fun h4 => ?_) (fun h4 => ?_)⟩
            · have fit := Tc.fit_of h4 cs co cc
              have nw : Tc.New (Tc.grow l news) c := Tc.new_iff.mpr h3
              have gre := Tc.greats_new h4 cs
              refine ⟨_, rfl, _, rfl, _, rfl, kd, _, rfl, DPut.k (k := kI (Tc.num c.id)) (mm _ _ hk') (line16 (by omega)), ?_⟩
              refine ⟨_, rfl, _, rfl, _, rfl, _, rfl, _, rfl, gd, _, _, c.id.site, rfl, rfl, (upd_ne nkg.symm).trans (mm _ _ hg'), ?_, ?_⟩
              · rw [List.length_map, Tc.greats_length, Tc.num_mod cs]
                unfold ixN
                rw [if_pos (by omega), if_pos (by omega)]
                rfl
              · rw [Tc.num_div cs, ← ivs_set, ← gre, ← Tc.grow_snoc]
                have hn2 : upd (upd (upd H2 t (.tup (chV c))) kd (.dK (putK kvs' (kI (Tc.num c.id)) (.ref t)))) gd (.lst (ivs (Tc.greats (Tc.grow l (news ++ [c]))))) nd = some (.lst (ivs (Tc.nums news))) := (upd_ne ngn.symm).trans ((upd_ne nkn.symm).trans (mm _ _ hn'))
                refine ⟨_, rfl, .inl ⟨rfl, _, SqL.of hn2⟩, _, rfl, nd, _, _, rfl, rfl, hn2, line16 (by rw [List.length_map, Tc.nums_length]; omega), ?_⟩
                have kepT : ∀ b o, upd H2 t (.tup (chV c)) b = some o → b ≠ kd → b ≠ gd → b ≠ nd → upd (upd (upd (upd H2 t (.tup (chV c))) kd (.dK (putK kvs' (kI (Tc.num c.id)) (.ref t)))) gd (.lst (ivs (Tc.greats (Tc.grow l (news ++ [c])))))) nd (.lst (ivs (Tc.nums news) ++ [iv (Tc.num c.id)])) b = some o := fun b o e x1 x2 x3 => by
                  rw [upd_ne x3, upd_ne x2, upd_ne x1]
                  exact e
                have tup' : ∀ b xs, upd H2 t (.tup (chV c)) b = some (.tup xs) → upd (upd (upd (upd H2 t (.tup (chV c))) kd (.dK (putK kvs' (kI (Tc.num c.id)) (.ref t)))) gd (.lst (ivs (Tc.greats (Tc.grow l (news ++ [c])))))) nd (.lst (ivs (Tc.nums news) ++ [iv (Tc.num c.id)])) b = some (.tup xs) := fun b xs e =>
                  kepT b _ e (ne_of e (mm _ _ hk') (by intro z; cases z)) (ne_of e (mm _ _ hg') (by intro z; cases z)) (ne_of e (mm _ _ hn') (by intro z; cases z))
                refine ⟨_, _, _, _, news ++ [c], putK kvs' (kI (Tc.num c.id)) (.ref t), rfl, fun b o e => ?_, (upd_ne nkn).trans ((upd_ne nkg).trans upd_same), ?_, (upd_ne ngn).trans upd_same, ?_, Tc.steps_snoc st fit nw, by rw [List.length_append]; show news.length + 1 ≤ i + 1; omega, ?_⟩
                · exact kepT b o (mm _ _ (sm _ _ e)) (fun z => by rw [z, fk] at e; cases e) (fun z => by rw [z, fg] at e; cases e) (fun z => by rw [z, fn] at e; cases e)
                · have e5 := kn2.put nw tup' (tup' _ _ upd_same)
                  rw [← Tc.grow_snoc] at e5
                  exact e5
                · rw [upd_same]
                  unfold ivs Tc.nums
                  rw [List.map_append, List.map_append]
                  rfl
                · rw [ela2, Tc.learned_bars ef, if_neg h4, Tc.grow_snoc]
                  rfl
            · refine ⟨(by show 1 ≤ sizeLine; decide), fun p hp => ?_⟩
              refine bad ?_ _ p (sm.trans mm) hp
              rw [ela2, Tc.learned_bars ef, if_pos h4]
              rfl
      · rintro σ H' ⟨v6, v7, v8, v9, news, kvs', rfl, sm, hk', kn, hg', hn', st, nl, ela⟩
        have ela : Sn04.learnAll l b nn = some (Tc.grow l news) := by
          rw [ela, show nn - (nn : Int).toNat = 0 from Nat.sub_self nn]
          rfl
        rw [ela] at dn
        have lg := Tc.grow_length news l
        refine ⟨_, rfl, _, rfl, _, rfl, a, site, l, news, nd, kd, rfl, cp.same sm, hn', cp.free fn, st, fun _ => ⟨cp.free fk, kvs', hk', fun c hc => kn.at_ c (Tc.mem_grow.mpr (.inr hc))⟩, fun h2 => ?_, fun h2 => ?_⟩
        · have dn : Does C H a Q (if 16384 < (Tc.grow l news).length then (some ⟨site, l⟩, Sn04.says (-1)) else (some ⟨site, Tc.grow l news⟩, Sn04.says (Sn04.lengthOf (Tc.grow l news)))) := dn
          rw [if_pos (by omega)] at dn
          obtain ⟨y, ey, r⟩ := dn
          cases ey
          exact r.after sm
        · have dn : Does C H a Q (if 16384 < (Tc.grow l news).length then (some ⟨site, l⟩, Sn04.says (-1)) else (some ⟨site, Tc.grow l news⟩, Sn04.says (Sn04.lengthOf (Tc.grow l news)))) := dn
          rw [if_neg (by omega)] at dn
          obtain ⟨y, ey, r⟩ := dn
          cases ey
          have r' := r.after sm
          have er : [((Tc.shown (Tc.grow l news)).length : Int)] = ((Sn04.says (Sn04.lengthOf (Tc.grow l news))).value :: (Sn04.says (Sn04.lengthOf (Tc.grow l news))).out.map fun n : Nat => (n : Int)) := by
            show _ = [Sn04.lengthOf (Tc.grow l news)]
            rw [Tc.lengthOf_eq]
          rw [er]
          exact r'
    · have e : (decide (0 ≤ n) && decide (n ≤ 16384)) = false := by
        rw [Bool.and_eq_false_iff, decide_eq_false_iff_not, decide_eq_false_iff_not]
        omega
      rw [e]
      refine iteT ⟨(by show 1 ≤ sizeLine; decide), fun p hp => ?_⟩
      rw [if_pos (by omega)] at dn
      exact dn.back cp (Same.refl H) hp
end
end Tp
end
section
set_option Elab.async false
set_option linter.all false
set_option maxRecDepth 100000
set_option maxHeartbeats 2000000
namespace Tp
open PySem PySem.Spec PyProof.Rows L2
open Sn04 (Change)
section
variable {P : Program} {w : World} {K : PySem.W.Frag} {mg : Str → Option Value} {base : Heap} {C : Addr}
/-! ### join -/
def spJoin (C : Addr) : Sp := fun vs H Q _ => ∃ (a a2 : Ad) (site site2 : Nat) (l m : List Change), vs = [.ref a.p, .ref a2.p] ∧ CopyAt C H a site l (Tc.shown l) ∧ CopyAt C H a2 site2 m (Tc.shown m) ∧ (m = l ∨ ∀ b ∈ a2.foot, b ∉ a.foot) ∧
  Does C H a Q (Sn04.step (fun _ => some ⟨site2, m⟩) (some ⟨site, l⟩) (.join 0))
theorem step_join (site site2 : Nat) (l m : List Change) : Sn04.step (fun _ => some ⟨site2, m⟩) (some ⟨site, l⟩) (.join 0) = match Sn04.together l m with
    | none => (some ⟨site, l⟩, Sn04.says (-3))
    | some m => if Sn04.MOST < m.length then (some ⟨site, l⟩, Sn04.says (-1)) else (some ⟨site, m⟩, Sn04.says (Sn04.lengthOf m)) := rfl
theorem filter_self {l : List Change} (h : Tc.Srt l) : (l.filter fun c => (Sn04.find l c.id).isNone) = [] := by
  rw [List.filter_eq_nil_iff]
  intro c hc
  rw [Tc.find_mem h hc]
  exact Bool.false_ne_true
theorem sc43 : FnScope ["copy", "other", "numbers", "number"] ["copy", "other"] (defScope (top 43)) := ⟨rfl, rfl, rfl, by decide +kernel, rfl, by decide +kernel, by decide +kernel⟩
theorem ok_join (D : Def K mg "join_copy" (top 43) ["copy", "other"]) (T : Txt K mg C) (hA : Has P w K mg base 3 "keep_all" ["copy", "numbers", "changes"] (spKeepAll C)) : Has P w K mg base 4 "join_copy" ["copy", "other"] (spJoin C) := by
  refine D.has sc43 (fun vs H Q E h => ?_) (fun f cdv A outer s H vs Q E hr h => ?_)
  · obtain ⟨a, a2, site, site2, l, m, rfl, _⟩ := h
    rfl
  · obtain ⟨a, a2, site, site2, l, m, rfl, cp, cp2, ap, dn⟩ := h
    have hu := hu_of hr
    obtain ⟨kvs, k1, k2⟩ := cp.known
    obtain ⟨kvs2, j1, j2⟩ := cp2.known
    refine ⟨_, pss_cons (ps_set (i := 2) sc43.nd rfl (Or.inl rfl) (pe_lst pa_nil))
      (pss_cons (ps_for PassesOwn.never rfl (pi_list (pe_callB (cr_sortedD rfl) (by rfl) T.sorted PyProof.Rows.boot_sorted (pa_cons (pe_fld (pv 1) rfl) pa_nil))) (pg_name (i := 3) sc43.nd rfl (Or.inl rfl))
        (pss_one (ps_if (pt_cmp (pc_dnotin hu (pv 3) (pe_fld (pv 0) rfl))) (pss_one (ps_expr (pe_bm PySem.F.plainAttrs_list PySem.F.slot_list_append PySem.F.type_list_append mt_append (pv 2) (pa_cons (pv 3) pa_nil))))
          (pss_one (ps_if (pt_cmpR (op_neD (hu64 hr)) (pe_dget hu (pe_fld (pv 0) rfl) (pv 3) (fun _ _ => rfl)) (pe_dget hu (pe_fld (pv 1) rfl) (pv 3) (fun _ _ => rfl)) (nomark _)) (pss_one (ps_ret (pe_lst (pa_cons (pe_gi T.UNFIT) pa_nil)))) pss_nil)))))
      (pss_one (ps_ret (pe_fn hA hr (pa_cons (pv 0) (pa_cons (pv 2) (pa_cons (pe_fld (pv 1) rfl) pa_nil))))))), ?_⟩
    rw [step_join] at dn
    have eM' : Sn04.MOST = 16384 := rfl
    rw [eM'] at dn
    refine ⟨Nat.zero_le _, fun nd hnd => ?_⟩
    have s1 := same_new (o := .lst []) hnd
    refine ⟨_, rfl, a2.p, C, a2.dx, _, _, rfl, s1 _ _ cp2.ins, T.cl, T.nKnown, cf_known, a2.dk, kvs2, _, rfl, s1 _ _ j1, j2.sorted, fun ns' ps pn sn hps => ?_⟩
    rw [sorted_is cp2.good.wf.srt pn sn]
    have s2 := same_new (o := .lst (ivs (Tc.nums m))) hps
    have nps : nd ≠ ps := fun z => by rw [← z, upd_same] at hps; cases hps
    have fp : H ps = none := s1.free hps
    have lm := cp2.most
    have lenm : (ivs (Tc.nums m)).length = m.length := by rw [List.length_map, Tc.nums_length]
    refine ⟨ps, rfl, ⟨_, SqL.of upd_same⟩, for_list (K := K) (a := ps) (xs := ivs (Tc.nums m)) (fun i σ H' => ∃ v : Option V, σ = [some (.ref a.p), some (.ref a2.p), some (.ref nd), v] ∧ Same H H' ∧ H' ps = some (.lst (ivs (Tc.nums m))) ∧
        H' nd = some (.lst (ivs (Tc.nums ((m.take i).filter fun c => (Sn04.find l c.id).isNone)))) ∧ ∀ c ∈ m.take i, ∀ x, Sn04.find l c.id = some x → x = c)
      ⟨none, rfl, s1.trans s2, upd_same, s2 _ _ upd_same, fun c hc => by simp at hc⟩ (fun i σ H' _ ⟨_, _, _, hp', _, _⟩ => SqL.of hp') ?_ ?_⟩
    · rintro i y σ H' hi ⟨v, rfl, sm, hp', hn', same⟩
      obtain ⟨n, hn, rfl⟩ := ivs_get hi
      obtain ⟨c, hc, rfl⟩ := nums_get hn
      have cm := List.mem_of_getElem? hc
      have fc := cp2.good.wf.fit c cm
      have ilt : i < m.length := (List.getElem?_eq_some_iff.mp hc).1
      have kn : Known H' kvs l := k2.mono fun b xs e => sm _ _ e
      have jn : Known H' kvs2 m := j2.mono fun b xs e => sm _ _ e
      refine ⟨_, rfl, _, rfl, a.p, C, a.dx, _, _, rfl, sm _ _ cp.ins, T.cl, T.nKnown, cf_known, a.dk, _, rfl, DGet.k (k := kI (Tc.num c.id)) (sm _ _ k1), _, rfl, ?_⟩
      rw [kn.has]
      refine iteN (fun h1 => ?_) (fun h1 => ?_)
      · have ef := Tc.find_new h1
        refine ⟨_, rfl, .inl ⟨rfl, _, SqL.of hn'⟩, _, rfl, nd, _, _, rfl, rfl, hn', line16 ?_, ?_⟩
        · rw [List.length_map, Tc.nums_length]
          refine Nat.le_trans (List.length_filter_le ..) ?_
          rw [List.length_take]
          omega
        · refine ⟨_, rfl, fun b o e => ?_, (upd_ne nps.symm).trans hp', ?_, fun x hx z hz => ?_⟩
          · rw [upd_ne (fun z => by rw [z, hnd] at e; cases e)]
            exact sm _ _ e
          · rw [upd_same, take_snoc hc, List.filter_append, List.filter_cons, if_pos (by rw [ef]; rfl), List.filter_nil]
            unfold ivs Tc.nums
            rw [List.map_append, List.map_append]
            rfl
          · rw [take_snoc hc] at hx
            rcases List.mem_append.mp hx with hx | hx
            · exact same x hx z hz
            · rw [List.mem_singleton.mp hx, ef] at hz
              cases hz
      · obtain ⟨x, hx, ex, t, t1, t2⟩ := kn.of h1
        obtain ⟨t', t3, t4⟩ := jn.at_ c cm
        have fx := cp.good.wf.fit x hx
        refine ⟨_, rfl, a.p, C, a.dx, _, _, rfl, sm _ _ cp.ins, T.cl, T.nKnown, cf_known, _, rfl, a.dk, _, rfl, (by have := DGet.k (k := kI (Tc.num c.id)) (sm _ _ k1); rw [t1] at this; exact this), ?_⟩
        refine ⟨_, rfl, a2.p, C, a2.dx, _, _, rfl, sm _ _ cp2.ins, T.cl, T.nKnown, cf_known, _, rfl, a2.dk, _, rfl, (by have := DGet.k (k := kI (Tc.num c.id)) (sm _ _ j1); rw [t3] at this; exact this), ?_⟩
        refine ⟨.tuple [.int (Tc.kindN x), .int x.byte, .int (Tc.num x.other)], .tuple [.int (Tc.kindN c), .int c.byte, .int (Tc.num c.other)],
              .tup (SqT.of t2) (.cons (.int _) (.cons (.int _) (.cons (.int _) .nil))), .tup (SqT.of t4) (.cons (.int _) (.cons (.int _) (.cons (.int _) .nil))), shaped3T _ _ _, shaped3T _ _ _, _, rfl, ?_⟩
        have ef := Tc.find_old cp.good.wf fc.site2 hx ex
        have eid : x.id = c.id := Tc.num_inj fx.site2 fc.site2 ex
        rw [eqv3T]
        by_cases hq : x = c
        · subst hq
          rw [beq_self_eq_true, beq_self_eq_true, beq_self_eq_true]
          refine iteF ?_
          refine ⟨_, rfl, sm, hp', ?_, fun y hy z hz => ?_⟩
          · rw [hn', take_snoc hc, List.filter_append, List.filter_cons, if_neg (by rw [ef]; exact Bool.false_ne_true), List.filter_nil, List.append_nil]
          · rw [take_snoc hc] at hy
            rcases List.mem_append.mp hy with hy | hy
            · exact same y hy z hz
            · rw [List.mem_singleton.mp hy] at hz ⊢
              rw [ef] at hz
              exact (Option.some.inj hz).symm
        · have e : (((Tc.kindN x : Int) == (Tc.kindN c : Int)) && (((x.byte : Int) == (c.byte : Int)) && (((Tc.num x.other : Int) == (Tc.num c.other : Int)) && true))) = false := by
            rw [Bool.eq_false_iff]
            intro z
            rw [Bool.and_eq_true, Bool.and_eq_true, Bool.and_eq_true, beq_iff_eq, beq_iff_eq, beq_iff_eq] at z
            exact hq (Tc.change_ext eid (by omega) (by omega) fx.osite fc.osite (by omega))
          rw [e]
          refine iteT ⟨(by show 1 ≤ sizeLine; decide), fun p hp => ?_⟩
          rw [Tc.together_bad cm ef hq] at dn
          exact dn.back cp sm hp
    · rintro σ H' ⟨v, rfl, sm, hp', hn', same⟩
      rw [lenm, List.take_length] at hn' same
      rw [Tc.together_good same] at dn
      have st := Tc.join_steps cp.good.wf cp2.good.wf same m [] rfl
      have st : Tc.Steps l (m.filter fun c => (Sn04.find l c.id).isNone) := st
      generalize hnews : (m.filter fun c => (Sn04.find l c.id).isNone) = news at *
      have lg := Tc.grow_length news l
      have sub : ∀ c ∈ news, c ∈ m := fun c hc => by rw [← hnews] at hc; exact (List.mem_filter.mp hc).1
      refine ⟨_, rfl, _, rfl, _, rfl, a2.p, C, a2.dx, _, _, rfl, sm _ _ cp2.ins, T.cl, T.nKnown, cf_known, a, site, l, news, nd, a2.dk, rfl, cp.same sm, hn', cp.free hnd, st, fun ne => ?_, fun h2 => ?_, fun h2 => ?_⟩
      · refine ⟨?_, kvs2, sm _ _ j1, fun c hc => ?_⟩
        · rcases ap with e | e
          · exfalso
            apply ne
            rw [← hnews, e]
            exact filter_self cp.good.wf.srt
          · exact e _ (mem_foot.mpr (.inr (.inl rfl)))
        · obtain ⟨t, t1, t2⟩ := j2.at_ c (sub c hc)
          exact ⟨t, t1, sm _ _ t2⟩
      · have dn : Does C H a Q (if 16384 < (Tc.grow l news).length then (some ⟨site, l⟩, Sn04.says (-1)) else (some ⟨site, Tc.grow l news⟩, Sn04.says (Sn04.lengthOf (Tc.grow l news)))) := dn
        rw [if_pos (by omega)] at dn
        obtain ⟨y, ey, r⟩ := dn
        cases ey
        exact r.after sm
      · have dn : Does C H a Q (if 16384 < (Tc.grow l news).length then (some ⟨site, l⟩, Sn04.says (-1)) else (some ⟨site, Tc.grow l news⟩, Sn04.says (Sn04.lengthOf (Tc.grow l news)))) := dn
        rw [if_neg (by omega)] at dn
        obtain ⟨y, ey, r⟩ := dn
        cases ey
        have r' := r.after sm
        have er : [((Tc.shown (Tc.grow l news)).length : Int)] = ((Sn04.says (Sn04.lengthOf (Tc.grow l news))).value :: (Sn04.says (Sn04.lengthOf (Tc.grow l news))).out.map fun n : Nat => (n : Int)) := by
          show _ = [Sn04.lengthOf (Tc.grow l news)]
          rw [Tc.lengthOf_eq]
        rw [er]
        exact r'
end
end Tp
end
section
set_option Elab.async false
set_option linter.all false
set_option maxRecDepth 100000
set_option maxHeartbeats 2000000
namespace Tp
open PySem PySem.Spec PyProof.Rows L2
open Sn04 (Change)
/-! ### two copies -/
abbrev vOf : Option Ad → V
  | none => .non
  | some a => .ref a.p
def footO : Option Ad → List Addr
  | none => []
  | some a => a.foot
def StAt (C : Addr) (H : Hp) : Option Ad → Sn04.St → Prop
  | none, none => True
  | some a, some x => CopyAt C H a x.site x.known (Tc.shown x.known)
  | none, some _ => False
  | some _, none => False
abbrev the := Sn04Neutral.the
structure Two (C : Addr) (H : Hp) (lc : Addr) (o : Nat → Option Ad) (S : Sn04Neutral.S) : Prop where
  lst : H lc = some (.lst [vOf (o 0), vOf (o 1)])
  c0 : StAt C H (o 0) S.1
  c1 : StAt C H (o 1) S.2
  apart : ∀ b ∈ footO (o 0), b ∉ footO (o 1)
  n0 : lc ∉ footO (o 0)
  n1 : lc ∉ footO (o 1)
structure Frm (lc : Addr) (o : Nat → Option Ad) (H : Hp) (o' : Nat → Option Ad) (H' : Hp) : Prop where
  on : ∀ b u, H b = some u → b ∉ footO (o 0) → b ∉ footO (o 1) → b ≠ lc → H' b = some u
  m0 : ∀ b ∈ footO (o' 0), b ∈ footO (o 0) ∨ H b = none
  m1 : ∀ b ∈ footO (o' 1), b ∈ footO (o 1) ∨ H b = none
def putO (o : Nat → Option Ad) (j : Nat) (a : Ad) : Nat → Option Ad := fun i => if i = j then some a else o i
def putS (S : Sn04Neutral.S) (j : Nat) (s : Sn04.St) : Sn04Neutral.S := if j = 0 then (s, S.2) else (S.1, s)
section
variable {C : Addr} {H H' : Hp} {lc : Addr} {o : Nat → Option Ad} {S : Sn04Neutral.S}
theorem StAt.stay {q : Option Ad} {s : Sn04.St} (h : StAt C H q s) (k : ∀ b ∈ footO q, ∀ u, H b = some u → H' b = some u) (kt : ∀ b xs, H b = some (.tup xs) → H' b = some (.tup xs)) : StAt C H' q s := by
  match q, s, h with
  | none, none, _ => trivial
  | some a, some x, h => exact CopyAt.stay (show CopyAt C H a x.site x.known (Tc.shown x.known) from h) k kt
theorem StAt.free {q : Option Ad} {s : Sn04.St} (h : StAt C H q s) {b : Addr} (e : H b = none) : b ∉ footO q := by
  match q, s, h with
  | none, none, _ => exact fun z => by cases z
  | some a, some x, h => exact CopyAt.free (show CopyAt C H a x.site x.known (Tc.shown x.known) from h) e
theorem StAt.tup {q : Option Ad} {s : Sn04.St} (h : StAt C H q s) {b : Addr} {xs : List V} (e : H b = some (.tup xs)) : b ∉ footO q := by
  match q, s, h with
  | none, none, _ => exact fun z => by cases z
  | some a, some x, h => exact CopyAt.tup (show CopyAt C H a x.site x.known (Tc.shown x.known) from h) e
theorem Two.same (t : Two C H lc o S) (s : Same H H') : Two C H' lc o S :=
  ⟨s _ _ t.lst, t.c0.stay (fun b _ u e => s b u e) (fun b xs e => s b _ e), t.c1.stay (fun b _ u e => s b u e) (fun b xs e => s b _ e), t.apart, t.n0, t.n1⟩
theorem Frm.refl (s : Same H H') : Frm lc o H o H' := ⟨fun b u e _ _ _ => s b u e, fun b h => .inl h, fun b h => .inl h⟩
theorem Two.at (t : Two C H lc o S) {j : Nat} (hj : j = 0 ∨ j = 1) {x : Sn04.Copy} (hx : the S j = some x) : ∃ a, o j = some a ∧ CopyAt C H a x.site x.known (Tc.shown x.known) := by
  rcases hj with rfl | rfl
  · have h := t.c0
    have e : S.1 = some x := hx
    rw [e] at h
    cases q : o 0 with
    | none => rw [q] at h; exact h.elim
    | some a => rw [q] at h; exact ⟨a, rfl, h⟩
  · have h := t.c1
    have e : S.2 = some x := hx
    rw [e] at h
    cases q : o 1 with
    | none => rw [q] at h; exact h.elim
    | some a => rw [q] at h; exact ⟨a, rfl, h⟩
theorem Two.get (t : Two C H lc o S) {j : Nat} (hj : j = 0 ∨ j = 1) : ([vOf (o 0), vOf (o 1)] : List V)[j]? = some (vOf (o j)) := by
  rcases hj with rfl | rfl <;> rfl
theorem Two.foots (t : Two C H lc o S) {i j : Nat} (hi : i = 0 ∨ i = 1) (hj : j = 0 ∨ j = 1) (ne : i ≠ j) {a b : Ad} (ha : o i = some a) (hb : o j = some b) : ∀ z ∈ b.foot, z ∉ a.foot := by
  have h := t.apart
  rcases hi with rfl | rfl <;> rcases hj with rfl | rfl
  · exact absurd rfl ne
  · rw [ha, hb] at h
    exact fun z h1 h2 => h z h2 h1
  · rw [ha, hb] at h
    exact fun z h1 h2 => h z h1 h2
  · exact absurd rfl ne
theorem Two.after (t : Two C H lc o S) {j : Nat} (hj : j = 0 ∨ j = 1) {a a' : Ad} {y : Sn04.Copy} (ho : o j = some a) (cp' : CopyAt C H' a' y.site y.known (Tc.shown y.known)) (mv : Moved a H a') (kp : Keeps a H H') :
    Two C H' lc (putO o j a') (putS S j (some y)) ∧ Frm lc o H (putO o j a') H' := by
  rcases hj with rfl | rfl
  · have f0 : footO (o 0) = a.foot := by rw [ho]; rfl
    have e1 : putO o 0 a' 1 = o 1 := rfl
    have tk : ∀ b xs, H b = some (.tup xs) → H' b = some (.tup xs) := fun b xs e => kp.on b _ e (by rw [← f0]; exact t.c0.tup e)
    refine ⟨⟨?_, cp', ?_, fun b hb => ?_, fun q => ?_, t.n1⟩, fun b u e h1 _ _ => kp.on b u e (by rw [← f0]; exact h1), fun b hb => ?_, fun b hb => .inl hb⟩
    · have e := kp.on _ _ t.lst (by rw [← f0]; exact t.n0)
      rw [ho] at e
      show H' lc = some (.lst [V.ref a'.p, vOf (o 1)])
      rw [mv.p]
      exact e
    · exact t.c1.stay (fun b hb u e => kp.on b u e (fun z => t.apart b (by rw [f0]; exact z) hb)) tk
    · rcases mv.foot b hb with q | q
      · exact t.apart b (by rw [f0]; exact q)
      · exact t.c1.free q
    · rcases mv.foot lc q with z | z
      · exact t.n0 (by rw [f0]; exact z)
      · rw [t.lst] at z
        cases z
    · rw [f0]
      exact mv.foot b hb
  · have f0 : footO (o 1) = a.foot := by rw [ho]; rfl
    have tk : ∀ b xs, H b = some (.tup xs) → H' b = some (.tup xs) := fun b xs e => kp.on b _ e (by rw [← f0]; exact t.c1.tup e)
    refine ⟨⟨?_, ?_, cp', fun b hb q => ?_, t.n0, fun q => ?_⟩, fun b u e _ h1 _ => kp.on b u e (by rw [← f0]; exact h1), fun b hb => .inl hb, fun b hb => ?_⟩
    · have e := kp.on _ _ t.lst (by rw [← f0]; exact t.n1)
      rw [ho] at e
      show H' lc = some (.lst [vOf (o 0), V.ref a'.p])
      rw [mv.p]
      exact e
    · exact t.c0.stay (fun b hb u e => kp.on b u e (fun z => t.apart b hb (by rw [f0]; exact z))) tk
    · rcases mv.foot b q with z | z
      · exact t.apart b hb (by rw [f0]; exact z)
      · exact t.c0.free z hb
    · rcases mv.foot lc q with z | z
      · exact t.n1 (by rw [f0]; exact z)
      · rw [t.lst] at z
        cases z
    · rw [f0]
      exact mv.foot b hb
theorem Two.opened (t : Two C H lc o S) {j : Nat} (hj : j = 0 ∨ j = 1) {a : Ad} {site : Nat} (cp : CopyAt C H' a site [] []) (fr : ∀ b ∈ a.foot, H b = none) (hl : H' lc = some (.lst (([vOf (o 0), vOf (o 1)] : List V).set j (.ref a.p)))) (kp : ∀ b u, H b = some u → b ≠ lc → H' b = some u) :
    Two C H' lc (putO o j a) (putS S j (some ⟨site, []⟩)) ∧ Frm lc o H (putO o j a) H' := by
  have lna : lc ∉ a.foot := fun q => by
    have := fr lc q
    rw [t.lst] at this
    cases this
  have tk : ∀ b xs, H b = some (.tup xs) → H' b = some (.tup xs) := fun b xs e => kp b _ e (ne_of e t.lst (by intro z; cases z))
  rcases hj with rfl | rfl
  · refine ⟨⟨hl, cp, t.c1.stay (fun b hb u e => kp b u e (fun z => t.n1 (by rw [← z]; exact hb))) tk, fun b hb => t.c1.free (fr b hb), lna, t.n1⟩, fun b u e _ _ nb => kp b u e nb, fun b hb => .inr (fr b hb), fun b hb => .inl hb⟩
  · refine ⟨⟨hl, t.c0.stay (fun b hb u e => kp b u e (fun z => t.n0 (by rw [← z]; exact hb))) tk, cp, fun b hb q => t.c0.free (fr b q) hb, t.n0, lna⟩, fun b u e _ _ nb => kp b u e nb, fun b hb => .inl hb, fun b hb => .inr (fr b hb)⟩
end
theorem step_some (others : Nat → Sn04.St) (x : Sn04.Copy) (c : Sn04.Call) : ∃ y, (Sn04.step others (some x) c).1 = some y := by
  cases c with
  | open_ s =>
    show ∃ y, (if s < 1 ∨ 255 < s then ((some x : Sn04.St), Sn04.says (-2)) else (some ⟨s.toNat, []⟩, Sn04.says 0)).1 = some y
    split <;> exact ⟨_, rfl⟩
  | put a b k =>
    unfold Sn04.step Sn04.grown
    dsimp only
    repeat' split
    all_goals exact ⟨_, rfl⟩
  | take a k =>
    unfold Sn04.step Sn04.grown
    dsimp only
    repeat' split
    all_goals exact ⟨_, rfl⟩
  | text a k =>
    unfold Sn04.step
    dsimp only
    repeat' split
    all_goals exact ⟨_, rfl⟩
  | length => exact ⟨_, rfl⟩
  | id a =>
    unfold Sn04.step
    dsimp only
    repeat' split
    all_goals exact ⟨_, rfl⟩
  | place a b => exact ⟨_, rfl⟩
  | seen => exact ⟨_, rfl⟩
  | news a b =>
    unfold Sn04.step
    dsimp only
    repeat' split
    all_goals exact ⟨_, rfl⟩
  | learn a b =>
    unfold Sn04.step
    dsimp only
    repeat' split
    all_goals exact ⟨_, rfl⟩
  | join j =>
    unfold Sn04.step
    dsimp only
    repeat' split
    all_goals exact ⟨_, rfl⟩
theorem nstep {S : Sn04Neutral.S} {c : Sn04Neutral.Call} {x : Sn04.Call} {j : Nat} (h1 : Sn04Neutral.callOf c = some x) (h2 : Sn04Neutral.copyOf c = (j : Int)) :
    Sn04Neutral.step S c = (putS S j (Sn04.step (the S) (the S j) x).1, (Sn04.step (the S) (the S j) x).2.value :: (Sn04.step (the S) (the S j) x).2.out.map fun (n : Nat) => (n : Int)) := by
  unfold Sn04Neutral.step putS
  rw [h1, h2]
  show (if (j : Int) = 0 then _ else _, _) = _
  rw [show (j : Int).toNat = j from rfl]
  by_cases e : j = 0
  · rw [if_pos e, if_pos (by omega)]
  · rw [if_neg e, if_neg (by omega)]
/-- what a call is to reach -/
def Ends (H : Hp) (lc : Addr) (o : Nat → Option Ad) (C : Addr) (Q : VK) (r : Sn04Neutral.S × List Int) : Prop := ∀ (H' : Hp) (o' : Nat → Option Ad) (p : Addr), Two C H' lc o' r.1 → Frm lc o H o' H' → H p = none → H' p = some (.lst (r.2.map V.int)) → Q (.ref p) H'
theorem call_does {C : Addr} {H : Hp} {lc : Addr} {o : Nat → Option Ad} {S : Sn04Neutral.S} {j : Nat} {a : Ad} {x : Sn04.Copy} {c : Sn04Neutral.Call} {call : Sn04.Call} {r : Sn04.St × Sn04.Ans} {Q : VK} (k : Ends H lc o C Q (Sn04Neutral.step S c)) (t : Two C H lc o S) (hj : j = 0 ∨ j = 1) (ho : o j = some a) (hx : the S j = some x)
    (h1 : Sn04Neutral.callOf c = some call) (h2 : Sn04Neutral.copyOf c = (j : Int)) (hs : Sn04.step (the S) (some x) call = r) : Does C H a Q r := by
  rw [nstep h1 h2, hx, hs] at k
  obtain ⟨y, ey⟩ := step_some (the S) x call
  rw [hs] at ey
  refine ⟨y, ey, fun H' a' p cp mv kp hp hp' => ?_⟩
  obtain ⟨t', f'⟩ := t.after hj ho cp mv kp
  exact k H' _ p (by rw [ey]; exact t') f' hp hp'
theorem wn {i j : Int} (h : i ≠ j) {A B : Prop} (hB : B) : if decide (V.int i = V.int j) = true then A else B := by
  rw [if_neg]
  · exact hB
  · rw [decide_eq_true_eq]
    intro e
    exact h (V.int.inj e)
theorem wy {i : Int} {A B : Prop} (hA : A) : if decide (V.int i = V.int i) = true then A else B := by
  rw [if_pos (decide_eq_true rfl)]
  exact hA
theorem ints_nats {bs : List Int} (h : ∀ x ∈ bs, 0 ≤ x) : bs.map V.int = ivs (Sn04Neutral.nats bs) := by
  unfold ivs Sn04Neutral.nats
  rw [List.map_map]
  refine List.map_congr_left fun x hx => ?_
  have := h x hx
  show V.int x = V.int ((x.toNat : Nat) : Int)
  rw [Int.toNat_of_nonneg this]
theorem nats_length (bs : List Int) : (Sn04Neutral.nats bs).length = bs.length := List.length_map ..
theorem nats_byte {bs : List Int} (h : ∀ x ∈ bs, 0 ≤ x ∧ x ≤ 255) : ∀ x ∈ Sn04Neutral.nats bs, x ≤ 255 := fun x hx => by
  obtain ⟨z, hz, rfl⟩ := List.mem_map.mp hx
  have := h z hz
  omega
/-! ### the forms of a call -/
inductive Form (c : Sn04Neutral.Call) : Prop
  | f0 (j : Nat) (s : Int) : (j = 0 ∨ j = 1) → c = [[(j : Int), 0, s]] → Form c
  | f1 (j : Nat) (a k : Int) (b : List Int) : (j = 0 ∨ j = 1) → c = [[(j : Int), 1, a, k], b] → (0 ≤ k ∧ k ≤ 16384 → (b.length : Int) = k) → (∀ x ∈ b, 0 ≤ x ∧ x ≤ 255) → Form c
  | f2 (j : Nat) (a k : Int) : (j = 0 ∨ j = 1) → c = [[(j : Int), 2, a, k]] → Form c
  | f3 (j : Nat) (a k : Int) : (j = 0 ∨ j = 1) → c = [[(j : Int), 3, a, k]] → Form c
  | f4 (j : Nat) : (j = 0 ∨ j = 1) → c = [[(j : Int), 4]] → Form c
  | f5 (j : Nat) (a : Int) : (j = 0 ∨ j = 1) → c = [[(j : Int), 5, a]] → Form c
  | f6 (j n s : Nat) : (j = 0 ∨ j = 1) → c = [[(j : Int), 6, (n : Int), (s : Int)]] → Form c
  | f7 (j : Nat) : (j = 0 ∨ j = 1) → c = [[(j : Int), 7]] → Form c
  | f8 (j : Nat) (r : Int) (b : List Int) : (j = 0 ∨ j = 1) → c = [[(j : Int), 8, r], b] → b.length = 256 → (∀ x ∈ b, 0 ≤ x) → Form c
  | f9 (j : Nat) (n : Int) (b : List Int) : (j = 0 ∨ j = 1) → c = [[(j : Int), 9, n], b] → (0 ≤ n ∧ n ≤ 16384 → (b.length : Int) = 16 * n) → (∀ x ∈ b, 0 ≤ x ∧ x ≤ 255) → Form c
  | f10 (j i : Nat) : (j = 0 ∨ j = 1) → (i = 0 ∨ i = 1) → c = [[(j : Int), 10, (i : Int)]] → Form c
theorem which_of {c : Int} (h : NeutralIO.within c 0 1 = true) : ∃ j : Nat, (j = 0 ∨ j = 1) ∧ c = (j : Int) := by
  unfold NeutralIO.within at h
  rw [Bool.and_eq_true, decide_eq_true_eq, decide_eq_true_eq] at h
  exact ⟨c.toNat, by omega, by omega⟩
theorem bytes_of {b : List Int} (h : NeutralIO.bytes b = true) : ∀ x ∈ b, 0 ≤ x ∧ x ≤ 255 := fun x hx => by
  have := List.all_eq_true.mp h x hx
  rw [Bool.and_eq_true, decide_eq_true_eq, decide_eq_true_eq] at this
  exact this
theorem nat_of {z : Int} {k : Nat} (h : Sn04Neutral.natural z k = true) : 0 ≤ z := by
  unfold Sn04Neutral.natural at h
  rw [Bool.and_eq_true, decide_eq_true_eq] at h
  exact h.1
theorem long_of {l : List Int} {k n : Int} (h : Sn04Neutral.long l k n 0 16384 = true) : 0 ≤ n ∧ n ≤ 16384 → (l.length : Int) = k := fun q => by
  unfold Sn04Neutral.long at h
  rw [decide_eq_true_eq, if_pos q] at h
  exact h
theorem form_of {c : Sn04Neutral.Call} (h : Sn04Neutral.asked1 c = true) : Form c := by
  unfold Sn04Neutral.asked1 at h
  split at h
  · rw [Bool.and_eq_true] at h
    obtain ⟨j, hj, rfl⟩ := which_of h.1
    exact .f0 j _ hj rfl
  · rw [Bool.and_eq_true, Bool.and_eq_true, Bool.and_eq_true, Bool.and_eq_true] at h
    obtain ⟨j, hj, rfl⟩ := which_of h.1
    exact .f1 j _ _ _ hj rfl (long_of h.2.2.2.1) (bytes_of h.2.2.2.2)
  · rw [Bool.and_eq_true] at h
    obtain ⟨j, hj, rfl⟩ := which_of h.1
    exact .f2 j _ _ hj rfl
  · rw [Bool.and_eq_true] at h
    obtain ⟨j, hj, rfl⟩ := which_of h.1
    exact .f3 j _ _ hj rfl
  · obtain ⟨j, hj, rfl⟩ := which_of h
    exact .f4 j hj rfl
  · rw [Bool.and_eq_true] at h
    obtain ⟨j, hj, rfl⟩ := which_of h.1
    exact .f5 j _ hj rfl
  · rename_i n s
    rw [Bool.and_eq_true, Bool.and_eq_true] at h
    obtain ⟨j, hj, rfl⟩ := which_of h.1
    have h1 := nat_of h.2.1
    have h2 := nat_of h.2.2
    exact .f6 j n.toNat s.toNat hj (by rw [Int.toNat_of_nonneg h1, Int.toNat_of_nonneg h2])
  · obtain ⟨j, hj, rfl⟩ := which_of h
    exact .f7 j hj rfl
  · rw [Bool.and_eq_true, Bool.and_eq_true, Bool.and_eq_true] at h
    obtain ⟨j, hj, rfl⟩ := which_of h.1
    exact .f8 j _ _ hj rfl (eq_of_beq h.2.2.1) fun x hx => nat_of (List.all_eq_true.mp h.2.2.2 x hx)
  · rw [Bool.and_eq_true, Bool.and_eq_true, Bool.and_eq_true] at h
    obtain ⟨j, hj, rfl⟩ := which_of h.1
    exact .f9 j _ _ hj rfl (long_of h.2.2.1) (bytes_of h.2.2.2)
  · rw [Bool.and_eq_true] at h
    obtain ⟨j, hj, rfl⟩ := which_of h.1
    obtain ⟨i, hi, rfl⟩ := which_of h.2
    exact .f10 j i hj hi rfl
  · cases h
end Tp
end
section
set_option Elab.async false
set_option linter.all false
set_option maxRecDepth 100000
set_option maxHeartbeats 4000000
namespace Tp
open PySem PySem.Spec PyProof.Rows L2
open Sn04 (Change)
section
variable {P : Program} {w : World} {K : PySem.W.Frag} {mg : Str → Option Value} {base : Heap} {C : Addr}
/-! ### one call -/
def spCall (C : Addr) : Sp := fun vs H Q _ => ∃ (lc ln ld : Addr) (o : Nat → Option Ad) (S : Sn04Neutral.S) (wh : Int) (ns : List Int) (xs : List (List Int)), vs = [.ref lc, .int wh, .ref ln, .ref ld] ∧ Two C H lc o S ∧ H ln = some (.lst (ns.map V.int)) ∧ H ld = some (.lst ((xs.headD []).map V.int)) ∧
  ld ∉ footO (o 0) ∧ ld ∉ footO (o 1) ∧ Form ((wh :: ns) :: xs) ∧ Sn04Neutral.there S ((wh :: ns) :: xs) = true ∧ Ends H lc o C Q (Sn04Neutral.step S ((wh :: ns) :: xs))
theorem sc44 : FnScope ["copies", "which", "numbers", "data", "what", "copy"] ["copies", "which", "numbers", "data"] (defScope (top 44)) := ⟨rfl, rfl, rfl, by decide +kernel, rfl, by decide +kernel, by decide +kernel⟩
theorem some_of {S : Sn04Neutral.S} {j : Nat} (h : (Sn04Neutral.the S ((j : Int)).toNat).isSome = true) : ∃ x, the S j = some x := by
  rw [show ((j : Int)).toNat = j from rfl] at h
  exact Option.isSome_iff_exists.mp h
theorem foot_out {o : Nat → Option Ad} {j : Nat} (hj : j = 0 ∨ j = 1) {a : Ad} (ho : o j = some a) {b : Addr} (h0 : b ∉ footO (o 0)) (h1 : b ∉ footO (o 1)) : b ∉ a.foot := by
  rcases hj with rfl | rfl
  · rw [ho] at h0
    exact h0
  · rw [ho] at h1
    exact h1
theorem ok_call (D : Def K mg "answer_call" (top 44) ["copies", "which", "numbers", "data"]) (T : Txt K mg C)
    (h0 : Has P w K mg base 3 "open_copy" ["copies", "which", "site"] (spOpen C)) (h1 : Has P w K mg base 3 "put_bytes" ["copy", "at", "k", "data"] (spPut C)) (h2 : Has P w K mg base 3 "take_bytes" ["copy", "at", "k"] (spTake C)) (h3 : Has P w K mg base 2 "tell_text" ["copy", "start", "k"] (spText C))
    (h5 : Has P w K mg base 2 "tell_number" ["copy", "at"] (spId C)) (h6 : Has P w K mg base 2 "tell_place" ["copy", "count", "site"] (spPlace C)) (h7 : Has P w K mg base 1 "tell_seen" ["copy"] (spSeen C)) (h8 : Has P w K mg base 3 "tell_news" ["copy", "room", "seen"] (spNews C))
    (h9 : Has P w K mg base 4 "learn_changes" ["copy", "n", "data"] (spLearn C)) (h10 : Has P w K mg base 4 "join_copy" ["copy", "other"] (spJoin C)) : Has P w K mg base 5 "answer_call" ["copies", "which", "numbers", "data"] (spCall C) := by
  refine D.has sc44 (fun vs H Q E h => ?_) (fun f cdv A outer s H vs Q E hr h => ?_)
  · obtain ⟨lc, ln, ld, o, S, wh, ns, xs, rfl, _⟩ := h
    rfl
  · obtain ⟨lc, ln, ld, o, S, wh, ns, xs, rfl, t, hn, hd, d0, d1, fm, th, k⟩ := h
    have hr1 : Room 1 _ := hr.mono (by decide)
    have hr2 : Room 2 _ := hr.mono (by decide)
    have hr3 : Room 3 _ := hr.mono (by decide)
    refine ⟨_, pss_cons (ps_set (i := 4) sc44.nd rfl (Or.inl rfl) (pe_ix ix_list (pv 2) pe_int (fun _ _ => rfl)))
      (pss_cons (ps_set (i := 5) sc44.nd rfl (Or.inl rfl) (pe_ix ix_list (pv 0) (pv 1) (fun _ _ => rfl)))
      (pss_cons (ps_if (pt_cmpR op_eq (pv 4) pe_int (nomark _)) (pss_one (ps_ret (pe_fn h0 hr3 (pa_cons (pv 0) (pa_cons (pv 1) (pa_cons (pe_ix ix_list (pv 2) pe_int (fun _ _ => rfl)) pa_nil)))))) pss_nil)
      (pss_cons (ps_if (pt_cmpR op_eq (pv 4) pe_int (nomark _)) (pss_one (ps_ret (pe_fn h1 hr3 (pa_cons (pv 5) (pa_cons (pe_ix ix_list (pv 2) pe_int (fun _ _ => rfl)) (pa_cons (pe_ix ix_list (pv 2) pe_int (fun _ _ => rfl)) (pa_cons (pv 3) pa_nil))))))) pss_nil)
      (pss_cons (ps_if (pt_cmpR op_eq (pv 4) pe_int (nomark _)) (pss_one (ps_ret (pe_fn h2 hr3 (pa_cons (pv 5) (pa_cons (pe_ix ix_list (pv 2) pe_int (fun _ _ => rfl)) (pa_cons (pe_ix ix_list (pv 2) pe_int (fun _ _ => rfl)) pa_nil)))))) pss_nil)
      (pss_cons (ps_if (pt_cmpR op_eq (pv 4) pe_int (nomark _)) (pss_one (ps_ret (pe_fn h3 hr2 (pa_cons (pv 5) (pa_cons (pe_ix ix_list (pv 2) pe_int (fun _ _ => rfl)) (pa_cons (pe_ix ix_list (pv 2) pe_int (fun _ _ => rfl)) pa_nil)))))) pss_nil)
      (pss_cons (ps_if (pt_cmpR op_eq (pv 4) pe_int (nomark _)) (pss_one (ps_ret (pe_lst (pa_cons (pe_callB call_len_seq (by rfl) T.len PySem.boot_len (pa_cons (pe_fld (pv 5) rfl) pa_nil)) pa_nil)))) pss_nil)
      (pss_cons (ps_if (pt_cmpR op_eq (pv 4) pe_int (nomark _)) (pss_one (ps_ret (pe_fn h5 hr2 (pa_cons (pv 5) (pa_cons (pe_ix ix_list (pv 2) pe_int (fun _ _ => rfl)) pa_nil))))) pss_nil)
      (pss_cons (ps_if (pt_cmpR op_eq (pv 4) pe_int (nomark _)) (pss_one (ps_ret (pe_fn h6 hr2 (pa_cons (pv 5) (pa_cons (pe_ix ix_list (pv 2) pe_int (fun _ _ => rfl)) (pa_cons (pe_ix ix_list (pv 2) pe_int (fun _ _ => rfl)) pa_nil)))))) pss_nil)
      (pss_cons (ps_if (pt_cmpR op_eq (pv 4) pe_int (nomark _)) (pss_one (ps_ret (pe_fn h7 hr1 (pa_cons (pv 5) pa_nil)))) pss_nil)
      (pss_cons (ps_if (pt_cmpR op_eq (pv 4) pe_int (nomark _)) (pss_one (ps_ret (pe_fn h8 hr3 (pa_cons (pv 5) (pa_cons (pe_ix ix_list (pv 2) pe_int (fun _ _ => rfl)) (pa_cons (pv 3) pa_nil)))))) pss_nil)
      (pss_cons (ps_if (pt_cmpR op_eq (pv 4) pe_int (nomark _)) (pss_one (ps_ret (pe_fn h9 hr (pa_cons (pv 5) (pa_cons (pe_ix ix_list (pv 2) pe_int (fun _ _ => rfl)) (pa_cons (pv 3) pa_nil)))))) pss_nil)
      (pss_one (ps_ret (pe_fn h10 hr (pa_cons (pv 5) (pa_cons (pe_ix ix_list (pv 0) (pe_ix ix_list (pv 2) pe_int (fun _ _ => rfl)) (fun _ _ => rfl)) pa_nil)))))))))))))))), ?_⟩
    cases fm with
    | f0 j s hj ec =>
      obtain ⟨e1, rfl⟩ := List.cons.inj ec
      obtain ⟨rfl, rfl⟩ := List.cons.inj e1
      refine ⟨_, rfl, ln, _, _, _, rfl, rfl, SqL.of hn, at_of (j := 0) rfl rfl, ?_⟩
      refine ⟨_, rfl, _, rfl, lc, _, _, _, rfl, rfl, SqL.of t.lst, at_of (j := j) rfl (t.get hj), ?_⟩
      refine ⟨_, rfl, rfl, _, rfl, wy ?_⟩
      refine ⟨_, rfl, _, rfl, _, rfl, ln, _, _, _, rfl, rfl, SqL.of hn, at_of (j := 1) rfl rfl, lc, j, s, _, rfl, t.lst, (by show j < 2; omega), fun hb p hp => ?_, fun hg H' a p cp fr hl kp hp hp' => ?_⟩
      · rw [nstep (x := .open_ s) (j := j) rfl rfl] at k
        have e : Sn04.step (the S) (the S j) (.open_ s) = (the S j, Sn04.says (-2)) := by
          show (if s < 1 ∨ 255 < s then _ else _) = _
          rw [if_pos (by omega)]
        rw [e] at k
        have e2 : putS S j (the S j) = S := by rcases hj with rfl | rfl <;> rfl
        have s1 := same_new (o := .lst [.int (-2)]) hp
        exact k _ o p (by rw [e2]; exact t.same s1) (Frm.refl s1) hp upd_same
      · rw [nstep (x := .open_ s) (j := j) rfl rfl] at k
        have e : Sn04.step (the S) (the S j) (.open_ s) = (some ⟨s.toNat, []⟩, Sn04.says 0) := by
          show (if s < 1 ∨ 255 < s then _ else _) = _
          rw [if_neg (by omega)]
        rw [e] at k
        obtain ⟨t', f'⟩ := t.opened hj cp fr hl kp
        exact k H' _ p t' f' hp hp'
    | f1 j a_ k_ b hj ec hbl hby =>
      obtain ⟨e1, rfl⟩ := List.cons.inj ec
      obtain ⟨rfl, rfl⟩ := List.cons.inj e1
      obtain ⟨x, hx⟩ := some_of th
      obtain ⟨a, ho, cp⟩ := t.at hj hx
      have hg := t.get hj
      rw [ho] at hg
      have dn := call_does (j := j) (call := .put a_ (Sn04Neutral.nats b) k_) k t hj ho hx rfl rfl rfl
      refine ⟨_, rfl, ln, _, _, _, rfl, rfl, SqL.of hn, at_of (j := 0) rfl rfl, ?_⟩
      refine ⟨_, rfl, _, rfl, lc, _, _, _, rfl, rfl, SqL.of t.lst, at_of (j := j) rfl hg, ?_⟩
      refine ⟨_, rfl, rfl, _, rfl, wn (by decide) ?_⟩
      refine ⟨_, rfl, rfl, _, rfl, wy ?_⟩
      refine ⟨_, rfl, _, rfl, ln, _, _, _, rfl, rfl, SqL.of hn, at_of (j := 1) rfl rfl, _, rfl, ln, _, _, _, rfl, rfl, SqL.of hn, at_of (j := 2) rfl rfl, _, rfl, a, x.site, x.known, a_, k_, ld, Sn04Neutral.nats b, rfl, cp, ?_, foot_out hj ho d0 d1, fun q => ?_, dn⟩
      · rw [← ints_nats fun z hz => (hby z hz).1]
        exact hd
      · rw [nats_length]
        exact hbl q
    | f2 j a_ k_ hj ec =>
      obtain ⟨e1, rfl⟩ := List.cons.inj ec
      obtain ⟨rfl, rfl⟩ := List.cons.inj e1
      obtain ⟨x, hx⟩ := some_of th
      obtain ⟨a, ho, cp⟩ := t.at hj hx
      have hg := t.get hj
      rw [ho] at hg
      have dn := call_does (j := j) (call := .take a_ k_) k t hj ho hx rfl rfl rfl
      refine ⟨_, rfl, ln, _, _, _, rfl, rfl, SqL.of hn, at_of (j := 0) rfl rfl, ?_⟩
      refine ⟨_, rfl, _, rfl, lc, _, _, _, rfl, rfl, SqL.of t.lst, at_of (j := j) rfl hg, ?_⟩
      refine ⟨_, rfl, rfl, _, rfl, wn (by decide) ⟨_, rfl, rfl, _, rfl, wn (by decide) ?_⟩⟩
      refine ⟨_, rfl, rfl, _, rfl, wy ?_⟩
      exact ⟨_, rfl, _, rfl, ln, _, _, _, rfl, rfl, SqL.of hn, at_of (j := 1) rfl rfl, _, rfl, ln, _, _, _, rfl, rfl, SqL.of hn, at_of (j := 2) rfl rfl, a, x.site, x.known, a_, k_, rfl, cp, dn⟩
    | f3 j a_ k_ hj ec =>
      obtain ⟨e1, rfl⟩ := List.cons.inj ec
      obtain ⟨rfl, rfl⟩ := List.cons.inj e1
      obtain ⟨x, hx⟩ := some_of th
      obtain ⟨a, ho, cp⟩ := t.at hj hx
      have hg := t.get hj
      rw [ho] at hg
      have dn := call_does (j := j) (call := .text a_ k_) k t hj ho hx rfl rfl rfl
      refine ⟨_, rfl, ln, _, _, _, rfl, rfl, SqL.of hn, at_of (j := 0) rfl rfl, ?_⟩
      refine ⟨_, rfl, _, rfl, lc, _, _, _, rfl, rfl, SqL.of t.lst, at_of (j := j) rfl hg, ?_⟩
      refine ⟨_, rfl, rfl, _, rfl, wn (by decide) ⟨_, rfl, rfl, _, rfl, wn (by decide) ⟨_, rfl, rfl, _, rfl, wn (by decide) ?_⟩⟩⟩
      refine ⟨_, rfl, rfl, _, rfl, wy ?_⟩
      exact ⟨_, rfl, _, rfl, ln, _, _, _, rfl, rfl, SqL.of hn, at_of (j := 1) rfl rfl, _, rfl, ln, _, _, _, rfl, rfl, SqL.of hn, at_of (j := 2) rfl rfl, a, x.site, x.known, a_, k_, rfl, cp, dn⟩
    | f4 j hj ec =>
      obtain ⟨e1, rfl⟩ := List.cons.inj ec
      obtain ⟨rfl, rfl⟩ := List.cons.inj e1
      obtain ⟨x, hx⟩ := some_of th
      obtain ⟨a, ho, cp⟩ := t.at hj hx
      have hg := t.get hj
      rw [ho] at hg
      have dn := call_does (j := j) (call := .length) (r := (some x, Sn04.says ((Sn04.stand x.known).length : Int))) k t hj ho hx rfl rfl rfl
      refine ⟨_, rfl, ln, _, _, _, rfl, rfl, SqL.of hn, at_of (j := 0) rfl rfl, ?_⟩
      refine ⟨_, rfl, _, rfl, lc, _, _, _, rfl, rfl, SqL.of t.lst, at_of (j := j) rfl hg, ?_⟩
      refine ⟨_, rfl, rfl, _, rfl, wn (by decide) ⟨_, rfl, rfl, _, rfl, wn (by decide) ⟨_, rfl, rfl, _, rfl, wn (by decide) ⟨_, rfl, rfl, _, rfl, wn (by decide) ?_⟩⟩⟩⟩
      refine ⟨_, rfl, rfl, _, rfl, wy ?_⟩
      refine ⟨_, rfl, a.p, C, a.dx, _, _, rfl, cp.ins, T.cl, T.nShown, cf_shown, a.ds, _, rfl, .inl (SqL.of cp.shown), (by show 1 ≤ sizeLine; decide), fun p hp => ?_⟩
      rw [List.length_map, Tc.shown_length]
      exact dn.back cp (Same.refl H) hp
    | f5 j a_ hj ec =>
      obtain ⟨e1, rfl⟩ := List.cons.inj ec
      obtain ⟨rfl, rfl⟩ := List.cons.inj e1
      obtain ⟨x, hx⟩ := some_of th
      obtain ⟨a, ho, cp⟩ := t.at hj hx
      have hg := t.get hj
      rw [ho] at hg
      have dn := call_does (j := j) (call := .id a_) k t hj ho hx rfl rfl rfl
      refine ⟨_, rfl, ln, _, _, _, rfl, rfl, SqL.of hn, at_of (j := 0) rfl rfl, ?_⟩
      refine ⟨_, rfl, _, rfl, lc, _, _, _, rfl, rfl, SqL.of t.lst, at_of (j := j) rfl hg, ?_⟩
      refine ⟨_, rfl, rfl, _, rfl, wn (by decide) ⟨_, rfl, rfl, _, rfl, wn (by decide) ⟨_, rfl, rfl, _, rfl, wn (by decide) ⟨_, rfl, rfl, _, rfl, wn (by decide) ⟨_, rfl, rfl, _, rfl, wn (by decide) ?_⟩⟩⟩⟩⟩
      refine ⟨_, rfl, rfl, _, rfl, wy ?_⟩
      exact ⟨_, rfl, _, rfl, ln, _, _, _, rfl, rfl, SqL.of hn, at_of (j := 1) rfl rfl, a, x.site, x.known, a_, rfl, cp, dn⟩
    | f6 j n_ s_ hj ec =>
      obtain ⟨e1, rfl⟩ := List.cons.inj ec
      obtain ⟨rfl, rfl⟩ := List.cons.inj e1
      obtain ⟨x, hx⟩ := some_of th
      obtain ⟨a, ho, cp⟩ := t.at hj hx
      have hg := t.get hj
      rw [ho] at hg
      have dn := call_does (j := j) (call := .place n_ s_) k t hj ho hx rfl rfl rfl
      refine ⟨_, rfl, ln, _, _, _, rfl, rfl, SqL.of hn, at_of (j := 0) rfl rfl, ?_⟩
      refine ⟨_, rfl, _, rfl, lc, _, _, _, rfl, rfl, SqL.of t.lst, at_of (j := j) rfl hg, ?_⟩
      refine ⟨_, rfl, rfl, _, rfl, wn (by decide) ⟨_, rfl, rfl, _, rfl, wn (by decide) ⟨_, rfl, rfl, _, rfl, wn (by decide) ⟨_, rfl, rfl, _, rfl, wn (by decide) ⟨_, rfl, rfl, _, rfl, wn (by decide) ⟨_, rfl, rfl, _, rfl, wn (by decide) ?_⟩⟩⟩⟩⟩⟩
      refine ⟨_, rfl, rfl, _, rfl, wy ?_⟩
      exact ⟨_, rfl, _, rfl, ln, _, _, _, rfl, rfl, SqL.of hn, at_of (j := 1) rfl rfl, _, rfl, ln, _, _, _, rfl, rfl, SqL.of hn, at_of (j := 2) rfl rfl, a, x.site, x.known, n_, s_, rfl, cp, dn⟩
    | f7 j hj ec =>
      obtain ⟨e1, rfl⟩ := List.cons.inj ec
      obtain ⟨rfl, rfl⟩ := List.cons.inj e1
      obtain ⟨x, hx⟩ := some_of th
      obtain ⟨a, ho, cp⟩ := t.at hj hx
      have hg := t.get hj
      rw [ho] at hg
      have dn := call_does (j := j) (call := .seen) k t hj ho hx rfl rfl rfl
      refine ⟨_, rfl, ln, _, _, _, rfl, rfl, SqL.of hn, at_of (j := 0) rfl rfl, ?_⟩
      refine ⟨_, rfl, _, rfl, lc, _, _, _, rfl, rfl, SqL.of t.lst, at_of (j := j) rfl hg, ?_⟩
      refine ⟨_, rfl, rfl, _, rfl, wn (by decide) ⟨_, rfl, rfl, _, rfl, wn (by decide) ⟨_, rfl, rfl, _, rfl, wn (by decide) ⟨_, rfl, rfl, _, rfl, wn (by decide) ⟨_, rfl, rfl, _, rfl, wn (by decide) ⟨_, rfl, rfl, _, rfl, wn (by decide) ⟨_, rfl, rfl, _, rfl, wn (by decide) ?_⟩⟩⟩⟩⟩⟩⟩
      refine ⟨_, rfl, rfl, _, rfl, wy ?_⟩
      exact ⟨_, rfl, a, x.site, x.known, rfl, cp, dn⟩
    | f8 j r_ b hj ec hbl hby =>
      obtain ⟨e1, rfl⟩ := List.cons.inj ec
      obtain ⟨rfl, rfl⟩ := List.cons.inj e1
      obtain ⟨x, hx⟩ := some_of th
      obtain ⟨a, ho, cp⟩ := t.at hj hx
      have hg := t.get hj
      rw [ho] at hg
      have dn := call_does (j := j) (call := .news (Sn04Neutral.nats b) r_) k t hj ho hx rfl rfl rfl
      refine ⟨_, rfl, ln, _, _, _, rfl, rfl, SqL.of hn, at_of (j := 0) rfl rfl, ?_⟩
      refine ⟨_, rfl, _, rfl, lc, _, _, _, rfl, rfl, SqL.of t.lst, at_of (j := j) rfl hg, ?_⟩
      refine ⟨_, rfl, rfl, _, rfl, wn (by decide) ⟨_, rfl, rfl, _, rfl, wn (by decide) ⟨_, rfl, rfl, _, rfl, wn (by decide) ⟨_, rfl, rfl, _, rfl, wn (by decide) ⟨_, rfl, rfl, _, rfl, wn (by decide) ⟨_, rfl, rfl, _, rfl, wn (by decide) ⟨_, rfl, rfl, _, rfl, wn (by decide) ⟨_, rfl, rfl, _, rfl, wn (by decide) ?_⟩⟩⟩⟩⟩⟩⟩⟩
      refine ⟨_, rfl, rfl, _, rfl, wy ?_⟩
      refine ⟨_, rfl, _, rfl, ln, _, _, _, rfl, rfl, SqL.of hn, at_of (j := 1) rfl rfl, _, rfl, a, x.site, x.known, r_, ld, Sn04Neutral.nats b, rfl, cp, ?_, ?_, dn⟩
      · rw [← ints_nats hby]
        exact hd
      · rw [nats_length]
        exact hbl
    | f9 j n_ b hj ec hbl hby =>
      obtain ⟨e1, rfl⟩ := List.cons.inj ec
      obtain ⟨rfl, rfl⟩ := List.cons.inj e1
      obtain ⟨x, hx⟩ := some_of th
      obtain ⟨a, ho, cp⟩ := t.at hj hx
      have hg := t.get hj
      rw [ho] at hg
      have dn := call_does (j := j) (call := .learn (Sn04Neutral.nats b) n_) k t hj ho hx rfl rfl rfl
      refine ⟨_, rfl, ln, _, _, _, rfl, rfl, SqL.of hn, at_of (j := 0) rfl rfl, ?_⟩
      refine ⟨_, rfl, _, rfl, lc, _, _, _, rfl, rfl, SqL.of t.lst, at_of (j := j) rfl hg, ?_⟩
      refine ⟨_, rfl, rfl, _, rfl, wn (by decide) ⟨_, rfl, rfl, _, rfl, wn (by decide) ⟨_, rfl, rfl, _, rfl, wn (by decide) ⟨_, rfl, rfl, _, rfl, wn (by decide) ⟨_, rfl, rfl, _, rfl, wn (by decide) ⟨_, rfl, rfl, _, rfl, wn (by decide) ⟨_, rfl, rfl, _, rfl, wn (by decide) ⟨_, rfl, rfl, _, rfl, wn (by decide) ⟨_, rfl, rfl, _, rfl, wn (by decide) ?_⟩⟩⟩⟩⟩⟩⟩⟩⟩
      refine ⟨_, rfl, rfl, _, rfl, wy ?_⟩
      refine ⟨_, rfl, _, rfl, ln, _, _, _, rfl, rfl, SqL.of hn, at_of (j := 1) rfl rfl, _, rfl, a, x.site, x.known, n_, ld, Sn04Neutral.nats b, rfl, cp, ?_, nats_byte hby, fun q => ?_, dn⟩
      · rw [← ints_nats fun z hz => (hby z hz).1]
        exact hd
      · rw [nats_length]
        exact hbl q
    | f10 j i hj hi ec =>
      obtain ⟨e1, rfl⟩ := List.cons.inj ec
      obtain ⟨rfl, rfl⟩ := List.cons.inj e1
      have th' : ((Sn04Neutral.the S ((j : Int)).toNat).isSome && (Sn04Neutral.the S ((i : Int)).toNat).isSome) = true := th
      rw [Bool.and_eq_true] at th'
      obtain ⟨x, hx⟩ := some_of th'.1
      obtain ⟨y, hy⟩ := some_of th'.2
      obtain ⟨a, ho, cp⟩ := t.at hj hx
      obtain ⟨a2, ho2, cp2⟩ := t.at hi hy
      have hg := t.get hj
      rw [ho] at hg
      have hg2 := t.get hi
      rw [ho2] at hg2
      have dn := call_does (j := j) (call := .join i) (r := Sn04.step (fun _ => some ⟨y.site, y.known⟩) (some ⟨x.site, x.known⟩) (.join 0)) k t hj ho hx rfl rfl (by
        unfold Sn04.step
        dsimp only
        rw [hy])
      refine ⟨_, rfl, ln, _, _, _, rfl, rfl, SqL.of hn, at_of (j := 0) rfl rfl, ?_⟩
      refine ⟨_, rfl, _, rfl, lc, _, _, _, rfl, rfl, SqL.of t.lst, at_of (j := j) rfl hg, ?_⟩
      refine ⟨_, rfl, rfl, _, rfl, wn (by decide) ⟨_, rfl, rfl, _, rfl, wn (by decide) ⟨_, rfl, rfl, _, rfl, wn (by decide) ⟨_, rfl, rfl, _, rfl, wn (by decide) ⟨_, rfl, rfl, _, rfl, wn (by decide) ⟨_, rfl, rfl, _, rfl, wn (by decide) ⟨_, rfl, rfl, _, rfl, wn (by decide) ⟨_, rfl, rfl, _, rfl, wn (by decide) ⟨_, rfl, rfl, _, rfl, wn (by decide) ⟨_, rfl, rfl, _, rfl, wn (by decide) ?_⟩⟩⟩⟩⟩⟩⟩⟩⟩⟩
      refine ⟨_, rfl, _, rfl, _, rfl, ln, _, _, _, rfl, rfl, SqL.of hn, at_of (j := 1) rfl rfl, lc, _, _, _, rfl, rfl, SqL.of t.lst, at_of (j := i) rfl hg2, a, a2, x.site, y.site, x.known, y.known, rfl, cp, cp2, ?_, dn⟩
      by_cases e : i = j
      · subst e
        rw [hx] at hy
        cases hy
        exact .inl rfl
      · exact .inr (t.foots hj hi (fun z => e z.symm) ho ho2)
end
end Tp
end
section
set_option Elab.async false
set_option linter.all false
set_option maxRecDepth 100000
set_option maxHeartbeats 4000000
namespace Tp
open PySem PySem.Spec PyProof.Rows L2
open Sn04 (Change)
theorem drop_at {l r : List Int} {i : Nat} {x : Int} (h : l.drop i = x :: r) : l[i]? = some x ∧ l.drop (i + 1) = r ∧ i < l.length := by
  have hl : i < l.length := by
    rcases Nat.lt_or_ge i l.length with q | q
    · exact q
    · rw [List.drop_of_length_le q] at h
      cases h
  refine ⟨?_, ?_, hl⟩
  · have e := congrArg (fun z => z[0]?) h
    rw [List.getElem?_drop] at e
    exact e
  · rw [← List.drop_drop, h]
    rfl
theorem at_int {l : List Int} {i : Nat} {x : Int} (h : l[i]? = some x) : atI (l.map V.int) (i : Int) = some (.int x) := atI_nat (by rw [List.getElem?_map, h]; rfl)
theorem st_eq {z : Int} {n : Nat} (e : z = (n : Int)) {a b c : Option V} {r : List (Option V)} : a :: b :: c :: some (V.int z) :: r = a :: b :: c :: some (iv n) :: r := by rw [e]
theorem vs_eq {z : Int} {n : Nat} (e : z = (n : Int)) {a : V} : [a, V.int z] = [a, iv n] := by rw [e]
theorem drop_app {l r s : List Int} {i : Nat} (h : l.drop i = r ++ s) : l.drop (i + r.length) = s := by
  rw [← List.drop_drop, h]
  exact List.drop_left
section
variable {P : Program} {w : World} {K : PySem.W.Frag} {mg : Str → Option Value} {base : Heap} {C : Addr}
/-! ### a counted run -/
def spRun (K : PySem.W.Frag) : Sp := fun vs H Q _ => ∃ (la : Addr) (ls : List Int) (i : Nat) (row rest : List Int), vs = [.ref la, iv i] ∧ SqL K H la (ls.map V.int) ∧ ls.drop i = (row.length : Int) :: (row ++ rest) ∧ ∀ p, H p = none → Q (.ref p) (upd H p (.lst (row.map V.int)))
theorem sc45 : FnScope ["calls", "start"] ["calls", "start"] (defScope (top 45)) := ⟨rfl, rfl, rfl, by decide +kernel, rfl, by decide +kernel, by decide +kernel⟩
theorem ok_run (D : Def K mg "counted_run" (top 45) ["calls", "start"]) : Has P w K mg base 1 "counted_run" ["calls", "start"] (spRun K) := by
  refine D.has sc45 (fun vs H Q E h => ?_) (fun f cdv A outer s H vs Q E hr h => ?_)
  · obtain ⟨la, ls, i, row, rest, rfl, _⟩ := h
    rfl
  · obtain ⟨la, ls, i, row, rest, rfl, hS, hd, k⟩ := h
    obtain ⟨h1, h2, h3⟩ := drop_at hd
    refine ⟨_, pss_one (ps_ret (pe_slice sl_list (pv 0) (po_some (pe_op op_add (pv 1) pe_int)) (po_some (pe_op op_add (pe_op op_add (pv 1) pe_int) (pe_ix ix_list (pv 0) (pv 1) (fun _ _ => rfl)))))), ?_⟩
    refine ⟨_, rfl, _, rfl, _, _, rfl, rfl, _, rfl, _, rfl, _, _, rfl, rfl, _, rfl, _, rfl, la, _, _, _, rfl, rfl, hS, at_int h1, _, _, rfl, rfl, _, rfl, la, _, rfl, hS, fun p hp => ?_⟩
    have e1 : ((i : Int) + 1) = ((i + 1 : Nat) : Int) := by omega
    have e2 : ((i : Int) + 1 + (row.length : Int)) = ((i + 1 + row.length : Nat) : Int) := by omega
    have len : i + 1 + row.length ≤ ls.length := by
      have e := congrArg List.length h2
      rw [List.length_drop, List.length_append] at e
      omega
    rw [e2, e1, cut_mid (Nat.le_add_right _ _) (by rw [List.length_map]; exact len), Nat.add_sub_cancel_left, ← List.map_drop, h2, ← List.map_take, List.take_left]
    exact k p hp
/-! ### the line -/
def spAns (K : PySem.W.Frag) : Sp := fun vs H Q _ => ∃ (la : Addr) (ls : List Int), vs = [.ref la] ∧ SqL K H la (ls.map V.int) ∧ PySn04.answers_asked ls = true ∧ ∀ (H' : Hp) (p : Addr), H' p = some (.lst ((PySn04.answers ls).map V.int)) → Q (.ref p) H'
theorem Two.upd {C : Addr} {H : Hp} {lc lt : Addr} {o : Nat → Option Ad} {S : Sn04Neutral.S} {us vs : List V} (t : Two C H lc o S) (hl : H lt = some (.lst us)) (n0 : lt ∉ footO (o 0)) (n1 : lt ∉ footO (o 1)) (ne : lt ≠ lc) : Two C (L2.upd H lt (.lst vs)) lc o S := by
  have tk : ∀ b xs, H b = some (.tup xs) → L2.upd H lt (.lst vs) b = some (.tup xs) := fun b xs e => by
    rw [upd_ne (ne_of e hl (by intro z; cases z))]
    exact e
  refine ⟨(upd_ne ne.symm).trans t.lst, t.c0.stay (fun b hb u e => ?_) tk, t.c1.stay (fun b hb u e => ?_) tk, t.apart, t.n0, t.n1⟩
  · rw [upd_ne (fun z => n0 (by rw [← z]; exact hb))]
    exact e
  · rw [upd_ne (fun z => n1 (by rw [← z]; exact hb))]
    exact e
theorem form_rows {c : Sn04Neutral.Call} (h : Form c) : ∃ wh ns xs, c = (wh :: ns) :: xs ∧ (xs = [] ∨ ∃ b, xs = [b]) := by
  cases h with
  | f0 j s _ e => exact ⟨_, _, _, e, .inl rfl⟩
  | f1 j a k b _ e => exact ⟨_, _, _, e, .inr ⟨b, rfl⟩⟩
  | f2 j a k _ e => exact ⟨_, _, _, e, .inl rfl⟩
  | f3 j a k _ e => exact ⟨_, _, _, e, .inl rfl⟩
  | f4 j _ e => exact ⟨_, _, _, e, .inl rfl⟩
  | f5 j a _ e => exact ⟨_, _, _, e, .inl rfl⟩
  | f6 j n s _ e => exact ⟨_, _, _, e, .inl rfl⟩
  | f7 j _ e => exact ⟨_, _, _, e, .inl rfl⟩
  | f8 j r b _ e => exact ⟨_, _, _, e, .inr ⟨b, rfl⟩⟩
  | f9 j n b _ e => exact ⟨_, _, _, e, .inr ⟨b, rfl⟩⟩
  | f10 j i _ _ e => exact ⟨_, _, _, e, .inl rfl⟩
/-- between two calls -/
structure Mid (C : Addr) (H : Hp) (ls : List Int) (lc lt : Addr) (H' : Hp) (st : Nat) (rest : List Sn04Neutral.Call) (o : Nat → Option Ad) (S : Sn04Neutral.S) (td : List Int) (n : Nat) : Prop where
  dr : ls.drop st = PyWide.put rest
  ask : Sn04Neutral.askedFrom S rest n = true
  two : Two C H' lc o S
  same : Same H H'
  fr0 : ∀ b ∈ footO (o 0), H b = none ∧ b ≠ lt
  fr1 : ∀ b ∈ footO (o 1), H b = none ∧ b ≠ lt
  told : H' lt = some (.lst (td.map V.int))
  len : td.length + rest.length ≤ n + 900
  most : n < 1000000
  due : PySn04.answers ls = td ++ PyFlat.told (PyFlat.played Sn04Neutral.step S rest)
theorem Mid.after {C : Addr} {H : Hp} {ls : List Int} {lc lt : Addr} {H' H1 H2 : Hp} {st st' : Nat} {c : Sn04Neutral.Call} {rest : List Sn04Neutral.Call} {o o' : Nat → Option Ad} {S : Sn04Neutral.S} {td : List Int} {n : Nat} (M : Mid C H ls lc lt H' st (c :: rest) o S td n) (hc : H lc = none) (ht : H lt = none) (ne : lt ≠ lc)
    (s1 : Same H' H1) (t2 : Two C H2 lc o' (Sn04Neutral.step S c).1) (f2 : Frm lc o H1 o' H2) (hd : ls.drop st' = PyWide.put rest) :
    H2 lt = some (.lst (td.map V.int)) ∧ Mid C H ls lc lt (upd H2 lt (.lst ((td ++ ((Sn04Neutral.step S c).2.length : Int) :: (Sn04Neutral.step S c).2).map V.int))) st' rest o' (Sn04Neutral.step S c).1 (td ++ ((Sn04Neutral.step S c).2.length : Int) :: (Sn04Neutral.step S c).2) (n + (Sn04Neutral.step S c).2.length) ∧ (td ++ ((Sn04Neutral.step S c).2.length : Int) :: (Sn04Neutral.step S c).2).length ≤ 16000000 := by
  have ask := M.ask
  unfold Sn04Neutral.askedFrom at ask
  rw [Bool.and_eq_true, Bool.and_eq_true] at ask
  obtain ⟨_, _, a3⟩ := ask
  have a3 : (decide (n + (Sn04Neutral.step S c).2.length < 1000000) && Sn04Neutral.askedFrom (Sn04Neutral.step S c).1 rest (n + (Sn04Neutral.step S c).2.length)) = true := a3
  rw [Bool.and_eq_true, decide_eq_true_eq] at a3
  have hlt : H2 lt = some (.lst (td.map V.int)) := f2.on lt _ (s1 _ _ M.told) (fun q => (M.fr0 lt q).2 rfl) (fun q => (M.fr1 lt q).2 rfl) ne
  have fr : ∀ b, H1 b = none → H b = none ∧ b ≠ lt := fun b e => ⟨M.same.free (s1.free e), fun z => by rw [z, s1 _ _ M.told] at e; cases e⟩
  have g0 : ∀ b ∈ footO (o' 0), H b = none ∧ b ≠ lt := fun b hb => (f2.m0 b hb).elim (M.fr0 b) (fr b)
  have g1 : ∀ b ∈ footO (o' 1), H b = none ∧ b ≠ lt := fun b hb => (f2.m1 b hb).elim (M.fr1 b) (fr b)
  have ml := M.len
  have len : (td ++ ((Sn04Neutral.step S c).2.length : Int) :: (Sn04Neutral.step S c).2).length = td.length + ((Sn04Neutral.step S c).2.length + 1) := by
    rw [List.length_append, List.length_cons]
  rw [List.length_cons] at ml
  refine ⟨hlt, ⟨hd, a3.2, t2.upd hlt (fun q => (g0 lt q).2 rfl) (fun q => (g1 lt q).2 rfl) ne, fun b u e => ?_, g0, g1, upd_same, by omega, a3.1, ?_⟩, by have := M.most; omega⟩
  · rw [upd_ne (fun z => by rw [z, ht] at e; cases e)]
    exact f2.on b u (s1 _ _ (M.same _ _ e)) (fun q => by rw [(M.fr0 b q).1] at e; cases e) (fun q => by rw [(M.fr1 b q).1] at e; cases e) (fun z => by rw [z, hc] at e; cases e)
  · rw [M.due, List.append_assoc]
    rfl
theorem asked_call {S : Sn04Neutral.S} {c : Sn04Neutral.Call} {rest : List Sn04Neutral.Call} {n : Nat} (h : Sn04Neutral.askedFrom S (c :: rest) n = true) : Form c ∧ Sn04Neutral.there S c = true := by
  unfold Sn04Neutral.askedFrom at h
  rw [Bool.and_eq_true, Bool.and_eq_true] at h
  exact ⟨form_of h.1, h.2.1⟩
theorem sc46 : FnScope ["calls", "copies", "told", "start", "which", "numbers", "has_list", "data", "answer"] ["calls"] (defScope (top 46)) := ⟨rfl, rfl, rfl, by decide +kernel, rfl, by decide +kernel, by decide +kernel⟩
theorem ok_ans {f : Addr} {fd : FuncData} (F : Fun K "answers" "answers" (top 46) f fd) (T : Txt K mg C) (hR : Has P w K mg base 1 "counted_run" ["calls", "start"] (spRun K)) (hC : Has P w K mg base 5 "answer_call" ["copies", "which", "numbers", "data"] (spCall C)) : FnOk P w K mg base CX0 6 f fd ["calls"] (spAns K) := by
  refine F.ok sc46 (fun vs H Q E h => ?_) (fun cdv A outer s H vs Q E hr h => ?_)
  · obtain ⟨la, ls, rfl, _⟩ := h
    rfl
  · obtain ⟨la, ls, rfl, hS, ask, k⟩ := h
    have hr1 : Room 1 _ := hr.mono (by decide)
    refine ⟨_, pss_cons (ps_set (i := 1) sc46.nd rfl (Or.inl rfl) (pe_lst (pa_cons pe_non (pa_cons pe_non pa_nil))))
      (pss_cons (ps_set (i := 2) sc46.nd rfl (Or.inl rfl) (pe_lst pa_nil))
      (pss_cons (ps_set (i := 3) sc46.nd rfl (Or.inl rfl) pe_int)
      (pss_cons (ps_while PassesOwn.never (pt_cmpR op_lt (pv 3) (pe_callB call_len_seq (by rfl) T.len PySem.boot_len (pa_cons (pv 0) pa_nil)) (nomark _))
        (pss_cons (ps_set (i := 4) sc46.nd rfl (Or.inl rfl) (pe_ix ix_list (pv 0) (pv 3) (fun _ _ => rfl)))
        (pss_cons (ps_set (i := 5) sc46.nd rfl (Or.inl rfl) (pe_fn hR hr1 (pa_cons (pv 0) (pa_cons (pe_op op_add (pv 3) pe_int) pa_nil))))
        (pss_cons (ps_set (i := 3) sc46.nd rfl (Or.inl rfl) (pe_op op_add (pe_op op_add (pv 3) pe_int) (pe_callB call_len_seq (by rfl) T.len PySem.boot_len (pa_cons (pv 5) pa_nil))))
        (pss_cons (ps_set (i := 6) sc46.nd rfl (Or.inl rfl) (pe_cmpR op_eq (pe_ix ix_list (pv 0) (pv 3) (fun _ _ => rfl)) pe_int (nomark _)))
        (pss_cons (ps_set (i := 3) sc46.nd rfl (Or.inl rfl) (pe_op op_add (pv 3) pe_int))
        (pss_cons (ps_set (i := 7) sc46.nd rfl (Or.inl rfl) (pe_lst pa_nil))
        (pss_cons (ps_if (pt_val (pv 6)) (pss_cons (ps_set (i := 7) sc46.nd rfl (Or.inl rfl) (pe_fn hR hr1 (pa_cons (pv 0) (pa_cons (pv 3) pa_nil)))) (pss_one (ps_set (i := 3) sc46.nd rfl (Or.inl rfl) (pe_op op_add (pe_op op_add (pv 3) pe_int) (pe_callB call_len_seq (by rfl) T.len PySem.boot_len (pa_cons (pv 7) pa_nil)))))) pss_nil)
        (pss_cons (ps_set (i := 8) sc46.nd rfl (Or.inl rfl) (pe_fn hC hr (pa_cons (pv 1) (pa_cons (pv 4) (pa_cons (pv 5) (pa_cons (pv 7) pa_nil))))))
        (pss_cons (ps_expr (pe_bm PySem.F.plainAttrs_list PySem.F.slot_list_append PySem.F.type_list_append mt_append (pv 2) (pa_cons (pe_callB call_len_seq (by rfl) T.len PySem.boot_len (pa_cons (pv 8) pa_nil)) pa_nil)))
        (pss_one (ps_expr (pe_bm PySem.F.plainAttrs_list PySem.F.slot_list_extend PySem.F.type_list_extend mt_extend (pv 2) (pa_cons (pv 8) pa_nil))))))))))))))
      (pss_one (ps_ret (pv 2)))))), ?_⟩
    -- what is asked
    obtain ⟨cs, ecs⟩ : ∃ cs, PySn04.calls ls = some cs := by
      unfold PySn04.answers_asked at ask
      cases q : PySn04.calls ls with
      | none => rw [q] at ask; cases ask
      | some cs => exact ⟨cs, rfl⟩
    have eans : PySn04.answers ls = PyFlat.told (PyFlat.played Sn04Neutral.step Sn04Neutral.start cs) := by
      unfold PySn04.answers
      rw [ecs]
    unfold PySn04.answers_asked at ask
    rw [ecs] at ask
    have ask : (PyFlat.atMost 900 cs && Sn04Neutral.asked cs) = true := ask
    rw [Bool.and_eq_true] at ask
    obtain ⟨am, ask⟩ := ask
    have am : cs.length ≤ 900 := of_decide_eq_true am
    unfold Sn04Neutral.asked at ask
    rw [Bool.and_eq_true, Bool.and_eq_true] at ask
    have askF := ask.2.2
    have eput : ls = PyWide.put cs := (PyWide.put_calls _ _ _ ecs).1
    -- copies, told, start
    refine ⟨(by show 2 ≤ sizeLine; decide), fun lc hlc => ?_⟩
    have s1 := same_new (o := .lst [.non, .non]) hlc
    refine ⟨Nat.zero_le _, fun lt hlt => ?_⟩
    have s2 := same_new (o := .lst []) hlt
    have ne : lt ≠ lc := fun z => by rw [z, upd_same] at hlt; cases hlt
    have ft : H lt = none := s1.free hlt
    have sil : (ls.map V.int).length = ls.length := List.length_map ..
    have M0 : Mid C H ls lc lt (upd (upd H lc (.lst [.non, .non])) lt (.lst [])) 0 cs (fun _ => none) Sn04Neutral.start [] 0 :=
      ⟨eput, askF, ⟨s2 _ _ upd_same, trivial, trivial, fun b hb => (by cases hb), fun q => (by cases q), fun q => (by cases q)⟩, s1.trans s2, fun b hb => (by cases hb), fun b hb => (by cases hb), upd_same, by show 0 + cs.length ≤ 0 + 900; omega, by decide, by rw [eans]; rfl⟩
    refine ⟨fun m σ H' => ∃ (v4 v5 v6 v7 v8 : Option V) (st : Nat) (rest : List Sn04Neutral.Call) (o : Nat → Option Ad) (S : Sn04Neutral.S) (td : List Int) (n : Nat), σ = [some (.ref la), some (.ref lc), some (.ref lt), some (iv st), v4, v5, v6, v7, v8] ∧ m = rest.length ∧ Mid C H ls lc lt H' st rest o S td n,
      ⟨cs.length, none, none, none, none, none, 0, cs, _, _, _, _, rfl, rfl, M0⟩, ?_⟩
    rintro m σ H' ⟨v4, v5, v6, v7, v8, st, rest, o, S, td, n, rfl, rfl, M⟩
    have hS' := M.same.seq hS
    refine ⟨_, rfl, _, rfl, la, _, rfl, .inl hS', _, _, rfl, rfl, _, rfl, ?_⟩
    rw [sil]
    refine iteD (fun h1 => ?_) (fun h1 => ?_)
    · have h1 : st < ls.length := by omega
      cases rest with
      | nil =>
        exfalso
        have e := congrArg List.length M.dr
        rw [List.length_drop] at e
        have e : ls.length - st = 0 := e
        omega
      | cons c rest =>
        refine ⟨fun σ' H2 => ∃ m', m' < (c :: rest).length ∧ ∃ (v4 v5 v6 v7 v8 : Option V) (st : Nat) (rest : List Sn04Neutral.Call) (o : Nat → Option Ad) (S : Sn04Neutral.S) (td : List Int) (n : Nat), σ' = [some (.ref la), some (.ref lc), some (.ref lt), some (iv st), v4, v5, v6, v7, v8] ∧ m' = rest.length ∧ Mid C H ls lc lt H2 st rest o S td n, fun _ _ h => h, ?_⟩
        obtain ⟨fm, th⟩ := asked_call M.ask
        obtain ⟨wh, ns, xs, rfl, hxs⟩ := form_rows fm
        have dr := M.dr
        have dr : ls.drop st = PyWide.put1 ((wh :: ns) :: xs) ++ PyWide.put rest := dr
        rw [PyWide.put1_append] at dr
        obtain ⟨g1, g2, _⟩ := drop_at dr
        have g2 : ls.drop (st + 1) = (ns.length : Int) :: (ns ++ ((xs.length : Int) :: (PyFlat.putRows xs ++ PyWide.put rest))) := g2
        have g3 := (drop_at g2).2.1
        have g4 : ls.drop (st + 2 + ns.length) = (xs.length : Int) :: (PyFlat.putRows xs ++ PyWide.put rest) := drop_app g3
        obtain ⟨g5, g6, _⟩ := drop_at g4
        -- which
        refine ⟨_, rfl, _, rfl, la, _, _, _, rfl, rfl, hS', at_int g1, ?_⟩
        -- numbers
        refine ⟨_, rfl, _, rfl, _, _, rfl, rfl, la, ls, st + 1, ns, _, rfl, hS', g2, fun ln hln => ?_⟩
        have m1 := same_new (o := .lst (ns.map V.int)) hln
        -- start
        refine ⟨_, rfl, _, _, rfl, rfl, _, rfl, ln, _, rfl, .inl (SqL.of upd_same), _, _, rfl, rfl, ?_⟩
        have e1 : ((st : Int) + 2 + ((ns.map V.int).length : Nat)) = ((st + 2 + ns.length : Nat) : Int) := by
          rw [List.length_map]
          omega
        -- has_list
        refine ⟨_, rfl, _, rfl, la, _, _, _, rfl, rfl, m1.seq hS', at_of (j := st + 2 + ns.length) e1 (by rw [List.getElem?_map, g5]; rfl), rfl, ?_⟩
        -- start, data
        refine ⟨_, rfl, _, _, rfl, rfl, ?_⟩
        have e2 : ((st : Int) + 2 + ((ns.map V.int).length : Nat) + 1) = ((st + 2 + ns.length + 1 : Nat) : Int) := by
          rw [e1]
          omega
        refine ⟨Nat.zero_le _, fun l0 hl0 => ?_⟩
        have m2 := same_new (o := .lst []) hl0
        -- the call
        have nod : ∀ {H1 : Hp} {b : Addr}, Same H' H1 → H1 b = none → b ∉ footO (o 0) ∧ b ∉ footO (o 1) := fun {H1 b} sm e => ⟨M.two.c0.free (sm.free e), M.two.c1.free (sm.free e)⟩
        refine ⟨_, rfl, _, rfl, ?_⟩
        rcases hxs with rfl | ⟨b, rfl⟩
        · rw [show ((([] : List (List Int)).length : Nat) : Int) = 0 from rfl]
          refine wn (by decide) ?_
          obtain ⟨y0, y1⟩ := nod m1 hl0
          refine ⟨_, rfl, _, rfl, _, rfl, _, rfl, lc, ln, l0, o, S, wh, ns, [], rfl, M.two.same (m1.trans m2), m2 _ _ upd_same, upd_same, y0, y1, fm, th, fun H2 o' p t2 f2 hp hp' => ?_⟩
          obtain ⟨q1, q2, q3⟩ := M.after (st' := st + 2 + ns.length + 1) hlc ft ne (m1.trans m2) t2 f2 g6
          have np : p ≠ lt := fun z => by rw [z, m2 _ _ (m1 _ _ M.told)] at hp; cases hp
          refine ⟨_, rfl, .inl ⟨rfl, _, SqL.of q1⟩, _, rfl, p, _, rfl, .inl (SqL.of hp'), lt, _, _, rfl, rfl, q1, lineBig (by rw [List.length_map]; rw [List.length_append] at q3; omega), ?_⟩
          refine ⟨_, rfl, .inl ⟨rfl, _, SqL.of upd_same⟩, _, rfl, lt, p, _, _, rfl, rfl, upd_same, (upd_ne np).trans hp', Nat.le_of_lt (lineBig ?_), ?_⟩
          · rw [List.length_append, List.length_map, List.length_map]
            rw [List.length_append, List.length_cons] at q3
            show td.length + 1 + _ ≤ _
            omega
          · rw [upd_upd]
            have e3 : (td.map V.int ++ [V.int (((Sn04Neutral.step S [wh :: ns]).2.map V.int).length : Nat)]) ++ (Sn04Neutral.step S [wh :: ns]).2.map V.int = (td ++ ((Sn04Neutral.step S [wh :: ns]).2.length : Int) :: (Sn04Neutral.step S [wh :: ns]).2).map V.int := by
              rw [List.length_map, List.map_append, List.append_assoc]
              rfl
            rw [e3]
            exact ⟨rest.length, by simp, _, _, _, _, _, st + 2 + ns.length + 1, rest, o', _, _, _, st_eq e2, rfl, q2⟩
        · rw [show ((([b] : List (List Int)).length : Nat) : Int) = 1 from rfl]
          refine wy ?_
          have g7 : ls.drop (st + 2 + ns.length + 1) = (b.length : Int) :: (b ++ PyWide.put rest) := by
            rw [g6]
            show ((b.length : Int) :: b ++ []) ++ PyWide.put rest = _
            rw [List.append_nil]
            rfl
          have g8 := (drop_at g7).2.1
          have g9 : ls.drop (st + 2 + ns.length + 2 + b.length) = PyWide.put rest := drop_app g8
          refine ⟨_, rfl, _, rfl, la, ls, st + 2 + ns.length + 1, b, _, vs_eq e2, m2.seq (m1.seq hS'), g7, fun ld hld => ?_⟩
          have m3 := same_new (o := .lst (b.map V.int)) hld
          refine ⟨_, rfl, _, _, rfl, rfl, _, rfl, ld, _, rfl, .inl (SqL.of upd_same), _, _, rfl, rfl, ?_⟩
          have e4 : ((st : Int) + 2 + ((ns.map V.int).length : Nat) + 1 + 1 + ((b.map V.int).length : Nat)) = ((st + 2 + ns.length + 2 + b.length : Nat) : Int) := by
            rw [List.length_map, List.length_map]
            omega
          obtain ⟨y0, y1⟩ := nod (m1.trans m2) hld
          refine ⟨_, rfl, _, rfl, _, rfl, _, rfl, lc, ln, ld, o, S, wh, ns, [b], rfl, M.two.same ((m1.trans m2).trans m3), m3 _ _ (m2 _ _ upd_same), upd_same, y0, y1, fm, th, fun H2 o' p t2 f2 hp hp' => ?_⟩
          obtain ⟨q1, q2, q3⟩ := M.after (st' := st + 2 + ns.length + 2 + b.length) hlc ft ne ((m1.trans m2).trans m3) t2 f2 g9
          have np : p ≠ lt := fun z => by rw [z, m3 _ _ (m2 _ _ (m1 _ _ M.told))] at hp; cases hp
          refine ⟨_, rfl, .inl ⟨rfl, _, SqL.of q1⟩, _, rfl, p, _, rfl, .inl (SqL.of hp'), lt, _, _, rfl, rfl, q1, lineBig (by rw [List.length_map]; rw [List.length_append] at q3; omega), ?_⟩
          refine ⟨_, rfl, .inl ⟨rfl, _, SqL.of upd_same⟩, _, rfl, lt, p, _, _, rfl, rfl, upd_same, (upd_ne np).trans hp', Nat.le_of_lt (lineBig ?_), ?_⟩
          · rw [List.length_append, List.length_map, List.length_map]
            rw [List.length_append, List.length_cons] at q3
            show td.length + 1 + _ ≤ _
            omega
          · rw [upd_upd]
            have e3 : (td.map V.int ++ [V.int (((Sn04Neutral.step S [wh :: ns, b]).2.map V.int).length : Nat)]) ++ (Sn04Neutral.step S [wh :: ns, b]).2.map V.int = (td ++ ((Sn04Neutral.step S [wh :: ns, b]).2.length : Int) :: (Sn04Neutral.step S [wh :: ns, b]).2).map V.int := by
              rw [List.length_map, List.map_append, List.append_assoc]
              rfl
            rw [e3]
            exact ⟨rest.length, by simp, _, _, _, _, _, st + 2 + ns.length + 2 + b.length, rest, o', _, _, _, st_eq e4, rfl, q2⟩
    · have h1 : ls.length ≤ st := by omega
      have er : rest = [] := by
        cases rest with
        | nil => rfl
        | cons c rest =>
          exfalso
          obtain ⟨fm, _⟩ := asked_call M.ask
          obtain ⟨wh, ns, xs, rfl, _⟩ := form_rows fm
          have dr := M.dr
          rw [List.drop_of_length_le h1] at dr
          cases dr
      subst er
      refine ⟨_, rfl, ?_⟩
      refine k H' lt ?_
      rw [M.due]
      have e : td ++ PyFlat.told (PyFlat.played Sn04Neutral.step S []) = td := List.append_nil td
      rw [e]
      exact M.told
end
end Tp
end
section
set_option Elab.async false
set_option linter.all false
set_option maxRecDepth 100000
set_option maxHeartbeats 4000000
namespace Tp
open PySem PySem.Spec PyProof.Rows L2
open PySem.W (Codec)
section
variable {P : Program} {w : World} {K : PySem.W.Frag} {mg : Str → Option Value} {h : Heap}
/-! ### what the top has written -/
abbrev BindsAs (x : Str) (st : Stmt) (ps : List Str) : Prop := ∀ (kV doc pm : Value) (an : Option Addr) (cdv ct : Value) (us : List Value), us.length = ps.length → bindArgs (PySem.W.fnOf x x (defArgs st) (defBody st) (defScope st) .none kV doc pm an cdv ct) ⟨us, []⟩ = pure (ps.zip us)
theorem def_mk {x : Str} {st : Stmt} {ps : List Str} {f : Addr} {oc : Value} {od an : Option Addr} {sl : Array (Option Value)} {kV dc pm cd ct : Value} (hb : BindsAs x st ps) (X : K.In h) (G : h.Ns mainGlobals mg) (a : PySem.W.nsIn K mainGlobals x = some (some (.ref f)))
    (l : K.lookup f = some ⟨oc, od, .func (PySem.W.fnOf x x (defArgs st) (defBody st) (defScope st) .none kV dc pm an cd ct), sl⟩) (c : PySem.W.codeIn K cd x = true) (k : PySem.W.keepIn K (.ref f) = true) : Def K mg x st ps :=
  ⟨f, _, fun_mk l c k, PySem.W.mg_of X G a, (fun_mk l c k).binds hb⟩
theorem ba16 : BindsAs "number_of" (top 16) ["count", "site"] := fun _ _ _ _ _ _ us hl => match us, hl with | [_, _], _ => rfl
theorem ba17 : BindsAs "count_of" (top 17) ["number"] := fun _ _ _ _ _ _ us hl => match us, hl with | [_], _ => rfl
theorem ba18 : BindsAs "site_of" (top 18) ["number"] := fun _ _ _ _ _ _ us hl => match us, hl with | [_], _ => rfl
theorem ba19 : BindsAs "within" (top 19) ["value", "least", "most"] := fun _ _ _ _ _ _ us hl => match us, hl with | [_, _, _], _ => rfl
theorem ba20 : BindsAs "is_stretch" (top 20) ["copy", "start", "k"] := fun _ _ _ _ _ _ us hl => match us, hl with | [_, _, _], _ => rfl
theorem ba21 : BindsAs "four_bytes" (top 21) ["value"] := fun _ _ _ _ _ _ us hl => match us, hl with | [_], _ => rfl
theorem ba22 : BindsAs "from_four_bytes" (top 22) ["row", "start"] := fun _ _ _ _ _ _ us hl => match us, hl with | [_, _], _ => rfl
theorem ba23 : BindsAs "sixteen_bytes" (top 23) ["number", "change"] := fun _ _ _ _ _ _ us hl => match us, hl with | [_, _], _ => rfl
theorem ba24 : BindsAs "has_form" (top 24) ["row"] := fun _ _ _ _ _ _ us hl => match us, hl with | [_], _ => rfl
theorem ba25 : BindsAs "number_in" (top 25) ["row"] := fun _ _ _ _ _ _ us hl => match us, hl with | [_], _ => rfl
theorem ba26 : BindsAs "change_in" (top 26) ["row"] := fun _ _ _ _ _ _ us hl => match us, hl with | [_], _ => rfl
theorem ba27 : BindsAs "stand_behind" (top 27) ["follower", "number", "other"] := fun _ _ _ _ _ _ us hl => match us, hl with | [_, _, _], _ => rfl
theorem ba28 : BindsAs "keep" (top 28) ["copy", "number", "change"] := fun _ _ _ _ _ _ us hl => match us, hl with | [_, _, _], _ => rfl
theorem ba29 : BindsAs "show" (top 29) ["copy"] := fun _ _ _ _ _ _ us hl => match us, hl with | [_], _ => rfl
theorem ba30 : BindsAs "keep_all" (top 30) ["copy", "numbers", "changes"] := fun _ _ _ _ _ _ us hl => match us, hl with | [_, _, _], _ => rfl
theorem ba31 : BindsAs "has_no_room" (top 31) ["copy", "k"] := fun _ _ _ _ _ _ us hl => match us, hl with | [_, _], _ => rfl
theorem ba32 : BindsAs "own_numbers" (top 32) ["copy", "k"] := fun _ _ _ _ _ _ us hl => match us, hl with | [_, _], _ => rfl
theorem ba33 : BindsAs "open_copy" (top 33) ["copies", "which", "site"] := fun _ _ _ _ _ _ us hl => match us, hl with | [_, _, _], _ => rfl
theorem ba34 : BindsAs "put_bytes" (top 34) ["copy", "at", "k", "data"] := fun _ _ _ _ _ _ us hl => match us, hl with | [_, _, _, _], _ => rfl
theorem ba35 : BindsAs "take_bytes" (top 35) ["copy", "at", "k"] := fun _ _ _ _ _ _ us hl => match us, hl with | [_, _, _], _ => rfl
theorem ba36 : BindsAs "tell_text" (top 36) ["copy", "start", "k"] := fun _ _ _ _ _ _ us hl => match us, hl with | [_, _, _], _ => rfl
theorem ba37 : BindsAs "tell_number" (top 37) ["copy", "at"] := fun _ _ _ _ _ _ us hl => match us, hl with | [_, _], _ => rfl
theorem ba38 : BindsAs "tell_place" (top 38) ["copy", "count", "site"] := fun _ _ _ _ _ _ us hl => match us, hl with | [_, _, _], _ => rfl
theorem ba39 : BindsAs "tell_seen" (top 39) ["copy"] := fun _ _ _ _ _ _ us hl => match us, hl with | [_], _ => rfl
theorem ba40 : BindsAs "tell_news" (top 40) ["copy", "room", "seen"] := fun _ _ _ _ _ _ us hl => match us, hl with | [_, _, _], _ => rfl
theorem ba41 : BindsAs "may_be_new" (top 41) ["known", "greatest", "number", "change"] := fun _ _ _ _ _ _ us hl => match us, hl with | [_, _, _, _], _ => rfl
theorem ba42 : BindsAs "learn_changes" (top 42) ["copy", "n", "data"] := fun _ _ _ _ _ _ us hl => match us, hl with | [_, _, _], _ => rfl
theorem ba43 : BindsAs "join_copy" (top 43) ["copy", "other"] := fun _ _ _ _ _ _ us hl => match us, hl with | [_, _], _ => rfl
theorem ba44 : BindsAs "answer_call" (top 44) ["copies", "which", "numbers", "data"] := fun _ _ _ _ _ _ us hl => match us, hl with | [_, _, _, _], _ => rfl
theorem ba45 : BindsAs "counted_run" (top 45) ["calls", "start"] := fun _ _ _ _ _ _ us hl => match us, hl with | [_, _], _ => rfl
theorem txt_mk {C : Addr} {t0 t1 t2 t3 t4 t5 t6 t7 t8 t9 t10 t11 t12 t13 : Tok} (X : K.In h) (G : h.Ns mainGlobals mg)
    (pg : PySem.W.plainGet K C Str.empty = true) (hd : PySem.W.hasDictIn K C = true) (po : PySem.W.plainOver K C = true) (sa : PySem.W.findIn K (.ref C) "__setattr__" = some (some (.builtin "object.__setattr__")))
    (n0 : PySem.W.findIn K (.ref C) "site" = some none) (n1 : PySem.W.findIn K (.ref C) "known" = some none) (n2 : PySem.W.findIn K (.ref C) "greatest" = some none) (n3 : PySem.W.findIn K (.ref C) "follower" = some none) (n4 : PySem.W.findIn K (.ref C) "gone" = some none) (n5 : PySem.W.findIn K (.ref C) "shown" = some none) (aC : PySem.W.nsIn K mainGlobals "Copy" = some (some (.ref C)))
    (c0 : PySem.W.nsIn K mainGlobals "MOST_KNOWN" = some (some (.int 16384 t0))) (c1 : PySem.W.nsIn K mainGlobals "GREATEST_COUNT" = some (some (.int 4294967295 t1))) (c2 : PySem.W.nsIn K mainGlobals "SITES" = some (some (.int 256 t2))) (c3 : PySem.W.nsIn K mainGlobals "CHANGE_SIZE" = some (some (.int 16 t3))) (c4 : PySem.W.nsIn K mainGlobals "NOTHING" = some (some (.int 0 t4))) (c5 : PySem.W.nsIn K mainGlobals "PUTS_IN" = some (some (.int 1 t5))) (c6 : PySem.W.nsIn K mainGlobals "TAKES_OUT" = some (some (.int 2 t6))) (c7 : PySem.W.nsIn K mainGlobals "KIND" = some (some (.int 0 t7))) (c8 : PySem.W.nsIn K mainGlobals "BYTE" = some (some (.int 1 t8))) (c9 : PySem.W.nsIn K mainGlobals "OTHER" = some (some (.int 2 t9))) (c10 : PySem.W.nsIn K mainGlobals "TOO_MUCH" = some (some (.int (-1) t10))) (c11 : PySem.W.nsIn K mainGlobals "NOT_THERE" = some (some (.int (-1) t11))) (c12 : PySem.W.nsIn K mainGlobals "OUT_OF_RANGE" = some (some (.int (-2) t12))) (c13 : PySem.W.nsIn K mainGlobals "UNFIT" = some (some (.int (-3) t13)))
    (z0 : PySem.W.nsIn K mainGlobals "len" = some none) (z1 : PySem.W.nsIn K mainGlobals "max" = some none) (z2 : PySem.W.nsIn K mainGlobals "range" = some none) (z3 : PySem.W.nsIn K mainGlobals "zip" = some none) (z4 : PySem.W.nsIn K mainGlobals "sorted" = some none) (z5 : PySem.W.nsIn K mainGlobals "dict" = some none) (z6 : PySem.W.nsIn K mainGlobals "list" = some none) : Txt K mg C :=
  ⟨⟨pg, hd, po, sa⟩, n0, n1, n2, n3, n4, n5, PySem.W.mg_of X G aC, ⟨t0, PySem.W.mg_of X G c0⟩, ⟨t1, PySem.W.mg_of X G c1⟩, ⟨t2, PySem.W.mg_of X G c2⟩, ⟨t3, PySem.W.mg_of X G c3⟩, ⟨t4, PySem.W.mg_of X G c4⟩, ⟨t5, PySem.W.mg_of X G c5⟩, ⟨t6, PySem.W.mg_of X G c6⟩, ⟨t7, PySem.W.mg_of X G c7⟩, ⟨t8, PySem.W.mg_of X G c8⟩, ⟨t9, PySem.W.mg_of X G c9⟩, ⟨t10, PySem.W.mg_of X G c10⟩, ⟨t11, PySem.W.mg_of X G c11⟩, ⟨t12, PySem.W.mg_of X G c12⟩, ⟨t13, PySem.W.mg_of X G c13⟩, PySem.W.mg_none_of X G z0, PySem.W.mg_none_of X G z1, PySem.W.mg_none_of X G z2, PySem.W.mg_none_of X G z3, PySem.W.mg_none_of X G z4, PySem.W.mg_none_of X G z5, PySem.W.mg_none_of X G z6⟩
theorem all_mk {fa C fI f46 : Addr} {od1 an1 od2 an2 : Option Addr} {sl1 sl2 : Array (Option Value)} {oc1 kV1 dc1 pm1 cd1 ct1 oc2 kV2 dc2 pm2 cd2 ct2 : Value} (X : K.In h) (G : h.Ns mainGlobals mg) (hfa : mg "answers" = some (.ref fa)) (T : Txt K mg C)
    (mk : PySem.W.makesIn K C = true) (kc : PySem.W.keepIn K (.ref C) = true) (aI : PySem.W.findIn K (.ref C) "__init__" = some (some (.ref fI))) (iI : PySem.W.isFn K (.ref fI) = true)
    (lI : K.lookup fI = some ⟨oc1, od1, .func (PySem.W.fnOf "__init__" "Copy.__init__" (defArgs sInit) (defBody sInit) (defScope sInit) .none kV1 dc1 pm1 an1 cd1 ct1), sl1⟩) (cI : PySem.W.codeIn K cd1 "Copy.__init__" = true) (kI : PySem.W.keepIn K (.ref fI) = true)
    (d16 : Def K mg "number_of" (top 16) ["count", "site"])
    (d17 : Def K mg "count_of" (top 17) ["number"])
    (d18 : Def K mg "site_of" (top 18) ["number"])
    (d19 : Def K mg "within" (top 19) ["value", "least", "most"])
    (d20 : Def K mg "is_stretch" (top 20) ["copy", "start", "k"])
    (d21 : Def K mg "four_bytes" (top 21) ["value"])
    (d22 : Def K mg "from_four_bytes" (top 22) ["row", "start"])
    (d23 : Def K mg "sixteen_bytes" (top 23) ["number", "change"])
    (d24 : Def K mg "has_form" (top 24) ["row"])
    (d25 : Def K mg "number_in" (top 25) ["row"])
    (d26 : Def K mg "change_in" (top 26) ["row"])
    (d27 : Def K mg "stand_behind" (top 27) ["follower", "number", "other"])
    (d28 : Def K mg "keep" (top 28) ["copy", "number", "change"])
    (d29 : Def K mg "show" (top 29) ["copy"])
    (d30 : Def K mg "keep_all" (top 30) ["copy", "numbers", "changes"])
    (d31 : Def K mg "has_no_room" (top 31) ["copy", "k"])
    (d32 : Def K mg "own_numbers" (top 32) ["copy", "k"])
    (d33 : Def K mg "open_copy" (top 33) ["copies", "which", "site"])
    (d34 : Def K mg "put_bytes" (top 34) ["copy", "at", "k", "data"])
    (d35 : Def K mg "take_bytes" (top 35) ["copy", "at", "k"])
    (d36 : Def K mg "tell_text" (top 36) ["copy", "start", "k"])
    (d37 : Def K mg "tell_number" (top 37) ["copy", "at"])
    (d38 : Def K mg "tell_place" (top 38) ["copy", "count", "site"])
    (d39 : Def K mg "tell_seen" (top 39) ["copy"])
    (d40 : Def K mg "tell_news" (top 40) ["copy", "room", "seen"])
    (d41 : Def K mg "may_be_new" (top 41) ["known", "greatest", "number", "change"])
    (d42 : Def K mg "learn_changes" (top 42) ["copy", "n", "data"])
    (d43 : Def K mg "join_copy" (top 43) ["copy", "other"])
    (d44 : Def K mg "answer_call" (top 44) ["copies", "which", "numbers", "data"])
    (d45 : Def K mg "counted_run" (top 45) ["calls", "start"])
    (a46 : PySem.W.nsIn K mainGlobals "answers" = some (some (.ref f46))) (l46 : K.lookup f46 = some ⟨oc2, od2, .func (PySem.W.fnOf "answers" "answers" (defArgs (top 46)) (defBody (top 46)) (defScope (top 46)) .none kV2 dc2 pm2 an2 cd2 ct2), sl2⟩) (c46 : PySem.W.codeIn K cd2 "answers" = true) (k46 : PySem.W.keepIn K (.ref f46) = true) :
    ∃ fd : FuncData, (∀ (s : Shared) (us : List Value), us.length = (["calls"] : List Str).length → BindsTo s fd ⟨us, []⟩ ((["calls"] : List Str).zip us)) ∧ ∀ base : Heap, K.In base → base.Ns mainGlobals mg → FnOk P w K mg base CX0 6 fa fd ["calls"] (spAns K) := by
  have e := hfa.symm.trans (PySem.W.mg_of X G a46)
  cases e
  refine ⟨PySem.W.fnOf "answers" "answers" (defArgs (top 46)) (defBody (top 46)) (defScope (top 46)) .none kV2 dc2 pm2 an2 cd2 ct2, fun s us hu => match us, hu with | [_], _ => .of_eq rfl, fun base _ _ => ?_⟩
  have FI := fun_mk (st := sInit) lI cI kI
  have bI := FI.binds (ps := ["self", "site"]) fun _ _ _ _ _ _ us hl => match us, hl with | [_, _], _ => rfl
  have hI : HasInit P w K mg base C := ⟨fI, _, ⟨mk, aI, iI, kc⟩, ok_init FI T, bI⟩
  have e16 : Has P w K mg base 1 "number_of" ["count", "site"] spNumberOf := ok_number_of d16 T
  have e17 : Has P w K mg base 1 "count_of" ["number"] spCountOf := ok_count_of d17 T
  have e18 : Has P w K mg base 1 "site_of" ["number"] spSiteOf := ok_site_of d18 T
  have e19 : Has P w K mg base 1 "within" ["value", "least", "most"] spWithin := ok_within d19
  have e20 : Has P w K mg base 1 "is_stretch" ["copy", "start", "k"] (spStretch C) := ok_is_stretch d20 T
  have e21 : Has P w K mg base 1 "four_bytes" ["value"] spFour := ok_four d21
  have e22 : Has P w K mg base 1 "from_four_bytes" ["row", "start"] (spFrom K) := ok_from d22
  have e23 : Has P w K mg base 2 "sixteen_bytes" ["number", "change"] spSixteen := ok_sixteen d23 T e18 e17 e21
  have e24 : Has P w K mg base 1 "has_form" ["row"] (spForm K) := ok_form d24 T
  have e25 : Has P w K mg base 2 "number_in" ["row"] (spNumIn K) := ok_number_in d25 e16 e22
  have e26 : Has P w K mg base 2 "change_in" ["row"] (spChIn K) := ok_change_in d26 e16 e22
  have e27 : Has P w K mg base 1 "stand_behind" ["follower", "number", "other"] spStand := ok_stand d27
  have e28 : Has P w K mg base 2 "keep" ["copy", "number", "change"] (spKeep C) := ok_keep d28 T e18 e17 e27
  have e29 : Has P w K mg base 1 "show" ["copy"] (spShow C) := ok_show d29 T
  have e30 : Has P w K mg base 3 "keep_all" ["copy", "numbers", "changes"] (spKeepAll C) := ok_keep_all d30 T e28 e29
  have e31 : Has P w K mg base 1 "has_no_room" ["copy", "k"] (spNoRoom C) := ok_no_room d31 T
  have e32 : Has P w K mg base 2 "own_numbers" ["copy", "k"] (spOwn C) := ok_own d32 T e16
  have e33 : Has P w K mg base 3 "open_copy" ["copies", "which", "site"] (spOpen C) := ok_open d33 T e19 hI
  have e34 : Has P w K mg base 3 "put_bytes" ["copy", "at", "k", "data"] (spPut C) := ok_put d34 T e19 e31 e32 e28
  have e35 : Has P w K mg base 3 "take_bytes" ["copy", "at", "k"] (spTake C) := ok_take d35 T e20 e31 e32 e28
  have e36 : Has P w K mg base 2 "tell_text" ["copy", "start", "k"] (spText C) := ok_text d36 T e20
  have e37 : Has P w K mg base 2 "tell_number" ["copy", "at"] (spId C) := ok_id d37 T e19 e18 e17
  have e38 : Has P w K mg base 2 "tell_place" ["copy", "count", "site"] (spPlace C) := ok_place d38 T e16
  have e39 : Has P w K mg base 1 "tell_seen" ["copy"] (spSeen C) := ok_seen d39 T
  have e40 : Has P w K mg base 3 "tell_news" ["copy", "room", "seen"] (spNews C) := ok_news d40 T e19 e18 e17 e23
  have e41 : Has P w K mg base 2 "may_be_new" ["known", "greatest", "number", "change"] spMay := ok_may d41 T e18 e17
  have e42 : Has P w K mg base 4 "learn_changes" ["copy", "n", "data"] (spLearn C) := ok_learn d42 T e19 e18 e17 e24 e25 e26 e41 e30
  have e43 : Has P w K mg base 4 "join_copy" ["copy", "other"] (spJoin C) := ok_join d43 T e30
  have e44 : Has P w K mg base 5 "answer_call" ["copies", "which", "numbers", "data"] (spCall C) := ok_call d44 T e33 e34 e35 e36 e37 e38 e39 e40 e42 e43
  have e45 : Has P w K mg base 1 "counted_run" ["calls", "start"] (spRun K) := ok_run d45
  exact ok_ans (fun_mk l46 c46 k46) T e45 e44
end
end Tp
end
open PySem PySem.W PyProof.Rows
set_option Elab.async false
set_option maxRecDepth 100000 in
set_option maxHeartbeats 0 in
theorem PySem.Challenge.cw_textcopies_s01_answers_holds : PySem.Challenge.rw_textcopies_s01_answers.Holds := by
  w_on; k_headS; (case hw => exact ⟨[.list [.int 0, .int 2, .int 0, .int 1, .int 0]], by decide +kernel, by decide +kernel⟩)
  k_fillS
  refine L2.walk_specK (r := PySem.Challenge.rw_textcopies_s01_answers) (k := 6) (CX := L2.CX0) (ps := ["calls"]) (sp := Tp.spAns) (by decide +kernel) rfl rfl ⟨rfl, by decide, by decide⟩ (fun w h Y => PySem.W.kIn_of Y) ?F ?S (fun _ _ _ _ z => z)
  case F =>
    intro w mg fa h Y KX G hmg
    refine' Tp.all_mk KX G hmg (Tp.txt_mk KX G ?pg ?hd ?po ?sa ?n0 ?n1 ?n2 ?n3 ?n4 ?n5 ?aC ?c0 ?c1 ?c2 ?c3 ?c4 ?c5 ?c6 ?c7 ?c8 ?c9 ?c10 ?c11 ?c12 ?c13 ?z0 ?z1 ?z2 ?z3 ?z4 ?z5 ?z6) ?mk ?kc ?aI ?iI ?lI ?cI ?kI (Tp.def_mk Tp.ba16 KX G ?a16 ?l16 ?e16 ?k16) (Tp.def_mk Tp.ba17 KX G ?a17 ?l17 ?e17 ?k17) (Tp.def_mk Tp.ba18 KX G ?a18 ?l18 ?e18 ?k18) (Tp.def_mk Tp.ba19 KX G ?a19 ?l19 ?e19 ?k19) (Tp.def_mk Tp.ba20 KX G ?a20 ?l20 ?e20 ?k20) (Tp.def_mk Tp.ba21 KX G ?a21 ?l21 ?e21 ?k21) (Tp.def_mk Tp.ba22 KX G ?a22 ?l22 ?e22 ?k22) (Tp.def_mk Tp.ba23 KX G ?a23 ?l23 ?e23 ?k23) (Tp.def_mk Tp.ba24 KX G ?a24 ?l24 ?e24 ?k24) (Tp.def_mk Tp.ba25 KX G ?a25 ?l25 ?e25 ?k25) (Tp.def_mk Tp.ba26 KX G ?a26 ?l26 ?e26 ?k26) (Tp.def_mk Tp.ba27 KX G ?a27 ?l27 ?e27 ?k27) (Tp.def_mk Tp.ba28 KX G ?a28 ?l28 ?e28 ?k28) (Tp.def_mk Tp.ba29 KX G ?a29 ?l29 ?e29 ?k29) (Tp.def_mk Tp.ba30 KX G ?a30 ?l30 ?e30 ?k30) (Tp.def_mk Tp.ba31 KX G ?a31 ?l31 ?e31 ?k31) (Tp.def_mk Tp.ba32 KX G ?a32 ?l32 ?e32 ?k32) (Tp.def_mk Tp.ba33 KX G ?a33 ?l33 ?e33 ?k33) (Tp.def_mk Tp.ba34 KX G ?a34 ?l34 ?e34 ?k34) (Tp.def_mk Tp.ba35 KX G ?a35 ?l35 ?e35 ?k35) (Tp.def_mk Tp.ba36 KX G ?a36 ?l36 ?e36 ?k36) (Tp.def_mk Tp.ba37 KX G ?a37 ?l37 ?e37 ?k37) (Tp.def_mk Tp.ba38 KX G ?a38 ?l38 ?e38 ?k38) (Tp.def_mk Tp.ba39 KX G ?a39 ?l39 ?e39 ?k39) (Tp.def_mk Tp.ba40 KX G ?a40 ?l40 ?e40 ?k40) (Tp.def_mk Tp.ba41 KX G ?a41 ?l41 ?e41 ?k41) (Tp.def_mk Tp.ba42 KX G ?a42 ?l42 ?e42 ?k42) (Tp.def_mk Tp.ba43 KX G ?a43 ?l43 ?e43 ?k43) (Tp.def_mk Tp.ba44 KX G ?a44 ?l44 ?e44 ?k44) (Tp.def_mk Tp.ba45 KX G ?a45 ?l45 ?e45 ?k45) ?a46 ?l46 ?e46 ?k46
    (case aC => k_is); (case pg => k_is); (case hd => k_is); (case po => k_is); (case sa => k_is); (case n0 => k_is); (case n1 => k_is); (case n2 => k_is)
    (case n3 => k_is); (case n4 => k_is); (case n5 => k_is); (case c0 => k_is); (case c1 => k_is); (case c2 => k_is); (case c3 => k_is); (case c4 => k_is)
    (case c5 => k_is); (case c6 => k_is); (case c7 => k_is); (case c8 => k_is); (case c9 => k_is); (case c10 => k_is); (case c11 => k_is); (case c12 => k_is)
    (case c13 => k_is); (case z0 => k_is); (case z1 => k_is); (case z2 => k_is); (case z3 => k_is); (case z4 => k_is); (case z5 => k_is); (case z6 => k_is)
    (case mk => k_is); (case kc => k_is); (case aI => k_is); (case iI => k_is); (case lI => k_is); (case cI => k_is); (case kI => k_is); (case a16 => k_is)
    (case l16 => k_is); (case e16 => k_is); (case k16 => k_is); (case a17 => k_is); (case l17 => k_is); (case e17 => k_is); (case k17 => k_is); (case a18 => k_is)
    (case l18 => k_is); (case e18 => k_is); (case k18 => k_is); (case a19 => k_is); (case l19 => k_is); (case e19 => k_is); (case k19 => k_is); (case a20 => k_is)
    (case l20 => k_is); (case e20 => k_is); (case k20 => k_is); (case a21 => k_is); (case l21 => k_is); (case e21 => k_is); (case k21 => k_is); (case a22 => k_is)
    (case l22 => k_is); (case e22 => k_is); (case k22 => k_is); (case a23 => k_is); (case l23 => k_is); (case e23 => k_is); (case k23 => k_is); (case a24 => k_is)
    (case l24 => k_is); (case e24 => k_is); (case k24 => k_is); (case a25 => k_is); (case l25 => k_is); (case e25 => k_is); (case k25 => k_is); (case a26 => k_is)
    (case l26 => k_is); (case e26 => k_is); (case k26 => k_is); (case a27 => k_is); (case l27 => k_is); (case e27 => k_is); (case k27 => k_is); (case a28 => k_is)
    (case l28 => k_is); (case e28 => k_is); (case k28 => k_is); (case a29 => k_is); (case l29 => k_is); (case e29 => k_is); (case k29 => k_is); (case a30 => k_is)
    (case l30 => k_is); (case e30 => k_is); (case k30 => k_is); (case a31 => k_is); (case l31 => k_is); (case e31 => k_is); (case k31 => k_is); (case a32 => k_is)
    (case l32 => k_is); (case e32 => k_is); (case k32 => k_is); (case a33 => k_is); (case l33 => k_is); (case e33 => k_is); (case k33 => k_is); (case a34 => k_is)
    (case l34 => k_is); (case e34 => k_is); (case k34 => k_is); (case a35 => k_is); (case l35 => k_is); (case e35 => k_is); (case k35 => k_is); (case a36 => k_is)
    (case l36 => k_is); (case e36 => k_is); (case k36 => k_is); (case a37 => k_is); (case l37 => k_is); (case e37 => k_is); (case k37 => k_is); (case a38 => k_is)
    (case l38 => k_is); (case e38 => k_is); (case k38 => k_is); (case a39 => k_is); (case l39 => k_is); (case e39 => k_is); (case k39 => k_is); (case a40 => k_is)
    (case l40 => k_is); (case e40 => k_is); (case k40 => k_is); (case a41 => k_is); (case l41 => k_is); (case e41 => k_is); (case k41 => k_is); (case a42 => k_is)
    (case l42 => k_is); (case e42 => k_is); (case k42 => k_is); (case a43 => k_is); (case l43 => k_is); (case e43 => k_is); (case k43 => k_is); (case a44 => k_is)
    (case l44 => k_is); (case e44 => k_is); (case k44 => k_is); (case a45 => k_is); (case l45 => k_is); (case e45 => k_is); (case k45 => k_is); (case a46 => k_is)
    (case l46 => k_is); (case e46 => k_is); (case k46 => k_is)
  case S =>
    intro K H xs a hO hwi hask hx
    cases hx with
    | cons h1 h2 =>
      cases h2
      cases h1 with
      | lst hs ha =>
        have e := L2.ints_dw a.1 _ ha
        subst e
        exact ⟨_, a.1, rfl, hs, hask, fun H' p hp => .lst (L2.SqL.of hp) (L2.dw_ints _)⟩
#print axioms PySem.Challenge.cw_textcopies_s01_answers_holds
