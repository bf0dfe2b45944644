import PyProof.Rows.All
import Wide.All
import OpenK.AllK
import Wide.FinOn
import PyProof.EqAt
import PyProof.EqKinds
import PyProof.TupleCall
import KE.BitLaws
import PySf46
import PyProof.DictRoadsH
import PyProof.MeetsDictList
import KE.KDictSum
import KE.KSortTupG
import Open.SpecLaws
import KE.OsHead
import KE.OsGo
import PySem.Challenge.RW_pathrouter_s01_answers
set_option compiler.extract_closed false
set_option genSizeOf false
section
set_option Elab.async false
set_option linter.all false
set_option maxRecDepth 100000
namespace L2
open PySem PySem.Spec PyProof.Rows
noncomputable abbrev Key := Sum Int Str
noncomputable def keyIs : Key → Value → Bool
  | .inl k, v => Value.isInt k v
  | .inr x, v => Value.isStrOf x v
noncomputable def keyH (w : World) : Key → Int
  | .inl k => hashInt k
  | .inr x => hashStr w x
theorem keyIs_shape : ∀ {k : Key} {v : Value}, keyIs k v = true → (∃ i t, k = Sum.inl i ∧ v = Value.int i t) ∨ (∃ x t, k = Sum.inr x ∧ v = Value.str x t)
  | .inl i, v, h => by
    obtain ⟨t, e⟩ := Value.isInt_shape (k := i) (v := v) h
    exact .inl ⟨i, t, rfl, e⟩
  | .inr x, v, h => by
    obtain ⟨t, e⟩ := Value.isStrOf_shape (x := x) (v := v) h
    exact .inr ⟨x, t, rfl, e⟩
theorem keyIs_int (i : Int) (t : Tok) : keyIs (.inl i) (.int i t) = true := by simp [keyIs, Value.isInt]
theorem keyIs_str (x : Str) (t : Tok) : keyIs (.inr x) (.str x t) = true := by simp [keyIs, Value.isStrOf]
theorem key_ll (a b : Int) : decide ((Sum.inl a : Key) = Sum.inl b) = (a == b) := by
  by_cases e : a = b
  · subst e; simp
  · have h : ¬ (Sum.inl a : Key) = Sum.inl b := fun q => e (Sum.inl.inj q)
    rw [decide_eq_false h]
    exact (beq_eq_false_iff_ne.mpr e).symm
theorem key_rr (a b : Str) : decide ((Sum.inr a : Key) = Sum.inr b) = decide (a = b) := by
  by_cases e : a = b
  · subst e; simp
  · have h : ¬ (Sum.inr a : Key) = Sum.inr b := fun q => e (Sum.inr.inj q)
    rw [decide_eq_false h, decide_eq_false e]
theorem key_lr (a : Int) (b : Str) : decide ((Sum.inl a : Key) = Sum.inr b) = false := decide_eq_false (fun q => nomatch q)
theorem key_rl (a : Str) (b : Int) : decide ((Sum.inr a : Key) = Sum.inl b) = false := decide_eq_false (fun q => nomatch q)
noncomputable def mixKind (prog : Program) (w : World) : PySem.KeyKind prog w Key where
  is := keyIs
  hash := keyH w
  inj := fun v a b ha hb => by
    rcases keyIs_shape ha with ⟨i, t, rfl, rfl⟩ | ⟨x, t, rfl, rfl⟩
    · rcases keyIs_shape hb with ⟨j, u, rfl, e⟩ | ⟨y, u, rfl, e⟩
      · injection e with e1 _; rw [e1]
      · exact nomatch e
    · rcases keyIs_shape hb with ⟨j, u, rfl, e⟩ | ⟨y, u, rfl, e⟩
      · exact nomatch e
      · injection e with e1 _; rw [e1]
  byValue := fun k v h => by
    rcases keyIs_shape h with ⟨i, t, rfl, rfl⟩ | ⟨x, t, rfl, rfl⟩ <;> rfl
  pyHash := fun hv h => by
    rcases keyIs_shape hv with ⟨i, t, rfl, rfl⟩ | ⟨x, t, rfl, rfl⟩
    · exact wpAny_pyHash_int h
    · exact wpAny_pyHash_str h
  eqBool := fun hu hv h => by
    rcases keyIs_shape hu with ⟨i, t, rfl, rfl⟩ | ⟨x, t, rfl, rfl⟩
    · rcases keyIs_shape hv with ⟨j, u, rfl, rfl⟩ | ⟨y, u, rfl, rfl⟩
      · rw [key_ll] at h; exact wpAny_eqBool_int h
      · rw [key_lr] at h; exact SeqAt.EqAt.int_str i t y u _ _ _ _ h
    · rcases keyIs_shape hv with ⟨j, u, rfl, rfl⟩ | ⟨y, u, rfl, rfl⟩
      · rw [key_rl] at h; exact SeqAt.EqAt.str_int x t j u _ _ _ _ h
      · rw [key_rr] at h; exact wpAny_eqBool_str h
  «strs» := fun k x t v h => by
    rcases keyIs_shape h with ⟨i, u, rfl, e⟩ | ⟨y, u, rfl, e⟩
    · exact nomatch e
    · injection e with e1 _
      subst e1
      cases v <;> rfl
theorem mixKind_int (prog : Program) (w : World) (i : Int) (t : Tok) : (mixKind prog w).is (.inl i) (.int i t) = true := keyIs_int i t
theorem mixKind_str (prog : Program) (w : World) (x : Str) (t : Tok) : (mixKind prog w).is (.inr x) (.str x t) = true := keyIs_str x t
end L2
namespace L2
open PySem PySem.Spec PyProof.Rows
inductive V where
  | non | bl (b : Bool) | int (i : Int) | str (x : Str) | byt (b : Array UInt8) | flt (b : UInt64) | ref (a : Addr) | ty (n : String)
  deriving DecidableEq
noncomputable def RelV : V → Value → Prop
  | .non, u => u = Value.none
  | .bl b, u => u = Value.bool b
  | .int i, u => ∃ t, u = Value.int i t
  | .str x, u => ∃ t, u = Value.str x t
  | .byt b, u => ∃ t, u = Value.bytes b t
  | .flt b, u => ∃ t, u = Value.float b t
  | .ref a, u => u = Value.ref a
  | .ty n, u => u = Value.type n
noncomputable abbrev Vals : List V → List Value → Prop := Paired RelV
theorem Vals.length {xs : List V} {us : List Value} (r : Vals xs us) : xs.length = us.length := Paired.length r
theorem Vals.get : ∀ {xs : List V} {us : List Value} {i : Nat} {x : V}, Vals xs us → xs[i]? = some x → ∃ u, us[i]? = some u ∧ RelV x u
  | _, _, _, _, .nil, e => by simp at e
  | _, _, 0, _, .cons r _, e => by simp at e; subst e; exact ⟨_, rfl, r⟩
  | _, _, i + 1, x, .cons _ t, e => by
    obtain ⟨u, h1, h2⟩ := Vals.get (i := i) (x := x) t (by simpa using e)
    exact ⟨u, by simpa using h1, h2⟩
theorem Vals.set {x : V} {u : Value} (r : RelV x u) : ∀ {xs : List V} {us : List Value} (i : Nat), Vals xs us → Vals (xs.set i x) (us.set i u)
  | _, _, _, .nil => .nil
  | _, _, 0, .cons _ t => .cons r t
  | _, _, i + 1, .cons q t => .cons q (Vals.set r i t)
theorem Vals.append : ∀ {xs ys : List V} {us ws : List Value}, Vals xs us → Vals ys ws → Vals (xs ++ ys) (us ++ ws)
  | _, _, _, _, .nil, s => s
  | _, _, _, _, .cons r t, s => .cons r (Vals.append t s)
theorem Vals.take : ∀ {xs : List V} {us : List Value} (n : Nat), Vals xs us → Vals (xs.take n) (us.take n)
  | _, _, 0, _ => .nil
  | _, _, _ + 1, .nil => .nil
  | _, _, n + 1, .cons r t => .cons r (Vals.take n t)
theorem Vals.drop : ∀ {xs : List V} {us : List Value} (n : Nat), Vals xs us → Vals (xs.drop n) (us.drop n)
  | _, _, 0, r => r
  | _, _, _ + 1, .nil => .nil
  | _, _, n + 1, .cons _ t => Vals.drop n t
noncomputable def RelO : Option V → Option Value → Prop
  | some v, some u => RelV v u
  | none, none => True
  | _, _ => False
noncomputable def KV {κ : Type} : List (κ × V) → List (κ × Value) → Prop := Paired fun (p : κ × V) (q : κ × Value) => p.1 = q.1 ∧ RelV p.2 q.2
noncomputable def kV : Key → V
  | .inl i => .int i
  | .inr x => .str x
inductive HO where
  | lst (xs : List V)
  | tup (xs : List V)
  | dK (kvs : List (Key × V)) | dT (kvs : List (List Key × V))
  | set (S : Int → Bool) (n : Nat)
  | ins (C dx : Addr) (fs : List (Str × V))
  | own (x : Addr)
  | xd (fs : List (Str × V))
  | met (f x : Addr)
  | rng (lo hi : Int)
  | frz (o : Obj) (u : HO)
  | tbl (ps : Array Value)
  | ext (φ : Heap → Prop)
noncomputable abbrev Hp := Addr → Option HO
noncomputable def upd (H : Hp) (a : Addr) (o : HO) : Hp := fun b => if b = a then some o else H b
theorem upd_same {H : Hp} {a : Addr} {o : HO} : upd H a o a = some o := by unfold upd; rw [if_pos rfl]
theorem upd_ne {H : Hp} {a b : Addr} {o : HO} (h : b ≠ a) : upd H a o b = H b := by unfold upd; rw [if_neg h]
theorem upd_upd {H : Hp} {a : Addr} {o u : HO} : upd (upd H a o) a u = upd H a u := by
  funext b; unfold upd; split <;> rfl
theorem ne_of {H : Hp} {a b : Addr} {o u : HO} (h : H a = some o) (h' : H b = some u) (d : o ≠ u) : a ≠ b := by
  intro e; subst e; rw [h] at h'; exact d (Option.some.inj h')
theorem ne_of_none {H : Hp} {a b : Addr} {o : HO} (h : H a = some o) (h' : H b = none) : a ≠ b := by
  intro e; subst e; rw [h] at h'; cases h'
section
variable (P : Program) (w : World)
noncomputable def ObjOk (H : Hp) (h : Heap) (a : Addr) : HO → Prop
  | .lst xs => xs.length ≤ sizeLine ∧ ∃ (its : List Value) (n : Nat), Vals xs its ∧ h.get? a = some { cls := .type "list", data := .seq its.toArray n }
  | .tup xs => xs.length ≤ sizeLine ∧ ∃ its : List Value, Vals xs its ∧ IsTup h a its.toArray
  | .dK kvs => kvs.length ≤ sizeLine ∧ (a == sysModules) = false ∧ ∃ vs, KV kvs vs ∧ h.DictOf (mixKind P w) a vs
  | .dT kvs => kvs.length ≤ sizeLine ∧ (a == sysModules) = false ∧ ∃ xs : List (List Key × Addr × Value),
      Paired (fun (p : List Key × V) (q : List Key × Addr × Value) => p.1 = q.1 ∧ H q.2.1 = some (.tup (p.1.map kV)) ∧ RelV p.2 q.2.2) kvs xs ∧
      ∃ o es ep, h.get? a = some o ∧ o.ExactDict ∧ o.data = .dict es ep ∧ es.toList = xs.map (entryOfKey (tupleKind (mixKind P w))) ∧ (xs.map (·.1)).Nodup
  | .set S n => h.SetOf (intKind P w) a S n
  | .ins C dx fs => H dx = some (.own a) ∧ fs.length ≤ 1000 ∧ dx ≠ a ∧ h.get? a = some (PySem.W.instObj C dx) ∧
      ∃ mA, h.Ns1 dx mA ∧ (∀ f, RelO (fs.lookup f) (mA f)) ∧ PySem.Within mA (fs.map (·.1))
  | .own _ => ∃ o, h.get? a = some o
  | .xd fs => ∃ mA, h.Ns1 a mA ∧ ∀ f, RelO (fs.lookup f) (mA f)
  | .rng lo hi => ∃ t u v, h.get? a = some { cls := .type "range", data := .fields #[.int lo t, .int hi u, .int 1 v] }
  | .frz o u => h.get? a = some o ∧ ObjOk H h a u
  | .tbl ps => h.get? a = some { cls := .none, data := .fields ps }
  | .met f x => h.get? a = some (PySem.W.methodObj (.ref f) (.ref x))
  | .ext φ => φ h ∧ (∃ o, h.get? a = some o) ∧ ∀ h1 h2 : Heap, φ h1 → (∀ o, h1.get? a = some o → h2.get? a = some o) → φ h2
noncomputable def HOk (H : Hp) (h : Heap) : Prop := ∀ a o, H a = some o → ObjOk P w H h a o
end
section
variable {P : Program} {w : World} {H H' : Hp} {h h' : Heap} {a : Addr} {o : HO}
theorem ObjOk.lt (x : ObjOk P w H h a o) : a < h.objs.size := by
  cases o with
  | lst xs => obtain ⟨_, _, _, _, e⟩ := x; exact Heap.lt_size e
  | tup xs => obtain ⟨_, _, _, p⟩ := x; exact p.lt
  | dK kvs => obtain ⟨_, _, _, _, o, _, _, e, _⟩ := x; exact Heap.lt_size e
  | dT kvs => obtain ⟨_, _, _, _, o, _, _, e, _⟩ := x; exact Heap.lt_size e
  | set S n => obtain ⟨o, _, _, _, e, _⟩ := x; exact Heap.lt_size e
  | ins C dx fs => obtain ⟨_, _, _, e, _⟩ := x; exact Heap.lt_size e
  | own y => obtain ⟨_, e⟩ := x; exact Heap.lt_size e
  | xd fs => obtain ⟨_, ⟨_, _, _, e, _⟩, _⟩ := x; exact Heap.lt_size e
  | rng lo hi => obtain ⟨_, _, _, e⟩ := x; exact Heap.lt_size e
  | frz ob u => obtain ⟨e, _⟩ := x; exact Heap.lt_size e
  | tbl ps => exact Heap.lt_size (show h.get? a = some _ from x)
  | met f y => exact Heap.lt_size (show h.get? a = some _ from x)
  | ext φ => obtain ⟨_, ⟨_, e⟩, _⟩ := x; exact Heap.lt_size e
theorem Paired.mapP {α β : Type} {F G : α → β → Prop} : ∀ {l₁ : List α} {l₂ : List β}, Paired F l₁ l₂ → (∀ a b, F a b → G a b) → Paired G l₁ l₂
  | _, _, .nil, _ => .nil
  | _, _, .cons r t, f => .cons (f _ _ r) (Paired.mapP t f)
theorem ObjOk.stay (x : ObjOk P w H h a o) (k : ∀ b u, (b = a ∨ H b = some (.own a)) → h.get? b = some u → h'.get? b = some u)
    (ho : ∀ b, H b = some (.own a) → H' b = some (.own a)) (ht : ∀ b xs, H b = some (.tup xs) → H' b = some (.tup xs)) : ObjOk P w H' h' a o := by
  induction o with
  | lst xs => obtain ⟨z, its, n, r, e⟩ := x; exact ⟨z, its, n, r, k _ _ (.inl rfl) e⟩
  | tup xs => obtain ⟨z, its, r, ob, e, c⟩ := x; exact ⟨z, its, r, ob, k _ _ (.inl rfl) e, c⟩
  | dK kvs => obtain ⟨z, y, vs, r, ob, es, ep, e, c⟩ := x; exact ⟨z, y, vs, r, ob, es, ep, k _ _ (.inl rfl) e, c⟩
  | dT kvs =>
    obtain ⟨z, y, xs, r, ob, es, ep, e, c⟩ := x
    exact ⟨z, y, xs, Paired.mapP r fun p q z => ⟨z.1, ht _ _ z.2.1, z.2.2⟩, ob, es, ep, k _ _ (.inl rfl) e, c⟩
  | set S n => obtain ⟨ob, es, ep, t, e, c⟩ := x; exact ⟨ob, es, ep, t, k _ _ (.inl rfl) e, c⟩
  | ins C dx fs =>
    obtain ⟨d, z, ne, e, mA, ⟨od, es, ep, e2, c⟩, r⟩ := x
    exact ⟨ho _ d, z, ne, k _ _ (.inl rfl) e, mA, ⟨od, es, ep, k _ _ (.inr d) e2, c⟩, r⟩
  | own y => obtain ⟨ob, e⟩ := x; exact ⟨ob, k _ _ (.inl rfl) e⟩
  | xd fs => obtain ⟨mA, ⟨od, es, ep, e, c⟩, r⟩ := x; exact ⟨mA, ⟨od, es, ep, k _ _ (.inl rfl) e, c⟩, r⟩
  | rng lo hi => obtain ⟨t, u, v, e⟩ := x; exact ⟨t, u, v, k _ _ (.inl rfl) e⟩
  | frz ob u ih => obtain ⟨e, q⟩ := x; exact ⟨k _ _ (.inl rfl) e, ih q⟩
  | tbl ps =>
    have e : h.get? a = some { cls := .none, data := .fields ps } := x
    show h'.get? a = some { cls := .none, data := .fields ps }
    exact k a _ (.inl rfl) e
  | met f y =>
    have e : h.get? a = some (PySem.W.methodObj (.ref f) (.ref y)) := x
    show h'.get? a = some (PySem.W.methodObj (.ref f) (.ref y))
    exact k a _ (.inl rfl) e
  | ext φ => obtain ⟨p, ⟨o, e⟩, st⟩ := x; exact ⟨st _ _ p fun o q => k _ _ (.inl rfl) q, ⟨o, k _ _ (.inl rfl) e⟩, st⟩
theorem HOk.lt (x : HOk P w H h) (e : H a = some o) : a < h.objs.size := (x a o e).lt
theorem HOk.fresh (x : HOk P w H h) (e : h.objs.size ≤ a) : H a = none := by
  cases q : H a with
  | none => rfl
  | some u => exact absurd (Nat.lt_of_lt_of_le (x.lt q) e) (Nat.lt_irrefl _)
theorem HOk.kept (x : HOk P w H h) (k : ∀ b u, h.get? b = some u → h'.get? b = some u) : HOk P w H h' := fun a o e =>
  (x a o e).stay (fun b u _ q => k b u q) (fun _ q => q) fun _ _ q => q
theorem HOk.laid (x : HOk P w H h) (k : ∀ b u, h.get? b = some u → h'.get? b = some u) (hp : h.objs.size ≤ a) (new : ObjOk P w (upd H a o) h' a o) : HOk P w (upd H a o) h' := fun b u e => by
  have hn := x.fresh hp
  by_cases hb : b = a
  · subst hb; rw [upd_same] at e; cases e; exact new
  · rw [upd_ne hb] at e
    exact (x b u e).stay (fun c v _ q => k c v q) (fun c q => by rw [upd_ne (ne_of_none q hn)]; exact q) fun c xs q => by rw [upd_ne (ne_of_none q hn)]; exact q
end
noncomputable def Rd (H : Hp) (a : Addr) (u : HO) : Prop := H a = some u ∨ ∃ o, H a = some (.frz o u)
theorem Rd.ok {P : Program} {w : World} {H : Hp} {h : Heap} {a : Addr} {u : HO} (r : Rd H a u) (x : HOk P w H h) : ObjOk P w H h a u := by
  rcases r with r | ⟨o, r⟩
  · exact x a u r
  · obtain ⟨_, q⟩ := x a _ r
    exact q
noncomputable def Mut : Option HO → Prop
  | some (.lst _) => True
  | some (.dK _) => True
  | some (.dT _) => True
  | some (.set _ _) => True
  | some (.ins _ _ _) => True
  | some (.ext _) => True
  | _ => False
section
variable {P : Program} {w : World} {H : Hp} {h h' : Heap} {x e : Addr} {o' : HO}
theorem HOk.write (ok : HOk P w H h) (mu : Mut (H x)) (he : e = x ∨ H e = some (.own x)) (k : ∀ b u, b ≠ e → h.get? b = some u → h'.get? b = some u) (heo : ∃ u, h'.get? e = some u)
    (new : ObjOk P w (upd H x o') h' x o') : HOk P w (upd H x o') h' := fun b u q => by
  have nown : ∀ c y, H c = some (.own y) → c ≠ x := fun c y r z => by subst z; rw [r] at mu; exact mu
  have ntup : ∀ c xs, H c = some (.tup xs) → c ≠ x := fun c xs r z => by subst z; rw [r] at mu; exact mu
  by_cases hb : b = x
  · subst hb; rw [upd_same] at q; cases q; exact new
  · rw [upd_ne hb] at q
    by_cases hbe : b = e
    · have q' : H b = some (.own x) := by
        rcases he with z | z
        · exact absurd (hbe.trans z) hb
        · rw [hbe]; exact z
      rw [q] at q'; cases q'
      obtain ⟨v, hv⟩ := heo
      exact ⟨v, by rw [hbe]; exact hv⟩
    · refine (ok b u q).stay (fun c v hc r => k c v ?_ r) (fun c r => by rw [upd_ne (nown c b r)]; exact r) fun c xs r => by rw [upd_ne (ntup c xs r)]; exact r
      rcases hc with rfl | hc
      · exact hbe
      · rintro rfl
        rcases he with z | z
        · exact nown c b hc z
        · rw [hc] at z; cases z; exact hb rfl
end
structure Un (fs ex : List Addr) (H H' : Hp) (h h' : Heap) : Prop where
  keep : ∀ b o, h.get? b = some o → H b = none → b ∉ fs → b ∉ ex → h'.get? b = some o
  slot : ∀ b o, h.get? b = some o → H b = none → b ∈ fs → b ∉ ex → ∃ sl, h'.get? b = some { o with slots := sl }
  free : ∀ b o, h.get? b = some o → H b = none → b ∉ ex → H' b = none
  there : ∀ b o, h.get? b = some o → b ∉ ex → ∃ o', h'.get? b = some o'
  tups : ∀ b xs, H b = some (.tup xs) → H' b = some (.tup xs)
  frzs : ∀ b o u, H b = some (.frz o u) → H' b = some (.frz o u)
  tbls : ∀ b ps, H b = some (.tbl ps) → ∃ more, H' b = some (.tbl (ps ++ more))
section
variable {fs fs' ex ex' : List Addr} {H H1 H2 : Hp} {h h1 h2 h' : Heap} {a x e : Addr} {o : HO}
theorem Un.any (u : Un fs ex H H1 h h1) {b : Addr} {ob : Obj} (q : h.get? b = some ob) (n : H b = none) (hx : b ∉ ex) : ∃ sl, h1.get? b = some { ob with slots := sl } := by
  by_cases hb : b ∈ fs
  · exact u.slot b ob q n hb hx
  · exact ⟨ob.slots, u.keep b ob q n hb hx⟩
theorem Un.kept (k : ∀ b u, h.get? b = some u → h'.get? b = some u) : Un fs ex H H h h' :=
  ⟨fun b ob q _ _ _ => k b ob q, fun b ob q _ _ _ => ⟨ob.slots, k b ob q⟩, fun _ _ _ n _ => n, fun b ob q _ => ⟨ob, k b ob q⟩, fun _ _ q => q, fun _ _ _ q => q, fun _ ps q => ⟨#[], by rw [q]; simp⟩⟩
theorem Un.refl : Un fs ex H H h h := Un.kept fun _ _ q => q
theorem Un.laid (k : ∀ b u, h.get? b = some u → h'.get? b = some u) (hp : h.objs.size ≤ a) (hn : H a = none) : Un fs ex H (upd H a o) h h' where
  keep := fun b u q _ _ _ => k b u q
  slot := fun b u q _ _ _ => ⟨u.slots, k b u q⟩
  free := fun b u q n _ => by rw [upd_ne (Nat.ne_of_lt (Nat.lt_of_lt_of_le (Heap.lt_size q) hp))]; exact n
  there := fun b u q _ => ⟨u, k b u q⟩
  tups := fun b xs q => by rw [upd_ne (ne_of_none q hn)]; exact q
  frzs := fun b u xs q => by rw [upd_ne (ne_of_none q hn)]; exact q
  tbls := fun b ps q => ⟨#[], by rw [upd_ne (ne_of_none q hn), q]; simp⟩
theorem Un.write (mu : Mut (H x)) (he : e = x ∨ H e = some (.own x)) (k : ∀ b u, b ≠ e → h.get? b = some u → h'.get? b = some u) (heo : ∃ u, h'.get? e = some u) : Un fs ex H (upd H x o) h h' := by
  have hx : ∀ b, H b = none → b ≠ x := fun b n z => by subst z; rw [n] at mu; exact mu
  have hb : ∀ b, H b = none → b ≠ e := fun b n z => by
    subst z
    rcases he with r | r
    · exact hx b n r
    · rw [n] at r; cases r
  have hm : ∀ b u, H b = some u → ¬ Mut (some u) → b ≠ x := fun b u q nm z => by subst z; rw [q] at mu; exact nm mu
  refine ⟨fun b u q n _ _ => k b u (hb b n) q, fun b u q n _ _ => ⟨u.slots, k b u (hb b n) q⟩, fun b u q n _ => by rw [upd_ne (hx b n)]; exact n, fun b u q _ => ?_,
    fun b xs q => by rw [upd_ne (hm b _ q fun z => z)]; exact q, fun b u xs q => by rw [upd_ne (hm b _ q fun z => z)]; exact q, fun b ps q => ⟨#[], by rw [upd_ne (hm b _ q fun z => z), q]; simp⟩⟩
  by_cases hbe : b = e
  · subst hbe; exact heo
  · exact ⟨u, k b u hbe q⟩
end
noncomputable def trk (h : Heap) (H : Hp) : List Addr := (List.range h.objs.size).filter fun a => (H a).isSome
noncomputable def hidT (h : Heap) (H : Hp) : Heap := PySem.W.hideAll h (trk h H)
theorem hidT_size (h : Heap) (H : Hp) : (hidT h H).objs.size = h.objs.size := PySem.W.hideAll_size _ _
theorem hidT_get {h : Heap} {H : Hp} {b : Addr} {o : Obj} (e : h.get? b = some o) (n : H b = none) : (hidT h H).get? b = some o :=
  PySem.W.hideAll_get _ e fun hm => by
    have q : (H b).isSome = true := (List.mem_filter.mp hm).2
    rw [n] at q; simp at q
theorem of_hidT {h : Heap} {H : Hp} {b : Addr} {o : Obj} (e : (hidT h H).get? b = some o) : h.get? b = some o ∧ H b = none := by
  have e' : h.get? b = some o := PySem.W.of_hideAll (trk h H) e
  refine ⟨e', ?_⟩
  cases q : H b with
  | none => rfl
  | some x =>
    have hm : b ∈ trk h H := List.mem_filter.mpr ⟨List.mem_range.mpr (Heap.lt_size e'), by simp [q]⟩
    have z : (hidT h H).get? b = none := PySem.W.hideAll_none (trk h H) hm
    rw [z] at e; cases e
end L2
namespace L2
open PySem PySem.Spec PyProof.Rows
structure Mod (K : PySem.W.Frag) (mg : Str → Option Value) (base : Heap) : Prop where
  kin : K.In base
  glob : base.Ns mainGlobals mg
  blt : ∃ mb, base.Ns builtinsNs mb ∧ ∀ x : Str, x ≠ "__name__" → mb x = bootBuiltins x
  nolimit : base.NoLimit
structure Cx where
  prog : Program
  w : World
  K : PySem.W.Frag
  mg : Str → Option Value
  base : Heap
  A : Around
  N : List Str
  s_0 : Shared
  H_0 : Hp
  env : Env
  outer : List Env
  stack : List Env
  ex : List Addr
  fn : Str → Bool
  calm : Bool
  pn : List (Addr × Obj)
  xe : Value → Shared → Prop
noncomputable def frs (l : List Env) : List Addr := l.filterMap (·.frame)
noncomputable abbrev Cx.fs (X : Cx) : List Addr := frs X.outer
noncomputable def Vis (sc : Scope) (x : Str) : Prop := sc.names.lookup x = some .local ∨ sc.names.lookup x = some .cell ∨ sc.names.lookup x = some .free
noncomputable def Loc (sc : Scope) (x : Str) : Prop := sc.names.lookup x = some .local ∨ sc.names.lookup x = some .cell
noncomputable def Look (env : Env) (h : Heap) (m : Str → Option Value) (x : Str) (u : Value) : Prop :=
  (env.kindOf x = some .local ∧ m x = some u) ∨ ((env.kindOf x = some .cell ∨ env.kindOf x = some .free) ∧ ∃ c, env.cells.lookup x = some c ∧ h.IsCell c (some u))
structure Cx.Ok (X : Cx) : Prop where
  mod : Mod X.K X.mg X.base
  kind : X.env.scope.kind = .function
  glob : X.env.globals = mainGlobals
  blt : X.env.builtins = builtinsNs
  above : X.s_0.heap.objs.size ≤ X.env.locals
  inj : ∀ x y c, X.env.cells.lookup x = some c → X.env.cells.lookup y = some c → x = y
  has : ∀ x, (X.env.kindOf x = some .cell ∨ X.env.kindOf x = some .free) → ∃ c, X.env.cells.lookup x = some c
  cab : ∀ x c, X.fn x = true → X.env.cells.lookup x = some c → X.s_0.heap.objs.size ≤ c
  hd : X.calm = true → X.A.handled = none
  frames : X.A.frames = some X.stack
  stk : X.stack = X.outer ∨ (X.stack = X.env :: X.outer ∧ X.env.frame = some X.env.locals)
  exf : ∀ b ∈ X.ex, b ≠ X.env.locals ∧ ∀ x c, X.env.cells.lookup x = some c → c ≠ b
  bs : ∀ b o, X.base.get? b = some o → X.s_0.heap.get? b = some o ∧ X.H_0 b = none
  bsz : X.base.objs.size ≤ X.s_0.heap.objs.size
  noex : ∀ b o, X.base.get? b = some o → b ∉ X.ex
  exfs : ∀ b ∈ X.ex, b ∉ X.fs
  funs : X.s_0.heap.FunFrames X.base X.outer
  frf : ∀ b ∈ X.fs, X.H_0 b = none
structure Inv (X : Cx) (pins : List (Addr × Obj)) (σ : List (Option V)) (H : Hp) (s : Shared) : Prop where
  ok : X.Ok
  os : s.os = X.s_0.os
  bare : AllBare s.gens
  base : Un X.fs X.ex X.H_0 H X.s_0.heap s.heap
  loc : ∃ m, s.heap.Ns X.env.locals m ∧ ∀ (i : Nat) (x : Str) (v : V), X.N[i]? = some x → σ[i]? = some (some v) → Vis X.env.scope x → ∃ u, RelV v u ∧ Look X.env s.heap m x u
  cell : ∀ x c, X.env.cells.lookup x = some c → ∃ v, s.heap.IsCell c v
  free : H X.env.locals = none
  freeC : ∀ x c, X.env.cells.lookup x = some c → H c = none
  pin : ∀ p ∈ X.pn ++ pins, s.heap.get? p.1 = some p.2 ∧ H p.1 = none ∧ p.1 ≠ X.env.locals ∧ p.1 ∉ X.fs ∧ ∀ v, p.2.data ≠ .cell v
  hok : HOk X.prog X.w H s.heap
  len : σ.length = X.N.length
section
variable {X : Cx} {pins : List (Addr × Obj)} {σ : List (Option V)} {H H' : Hp} {s : Shared} {h' : Heap}
theorem Cx.Ok.nofr (ok : X.Ok) {b : Addr} {o : Obj} (e : X.base.get? b = some o) : b ∉ X.fs := fun hb => by
  have := (ok.funs.mem hb).1
  rw [e] at this; cases this
theorem Inv.bs (I : Inv X pins σ H s) : ∀ b o, X.base.get? b = some o → s.heap.get? b = some o ∧ H b = none := fun b o e =>
  ⟨I.base.keep b o (I.ok.bs b o e).1 (I.ok.bs b o e).2 (I.ok.nofr e) (I.ok.noex b o e), I.base.free b o (I.ok.bs b o e).1 (I.ok.bs b o e).2 (I.ok.noex b o e)⟩
theorem Inv.bk (I : Inv X pins σ H s) : ∀ b o, X.base.get? b = some o → s.heap.get? b = some o := fun b o e => (I.bs b o e).1
theorem Inv.mod (I : Inv X pins σ H s) : Mod X.K X.mg X.base := I.ok.mod
theorem Inv.kIn (I : Inv X pins σ H s) : X.K.In s.heap := I.ok.mod.kin.keeps I.bk
theorem Inv.fr (I : Inv X pins σ H s) : ∃ m, Fr X.base X.env.locals s.heap m :=
  let ⟨m, hn, _⟩ := I.loc
  ⟨m, hn, I.bk, Nat.le_trans I.ok.bsz I.ok.above⟩
theorem Inv.lt (I : Inv X pins σ H s) : X.env.locals < s.heap.objs.size := let ⟨_, hn, _⟩ := I.loc; hn.lt
theorem Inv.sz (I : Inv X pins σ H s) : X.s_0.heap.objs.size ≤ s.heap.objs.size := Nat.le_trans I.ok.above (Nat.le_of_lt I.lt)
theorem Inv.nofs (I : Inv X pins σ H s) {a : Addr} (h : s.heap.objs.size ≤ a) : a ∉ X.fs := fun hb => by
  obtain ⟨_, o, ho, _⟩ := I.ok.funs.mem hb
  exact absurd (Nat.lt_of_lt_of_le (Heap.lt_size ho) (Nat.le_trans I.sz h)) (Nat.lt_irrefl _)
theorem Inv.cne (I : Inv X pins σ H s) : ∀ x c, X.env.cells.lookup x = some c → c ≠ X.env.locals := fun x c e z => by
  obtain ⟨v, o, ho, hd⟩ := I.cell x c e
  obtain ⟨m, ⟨o', es, ep, ho', hd', _⟩, _⟩ := I.loc
  rw [z, ho'] at ho; cases ho; rw [hd'] at hd; cases hd
theorem Inv.funs (I : Inv X pins σ H s) : s.heap.FunFrames X.base X.outer := by
  have all : ∀ (l : List Env), (∀ b ∈ frs l, b ∈ X.fs) → X.s_0.heap.FunFrames X.base l → s.heap.FunFrames X.base l := by
    intro l
    induction l with
    | nil => intro _ _; trivial
    | cons env r ih =>
      intro hs hl
      obtain ⟨hk, ⟨L, o, hf, hn, ho, hd⟩, hr⟩ := hl
      have hL : L ∈ X.fs := hs L (by unfold frs; rw [List.filterMap_cons, hf]; exact List.mem_cons_self)
      obtain ⟨sl, e⟩ := I.base.slot L o ho (I.ok.frf L hL) hL fun z => I.ok.exfs L z hL
      exact ⟨hk, ⟨L, _, hf, hn, e, hd⟩, ih (fun b hb => hs b (by unfold frs; rw [List.filterMap_cons, hf]; exact List.mem_cons_of_mem _ hb)) hr⟩
  exact all X.outer (fun _ hb => hb) I.ok.funs
theorem Inv.stack (I : Inv X pins σ H s) : s.heap.FunFrames X.base X.stack := by
  rcases I.ok.stk with e | ⟨e, hf⟩
  · rw [e]; exact I.funs
  · rw [e]
    obtain ⟨m, hn, _⟩ := I.loc
    refine .cons (by rw [I.ok.kind]; decide) hf hn ?_ I.funs
    exact Heap.get?_none_of_le (Nat.le_trans I.ok.bsz I.ok.above)
theorem Inv.stkSub (I : Inv X pins σ H s) : ∀ b ∈ frs X.stack, b ∈ X.env.locals :: X.fs := fun b hb => by
  rcases I.ok.stk with e | ⟨e, hf⟩
  · rw [e] at hb; exact List.mem_cons_of_mem _ hb
  · rw [e] at hb
    unfold frs at hb
    rw [List.filterMap_cons, hf] at hb
    exact hb
theorem Inv.stkFree (I : Inv X pins σ H s) : ∀ b ∈ frs X.stack, H b = none := fun b hb => by
  rcases List.mem_cons.mp (I.stkSub b hb) with e | hb
  · rw [e]; exact I.free
  · obtain ⟨_, o, ho, _⟩ := I.ok.funs.mem hb
    exact I.base.free b o ho (I.ok.frf b hb) fun z => I.ok.exfs b z hb
theorem Inv.step {g' : Array GenState} {t' : Nat} {d' : Drawn} {ch : List Addr} (I : Inv X pins σ H s)
    (hch : ∀ b ∈ ch, (b ∈ X.ex ∨ X.s_0.heap.objs.size ≤ b) ∧ b ≠ X.env.locals ∧ (∀ x c, X.env.cells.lookup x = some c → c ≠ b) ∧ ∀ p ∈ X.pn ++ pins, p.1 ≠ b)
    (keep : ∀ b o, b ≠ X.env.locals → b ∉ X.fs → b ∉ ch → s.heap.get? b = some o → H b = none → h'.get? b = some o)
    (slot : ∀ b o, b ≠ X.env.locals → b ∈ X.fs → b ∉ ch → s.heap.get? b = some o → H b = none → ∃ sl, h'.get? b = some { o with slots := sl }) (free : ∀ b o, b ∉ ch → s.heap.get? b = some o → H b = none → H' b = none)
    (there : ∀ b o, b ∉ ch → s.heap.get? b = some o → ∃ o', h'.get? b = some o')
    (tups : ∀ b xs, H b = some (.tup xs) → H' b = some (.tup xs)) (frzs : ∀ b o u, H b = some (.frz o u) → H' b = some (.frz o u)) (tbls : ∀ b ps, H b = some (.tbl ps) → ∃ more, H' b = some (.tbl (ps ++ more)))
    (ns : ∀ m, s.heap.Ns X.env.locals m → h'.Ns X.env.locals m) (hok : HOk X.prog X.w H' h') (hg : AllBare g') :
    Inv X pins σ H' { s with heap := h', gens := g', drawn := d', toks := t' } := by
  have neL : ∀ b o, X.s_0.heap.get? b = some o → b ≠ X.env.locals := fun b o e => Nat.ne_of_lt (Nat.lt_of_lt_of_le (Heap.lt_size e) I.ok.above)
  have neC : ∀ b o, X.s_0.heap.get? b = some o → b ∉ X.ex → b ∉ ch := fun b o e hx hb => by
    rcases (hch b hb).1 with z | z
    · exact hx z
    · exact absurd (Nat.lt_of_lt_of_le (Heap.lt_size e) z) (Nat.lt_irrefl _)
  have cellK : ∀ x c, X.env.cells.lookup x = some c → ∀ v, s.heap.IsCell c v → h'.IsCell c v := fun x c e v ⟨o, ho, hd⟩ => by
    have nch : c ∉ ch := fun z => (hch c z).2.2.1 x c e rfl
    by_cases hc : c ∈ X.fs
    · obtain ⟨sl, q⟩ := slot c o (I.cne x c e) hc nch ho (I.freeC x c e)
      exact ⟨_, q, hd⟩
    · exact ⟨o, keep c o (I.cne x c e) hc nch ho (I.freeC x c e), hd⟩
  refine ⟨I.ok, I.os, hg, ⟨fun b o e n hb hx => ?_, fun b o e n hb hx => ?_, fun b o e n hx => ?_, fun b o e hx => ?_, fun b xs e => tups b xs (I.base.tups b xs e), fun b o xs e => frzs b o xs (I.base.frzs b o xs e), fun b ps e => ?_⟩, ?_, fun x c e => ?_, ?_, fun x c e => ?_, fun p hp => ?_, hok, I.len⟩
  · exact keep b o (neL b o e) hb (neC b o e hx) (I.base.keep b o e n hb hx) (I.base.free b o e n hx)
  · obtain ⟨sl, e1⟩ := I.base.slot b o e n hb hx
    obtain ⟨sl', e2⟩ := slot b _ (neL b o e) hb (neC b o e hx) e1 (I.base.free b o e n hx)
    exact ⟨sl', e2⟩
  · obtain ⟨o', e1⟩ := I.base.there b o e hx
    exact free b o' (neC b o e hx) e1 (I.base.free b o e n hx)
  · obtain ⟨o', e1⟩ := I.base.there b o e hx
    exact there b o' (neC b o e hx) e1
  · obtain ⟨m1, e1⟩ := I.base.tbls b ps e
    obtain ⟨m2, e2⟩ := tbls b _ e1
    exact ⟨m1 ++ m2, by rw [e2, Array.append_assoc]⟩
  · obtain ⟨m, hn, hl⟩ := I.loc
    refine ⟨m, ns m hn, fun i x v e1 e2 e3 => ?_⟩
    obtain ⟨u, r, l⟩ := hl i x v e1 e2 e3
    refine ⟨u, r, ?_⟩
    rcases l with l | ⟨k, c, e, z⟩
    · exact .inl l
    · exact .inr ⟨k, c, e, cellK x c e _ z⟩
  · obtain ⟨v, z⟩ := I.cell x c e
    exact ⟨v, cellK x c e v z⟩
  · obtain ⟨m, ⟨o, _, _, ho, _⟩, _⟩ := I.loc
    exact free _ o (fun z => (hch _ z).2.1 rfl) ho I.free
  · obtain ⟨v, o, ho, hd⟩ := I.cell x c e
    exact free c o (fun z => (hch c z).2.2.1 x c e rfl) ho (I.freeC x c e)
  · obtain ⟨e, n, ne, nf, d⟩ := I.pin p hp
    have nch : p.1 ∉ ch := fun z => (hch p.1 z).2.2.2 p hp rfl
    exact ⟨keep p.1 p.2 ne nf nch e n, free p.1 p.2 nch e n, ne, nf, d⟩
theorem Inv.un {t' : Nat} (I : Inv X pins σ H s) (u : Un X.fs [] H H' s.heap h') (hok : HOk X.prog X.w H' h') : Inv X pins σ H' { s with heap := h', toks := t' } := by
  obtain ⟨m, ⟨o, es, ep, ho, r⟩, _⟩ := id I.loc
  obtain ⟨sl, hL⟩ := u.any ho I.free (by simp)
  exact I.step (g' := s.gens) (d' := s.drawn) (ch := []) (fun _ z => nomatch z) (fun b o _ hb _ e n => u.keep b o e n hb (by simp)) (fun b o _ hb _ e n => u.slot b o e n hb (by simp)) (fun b o _ e n => u.free b o e n (by simp)) (fun b o _ e => u.there b o e (by simp)) u.tups u.frzs u.tbls (fun m' hm => by
    obtain ⟨o', es', ep', ho', r'⟩ := hm
    rw [ho] at ho'; cases ho'
    exact ⟨_, es', ep', hL, r'⟩) hok I.bare
theorem Inv.call {g' : Array GenState} {t' : Nat} {d' : Drawn} {ch : List Addr} (I : Inv X pins σ H s) (u : Un (frs X.stack) ch H H' s.heap h') (hok : HOk X.prog X.w H' h') (hg : AllBare g')
    (hch : ∀ b ∈ ch, (b ∈ X.ex ∨ X.s_0.heap.objs.size ≤ b) ∧ b ≠ X.env.locals ∧ (∀ x c, X.env.cells.lookup x = some c → c ≠ b) ∧ ∀ p ∈ X.pn ++ pins, p.1 ≠ b) :
    Inv X pins σ H' { s with heap := h', gens := g', drawn := d', toks := t' } := by
  obtain ⟨m, ⟨o, es, ep, ho, r⟩, _⟩ := id I.loc
  obtain ⟨sl, hL⟩ := u.any ho I.free fun z => (hch _ z).2.1 rfl
  exact I.step (ch := ch) hch (fun b o hL hb hc e n => u.keep b o e n (fun z => (List.mem_cons.mp (I.stkSub b z)).elim hL hb) hc) (fun b o _ _ hc e n => u.any e n hc) (fun b o hc e n => u.free b o e n hc) (fun b o hc e => u.there b o e hc) u.tups u.frzs u.tbls (fun m' hm => by
    obtain ⟨o', es', ep', ho', r'⟩ := hm
    rw [ho] at ho'; cases ho'
    exact ⟨_, es', ep', hL, r'⟩) hok hg
theorem Inv.turned {t' : Nat} {it : Addr} (I : Inv X pins σ H s) (k : ∀ b o, b ≠ it → s.heap.get? b = some o → h'.get? b = some o) (hn : H it = none) (hL : it ≠ X.env.locals)
    (h1 : it ∈ X.ex ∨ X.s_0.heap.objs.size ≤ it) (h2 : ∀ x c, X.env.cells.lookup x = some c → c ≠ it) (h3 : ∀ p ∈ X.pn ++ pins, p.1 ≠ it) : Inv X pins σ H { s with heap := h', toks := t' } := by
  have nit : ∀ b u, H b = some u → b ≠ it := fun b u e z => by rw [z, hn] at e; cases e
  refine I.step (g' := s.gens) (d' := s.drawn) (ch := [it]) (fun b hb => ?_) (fun b o _ _ hc e _ => k b o (fun z => hc (by simp [z])) e) (fun b o _ _ hc e _ => ⟨o.slots, k b o (fun z => hc (by simp [z])) e⟩) (fun _ _ _ _ n => n)
    (fun b o hc e => ⟨o, k b o (fun z => hc (by simp [z])) e⟩) (fun _ _ e => e) (fun _ _ _ e => e) (fun b ps e => ⟨#[], by rw [e]; simp⟩) (fun m hm => ?_) (fun b u e => ?_) I.bare
  · have e : b = it := by simpa using hb
    subst e
    exact ⟨h1, hL, h2, h3⟩
  · obtain ⟨o, es, ep, ho, r⟩ := hm
    exact ⟨o, es, ep, k _ o (Ne.symm hL) ho, r⟩
  · refine (I.hok b u e).stay (fun c v hc q => k c v ?_ q) (fun _ q => q) fun _ _ q => q
    rcases hc with z | z
    · rw [z]; exact nit b u e
    · exact nit c _ z
theorem Inv.tok (I : Inv X pins σ H s) (t : Nat) : Inv X pins σ H { s with toks := t } := I.un (h' := s.heap) (t' := t) Un.refl I.hok
theorem Inv.kept {t' : Nat} (I : Inv X pins σ H s) (k : ∀ b u, s.heap.get? b = some u → h'.get? b = some u) : Inv X pins σ H { s with heap := h', toks := t' } := I.un (Un.kept k) (I.hok.kept k)
theorem Inv.laid {a : Addr} {o : HO} {t' : Nat} (I : Inv X pins σ H s) (k : ∀ b u, s.heap.get? b = some u → h'.get? b = some u) (hp : s.heap.objs.size ≤ a) (new : ObjOk X.prog X.w (upd H a o) h' a o) :
    Inv X pins σ (upd H a o) { s with heap := h', toks := t' } := I.un (Un.laid k hp (I.hok.fresh hp)) (I.hok.laid k hp new)
theorem Inv.write {x e : Addr} {o : HO} {t' : Nat} (I : Inv X pins σ H s) (mu : Mut (H x)) (he : e = x ∨ H e = some (.own x)) (k : ∀ b u, b ≠ e → s.heap.get? b = some u → h'.get? b = some u) (heo : ∃ u, h'.get? e = some u)
    (new : ObjOk X.prog X.w (upd H x o) h' x o) : Inv X pins σ (upd H x o) { s with heap := h', toks := t' } := I.un (Un.write mu he k heo) (I.hok.write mu he k heo new)
theorem Inv.weak {σ' : List (Option V)} (I : Inv X pins σ H s) (hl : σ'.length = σ.length) (w : ∀ (i : Nat) v, σ'[i]? = some (some v) → σ[i]? = some (some v)) : Inv X pins σ' H s :=
  ⟨I.ok, I.os, I.bare, I.base, let ⟨m, hn, hl'⟩ := I.loc; ⟨m, hn, fun i x v e1 e2 e3 => hl' i x v e1 (w i v e2) e3⟩, I.cell, I.free, I.freeC, I.pin, I.hok, hl.trans I.len⟩
theorem Inv.pins_of {pins' : List (Addr × Obj)} (I : Inv X pins σ H s) (h : ∀ p ∈ pins', s.heap.get? p.1 = some p.2 ∧ H p.1 = none ∧ p.1 ≠ X.env.locals ∧ p.1 ∉ X.fs ∧ ∀ v, p.2.data ≠ .cell v) : Inv X pins' σ H s :=
  ⟨I.ok, I.os, I.bare, I.base, I.loc, I.cell, I.free, I.freeC, fun p hp => (List.mem_append.mp hp).elim (fun z => I.pin p (List.mem_append_left _ z)) (h p), I.hok, I.len⟩
theorem nodup_ix {N : List Str} (hN : N.Nodup) {i j : Nat} {x : Str} (a : N[i]? = some x) (b : N[j]? = some x) : i = j := by
  obtain ⟨h1, e1⟩ := List.getElem?_eq_some_iff.mp a
  obtain ⟨h2, e2⟩ := List.getElem?_eq_some_iff.mp b
  exact (List.getElem_inj hN).mp (e1.trans e2.symm)
theorem store_ok2 {M : Model} {A : Around} {E : Value → Shared → Prop} {i : Nat} {x : Str} {v : V} {u : Value} {Q : Unit → Shared → Prop} (I : Inv X pins σ H s) (hN : X.N.Nodup) (hi : X.N[i]? = some x) (hx : Loc X.env.scope x) (r : RelV v u)
    (h : ∀ s', Inv X pins (σ.set i (some v)) H s' → (∃ a, Heap.SameBut a s.heap s'.heap ∧ (a = X.env.locals ∨ X.env.cells.lookup x = some a)) → Q () s') (hf : X.fn x = true ∨ X.env.scope.names.lookup x = some .local := by first | exact .inl rfl | exact .inr rfl | assumption) : wpAny M A (storeName X.env x u) Q E s := by
  obtain ⟨m, hn, hl⟩ := id I.loc
  have hcls : (X.env.scope.kind == .class || (X.env.scope.kind == .module && X.env.locals != X.env.globals)) = false := by rw [I.ok.kind]; rfl
  have hiσ : i < σ.length := by rw [I.len]; exact (List.getElem?_eq_some_iff.mp hi).1
  have cne := I.cne
  have tracked : ∀ {a : Addr} {h' : Heap}, (∃ o, s.heap.get? a = some o ∧ H a = none) → Heap.SameBut a s.heap h' → HOk X.prog X.w H h' := fun {a h'} ha hs b ob e => by
    obtain ⟨_, _, hfree⟩ := ha
    refine (I.hok b ob e).stay (fun c w' hc q => (hs.2 c ?_).trans q) (fun _ q => q) fun _ _ q => q
    rintro rfl
    rcases hc with rfl | hc
    · rw [hfree] at e; cases e
    · rw [hfree] at hc; cases hc
  rcases hx with hk | hk
  · refine wpAny_storeName_local hk hn (fun h' hn' hs => ?_) hcls
    obtain ⟨oL, _, _, hoL, _⟩ := id hn
    refine h _ ⟨I.ok, I.os, I.bare, ⟨fun b o e n hb hx => ?_, fun b o e n hb hx => ?_, I.base.free, fun b o e hx => ?_, I.base.tups, I.base.frzs, I.base.tbls⟩, ⟨_, hn', fun j y v' e1 e2 e3 => ?_⟩, fun y c e => ?_, I.free, I.freeC, fun p hp => ?_, tracked ⟨oL, hoL, I.free⟩ hs, by simpa using I.len⟩ ⟨_, hs, .inl rfl⟩
    · exact (hs.2 b (Nat.ne_of_lt (Nat.lt_of_lt_of_le (Heap.lt_size e) I.ok.above))).trans (I.base.keep b o e n hb hx)
    · obtain ⟨sl, e1⟩ := I.base.slot b o e n hb hx
      exact ⟨sl, (hs.2 b (Nat.ne_of_lt (Nat.lt_of_lt_of_le (Heap.lt_size e) I.ok.above))).trans e1⟩
    · obtain ⟨o', e1⟩ := I.base.there b o e hx
      exact ⟨o', (hs.2 b (Nat.ne_of_lt (Nat.lt_of_lt_of_le (Heap.lt_size e) I.ok.above))).trans e1⟩
    · by_cases hj : j = i
      · subst hj
        rw [hi] at e1; cases e1
        rw [List.getElem?_set_self hiσ] at e2
        cases e2
        exact ⟨u, r, .inl ⟨hk, by simp⟩⟩
      · rw [List.getElem?_set_ne (Ne.symm hj)] at e2
        obtain ⟨u', r', q⟩ := hl j y v' e1 e2 e3
        refine ⟨u', r', ?_⟩
        rcases q with ⟨k, e⟩ | ⟨k, c, e, z⟩
        · refine .inl ⟨k, ?_⟩
          have : y ≠ x := fun e => hj (nodup_ix hN e1 (e ▸ hi))
          simp [this, e]
        · exact .inr ⟨k, c, e, z.sameBut hs (cne y c e)⟩
    · obtain ⟨w', z⟩ := I.cell y c e
      exact ⟨w', z.sameBut hs (cne y c e)⟩
    · obtain ⟨e, n, ne, nf, d⟩ := I.pin p hp
      exact ⟨(hs.2 p.1 ne).trans e, n, ne, nf, d⟩
  · have hfn : X.fn x = true := by
      rcases hf with z | z
      · exact z
      · rw [z] at hk; cases hk
    obtain ⟨c, hc⟩ := I.ok.has x (.inl hk)
    obtain ⟨w', z⟩ := I.cell x c hc
    refine wpAny_storeName_cell I.ok.kind hk hc z (fun h' hc' hs => ?_)
    obtain ⟨oc, hoc, hocd⟩ := id z
    refine h { s with heap := h' } ⟨I.ok, I.os, I.bare, ⟨fun b o e n hb hx => ?_, fun b o e n hb hx => ?_, I.base.free, fun b o e hx => ?_, I.base.tups, I.base.frzs, I.base.tbls⟩, ⟨m, hn.sameBut hs (Ne.symm (cne x c hc)), fun j y v' e1 e2 e3 => ?_⟩, fun y c' e => ?_, I.free, I.freeC, fun p hp => ?_, tracked ⟨oc, hoc, I.freeC x c hc⟩ hs, by simpa using I.len⟩ ⟨c, hs, .inr hc⟩
    · exact (hs.2 b (Nat.ne_of_lt (Nat.lt_of_lt_of_le (Heap.lt_size e) (I.ok.cab x c hfn hc)))).trans (I.base.keep b o e n hb hx)
    · obtain ⟨sl, e1⟩ := I.base.slot b o e n hb hx
      exact ⟨sl, (hs.2 b (Nat.ne_of_lt (Nat.lt_of_lt_of_le (Heap.lt_size e) (I.ok.cab x c hfn hc)))).trans e1⟩
    · obtain ⟨o', e1⟩ := I.base.there b o e hx
      exact ⟨o', (hs.2 b (Nat.ne_of_lt (Nat.lt_of_lt_of_le (Heap.lt_size e) (I.ok.cab x c hfn hc)))).trans e1⟩
    · by_cases hj : j = i
      · subst hj
        rw [hi] at e1; cases e1
        rw [List.getElem?_set_self hiσ] at e2
        cases e2
        exact ⟨u, r, .inr ⟨.inl hk, c, hc, hc'⟩⟩
      · rw [List.getElem?_set_ne (Ne.symm hj)] at e2
        obtain ⟨u', r', q⟩ := hl j y v' e1 e2 e3
        refine ⟨u', r', ?_⟩
        rcases q with q | ⟨k, c', e, z'⟩
        · exact .inl q
        · refine .inr ⟨k, c', e, z'.sameBut hs ?_⟩
          rintro rfl
          exact hj (nodup_ix hN e1 (I.ok.inj _ _ _ e hc ▸ hi))
    · by_cases hcc : c' = c
      · subst hcc; exact ⟨_, hc'⟩
      · obtain ⟨w2, z2⟩ := I.cell y c' e
        exact ⟨w2, z2.sameBut hs hcc⟩
    · obtain ⟨e, n, ne, nf, d⟩ := I.pin p hp
      refine ⟨(hs.2 p.1 ?_).trans e, n, ne, nf, d⟩
      intro q
      rw [q, hoc] at e
      have q' : oc = p.2 := Option.some.inj e
      exact d w' (by rw [← q']; exact hocd)
theorem store_ok {M : Model} {A : Around} {E : Value → Shared → Prop} {i : Nat} {x : Str} {v : V} {u : Value} {Q : Unit → Shared → Prop} (I : Inv X pins σ H s) (hN : X.N.Nodup) (hi : X.N[i]? = some x) (hx : Loc X.env.scope x) (r : RelV v u)
    (h : ∀ s', Inv X pins (σ.set i (some v)) H s' → Q () s') (hf : X.fn x = true ∨ X.env.scope.names.lookup x = some .local := by first | exact .inl rfl | exact .inr rfl | assumption) : wpAny M A (storeName X.env x u) Q E s :=
  store_ok2 I hN hi hx r (fun s' I' _ => h s' I') hf
theorem Inv.call' {s' : Shared} {ch : List Addr} (I : Inv X pins σ H s) (ho : s'.os = s.os) (u : Un (frs X.stack) ch H H' s.heap s'.heap) (hok : HOk X.prog X.w H' s'.heap) (hg : AllBare s'.gens)
    (hch : ∀ b ∈ ch, (b ∈ X.ex ∨ X.s_0.heap.objs.size ≤ b) ∧ b ≠ X.env.locals ∧ (∀ x c, X.env.cells.lookup x = some c → c ≠ b) ∧ ∀ p ∈ X.pn ++ pins, p.1 ≠ b) : Inv X pins σ H' s' := by
  obtain ⟨h', g', d', t', o'⟩ := s'
  have e : o' = s.os := ho
  subst e
  exact I.call (g' := g') (t' := t') (d' := d') u hok hg hch
end
noncomputable abbrev XK := Value → Option Addr → Hp → Prop
noncomputable abbrev St := List (Option V)
noncomputable abbrev VK := V → Hp → Prop
noncomputable abbrev TE := St → Hp → VK → Prop
noncomputable abbrev TT := St → Hp → (Bool → Hp → Prop) → Prop
noncomputable abbrev TA := St → Hp → (List V → Hp → Prop) → Prop
structure Ends where
  nx : St → Hp → Prop
  rt : VK
  bk : St → Hp → Prop := fun _ _ => False
  ct : St → Hp → Prop := fun _ _ => False
noncomputable abbrev TS := Ends → St → Hp → Prop
noncomputable def EP (X : Cx) (pins : List (Addr × Obj)) (σ : St) (Q : VK) (u : Value) (s' : Shared) : Prop := ∃ v H', Inv X pins σ H' s' ∧ RelV v u ∧ Q v H'
noncomputable def TP (X : Cx) (pins : List (Addr × Obj)) (σ : St) (Q : Bool → Hp → Prop) (b : Bool) (s' : Shared) : Prop := ∃ H', Inv X pins σ H' s' ∧ Q b H'
noncomputable def AP (X : Cx) (pins : List (Addr × Obj)) (σ : St) (Q : List V → Hp → Prop) (us : List Value) (s' : Shared) : Prop := ∃ vs H', Inv X pins σ H' s' ∧ Vals vs us ∧ Q vs H'
noncomputable def SP (X : Cx) (pins : List (Addr × Obj)) (D : Ends) (f : Flow) (s' : Shared) : Prop :=
  match f with
  | .next => ∃ σ' H', Inv X pins σ' H' s' ∧ D.nx σ' H'
  | .brk => ∃ σ' H', Inv X pins σ' H' s' ∧ D.bk σ' H'
  | .cont => ∃ σ' H', Inv X pins σ' H' s' ∧ D.ct σ' H'
  | .ret u => ∃ v σ' H', Inv X pins σ' H' s' ∧ RelV v u ∧ D.rt v H'
noncomputable def PE (X : Cx) (e : Expr) (t : TE) : Prop :=
  ∀ (pins : List (Addr × Obj)) (s : Shared) (σ : St) (H : Hp) (Q : VK), Inv X pins σ H s → t σ H Q → wpAny (model X.prog X.w) X.A (eval e X.env) (EP X pins σ Q) X.xe s
noncomputable def PT (X : Cx) (e : Expr) (t : TT) : Prop :=
  ∀ (pins : List (Addr × Obj)) (s : Shared) (σ : St) (H : Hp) (Q : Bool → Hp → Prop), Inv X pins σ H s → t σ H Q → wpAny (model X.prog X.w) X.A (isTrue e X.env (eval e X.env)) (TP X pins σ Q) X.xe s
noncomputable def PW (X : Cx) (e : Expr) (t : TT) : Prop :=
  ∀ (whole : Sem Value) (pins : List (Addr × Obj)) (s : Shared) (σ : St) (H : Hp) (Q : Bool → Hp → Prop), Inv X pins σ H s → t σ H Q → wpAny (model X.prog X.w) X.A (isTrue e X.env whole) (TP X pins σ Q) X.xe s
theorem PW.pt {X : Cx} {e : Expr} {t : TT} (h : PW X e t) : PT X e t := h _
noncomputable def PA (X : Cx) (es : List Expr) (t : TA) : Prop :=
  ∀ (pos : Pos) (pins : List (Addr × Obj)) (s : Shared) (σ : St) (H : Hp) (Q : List V → Hp → Prop), Inv X pins σ H s → t σ H Q → wpAny (model X.prog X.w) X.A (spliced (backTo pos (starEach es X.env))) (AP X pins σ Q) X.xe s
noncomputable def PS (X : Cx) (st : Stmt) (t : TS) : Prop :=
  ∀ (pins : List (Addr × Obj)) (s : Shared) (σ : St) (H : Hp) (D : Ends), Inv X pins σ H s → t D σ H → wpAny (model X.prog X.w) X.A (exec st X.env) (SP X pins D) X.xe s
noncomputable def PSs (X : Cx) (st : List Stmt) (t : TS) : Prop :=
  ∀ (pins : List (Addr × Obj)) (s : Shared) (σ : St) (H : Hp) (D : Ends), Inv X pins σ H s → t D σ H → wpAny (model X.prog X.w) X.A (execs st X.env) (SP X pins D) X.xe s
theorem thn {α : Type} {t : Sem α} {Q Q' : α → Shared → Prop} {M : Model} {A : Around} {E : Value → Shared → Prop} {s : Shared} (h : wpAny M A t Q E s) (hQ : ∀ a s, Q a s → Q' a s) : wpAny M A t Q' E s := wpAny_mono h hQ fun _ _ x => x
end L2
namespace L2
open PySem PySem.Spec PyProof.Rows
section
variable {X : Cx}
theorem bin {a b : Expr} {ta tb : TE} (ha : PE X a ta) (hb : PE X b tb) {pins : List (Addr × Obj)} {s : Shared} {σ : St} {H : Hp} {R : V → V → Hp → Prop} (I : Inv X pins σ H s) (h : ta σ H fun x H1 => tb σ H1 fun y H2 => R x y H2)
    {α : Type} {Q : α → Shared → Prop} {f : Value → Value → Sem α}
    (hf : ∀ v u s2 x y H2, Inv X pins σ H2 s2 → RelV x v → RelV y u → R x y H2 → wpAny (model X.prog X.w) X.A (f v u) Q X.xe s2) :
    wpAny (model X.prog X.w) X.A (eval a X.env) (fun v s₁ => wpAny (model X.prog X.w) X.A (eval b X.env) (fun u s₂ => wpAny (model X.prog X.w) X.A (f v u) Q X.xe s₂) X.xe s₁) X.xe s := by
  refine thn (ha pins s σ H _ I h) fun v s1 hm0 => ?_
  obtain ⟨x, H1, I1, r1, q1⟩ := hm0
  refine thn (hb pins s1 σ H1 _ I1 q1) fun u s2 hm1 => ?_
  obtain ⟨y, H2, I2, r2, q2⟩ := hm1
  exact hf v u s2 x y H2 I2 r1 r2 q2
noncomputable def tVar (i : Nat) : TE := fun σ H Q => ∃ v, σ[i]? = some (some v) ∧ Q v H
noncomputable def tC (v : V) : TE := fun _ H Q => Q v H
theorem pe_var {i : Nat} {x : Str} {pos : Pos} (hN : X.N[i]? = some x) (hv : Vis X.env.scope x) (hd : (x == ("__debug__" : Str)) = false := by decide) (hcd : (x == ("__classdict__" : Str)) = false := by decide) : PE X (.Name x pos) (tVar i) := by
  intro pins s σ H Q I h
  obtain ⟨v, e, h⟩ := h
  obtain ⟨m, hn, hl⟩ := I.loc
  obtain ⟨u, r, l⟩ := hl i x v hN e hv
  have fin : EP X pins σ Q u s := ⟨v, H, I, r, h⟩
  rcases l with ⟨hk, hm⟩ | ⟨hk, c, hc, hcell⟩
  · exact wpAny_Name (wpAny_loadName_local I.ok.kind hk hn hm fin) hd
  · rcases hk with hk | hk
    · exact wpAny_Name (wpAny_loadName_cell I.ok.kind hk hc hcell fin) hd
    · exact wpAny_Name (wpAny_loadName_free I.ok.kind hk hc hcell fin hcd) hd
theorem pe_int {i j pos} : PE X (.Constant (.int i) j pos) (tC (.int i)) := fun _ _ _ H _ I h => wpAny_Constant_int ⟨.int i, H, I.tok _, ⟨_, rfl⟩, h⟩
theorem pe_bl {b j pos} : PE X (.Constant (.bool b) j pos) (tC (.bl b)) := fun _ _ _ H _ I h => Constant_bool ⟨.bl b, H, I, rfl, h⟩
theorem pe_non {j pos} : PE X (.Constant .none j pos) (tC .non) := fun _ _ _ H _ I h => Constant_none ⟨.non, H, I, rfl, h⟩
noncomputable def Gl (X : Cx) (x : Str) : Prop := X.env.kindOf x = some .globalImplicit
theorem ld_glob {E : Value → Shared → Prop} {pins : List (Addr × Obj)} {s : Shared} {σ : St} {H : Hp} {x : Str} {u : Value} {pos : Pos} {Q : Value → Shared → Prop} (I : Inv X pins σ H s) (hg : Gl X x) (hm : X.mg x = some u) (h : Q u s)
    (hd : (x == ("__debug__" : Str)) = false := by decide) : wpAny (model X.prog X.w) X.A (eval (.Name x pos) X.env) Q E s :=
  Calls.Name_function_global I.ok.kind hg (Calls.loadGlobal_global (by rw [I.ok.glob]; exact I.mod.glob.keeps I.bk) hm h) hd
theorem ld_blt {E : Value → Shared → Prop} {pins : List (Addr × Obj)} {s : Shared} {σ : St} {H : Hp} {x : Str} {u : Value} {pos : Pos} {Q : Value → Shared → Prop} (I : Inv X pins σ H s) (hg : Gl X x) (hm : X.mg x = none) (hv : bootBuiltins x = some u) (h : Q u s)
    (hn : x ≠ "__name__" := by decide) (hd : (x == ("__debug__" : Str)) = false := by decide) : wpAny (model X.prog X.w) X.A (eval (.Name x pos) X.env) Q E s := by
  obtain ⟨mb, h1, h2⟩ := I.mod.blt
  exact Calls.Name_function_global I.ok.kind hg (Calls.loadGlobal_builtin (by rw [I.ok.glob]; exact I.mod.glob.keeps I.bk) hm (by rw [I.ok.blt]; exact h1.keeps I.bk) ((h2 x hn).trans hv) h) hd
theorem pe_glob {x : Str} {v : V} {u : Value} {pos : Pos} (hg : Gl X x) (hm : X.mg x = some u) (r : RelV v u) (hd : (x == ("__debug__" : Str)) = false := by decide) : PE X (.Name x pos) (tC v) :=
  fun _ _ _ H _ I h => ld_glob I hg hm ⟨v, H, I, r, h⟩ hd
variable {a b : Expr} {ta tb : TE} {pos : Pos}
noncomputable def PC (X : Cx) (op : CmpOp) (a b : Expr) (t : TE) : Prop :=
  ∀ (pins : List (Addr × Obj)) (s : Shared) (σ : St) (H : Hp) (Q : VK), Inv X pins σ H s → t σ H Q →
    wpAny (model X.prog X.w) X.A (eval a X.env) (fun v s₁ => wpAny (model X.prog X.w) X.A (eval b X.env) (fun u s₂ => wpAny (model X.prog X.w) X.A (compareOp op v u) (EP X pins σ Q) X.xe s₂) X.xe s₁) X.xe s
theorem nobehind (b : Expr) {op : CmpOp} (h : op ≠ .In) (h2 : op ≠ .NotIn) : behindInMarks op b = false := by
  have e1 : (op == CmpOp.In) = false := by cases op <;> first | rfl | exact absurd rfl h
  have e2 : (op == CmpOp.NotIn) = false := by cases op <;> first | rfl | exact absurd rfl h2
  cases b <;> simp [behindInMarks, e1, e2]
noncomputable def tIsN (ta : TE) : TE := fun σ H Q => ta σ H fun x H1 => Q (.bl (decide (x = .non))) H1
noncomputable def tNotN (ta : TE) : TE := fun σ H Q => ta σ H fun x H1 => Q (.bl (!decide (x = .non))) H1
theorem RelV.none_iff {x : V} {v : Value} (r : RelV x v) : (v == Value.none) = decide (x = .non) := by
  cases x with
  | non => cases r; rfl
  | bl _ => cases r; rfl
  | int _ => obtain ⟨t, rfl⟩ := r; rfl
  | str _ => obtain ⟨t, rfl⟩ := r; rfl
  | byt _ => obtain ⟨t, rfl⟩ := r; rfl
  | flt _ => obtain ⟨t, rfl⟩ := r; rfl
  | ref _ => cases r; rfl
  | ty _ => cases r; rfl
theorem pc_isN {j pos'} (ha : PE X a ta) : PC X .Is a (.Constant .none j pos') (tIsN ta) := by
  intro pins s σ H Q I h
  refine thn (ha pins s σ H _ I h) fun v s1 hm2 => ?_
  obtain ⟨x, H1, I1, r1, q1⟩ := hm2
  exact Constant_none (is_none_gen ⟨.bl _, H1, I1, by rw [r1.none_iff]; rfl, q1⟩)
theorem pc_notN {j pos'} (ha : PE X a ta) : PC X .IsNot a (.Constant .none j pos') (tNotN ta) := by
  intro pins s σ H Q I h
  refine thn (ha pins s σ H _ I h) fun v s1 hm3 => ?_
  obtain ⟨x, H1, I1, r1, q1⟩ := hm3
  exact Constant_none (isnot_none_gen ⟨.bl _, H1, I1, by rw [r1.none_iff]; rfl, q1⟩)
noncomputable def tB (t : TE) : TT := fun σ H Q => t σ H fun x H1 => ∃ c, x = .bl c ∧ Q c H1
theorem pe_cmp {op : CmpOp} {t : TE} (h : PC X op a b t) (h1 : behindInMarks op b = false := by first | exact nobehind _ (by decide) (by decide) | rfl) : PE X (.Compare a [op] [b] pos) t := fun pins s σ H Q I hw => wpAny_Compare1 (h pins s σ H Q I hw) h1
theorem pt_cmp {op : CmpOp} {t : TE} (h : PC X op a b t) (h1 : behindInMarks op b = false := by first | exact nobehind _ (by decide) (by decide) | rfl) : PT X (.Compare a [op] [b] pos) (tB t) := by
  intro pins s σ H Q I hw
  refine wpAny_isTrue_Compare1 (thn (h pins s σ H _ I hw) fun v s1 h1 => thn h1 fun u s2 h2 => thn h2 fun c s3 hm4 => ?_) h1
  obtain ⟨x, H1, I1, r1, q1⟩ := hm4
  obtain ⟨d, rfl, q⟩ := q1
  cases r1
  exact wpAny_truthy_bool ⟨H1, I1, q⟩
theorem pt_val {e : Expr} {t : TE} (h : PE X e t) (he : ∀ whole, isTrue e X.env whole = (do let v ← whole; standAt e.pos; holding [v] (truthy v)) := by intro _; rfl) : PT X e (tB t) := by
  intro pins s σ H Q I hw
  refine isTrue_plain (thn (h pins s σ H _ I hw) fun v s1 hm5 => ?_) (he _)
  obtain ⟨x, H1, I1, r1, q1⟩ := hm5
  obtain ⟨d, rfl, q⟩ := q1
  cases r1
  exact wpAny_truthy_bool ⟨H1, I1, q⟩
variable {tA tB' : TT} {rest : List Expr}
noncomputable def tAnd (t u : TT) : TT := fun σ H Q => t σ H fun c H1 => if c = true then u σ H1 Q else Q false H1
noncomputable def tOr (t u : TT) : TT := fun σ H Q => t σ H fun c H1 => if c = true then Q true H1 else u σ H1 Q
noncomputable def tNot (t : TT) : TT := fun σ H Q => t σ H fun c H1 => Q (!c) H1
theorem pw_and1 (ha : PT X a tA) : PW X (.BoolOp .And [a] pos) tA := by
  intro wh pins s σ H Q I h
  refine isTrue_and (thn (ha pins s σ H Q I h) fun c s1 e => ?_)
  cases c with
  | true => exact isTrue_and_nil e
  | false => exact e
theorem pw_or1 (ha : PT X a tA) : PW X (.BoolOp .Or [a] pos) tA := by
  intro wh pins s σ H Q I h
  refine isTrue_or (thn (ha pins s σ H Q I h) fun c s1 e => ?_)
  cases c with
  | false => exact isTrue_or_nil e
  | true => exact e
theorem pw_and (ha : PT X a tA) (hb : PW X (.BoolOp .And (b :: rest) pos) tB') : PW X (.BoolOp .And (a :: b :: rest) pos) (tAnd tA tB') := by
  intro wh pins s σ H Q I h
  refine isTrue_and (thn (ha pins s σ H _ I h) fun c s1 hm6 => ?_)
  obtain ⟨H1, I1, q1⟩ := hm6
  cases c with
  | true => exact hb wh pins s1 σ H1 Q I1 q1
  | false => exact ⟨H1, I1, q1⟩
theorem pw_or (ha : PT X a tA) (hb : PW X (.BoolOp .Or (b :: rest) pos) tB') : PW X (.BoolOp .Or (a :: b :: rest) pos) (tOr tA tB') := by
  intro wh pins s σ H Q I h
  refine isTrue_or (thn (ha pins s σ H _ I h) fun c s1 hm7 => ?_)
  obtain ⟨H1, I1, q1⟩ := hm7
  cases c with
  | true => exact ⟨H1, I1, q1⟩
  | false => exact hb wh pins s1 σ H1 Q I1 q1
theorem pt_not (ha : PT X a tA) : PT X (.UnaryOp .Not a pos) (tNot tA) := by
  intro pins s σ H Q I h
  exact isTrue_not (ha pins s σ H (fun c H1 => Q (!c) H1) I h)
noncomputable def tAndV (ta tb : TE) : TE := fun σ H Q => ta σ H fun x H1 => ∃ c, x = .bl c ∧ if c = true then tb σ H1 Q else Q (.bl false) H1
theorem pe_one {op} {t : TE} (h : PE X a t) : PE X (.BoolOp op [a] pos) t := fun pins s σ H Q I hw => BoolOp_one (h pins s σ H Q I hw)
theorem pe_and (ha : PE X a ta) (hb : PE X (.BoolOp .And (b :: rest) pos) tb) : PE X (.BoolOp .And (a :: b :: rest) pos) (tAndV ta tb) := by
  intro pins s σ H Q I h
  refine BoolOp_and (thn (ha pins s σ H _ I h) fun v s1 hm8 => ?_)
  obtain ⟨x, H1, I1, r1, q1⟩ := hm8
  obtain ⟨c, rfl, q1⟩ := q1
  cases r1
  refine wpAny_truthy_bool ?_
  cases c with
  | true => exact hb pins s1 σ H1 Q I1 q1
  | false => exact ⟨.bl false, H1, I1, rfl, q1⟩
end
end L2
namespace L2
open PySem PySem.Spec PyProof.Rows
noncomputable def SqL (K : PySem.W.Frag) (H : Hp) (a : Addr) (xs : List V) : Prop :=
  Rd H a (.lst xs) ∨
    ∃ (o : Obj) (its : Array Value) (n : Nat), K.lookup a = some o ∧ o.cls = .type "list" ∧ o.dict = none ∧ o.data = .seq its n ∧ its.size ≤ sizeLine ∧ Vals xs its.toList
noncomputable def SqT (K : PySem.W.Frag) (H : Hp) (a : Addr) (xs : List V) : Prop :=
  Rd H a (.tup xs) ∨
    ∃ (o : Obj) (its : Array Value) (n : Nat), K.lookup a = some o ∧ o.cls = .type "tuple" ∧ o.data = .seq its n ∧ its.size ≤ sizeLine ∧ Vals xs its.toList
noncomputable def absV : Value → Option V
  | .none => some .non
  | .bool b => some (.bl b)
  | .int i _ => some (.int i)
  | .str x _ => some (.str x)
  | .bytes b _ => some (.byt b)
  | .float b _ => some (.flt b)
  | .ref a => some (.ref a)
  | .type n => some (.ty n)
  | _ => none
theorem RelV.abs {x : V} {u : Value} (r : RelV x u) : absV u = some x := by
  cases x with
  | non => cases r; rfl
  | bl _ => cases r; rfl
  | int _ => obtain ⟨t, rfl⟩ := r; rfl
  | str _ => obtain ⟨t, rfl⟩ := r; rfl
  | byt _ => obtain ⟨t, rfl⟩ := r; rfl
  | flt _ => obtain ⟨t, rfl⟩ := r; rfl
  | ref _ => cases r; rfl
  | ty _ => cases r; rfl
theorem RelV.inj {x y : V} {u : Value} (r : RelV x u) (q : RelV y u) : x = y := Option.some.inj (r.abs.symm.trans q.abs)
theorem Vals.inj : ∀ {xs ys : List V} {us : List Value}, Vals xs us → Vals ys us → xs = ys
  | _, _, _, .nil, .nil => rfl
  | _, _, _, .cons r t, .cons r' t' => by rw [r.inj r', Vals.inj t t']
section
variable {X : Cx} {pins : List (Addr × Obj)} {σ : St} {H : Hp} {s : Shared} {a : Addr} {xs ys : List V}
theorem SqL.of {K : PySem.W.Frag} (h : H a = some (.lst xs)) : SqL K H a xs := .inl (.inl h)
theorem SqT.of {K : PySem.W.Frag} (h : H a = some (.tup xs)) : SqT K H a xs := .inl (.inl h)
theorem Inv.list (I : Inv X pins σ H s) (h : SqL X.K H a xs) : ∃ its : List Value, Vals xs its ∧ PlainL s.heap a its.toArray ∧ xs.length ≤ sizeLine := by
  rcases h with h | ⟨o, its, n, hk, hc, hd, hs, hz, r⟩
  · obtain ⟨z, its, n, r, e⟩ := h.ok I.hok
    exact ⟨its, r, ⟨_, n, e, rfl, rfl, rfl⟩, z⟩
  · refine ⟨its.toList, r, ⟨o, n, I.kIn a o hk, hc, hd, by simpa using hs⟩, ?_⟩
    have e := r.length
    simp only [Array.length_toList] at e
    omega
theorem Inv.tuple (I : Inv X pins σ H s) (h : SqT X.K H a xs) : ∃ its : List Value, Vals xs its ∧ IsTup s.heap a its.toArray ∧ xs.length ≤ sizeLine := by
  rcases h with h | ⟨o, its, n, hk, hc, hs, hz, r⟩
  · obtain ⟨z, its, r, p⟩ := h.ok I.hok
    exact ⟨its, r, p, z⟩
  · refine ⟨its.toList, r, ⟨o, I.kIn a o hk, hc, n, by simpa using hs⟩, ?_⟩
    have e := r.length
    simp only [Array.length_toList] at e
    omega
theorem Inv.list_inj (I : Inv X pins σ H s) (h : SqL X.K H a xs) (h' : SqL X.K H a ys) : xs = ys := by
  obtain ⟨its, r, ⟨o, n, e, _, _, d⟩, _⟩ := I.list h
  obtain ⟨its', r', ⟨o', n', e', _, _, d'⟩, _⟩ := I.list h'
  rw [e] at e'; cases e'
  rw [d] at d'
  injection d' with d1 _
  have : its = its' := by simpa using congrArg Array.toList d1
  subst this
  exact r.inj r'
end
noncomputable abbrev Cx.wish (X : Cx) (E : Value → Shared → Prop) : Cx := { X with xe := E }
noncomputable abbrev Cx.nox (X : Cx) : Cx := X.wish fun _ _ => False
theorem Cx.Ok.wish {X : Cx} (ok : X.Ok) (E : Value → Shared → Prop) : (X.wish E).Ok :=
  ⟨ok.mod, ok.kind, ok.glob, ok.blt, ok.above, ok.inj, ok.has, ok.cab, ok.hd, ok.frames, ok.stk, ok.exf, ok.bs, ok.bsz, ok.noex, ok.exfs, ok.funs, ok.frf⟩
theorem Cx.Ok.unwish {X : Cx} {E : Value → Shared → Prop} (ok : (X.wish E).Ok) : X.Ok :=
  ⟨ok.mod, ok.kind, ok.glob, ok.blt, ok.above, ok.inj, ok.has, ok.cab, ok.hd, ok.frames, ok.stk, ok.exf, ok.bs, ok.bsz, ok.noex, ok.exfs, ok.funs, ok.frf⟩
section
variable {X : Cx} {pins : List (Addr × Obj)} {σ : St} {H : Hp} {s : Shared} {E : Value → Shared → Prop}
theorem Inv.wish (I : Inv X pins σ H s) (E : Value → Shared → Prop) : Inv (X.wish E) pins σ H s := ⟨I.ok.wish E, I.os, I.bare, I.base, I.loc, I.cell, I.free, I.freeC, I.pin, I.hok, I.len⟩
theorem Inv.unwish (I : Inv (X.wish E) pins σ H s) : Inv X pins σ H s := ⟨I.ok.unwish, I.os, I.bare, I.base, I.loc, I.cell, I.free, I.freeC, I.pin, I.hok, I.len⟩
theorem SP.unwish {D : Ends} {f : Flow} {s' : Shared} (h : SP (X.wish E) pins D f s') : SP X pins D f s' := by
  cases f with
  | next => obtain ⟨σ', H', I, q⟩ := h; exact ⟨σ', H', I.unwish, q⟩
  | brk => obtain ⟨σ', H', I, q⟩ := h; exact ⟨σ', H', I.unwish, q⟩
  | cont => obtain ⟨σ', H', I, q⟩ := h; exact ⟨σ', H', I.unwish, q⟩
  | ret u => obtain ⟨v, σ', H', I, r, q⟩ := h; exact ⟨v, σ', H', I.unwish, r, q⟩
theorem PSs.nox {st : List Stmt} {t : TS} (h : PSs X.nox st t) : PSs X st t := fun pins s σ H D I hw =>
  wpAny_mono (h pins s σ H D (I.wish _) hw) (fun _ _ q => q.unwish) fun _ _ z => False.elim z
end
section
variable {X : Cx} {st : Stmt} {rest : List Stmt} {t u : TS} {e : Expr} {te : TE} {pos : Pos}
noncomputable def tNext : TS := fun D σ H => D.nx σ H
noncomputable def tSeq (t u : TS) : TS := fun D σ H => t { D with nx := u D } σ H
theorem pss_nil : PSs X [] tNext := fun _ _ σ H _ I h => wpAny_execs_nil ⟨σ, H, I, h⟩
theorem pss_cons (h1 : PS X st t) (h2 : PSs X rest u) : PSs X (st :: rest) (tSeq t u) := by
  intro pins s σ H D I h
  refine wpAny_execs_cons (thn (h1 pins s σ H { D with nx := u D } I h) fun f s1 q => ?_)
  cases f with
  | next =>
    obtain ⟨σ', H', I', q⟩ := q
    exact h2 pins s1 σ' H' D I' q
  | ret v => exact q
  | brk => exact q
  | cont => exact q
theorem pss_one (h1 : PS X st t) : PSs X [st] t := by
  intro pins s σ H D I h
  refine wpAny_execs_cons (thn (h1 pins s σ H D I h) fun f s1 q => ?_)
  cases f with
  | next => exact wpAny_execs_nil q
  | ret v => exact q
  | brk => exact q
  | cont => exact q
theorem Inv.quiet {pins : List (Addr × Obj)} {σ : St} {H : Hp} {s : Shared} (I : Inv X pins σ H s) : interactive X.env = false := by simp [interactive, I.ok.kind]
noncomputable def tDrop (te : TE) : TS := fun D σ H => te σ H fun _ H1 => D.nx σ H1
theorem ps_expr (he : PE X e te) (hs : swapsWith e none pos.line X.env = pure false := by rfl) : PS X (.Expr e pos) (tDrop te) := by
  intro pins s σ H D I h
  exact wpAny_Expr_any (thn (he pins s σ H _ I h) fun v s1 ⟨x, H1, I1, r1, q1⟩ => ⟨σ, H1, I1, q1⟩) I.quiet hs
noncomputable def tRet (te : TE) : TS := fun D σ H => te σ H D.rt
theorem ps_ret (he : PE X e te) : PS X (.Return (some e) pos) (tRet te) := by
  intro pins s σ H D I h
  exact wpAny_Return_some (thn (he pins s σ H _ I h) fun v s1 ⟨x, H1, I1, r1, q1⟩ => ⟨x, σ, H1, I1, r1, q1⟩)
noncomputable def tIfS (c : TT) (t u : TS) : TS := fun D σ H => c σ H fun b H1 => if b = true then t D σ H1 else u D σ H1
theorem ps_if {c : Expr} {a b : List Stmt} {tc : TT} (hc : PT X c tc) (ha : PSs X a t) (hb : PSs X b u) : PS X (.If c a b pos) (tIfS tc t u) := by
  intro pins s σ H D I h
  refine wpAny_If (thn (hc pins s σ H _ I h) fun d s1 hm9 => ?_)
  obtain ⟨H1, I1, q1⟩ := hm9
  cases d with
  | true => exact ha pins s1 σ H1 D I1 q1
  | false => exact hb pins s1 σ H1 D I1 q1
end
noncomputable abbrev TG := V → St → Hp → (St → Hp → Prop) → Prop
noncomputable abbrev TGs := List V → St → Hp → (St → Hp → Prop) → Prop
noncomputable def PG (X : Cx) (target : Expr) (t : TG) : Prop :=
  ∀ (pins : List (Addr × Obj)) (s : Shared) (σ : St) (H : Hp) (v : V) (u : Value) (Q : St → Hp → Prop), Inv X pins σ H s → RelV v u → t v σ H Q →
    wpAny (model X.prog X.w) X.A (assign target X.env u) (fun _ s' => ∃ σ' H', Inv X pins σ' H' s' ∧ Q σ' H') X.xe s
noncomputable def PGs (X : Cx) (ts : List Expr) (t : TGs) : Prop :=
  ∀ (pins : List (Addr × Obj)) (s : Shared) (σ : St) (H : Hp) (vs : List V) (us : List Value) (Q : St → Hp → Prop), Inv X pins σ H s → Vals vs us → t vs σ H Q →
    wpAny (model X.prog X.w) X.A (assignInOrder ((assignEach ts X.env).map (·.2)) us) (fun _ s' => ∃ σ' H', Inv X pins σ' H' s' ∧ Q σ' H') X.xe s
noncomputable abbrev TSet := V → V → V → Hp → (Hp → Prop) → Prop
noncomputable def PSet (X : Cx) (t : TSet) : Prop :=
  ∀ (pins : List (Addr × Obj)) (s : Shared) (σ : St) (H : Hp) (o i v : V) (ov iv u : Value) (Q : Hp → Prop), Inv X pins σ H s → RelV o ov → RelV i iv → RelV v u → t o i v H Q →
    wpAny (model X.prog X.w) X.A (setItem ov iv u) (fun _ s' => ∃ H', Inv X pins σ H' s' ∧ Q H') X.xe s
section
variable {X : Cx} {pos : Pos}
noncomputable def gName (i : Nat) : TG := fun v σ H Q => Q (σ.set i (some v)) H
theorem pg_name {i : Nat} {x : Str} (hN : X.N.Nodup) (hi : X.N[i]? = some x) (hx : Loc X.env.scope x) (hf : X.fn x = true ∨ X.env.scope.names.lookup x = some .local := by first | exact .inl rfl | exact .inr rfl | assumption) : PG X (.Name x pos) (gName i) := by
  intro pins s σ H v u Q I r h
  exact wpAny_assign_Name (store_ok I hN hi hx r (fun s' I' => ⟨_, H, I', h⟩) hf)
noncomputable def gNil : TGs := fun vs σ H Q => vs = [] ∧ Q σ H
noncomputable def gCons (t : TG) (u : TGs) : TGs := fun vs σ H Q => ∃ v r, vs = v :: r ∧ t v σ H fun σ' H' => u r σ' H' Q
theorem pgs_nil : PGs X [] gNil := by
  intro pins s σ H vs us Q I r h
  obtain ⟨e, h⟩ := h
  subst e
  cases r
  exact assignInOrder_nil ⟨σ, H, I, h⟩
theorem pgs_cons {e : Expr} {es : List Expr} {t : TG} {u : TGs} (h1 : PG X e t) (h2 : PGs X es u)
    (hs : (assignEach (e :: es) X.env).map (·.2) = assign e X.env :: (assignEach es X.env).map (·.2) := by rfl) : PGs X (e :: es) (gCons t u) := by
  intro pins s σ H vs us Q I r h
  obtain ⟨v, vr, e1, h⟩ := h
  subst e1
  cases r with
  | cons r rr =>
    rw [hs]
    refine assignInOrder_cons (thn (h1 pins s σ H _ _ _ I r h) fun _ s1 hm10 => ?_)
    obtain ⟨σ1, H1, I1, q1⟩ := hm10
    exact h2 pins s1 σ1 H1 _ _ Q I1 rr q1
noncomputable def gTup (K : PySem.W.Frag) (n : Nat) (t : TGs) : TG := fun v σ H Q => ∃ a xs, v = .ref a ∧ SqT K H a xs ∧ xs.length = n ∧ t xs σ H Q
theorem pg_tup {es : List Expr} {k : Nat} {t : TGs} {n : Nat} (hc : X.calm = true) (h : PGs X es t)
    (hn : (assignEach es X.env).length = n := by rfl) (hst : (assignEach es X.env).findIdx? (·.1) = none := by rfl) : PG X (.Tuple es k pos) (gTup X.K n t) := by
  intro pins s σ H v u Q I r hw
  obtain ⟨a, xs, e1, hq, hl, hw⟩ := hw
  subst e1
  cases r
  obtain ⟨its, rv, ht, hz⟩ := I.tuple hq
  refine assign_Tuple_tuple (I.ok.hd hc) ht (by simp [hn, ← hl, rv.length]) hst fun h' hx => ?_
  have I1 : Inv X pins σ H { s with heap := h' } := I.kept (t' := s.toks) fun b o e => hx b o (Nat.ne_of_lt (Heap.lt_size e)) e
  exact h pins _ σ H xs _ Q I1 (by simpa using rv) hw
noncomputable def gSub (to ti : TE) (t : TSet) : TG := fun v σ H Q => to σ H fun o H1 => ti σ H1 fun i H2 => t o i v H2 fun H3 => Q σ H3
theorem pg_sub {o i : Expr} {to ti : TE} {t : TSet} (ho : PE X o to) (hi : PE X i ti) (hs : PSet X t)
    (ha : ∀ v, assign (.Subscript o i pos) X.env v = (do
      let ov ← holding [v] (eval o X.env)
      let iv ← holding [v, ov] (eval i X.env)
      standAt pos
      holding [v, ov, iv] (setItem ov iv v)
      release [v, ov, iv] []) := by intro _; rfl) : PG X (.Subscript o i pos) (gSub to ti t) := by
  intro pins s σ H v u Q I r h
  rw [ha]
  refine wpAny_bind (wpAny_holding (thn (ho pins s σ H _ I h) fun ov s1 hm11 => ?_))
  obtain ⟨x, H1, I1, r1, q1⟩ := hm11
  refine wpAny_bind (wpAny_holding (thn (hi pins s1 σ H1 _ I1 q1) fun iv s2 hm12 => ?_))
  obtain ⟨y, H2, I2, r2, q2⟩ := hm12
  refine wpAny_bind (wpAny_standAt (wpAny_bind (wpAny_holding (thn (hs pins s2 σ H2 x y v ov iv u _ I2 r1 r2 r q2) fun _ s3 hm13 => ?_))))
  obtain ⟨H3, I3, q3⟩ := hm13
  exact wpAny_release ⟨σ, H3, I3, q3⟩
noncomputable def tAsg (te : TE) (g : TG) : TS := fun D σ H => te σ H fun x H1 => g x σ H1 D.nx
theorem ps_asg {tg e : Expr} {te : TE} {g : TG} (he : PE X e te) (hg : PG X tg g) (hs : swapsWithSole [tg] e pos.line X.env = pure false := by rfl) (hw : swappedStores [tg] e X.env = pure none := by rfl)
    (h1 : (assignEach [tg] X.env).map (·.2) = [assign tg X.env] := by rfl) : PS X (.Assign [tg] e pos) (tAsg te g) := by
  intro pins s σ H D I h
  refine wpAny_Assign_stores (thn (he pins s σ H _ I h) fun v s1 hm14 => ?_) hs hw
  obtain ⟨x, H1, I1, r1, q1⟩ := hm14
  rw [h1]
  exact thn (hg pins s1 σ H1 x v _ I1 r1 q1) fun _ s2 q => q
theorem ps_set {i : Nat} {x : Str} {e : Expr} {te : TE} {pos' : Pos} (hN : X.N.Nodup) (hi : X.N[i]? = some x) (hx : Loc X.env.scope x) (he : PE X e te) (hs : swapsWith e (some (.Name x pos')) pos.line X.env = pure false := by rfl) (hf : X.fn x = true ∨ X.env.scope.names.lookup x = some .local := by first | exact .inl rfl | exact .inr rfl | assumption) :
    PS X (.Assign [.Name x pos'] e pos) (tAsg te (gName i)) := by
  intro pins s σ H D I h
  refine wpAny_Assign_Name (thn (he pins s σ H _ I h) fun v s1 hm15 => ?_) hs
  obtain ⟨y, H1, I1, r1, q1⟩ := hm15
  exact store_ok I1 hN hi hx r1 (fun s2 I2 => ⟨_, H1, I2, q1⟩) hf
end
section
variable {X : Cx} {pos : Pos}
noncomputable def tWhile (c : TT) (tb : TS) : TS := fun D σ H => ∃ W : Nat → St → Hp → Prop, (∃ m, W m σ H) ∧ ∀ m σ H, W m σ H →
  c σ H fun b H1 => if b = true then ∃ N : St → Hp → Prop, (∀ σ' H', N σ' H' → ∃ m', m' < m ∧ W m' σ' H') ∧ tb { D with nx := N, ct := N, bk := D.nx } σ H1 else D.nx σ H1
theorem ps_while {c : Expr} {body : List Stmt} {tc : TT} {tb : TS} (hp : PassesOwn (model X.prog X.w) X.A X.env X.xe) (hc : PT X c tc) (hb : PSs X body tb) : PS X (.While c body [] pos) (tWhile tc tb) := by
  intro pins s σ H D I h
  obtain ⟨W, ⟨m0, w0⟩, turn⟩ := h
  refine wpAny_While (codeAny_whileLoop (fun n s' => ∃ σ' H', Inv X pins σ' H' s' ∧ W n σ' H') ?_ m0 ⟨σ, H, I, w0⟩)
  rintro n s1 ⟨σ1, H1, I1, w1⟩
  refine wpAny_passesOwn hp (thn (hc pins s1 σ1 H1 _ I1 (turn n σ1 H1 w1)) fun b s2 hm16 => ?_)
  obtain ⟨H2, I2, q2⟩ := hm16
  cases b with
  | true =>
    obtain ⟨N, hN, q2⟩ := q2
    rw [if_pos rfl]
    refine wpAny_passesOwn hp (thn (hb pins s2 σ1 H2 _ I2 q2) fun f s3 q3 => ?_)
    cases f with
    | next =>
      obtain ⟨σ3, H3, I3, n3⟩ := q3
      obtain ⟨m', hm, w3⟩ := hN σ3 H3 n3
      exact ⟨m', hm, σ3, H3, I3, w3⟩
    | cont =>
      obtain ⟨σ3, H3, I3, n3⟩ := q3
      obtain ⟨m', hm, w3⟩ := hN σ3 H3 n3
      exact ⟨m', hm, σ3, H3, I3, w3⟩
    | brk => exact q3
    | ret v => exact q3
  | false =>
    rw [if_neg Bool.false_ne_true]
    exact wpAny_execs_nil ⟨σ1, H2, I2, q2⟩
end
structure It where
  go : Nat → Hp → Prop
  yld : Nat → Hp → V → Hp → Prop
  stop : Nat → Hp → Prop
noncomputable def FpOk (X : Cx) (pins : List (Addr × Obj)) (H : Hp) (b : Addr) : Prop :=
  H b = none ∧ b ≠ X.env.locals ∧ b ∉ X.fs ∧ (b ∈ X.ex ∨ X.s_0.heap.objs.size ≤ b) ∧ (∀ x c, X.env.cells.lookup x = some c → c ≠ b) ∧ ∀ p ∈ X.pn ++ pins, p.1 ≠ b
theorem Inv.fpOk {X : Cx} {pins : List (Addr × Obj)} {σ : St} {H H' : Hp} {s : Shared} {b : Addr} (I : Inv X pins σ H s) (hb : s.heap.objs.size ≤ b) (hn : H' b = none) : FpOk X pins H' b := by
  refine ⟨hn, Nat.ne_of_gt (Nat.lt_of_lt_of_le I.lt hb), I.nofs hb, .inr (Nat.le_trans I.sz hb), fun x c e z => ?_, fun p hp z => ?_⟩
  · obtain ⟨v, q⟩ := I.cell x c e
    exact absurd (Nat.lt_of_lt_of_le q.lt (by rw [z]; exact hb)) (Nat.lt_irrefl _)
  · exact absurd (Nat.lt_of_lt_of_le (Heap.lt_size (I.pin p hp).1) (by rw [z]; exact hb)) (Nat.lt_irrefl _)
structure Turn (P : Program) (w : World) (K : PySem.W.Frag) (tg : Expr) (J : It) (fp : List Addr) (it : Addr) (tn : Nat → Heap → Prop) : Prop where
  mem : it ∈ fp
  obj : ∀ i h, tn i h → ∀ b ∈ fp, ∃ o, h.get? b = some o ∧ ∀ v, o.data ≠ .cell v
  keep : ∀ i h h', tn i h → (∀ b ∈ fp, ∀ o, h.get? b = some o → h'.get? b = some o) → tn i h'
  item : ∀ (X : Cx), X.prog = P → X.w = w → X.K = K → X.calm = true → ∀ (i : Nat) (pins : List (Addr × Obj)) (s : Shared) (σ : St) (H : Hp) (E : Value → Shared → Prop), Inv X pins σ H s → (∀ b ∈ fp, FpOk X pins H b) → tn i s.heap → J.go i H →
    wpAny (model P w) X.A (pyNext (.ref it)) (fun r s1 => ∃ u, r = some u ∧
      wpAny (model P w) X.A (letOwnedTupleGo tg (.ref it) u) (fun _ s2 => ∃ x H', Inv X pins σ H' s2 ∧ RelV x u ∧ J.yld i H x H' ∧ tn (i + 1) s2.heap ∧ ∀ b ∈ fp, H' b = none) E s1) E s
  done : ∀ (X : Cx), X.prog = P → X.w = w → X.K = K → X.calm = true → ∀ (i : Nat) (pins : List (Addr × Obj)) (s : Shared) (σ : St) (H : Hp) (E : Value → Shared → Prop), Inv X pins σ H s → (∀ b ∈ fp, FpOk X pins H b) → tn i s.heap → J.stop i H →
    wpAny (model P w) X.A (pyNext (.ref it)) (fun r s1 => r = none ∧ Inv X pins σ H s1) E s
  self : ∀ (A : Around) (i : Nat) (s : Shared) (Q : Value → Shared → Prop) (E : Value → Shared → Prop), tn i s.heap → Q (.ref it) s → wpAny (model P w) A (pyIter (.ref it)) Q E s
noncomputable abbrev TI := St → Hp → (It → Hp → Prop) → Prop
noncomputable def PIE (X : Cx) (pins : List (Addr × Obj)) (σ : St) (tg : Expr) (R : It → Hp → Prop) (itv : Value) (s2 : Shared) : Prop :=
  ∃ (it : Addr) (fp : List Addr) (tn : Nat → Heap → Prop) (J : It) (H' : Hp), itv = .ref it ∧ Inv X pins σ H' s2 ∧ Turn X.prog X.w X.K tg J fp it tn ∧ tn 0 s2.heap ∧ (∀ b ∈ fp, FpOk X pins H' b) ∧ R J H'
noncomputable def PI (X : Cx) (tg iter : Expr) (wi : TI) : Prop :=
  ∀ (pins : List (Addr × Obj)) (s : Shared) (σ : St) (H : Hp) (R : It → Hp → Prop), Inv X pins σ H s → wi σ H R →
    wpAny (model X.prog X.w) X.A (eval iter X.env) (fun v s1 => wpAny (model X.prog X.w) X.A (pyIter v) (PIE X pins σ tg R) X.xe s1) X.xe s
theorem go_of {M : Model} {A : Around} {E : Value → Shared → Prop} {s : Shared} {tg : Expr} {it : Addr} {u : Value} {o : Obj} {n : String} {vs : Array Value} {Q : Unit → Shared → Prop} (ho : s.heap.get? it = some o) (hc : o.cls = .type n) (hd : o.data = .fields vs)
    (hn : ["enumerate", "zip", "dict_itemiterator", "dict_reverseitemiterator", "odict_iterator", "itertools.zip_longest", "itertools.pairwise"].contains n = false) (hQ : Q () s) : wpAny M A (letOwnedTupleGo tg (.ref it) u) Q E s := by
  unfold letOwnedTupleGo
  cases tg <;> first
    | exact wpAny_pure hQ
    | (cases u <;> first
        | exact wpAny_pure hQ
        | (refine wpAny_bind (wpAny_load ho ?_)
           rw [hc, hd]
           show wpAny M A (if (["enumerate", "zip", "dict_itemiterator", "dict_reverseitemiterator", "odict_iterator", "itertools.zip_longest", "itertools.pairwise"].contains n && vs[0]? == some (rawInt _)) = true then _ else _) Q E s
           rw [if_neg (by intro h; rw [hn, Bool.false_and] at h; cases h)]
           exact wpAny_pure hQ))
noncomputable def Itl (K : PySem.W.Frag) (a : Addr) : It :=
  ⟨fun i H => ∃ xs x, SqL K H a xs ∧ xs[i]? = some x, fun i H x H' => H' = H ∧ ∀ xs, SqL K H a xs → xs[i]? = some x, fun i H => ∃ xs, SqL K H a xs ∧ xs.length ≤ i⟩
noncomputable def Itr (lo : Int) (n : Nat) : It := ⟨fun i _ => i < n, fun i H x H' => H' = H ∧ x = .int (lo + i), fun i _ => n ≤ i⟩
theorem turn_list {P : Program} {w : World} {K : PySem.W.Frag} {tg : Expr} (a it : Addr) : Turn P w K tg (Itl K a) [it] it (fun i h => h.IsListIter it a i) where
  mem := by simp
  obj := fun i h st b hb => by
    have e : b = it := by simpa using hb
    subst e
    obtain ⟨o, e, c, d⟩ := st
    exact ⟨o, e, fun v z => by rw [d] at z; cases z⟩
  keep := fun i h h' st k => st.at fun o e => k it (by simp) o e
  item := by
    intro X hP hw hK hc i pins s σ H E I hf st hg
    subst hP hw hK
    obtain ⟨xs, x, hq, hx⟩ := hg
    obtain ⟨its, rv, p, hz⟩ := I.list hq
    obtain ⟨u, hu, ru⟩ := rv.get hx
    obtain ⟨f0, f1, f2, f3, f4, f5⟩ := hf it (by simp)
    refine wpAny_pyNext_list_item st p.isList (x := u) (by simpa using hu) fun h' st' sb => ?_
    have I1 : Inv X pins σ H { s with heap := h' } := I.turned (t' := s.toks) (fun b o hb e => (sb.2 b hb).trans e) f0 f1 f3 f4 f5
    obtain ⟨o, e, c, d⟩ := id st'
    exact ⟨u, rfl, go_of (s := { s with heap := h' }) e c d (by decide) ⟨x, H, I1, ru, ⟨rfl, fun ys hy => by rw [I.list_inj hy hq]; exact hx⟩, st', fun b hb => (hf b hb).1⟩⟩
  done := by
    intro X hP hw hK hc i pins s σ H E I hf st hg
    subst hP hw hK
    obtain ⟨xs, hq, hx⟩ := hg
    obtain ⟨its, rv, p, hz⟩ := I.list hq
    obtain ⟨f0, f1, f2, f3, f4, f5⟩ := hf it (by simp)
    have hl := rv.length
    exact wpAny_pyNext_list_end (I.ok.hd hc) st p.isList (by simp; omega) fun h' eb => ⟨rfl, I.turned (t' := s.toks) (fun b o hb e => eb b o hb e) f0 f1 f3 f4 f5⟩
  self := fun _ _ _ _ _ st h => wpAny_pyIter_listiter st h
theorem turn_range {P : Program} {w : World} {K : PySem.W.Frag} {tg : Expr} (it : Addr) (lo : Int) (n : Nat) : Turn P w K tg (Itr lo n) [it] it (fun i h => IsRangeIter h it (lo + (i : Nat) * 1) ((n : Int) - (i : Nat)) 1) where
  mem := by simp
  obj := fun i h st b hb => by
    have e : b = it := by simpa using hb
    subst e
    exact ⟨_, st, fun v z => by
      have z' : Data.fields _ = Data.cell v := z
      cases z'⟩
  keep := fun i h h' st k => k it (by simp) _ st
  item := by
    intro X hP hw hK hc i pins s σ H E I hf st hg
    subst hP hw hK
    obtain ⟨f0, f1, f2, f3, f4, f5⟩ := hf it (by simp)
    have W := Walks.range (prog := X.prog) (w := X.w) (I.ok.hd hc) it lo 1 n
    refine W.item i s _ _ hg st fun v h' tk hv st' kk => ?_
    obtain ⟨t, rfl⟩ := hv
    have I1 : Inv X pins σ H { s with heap := h', toks := tk } := I.turned (fun b o hb e => kk b o (by simpa using hb) e) f0 f1 f3 f4 f5
    refine ⟨_, rfl, go_of (s := { s with heap := h', toks := tk }) (n := "range_iterator") st' rfl rfl (by decide) ⟨.int (lo + i), H, I1, ⟨t, ?_⟩, ⟨rfl, rfl⟩, st', fun b hb => (hf b hb).1⟩⟩
    rw [Int.mul_one]
  done := by
    intro X hP hw hK hc i pins s σ H E I hf st hg
    subst hP hw hK
    obtain ⟨f0, f1, f2, f3, f4, f5⟩ := hf it (by simp)
    exact wpAny_pyNext_range_end (I.ok.hd hc) st (by have : n ≤ i := hg; omega) fun h' eb => ⟨rfl, I.turned (t' := s.toks) (fun b o hb e => eb b o hb e) f0 f1 f3 f4 f5⟩
  self := fun _ _ _ _ _ st h => wpAny_pyIter_rangeiter st h
end L2
namespace L2
open PySem PySem.Spec PyProof.Rows
section
variable {X : Cx} {tg : Expr}
noncomputable def iList (K : PySem.W.Frag) (tl : TE) : TI := fun σ H R => tl σ H fun x H1 => ∃ a, x = .ref a ∧ (∃ xs, SqL K H1 a xs) ∧ R (Itl K a) H1
theorem pi_list {l : Expr} {tl : TE} (hl : PE X l tl) : PI X tg l (iList X.K tl) := by
  intro pins s σ H R I h
  refine thn (hl pins s σ H _ I h) fun v s1 hm17 => ?_
  obtain ⟨x, H1, I1, r1, q1⟩ := hm17
  obtain ⟨a, e, ⟨xs, hq⟩, q⟩ := q1
  subst e
  cases r1
  obtain ⟨its, rv, p, hz⟩ := I1.list hq
  refine wpAny_pyIter_list p.isList ?_
  refine ⟨s1.heap.objs.size, [s1.heap.objs.size], _, _, H1, rfl, I1.kept (t' := s1.toks) fun b o e => Heap.get?_push_of_some _ e, turn_list a _, ⟨_, Heap.get?_push_size _ rfl, rfl, rfl⟩, fun b hb => ?_, q⟩
  have e : b = s1.heap.objs.size := by simpa using hb
  subst e
  exact I1.fpOk (Nat.le_refl _) (I1.hok.fresh (Nat.le_refl _))
noncomputable def tFor (wi : TI) (g : TG) (tb : TS) : TS := fun D σ H => wi σ H fun J H1 => ∃ W : Nat → Nat → St → Hp → Prop, (∃ m, W 0 m σ H1) ∧ ∀ i m σ H, W i m σ H →
  (J.stop i H ∧ D.nx σ H) ∨ (J.go i H ∧ ∃ N : St → Hp → Prop, (∀ σ' H', N σ' H' → ∃ m', m' < m ∧ W (i + 1) m' σ' H') ∧ ∀ x H', J.yld i H x H' → g x σ H' fun σ2 H2 => tb { D with nx := N, ct := N, bk := D.nx } σ2 H2)
noncomputable def pinsAt (fp : List Addr) (h : Heap) : List (Addr × Obj) := fp.filterMap fun b => (h.get? b).map fun o => (b, o)
theorem mem_pinsAt {fp : List Addr} {h : Heap} {b : Addr} {o : Obj} (hb : b ∈ fp) (e : h.get? b = some o) : (b, o) ∈ pinsAt fp h := List.mem_filterMap.mpr ⟨b, hb, by rw [e]; rfl⟩
theorem of_pinsAt {fp : List Addr} {h : Heap} {p : Addr × Obj} (hp : p ∈ pinsAt fp h) : p.1 ∈ fp ∧ h.get? p.1 = some p.2 := by
  obtain ⟨b, hb, e⟩ := List.mem_filterMap.mp hp
  cases q : h.get? b with
  | none => rw [q] at e; cases e
  | some o =>
    rw [q] at e
    have e' : (b, o) = p := Option.some.inj e
    subst e'
    exact ⟨hb, q⟩
theorem Inv.pinned {pins : List (Addr × Obj)} {σ : St} {H : Hp} {s : Shared} {fp : List Addr} (I : Inv X pins σ H s) (hf : ∀ b ∈ fp, FpOk X pins H b) (ho : ∀ b ∈ fp, ∃ o, s.heap.get? b = some o ∧ ∀ v, o.data ≠ .cell v) : Inv X (pins ++ pinsAt fp s.heap) σ H s :=
  I.pins_of fun p hp => (List.mem_append.mp hp).elim (fun z => I.pin p (List.mem_append_right _ z)) fun z => by
    obtain ⟨hb, e⟩ := of_pinsAt z
    obtain ⟨f0, f1, f2, _⟩ := hf p.1 hb
    obtain ⟨o, e', d⟩ := ho p.1 hb
    rw [e] at e'; cases e'
    exact ⟨e, f0, f1, f2, d⟩
theorem Inv.unpinned {pins pl : List (Addr × Obj)} {σ : St} {H : Hp} {s : Shared} (I : Inv X (pins ++ pl) σ H s) : Inv X pins σ H s := I.pins_of fun p hp => I.pin p (List.mem_append_right _ (List.mem_append_left _ hp))
theorem ps_for {iter : Expr} {body : List Stmt} {wi : TI} {g : TG} {tb : TS} {pos : Pos} (hp : PassesOwn (model X.prog X.w) X.A X.env X.xe) (hc : X.calm = true) (hi : PI X tg iter wi) (hg : PG X tg g) (hb : PSs X body tb)
    (hs : ∀ x, foldedSetIterable iter X.env x = pure x := by intro _; rfl) : PS X (.For tg iter body [] pos) (tFor wi g tb) := by
  intro pins s σ H D I h
  refine wpAny_For (thn (hi pins s σ H _ I h) fun v s1 h1 => thn h1 fun itv s2 h2 => ?_) hs
  obtain ⟨it, fp, tn, J, H2, e, I2, T, st2, f2, W, ⟨m0, w0⟩, turn⟩ := h2
  subst e
  have stat : ∀ {H' : Hp}, (∀ b ∈ fp, H' b = none) → ∀ b ∈ fp, FpOk X pins H' b := fun hn b hb => ⟨hn b hb, (f2 b hb).2⟩
  refine codeAny_forLoop_any (fun n s' => ∃ i σ' H', Inv X pins σ' H' s' ∧ tn i s'.heap ∧ (∀ b ∈ fp, H' b = none) ∧ W i n σ' H') ?_ m0 ⟨0, σ, H2, I2, st2, fun b hb => (f2 b hb).1, w0⟩
  rintro n s3 ⟨i, σ3, H3, I3, st3, fr3, w3⟩
  rcases turn i n σ3 H3 w3 with ⟨stop, qn⟩ | ⟨go, N, hN, step⟩
  · refine wpAny_passesOwn hp (thn (T.done X rfl rfl rfl hc i pins s3 σ3 H3 X.xe I3 (stat fr3) st3 stop) fun r s4 hm18 => ?_)
    obtain ⟨hr, I4⟩ := hm18
    subst hr
    exact wpAny_execs_nil ⟨σ3, H3, I4, qn⟩
  · refine wpAny_passesOwn hp (thn (T.item X rfl rfl rfl hc i pins s3 σ3 H3 X.xe I3 (stat fr3) st3 go) fun r s4 hm19 => ?_)
    obtain ⟨u, hr, h4⟩ := hm19
    subst hr
    refine wpAny_passesOwn hp (thn h4 fun _ s5 hm20 => ?_)
    obtain ⟨x, H5, I5, r5, y5, st5, fr5⟩ := hm20
    have I5' := I5.pinned (stat fr5) (T.obj _ _ st5)
    refine wpAny_passesOwn hp (thn (hg _ s5 σ3 H5 x u _ I5' r5 (step x H5 y5)) fun _ s6 hm21 => ?_)
    obtain ⟨σ6, H6, I6, q6⟩ := hm21
    refine wpAny_passesOwn hp (thn (hb _ s6 σ6 H6 _ I6 q6) fun f s7 q7 => ?_)
    have again : ∀ {σ7 : St} {H7 : Hp}, Inv X (pins ++ pinsAt fp s5.heap) σ7 H7 s7 → N σ7 H7 → ∃ m, m < n ∧ ∃ i σ' H', Inv X pins σ' H' s7 ∧ tn i s7.heap ∧ (∀ b ∈ fp, H' b = none) ∧ W i m σ' H' := fun {σ7 H7} I7 n7 => by
      obtain ⟨m', hm, w7⟩ := hN σ7 H7 n7
      refine ⟨m', hm, i + 1, σ7, H7, I7.unpinned, T.keep _ _ _ st5 fun b hb o e => (I7.pin (b, o) (List.mem_append_right _ (List.mem_append_right _ (mem_pinsAt hb e)))).1, fun b hb => ?_, w7⟩
      obtain ⟨o, e, d⟩ := T.obj _ _ st5 b hb
      exact (I7.pin (b, o) (List.mem_append_right _ (List.mem_append_right _ (mem_pinsAt hb e)))).2.1
    cases f with
    | next => obtain ⟨σ7, H7, I7, n7⟩ := q7; exact again I7 n7
    | cont => obtain ⟨σ7, H7, I7, n7⟩ := q7; exact again I7 n7
    | brk => obtain ⟨σ7, H7, I7, q7⟩ := q7; exact ⟨σ7, H7, I7.unpinned, q7⟩
    | ret v => obtain ⟨x7, σ7, H7, I7, r7, q7⟩ := q7; exact ⟨x7, σ7, H7, I7.unpinned, r7, q7⟩
end
theorem for_list {K : PySem.W.Frag} {a : Addr} {xs : List V} {g : TG} {tb : TS} {D : Ends} {σ : St} {H : Hp} (Pv : Nat → St → Hp → Prop) (h0 : Pv 0 σ H) (hl : ∀ i σ H, i ≤ xs.length → Pv i σ H → SqL K H a xs)
    (hs : ∀ i x σ H, xs[i]? = some x → Pv i σ H → g x σ H fun σ2 H2 => tb { D with nx := Pv (i + 1), ct := Pv (i + 1), bk := D.nx } σ2 H2) (hd : ∀ σ H, Pv xs.length σ H → D.nx σ H) :
    ∃ W : Nat → Nat → St → Hp → Prop, (∃ m, W 0 m σ H) ∧ ∀ i m σ H, W i m σ H →
      ((Itl K a).stop i H ∧ D.nx σ H) ∨ ((Itl K a).go i H ∧ ∃ N : St → Hp → Prop, (∀ σ' H', N σ' H' → ∃ m', m' < m ∧ W (i + 1) m' σ' H') ∧ ∀ x H', (Itl K a).yld i H x H' → g x σ H' fun σ2 H2 => tb { D with nx := N, ct := N, bk := D.nx } σ2 H2) := by
  refine ⟨fun i m σ H => m = xs.length - i ∧ i ≤ xs.length ∧ Pv i σ H, ⟨xs.length, by simp, Nat.zero_le _, h0⟩, ?_⟩
  rintro i m σ H ⟨rfl, hi, p⟩
  have q := hl i σ H hi p
  by_cases hlt : i < xs.length
  · refine .inr ⟨⟨xs, xs[i], q, by simp [hlt]⟩, Pv (i + 1), fun σ' H' p' => ⟨xs.length - (i + 1), by omega, rfl, hlt, p'⟩, fun x H' y => ?_⟩
    obtain ⟨e, y⟩ := y
    subst e
    exact hs i x σ _ (y xs q) p
  · have e : i = xs.length := by omega
    subst e
    exact .inl ⟨⟨xs, q, Nat.le_refl _⟩, hd σ H p⟩
theorem for_range {lo : Int} {n : Nat} {g : TG} {tb : TS} {D : Ends} {σ : St} {H : Hp} (Pv : Nat → St → Hp → Prop) (h0 : Pv 0 σ H)
    (hs : ∀ i σ H, i < n → Pv i σ H → g (.int (lo + i)) σ H fun σ2 H2 => tb { D with nx := Pv (i + 1), ct := Pv (i + 1), bk := D.nx } σ2 H2) (hd : ∀ σ H, Pv n σ H → D.nx σ H) :
    ∃ W : Nat → Nat → St → Hp → Prop, (∃ m, W 0 m σ H) ∧ ∀ i m σ H, W i m σ H →
      ((Itr lo n).stop i H ∧ D.nx σ H) ∨ ((Itr lo n).go i H ∧ ∃ N : St → Hp → Prop, (∀ σ' H', N σ' H' → ∃ m', m' < m ∧ W (i + 1) m' σ' H') ∧ ∀ x H', (Itr lo n).yld i H x H' → g x σ H' fun σ2 H2 => tb { D with nx := N, ct := N, bk := D.nx } σ2 H2) := by
  refine ⟨fun i m σ H => m = n - i ∧ i ≤ n ∧ Pv i σ H, ⟨n, by simp, Nat.zero_le _, h0⟩, ?_⟩
  rintro i m σ H ⟨rfl, hi, p⟩
  by_cases hlt : i < n
  · refine .inr ⟨hlt, Pv (i + 1), fun σ' H' p' => ⟨n - (i + 1), by omega, rfl, hlt, p'⟩, fun x H' y => ?_⟩
    obtain ⟨e, y⟩ := y
    subst e y
    exact hs i σ _ hlt p
  · have e : i = n := by omega
    subst e
    exact .inl ⟨Nat.le_refl _, hd σ H p⟩
theorem while_by {c : TT} {tb : TS} {D : Ends} {σ : St} {H : Hp} (Pv : St → Hp → Prop) (μ : St → Hp → Nat) (h0 : Pv σ H)
    (hs : ∀ σ H, Pv σ H → c σ H fun b H1 => if b = true then tb { D with nx := fun σ' H' => Pv σ' H' ∧ μ σ' H' < μ σ H, ct := fun σ' H' => Pv σ' H' ∧ μ σ' H' < μ σ H, bk := D.nx } σ H1 else D.nx σ H1)
    (mono : ∀ σ H Q Q', (∀ b H1, Q b H1 → Q' b H1) → c σ H Q → c σ H Q') : tWhile c tb D σ H := by
  refine ⟨fun m σ H => m = μ σ H ∧ Pv σ H, ⟨_, rfl, h0⟩, ?_⟩
  rintro m σ H ⟨rfl, p⟩
  refine mono σ H _ _ (fun b H1 q => ?_) (hs σ H p)
  cases b with
  | true => exact ⟨_, fun σ' H' ⟨p', l⟩ => ⟨_, l, rfl, p'⟩, q⟩
  | false => exact q
end L2
namespace L2
open PySem PySem.Spec PyProof.Rows
noncomputable abbrev R2 := V → V → Hp → VK → Prop
noncomputable def OpR (X : Cx) (f : Value → Value → Sem Value) (r : R2) : Prop :=
  ∀ (pins : List (Addr × Obj)) (s : Shared) (σ : St) (H : Hp) (x y : V) (v u : Value) (Q : VK), Inv X pins σ H s → RelV x v → RelV y u → r x y H Q →
    wpAny (model X.prog X.w) X.A (f v u) (EP X pins σ Q) X.xe s
noncomputable def UnR (X : Cx) (f : Value → Sem Value) (r : V → Hp → VK → Prop) : Prop :=
  ∀ (pins : List (Addr × Obj)) (s : Shared) (σ : St) (H : Hp) (x : V) (v : Value) (Q : VK), Inv X pins σ H s → RelV x v → r x H Q →
    wpAny (model X.prog X.w) X.A (f v) (EP X pins σ Q) X.xe s
noncomputable def CallR (X : Cx) (f : Value) (r : List V → Hp → VK → Prop) : Prop :=
  ∀ (pins : List (Addr × Obj)) (s : Shared) (σ : St) (H : Hp) (xs : List V) (us : List Value) (Q : VK), Inv X pins σ H s → Vals xs us → r xs H Q →
    wpAny (model X.prog X.w) X.A (call f us) (EP X pins σ Q) X.xe s
noncomputable def tOp (r : R2) (ta tb : TE) : TE := fun σ H Q => ta σ H fun x H1 => tb σ H1 fun y H2 => r x y H2 Q
noncomputable def tUn (r : V → Hp → VK → Prop) (ta : TE) : TE := fun σ H Q => ta σ H fun x H1 => r x H1 Q
noncomputable def rI (C : Int → Int → Prop) (g : Int → Int → V) : R2 := fun x y H Q => ∃ i j, x = .int i ∧ y = .int j ∧ C i j ∧ Q (g i j) H
noncomputable def rI0 (g : Int → Int → V) : R2 := fun x y H Q => ∃ i j, x = .int i ∧ y = .int j ∧ Q (g i j) H
noncomputable def rU (g : Int → V) : V → Hp → VK → Prop := fun x H Q => ∃ i, x = .int i ∧ Q (g i) H
section
variable {X : Cx} {a b c : Expr} {ta tb tc : TE} {pos : Pos}
theorem binT (ha : PE X a ta) (hb : PE X b tb) {pins : List (Addr × Obj)} {s : Shared} {σ : St} {H : Hp} {R : V → V → Hp → Prop} (I : Inv X pins σ H s)
    (h : ta σ H fun x H1 => tb σ H1 fun y H2 => R x y H2) {Q : Value → Shared → Prop} {f : Value → Value → Sem Value}
    (hf : ∀ v u s2 x y H2, Inv X pins σ H2 s2 → RelV x v → RelV y u → R x y H2 → wpAny (model X.prog X.w) X.A (f v u) Q X.xe s2) :
    wpAny (model X.prog X.w) X.A (eval a X.env) (fun v s₁ => wpAny (model X.prog X.w) X.A (eval b X.env) (fun u s₂ => wpAny (model X.prog X.w) X.A (f v u) Q X.xe s₂) X.xe s₁) X.xe s := by
  refine thn (ha pins s σ H _ I h) fun v s1 hm22 => ?_
  obtain ⟨x, H1, I1, r1, q1⟩ := hm22
  refine thn (hb pins s1 σ H1 _ I1 q1) fun u s2 hm23 => ?_
  obtain ⟨y, H2, I2, r2, q2⟩ := hm23
  exact hf v u s2 x y H2 I2 r1 r2 q2
theorem pe_op {op : Operator} {r : R2} (ho : OpR X (binaryOp op) r) (ha : PE X a ta) (hb : PE X b tb) : PE X (.BinOp a op b pos) (tOp r ta tb) := by
  intro pins s σ H Q I h
  exact wpAny_BinOp (binT ha hb I h fun v u s2 x y H2 I2 rx ry q => ho pins s2 σ H2 x y v u Q I2 rx ry q)
theorem pe_un {op : UnaryOp} {r : V → Hp → VK → Prop} (ho : UnR X (unaryOp op) r) (ha : PE X a ta) : PE X (.UnaryOp op a pos) (tUn r ta) := by
  intro pins s σ H Q I h
  exact UnaryOp_ (thn (ha pins s σ H _ I h) fun v s1 ⟨x, H1, I1, r1, q1⟩ => ho pins s1 σ H1 x v Q I1 r1 q1)
theorem opI {f : Value → Value → Sem Value} {C : Int → Int → Prop} {g : Int → Int → Int}
    (rule : ∀ (i j : Int) (t u : Tok) (s : Shared) (Q : Value → Shared → Prop) (E : Value → Shared → Prop), C i j → Q (.int (g i j) s.toks) { s with toks := s.toks + 1 } → wpAny (model X.prog X.w) X.A (f (.int i t) (.int j u)) Q E s) :
    OpR X f (rI C fun i j => .int (g i j)) := by
  intro pins s σ H x y v u Q I rx ry h
  obtain ⟨i, j, rfl, rfl, hc, q⟩ := h
  obtain ⟨t, rfl⟩ := rx
  obtain ⟨t', rfl⟩ := ry
  exact rule i j t t' s _ _ hc ⟨.int (g i j), H, I.tok _, ⟨_, rfl⟩, q⟩
theorem opI0 {f : Value → Value → Sem Value} {g : Int → Int → Int}
    (rule : ∀ (i j : Int) (t u : Tok) (s : Shared) (Q : Value → Shared → Prop) (E : Value → Shared → Prop), Q (.int (g i j) s.toks) { s with toks := s.toks + 1 } → wpAny (model X.prog X.w) X.A (f (.int i t) (.int j u)) Q E s) :
    OpR X f (rI0 fun i j => .int (g i j)) := by
  intro pins s σ H x y v u Q I rx ry h
  obtain ⟨i, j, rfl, rfl, q⟩ := h
  obtain ⟨t, rfl⟩ := rx
  obtain ⟨t', rfl⟩ := ry
  exact rule i j t t' s _ _ ⟨.int (g i j), H, I.tok _, ⟨_, rfl⟩, q⟩
theorem opB0 {f : Value → Value → Sem Value} {g : Int → Int → Bool}
    (rule : ∀ (i j : Int) (t u : Tok) (s : Shared) (Q : Value → Shared → Prop) (E : Value → Shared → Prop), Q (.bool (g i j)) s → wpAny (model X.prog X.w) X.A (f (.int i t) (.int j u)) Q E s) :
    OpR X f (rI0 fun i j => .bl (g i j)) := by
  intro pins s σ H x y v u Q I rx ry h
  obtain ⟨i, j, rfl, rfl, q⟩ := h
  obtain ⟨t, rfl⟩ := rx
  obtain ⟨t', rfl⟩ := ry
  exact rule i j t t' s _ _ ⟨.bl (g i j), H, I, rfl, q⟩
noncomputable def CPow (i j : Int) : Prop := 0 ≤ j ∧ j ≤ 1000000 ∧ i.natAbs < 2 ^ 64
theorem op_add : OpR X (binaryOp .Add) (rI0 fun i j => .int (i + j)) := opI0 fun _ _ _ _ _ _ _ q => add_int q
theorem op_sub : OpR X (binaryOp .Sub) (rI0 fun i j => .int (i - j)) := opI0 fun _ _ _ _ _ _ _ q => sub_int q
theorem op_mod : OpR X (binaryOp .Mod) (rI (fun _ j => 0 < j) fun i j => .int (i % j)) := opI fun i j _ _ _ _ _ hc q => by
  have h1 : (0 : Int) < j := hc
  exact mod_int' (by omega) (by rw [Int.fmod_eq_emod_of_nonneg i (by omega)]; exact q)
theorem op_shl : OpR X (binaryOp .LShift) (rI CPow fun i j => .int (i * 2 ^ j.toNat)) := opI fun _ _ _ _ _ _ _ hc q => lshift_int_small hc.1 hc.2.1 hc.2.2 q
theorem unI {f : Value → Sem Value} {g : Int → Int}
    (rule : ∀ (i : Int) (t : Tok) (s : Shared) (Q : Value → Shared → Prop) (E : Value → Shared → Prop), Q (.int (g i) s.toks) { s with toks := s.toks + 1 } → wpAny (model X.prog X.w) X.A (f (.int i t)) Q E s) :
    UnR X f (rU fun i => .int (g i)) := by
  intro pins s σ H x v Q I rx h
  obtain ⟨i, rfl, q⟩ := h
  obtain ⟨t, rfl⟩ := rx
  exact rule i t s _ _ ⟨.int (g i), H, I.tok _, ⟨_, rfl⟩, q⟩
theorem un_neg : UnR X (unaryOp .USub) (rU fun i => .int (-i)) := unI fun _ _ _ _ _ q => neg_int q
end
noncomputable def scal : V → V → Bool
  | .non, .non => true | .non, .int _ => true | .int _, .non => true | .non, .bl _ => true | .bl _, .non => true | .non, .str _ => true | .str _, .non => true
  | .int _, .int _ => true | .bl _, .bl _ => true | .str _, .str _ => true | .byt _, .byt _ => true
  | .int _, .str _ => true | .str _, .int _ => true | .bl _, .str _ => true | .str _, .bl _ => true
  | _, _ => false
noncomputable def rEq : R2 := fun x y H Q => scal x y = true ∧ Q (.bl (decide (x = y))) H
noncomputable def rNe : R2 := fun x y H Q => scal x y = true ∧ Q (.bl (!decide (x = y))) H
theorem dec_int {i j : Int} : decide (V.int i = V.int j) = (i == j) := by
  rw [Bool.eq_iff_iff]
  simp
theorem dec_bl {i j : Bool} : decide (V.bl i = V.bl j) = (i == j) := by
  rw [Bool.eq_iff_iff]
  simp
theorem dec_str {i j : Str} : decide (V.str i = V.str j) = (i == j) := by
  rw [Bool.eq_iff_iff]
  simp
theorem dec_byt {i j : Array UInt8} : decide (V.byt i = V.byt j) = (i.toList == j.toList) := by
  rw [Bool.eq_iff_iff]
  cases i
  cases j
  simp
section
variable {X : Cx} {a b c : Expr} {ta tb tc : TE} {pos : Pos}
theorem fin_bl {pins : List (Addr × Obj)} {σ : St} {H : Hp} {s : Shared} {Q : VK} {k k' : Bool} (I : Inv X pins σ H s) (q : Q (.bl k) H) (e : k = k') : EP X pins σ Q (.bool k') s := by
  subst e
  exact ⟨.bl k, H, I, rfl, q⟩
theorem op_eq : OpR X (compareOp .Eq) rEq := by
  intro pins s σ H x y v u Q I rx ry h
  obtain ⟨hs, q⟩ := h
  cases x with
  | non =>
    cases rx
    cases y with
    | non => cases ry; exact PySem.EqNone.eq_none_none (fin_bl I q (by simp))
    | bl j => cases ry; exact PySem.EqNone.eq_none_bool (fin_bl I q (by simp))
    | int j => obtain ⟨t', rfl⟩ := ry; exact PySem.EqNone.eq_none_int (fin_bl I q (by simp))
    | str j => obtain ⟨t', rfl⟩ := ry; exact PySem.EqNone.eq_none_str (fin_bl I q (by simp))
    | _ => exact absurd (show false = true from hs) Bool.false_ne_true
  | bl i =>
    cases rx
    cases y with
    | non => cases ry; exact PySem.EqNone.eq_bool_none (fin_bl I q (by simp))
    | bl j => cases ry; exact eq_bool (fin_bl I q dec_bl)
    | str j => obtain ⟨t', rfl⟩ := ry; exact PySem.EqMixed.eq_bool_str (fin_bl I q (by simp))
    | _ => exact absurd (show false = true from hs) Bool.false_ne_true
  | int i =>
    obtain ⟨t, rfl⟩ := rx
    cases y with
    | non => cases ry; exact PySem.EqNone.eq_int_none (fin_bl I q (by simp))
    | int j => obtain ⟨t', rfl⟩ := ry; exact eq_int (fin_bl I q dec_int)
    | str j => obtain ⟨t', rfl⟩ := ry; exact PySem.EqMixed.eq_int_str (fin_bl I q (by simp))
    | _ => exact absurd (show false = true from hs) Bool.false_ne_true
  | str i =>
    obtain ⟨t, rfl⟩ := rx
    cases y with
    | non => cases ry; exact PySem.EqNone.eq_str_none (fin_bl I q (by simp))
    | bl j => cases ry; exact PySem.EqMixed.eq_str_bool (fin_bl I q (by simp))
    | int j => obtain ⟨t', rfl⟩ := ry; exact PySem.EqMixed.eq_str_int (fin_bl I q (by simp))
    | str j => obtain ⟨t', rfl⟩ := ry; exact eq_str (fin_bl I q dec_str)
    | _ => exact absurd (show false = true from hs) Bool.false_ne_true
  | byt i =>
    obtain ⟨t, rfl⟩ := rx
    cases y with
    | byt j => obtain ⟨t', rfl⟩ := ry; exact PySem.W.eq_bytes (fin_bl I q dec_byt)
    | _ => exact absurd (show false = true from hs) Bool.false_ne_true
  | _ => cases y <;> exact absurd (show false = true from hs) Bool.false_ne_true
theorem op_ne : OpR X (compareOp .NotEq) rNe := by
  intro pins s σ H x y v u Q I rx ry h
  obtain ⟨hs, q⟩ := h
  cases x with
  | non =>
    cases rx
    cases y with
    | non => cases ry; exact PySem.EqNone.ne_none_none (fin_bl I q (by simp))
    | bl j => cases ry; exact PySem.EqNone.ne_none_bool (fin_bl I q (by simp))
    | int j => obtain ⟨t', rfl⟩ := ry; exact PySem.EqNone.ne_none_int (fin_bl I q (by simp))
    | str j => obtain ⟨t', rfl⟩ := ry; exact PySem.EqNone.ne_none_str (fin_bl I q (by simp))
    | _ => exact absurd (show false = true from hs) Bool.false_ne_true
  | bl i =>
    cases rx
    cases y with
    | non => cases ry; exact PySem.EqNone.ne_bool_none (fin_bl I q (by simp))
    | bl j => cases ry; exact ne_bool (fin_bl I q (congrArg not dec_bl))
    | str j => obtain ⟨t', rfl⟩ := ry; exact PySem.EqMixed.ne_bool_str (fin_bl I q (by simp))
    | _ => exact absurd (show false = true from hs) Bool.false_ne_true
  | int i =>
    obtain ⟨t, rfl⟩ := rx
    cases y with
    | non => cases ry; exact PySem.EqNone.ne_int_none (fin_bl I q (by simp))
    | int j => obtain ⟨t', rfl⟩ := ry; exact ne_int (fin_bl I q (congrArg not dec_int))
    | str j => obtain ⟨t', rfl⟩ := ry; exact PySem.EqMixed.ne_int_str (fin_bl I q (by simp))
    | _ => exact absurd (show false = true from hs) Bool.false_ne_true
  | str i =>
    obtain ⟨t, rfl⟩ := rx
    cases y with
    | non => cases ry; exact PySem.EqNone.ne_str_none (fin_bl I q (by simp))
    | bl j => cases ry; exact PySem.EqMixed.ne_str_bool (fin_bl I q (by simp))
    | int j => obtain ⟨t', rfl⟩ := ry; exact PySem.EqMixed.ne_str_int (fin_bl I q (by simp))
    | str j => obtain ⟨t', rfl⟩ := ry; exact ne_str (fin_bl I q (congrArg not dec_str))
    | _ => exact absurd (show false = true from hs) Bool.false_ne_true
  | byt i =>
    obtain ⟨t, rfl⟩ := rx
    cases y with
    | byt j => obtain ⟨t', rfl⟩ := ry; exact PySem.W.ne_bytes (fin_bl I q (congrArg not dec_byt))
    | _ => exact absurd (show false = true from hs) Bool.false_ne_true
  | _ => cases y <;> exact absurd (show false = true from hs) Bool.false_ne_true
theorem op_lt : OpR X (compareOp .Lt) (rI0 fun i j => .bl (decide (i < j))) := opB0 fun _ _ _ _ _ _ _ q => lt_int q
theorem op_le : OpR X (compareOp .LtE) (rI0 fun i j => .bl (decide (i ≤ j))) := opB0 fun _ _ _ _ _ _ _ q => le_int q
theorem op_gt : OpR X (compareOp .Gt) (rI0 fun i j => .bl (decide (j < i))) := opB0 fun _ _ _ _ _ _ _ q => gt_int q
theorem nomark (b : Expr) {op : CmpOp} (h : op ≠ .In := by decide) (h2 : op ≠ .NotIn := by decide) : behindInMarks op b = false := by
  have e1 : (op == CmpOp.In) = false := by cases op <;> first | rfl | exact absurd rfl h
  have e2 : (op == CmpOp.NotIn) = false := by cases op <;> first | rfl | exact absurd rfl h2
  cases b <;> simp [behindInMarks, e1, e2]
theorem pe_cmpR {op : CmpOp} {r : R2} (ho : OpR X (compareOp op) r) (ha : PE X a ta) (hb : PE X b tb) (hm : behindInMarks op b = false) : PE X (.Compare a [op] [b] pos) (tOp r ta tb) := by
  intro pins s σ H Q I h
  exact wpAny_Compare1 (binT ha hb I h fun v u s2 x y H2 I2 rx ry q => ho pins s2 σ H2 x y v u Q I2 rx ry q) hm
noncomputable def tTest (t : TE) : TT := fun σ H Q => t σ H fun x H' => ∃ k, x = .bl k ∧ Q k H'
theorem pt_cmpR {op : CmpOp} {r : R2} (ho : OpR X (compareOp op) r) (ha : PE X a ta) (hb : PE X b tb) (hm : behindInMarks op b = false) : PT X (.Compare a [op] [b] pos) (tTest (tOp r ta tb)) := by
  intro pins s σ H Q I h
  refine wpAny_isTrue_Compare1 (thn (ha pins s σ H _ I h) fun v s1 ⟨x, H1, I1, r1, q1⟩ => thn (hb pins s1 σ H1 _ I1 q1) fun u s2 ⟨y, H2, I2, r2, q2⟩ =>
    thn (ho pins s2 σ H2 x y v u _ I2 r1 r2 q2) fun c s3 ⟨z, H3, I3, r3, k, e, q3⟩ => ?_) hm
  subst e
  cases r3
  exact wpAny_truthy_bool ⟨H3, I3, q3⟩
noncomputable def tChain (r r' : R2) (ta tb tc : TE) : TE := fun σ H Q => ta σ H fun x H1 => tb σ H1 fun y H2 => r x y H2 fun z H3 => ∃ k, z = .bl k ∧
  (if k = true then tc σ H3 fun w' H4 => r' y w' H4 Q else Q (.bl false) H3)
theorem pe_chain {op op' : CmpOp} {r r' : R2} (ho : OpR X (compareOp op) r) (ho' : OpR X (compareOp op') r') (ha : PE X a ta) (hb : PE X b tb) (hc : PE X c tc)
    (hm : lastMarks [op, op'] [b, c] = false := by with_unfolding_all rfl) : PE X (.Compare a [op, op'] [b, c] pos) (tChain r r' ta tb tc) := by
  intro pins s σ H Q I h
  refine Compare_chain (thn (ha pins s σ H _ I h) fun v s1 ⟨x, H1, I1, r1, q1⟩ => chain_link (thn (hb pins s1 σ H1 _ I1 q1) fun u s2 ⟨y, H2, I2, r2, q2⟩ =>
    thn (ho pins s2 σ H2 x y v u _ I2 r1 r2 q2) fun d s3 ⟨z, H3, I3, r3, k, e, q3⟩ => ?_)) hm
  subst e
  cases r3
  refine wpAny_truthy_bool ?_
  cases k with
  | false => exact ite_ff ⟨.bl false, H3, I3, rfl, q3⟩
  | true => exact ite_tt (chain_last (thn (hc pins s3 σ H3 _ I3 q3) fun w' s4 ⟨z', H4, I4, r4, q4⟩ => ho' pins s4 σ H4 y z' u w' Q I4 r2 r4 q4))
theorem pt_chain {op op' : CmpOp} {r r' : R2} (ho : OpR X (compareOp op) r) (ho' : OpR X (compareOp op') r') (ha : PE X a ta) (hb : PE X b tb) (hc : PE X c tc)
    (hm : lastMarks [op, op'] [b, c] = false := by with_unfolding_all rfl) : PT X (.Compare a [op, op'] [b, c] pos) (tTest (tChain r r' ta tb tc)) := by
  intro pins s σ H Q I h
  refine isTrue_chain (thn (ha pins s σ H _ I h) fun v s1 ⟨x, H1, I1, r1, q1⟩ => test_link (thn (hb pins s1 σ H1 _ I1 q1) fun u s2 ⟨y, H2, I2, r2, q2⟩ =>
    thn (ho pins s2 σ H2 x y v u _ I2 r1 r2 q2) fun d s3 ⟨z, H3, I3, r3, k, e, q3⟩ => ?_)) hm
  subst e
  cases r3
  refine wpAny_truthy_bool ?_
  cases k with
  | false =>
    obtain ⟨k', e', q'⟩ := q3
    cases e'
    exact ite_ff ⟨H3, I3, q'⟩
  | true =>
    refine ite_tt (test_last (thn (hc pins s3 σ H3 _ I3 q3) fun w' s4 hm24 => ?_))
    obtain ⟨z', H4, I4, r4, q4⟩ := hm24
    refine thn (ho' pins s4 σ H4 y z' u w' _ I4 r2 r4 q4) fun d' s5 hm25 => ?_
    obtain ⟨z2, H5, I5, r5, k2, e2, q5⟩ := hm25
    subst e2
    cases r5
    exact wpAny_truthy_bool ⟨H5, I5, q5⟩
theorem line63 : (sizeLine : Nat) < 2 ^ 63 := by rw [sizeLine_eq]; decide
theorem vals1 {x : V} {us : List Value} (r : Vals [x] us) : ∃ u, us = [u] ∧ RelV x u := by
  cases r with
  | cons r1 r2 => cases r2; exact ⟨_, rfl, r1⟩
end
end L2
namespace L2
open PySem PySem.Spec PyProof.Rows
structure ObjM (h : Heap) (x dx C : Addr) (mA : Str → Option Value) : Prop where
  obj : h.get? x = some (PySem.W.instObj C dx)
  ns : h.Ns1 dx mA
  ne : dx ≠ x
theorem lookIn_ns {h : Heap} {dx : Addr} {mA : Str → Option Value} (n : h.Ns1 dx mA) : ∃ od, h.get? dx = some od ∧ ∀ name, PySem.W.lookIn name od = some (mA name) := by
  obtain ⟨o, es, ep, ho, hd, hk, _, hm⟩ := n
  refine ⟨o, ho, fun name => ?_⟩
  have e := hm name
  unfold nsFind findBy at e
  rw [← Array.find?_toList] at e
  unfold PySem.W.lookIn
  rw [hd]
  dsimp only
  split
  · rename_i y q
    rw [q] at e
    exact congrArg some e
  · rename_i q
    rw [q] at e
    have a : es.toList.any (·.refKey) = false := by
      rw [List.any_eq_false]
      intro y hy
      obtain ⟨z, t, hkey⟩ := hk y (Array.mem_toList_iff.mp hy)
      simp [DictEntry.refKey, hkey]
    have a' : ¬ es.toList.any (·.refKey) = true := by rw [a]; exact Bool.false_ne_true
    rw [if_neg a']
    exact congrArg some e
theorem ObjM.look {h : Heap} {x dx C : Addr} {mA : Str → Option Value} (I : ObjM h x dx C mA) : ∃ od, PySem.W.InstAt h x (PySem.W.instObj C dx) C (some od) ∧ ∀ name, PySem.W.lookIn name od = some (mA name) :=
  let ⟨od, ho, hl⟩ := lookIn_ns I.ns
  ⟨od, ⟨I.obj, rfl, rfl, ho⟩, hl⟩
section
variable {prog : Program} {w : World} {A : Around} {E : Value → Shared → Prop} {s : Shared} {K : PySem.W.Frag} {x dx C f : Addr} {mA : Str → Option Value} {name : Str} {v : Value}
theorem get_map {expr : Bool} {Q : Value → Shared → Prop} (X : K.In s.heap) (I : ObjM s.heap x dx C mA) (hg : PySem.W.plainGet K C name = true) (hh : PySem.W.hasDictIn K C = true)
    (ha : PySem.W.findIn K (.ref C) name = some none) (hv : mA name = some v) (hv' : PySem.W.handedIn v = true) (h : Q v { s with toks := s.toks + 1 }) :
    wpAny (model prog w) A (getAttr (.ref x) name expr) Q E s := by
  obtain ⟨od, J, hl⟩ := I.look
  exact PySem.W.get_value X J (PySem.W.plainGet_of hg).1 (PySem.W.findObj_own hh ha rfl (by rw [hl, hv])) hv' h
theorem get_meth {pl : Sem Bool} {Q : Value × List Value → Shared → Prop} (X : K.In s.heap) (I : ObjM s.heap x dx C mA) (hg : PySem.W.plainGet K C name = true)
    (hf : PySem.W.findIn K (.ref C) name = some (some (.ref f))) (ht : PySem.W.isFn K (.ref f) = true) (hv : mA name = none) (h : Q (.ref f, [.ref x]) s) :
    wpAny (model prog w) A (getMethod (.ref x) name pl) Q E s := by
  obtain ⟨od, J, hl⟩ := I.look
  exact PySem.W.method_fn X J (PySem.W.plainGet_of hg).1 (PySem.W.plainGet_of hg).2 hf (beq_iff_eq.mp ht) (by show (PySem.W.lookIn name od).map (·.isSome) = some false; rw [hl, hv]; rfl) h
theorem set_map {ns : List Str} {Q : Unit → Shared → Prop} (X : K.In s.heap) (I : ObjM s.heap x dx C mA)
    (hs : PySem.W.findIn K (.ref C) "__setattr__" = some (some (.builtin "object.__setattr__"))) (hp : PySem.W.plainOver K C = true) (ht : PySem.W.takerIn K C name = some none) (hh : PySem.W.hasDictIn K C = true)
    (hw : PySem.Within mA ns) (hsz : ns.length ≤ sizeLine)
    (h : ∀ h', ObjM h' x dx C (fun y => if y = name then some v else mA y) → Heap.SameBut dx s.heap h' → Q () { s with heap := h', toks := s.toks + 2 }) :
    wpAny (model prog w) A (setAttr (.ref x) name v) Q E s := by
  obtain ⟨od, J, hl⟩ := I.look
  refine PySem.W.set_plain X J hs (PySem.W.osa_open (s := { s with toks := s.toks + 1 }) (r := none) X J hp ht fun b => ?_)
  obtain ⟨cd, hc, hd'⟩ := PySem.W.any_some hh
  have hx : s.heap.get? x = some ⟨.ref C, some dx, .plain, #[]⟩ := I.obj
  refine wpAny_bind (wpAny_pure (wpAny_bind (wpAny_bind (wpAny_loadPart hx (wpAny_bind (PySem.W.Looks.here (s := { s with toks := s.toks + 1 }) (PySem.W.looks_clsIn X hc) ?_))))))
  rw [hd']
  refine wpAny_pure (a := some dx) (wpAny_bind (wpAny_pure (wpAny_bind ?_)))
  refine wpAny_nsSet1 (s := { s with toks := s.toks + 1 }) I.ns fun h' hn2 hs2 => ?_
  obtain ⟨oD, esD, epD, hoD, hdD, hcD⟩ := hn2.count (PySem.Within.cons name v hw)
  refine wpAny_bind (wpAny_lookBehind hoD (by rw [hdD]; exact pastItsLine_dict (Nat.le_trans hcD (by rw [List.length_cons]; omega))) ?_)
  exact wpAny_pure (h _ ⟨(hs2.2 _ (Ne.symm I.ne)).trans I.obj, hn2, I.ne⟩ hs2)
theorem make_map {R : Result → Shared → Prop} {vs : List Value} {kw : List (Str × Value)} (X : K.In s.heap) (hm : PySem.W.makesIn K C = true)
    (hi : PySem.W.findIn K (.ref C) "__init__" = some (some (.ref f))) (hf : PySem.W.typeIn K (.ref f) = some (.type "function"))
    (h : codeAny (model prog w) (A.under (.builtin "type.__call__" ⟨.ref C :: vs, kw⟩)) (.call (.ref f) ⟨.ref (s.heap.objs.size + 1) :: vs, kw⟩) (PySem.W.InitBack (s.heap.objs.size + 1) R)
      { s with heap := (s.heap.push PySem.W.emptyDict).push (PySem.W.instObj C s.heap.objs.size) }) :
    codeAny (model prog w) A (.call (.ref C) ⟨vs, kw⟩) R s := by
  obtain ⟨hh, g, d, t, os⟩ := s
  exact PySem.W.make_core (PySem.W.makes_of X hm) (PySem.W.looks_findIn X hi) (fun self => PySem.W.bind_fn X self hf) (.inl rfl) h
end
noncomputable def putF (f : Str) (v : V) : List (Str × V) → List (Str × V)
  | [] => [(f, v)]
  | (g, x) :: r => if g = f then (g, v) :: r else (g, x) :: putF f v r
theorem lookup_putF (f g : Str) (v : V) : ∀ fs : List (Str × V), (putF f v fs).lookup g = if g = f then some v else fs.lookup g
  | [] => by
    show List.lookup g [(f, v)] = _
    by_cases h : g = f
    · have hb : (g == f) = true := beq_iff_eq.mpr h
      simp only [List.lookup, hb, if_pos h]
    · have hb : (g == f) = false := beq_eq_false_iff_ne.mpr h
      simp only [List.lookup, hb, if_neg h]
  | (k, x) :: r => by
    have ih := lookup_putF f g v r
    rw [show putF f v ((k, x) :: r) = (if k = f then (k, v) :: r else (k, x) :: putF f v r) from rfl]
    by_cases hk : k = f
    · rw [if_pos hk]
      by_cases h : g = k
      · have hb : (g == k) = true := beq_iff_eq.mpr h
        simp only [List.lookup, hb, if_pos (h.trans hk)]
      · have hb : (g == k) = false := beq_eq_false_iff_ne.mpr h
        simp only [List.lookup, hb, if_neg (fun e : g = f => h (e.trans hk.symm))]
    · rw [if_neg hk]
      by_cases h : g = k
      · have hb : (g == k) = true := beq_iff_eq.mpr h
        simp only [List.lookup, hb, if_neg (fun e : g = f => hk (h.symm.trans e))]
      · have hb : (g == k) = false := beq_eq_false_iff_ne.mpr h
        simp only [List.lookup, hb]
        exact ih
theorem keys_putF (f : Str) (v : V) : ∀ fs : List (Str × V), f ∈ (putF f v fs).map (·.1) ∧ ∀ g, g ∈ fs.map (·.1) → g ∈ (putF f v fs).map (·.1)
  | [] => ⟨by simp [putF], fun g h => by simp at h⟩
  | (k, x) :: r => by
    obtain ⟨i1, i2⟩ := keys_putF f v r
    rw [show putF f v ((k, x) :: r) = (if k = f then (k, v) :: r else (k, x) :: putF f v r) from rfl]
    by_cases hk : k = f
    · rw [if_pos hk]
      subst hk
      exact ⟨by simp, fun g h => by simpa using h⟩
    · rw [if_neg hk]
      refine ⟨?_, fun g h => ?_⟩
      · rw [List.map_cons]
        exact List.mem_cons_of_mem _ i1
      · rw [List.map_cons] at h ⊢
        rcases List.mem_cons.mp h with e | e
        · exact List.mem_cons.mpr (.inl e)
        · exact List.mem_cons_of_mem _ (i2 g e)
theorem length_putF (f : Str) (v : V) : ∀ fs : List (Str × V), (putF f v fs).length ≤ fs.length + 1
  | [] => by simp [putF]
  | (k, x) :: r => by
    have ih := length_putF f v r
    rw [show putF f v ((k, x) :: r) = (if k = f then (k, v) :: r else (k, x) :: putF f v r) from rfl]
    by_cases hk : k = f
    · rw [if_pos hk, List.length_cons, List.length_cons]; omega
    · rw [if_neg hk, List.length_cons, List.length_cons]; omega
theorem RelO.some_of {v : V} {o : Option Value} (r : RelO (some v) o) : ∃ u, o = some u ∧ RelV v u := by
  cases o with
  | none => exact (show False from r).elim
  | some u => exact ⟨u, rfl, r⟩
theorem RelO.none_of {o : Option Value} (r : RelO none o) : o = none := by
  cases o with
  | none => rfl
  | some u => exact (show False from r).elim
theorem handed_of {v : V} {u : Value} (r : RelV v u) : PySem.W.handedIn u = true := by
  cases v with
  | non => cases (show u = Value.none from r); rfl
  | bl b => cases (show u = Value.bool b from r); rfl
  | int i => obtain ⟨t, e⟩ := (show ∃ t, u = Value.int i t from r); cases e; rfl
  | str x => obtain ⟨t, e⟩ := (show ∃ t, u = Value.str x t from r); cases e; rfl
  | byt b => obtain ⟨t, e⟩ := (show ∃ t, u = Value.bytes b t from r); cases e; rfl
  | flt b => obtain ⟨t, e⟩ := (show ∃ t, u = Value.float b t from r); cases e; rfl
  | ref a => cases (show u = Value.ref a from r); rfl
  | ty n => cases (show u = Value.type n from r); rfl
section
variable {P : Program} {w : World} {H H' : Hp} {h h' : Heap} {a C dx : Addr} {fs fs' : List (Str × V)}
theorem ins_get (hok : HOk P w H h) (e : H a = some (.ins C dx fs)) : ∃ mA, ObjM h a dx C mA ∧ (∀ f, RelO (fs.lookup f) (mA f)) ∧ PySem.Within mA (fs.map (·.1)) ∧ fs.length ≤ 1000 ∧ H dx = some (.own a) := by
  obtain ⟨d, z, ne, ob, mA, n, r, q⟩ := (show ObjOk P w H h a (.ins C dx fs) from hok a _ e)
  exact ⟨mA, ⟨ob, n, ne⟩, r, q, z, d⟩
end
structure Cls (K : PySem.W.Frag) (C : Addr) : Prop where
  pg : PySem.W.plainGet K C Str.empty = true
  hd : PySem.W.hasDictIn K C = true
  po : PySem.W.plainOver K C = true
  sa : PySem.W.findIn K (.ref C) "__setattr__" = some (some (.builtin "object.__setattr__"))
theorem Cls.get {K : PySem.W.Frag} {C : Addr} (c : Cls K C) (f : Str) : PySem.W.plainGet K C f = true := c.pg
noncomputable def NoAttr (K : PySem.W.Frag) (C : Addr) (f : Str) : Prop := PySem.W.findIn K (.ref C) f = some none
theorem NoAttr.taker {K : PySem.W.Frag} {C : Addr} {f : Str} (n : NoAttr K C f) : PySem.W.takerIn K C f = some none := by
  unfold PySem.W.takerIn
  rw [show PySem.W.findIn K (.ref C) f = some none from n]
  rfl
structure Meth (K : PySem.W.Frag) (C : Addr) (m : Str) (f : Addr) : Prop where
  at_ : PySem.W.findIn K (.ref C) m = some (some (.ref f))
  fn : PySem.W.isFn K (.ref f) = true
  kp : PySem.W.keepIn K (.ref f) = true
section
variable {X : Cx} {pins : List (Addr × Obj)} {σ : St} {H : Hp} {s : Shared} {a C dx : Addr} {fs : List (Str × V)} {f : Str} {v : V} {A : Around} {E : Value → Shared → Prop}
theorem getattr_ok {b : Bool} {Q : Value → Shared → Prop} (I : Inv X pins σ H s) (e : H a = some (.ins C dx fs)) (c : Cls X.K C) (n : NoAttr X.K C f) (l : fs.lookup f = some v)
    (h : ∀ u s', Inv X pins σ H s' → RelV v u → Q u s') : wpAny (model X.prog X.w) A (getAttr (.ref a) f b) Q E s := by
  obtain ⟨mA, O, r, _, _, _⟩ := ins_get I.hok e
  obtain ⟨u, hu, ru⟩ := RelO.some_of (v := v) (o := mA f) (by rw [← l]; exact r f)
  exact get_map I.kIn O (c.get f) c.hd n hu (handed_of ru) (h u _ (I.tok _) ru)
theorem getmeth_ok {m : Str} {g : Addr} {pl : Sem Bool} {Q : Value × List Value → Shared → Prop} (I : Inv X pins σ H s) (e : H a = some (.ins C dx fs)) (c : Cls X.K C) (k : Meth X.K C m g) (l : fs.lookup m = none)
    (h : Q (.ref g, [.ref a]) s) : wpAny (model X.prog X.w) A (getMethod (.ref a) m pl) Q E s := by
  obtain ⟨mA, O, r, _, _, _⟩ := ins_get I.hok e
  have hn : mA m = none := RelO.none_of (by rw [← l]; exact r m)
  exact get_meth I.kIn O (c.get m) k.at_ k.fn hn h
theorem setattr_ok {y : V} {u : Value} {Q : Unit → Shared → Prop} (I : Inv X pins σ H s) (e : H a = some (.ins C dx fs)) (c : Cls X.K C) (n : NoAttr X.K C f) (hl : fs.length < 1000) (ry : RelV y u)
    (h : ∀ s', Inv X pins σ (upd H a (.ins C dx (putF f y fs))) s' → Q () s') : wpAny (model X.prog X.w) A (setAttr (.ref a) f u) Q E s := by
  obtain ⟨mA, O, r, wi, _, ho⟩ := ins_get I.hok e
  have hz : (fs.map (·.1)).length ≤ sizeLine := by rw [List.length_map, sizeLine_eq]; omega
  refine set_map I.kIn O c.sa c.po n.taker c.hd wi hz fun h' O' sb => h _ ?_
  have hd : ∃ o, h'.get? dx = some o := let ⟨o, _, _, e', _⟩ := O'.ns; ⟨o, e'⟩
  refine I.write (x := a) (e := dx) (by rw [e]; exact True.intro) (.inr ho) (fun b q hb z => (sb.2 b hb).trans z) hd ?_
  refine ⟨by rw [upd_ne O.ne]; exact ho, ?_, O.ne, O'.obj, _, O'.ns, fun g => ?_, fun g hg => ?_⟩
  · have := length_putF f y fs; omega
  · show RelO ((putF f y fs).lookup g) (if g = f then some u else mA g)
    rw [lookup_putF]
    by_cases q : g = f
    · rw [if_pos q, if_pos q]; exact ry
    · rw [if_neg q, if_neg q]; exact r g
  · by_cases q : g = f
    · rw [q]; exact (keys_putF f y fs).1
    · refine (keys_putF f y fs).2 g (wi g fun z => hg ?_)
      show (if g = f then some u else mA g) = none
      rw [if_neg q]; exact z
theorem Inv.made (I : Inv X pins σ H s) : Inv X pins σ (upd (upd H s.heap.objs.size (.own (s.heap.objs.size + 1))) (s.heap.objs.size + 1) (.ins C s.heap.objs.size []))
    { s with heap := (s.heap.push PySem.W.emptyDict).push (PySem.W.instObj C s.heap.objs.size) } := by
  have e1 : (s.heap.push PySem.W.emptyDict).get? s.heap.objs.size = some PySem.W.emptyDict := Heap.get?_push_size s.heap rfl
  have e2 : ((s.heap.push PySem.W.emptyDict).push (PySem.W.instObj C s.heap.objs.size)).get? (s.heap.objs.size + 1) = some (PySem.W.instObj C s.heap.objs.size) := by
    have := Heap.get?_push_size (s.heap.push PySem.W.emptyDict) (o := PySem.W.instObj C s.heap.objs.size) rfl
    rwa [Heap.size_push] at this
  have e3 : (s.heap.push PySem.W.emptyDict).Ns s.heap.objs.size (fun _ => none) := ⟨PySem.W.emptyDict, #[], _, e1, rfl, (fun e he => absurd he (by simp)), fun _ => rfl⟩
  have I1 := I.laid (a := s.heap.objs.size) (o := .own (s.heap.objs.size + 1)) (h' := s.heap.push PySem.W.emptyDict) (t' := s.toks) (fun b u q => Heap.get?_push_of_some _ q) (Nat.le_refl _) ⟨_, e1⟩
  refine I1.laid (a := s.heap.objs.size + 1) (o := .ins C s.heap.objs.size []) (t' := s.toks) (fun b u q => Heap.get?_push_of_some _ q) (Nat.le_of_eq (Heap.size_push _ _)) ?_
  have ne : s.heap.objs.size ≠ s.heap.objs.size + 1 := Nat.ne_of_lt (Nat.lt_succ_self _)
  refine ⟨by rw [upd_ne ne, upd_same], Nat.zero_le _, ne, e2, fun _ => none, (Heap.Ns1.of_empty e3).at fun o q => Heap.get?_push_of_some _ q, fun _ => True.intro, fun y hy => absurd rfl hy⟩
theorem attr_of {prog : Program} {w : World} {env : Env} {e : Expr} {f : Str} {pos : Pos} {s : Shared} {Q : Value → Shared → Prop} (hb : attributeBase e f env (eval e env) = eval e env)
    (h : wpAny (model prog w) A (eval e env) (fun o s₁ => wpAny (model prog w) A (getAttr o f true) Q E s₁) E s) : wpAny (model prog w) A (eval (.Attribute e f pos) env) Q E s :=
  Attribute_any_ h (by rw [arm_eval_Attribute, hb])
end
noncomputable def tFld (K : PySem.W.Frag) (ta : TE) (f : Str) : TE := fun σ H Q => ta σ H fun x H1 => ∃ a C dx fs v, x = .ref a ∧ H1 a = some (.ins C dx fs) ∧ Cls K C ∧ NoAttr K C f ∧ fs.lookup f = some v ∧ Q v H1
noncomputable def sFld (K : PySem.W.Frag) (ta tv : TE) (f : Str) : TS := fun D σ H => tv σ H fun y H1 => ta σ H1 fun x H2 => ∃ a C dx fs, x = .ref a ∧ H2 a = some (.ins C dx fs) ∧ Cls K C ∧ NoAttr K C f ∧ fs.length < 1000 ∧
  D.nx σ (upd H2 a (.ins C dx (putF f y fs)))
section
variable {X : Cx} {o e value : Expr} {f : Str} {pos pos' tpos : Pos} {ta tv : TE}
theorem pe_fld (he : PE X e ta) (hb : attributeBase e f X.env (eval e X.env) = eval e X.env) : PE X (.Attribute e f pos) (tFld X.K ta f) := by
  intro pins s σ H Q I h
  refine attr_of hb (thn (he pins s σ H _ I h) fun u s1 hm26 => ?_)
  obtain ⟨x, H1, I1, rx, a, C, dx, fs, v, ex, ea, c, n, l, q⟩ := hm26
  subst ex
  obtain rfl : u = Value.ref a := rx
  exact getattr_ok I1 ea c n l fun u' s2 I2 ru => ⟨v, H1, I2, ru, q⟩
theorem ps_fld (ha : PE X o ta) (hv : PE X value tv) (hs : swapsWith value (some (.Attribute o f pos')) pos.line X.env = pure false) : PS X (.Assign [.Attribute o f pos'] value pos) (sFld X.K ta tv f) := by
  intro pins s σ H D I h
  refine plainObj_wpAny_Assign_Attribute (thn (hv pins s σ H _ I h) fun u s1 hm27 => ?_) hs
  obtain ⟨y, H1, I1, ry, q⟩ := hm27
  refine thn (ha pins s1 σ H1 _ I1 q) fun ov s2 hm28 => ?_
  obtain ⟨x, H2, I2, rx, a, C, dx, fs, ex, ea, c, n, l, q2⟩ := hm28
  subst ex
  obtain rfl : ov = Value.ref a := rx
  exact setattr_ok I2 ea c n l ry fun s3 I3 => ⟨σ, _, I3, q2⟩
theorem methcall_of {pl : Sem Bool} {m : Str} {apos : Pos} {args : List Expr} {pins : List (Addr × Obj)} {s : Shared} {σ : St} {H : Hp} {Q : Value → Shared → Prop} {te : TE} (he : PE X e te) (I : Inv X pins σ H s)
    (h : te σ H fun x H1 => ∃ a C dx fs g, x = .ref a ∧ H1 a = some (.ins C dx fs) ∧ Cls X.K C ∧ Meth X.K C m g ∧ fs.lookup m = none ∧
      ∀ s1, Inv X pins σ H1 s1 → wpAny (model X.prog X.w) X.A (callWith pos (.ref g) [.ref a] (backTo pos (starEach args X.env)) (backToKw pos (keywordEach [] X.env))) Q X.xe s1)
    (ht : eval (.Call (.Attribute e m apos) args [] pos) X.env = (do
      let ov ← eval e X.env
      standAt apos.atName
      let (f, first) ← holding [ov] (getMethod ov m pl)
      callWith pos f first (backTo pos (starEach args X.env)) (backToKw pos (keywordEach [] X.env)))) :
    wpAny (model X.prog X.w) X.A (eval (.Call (.Attribute e m apos) args [] pos) X.env) Q X.xe s := by
  refine PySem.W.methodCall_KW (pl := pl) (thn (he pins s σ H _ I h) fun u s1 hm29 => ?_) ht
  obtain ⟨x, H1, I1, rx, a, C, dx, fs, g, ex, ea, c, k, l, q⟩ := hm29
  subst ex
  obtain rfl : u = Value.ref a := rx
  exact getmeth_ok I1 ea c k l (q s1 I1)
end
section
variable {X : Cx} {pins : List (Addr × Obj)} {σ : St} {H : Hp} {s : Shared} {A : Around} {E : Value → Shared → Prop} {Q : Value → Shared → Prop} {c : Value} {b : Bool}
end
end L2
namespace L2
open PySem PySem.Spec PyProof.Rows
structure Room (k : Nat) (A : Around) : Prop where
  hd : A.handled = none
  dp : A.depth + 3 * k + 5 < recursionLimit
  un : A.units + 16 * k + 200 < cLine
theorem Room.mono {j k : Nat} {A : Around} (r : Room k A) (h : j ≤ k) : Room j A := ⟨r.hd, by have := r.dp; omega, by have := r.un; omega⟩
theorem Room.deeper {k : Nat} {A : Around} (r : Room (k + 1) A) (env : Env) : Room k (A.deeper env) :=
  ⟨r.hd, by have := r.dp; show A.depth + 1 + 3 * k + 5 < _; omega, by have := r.un; show A.units + 3 + 16 * k + 200 < _; omega⟩
theorem make_depth {A : Around} {C : Addr} {us : List Value} {kw : List (Str × Value)} : (A.under (.builtin "type.__call__" ⟨.ref C :: us, kw⟩)).depth = A.depth + 1 := by
  first | rfl | simp [Around.under, Code.weight, Code.isCreation, Code.isGuard, Code.isCaller, Code.frames, Code.isFrame, guardIds]
theorem make_units {A : Around} {C : Addr} {us : List Value} {kw : List (Str × Value)} : (A.under (.builtin "type.__call__" ⟨.ref C :: us, kw⟩)).units = A.units + 1 := by
  first | rfl | simp [Around.under, Code.cUnits, Code.frames, Code.isFrame]
theorem Room.make {k : Nat} {A : Around} (r : Room (k + 1) A) (C : Addr) (us : List Value) (kw : List (Str × Value)) : Room k (A.under (.builtin "type.__call__" ⟨.ref C :: us, kw⟩)) :=
  ⟨r.hd, by have := r.dp; rw [make_depth]; omega, by have := r.un; rw [make_units]; omega⟩
theorem Room.depth {k : Nat} {A : Around} (r : Room k A) : A.depth < recursionLimit := by have := r.dp; omega
theorem Room.units {k : Nat} {A : Around} (r : Room k A) : A.units + 64 < cLine := by have := r.un; omega
theorem Room.units0 {k : Nat} {A : Around} (r : Room k A) : A.units < cLine := by have := r.un; omega
noncomputable def tNil : TA := fun _ H Q => Q [] H
noncomputable def tCons (ta : TE) (tr : TA) : TA := fun σ H Q => ta σ H fun x H1 => tr σ H1 fun xs H2 => Q (x :: xs) H2
section
variable {X : Cx} {e : Expr} {es : List Expr} {te : TE} {t : TA} {pos : Pos}
theorem pa_nil : PA X [] tNil := fun _ _ _ _ H Q I h => Calls.spliced_nil ⟨[], H, I, .nil, h⟩
theorem pa_cons (ha : PE X e te) (hr : PA X es t) (hs : starEach (e :: es) X.env = (false, eval e X.env) :: starEach es X.env := by rfl) : PA X (e :: es) (tCons te t) := by
  intro pos pins s σ H Q I h
  rw [hs]
  show wpAny _ _ (spliced ((false, eval e X.env) :: backTo pos (starEach es X.env))) _ _ s
  refine Calls.spliced_cons (thn (ha pins s σ H _ I h) fun u s1 hm30 => ?_)
  obtain ⟨x, H1, I1, r1, q1⟩ := hm30
  exact thn (hr pos pins s1 σ H1 _ I1 q1) fun us s2 ⟨xs, H2, I2, r2, q2⟩ => ⟨x :: xs, H2, I2, .cons r1 r2, q2⟩
noncomputable def tTup (t : TA) : TE := fun σ H Q => t σ H fun xs H1 => xs.length ≤ sizeLine ∧ ∀ p, H1 p = none → Q (.ref p) (upd H1 p (.tup xs))
noncomputable def tLst (t : TA) : TE := fun σ H Q => t σ H fun xs H1 => xs.length ≤ sizeLine ∧ ∀ p, H1 p = none → Q (.ref p) (upd H1 p (.lst xs))
theorem pe_tup {x1} (h : PA X es t) : PE X (.Tuple es x1 pos) (tTup t) := by
  intro pins s σ H Q I hq
  refine wpAny_Tuple_spliced (thn (h pos pins s σ H _ I hq) fun us s1 hm31 => ?_)
  obtain ⟨xs, H1, I1, r, z, q⟩ := hm31
  refine ⟨by rw [← r.length]; exact z, ?_⟩
  have hf : H1 s1.heap.objs.size = none := I1.hok.fresh (Nat.le_refl _)
  refine ⟨.ref s1.heap.objs.size, upd H1 s1.heap.objs.size (.tup xs), I1.laid (t' := s1.toks) (fun b u e => Heap.get?_push_of_some _ e) (Nat.le_refl _) ?_, rfl, q _ hf⟩
  exact ⟨z, us, r, ⟨_, Heap.get?_push_size _ rfl, rfl, _, rfl⟩⟩
theorem pe_lst (h : PA X es t) : PE X (.List es pos) (tLst t) := by
  intro pins s σ H Q I hq
  refine wpAny_List_spliced (thn (h pos pins s σ H _ I hq) fun us s1 hm32 => ?_)
  obtain ⟨xs, H1, I1, r, z, q⟩ := hm32
  refine ⟨by rw [← r.length]; exact z, ?_⟩
  have hf : H1 s1.heap.objs.size = none := I1.hok.fresh (Nat.le_refl _)
  refine ⟨.ref s1.heap.objs.size, upd H1 s1.heap.objs.size (.lst xs), I1.laid (t' := s1.toks) (fun b u e => Heap.get?_push_of_some _ e) (Nat.le_refl _) ?_, rfl, q _ hf⟩
  exact ⟨z, us, 0, r, Heap.get?_push_size _ rfl⟩
end
noncomputable abbrev Sp := List V → Hp → VK → XK → Prop
noncomputable abbrev CXT := List Env → Hp → Shared → XK → Value → Shared → Prop
structure Env0 (P : Program) (w : World) (K : PySem.W.Frag) (mg : Str → Option Value) (base : Heap) (A : Around) (outer : List Env) (s : Shared) (H : Hp) : Prop where
  frames : A.frames = some outer
  mod : Mod K mg base
  bs : ∀ b o, base.get? b = some o → s.heap.get? b = some o ∧ H b = none
  bsz : base.objs.size ≤ s.heap.objs.size
  funs : s.heap.FunFrames base outer
  frf : ∀ b ∈ frs outer, H b = none
  hok : HOk P w H s.heap
  bare : AllBare s.gens
noncomputable def CE (outer : List Env) (P : Program) (w : World) (H : Hp) (s : Shared) (Q : VK) (u : Value) (s' : Shared) : Prop :=
  ∃ v H', s'.os = s.os ∧ AllBare s'.gens ∧ Un (frs outer) [] H H' s.heap s'.heap ∧ HOk P w H' s'.heap ∧ RelV v u ∧ Q v H'
noncomputable def CR (CX : CXT) (outer : List Env) (P : Program) (w : World) (H : Hp) (s : Shared) (Q : VK) (E : XK) (r : Result) (s' : Shared) : Prop :=
  match r with
  | .ok (.ret u) => CE outer P w H s Q u s'
  | .ok _ => False
  | .error e => CX outer H s E e s'
structure FnOk (P : Program) (w : World) (K : PySem.W.Frag) (mg : Str → Option Value) (base : Heap) (CX : CXT) (k : Nat) (f : Addr) (fd : FuncData) (ps : List Str) (sp : Sp) : Prop where
  len : ∀ vs H Q E, sp vs H Q E → vs.length = ps.length
  run : ∀ (A : Around) (outer : List Env) (s : Shared) (H : Hp) (args : Args) (us : List Value) (vs : List V) (Q : VK) (E : XK), Room k A → Env0 P w K mg base A outer s H → BindsTo s fd args (ps.zip us) → Vals vs us → sp vs H Q E →
    codeAny (model P w) A (.call (.ref f) args) (CR CX outer P w H s Q E) s
theorem Env0.make {P : Program} {w : World} {K : PySem.W.Frag} {mg : Str → Option Value} {base : Heap} {A : Around} {outer : List Env} {s : Shared} {H : Hp} (e : Env0 P w K mg base A outer s H) (C : Addr) (us : List Value) (kw : List (Str × Value)) :
    Env0 P w K mg base (A.under (.builtin "type.__call__" ⟨.ref C :: us, kw⟩)) outer s H := ⟨by first | exact e.frames | (simpa [Around.under, Code.envs, Code.isFrame, pushEnvs] using e.frames), e.mod, e.bs, e.bsz, e.funs, e.frf, e.hok, e.bare⟩
section
variable {X : Cx} {pins : List (Addr × Obj)} {σ : St} {H : Hp} {s s' : Shared}
theorem Inv.env0 (I : Inv X pins σ H s) : Env0 X.prog X.w X.K X.mg X.base X.A X.stack s H :=
  ⟨I.ok.frames, I.ok.mod, I.bs, Nat.le_trans I.ok.bsz I.sz, I.stack, I.stkFree, I.hok, I.bare⟩
theorem Inv.after {Q : VK} {u : Value} (I : Inv X pins σ H s) (h : CE X.stack X.prog X.w H s Q u s') : EP X pins σ Q u s' := by
  obtain ⟨v, H', os, bare, un, hok, r, q⟩ := h
  obtain ⟨hh, g, d, t, os'⟩ := s'
  obtain rfl : os' = s.os := os
  exact ⟨v, H', I.call (h' := hh) (g' := g) (d' := d) (t' := t) (ch := []) un hok bare (fun b z => absurd z (by simp)), r, q⟩
end
noncomputable def tCall (sp : Sp) (dvs : List V) (E : XK) (t : TA) : TE := fun σ H Q => t σ H fun vs H1 => sp (vs ++ dvs) H1 Q E
noncomputable def tMeth (C : Addr) (m : Str) (sp : Sp) (dvs : List V) (E : XK) (ta : TE) (t : TA) : TE := fun σ H Q => ta σ H fun x H1 => ∃ a dx fs, x = .ref a ∧ H1 a = some (.ins C dx fs) ∧ fs.lookup m = none ∧
  t σ H1 fun vs H2 => sp (x :: (vs ++ dvs)) H2 Q E
noncomputable def tMake (C : Addr) (sp : Sp) (dvs : List V) (E : XK) (t : TA) : TE := fun σ H Q => t σ H fun vs H1 => ∀ x dx, H1 x = none → H1 dx = none → dx ≠ x →
  sp (.ref x :: (vs ++ dvs)) (upd (upd H1 dx (.own x)) x (.ins C dx [])) (fun v H2 => v = .non ∧ Q (.ref x) H2) E
noncomputable def Binds (K : PySem.W.Frag) (fd : FuncData) (ps : List Str) (ds : List Value) : Prop :=
  ∀ (s : Shared) (us : List Value), K.In s.heap → (us ++ ds).length = ps.length → BindsTo s fd ⟨us, []⟩ (ps.zip (us ++ ds))
theorem Binds.all {K : PySem.W.Frag} {fd : FuncData} {ps : List Str} (h : ∀ us : List Value, us.length = ps.length → bindArgs fd ⟨us, []⟩ = pure (ps.zip us)) : Binds K fd ps [] := fun s us _ hl => by
  rw [List.append_nil] at hl ⊢
  exact .of_eq (h us hl)
noncomputable def Passes (CX : CXT) (X : Cx) (E : XK) : Prop := ∀ (pins : List (Addr × Obj)) (σ : St) (H : Hp) (s : Shared) (e : Value) (s' : Shared), Inv X pins σ H s → CX X.stack H s E e s' → X.xe e s'
section
variable {X : Cx} {CX : CXT} {k : Nat} {f C : Addr} {fd : FuncData} {ps : List Str} {sp : Sp} {dvs : List V} {ds : List Value} {E : XK} {x m : Str} {p pos apos : Pos} {e o : Expr} {es : List Expr} {ta : TE} {t : TA}
theorem run_fn {pins : List (Addr × Obj)} {σ : St} {H : Hp} {s : Shared} {Q : VK} {us : List Value} {vs : List V} (F : FnOk X.prog X.w X.K X.mg X.base CX k f fd ps sp) (hr : Room k X.A) (hb : Binds X.K fd ps ds) (hd : Vals dvs ds) (hx : Passes CX X E)
    (I : Inv X pins σ H s) (r : Vals vs us) (h : sp (vs ++ dvs) H Q E) : wpAny (model X.prog X.w) X.A (call (.ref f) us) (EP X pins σ Q) X.xe s := by
  have r2 : Vals (vs ++ dvs) (us ++ ds) := r.append hd
  have hl : (us ++ ds).length = ps.length := by rw [← r2.length]; exact F.len _ _ _ _ h
  refine wpAny_call (codeAny_mono (F.run X.A X.stack s H ⟨us, []⟩ (us ++ ds) (vs ++ dvs) Q E hr I.env0 (hb s us I.kIn hl) r2 h) fun r s' hq => ?_)
  cases r with
  | error e => exact hx pins σ H s e s' I hq
  | ok fl =>
    cases fl with
    | ret u => exact I.after hq
    | next => exact False.elim hq
    | brk => exact False.elim hq
    | cont => exact False.elim hq
theorem pe_call (F : FnOk X.prog X.w X.K X.mg X.base CX k f fd ps sp) (hr : Room k X.A) (hg : Gl X x) (hm : X.mg x = some (.ref f)) (hk : PySem.W.keepIn X.K (.ref f) = true) (hb : Binds X.K fd ps ds) (hd : Vals dvs ds) (hx : Passes CX X E)
    (ha : PA X (e :: es) t) (hdb : (x == ("__debug__" : Str)) = false := by decide) (he : starEach (e :: es) X.env = (false, eval e X.env) :: starEach es X.env := by rfl) (hpl : (backTo pos (starEach es X.env)).any (·.1) = false := by rfl) :
    PE X (.Call (.Name x p) (e :: es) [] pos) (tCall sp dvs E t) := by
  intro pins s σ H Q I h
  refine wpAny_Call_Name_kw (ld_glob I hg hm ?_ hdb)
  refine PySem.W.callWith_K (h₀ := X.base) I.ok.mod.kin hk (thn (ha pos pins s σ H _ I h) fun us s1 hm33 => ?_) he hpl
  obtain ⟨vs, H1, I1, r, q⟩ := hm33
  refine ⟨I1.kIn, ?_⟩
  exact run_fn F hr hb hd hx I1 r q
theorem pe_meth {pl : Sem Bool} (he : PE X o ta) (c : Cls X.K C) (hm : Meth X.K C m f) (F : FnOk X.prog X.w X.K X.mg X.base CX k f fd ps sp) (hr : Room k X.A) (hb : Binds X.K fd ps ds) (hd : Vals dvs ds) (hx : Passes CX X E) (ha : PA X (e :: es) t)
    (hst : starEach (e :: es) X.env = (false, eval e X.env) :: starEach es X.env := by rfl) (hpl : (backTo pos (starEach es X.env)).any (·.1) = false := by rfl)
    (ht : eval (.Call (.Attribute o m apos) (e :: es) [] pos) X.env = (do
      let ov ← eval o X.env
      standAt apos.atName
      let (f, first) ← holding [ov] (getMethod ov m pl)
      callWith pos f first (backTo pos (starEach (e :: es) X.env)) (backToKw pos (keywordEach [] X.env))) := by rfl) :
    PE X (.Call (.Attribute o m apos) (e :: es) [] pos) (tMeth C m sp dvs E ta t) := by
  intro pins s σ H Q I h
  refine PySem.W.methodCall_KW (pl := pl) (thn (he pins s σ H _ I h) fun u s1 hm34 => ?_) ht
  obtain ⟨x, H1, I1, rx, a, dx, fs, ex, ea, l, q⟩ := hm34
  subst ex
  obtain rfl : u = Value.ref a := rx
  refine getmeth_ok I1 ea c hm l ?_
  refine PySem.W.callWith_K (first := [.ref a]) (h₀ := X.base) I.ok.mod.kin hm.kp (thn (ha pos pins s1 σ H1 _ I1 q) fun us s2 hm35 => ?_) hst hpl
  obtain ⟨vs, H2, I2, r, q2⟩ := hm35
  refine ⟨I2.kIn, ?_⟩
  exact run_fn (us := .ref a :: us) (vs := .ref a :: vs) F hr hb hd hx I2 (.cons rfl r) q2
theorem pe_meth0 {pl : Sem Bool} (he : PE X o ta) (c : Cls X.K C) (hm : Meth X.K C m f) (F : FnOk X.prog X.w X.K X.mg X.base CX k f fd ps sp) (hr : Room k X.A) (hb : Binds X.K fd ps ds) (hd : Vals dvs ds) (hx : Passes CX X E)
    (ht : eval (.Call (.Attribute o m apos) [] [] pos) X.env = (do
      let ov ← eval o X.env
      standAt apos.atName
      let (f, first) ← holding [ov] (getMethod ov m pl)
      callWith pos f first (backTo pos (starEach [] X.env)) (backToKw pos (keywordEach [] X.env))) := by rfl) :
    PE X (.Call (.Attribute o m apos) [] [] pos) (tMeth C m sp dvs E ta tNil) := by
  intro pins s σ H Q I h
  refine PySem.W.methodCall_KW (pl := pl) (thn (he pins s σ H _ I h) fun u s1 hm36 => ?_) ht
  obtain ⟨x, H1, I1, rx, a, dx, fs, ex, ea, l, q⟩ := hm36
  subst ex
  obtain rfl : u = Value.ref a := rx
  refine getmeth_ok I1 ea c hm l ?_
  exact PySem.W.callWith_K0 (first := [.ref a]) I1.kIn hm.kp (run_fn (us := [.ref a]) (vs := [.ref a]) F hr hb hd hx I1 (.cons rfl .nil) q)
structure Mk (K : PySem.W.Frag) (C f : Addr) : Prop where
  makes : PySem.W.makesIn K C = true
  init : PySem.W.findIn K (.ref C) "__init__" = some (some (.ref f))
  fn : PySem.W.isFn K (.ref f) = true
  kp : PySem.W.keepIn K (.ref C) = true
theorem run_make {pins : List (Addr × Obj)} {σ : St} {H : Hp} {s : Shared} {Q : VK} {us : List Value} {vs : List V} (M : Mk X.K C f) (F : FnOk X.prog X.w X.K X.mg X.base CX k f fd ps sp) (hr : Room (k + 1) X.A) (hb : Binds X.K fd ps ds) (hd : Vals dvs ds)
    (hx : Passes CX X E) (I : Inv X pins σ H s) (r : Vals vs us)
    (h : ∀ x dx, H x = none → H dx = none → dx ≠ x → sp (.ref x :: (vs ++ dvs)) (upd (upd H dx (.own x)) x (.ins C dx [])) (fun v H2 => v = .non ∧ Q (.ref x) H2) E) :
    wpAny (model X.prog X.w) X.A (call (.ref C) us) (EP X pins σ Q) X.xe s := by
  have hq := h (s.heap.objs.size + 1) s.heap.objs.size (I.hok.fresh (Nat.le_succ _)) (I.hok.fresh (Nat.le_refl _)) (Nat.ne_of_lt (Nat.lt_succ_self _))
  have I2 := Inv.made (C := C) I
  have r2 : Vals (V.ref (s.heap.objs.size + 1) :: (vs ++ dvs)) (Value.ref (s.heap.objs.size + 1) :: (us ++ ds)) := .cons rfl (r.append hd)
  have hl : (Value.ref (s.heap.objs.size + 1) :: us ++ ds).length = ps.length := by
    have e := r2.length
    rw [F.len _ _ _ _ hq] at e
    exact e.symm
  refine wpAny_call (make_map (f := f) I.kIn M.makes M.init (beq_iff_eq.mp M.fn) (codeAny_mono (F.run _ X.stack _ _ ⟨Value.ref (s.heap.objs.size + 1) :: us, []⟩ (Value.ref (s.heap.objs.size + 1) :: (us ++ ds)) _ _ E (hr.make C us [])
    (I2.env0.make C us []) (hb _ (Value.ref (s.heap.objs.size + 1) :: us) I2.kIn hl) r2 hq) fun r s' hq' => ?_))
  cases r with
  | error e => exact hx pins σ _ _ e s' I2 hq'
  | ok fl =>
    cases fl with
    | ret u =>
      obtain ⟨v, H', I3, rv, ev, q3⟩ := I2.after hq'
      subst ev
      exact ⟨rv, ⟨V.ref (s.heap.objs.size + 1), H', I3, rfl, q3⟩⟩
    | next => exact False.elim hq'
    | brk => exact False.elim hq'
    | cont => exact False.elim hq'
theorem pe_make (M : Mk X.K C f) (F : FnOk X.prog X.w X.K X.mg X.base CX k f fd ps sp) (hr : Room (k + 1) X.A) (hg : Gl X x) (hm : X.mg x = some (.ref C)) (hb : Binds X.K fd ps ds) (hd : Vals dvs ds) (hx : Passes CX X E)
    (ha : PA X (e :: es) t) (hdb : (x == ("__debug__" : Str)) = false := by decide) (he : starEach (e :: es) X.env = (false, eval e X.env) :: starEach es X.env := by rfl) (hpl : (backTo pos (starEach es X.env)).any (·.1) = false := by rfl) :
    PE X (.Call (.Name x p) (e :: es) [] pos) (tMake C sp dvs E t) := by
  intro pins s σ H Q I h
  refine wpAny_Call_Name_kw (ld_glob I hg hm ?_ hdb)
  refine PySem.W.callWith_K (h₀ := X.base) I.ok.mod.kin M.kp (thn (ha pos pins s σ H _ I h) fun us s1 hm37 => ?_) he hpl
  obtain ⟨vs, H1, I1, r, q⟩ := hm37
  refine ⟨I1.kIn, ?_⟩
  exact run_make M F hr hb hd hx I1 r q
theorem pe_make0 (M : Mk X.K C f) (F : FnOk X.prog X.w X.K X.mg X.base CX k f fd ps sp) (hr : Room (k + 1) X.A) (hg : Gl X x) (hm : X.mg x = some (.ref C)) (hb : Binds X.K fd ps ds) (hd : Vals dvs ds) (hx : Passes CX X E)
    (hdb : (x == ("__debug__" : Str)) = false := by decide) : PE X (.Call (.Name x p) [] [] pos) (tMake C sp dvs E tNil) := by
  intro pins s σ H Q I h
  refine wpAny_Call_Name_kw (ld_glob I hg hm ?_ hdb)
  exact PySem.W.callWith_K0 I.kIn M.kp (run_make (us := []) M F hr hb hd hx I .nil h)
end
section
variable {X : Cx} {CX : CXT} {k : Nat} {f C : Addr} {fd : FuncData} {ps ks : List Str} {sp : Sp} {E : XK} {x m : Str} {p pos apos kpos : Pos} {e o : Expr} {es : List Expr} {kws : List Keyword} {te ta : TE} {t tk : TA} {nm : Option Str}
variable {g : List Value → List Value → List Value} {gV : List V → List V → List V}
end
structure FnScope (N P : List Str) (sc : Scope) : Prop where
  kind : sc.kind = .function
  co : sc.isCoroutine = false
  gen : sc.isGenerator = false
  nd : N.Nodup
  pre : N.take P.length = P
  par : ∀ x ∈ P, sc.names.lookup x = some .local ∨ sc.names.lookup x = some .cell
  nofree : ∀ y ∈ sc.names, y.2 ≠ .free
theorem bindL_out {kindOf : Str → Option NameKind} {x : Str} : ∀ {binds : List (Str × Value)} {m : Str → Option Value}, (∀ v, (x, v) ∉ binds) → bindL kindOf binds m x = m x
  | [], _, _ => rfl
  | (n, v) :: r, m, h => by
    unfold bindL
    rw [bindL_out fun w hw => h w (List.mem_cons_of_mem _ hw)]
    split
    · have : x ≠ n := by rintro rfl; exact h v List.mem_cons_self
      simp [this]
    · rfl
theorem bindC_out {kindOf : Str → Option NameKind} {x : Str} : ∀ {binds : List (Str × Value)} {m : Str → Option Value}, (∀ v, (x, v) ∉ binds) → bindC kindOf binds m x = m x
  | [], _, _ => rfl
  | (n, v) :: r, m, h => by
    unfold bindC
    rw [bindC_out fun w hw => h w (List.mem_cons_of_mem _ hw)]
    split
    · rfl
    · have : x ≠ n := by rintro rfl; exact h v List.mem_cons_self
      simp [this]
theorem bindL_get {kindOf : Str → Option NameKind} {x : Str} {v : Value} : ∀ {P : List Str} {vs : List Value} {i : Nat} {m : Str → Option Value}, P.Nodup → P[i]? = some x → vs[i]? = some v → kindOf x = some .local →
    bindL kindOf (P.zip vs) m x = some v
  | [], _, _, _, _, h, _, _ => by simp at h
  | _ :: _, [], _, _, _, _, h, _ => by simp at h
  | p :: P, w :: vs, 0, m, nd, h1, h2, hk => by
    simp at h1 h2; subst h1; subst h2
    show bindL kindOf ((p, w) :: P.zip vs) m p = _
    unfold bindL
    rw [bindL_out fun v hv => (List.nodup_cons.mp nd).1 (List.of_mem_zip hv).1, if_pos hk]
    simp
  | p :: P, w :: vs, i + 1, m, nd, h1, h2, hk => by
    show bindL kindOf ((p, w) :: P.zip vs) m x = _
    unfold bindL
    exact bindL_get (i := i) (List.nodup_cons.mp nd).2 (by simpa using h1) (by simpa using h2) hk
theorem bindC_get {kindOf : Str → Option NameKind} {x : Str} {v : Value} : ∀ {P : List Str} {vs : List Value} {i : Nat} {m : Str → Option Value}, P.Nodup → P[i]? = some x → vs[i]? = some v → kindOf x ≠ some .local →
    bindC kindOf (P.zip vs) m x = some v
  | [], _, _, _, _, h, _, _ => by simp at h
  | _ :: _, [], _, _, _, _, h, _ => by simp at h
  | p :: P, w :: vs, 0, m, nd, h1, h2, hk => by
    simp at h1 h2; subst h1; subst h2
    show bindC kindOf ((p, w) :: P.zip vs) m p = _
    unfold bindC
    rw [bindC_out fun v hv => (List.nodup_cons.mp nd).1 (List.of_mem_zip hv).1, if_neg hk]
    simp
  | p :: P, w :: vs, i + 1, m, nd, h1, h2, hk => by
    show bindC kindOf ((p, w) :: P.zip vs) m x = _
    unfold bindC
    exact bindC_get (i := i) (List.nodup_cons.mp nd).2 (by simpa using h1) (by simpa using h2) hk
noncomputable def start (N : List Str) (vs : List V) : St := vs.map some ++ List.replicate (N.length - vs.length) none
noncomputable def cxOf (CX : CXT) (P : Program) (w : World) (K : PySem.W.Frag) (mg : Str → Option Value) (base : Heap) (N : List Str) (qual : Str) (scope : Scope) (f : Addr) (cd : Value) (A : Around) (outer : List Env) (s : Shared) (H : Hp) (E : XK) : Cx where
  prog := P
  w := w
  K := K
  mg := mg
  base := base
  A := A.deeper (envOfC qual scope s.heap.objs.size f cd)
  N := N
  s_0 := s
  H_0 := H
  env := envOfC qual scope s.heap.objs.size f cd
  outer := outer
  stack := envOfC qual scope s.heap.objs.size f cd :: outer
  ex := []
  calm := true
  fn := fun _ => true
  pn := []
  xe := fun e s' => wpAny (model P w) (A.deeper (envOfC qual scope s.heap.objs.size f cd)) (leaving (envOfC qual scope s.heap.objs.size f cd) e) (fun _ s'' => CX outer H s E e s'') (fun e' s'' => CX outer H s E e' s'') s'
theorem cell_has {sc : Scope} {n : Nat} {x : Str} (h : sc.names.lookup x = some .cell) : ∃ c, (cellsFrom n sc.names []).lookup x = some c := by
  have q := PySem.W.cellsFrom_some sc.names n [] (.inl h)
  exact Option.isSome_iff_exists.mp q
theorem inv_start {CX : CXT} {P : Program} {w : World} {K : PySem.W.Frag} {mg : Str → Option Value} {base : Heap} {N ps : List Str} {qual : Str} {scope : Scope} {f : Addr} {cd : Value} {A : Around} {outer : List Env} {s s1 : Shared} {H : Hp} {E : XK} {us : List Value} {vs : List V}
    (S : FnScope N ps scope) (hd : A.handled = none) (e0 : Env0 P w K mg base A outer s H) (hl : vs.length = ps.length) (r : Vals vs us)
    (x : InCallC s s.heap.objs.size (bindL (envOfC qual scope s.heap.objs.size f cd).kindOf (ps.zip us) fun _ => none) (cellsFrom (s.heap.objs.size + 1) scope.names []) (bindC (envOfC qual scope s.heap.objs.size f cd).kindOf (ps.zip us) fun _ => none) s1) :
    Inv (cxOf CX P w K mg base N qual scope f cd A outer s H E) [] (start N vs) H s1 := by
  have hpl : ps.length ≤ N.length := by have := congrArg List.length S.pre; rw [List.length_take] at this; omega
  obtain ⟨h1, tk, rfl, hk⟩ := x.done
  have noA : ∀ b : Addr, b ∉ (cxOf CX P w K mg base N qual scope f cd A outer s H E).ex := fun b z => absurd (show b ∈ ([] : List Addr) from z) (by simp)
  refine ⟨⟨e0.mod, S.kind, rfl, rfl, Nat.le_refl _, fun y z c h1 h2 => ?_, fun y hy => ?_, fun y c _ h => ?_, fun _ => hd, Around.frames_deeper e0.frames, .inr ⟨rfl, rfl⟩, fun b z => absurd z (noA b), e0.bs, e0.bsz, fun b _ _ => noA b, fun b z => absurd z (noA b), e0.funs, e0.frf⟩,
    rfl, e0.bare, Un.kept hk, ⟨_, x.toInCall.ns, fun i y v h1 h2 h3 => ?_⟩, fun y c h => ⟨_, x.cell y c h⟩, e0.hok.fresh (Nat.le_refl _), fun y c h => ?_, fun p hp => absurd (show p ∈ ([] : List (Addr × Obj)) from hp) (by simp), e0.hok.kept hk, ?_⟩
  · exact name_of_addr x.apart (PySem.mem_of_lookup h1) (PySem.mem_of_lookup h2)
  · have hy : scope.names.lookup y = some .cell ∨ scope.names.lookup y = some .free := hy
    rcases hy with hy | hy
    · exact cell_has hy
    · exact absurd rfl (S.nofree _ (PySem.mem_of_lookup hy))
  · exact Nat.le_of_lt (x.above y c (PySem.mem_of_lookup h))
  · have hi : i < vs.length := by
      unfold start at h2
      by_cases hi : i < vs.length
      · exact hi
      · rw [List.getElem?_append_right (by simpa using hi)] at h2
        rw [List.getElem?_replicate] at h2
        split at h2 <;> cases h2
    have ha : vs[i]? = some v := by
      unfold start at h2
      rw [List.getElem?_append_left (by simpa using hi), List.getElem?_map] at h2
      cases e : vs[i]? with
      | none => rw [e] at h2; cases h2
      | some a => rw [e] at h2; cases h2; rfl
    obtain ⟨u, hu, rv⟩ := r.get ha
    have hp : ps[i]? = some y := by
      rw [← S.pre, List.getElem?_take_of_lt (by omega)]; exact h1
    have ndP : ps.Nodup := by rw [← S.pre]; exact S.nd.sublist (List.take_sublist _ _)
    refine ⟨u, rv, ?_⟩
    rcases S.par y (List.mem_of_getElem? hp) with k | k
    · exact .inl ⟨k, bindL_get ndP hp hu k⟩
    · obtain ⟨c, e⟩ := cell_has (n := s.heap.objs.size + 1) k
      refine .inr ⟨.inl k, c, e, ?_⟩
      have q := x.cell y c e
      rw [bindC_get ndP hp hu (by show scope.names.lookup y ≠ _; rw [k]; decide)] at q
      exact q
  · exact e0.hok.fresh (Nat.le_of_lt (x.above y c (PySem.mem_of_lookup h)))
  · unfold start
    show _ = N.length
    rw [List.length_append, List.length_map, List.length_replicate]
    omega
theorem fn_of {CX : CXT} {P : Program} {w : World} {K : PySem.W.Frag} {mg : Str → Option Value} {base : Heap} {k : Nat} {f : Addr} {name qual : Str} {params : Arguments} {body : List Stmt} {scope : Scope} {dV kV doc pm cdv ct oc : Value} {an od : Option Addr}
    {osl : Array (Option Value)} {N ps : List Str} {sp : Sp} (lk : K.lookup f = some ⟨oc, od, .func (PySem.W.fnOf name qual params body scope dV kV doc pm an cdv ct), osl⟩) (hcd : PySem.W.codeIn K cdv qual = true) (S : FnScope N ps scope)
    (len : ∀ vs H Q E, sp vs H Q E → vs.length = ps.length)
    (hbody : ∀ (A : Around) (outer : List Env) (s : Shared) (H : Hp) (vs : List V) (Q : VK) (E : XK), Room k (A.deeper (envOfC qual scope s.heap.objs.size f cdv)) → sp vs H Q E →
      ∃ t, PSs (cxOf CX P w K mg base N qual scope f cdv A outer s H E) body t ∧ t { nx := fun _ H' => Q .non H', rt := Q } (start N vs) H) :
    FnOk P w K mg base CX (k + 1) f (PySem.W.fnOf name qual params body scope dV kV doc pm an cdv ct) ps sp := by
  refine ⟨len, fun A outer s H args us vs Q E hr e0 hb r hsp => ?_⟩
  have hl := len _ _ _ _ hsp
  have KX : K.In s.heap := e0.mod.kin.keeps fun b o e => (e0.bs b o e).1
  have lim : s.heap.NoLimit := e0.mod.nolimit.keeps fun b o e => (e0.bs b o e).1
  have hkind : ∀ y ∈ ps.zip us, scope.names.lookup y.1 = some .local ∨ (scope.names.lookup y.1 = some .cell ∧ ((cellsFrom (s.heap.objs.size + 1) scope.names []).lookup y.1).isSome = true) := fun ⟨n, v⟩ hy => by
    rcases S.par n (List.of_mem_zip hy).1 with q | q
    · exact .inl q
    · exact .inr ⟨q, PySem.W.cellsFrom_some _ _ _ (.inl q)⟩
  refine codeAny_call_function hr.depth (KX _ _ lk) rfl S.co S.gen rfl (PySem.W.codeRec_of KX hcd) (hb _ _ _ _ ?_)
  refine wpAny_newFunctionEnv_cells S.kind hkind fun env he s1 x => ?_
  subst he
  refine ⟨lim.keeps x.toInCall.keep, codeAny_func ?_⟩
  obtain ⟨t, ht, hq⟩ := hbody A outer s H vs Q E (hr.deeper _) hsp
  have I : Inv (cxOf CX P w K mg base N qual scope f cdv A outer s H E) [] (start N vs) H s1 := inv_start S hr.hd e0 hl r x
  refine wpAny_mono (ht [] s1 (start N vs) H _ I hq) (fun fl s' hs => ?_) fun e s' hs => hs
  have fin : ∀ {σ' : St} {H' : Hp} {v : V} {u : Value}, Inv (cxOf CX P w K mg base N qual scope f cdv A outer s H E) [] σ' H' s' → RelV v u → Q v H' → CE outer P w H s Q u s' :=
    fun {σ' H' v u} J rv q => ⟨v, H', J.os, J.bare, J.base, J.hok, rv, q⟩
  cases fl with
  | ret u =>
    obtain ⟨v, σ', H', J, rv, q⟩ := hs
    exact fin J rv q
  | next =>
    obtain ⟨σ', H', J, q⟩ := hs
    exact fin (v := V.non) (u := Value.none) J rfl q
  | brk =>
    obtain ⟨_, _, _, q⟩ := hs
    exact False.elim q
  | cont =>
    obtain ⟨_, _, _, q⟩ := hs
    exact False.elim q
end L2
namespace L2
open PySem PySem.Spec PyProof.Rows
section
variable {X : Cx} {x : Str} {p pos : Pos} {e : Expr} {es : List Expr} {t : TA} {id T : String} {r : List V → Hp → VK → Prop}
noncomputable def tCB (r : List V → Hp → VK → Prop) (t : TA) : TE := fun σ H Q => t σ H fun vs H1 => r vs H1 Q
theorem pe_callB (hc : CallR X (.builtin id) r) (hg : Gl X x) (hm : X.mg x = none) (hv : bootBuiltins x = some (.builtin id)) (ha : PA X (e :: es) t) (hn : x ≠ "__name__" := by decide) (hdb : (x == ("__debug__" : Str)) = false := by decide)
    (he : starEach (e :: es) X.env = (false, eval e X.env) :: starEach es X.env := by rfl) (hpl : (backTo pos (starEach es X.env)).any (·.1) = false := by rfl) : PE X (.Call (.Name x p) (e :: es) [] pos) (tCB r t) := by
  intro pins s σ H Q I h
  refine wpAny_Call_Name_kw (ld_blt I hg hm hv ?_ hn hdb)
  exact PyProof.Rows.callWith_builtin1 (thn (ha pos pins s σ H _ I h) fun us s1 ⟨vs, H1, I1, r1, q1⟩ => hc pins s1 σ H1 vs us Q I1 r1 q1) he hpl
theorem pe_callTy (hc : CallR X (.type T) r) (hg : Gl X x) (hm : X.mg x = none) (hv : bootBuiltins x = some (.type T)) (ha : PA X (e :: es) t) (hn : x ≠ "__name__" := by decide) (hdb : (x == ("__debug__" : Str)) = false := by decide)
    (he : starEach (e :: es) X.env = (false, eval e X.env) :: starEach es X.env := by rfl) (hpl : (backTo pos (starEach es X.env)).any (·.1) = false := by rfl) : PE X (.Call (.Name x p) (e :: es) [] pos) (tCB r t) := by
  intro pins s σ H Q I h
  refine wpAny_Call_Name_kw (ld_blt I hg hm hv ?_ hn hdb)
  exact PyProof.Rows.callWith_type1 (thn (ha pos pins s σ H _ I h) fun us s1 ⟨vs, H1, I1, r1, q1⟩ => hc pins s1 σ H1 vs us Q I1 r1 q1) he hpl
end
end L2
namespace HT
open PySem PyProof.Rows
noncomputable def lexLt : List Int → List Int → Bool
  | [], [] => false
  | [], _ :: _ => true
  | _ :: _, [] => false
  | x :: xs, y :: ys => if x = y then lexLt xs ys else decide (x < y)
theorem lexLt_cons (x y : Int) (xs ys : List Int) : lexLt (x :: xs) (y :: ys) = if x = y then lexLt xs ys else decide (x < y) := rfl
theorem lexLt_nil_nil : lexLt [] [] = false := rfl
theorem lexLt_nil_cons (y : Int) (ys : List Int) : lexLt [] (y :: ys) = true := rfl
theorem lexLt_cons_nil (x : Int) (xs : List Int) : lexLt (x :: xs) [] = false := rfl
theorem eqAt_int (A : Around) (s : Shared) (a : Int) (t : Tok) (c : Int) (u : Tok) : ∃ e, SeqAt.EqAt A s (.int a t) (.int c u) e ∧ (e = true ↔ a = c) :=
  ⟨(a == c), SeqAt.EqAt.int_int a t c u, by simp⟩
theorem rcLt_int (A : Around) (s : Shared) (a : Int) (t : Tok) (c : Int) (u : Tok) (prog : Program) (w : World) (E : Value → Shared → Prop) (Q : Value → Shared → Prop) (h : Q (.bool (decide (a < c))) s) :
    wpAny (model prog w) A (richCompare .Lt (.int a t) (.int c u)) Q E s :=
  (PyProof.Rows.lt_int h : wpAny (model prog w) A (compareOp .Lt (.int a t) (.int c u)) Q E s)
section
open PySem.SeqAt
open PySem.AutoSeq1 (wpAny_loadPart')
open PySem.MeetsSeq PySem.MeetsSeq2 PySem.MeetsSeq3
theorem tuple_lt_ints (l b : Addr) (items items2 : Array Value) (n n2 : Nat) (dd dd2 : Option Addr) (sl sl2 : Array (Option Value)) (ns ms : List Int) (hi : IntsAre items.toList ns) (hj : IntsAre items2.toList ms) :
    Meets (Builtin.«tuple.__lt__» ⟨[.ref l, .ref b], []⟩)
      (fun _ R s => s.heap.get? l = some { cls := .type "tuple", dict := dd, data := .seq items n, slots := sl } ∧ s.heap.get? b = some { cls := .type "tuple", dict := dd2, data := .seq items2 n2, slots := sl2 } ∧
        R (.ok (.ret (.bool (lexLt ns ms)))) s) :=
  .of_wp fun prog w A R s h => by
    obtain ⟨hp, g, d, tk, os⟩ := s; obtain ⟨hl, hb, h⟩ := h
    have f2 := AutoSeq1.sub_tuple_tuple
    have z1 : items.size = ns.length := by rw [← hi.length]; simp
    have z2 : items2.size = ms.length := by rw [← hj.length]; simp
    wp_walk using wpAny_loadPart' hl, wpAny_loadPart' hb, wpAny_forIn_list _ (fun rest b s' => b.1 = none ∧ s' = ⟨hp, g, d, tk, os⟩ ∧ ∃ (vs ws : List Value) (ns' ms' : List Int), rest = vs.zip ws ∧
      IntsAre vs ns' ∧ IntsAre ws ms' ∧ ns'.length + items2.size = ms'.length + items.size ∧ R (.ok (.ret (.bool (lexLt ns' ms')))) ⟨hp, g, d, tk, os⟩) _
    case turn =>
      rintro ⟨y, x⟩ rest b s' ⟨hb', rfl, vs, ws, ns', ms', hz, hvi, hwi, hlen, hR⟩
      cases hvi with
      | nil => rw [List.zip_nil_left] at hz; cases hz
      | cons a t hvi' =>
        cases hwi with
        | nil => rw [List.zip_nil_right] at hz; cases hz
        | cons c u hwi' =>
          rw [List.zip_cons_cons] at hz
          injection hz with hyx hrest
          injection hyx with hy hx
          subst hy hx
          rw [lexLt_cons] at hR
          simp only [List.length_cons] at hlen
          obtain ⟨e, he, hiff⟩ := eqAt_int A.in1 ⟨hp, g, d, tk, os⟩ a t c u
          refine wpAny_bind (he prog w _ _ ?_)
          cases e with
          | true =>
            rw [if_pos (hiff.mp rfl)] at hR
            wp_walk
            exact ⟨rfl, rfl, _, _, _, _, hrest, hvi', hwi', by omega, hR⟩
          | false =>
            rw [if_neg (fun q => absurd (hiff.mpr q) Bool.false_ne_true)] at hR
            have hri := rcLt_int A.in1 ⟨hp, g, d, tk, os⟩ a t c u prog w
            wp_walk using hri
            exact ⟨_, rfl, by simpa using hR⟩
    case fin =>
      rintro ⟨b1, b2⟩ s' ⟨hb', rfl, vs, ws, ns', ms', hz, hvi, hwi, hlen, hR⟩
      simp only at hb'
      subst hb'
      have hv : lexLt ns' ms' = decide (items.size < items2.size) := by
        cases hvi with
        | nil =>
          cases hwi with
          | nil =>
            simp only [List.length_nil] at hlen
            rw [lexLt_nil_nil]
            exact (decide_eq_false (by omega)).symm
          | cons c u hw =>
            simp only [List.length_nil, List.length_cons] at hlen
            rw [lexLt_nil_cons]
            exact (decide_eq_true (by omega)).symm
        | cons a t hv =>
          cases hwi with
          | nil =>
            simp only [List.length_nil, List.length_cons] at hlen
            rw [lexLt_cons_nil]
            exact (decide_eq_false (by omega)).symm
          | cons c u hw =>
            rw [List.zip_cons_cons] at hz
            cases hz
      rw [hv] at hR
      wp_walk
      exact ⟨_, rfl, by simpa [Builtin.Tuple.tupleCompareSizes] using hR⟩
    case h =>
      exact ⟨rfl, rfl, items.toList, items2.toList, ns, ms, rfl, hi, hj, by omega, h⟩
end
section
variable {prog : Program} {w : World} {A : Around} {E : Value → Shared → Prop} {s : Shared}
theorem lt_tupInts {l b : Addr} {items items2 : Array Value} {ns ms : List Int} {Q : Value → Shared → Prop} (hl : IsTup s.heap l items) (hb : IsTup s.heap b items2) (hi : IntsAre items.toList ns) (hj : IntsAre items2.toList ms)
    (hu : A.units < cLine) (h : Q (.bool (lexLt ns ms)) s) : wpAny (model prog w) A (compareOp .Lt (.ref l) (.ref b)) Q E s := by
  obtain ⟨⟨cls, dd, data, sl⟩, ho, hc, n, hd⟩ := id hl
  obtain ⟨⟨cls2, dd2, data2, sl2⟩, ho2, hc2, n2, hd2⟩ := id hb
  simp only at hc hd hc2 hd2
  subst hc hd hc2 hd2
  exact richCompare_meets_room (op := .Lt) ⟨_, ho, rfl⟩ ⟨_, ho2, rfl⟩ PySem.F.slot_tuple_lt PySem.F.entry_tuple_lt (PySem.F.args_tuple_lt_2 _ _) (tuple_lt_ints l b items items2 n n2 dd dd2 sl sl2 ns ms hi hj)
    ⟨ho, ho2, show Value.bool (lexLt ns ms) ≠ Value.notImplemented ∧ Q (.bool (lexLt ns ms)) s from ⟨(fun x => nomatch x), h⟩⟩ hu
theorem cat_tup {t b : Addr} {vs ws : List Value} {Q : Value → Shared → Prop} (ht : IsTup s.heap t vs.toArray) (hb : IsTup s.heap b ws.toArray) (hv : vs ≠ [])
    (h1 : ws = [] → Q (.ref t) s) (h2 : ws ≠ [] → Q (.ref s.heap.objs.size) { s with heap := s.heap.push { cls := .type "tuple", data := .seq (vs ++ ws).toArray } })
    (hsz : vs.length + ws.length ≤ sizeLine) : wpAny (model prog w) A (binaryOp .Add (.ref t) (.ref b)) Q E s := by
  obtain ⟨⟨cls, dd, data, sl⟩, ho, hc, n, hd⟩ := id ht
  obtain ⟨⟨cls2, dd2, data2, sl2⟩, ho2, hc2, n2, hd2⟩ := id hb
  simp only at hc hd hc2 hd2
  subst hc hd hc2 hd2
  have e : vs.toArray ++ ws.toArray = (vs ++ ws).toArray := by simp
  by_cases hw : ws = []
  · exact concat_meets ⟨_, ho, rfl⟩ ⟨_, ho2, rfl⟩ noFill_tuple_add seq_tuple_add PySem.F.slot_tuple_add PySem.F.entry_tuple_add (PySem.F.args_tuple_add_2 _ _)
      (tuple_addW1 t b vs.toArray ws.toArray n n2 dd dd2 sl sl2 (by simpa using hv) (by simp [hw])) ⟨ho, ho2, h1 hw⟩
  · refine concat_meets ⟨_, ho, rfl⟩ ⟨_, ho2, rfl⟩ noFill_tuple_add seq_tuple_add PySem.F.slot_tuple_add PySem.F.entry_tuple_add (PySem.F.args_tuple_add_2 _ _)
      (tuple_addW2 t b vs.toArray ws.toArray n n2 dd dd2 sl sl2 (by simpa using hv) (by simpa using hw) (by rw [List.size_toArray, List.size_toArray]; exact hsz)) ⟨ho, ho2, ?_⟩
    rw [e]
    exact h2 hw
noncomputable def sIx (n d : Nat) : Option Int → Nat
  | none => d
  | some v => if v < 0 then (v + (n : Int)).toNat else min v.toNat n
theorem sIx_none (n d : Nat) : sIx n d none = d := rfl
theorem sIx_nat (n d k : Nat) : sIx n d (some (k : Int)) = min k n := by
  show (if (k : Int) < 0 then ((k : Int) + (n : Int)).toNat else min (k : Int).toNat n) = min k n
  rw [if_neg (by omega), Int.toNat_natCast]
end
end HT
namespace L2
open PySem PySem.Spec PyProof.Rows
noncomputable abbrev TO := St → Hp → (Option Int → Hp → Prop) → Prop
noncomputable def PO (X : Cx) (e : Option Expr) (t : TO) : Prop :=
  ∀ (pins : List (Addr × Obj)) (s : Shared) (σ : St) (H : Hp) (Q : Option Int → Hp → Prop), Inv X pins σ H s → t σ H Q →
    wpAny (model X.prog X.w) X.A (evalPart e X.env) (fun u s' => ∃ o H', Inv X pins σ H' s' ∧ IsPart u o ∧ Q o H') X.xe s
noncomputable def tNoPart : TO := fun _ H Q => Q none H
noncomputable def tPart (t : TE) : TO := fun σ H Q => t σ H fun x H1 => ∃ i, x = .int i ∧ Q (some i) H1
theorem intsAre_of {ns : List Int} : ∀ {us : List Value}, Vals (ns.map V.int) us → IntsAre us ns := by
  induction ns with
  | nil => intro us r; rw [List.map_nil] at r; cases r; exact .nil
  | cons n ns ih =>
    intro us r
    rw [List.map_cons] at r
    cases r with
    | cons r1 r2 =>
      obtain ⟨t, e⟩ := r1
      subst e
      exact .cons n t (ih r2)
section
variable {X : Cx} {e : Expr} {te : TE} {lo hi : Option Expr} {tl th : TO} {pos p2 : Pos}
theorem po_none : PO X none tNoPart := by
  intro pins s σ H Q I h
  rw [evalPart_none]
  exact wpAny_pure ⟨none, H, I, .none, h⟩
theorem po_some (h : PE X e te) : PO X (some e) (tPart te) := by
  intro pins s σ H Q I hw
  rw [evalPart_some]
  refine thn (h pins s σ H _ I hw) fun u s1 hm38 => ?_
  obtain ⟨x, H1, I1, r1, q1⟩ := hm38
  obtain ⟨i, rfl, q⟩ := q1
  obtain ⟨t, rfl⟩ := r1
  exact ⟨some i, H1, I1, .int i t, q⟩
noncomputable def SlR (X : Cx) (r : V → Option Int → Option Int → Hp → VK → Prop) : Prop :=
  ∀ (pins : List (Addr × Obj)) (s : Shared) (σ : St) (H : Hp) (x : V) (v vl vu : Value) (lo hi : Option Int) (sl : Addr) (Q : VK), Inv X pins σ H s → RelV x v → s.heap.IsSliceOf sl vl vu .none → IsPart vl lo → IsPart vu hi → r x lo hi H Q →
    ∃ T id, typeLookup (.type T) "__getitem__" = pure (some (.builtin id)) ∧ s.TypeIs v T ∧ wpAny (model X.prog X.w) X.A (getItem v (.ref sl)) (EP X pins σ Q) X.xe s
noncomputable def tSl (r : V → Option Int → Option Int → Hp → VK → Prop) (te : TE) (tl th : TO) : TE := fun σ H Q => te σ H fun x H1 => tl σ H1 fun l H2 => th σ H2 fun u H3 => r x l u H3 Q
theorem pe_slice {r : V → Option Int → Option Int → Hp → VK → Prop} (hr : SlR X r) (he : PE X e te) (hl : PO X lo tl) (hu : PO X hi th) : PE X (.Subscript e (.Slice lo hi none p2) pos) (tSl r te tl th) := by
  intro pins s σ H Q I h
  refine Subscript_ (thn (he pins s σ H _ I h) fun v s1 hm39 => ?_)
  obtain ⟨x, H1, I1, r1, q1⟩ := hm39
  refine wpAny_Slice (thn (hl pins s1 σ H1 _ I1 q1) fun vl s2 hm40 => ?_)
  obtain ⟨l, H2, I2, pl, q2⟩ := hm40
  refine thn (hu pins s2 σ H2 _ I2 q2) fun vu s3 hm41 => ?_
  obtain ⟨u, H3, I3, pu, q3⟩ := hm41
  rw [evalPart_none]
  refine wpAny_pure ?_
  have I4 : Inv X pins σ H3 { s3 with heap := s3.heap.push { cls := .type "slice", data := .fields #[vl, vu, .none] } } := I3.kept (t' := s3.toks) fun b ob q => Heap.get?_push_of_some _ q
  obtain ⟨T, id, hT, ht, hg⟩ := hr pins { s3 with heap := s3.heap.push { cls := .type "slice", data := .fields #[vl, vu, .none] } } σ H3 x v vl vu l u s3.heap.objs.size Q I4 r1 (Heap.IsSliceOf.new ..) pl pu q3
  show wpAny (model X.prog X.w) X.A (subscriptTail e (.Slice lo hi none p2) v (.ref s3.heap.objs.size)) (EP X pins σ Q) X.xe { s3 with heap := s3.heap.push { cls := .type "slice", data := .fields #[vl, vu, .none] } }
  exact tail_any (ops := [.ref s3.heap.objs.size, v]) ht hT hg (by with_unfolding_all rfl)
noncomputable def cutV (xs : List V) (lo hi : Option Int) : List V := (xs.drop (HT.sIx xs.length 0 lo)).take (HT.sIx xs.length xs.length hi - HT.sIx xs.length 0 lo)
theorem cutV_length (xs : List V) (lo hi : Option Int) : (cutV xs lo hi).length ≤ xs.length := by
  unfold cutV
  rw [List.length_take, List.length_drop]
  omega
noncomputable def rLtT (K : PySem.W.Frag) : R2 := fun x y H Q => ∃ a b ns ms, x = .ref a ∧ y = .ref b ∧ SqT K H a (ns.map V.int) ∧ SqT K H b (ms.map V.int) ∧ Q (.bl (HT.lexLt ns ms)) H
theorem op_ltT (hu : X.A.units < cLine) : OpR X (compareOp .Lt) (rLtT X.K) := by
  intro pins s σ H x y v u Q I rx ry h
  obtain ⟨a, b, ns, ms, rfl, rfl, ha, hb, q⟩ := h
  cases rx
  cases ry
  obtain ⟨its, r1, p1, _⟩ := I.tuple ha
  obtain ⟨its2, r2, p2, _⟩ := I.tuple hb
  have i1 : IntsAre its.toArray.toList ns := intsAre_of r1
  have i2 : IntsAre its2.toArray.toList ms := intsAre_of r2
  exact HT.lt_tupInts p1 p2 i1 i2 hu ⟨.bl (HT.lexLt ns ms), H, I, rfl, q⟩
noncomputable def rCatT (K : PySem.W.Frag) : R2 := fun x y H Q => ∃ a b xs ys, x = .ref a ∧ y = .ref b ∧ SqT K H a xs ∧ SqT K H b ys ∧ xs ≠ [] ∧ xs.length + ys.length ≤ sizeLine ∧
  (ys = [] → Q (.ref a) H) ∧ (ys ≠ [] → ∀ p, H p = none → Q (.ref p) (upd H p (.tup (xs ++ ys))))
theorem Vals.nil_iff {xs : List V} {us : List Value} (r : Vals xs us) : us = [] ↔ xs = [] := by
  cases r with
  | nil => simp
  | cons _ _ => simp
theorem op_catT : OpR X (binaryOp .Add) (rCatT X.K) := by
  intro pins s σ H x y v u Q I rx ry h
  obtain ⟨a, b, xs, ys, rfl, rfl, ha, hb, hx, hz, q1, q2⟩ := h
  cases rx
  cases ry
  obtain ⟨its, r1, p1, _⟩ := I.tuple ha
  obtain ⟨its2, r2, p2, _⟩ := I.tuple hb
  refine HT.cat_tup p1 p2 (fun z => hx (r1.nil_iff.mp z)) (fun z => ⟨.ref a, H, I, rfl, q1 (r2.nil_iff.mp z)⟩) (fun z => ?_) (by rw [← r1.length, ← r2.length]; exact hz)
  refine ⟨.ref s.heap.objs.size, _, I.laid (t' := s.toks) (o := .tup (xs ++ ys)) (fun b ob q => Heap.get?_push_of_some _ q) (Nat.le_refl _) ?_, rfl, q2 (fun w => z (r2.nil_iff.mpr w)) _ (I.hok.fresh (Nat.le_refl _))⟩
  exact ⟨by rw [List.length_append]; exact hz, _, r1.append r2, IsTup.new _ _⟩
end
end L2
namespace L2
open PySem PySem.Spec PyProof.Rows
noncomputable def ixN (n : Nat) (i : Int) : Option Nat := if 0 ≤ i then (if i < n then some i.toNat else none) else if -(n : Int) ≤ i then some (i + n).toNat else none
noncomputable def atI {α : Type} (xs : List α) (i : Int) : Option α := (ixN xs.length i).bind fun j => xs[j]?
theorem ixN_seq {n : Nat} {i : Int} {j : Nat} (h : ixN n i = some j) : seqIndex? i n = some j ∧ j < n ∧ -(n : Int) ≤ i ∧ i < n := by
  unfold ixN at h
  by_cases h0 : 0 ≤ i
  · rw [if_pos h0] at h
    by_cases h1 : i < n
    · rw [if_pos h1] at h
      have e : i.toNat = j := Option.some.inj h
      exact ⟨by rw [seqIndex_of h0 h1, e], by omega, by omega, h1⟩
    · rw [if_neg h1] at h; cases h
  · rw [if_neg h0] at h
    by_cases h1 : -(n : Int) ≤ i
    · rw [if_pos h1] at h
      have e : (i + n).toNat = j := Option.some.inj h
      exact ⟨by rw [seqIndex_neg (by omega) h1, e], by omega, h1, by omega⟩
    · rw [if_neg h1] at h; cases h
theorem atI_get {α : Type} {xs : List α} {i : Int} {v : α} (h : atI xs i = some v) : ∃ j, seqIndex? i xs.length = some j ∧ xs[j]? = some v ∧ j < xs.length ∧ -(xs.length : Int) ≤ i ∧ i < xs.length := by
  unfold atI at h
  cases e : ixN xs.length i with
  | none => rw [e] at h; cases h
  | some j =>
    rw [e] at h
    obtain ⟨h1, h2, h3, h4⟩ := ixN_seq e
    exact ⟨j, h1, h, h2, h3, h4⟩
theorem atI_nat {α : Type} {xs : List α} {j : Nat} {v : α} (h : xs[j]? = some v) : atI xs (j : Int) = some v := by
  have hj : j < xs.length := (List.getElem?_eq_some_iff.mp h).1
  have e : ixN xs.length (j : Int) = some j := by
    unfold ixN
    rw [if_pos (by omega), if_pos (by omega)]; simp
  unfold atI; rw [e]; exact h
noncomputable def PlainIx (b : Expr) : Prop := ∀ o i, subscripted b false o i = operate [o, i] (getItem o i)
noncomputable def IxR (X : Cx) (r : R2) : Prop :=
  ∀ (value slice : Expr) (pins : List (Addr × Obj)) (s : Shared) (σ : St) (H : Hp) (x y : V) (v u : Value) (Q : VK), Inv X pins σ H s → RelV x v → RelV y u → r x y H Q →
    subscripted slice false v u = operate [v, u] (getItem v u) → wpAny (model X.prog X.w) X.A (subscriptTail value slice v u) (EP X pins σ Q) X.xe s
noncomputable def MtR (X : Cx) (id : String) (r : V → List V → Hp → VK → Prop) : Prop :=
  ∀ (pins : List (Addr × Obj)) (s : Shared) (σ : St) (H : Hp) (x : V) (xs : List V) (v : Value) (us : List Value) (Q : VK), Inv X pins σ H s → RelV x v → Vals xs us → r x xs H Q →
    wpAny (model X.prog X.w) X.A (call (.builtin id) (v :: us)) (EP X pins σ Q) X.xe s
section
variable {X : Cx} {a b : Expr} {ta tb : TE} {pos : Pos}
theorem pe_ix {r : R2} (hr : IxR X r) (ha : PE X a ta) (hb : PE X b tb) (hs : PlainIx b) : PE X (.Subscript a b pos) (tOp r ta tb) := by
  intro pins s σ H Q I h
  exact Subscript_ (binT ha hb I h fun v u s2 x y H2 I2 rx ry q => hr a b pins s2 σ H2 x y v u Q I2 rx ry q (hs _ _))
noncomputable def rIxL (K : PySem.W.Frag) : R2 := fun x y H Q => ∃ p xs i v, x = .ref p ∧ y = .int i ∧ SqL K H p xs ∧ atI xs i = some v ∧ Q v H
noncomputable def rIxT (K : PySem.W.Frag) : R2 := fun x y H Q => ∃ p xs i v, x = .ref p ∧ y = .int i ∧ SqT K H p xs ∧ atI xs i = some v ∧ Q v H
theorem ix_list : IxR X (rIxL X.K) := by
  intro value slice pins s σ H x y v u Q I rx ry h hs
  obtain ⟨p, xs, i, z, rfl, rfl, hq, he, q⟩ := h
  cases rx
  obtain ⟨t, rfl⟩ := ry
  obtain ⟨its, r, pl, hz⟩ := I.list hq
  obtain ⟨j, h1, h2, h3, h4, h5⟩ := atI_get he
  obtain ⟨w, ew, rw'⟩ := r.get h2
  have hl := r.length
  have hn := line63
  have fin : EP X pins σ Q w s := ⟨z, H, I, rw', q⟩
  by_cases h0 : 0 ≤ i
  · have hj : i.toNat = j := by
      rw [seqIndex_of h0 h5] at h1
      exact Option.some.inj h1
    exact item_listR pl.isList h0 (by omega) (by rw [hj]; simpa using ew) fin hs
  · have hj : (i + (its.toArray.size : Int)).toNat = j := by
      rw [seqIndex_neg (by omega) h4] at h1
      rw [List.size_toArray, ← hl]
      exact Option.some.inj h1
    exact subscriptTail_builtinR (x := w) pl.isList.typeIs slot_list_getitem.lookup
      (wpAny_getItem_list_neg (Q := fun r s' => r = w ∧ EP X pins σ Q r s') pl.isList (by omega) (by rw [List.size_toArray] <;> omega) (by omega) (by rw [hj]; simpa using ew) ⟨rfl, fin⟩) hs
theorem ix_tup : IxR X (rIxT X.K) := by
  intro value slice pins s σ H x y v u Q I rx ry h hs
  obtain ⟨p, xs, i, z, rfl, rfl, hq, he, q⟩ := h
  cases rx
  obtain ⟨t, rfl⟩ := ry
  obtain ⟨its, r, pl, hz⟩ := I.tuple hq
  obtain ⟨j, h1, h2, h3, h4, h5⟩ := atI_get he
  obtain ⟨w, ew, rw'⟩ := r.get h2
  have hl := r.length
  have hn := line63
  have fin : EP X pins σ Q w s := ⟨z, H, I, rw', q⟩
  exact subscriptTail_builtinR (x := w) pl.typeIs slot_tuple_getitem.lookup
    (getItem_tuple (j := j) (Q := fun r s' => r = w ∧ EP X pins σ Q r s') pl (by omega) (by omega) (by rw [List.size_toArray, ← hl]; exact h1) (by simpa using ew) ⟨rfl, fin⟩) hs
theorem mapSeq_set (its : List Value) (n j : Nat) (u : Value) : Obj.mapSeq (·.setIfInBounds j u) { cls := .type "list", data := .seq its.toArray n } = { cls := .type "list", data := .seq (its.set j u).toArray n } := by
  simp [Obj.mapSeq]
theorem Inv.lst {pins : List (Addr × Obj)} {σ : St} {H : Hp} {s : Shared} {p : Addr} {xs : List V} (I : Inv X pins σ H s) (h : H p = some (.lst xs)) :
    ∃ (its : List Value) (n : Nat), Vals xs its ∧ s.heap.get? p = some { cls := .type "list", data := .seq its.toArray n } ∧ xs.length ≤ sizeLine := by
  obtain ⟨z, its, n, r, e⟩ := I.hok p _ h
  exact ⟨its, n, r, e, z⟩
theorem Inv.lstUpd {pins : List (Addr × Obj)} {σ : St} {H : Hp} {s : Shared} {p : Addr} {xs ys : List V} {its its' : List Value} {n n' : Nat} {f : Obj → Obj} (I : Inv X pins σ H s) (h : H p = some (.lst xs))
    (ho : s.heap.get? p = some { cls := .type "list", data := .seq its.toArray n }) (hf : f { cls := .type "list", data := .seq its.toArray n } = { cls := .type "list", data := .seq its'.toArray n' }) (r : Vals ys its') (hz : ys.length ≤ sizeLine) (t : Nat) :
    Inv X pins σ (upd H p (.lst ys)) { s with heap := s.heap.update p f, toks := t } := by
  have e : (s.heap.update p f).get? p = some { cls := .type "list", data := .seq its'.toArray n' } := by
    rw [Heap.get?_update_self f ho (by rw [hf] <;> rfl), hf]
  refine I.write (x := p) (e := p) (by rw [h]; trivial) (.inl rfl) (fun b u hb q => (Heap.get?_update_other _ _ (Ne.symm hb)).trans q) ⟨_, e⟩ ?_
  exact ⟨hz, its', n', r, e⟩
noncomputable def rSetL : V → V → V → Hp → (Hp → Prop) → Prop := fun o i v H Q => ∃ p xs k j, o = .ref p ∧ i = .int k ∧ H p = some (.lst xs) ∧ ixN xs.length k = some j ∧ Q (upd H p (.lst (xs.set j v)))
theorem set_list : PSet X rSetL := by
  intro pins s σ H o i v ov iv u Q I ro ri rv h
  obtain ⟨p, xs, k, j, rfl, rfl, hp, hj, q⟩ := h
  cases ro
  obtain ⟨t, rfl⟩ := ri
  obtain ⟨its, n, r, ho, hz⟩ := I.lst hp
  obtain ⟨h1, h2, h3, h4⟩ := ixN_seq hj
  have hl := r.length
  have hn := line63
  have I' : Inv X pins σ (upd H p (.lst (xs.set j v))) { s with heap := s.heap.update p (Obj.mapSeq (·.setIfInBounds j u)) } :=
    I.lstUpd hp ho (mapSeq_set its n j u) (r.set rv j) (by rw [List.length_set]; exact hz) s.toks
  by_cases h0 : 0 ≤ k
  · have hk : k.toNat = j := by
      rw [seqIndex_of h0 h4] at h1
      exact Option.some.inj h1
    exact PySem.W.ki_setAt ho h0 (by omega) (by rw [List.size_toArray, ← hl]; exact h4) (by rw [hk]; exact ⟨_, I', q⟩)
  · have hk : (k + (its.toArray.size : Int)).toNat = j := by
      rw [seqIndex_neg (by omega) h3] at h1
      rw [List.size_toArray, ← hl]
      exact Option.some.inj h1
    exact PySem.W.ki_setBack ho (by omega) (by rw [List.size_toArray, ← hl]; exact h3) (by omega) (by rw [hk]; exact ⟨_, I', q⟩)
theorem slice_bounds (lo hi : Option Int) (n : Nat) : (sliceBounds lo hi none n).1 = ((HT.sIx n 0 lo : Nat) : Int) ∧ (sliceBounds lo hi none n).2.1 = ((HT.sIx n n hi : Nat) : Int) ∧ (sliceBounds lo hi none n).2.2 = 1 := by
  refine ⟨?_, ?_, rfl⟩
  · cases lo with
    | none => simp [sliceBounds, HT.sIx]
    | some i =>
      simp only [sliceBounds, HT.sIx, Option.getD_none, show (1 : Int) > 0 by decide, if_true]
      by_cases h : i < 0
      · simp only [h, if_true] <;> omega
      · simp only [h, if_false] <;> omega
  · cases hi with
    | none => simp [sliceBounds, HT.sIx]
    | some i =>
      simp only [sliceBounds, HT.sIx, Option.getD_none, show (1 : Int) > 0 by decide, if_true]
      by_cases h : i < 0
      · simp only [h, if_true] <;> omega
      · simp only [h, if_false] <;> omega
theorem slicePick_cut (its : List Value) (lo hi : Option Int) : slicePick its.toArray lo hi none = ((its.drop (HT.sIx its.length 0 lo)).take (HT.sIx its.length its.length hi - HT.sIx its.length 0 lo)).toArray := by
  obtain ⟨h1, h2, h3⟩ := slice_bounds lo hi its.toArray.size
  unfold slicePick
  rw [h1, h2, h3]
  simp only [sliceRange_one, pick_run, List.size_toArray] <;> rfl
noncomputable def rSlL (K : PySem.W.Frag) : V → Option Int → Option Int → Hp → VK → Prop := fun x lo hi H Q => ∃ a xs, x = .ref a ∧ SqL K H a xs ∧ ∀ p, H p = none → Q (.ref p) (upd H p (.lst (cutV xs lo hi)))
theorem sl_list : SlR X (rSlL X.K) := by
  intro pins s σ H x v vl vu lo hi sl Q I rx hs pl pu h
  obtain ⟨a, xs, rfl, hx, q⟩ := h
  cases rx
  obtain ⟨its, r, ht, hz⟩ := I.list hx
  have hlen := r.length
  refine ⟨"list", _, slot_list_getitem.lookup, ht.isList.typeIs, ?_⟩
  refine wpAny_getItem_list_slice ht.isList hs pl pu .none (by simp) ?_ (by rw [List.size_toArray] <;> omega)
  rw [slicePick_cut, ← hlen]
  refine ⟨.ref s.heap.objs.size, _, I.laid (t' := s.toks) (o := .lst (cutV xs lo hi)) (fun b ob q => Heap.get?_push_of_some _ q) (Nat.le_refl _) ?_, rfl, q _ (I.hok.fresh (Nat.le_refl _))⟩
  exact ⟨Nat.le_trans (cutV_length xs lo hi) hz, _, 0, (r.drop (HT.sIx xs.length 0 lo)).take (HT.sIx xs.length xs.length hi - HT.sIx xs.length 0 lo), Heap.get?_push_size _ rfl⟩
noncomputable def flatV : V → Bool
  | .non => true
  | .bl _ => true
  | .int _ => true
  | .str _ => true
  | _ => false
noncomputable def eqV : V → V → Bool
  | .non, .non => true
  | .bl a, .bl b => a == b
  | .bl a, .int b => (if a then 1 else 0) == b
  | .int a, .bl b => a == (if b then 1 else 0)
  | .int a, .int b => a == b
  | .str a, .str b => a == b
  | _, _ => false
theorem eqAt_V {A : Around} {s : Shared} {y x : V} {u v : Value} (ry : RelV y u) (rx : RelV x v) (fy : flatV y = true) (fx : flatV x = true) : SeqAt.EqAt A s u v (eqV y x) := by
  cases y with
  | non =>
    cases ry
    cases x with
    | non => cases rx; exact SeqAt.EqAt.same _
    | bl b => cases rx; exact SeqAt.EqAt.none_bool b
    | int b => obtain ⟨t, rfl⟩ := rx; exact SeqAt.EqAt.none_int b t
    | str b => obtain ⟨t, rfl⟩ := rx; exact SeqAt.EqAt.none_str b t
    | _ => exact absurd (show false = true from fx) Bool.false_ne_true
  | bl a =>
    cases ry
    cases x with
    | non => cases rx; exact SeqAt.EqAt.bool_none a
    | bl b => cases rx; exact SeqAt.EqAt.bool_bool a b
    | int b => obtain ⟨t, rfl⟩ := rx; exact SeqAt.EqAt.bool_int a b t
    | str b => obtain ⟨t, rfl⟩ := rx; exact SeqAt.EqAt.bool_str a b t
    | _ => exact absurd (show false = true from fx) Bool.false_ne_true
  | int a =>
    obtain ⟨t', rfl⟩ := ry
    cases x with
    | non => cases rx; exact SeqAt.EqAt.int_none a t'
    | bl b => cases rx; exact SeqAt.EqAt.int_bool a t' b
    | int b => obtain ⟨t, rfl⟩ := rx; exact SeqAt.EqAt.int_int a t' b t
    | str b => obtain ⟨t, rfl⟩ := rx; exact SeqAt.EqAt.int_str a t' b t
    | _ => exact absurd (show false = true from fx) Bool.false_ne_true
  | str a =>
    obtain ⟨t', rfl⟩ := ry
    cases x with
    | non => cases rx; exact SeqAt.EqAt.str_none a t'
    | bl b => cases rx; exact SeqAt.EqAt.str_bool a t' b
    | int b => obtain ⟨t, rfl⟩ := rx; exact SeqAt.EqAt.str_int a t' b t
    | str b => obtain ⟨t, rfl⟩ := rx; exact SeqAt.EqAt.str_str a t' b t
    | _ => exact absurd (show false = true from fx) Bool.false_ne_true
  | _ => exact absurd (show false = true from fy) Bool.false_ne_true
noncomputable def eqU (x : V) (u : Value) : Bool := match u with
  | .none => eqV .non x
  | .bool b => eqV (.bl b) x
  | .int i _ => eqV (.int i) x
  | .str z _ => eqV (.str z) x
  | _ => false
theorem eqU_of {x y : V} {u : Value} (r : RelV y u) (f : flatV y = true) : eqU x u = eqV y x := by
  cases y with
  | non => cases r; rfl
  | bl b => cases r; rfl
  | int i => obtain ⟨t, rfl⟩ := r; rfl
  | str z => obtain ⟨t, rfl⟩ := r; rfl
  | _ => exact absurd (show false = true from f) Bool.false_ne_true
theorem any_eqU {x : V} : ∀ {xs : List V} {us : List Value}, Vals xs us → xs.all flatV = true → us.any (eqU x) = xs.any fun y => eqV y x
  | _, _, .nil, _ => rfl
  | y :: xs, u :: us, .cons r t, f => by
    rw [List.all_cons, Bool.and_eq_true] at f
    rw [List.any_cons, List.any_cons, eqU_of r f.1, any_eqU t f.2]
theorem mem_eqAt {A : Around} {s : Shared} {x : V} {v : Value} (rx : RelV x v) (fx : flatV x = true) : ∀ {xs : List V} {us : List Value}, Vals xs us → xs.all flatV = true → ∀ u ∈ us, SeqAt.EqAt A s u v (eqU x u)
  | _, _, .nil, _ => fun u hu => by cases hu
  | y :: xs, u :: us, .cons r t, f => fun u' hu => by
    rw [List.all_cons, Bool.and_eq_true] at f
    rcases List.mem_cons.mp hu with rfl | hu
    · rw [eqU_of r f.1]; exact eqAt_V r rx f.1 fx
    · exact mem_eqAt rx fx t f.2 u' hu
noncomputable def inV (x : V) (xs : List V) : Bool := xs.any fun y => eqV y x
noncomputable def rIn (K : PySem.W.Frag) (neg : Bool) : R2 := fun x y H Q => ∃ p xs, y = .ref p ∧ (SqL K H p xs ∨ SqT K H p xs) ∧ flatV x = true ∧ xs.all flatV = true ∧ Q (.bl (if neg then !inV x xs else inV x xs)) H
theorem op_in_seq : OpR X (compareOp .In) (rIn X.K false) := by
  intro pins s σ H x y v u Q I rx ry h
  obtain ⟨p, xs, rfl, hq, fx, fs, q⟩ := h
  cases ry
  rcases hq with hq | hq
  · obtain ⟨its, r, pl, hz⟩ := I.list hq
    refine SeqAt.in_listAt (eqU x) pl.isList (fun w hw => mem_eqAt rx fx r fs w (by simpa using hw)) ⟨.bl _, H, I, rfl, ?_⟩
    rw [show its.toArray.any (eqU x) = its.any (eqU x) by simp, any_eqU r fs]
    exact q
  · obtain ⟨its, r, pl, hz⟩ := I.tuple hq
    refine SeqAt.in_tupleAt (eqU x) pl (fun w hw => mem_eqAt rx fx r fs w (by simpa using hw)) ⟨.bl _, H, I, rfl, ?_⟩
    rw [show its.toArray.any (eqU x) = its.any (eqU x) by simp, any_eqU r fs]
    exact q
theorem call_len_seq : CallR X (.builtin "len") (fun xs H Q => ∃ p ys, xs = [.ref p] ∧ (SqL X.K H p ys ∨ SqT X.K H p ys) ∧ Q (.int ys.length) H) := by
  intro pins s σ H xs us Q I r h
  obtain ⟨p, ys, rfl, hq, q⟩ := h
  obtain ⟨u, rfl, rx⟩ := vals1 r
  cases rx
  have hn := line63
  rcases hq with hq | hq
  · obtain ⟨its, r', pl, hz⟩ := I.list hq
    have hlen := r'.length
    exact Calls.call_len_list pl.isList (by simp only [List.size_toArray] <;> omega) ⟨.int ys.length, H, I.tok _, ⟨s.toks + 1, by rw [List.size_toArray, hlen]⟩, q⟩
  · obtain ⟨its, r', pl, hz⟩ := I.tuple hq
    have hlen := r'.length
    exact len_tuple pl (by simp only [List.size_toArray] <;> omega) ⟨.int ys.length, H, I.tok _, ⟨s.toks + 1, by rw [List.size_toArray, hlen]⟩, q⟩
theorem call_list_of : CallR X (.type "list") (fun xs H Q => ∃ p ys, xs = [.ref p] ∧ (SqL X.K H p ys ∨ SqT X.K H p ys) ∧ ∀ l, H l = none → Q (.ref l) (upd H l (.lst ys))) := by
  intro pins s σ H xs us Q I r h
  obtain ⟨p, ys, rfl, hq, q⟩ := h
  obtain ⟨u, rfl, rx⟩ := vals1 r
  cases rx
  have fin : ∀ (its : List Value), Vals ys its → ys.length ≤ sizeLine → ∀ (h' : Heap) (c' : Nat), (∀ b o', s.heap.get? b = some o' → h'.get? b = some o') →
      h'.get? s.heap.objs.size = some { cls := .type "list", dict := none, data := .seq its.toArray c', slots := #[] } → EP X pins σ Q (.ref s.heap.objs.size) { s with heap := h' } := fun its r' hz h' c' kp e =>
    ⟨.ref s.heap.objs.size, _, I.laid (t' := s.toks) kp (Nat.le_refl _) (show ObjOk X.prog X.w _ h' _ (.lst ys) from ⟨hz, its, c', r', e⟩), rfl, q _ (I.hok.fresh (Nat.le_refl _))⟩
  rcases hq with hq | hq
  · obtain ⟨its, r', pl, hz⟩ := I.list hq
    have hlen := r'.length
    obtain ⟨o, ho, hc, n, hd⟩ := pl.isList
    exact call_list_seq p (.inl rfl) ho hc hd (fun h' c' kp e => fin its r' hz h' c' kp e) (by simp only [List.size_toArray] <;> omega)
  · obtain ⟨its, r', pl, hz⟩ := I.tuple hq
    have hlen := r'.length
    obtain ⟨o, ho, hc, n, hd⟩ := pl
    exact call_list_seq p (.inr rfl) ho hc hd (fun h' c' kp e => fin its r' hz h' c' kp e) (by simp only [List.size_toArray] <;> omega)
theorem call_tuple_of : CallR X (.type "tuple") (fun xs H Q => ∃ p ys, xs = [.ref p] ∧ ((SqL X.K H p ys ∧ ∀ l, H l = none → Q (.ref l) (upd H l (.tup ys))) ∨ (SqT X.K H p ys ∧ Q (.ref p) H))) := by
  intro pins s σ H xs us Q I r h
  obtain ⟨p, ys, rfl, h⟩ := h
  obtain ⟨u, rfl, rx⟩ := vals1 r
  cases rx
  rcases h with ⟨hq, q⟩ | ⟨hq, q⟩
  · obtain ⟨its, r', pl, hz⟩ := I.list hq
    have hlen := r'.length
    refine call_tuple_list pl.isList (fun h' kp => ?_) (by simp only [List.size_toArray] <;> omega)
    have I1 : Inv X pins σ H { s with heap := h' } := I.kept (t' := s.toks) kp
    have I2 : Inv X pins σ (upd H h'.objs.size (.tup ys)) { s with heap := h'.push { cls := .type "tuple", data := .seq its.toArray } } :=
      I1.laid (t' := s.toks) (fun b o e => Heap.get?_push_of_some _ e) (Nat.le_refl _) (show ObjOk X.prog X.w _ _ _ (.tup ys) from ⟨hz, its, r', IsTup.new _ _⟩)
    exact ⟨.ref h'.objs.size, _, I2, rfl, q _ (I1.hok.fresh (Nat.le_refl _))⟩
  · obtain ⟨its, r', pl, hz⟩ := I.tuple hq
    exact call_tuple_same pl ⟨.ref p, H, I, rfl, q⟩
noncomputable def tyV (K : PySem.W.Frag) (T : String) (x : V) (H : Hp) : Prop := match x with
  | .str _ => T = "str"
  | .int _ => T = "int"
  | .ref p => (T = "list" ∧ ∃ xs, SqL K H p xs) ∨ (T = "tuple" ∧ ∃ o, K.lookup p = some o ∧ o.cls = .type "tuple" ∧ o.dict = none) ∨
      (T = "dict" ∧ ((∃ kvs, H p = some (.dK kvs)) ∨ ∃ kvs, H p = some (.dT kvs))) ∨ (T = "set" ∧ ∃ S n, H p = some (.set S n))
  | _ => False
theorem tyV_is {pins : List (Addr × Obj)} {σ : St} {H : Hp} {s : Shared} {T : String} {x : V} {v : Value} (I : Inv X pins σ H s) (r : RelV x v) (ty : tyV X.K T x H) :
    s.TypeIs v T ∧ ∀ a, v = .ref a → ∃ ob, s.heap.get? a = some ob ∧ ob.dict = none := by
  cases x with
  | str z =>
    obtain ⟨t, rfl⟩ := r
    cases (show T = "str" from ty)
    exact ⟨typeIs_str s z t, fun _ e => nomatch e⟩
  | int i =>
    obtain ⟨t, rfl⟩ := r
    cases (show T = "int" from ty)
    exact ⟨typeIs_int s i t, fun _ e => nomatch e⟩
  | ref p =>
    cases r
    rcases ty with ⟨rfl, xs, hq⟩ | ⟨rfl, o, hk, hc, hd⟩ | ⟨rfl, hk⟩ | ⟨rfl, S, n, hk⟩
    · obtain ⟨its, _, pl, _⟩ := I.list hq
      refine ⟨pl.isList.typeIs, fun a e => ?_⟩
      cases e
      obtain ⟨o, n, e, c, hd, _⟩ := pl
      exact ⟨o, e, hd⟩
    · refine ⟨⟨o, I.kIn p o hk, hc⟩, fun a e => ?_⟩
      cases e
      exact ⟨o, I.kIn _ o hk, hd⟩
    · have z : ∃ o, s.heap.get? p = some o ∧ o.ExactDict := by
        rcases hk with ⟨kvs, hk⟩ | ⟨kvs, hk⟩
        · obtain ⟨_, _, _, _, o, _, _, e, ex, _⟩ := I.hok p _ hk
          exact ⟨o, e, ex⟩
        · obtain ⟨_, _, _, _, o, _, _, e, ex, _⟩ := I.hok p _ hk
          exact ⟨o, e, ex⟩
      obtain ⟨o, e, ex⟩ := z
      refine ⟨⟨o, e, ex.1⟩, fun a e2 => ?_⟩
      cases e2
      exact ⟨o, e, ex.2.1⟩
    · obtain ⟨o, _, _, _, e, ex, _⟩ := I.hok p _ hk
      refine ⟨⟨o, e, ex.1⟩, fun a e2 => ?_⟩
      cases e2
      exact ⟨o, e, ex.2.1⟩
  | _ => exact False.elim ty
noncomputable def tBM (K : PySem.W.Frag) (T : String) (r : V → List V → Hp → VK → Prop) (to : TE) (t : TA) : TE := fun σ H Q => to σ H fun x H1 => tyV K T x H1 ∧ t σ H1 fun xs H2 => r x xs H2 Q
variable {o e : Expr} {es : List Expr} {to : TE} {t : TA} {name : Str} {apos cpos : Pos} {T id : String} {r : V → List V → Hp → VK → Prop}
theorem pe_bm (pa : PlainAttrs T) (slot : Slot T name id) (hty : typeOf (.builtin id) = pure (.type "method_descriptor")) (hm : MtR X id r) (ho : PE X o to) (ha : PA X (e :: es) t)
    (hbase : attributeBase o name X.env (eval o X.env) = eval o X.env := by rfl)
    (hfew : ((backTo cpos (starEach (e :: es) X.env)).all (fun x => !x.1) && (backToKw cpos (keywordEach [] X.env)).all (fun x => x.1.isSome)
      && decide ((e :: es).length + ([] : List Keyword).length + (if ([] : List Keyword).isEmpty then 0 else 1) < 30)) = true := by rfl)
    (hline : (apos.endLine == cpos.line) = true := by rfl) (hs : starEach (e :: es) X.env = (false, eval e X.env) :: starEach es X.env := by rfl) (hplain : (backTo cpos (starEach es X.env)).any (·.1) = false := by rfl) :
    PE X (.Call (.Attribute o name apos) (e :: es) [] cpos) (tBM X.K T r to t) := by
  intro pins s σ H Q I h
  refine wpAny_Call_method_late hbase hfew hline rfl (thn (ho pins s σ H _ I h) fun v s1 hm42 => ?_)
  obtain ⟨x, H1, I1, r1, ty, q1⟩ := hm42
  obtain ⟨h1, h2⟩ := tyV_is I1 r1 ty
  refine ⟨T, id, pa, slot, hty, h1, h2, ?_⟩
  have hA := ha cpos pins s1 σ H1 _ I1 q1
  rw [hs] at hA ⊢
  refine Calls.callWith_builtin (by show (false || (backTo cpos (starEach es X.env)).any (·.1)) = false; rw [hplain] <;> rfl) (Calls.evalArgs_plain ?_)
  exact thn hA fun us s2 ⟨vs, H2, I2, r2, q2⟩ => hm pins s2 σ H2 x vs v us Q I2 r1 r2 q2
end
end L2
namespace L2
open PySem PySem.Spec PyProof.Rows
noncomputable def MtM (X : Cx) (id : String) (r : V → List V → Hp → VK → Prop) : Prop :=
  ∀ (pins : List (Addr × Obj)) (s : Shared) (σ : St) (H : Hp) (x : V) (xs : List V) (v : Value) (us : List Value) (Q : VK), Inv X pins σ H s → RelV x v → Vals xs us → r x xs H Q →
    wpAny (model X.prog X.w) X.A (call (.builtin id) (v :: us)) (EP X pins σ Q) X.xe s
theorem Vals.one : ∀ {x : V} {us : List Value}, Vals [x] us → ∃ u, us = [u] ∧ RelV x u
  | _, _, .cons r .nil => ⟨_, rfl, r⟩
theorem Vals.rep {xs : List V} {us : List Value} (h : Vals xs us) : ∀ k : Nat, Vals (List.replicate k xs).flatten (List.replicate k us).flatten
  | 0 => .nil
  | k + 1 => by
    rw [List.replicate_succ, List.replicate_succ, List.flatten_cons, List.flatten_cons]
    exact Vals.append h (Vals.rep h k)
theorem foldl_rep (its : List Value) : ∀ (k : Nat) (acc : List Value),
    List.foldl (fun x1 x2 => x1 ++ x2) acc.toArray (List.replicate k its.toArray) = (acc ++ (List.replicate k its).flatten).toArray
  | 0, acc => by simp
  | k + 1, acc => by
    have e : acc.toArray ++ its.toArray = (acc ++ its).toArray := by simp
    have e2 : (acc ++ its) ++ (List.replicate k its).flatten = acc ++ (List.replicate (k + 1) its).flatten := by
      rw [List.replicate_succ, List.flatten_cons, List.append_assoc]
    rw [← e2, ← foldl_rep its k (acc ++ its), ← e, List.replicate_succ, List.foldl_cons]
section
variable {X : Cx} {pins : List (Addr × Obj)} {σ : St} {H : Hp} {s : Shared} {l b : Addr} {xs ys zs : List V}
theorem Inv.lset {its its' : List Value} {n : Nat} {f : Array Value → Array Value} {t' : Nat} (I : Inv X pins σ H s) (hH : H l = some (.lst xs))
    (e : s.heap.get? l = some { cls := .type "list", data := .seq its.toArray n }) (hf : f its.toArray = its'.toArray) (hv : Vals ys its') (hz : ys.length ≤ sizeLine) :
    Inv X pins σ (upd H l (.lst ys)) { s with heap := s.heap.update l (Obj.mapSeq f), toks := t' } := by
  have q := PySem.IsL.update e f
  rw [hf] at q
  refine I.write (x := l) (e := l) (by rw [hH]; exact trivial) (.inl rfl) (fun b' u hb hu => (Heap.get?_update_other s.heap (Obj.mapSeq f) (Ne.symm hb)).trans hu) ⟨_, q⟩ ?_
  exact ⟨hz, its', _, hv, q⟩
theorem Inv.lnew {its : List Value} {t' : Nat} (I : Inv X pins σ H s) (hv : Vals ys its) (hz : ys.length ≤ sizeLine) :
    Inv X pins σ (upd H s.heap.objs.size (.lst ys)) { s with heap := s.heap.push { cls := .type "list", data := .seq its.toArray }, toks := t' } :=
  I.laid (fun _ _ q => Heap.get?_push_of_some _ q) (Nat.le_refl _) ⟨hz, its, 0, hv, Heap.get?_push_size _ rfl⟩
theorem Inv.fresh (I : Inv X pins σ H s) : H s.heap.objs.size = none := I.hok.fresh (Nat.le_refl _)
theorem Inv.lstM (I : Inv X pins σ H s) (hH : H l = some (.lst xs)) : xs.length ≤ sizeLine ∧ ∃ (its : List Value) (n : Nat), Vals xs its ∧ xs.length = its.length ∧ s.heap.get? l = some { cls := .type "list", data := .seq its.toArray n } := by
  obtain ⟨z, its, n, r, e⟩ := I.hok l _ hH
  exact ⟨z, its, n, r, r.length, e⟩
theorem notLongL {n : Nat} (h : n ≤ sizeLine) : Builtin.List.listTooLong n = false := by
  unfold Builtin.List.listTooLong
  exact decide_eq_false (by omega)
end
section
variable {X : Cx}
noncomputable def rAppend : V → List V → Hp → VK → Prop := fun x vs H Q => ∃ l xs y, x = .ref l ∧ vs = [y] ∧ H l = some (.lst xs) ∧ xs.length < sizeLine ∧ Q .non (upd H l (.lst (xs ++ [y])))
theorem mt_append : MtM X "list.append" rAppend := by
  intro pins s σ H x vs v us Q I rx rv h
  obtain ⟨l, xs, y, rfl, rfl, hH, hz, q⟩ := h
  cases rx
  obtain ⟨u, rfl, ru⟩ := rv.one
  obtain ⟨z, its, n, r, hl, e⟩ := I.lstM hH
  refine call_meets F.slot_list_append ⟨_, e, rfl⟩ F.entry_list_append (F.args_list_append_2 _ _) (PySem.list_append l its.toArray n u (by rw [List.size_toArray]; omega)) ⟨e, ?_⟩
  refine ⟨.non, _, I.lset (its' := its ++ [u]) hH e (by simp) (r.append (.cons ru .nil)) ?_, rfl, q⟩
  rw [List.length_append, List.length_singleton]
  omega
noncomputable def rExtend : V → List V → Hp → VK → Prop := fun x vs H Q => ∃ l b xs zs, x = .ref l ∧ vs = [.ref b] ∧ H l = some (.lst xs) ∧ H b = some (.lst zs) ∧ xs.length + zs.length ≤ sizeLine ∧ Q .non (upd H l (.lst (xs ++ zs)))
theorem mt_extend : MtM X "list.extend" rExtend := by
  intro pins s σ H x vs v us Q I rx rv h
  obtain ⟨l, b, xs, zs, rfl, rfl, hH, hB, hz, q⟩ := h
  cases rx
  obtain ⟨u, rfl, ru⟩ := rv.one
  cases ru
  obtain ⟨z, its, n, r, hl, e⟩ := I.lstM hH
  obtain ⟨z2, its2, n2, r2, hl2, e2⟩ := I.lstM hB
  have hsz : its.toArray.size + its2.toArray.size ≤ sizeLine := by rw [List.size_toArray, List.size_toArray]; omega
  have hlong : ¬ (!its.toArray.isEmpty && Builtin.List.listTooLong (its.toArray.size + its2.toArray.size)) = true := by
    rw [notLongL hsz, Bool.and_false]
    exact Bool.false_ne_true
  refine call_meets F.slot_list_extend ⟨_, e, rfl⟩ F.entry_list_extend (F.args_list_extend_2 _ _)
    (AutoSeq1.list_extend_list_list_0 l its.toArray n b its2.toArray n2 hlong (by rw [List.size_toArray]; omega) (by omega)) ⟨e, e2, ?_⟩
  refine ⟨.non, _, I.lset (its' := its ++ its2) hH e (by simp) (r.append r2) ?_, rfl, q⟩
  rw [List.length_append]
  omega
noncomputable def rCat : R2 := fun x y H Q => ∃ l b xs zs, x = .ref l ∧ y = .ref b ∧ H l = some (.lst xs) ∧ H b = some (.lst zs) ∧ xs.length + zs.length ≤ sizeLine ∧ ∀ p, H p = none → Q (.ref p) (upd H p (.lst (xs ++ zs)))
theorem op_cat : OpR X (binaryOp .Add) rCat := by
  intro pins s σ H x y v u Q I rx ry h
  obtain ⟨l, b, xs, zs, rfl, rfl, hH, hB, hz, q⟩ := h
  cases rx
  cases ry
  obtain ⟨z, its, n, r, hl, e⟩ := I.lstM hH
  obtain ⟨z2, its2, n2, r2, hl2, e2⟩ := I.lstM hB
  refine PySem.P.add_list e e2 ?_ (by rw [List.size_toArray, List.size_toArray]; omega)
  have ea : its.toArray ++ its2.toArray = (its ++ its2).toArray := by simp
  rw [ea]
  exact ⟨.ref _, _, I.lnew (t' := s.toks) (r.append r2) (by rw [List.length_append]; omega), rfl, q _ I.fresh⟩
noncomputable def rRep : R2 := fun x y H Q => ∃ l k xs, x = .ref l ∧ y = .int k ∧ H l = some (.lst xs) ∧ -(2 ^ 63) ≤ k ∧ k < 2 ^ 63 ∧ xs.length * k.toNat ≤ sizeLine ∧
  ∀ p, H p = none → Q (.ref p) (upd H p (.lst (List.replicate k.toNat xs).flatten))
theorem len_rep {α : Type} (xs : List α) (k : Nat) : (List.replicate k xs).flatten.length = k * xs.length := by
  induction k with
  | zero => simp
  | succ k ih => rw [List.replicate_succ, List.flatten_cons, List.length_append, ih, Nat.succ_mul, Nat.add_comm]
theorem op_rep : OpR X (binaryOp .Mult) rRep := by
  intro pins s σ H x y v u Q I rx ry h
  obtain ⟨l, k, xs, rfl, rfl, hH, h1, h2, hz, q⟩ := h
  cases rx
  obtain ⟨t, rfl⟩ := ry
  obtain ⟨z, its, n, r, hl, e⟩ := I.lstM hH
  have hlen : its.toArray.size * k.toNat ≤ sizeLine := by rw [List.size_toArray, ← hl]; exact hz
  have hcap : ¬ its.toArray.size * k.toNat > (2 ^ 63 - 1) / 8 := by
    have : (sizeLine : Nat) ≤ (2 ^ 63 - 1) / 8 := by decide
    omega
  have hfit : ¬ (!Builtin.List.listFitsIndex k) = true := by
    rw [fitsIndex_both h1 h2]
    exact Bool.false_ne_true
  have hlong : ¬ Builtin.List.listTooLong (its.toArray.size * k.toNat) = true := by
    rw [notLongL hlen]
    exact Bool.false_ne_true
  have hnew : List.foldl (fun x1 x2 => x1 ++ x2) #[] (List.replicate (if its.toArray.isEmpty = true then 0 else k.toNat) its.toArray) = (List.replicate k.toNat its).flatten.toArray := by
    have f0 : ∀ m : Nat, List.foldl (fun x1 x2 => x1 ++ x2) #[] (List.replicate m its.toArray) = (List.replicate m its).flatten.toArray := fun m => by
      have := foldl_rep its m []
      rw [List.nil_append] at this
      exact this
    rw [f0]
    cases its with
    | nil => simp
    | cons a r' => rw [if_neg (by simp)]
  refine wpAny_binaryOp_repeat_ref (T := "list") (U := "int") (by decide) ⟨_, e, rfl⟩ (fun s' => typeIs_int s' k t) noFill_list_mul F.fills_int_mul F.slot_int_rmul repeat_list F.slot_int_index.lookup
    (call_meets F.slot_int_rmul (typeIs_int s k t) F.entry_int_rmul (F.args_int_rmul_2 _ _) (int___rmul___int_list k t l its.toArray n)
      ⟨e, rfl, ⟨_, e, rfl⟩, call_meets F.slot_list_mul ⟨_, e, rfl⟩ F.entry_list_mul (F.args_list_mul_2 _ _) (AutoListH.list___mul___list_int_3 l its.toArray n k t hfit hcap hlong) ⟨e, ?_⟩⟩)
  rw [hnew]
  exact ⟨.ref _, _, I.lnew (t' := s.toks) (r.rep k.toNat) (by rw [len_rep, Nat.mul_comm]; exact hz), rfl, q _ I.fresh⟩
end
section
variable {prog : Program} {w : World} {A : Around} {E : Value → Shared → Prop} {s : Shared}
set_option maxRecDepth 100000 in
end
section
variable {X : Cx}
end
end L2
namespace L2
open PySem PySem.Spec PyProof.Rows
theorem vals_of_ints : ∀ {us : List Value} {ns : List Int}, IntsAre us ns → Vals (ns.map V.int) us
  | _, _, .nil => by rw [List.map_nil]; exact Paired.nil
  | _, _, .cons n t h => by rw [List.map_cons]; exact Paired.cons (show RelV (V.int n) (Value.int n t) from ⟨t, rfl⟩) (vals_of_ints h)
theorem Vals.ref1 {a : Addr} {us : List Value} (r : Vals [V.ref a] us) : us = [Value.ref a] := by
  cases r with
  | cons r t =>
    cases t
    cases r
    rfl
section
variable {prog : Program} {w : World} {A : Around} {E : Value → Shared → Prop} {s : Shared} {l : Addr} {its : List Value} {ns : List Int} {Q : Value → Shared → Prop}
end
section
variable {X : Cx}
theorem small64 {n : Nat} (h : n < 64) : n ≤ sizeLine := by rw [sizeLine_eq]; omega
end
section
variable {X : Cx}
end
section
variable {X : Cx}
end
section
variable {X : Cx}
end
mutual
inductive Dp (K : PySem.W.Frag) (H : Hp) : V → PyData → Prop
  | non : Dp K H .non .none
  | bl (b : Bool) : Dp K H (.bl b) (.bool b)
  | int (i : Int) : Dp K H (.int i) (.int i)
  | str (x : Str) : Dp K H (.str x) (.str x)
  | lst {a : Addr} {xs : List V} {ds : List PyData} : SqL K H a xs → DpAll K H xs ds → Dp K H (.ref a) (.list ds)
  | tup {a : Addr} {xs : List V} {ds : List PyData} : SqT K H a xs → DpAll K H xs ds → Dp K H (.ref a) (.tuple ds)
inductive DpAll (K : PySem.W.Frag) (H : Hp) : List V → List PyData → Prop
  | nil : DpAll K H [] []
  | cons {v : V} {vs : List V} {d : PyData} {ds : List PyData} : Dp K H v d → DpAll K H vs ds → DpAll K H (v :: vs) (d :: ds)
end
section
variable {X : Cx} {pins : List (Addr × Obj)} {σ : St} {H : Hp} {s : Shared}
mutual
theorem Dp.reads (I : Inv X pins σ H s) : ∀ (d : PyData) (v : V) (u : Value), Dp X.K H v d → RelV v u → ∃ as, Reads s.heap u d as
  | .none, _, _, h, r => by
    cases h
    cases r
    exact ⟨_, Reads.none⟩
  | .bool b, _, _, h, r => by
    cases h
    cases r
    exact ⟨_, Reads.bool b⟩
  | .int i, _, _, h, r => by
    cases h
    obtain ⟨t, rfl⟩ := r
    exact ⟨_, Reads.int i t⟩
  | .str x, _, _, h, r => by
    cases h
    obtain ⟨t, rfl⟩ := r
    exact ⟨_, Reads.str x t⟩
  | .list ds, _, _, h, r => by
    cases h with
    | lst hs ha =>
      cases r
      obtain ⟨its, rv, ⟨o, n, ho, hc, _, hd⟩, _⟩ := I.list hs
      obtain ⟨as, hr⟩ := Dp.readsAll I ds _ its ha rv
      exact ⟨_, Reads.list ho hc hd hr⟩
  | .tuple ds, _, _, h, r => by
    cases h with
    | tup hs ha =>
      cases r
      obtain ⟨its, rv, ⟨o, ho, hc, n, hd⟩, _⟩ := I.tuple hs
      obtain ⟨as, hr⟩ := Dp.readsAll I ds _ its ha rv
      exact ⟨_, Reads.tuple ho hc hd hr⟩
  | .dict _, _, _, h, _ => by cases h
theorem Dp.readsAll (I : Inv X pins σ H s) : ∀ (ds : List PyData) (vs : List V) (us : List Value), DpAll X.K H vs ds → Vals vs us → ∃ as, ReadsAll s.heap us ds as
  | [], _, _, h, r => by
    cases h
    cases r
    exact ⟨_, ReadsAll.nil⟩
  | d :: ds, _, _, h, r => by
    cases h with
    | cons h1 h2 =>
      cases r with
      | cons r1 r2 =>
        obtain ⟨as, q1⟩ := Dp.reads I d _ _ h1 r1
        obtain ⟨bs, q2⟩ := Dp.readsAll I ds _ _ h2 r2
        exact ⟨_, ReadsAll.cons q1 q2⟩
end
end
section
variable {X : Cx}
noncomputable def rEqD (K : PySem.W.Frag) : R2 := fun x y H Q => ∃ d e, Dp K H x d ∧ Dp K H y e ∧ SeqAt.shaped d = true ∧ SeqAt.shaped e = true ∧ Q (.bl (PyData.eqv d e)) H
noncomputable def rNeD (K : PySem.W.Frag) : R2 := fun x y H Q => ∃ d e, Dp K H x d ∧ Dp K H y e ∧ SeqAt.shaped d = true ∧ SeqAt.shaped e = true ∧ Q (.bl (!PyData.eqv d e)) H
theorem op_eqD (hu : X.A.units + 64 < cLine) : OpR X (compareOp .Eq) (rEqD X.K) := by
  intro pins s σ H x y v u Q I rx ry h
  obtain ⟨d, e, hd, he, sd, se, q⟩ := h
  obtain ⟨as, r1⟩ := Dp.reads I d x v hd rx
  obtain ⟨bs, r2⟩ := Dp.reads I e y u he ry
  exact SeqAt.compareEq_shaped r1 r2 sd se hu ⟨.bl _, H, I, rfl, q⟩
theorem op_neD (hu : X.A.units + 64 < cLine) : OpR X (compareOp .NotEq) (rNeD X.K) := by
  intro pins s σ H x y v u Q I rx ry h
  obtain ⟨d, e, hd, he, sd, se, q⟩ := h
  obtain ⟨as, r1⟩ := Dp.reads I d x v hd rx
  obtain ⟨bs, r2⟩ := Dp.reads I e y u he ry
  exact SeqAt.compareNe_shaped r1 r2 sd se hu ⟨.bl _, H, I, rfl, q⟩
end
end L2
namespace L2
open PySem PySem.Spec PyProof.Rows
noncomputable abbrev CellAt (h : Heap) (c : Addr) (v : Option Value) : Prop := h.IsCell c v
noncomputable def relS (scope sc : Scope) : Scope :=
  { scope with names := scope.names.map fun (n, k) => if (k == .free && sc.kind == .function && sc.names.lookup n == some .cell) then (n, .cell) else (n, k) }
noncomputable def cloFrom (cells : List (Str × Addr)) : List (Str × NameKind) → List (Str × Addr) → List (Str × Addr)
  | [], acc => acc
  | (n, k) :: r, acc => if k == .free then cloFrom cells r ((n, (cells.lookup n).getD 0) :: acc) else cloFrom cells r acc
theorem closure_loop (env : Env) (f : Str × NameKind → List (Str × Addr) → Sem (ForInStep (List (Str × Addr))))
    (hf : ∀ n k c, f (n, k) c = if k == .free then (do let a ← cellOf env n; pure (.yield ((n, a) :: c))) else pure (.yield c)) :
    ∀ (names : List (Str × NameKind)) (acc : List (Str × Addr)), (∀ y ∈ names, y.2 = .free → ∃ c, env.cells.lookup y.1 = some c) → forIn names acc f = pure (cloFrom env.cells names acc)
  | [], acc, _ => by rw [List.forIn_nil]; rfl
  | (n, k) :: r, acc, h => by
    rw [List.forIn_cons, hf]
    have ih := fun acc => closure_loop env f hf r acc fun y hy => h y (List.mem_cons_of_mem _ hy)
    unfold cloFrom
    by_cases hk : (k == NameKind.free) = true
    · rw [if_pos hk, if_pos hk]
      obtain ⟨c, hc⟩ := h (n, k) List.mem_cons_self (by simpa using hk)
      have e : cellOf env n = pure c := by unfold cellOf; rw [hc]
      rw [e]
      have e2 : (env.cells.lookup n).getD 0 = c := by rw [hc]; rfl
      rw [e2]
      exact ih _
    · rw [if_neg hk, if_neg hk]
      exact ih _
theorem closure_ok {scope : Scope} {env : Env} (h : ∀ y ∈ scope.names, y.2 = .free → ∃ c, env.cells.lookup y.1 = some c) : closureFor scope env = pure (cloFrom env.cells scope.names []) := by
  simp only [closureFor]
  rw [closure_loop env _ (fun n k c => rfl) scope.names [] h]
  rfl
theorem mem_lookup {α : Type} : ∀ {l : List (Str × α)} {n : Str} {c : α}, (n, c) ∈ l → ∃ c', l.lookup n = some c'
  | (k, v) :: r, n, c, h => by
    rw [List.lookup_cons]
    cases hb : n == k with
    | true => exact ⟨_, rfl⟩
    | false =>
      rcases List.mem_cons.mp h with e | h
      · cases e; simp at hb
      · exact mem_lookup h
theorem cloFrom_mem {cells : List (Str × Addr)} : ∀ {names : List (Str × NameKind)} {acc : List (Str × Addr)} {n : Str} {c : Addr}, (n, c) ∈ cloFrom cells names acc → (n, c) ∈ acc ∨ ((n, .free) ∈ names ∧ c = (cells.lookup n).getD 0)
  | [], _, _, _, h => .inl h
  | (m, k) :: r, acc, n, c, h => by
    unfold cloFrom at h
    split at h
    · rename_i hk
      have hk : k = .free := by simpa using hk
      rcases cloFrom_mem h with h | ⟨h1, h2⟩
      · rcases List.mem_cons.mp h with e | h
        · cases e; exact .inr ⟨hk ▸ List.mem_cons_self, rfl⟩
        · exact .inl h
      · exact .inr ⟨List.mem_cons_of_mem _ h1, h2⟩
    · rcases cloFrom_mem h with h | ⟨h1, h2⟩
      · exact .inl h
      · exact .inr ⟨List.mem_cons_of_mem _ h1, h2⟩
theorem cloFrom_acc {cells : List (Str × Addr)} : ∀ {names : List (Str × NameKind)} {acc : List (Str × Addr)} {p : Str × Addr}, p ∈ acc → p ∈ cloFrom cells names acc
  | [], _, _, h => h
  | (m, k) :: r, acc, p, h => by
    unfold cloFrom
    split
    · exact cloFrom_acc (List.mem_cons_of_mem _ h)
    · exact cloFrom_acc h
theorem cloFrom_has {cells : List (Str × Addr)} : ∀ {names : List (Str × NameKind)} {acc : List (Str × Addr)} {n : Str}, (n, .free) ∈ names → (n, (cells.lookup n).getD 0) ∈ cloFrom cells names acc
  | (m, k) :: r, acc, n, h => by
    unfold cloFrom
    rcases List.mem_cons.mp h with e | h
    · cases e
      exact cloFrom_acc List.mem_cons_self
    · split
      · exact cloFrom_has h
      · exact cloFrom_has h
theorem cells_mem : ∀ {names : List (Str × NameKind)} {h : Heap} {acc : List (Str × Addr)} {x : Str} {c : Addr}, (x, c) ∈ cellsFrom h.objs.size names acc →
    (x, c) ∈ acc ∨ ((x, .cell) ∈ names ∧ h.objs.size ≤ c ∧ CellAt (pushCells h names) c none)
  | [], _, _, _, _, h => .inl h
  | (n, k) :: r, h, acc, x, c, hm => by
    unfold cellsFrom at hm
    unfold pushCells
    split at hm
    · rename_i hk
      rw [if_pos hk]
      have hk : k = .cell := by simpa using hk
      rw [← Heap.size_push h { cls := .type "cell", data := .cell none }] at hm
      rcases cells_mem hm with hm | ⟨h1, h2, h3⟩
      · rcases List.mem_cons.mp hm with e | hm
        · cases e
          exact .inr ⟨hk ▸ List.mem_cons_self, Nat.le_refl _, _, pushCells_keeps r _ _ _ (Heap.get?_push_size _ rfl), rfl⟩
        · exact .inl hm
      · rw [Heap.size_push] at h2
        exact .inr ⟨List.mem_cons_of_mem _ h1, Nat.le_of_succ_le h2, h3⟩
    · rename_i hk
      rw [if_neg hk]
      rcases cells_mem hm with hm | ⟨h1, h2, h3⟩
      · exact .inl hm
      · exact .inr ⟨List.mem_cons_of_mem _ h1, h2, h3⟩
theorem cells_acc : ∀ {names : List (Str × NameKind)} {n : Nat} {acc : List (Str × Addr)} {p : Str × Addr}, p ∈ acc → p ∈ cellsFrom n names acc
  | [], _, _, _, h => h
  | (m, k) :: r, n, acc, p, h => by
    unfold cellsFrom
    split
    · exact cells_acc (List.mem_cons_of_mem _ h)
    · exact cells_acc h
theorem cells_has : ∀ {names : List (Str × NameKind)} {n : Nat} {acc : List (Str × Addr)} {x : Str}, (x, .cell) ∈ names → ∃ c, (x, c) ∈ cellsFrom n names acc
  | (m, k) :: r, n, acc, x, h => by
    unfold cellsFrom
    rcases List.mem_cons.mp h with e | h
    · cases e
      exact ⟨n, cells_acc List.mem_cons_self⟩
    · split
      · exact cells_has h
      · exact cells_has h
theorem cells_inj : ∀ {names : List (Str × NameKind)} {h : Heap} {acc : List (Str × Addr)} {x y : Str} {c : Addr}, (∀ p ∈ acc, p.2 < h.objs.size) → (∀ x y c, (x, c) ∈ acc → (y, c) ∈ acc → x = y) →
    (x, c) ∈ cellsFrom h.objs.size names acc → (y, c) ∈ cellsFrom h.objs.size names acc → x = y
  | [], _, _, _, _, _, _, hi, h1, h2 => hi _ _ _ h1 h2
  | (n, k) :: r, h, acc, x, y, c, hl, hi, h1, h2 => by
    unfold cellsFrom at h1 h2
    split at h1
    · rename_i hk
      rw [if_pos hk] at h2
      rw [← Heap.size_push h { cls := .type "cell", data := .cell none }] at h1 h2
      refine cells_inj (h := h.push _) (fun p hp => ?_) (fun x y c a b => ?_) h1 h2
      · rw [Heap.size_push]
        rcases List.mem_cons.mp hp with rfl | hp
        · exact Nat.lt_succ_self _
        · exact Nat.lt_succ_of_lt (hl p hp)
      · rcases List.mem_cons.mp a with e | a <;> rcases List.mem_cons.mp b with e' | b
        · cases e; cases e'; rfl
        · cases e; exact absurd (hl _ b) (Nat.lt_irrefl _)
        · cases e'; exact absurd (hl _ a) (Nat.lt_irrefl _)
        · exact hi _ _ _ a b
    · rename_i hk
      rw [if_neg hk] at h2
      exact cells_inj hl hi h1 h2
theorem newEnv_comp {M : Model} {A : Around} {E : Value → Shared → Prop} {s : Shared} {scope : Scope} {globals : Addr} {closure : List (Str × Addr)} {qual : Str} {func : Option Addr} {code : Value} {around : Env} {builtins : Addr} {Q : Env → Shared → Prop}
    (h : Q (newEnv scope s.heap.objs.size globals (cellsFrom (s.heap.objs.size + 1) scope.names closure) qual func code (some around) builtins)
      { s with heap := pushCells (s.heap.push { cls := .type "dict", data := .dict #[] }) scope.names }) :
    wpAny M A (newFunctionEnv scope globals closure [] qual func code (some around) builtins) Q E s := by
  simp only [newFunctionEnv, Option.isSome_some, if_true]
  refine wpAny_bind (wpAny_alloc ?_)
  refine wpAny_bind (wpAny_layCells _ (fun n k c => rfl) scope.names closure _ _ ?_)
  rw [show ({ s with heap := s.heap.push { cls := .type "dict", data := .dict #[] } } : Shared).heap.objs.size = s.heap.objs.size + 1 from Heap.size_push ..]
  rw [List.forIn_nil]
  exact wpAny_bind (wpAny_pure (wpAny_pure h))
theorem lookup_relS {sc : Scope} : ∀ {names : List (Str × NameKind)} {x : Str} {k : NameKind},
    (names.map fun (n, k) => if (k == NameKind.free && sc.kind == .function && sc.names.lookup n == some .cell) then (n, NameKind.cell) else (n, k)).lookup x = some k →
    ∃ k', names.lookup x = some k' ∧ (k = k' ∨ (k' = .free ∧ k = .cell))
  | [], _, _, h => by simp at h
  | (n, k₀) :: r, x, k, h => by
    have ih := @lookup_relS sc r x k
    have h' : List.lookup x ((if (k₀ == NameKind.free && sc.kind == .function && sc.names.lookup n == some .cell) = true then (n, NameKind.cell) else (n, k₀)) :: (r.map _)) = some k := h
    cases hx : x == n with
    | true =>
      simp only [List.lookup_cons, hx]
      by_cases hc : (k₀ == NameKind.free && sc.kind == .function && sc.names.lookup n == some .cell) = true
      · rw [if_pos hc] at h'
        simp only [List.lookup_cons, hx] at h'
        cases h'
        simp only [Bool.and_eq_true, beq_iff_eq] at hc
        exact ⟨k₀, rfl, .inr ⟨hc.1.1, rfl⟩⟩
      · rw [if_neg hc] at h'
        simp only [List.lookup_cons, hx] at h'
        cases h'
        exact ⟨_, rfl, .inl rfl⟩
    | false =>
      simp only [List.lookup_cons, hx]
      by_cases hc : (k₀ == NameKind.free && sc.kind == .function && sc.names.lookup n == some .cell) = true
      · rw [if_pos hc] at h'
        simp only [List.lookup_cons, hx] at h'
        exact ih h'
      · rw [if_neg hc] at h'
        simp only [List.lookup_cons, hx] at h'
        exact ih h'
structure BlkOk (N : List Str) (sc scope : Scope) (own : List (Str × Nat)) : Prop where
  kind : scope.kind = .function
  uniq : ∀ y ∈ scope.names, scope.names.lookup y.1 = some y.2
  ix : ∀ p ∈ own, N[p.2]? = some p.1
  free : ∀ y ∈ scope.names, y.2 = .free → sc.names.lookup y.1 = some .cell ∨ sc.names.lookup y.1 = some .free
  own : ∀ y ∈ scope.names, y.2 = .local ∨ y.2 = .cell → y.1 ∈ own.map (·.1) ∨ y.1 ∉ N
noncomputable def wipe (σ : St) : List Nat → St
  | [] => σ
  | v :: vs => (wipe σ vs).set v none
theorem wipe_length (σ : St) : ∀ vs : List Nat, (wipe σ vs).length = σ.length
  | [] => rfl
  | v :: vs => by unfold wipe; rw [List.length_set, wipe_length σ vs]
theorem wipe_some {σ : St} {i : Nat} {x : V} : ∀ {vs : List Nat}, (wipe σ vs)[i]? = some (some x) → σ[i]? = some (some x) ∧ i ∉ vs
  | [], h => ⟨h, by simp⟩
  | v :: vs, h => by
    unfold wipe at h
    by_cases hi : v = i
    · subst hi
      by_cases hv : v < (wipe σ vs).length
      · rw [List.getElem?_set_self hv] at h; cases h
      · rw [List.getElem?_eq_none (by simpa using hv)] at h; cases h
    · rw [List.getElem?_set_ne hi] at h
      obtain ⟨h1, h2⟩ := wipe_some h
      exact ⟨h1, by simp only [List.mem_cons, not_or]; exact ⟨fun e => hi e.symm, h2⟩⟩
noncomputable abbrev Cx.blk (X : Cx) (s : Shared) (H : Hp) (scope : Scope) (cenv : Env) (fp : List Addr) : Cx := { X with s_0 := s, H_0 := H, env := cenv, outer := X.stack, ex := fp, fn := fun x => scope.names.lookup x == some .cell, pn := [], xe := fun _ _ => False }
section
variable {X : Cx} {pins : List (Addr × Obj)} {σ : St} {H : Hp} {s : Shared}
theorem block_start {scope : Scope} {own : List (Str × Nat)} {fp : List Addr} (I : Inv X pins σ H s) (ok : BlkOk X.N X.env.scope scope own) (hN : X.N.Nodup) (hfp : ∀ b ∈ fp, FpOk X pins H b ∧ b < s.heap.objs.size) :
    Inv (X.blk s H scope (compEnvC scope (cellsFrom (s.heap.objs.size + 1) scope.names (cloFrom X.env.cells scope.names [])) s.heap.objs.size X.env) fp) [] (wipe σ (own.map (·.2))) H { s with heap := pushCells (s.heap.push { cls := .type "dict", data := .dict #[] }) scope.names } := by
  have hfree : ∀ y ∈ scope.names, y.2 = .free → ∃ c, X.env.cells.lookup y.1 = some c := fun y hy e => by
    rcases ok.free y hy e with k | k
    · exact I.ok.has _ (.inl k)
    · exact I.ok.has _ (.inr k)
  generalize hcenv : compEnvC scope (cellsFrom (s.heap.objs.size + 1) scope.names (cloFrom X.env.cells scope.names [])) s.heap.objs.size X.env = cenv
  have kp : ∀ b o, s.heap.get? b = some o → (pushCells (s.heap.push { cls := .type "dict", data := .dict #[] }) scope.names).get? b = some o := fun b o e => pushCells_keeps _ _ _ _ (Heap.get?_push_of_some _ e)
  have hL : cenv.locals = s.heap.objs.size := by rw [← hcenv]; rfl
  have hcl : cenv.cells = cellsFrom (s.heap.objs.size + 1) scope.names (cloFrom X.env.cells scope.names []) := by rw [← hcenv]; rfl
  have hsc : cenv.scope = relS scope X.env.scope := by rw [← hcenv]; rfl
  rw [← Heap.size_push s.heap { cls := .type "dict", data := .dict #[] }] at hcl
  have cm : ∀ {y c}, (y, c) ∈ cloFrom X.env.cells scope.names [] → X.env.cells.lookup y = some c ∧ c < s.heap.objs.size := fun {y c} hm => by
    rcases cloFrom_mem hm with hm | ⟨h1, rfl⟩
    · cases hm
    · obtain ⟨c, hc⟩ := hfree _ h1 rfl
      rw [hc]
      obtain ⟨w, z⟩ := I.cell _ _ hc
      exact ⟨rfl, z.lt⟩
  have mem : ∀ {y c}, cenv.cells.lookup y = some c → (X.env.cells.lookup y = some c ∧ c < s.heap.objs.size) ∨ (s.heap.objs.size + 1 ≤ c ∧ CellAt (pushCells (s.heap.push { cls := .type "dict", data := .dict #[] }) scope.names) c none) := fun {y c} e => by
    rw [hcl] at e
    rcases cells_mem (PySem.mem_of_lookup e) with hm | ⟨_, h2, h3⟩
    · exact .inl (cm hm)
    · rw [Heap.size_push] at h2; exact .inr ⟨h2, h3⟩
  have look : ∀ {y}, scope.names.lookup y = some .free → ∃ c, cenv.cells.lookup y = some c ∧ X.env.cells.lookup y = some c := fun {y} hl => by
    have hy : (y, NameKind.free) ∈ scope.names := PySem.mem_of_lookup hl
    obtain ⟨c', e'⟩ := mem_lookup (cells_acc (names := scope.names) (n := (s.heap.push { cls := .type "dict", data := .dict #[] }).objs.size) (cloFrom_has (cells := X.env.cells) (acc := []) hy))
    rw [← hcl] at e'
    refine ⟨c', e', ?_⟩
    rw [hcl] at e'
    rcases cells_mem (PySem.mem_of_lookup e') with hm | ⟨h1, _, _⟩
    · exact (cm hm).1
    · have := ok.uniq _ h1
      rw [hl] at this; cases this
  have okB : (X.blk s H scope cenv fp).Ok := by
    refine ⟨I.ok.mod, by show cenv.scope.kind = _; rw [hsc]; exact ok.kind, by show cenv.globals = _; rw [← hcenv]; exact I.ok.glob, by show cenv.builtins = _; rw [← hcenv]; exact I.ok.blt, by show s.heap.objs.size ≤ cenv.locals; rw [hL]; exact Nat.le_refl _,
      fun y z c e1 e2 => ?_, fun y hy => ?_, fun y c z e => ?_, I.ok.hd, I.ok.frames, .inl rfl, fun b hb => ⟨?_, fun y c e z => ?_⟩, I.bs, Nat.le_trans I.ok.bsz I.sz, fun b o e hb => ?_, fun b hb z => ?_, I.stack, I.stkFree⟩
    · have e1 : cenv.cells.lookup y = some c := e1
      have e2 : cenv.cells.lookup z = some c := e2
      rw [hcl] at e1 e2
      refine cells_inj (fun p hp => ?_) (fun y z c a b => I.ok.inj y z c (cm a).1 (cm b).1) (PySem.mem_of_lookup e1) (PySem.mem_of_lookup e2)
      rw [Heap.size_push]
      exact Nat.lt_succ_of_lt (cm (y := p.1) (c := p.2) hp).2
    · show ∃ c, cenv.cells.lookup y = some c
      have key : ∀ k, cenv.kindOf y = some k → (k = .cell ∨ k = .free) → ∃ c, cenv.cells.lookup y = some c := fun k hk hk' => by
        unfold Env.kindOf at hk
        rw [hsc] at hk
        obtain ⟨k', e, r⟩ := lookup_relS hk
        have : k' = .cell ∨ k' = .free := by
          rcases r with rfl | ⟨rfl, _⟩
          · exact hk'
          · exact .inr rfl
        rcases this with rfl | rfl
        · obtain ⟨c, hm⟩ := cells_has (n := (s.heap.push { cls := .type "dict", data := .dict #[] }).objs.size) (acc := cloFrom X.env.cells scope.names []) (PySem.mem_of_lookup e)
          obtain ⟨c', e'⟩ := mem_lookup hm
          exact ⟨c', by rw [hcl]; exact e'⟩
        · obtain ⟨c, h1, _⟩ := look e
          exact ⟨c, h1⟩
      rcases hy with hy | hy
      · exact key _ hy (.inl rfl)
      · exact key _ hy (.inr rfl)
    · have z : (scope.names.lookup y == some NameKind.cell) = true := z
      have z : scope.names.lookup y = some .cell := by simpa using z
      have e : cenv.cells.lookup y = some c := e
      rw [hcl] at e
      rcases cells_mem (PySem.mem_of_lookup e) with hm | ⟨_, h2, _⟩
      · rcases cloFrom_mem hm with hm | ⟨h1, _⟩
        · cases hm
        · have q := ok.uniq _ h1
          rw [z] at q; cases q
      · rw [Heap.size_push] at h2
        exact Nat.le_of_succ_le h2
    · show b ≠ cenv.locals
      rw [hL]; exact Nat.ne_of_lt (hfp b hb).2
    · have e : cenv.cells.lookup y = some c := e
      rcases mem e with ⟨h1, _⟩ | ⟨h1, _⟩
      · exact (hfp b hb).1.2.2.2.2.1 y c h1 z
      · have h2 : s.heap.objs.size + 1 ≤ b := by rw [← z]; exact h1
        exact absurd (Nat.lt_of_lt_of_le (hfp b hb).2 (Nat.le_of_succ_le h2)) (Nat.lt_irrefl _)
    · rcases (hfp b hb).1.2.2.2.1 with z | z
      · exact I.ok.noex b o e z
      · exact absurd (Nat.lt_of_lt_of_le (Heap.lt_size e) (Nat.le_trans I.ok.bsz z)) (Nat.lt_irrefl _)
    · rcases List.mem_cons.mp (I.stkSub b z) with z | z
      · exact (hfp b hb).1.2.1 z
      · exact (hfp b hb).1.2.2.1 z
  refine ⟨okB, rfl, I.bare, Un.kept kp, ⟨fun _ => none, ?_, fun i y av e1 e2 e3 => ?_⟩, fun y c e => ?_, ?_, fun y c e => ?_, fun p hp => ?_, I.hok.kept kp, by rw [wipe_length]; exact I.len⟩
  · show Heap.Ns _ cenv.locals _
    rw [hL]
    exact Heap.Ns.keeps (Heap.Ns.new ..) fun b o e => pushCells_keeps _ _ _ _ e
  · obtain ⟨e2, hne⟩ := wipe_some e2
    have hfr : scope.names.lookup y = some .free ∧ (cenv.kindOf y = some .cell ∨ cenv.kindOf y = some .free) := by
      have key : ∀ k, cenv.scope.names.lookup y = some k → k = .local ∨ k = .cell ∨ k = .free → scope.names.lookup y = some .free ∧ (cenv.kindOf y = some .cell ∨ cenv.kindOf y = some .free) := fun k hk hk' => by
        have hk0 := hk
        rw [hsc] at hk
        obtain ⟨k', e, r⟩ := lookup_relS hk
        have no : ¬ (k' = .local ∨ k' = .cell) := fun hh => by
          rcases ok.own _ (PySem.mem_of_lookup e) hh with e' | e'
          · obtain ⟨p, hp, hpy⟩ := List.mem_map.mp e'
            have e3 := ok.ix p hp
            have : p.1 = y := hpy
            rw [this] at e3
            exact hne (List.mem_map.mpr ⟨p, hp, nodup_ix hN e3 e1⟩)
          · exact e' (List.mem_of_getElem? e1)
        rcases r with rfl | ⟨rfl, rfl⟩
        · rcases hk' with rfl | rfl | rfl
          · exact absurd (.inl rfl) no
          · exact absurd (.inr rfl) no
          · exact ⟨e, .inr hk0⟩
        · exact ⟨e, .inl hk0⟩
      have e3 : Vis cenv.scope y := e3
      rcases e3 with e3 | e3 | e3
      · exact key _ e3 (.inl rfl)
      · exact key _ e3 (.inr (.inl rfl))
      · exact key _ e3 (.inr (.inr rfl))
    obtain ⟨m, hn, hl⟩ := I.loc
    have hvis : Vis X.env.scope y := (ok.free _ (PySem.mem_of_lookup hfr.1) rfl).elim (fun k => .inr (.inl k)) (fun k => .inr (.inr k))
    obtain ⟨w, r, q⟩ := hl i y av e1 e2 hvis
    refine ⟨w, r, .inr ⟨hfr.2, ?_⟩⟩
    obtain ⟨c, h1, h2⟩ := look hfr.1
    rcases q with ⟨k, _⟩ | ⟨_, c', e', z⟩
    · have k : X.env.scope.names.lookup y = some .local := k
      rcases ok.free _ (PySem.mem_of_lookup hfr.1) rfl with k' | k' <;> rw [show X.env.scope.names.lookup y = _ from k'] at k <;> cases k
    · rw [h2] at e'; cases e'
      exact ⟨c, h1, z.keeps kp⟩
  · have e : cenv.cells.lookup y = some c := e
    rcases mem e with ⟨h1, _⟩ | ⟨_, z⟩
    · obtain ⟨w, z⟩ := I.cell y c h1
      exact ⟨w, z.keeps kp⟩
    · exact ⟨_, z⟩
  · show H cenv.locals = none
    rw [hL]; exact I.hok.fresh (Nat.le_refl _)
  · have e : cenv.cells.lookup y = some c := e
    rcases mem e with ⟨h1, _⟩ | ⟨h1, _⟩
    · exact I.freeC y c h1
    · exact I.hok.fresh (Nat.le_of_succ_le h1)
  · exact absurd (show p ∈ ([] : List (Addr × Obj)) ++ [] from hp) (by simp)
theorem app_ok {E : Value → Shared → Prop} {D : Addr} {xs : List V} {y : V} {v : Value} {Q : Value → Shared → Prop} (I : Inv X pins σ H s) (hD : H D = some (.lst xs)) (hz : xs.length < sizeLine) (r : RelV y v)
    (h : ∀ s', Inv X pins σ (upd H D (.lst (xs ++ [y]))) s' → Q .none s') : wpAny (model X.prog X.w) X.A (call (.builtin "list.append") [.ref D, v]) Q E s := by
  obtain ⟨hz', its, n, ri, e⟩ := I.hok D _ hD
  have hl := ri.length
  refine append_at (hsz := by rw [List.size_toArray]; omega) e fun h' sb ho' => ?_
  refine h { s with heap := h' } (I.write (t' := s.toks) (by rw [hD]; trivial) (.inl rfl) (fun b u hb q => (sb.2 b hb).trans q) ⟨_, ho'⟩ ⟨by rw [List.length_append]; exact hz, its ++ [v], n + 1, ri.append (.cons r .nil), ?_⟩)
  rw [ho']
  simp
noncomputable def PTs (X : Cx) (ifs : List Expr) (t : TT) : Prop :=
  ∀ (pins : List (Addr × Obj)) (s : Shared) (σ : St) (H : Hp) (Q : Bool → Hp → Prop), Inv X pins σ H s → t σ H Q →
    wpAny (model X.prog X.w) X.A (forIn ifs true fun c r => if r = true then do let ok ← isTrue c X.env (eval c X.env); pure (ForInStep.yield ok) else pure (ForInStep.yield r)) (TP X pins σ Q) X.xe s
noncomputable def tYes : TT := fun _ H Q => Q true H
theorem pts_nil : PTs X [] tYes := fun _ _ _ H _ I h => wpAny_tests_nil ⟨H, I, h⟩
theorem pts_one {c : Expr} {t : TT} (h : PT X c t) : PTs X [c] t := fun pins s σ H Q I hw => wpAny_tests_one (h pins s σ H Q I hw)
end
theorem thnF {α : Type} {t : Sem α} {Q Q' : α → Shared → Prop} {M : Model} {A : Around} {E : Value → Shared → Prop} {s : Shared} (h : wpAny M A t Q (fun _ _ => False) s) (hQ : ∀ a s, Q a s → Q' a s) : wpAny M A t Q' E s := wpAny_mono h hQ fun _ _ z => False.elim z
theorem compLoop_any {prog : Program} {w : World} {A : Around} {R : Result → Shared → Prop} {s : Shared} {elt target iter : Expr} {ifs : List Expr} {scope : Scope} {pos : Pos} {it acc : Value} {env : Env} (I : Nat → Shared → Prop)
    (turn : ∀ n s, I n s → wpAny (model prog w) A (pyNext it) (fun r s₁ => match r with
      | none => R (.ok .next) s₁
      | some v => wpAny (model prog w) A (letOwnedTupleGo target it v) (fun _ s₁' => wpAny (model prog w) A (assign target env v) (fun _ s₂ =>
          wpAny (model prog w) A (forIn ifs true fun c r => if r = true then do let ok ← isTrue c env (eval c env); pure (ForInStep.yield ok) else pure (ForInStep.yield r)) (fun ok s₃ =>
            if ok = true then wpAny (model prog w) A (eval elt env) (fun x s₄ =>
              wpAny (model prog w) A (call (.builtin "list.append") [acc, x]) (fun _ s₅ => ∃ m, m < n ∧ I m s₅) (notedBy (model prog w) A env fun e s' => R (.error e) s') s₄) (notedBy (model prog w) A env fun e s' => R (.error e) s') s₃
            else ∃ m, m < n ∧ I m s₃) (notedBy (model prog w) A env fun e s' => R (.error e) s') s₂) (notedBy (model prog w) A env fun e s' => R (.error e) s') s₁') (notedBy (model prog w) A env fun e s' => R (.error e) s') s₁) (notedBy (model prog w) A env fun e s' => R (.error e) s') s)
    (n : Nat) (h : I n s) :
    codeAny (model prog w) A (.compLoop (.ListComp elt [⟨target, iter, ifs, 0⟩] scope pos) 0 it acc env) R s := by
  refine codeAny_loop rfl I (fun n s hI => ?_) n h
  show wpAny _ A ((compTurn (.ListComp elt [⟨target, iter, ifs, 0⟩] scope pos) 0 it acc env).onRaise (fun x => do noteFrame x env; theTreesLotGoes x)) _ _ s
  refine wpAny_noted ?_
  rw [compTurn_list]
  refine wpAny_bind (wpAny_standAt (wpAny_bind (wpAny_mono (turn n s hI) (fun r s₁ h₁ => ?_) fun _ _ h' => h')))
  cases r with
  | none => exact wpAny_pure h₁
  | some v =>
    refine wpAny_bind (wpAny_mono h₁ (fun _ s₁' h₁' => ?_) fun _ _ h' => h')
    refine wpAny_bind (wpAny_mono h₁' (fun _ s₂ h₂ => wpAny_bind (wpAny_mono h₂ (fun ok s₃ h₃ => ?_) fun _ _ h' => h')) fun _ _ h' => h')
    cases ok with
    | false => exact wpAny_pure ⟨rfl, h₃⟩
    | true =>
      exact wpAny_bind (wpAny_bind (wpAny_mono h₃ (fun x s₄ h₄ => wpAny_bind (wpAny_mono h₄ (fun _ s₅ h₅ => wpAny_pure (wpAny_pure ⟨rfl, h₅⟩)) fun _ _ h' => h')) fun _ _ h' => h'))
section
variable {X : Cx}
noncomputable def tLc (wi : TI) (g : TG) (tt : TT) (te : TE) (vs : List Nat) : TE := fun σ H Q => wi σ H fun J H1 => ∀ D, H1 D = none → ∃ W : Nat → Nat → Hp → Prop, (∃ m, W 0 m (upd H1 D (.lst []))) ∧ ∀ i m H, W i m H →
  (J.stop i H ∧ Q (.ref D) H) ∨ (J.go i H ∧ ∃ Nx : Hp → Prop, (∀ H', Nx H' → ∃ m', m' < m ∧ W (i + 1) m' H') ∧ ∀ x H', J.yld i H x H' → g x (wipe σ vs) H' fun σ2 H2 => wipe σ2 vs = wipe σ vs ∧ tt σ2 H2 fun b H3 =>
    if b = true then te σ2 H3 fun y H4 => ∃ acc, H4 D = some (.lst acc) ∧ acc.length < sizeLine ∧ Nx (upd H4 D (.lst (acc ++ [y]))) else Nx H3)
theorem lc_core {pins : List (Addr × Obj)} {s : Shared} {σ : St} {H : Hp} {Q : VK} {elt tg iter : Expr} {ifs : List Expr} {scope : Scope} {own : List (Str × Nat)} {pos pos' : Pos} {wi : TI} {g : TG} {tt : TT} {te : TE} {use : Option (Value → Sem Unit)} {Qf : Value → Shared → Prop}
    (hc : X.calm = true) (hN : X.N.Nodup) (I : Inv X pins σ H s) (hi : PI X tg iter wi) (ok : BlkOk X.N X.env.scope scope own)
    (hg : ∀ (s : Shared) (H : Hp) (C : Addr) (cl : List (Str × Addr)) (fp : List Addr), PG (X.blk s H scope (compEnvC scope cl C X.env) fp) tg g) (ht : ∀ (s : Shared) (H : Hp) (C : Addr) (cl : List (Str × Addr)) (fp : List Addr), PTs (X.blk s H scope (compEnvC scope cl C X.env) fp) ifs tt)
    (he : ∀ (s : Shared) (H : Hp) (C : Addr) (cl : List (Str × Addr)) (fp : List Addr), PE (X.blk s H scope (compEnvC scope cl C X.env) fp) elt te) (hs : ∀ x, foldedSetIterable iter X.env x = pure x)
    (h : tLc wi g tt te (own.map (·.2)) σ H Q)
    (hRR : ∀ D C s' m H', Inv X pins σ H' s' → Q (.ref D) H' → s'.heap.Ns C m → FpOk X pins H' C → compPost (model X.prog X.w) X.A X.xe use Qf (.ref D) C (.ok .next) s') :
    wpAny (model X.prog X.w) X.A (comprehension (.ListComp elt [⟨tg, iter, ifs, 0⟩] scope pos) scope X.env pos' (newList []) false (eval iter X.env) use) Qf X.xe s := by
  have hfree : ∀ y ∈ scope.names, y.2 = .free → ∃ c, X.env.cells.lookup y.1 = some c := fun y hy e => by
    rcases ok.free y hy e with k | k
    · exact I.ok.has _ (.inl k)
    · exact I.ok.has _ (.inr k)
  refine wpAny_comprehension_free (use := use) rfl hs (closure_ok hfree) ok.kind (fun y hy e => by rw [ok.uniq y hy, e])
    (thn (hi pins s σ H _ I h) fun xv s1 hx => thn hx fun itv s2 h2 => ?_)
  obtain ⟨it, fp, tn, J, H2, e, I2, T, st2, f2, q⟩ := h2
  subst e
  refine wpAny_newObj_type (newEnv_comp ?_) (by show 0 ≤ sizeLine; decide)
  generalize hD : s2.heap.objs.size = D
  have hDn : H2 D = none := I2.hok.fresh (Nat.le_of_eq hD)
  obtain ⟨W, ⟨m0, w0⟩, turn⟩ := q D hDn
  generalize hs3 : ({ s2 with heap := s2.heap.push { cls := .type "list", data := .seq ([] : List Value).toArray } } : Shared) = s3
  have I3 : Inv X pins σ (upd H2 D (.lst [])) s3 := by
    rw [← hs3]
    refine I2.laid (t' := s2.toks) (fun b o e => Heap.get?_push_of_some _ e) (Nat.le_of_eq hD) ⟨Nat.zero_le _, [], 0, .nil, ?_⟩
    rw [← hD]
    exact Heap.get?_push_size _ rfl
  have h3 : s3.heap = s2.heap.push { cls := .type "list", data := .seq ([] : List Value).toArray } := by rw [← hs3]
  have sz : ∀ b ∈ fp, b < s2.heap.objs.size := fun b hb => by
    obtain ⟨o, e, _⟩ := T.obj _ _ st2 b hb
    exact Heap.lt_size e
  have f3 : ∀ b ∈ fp, FpOk X pins (upd H2 D (.lst [])) b ∧ b < s3.heap.objs.size := fun b hb => by
    have hlt := sz b hb
    refine ⟨⟨?_, (f2 b hb).2⟩, by rw [h3, Heap.size_push]; exact Nat.lt_succ_of_lt hlt⟩
    rw [upd_ne (by rw [← hD]; exact Nat.ne_of_lt hlt)]
    exact (f2 b hb).1
  have st3 : tn 0 s3.heap := T.keep _ _ _ st2 fun b _ o e => by rw [h3]; exact Heap.get?_push_of_some _ e
  have I4 := block_start I3 ok hN f3
  have pg := hg s3 (upd H2 D (.lst [])) s3.heap.objs.size (cellsFrom (s3.heap.objs.size + 1) scope.names (cloFrom X.env.cells scope.names [])) fp
  have pt := ht s3 (upd H2 D (.lst [])) s3.heap.objs.size (cellsFrom (s3.heap.objs.size + 1) scope.names (cloFrom X.env.cells scope.names [])) fp
  have pe := he s3 (upd H2 D (.lst [])) s3.heap.objs.size (cellsFrom (s3.heap.objs.size + 1) scope.names (cloFrom X.env.cells scope.names [])) fp
  show codeAny _ _ (.compStart (.ListComp elt [⟨tg, iter, ifs, 0⟩] scope pos) 0 (.ref it) (.ref D) (compEnvC scope (cellsFrom (s3.heap.objs.size + 1) scope.names (cloFrom X.env.cells scope.names [])) s3.heap.objs.size X.env)) (compPost (model X.prog X.w) X.A X.xe use Qf (.ref D) s3.heap.objs.size) { s3 with heap := pushCells (s3.heap.push { cls := .type "dict", data := .dict #[] }) scope.names }
  have nfp : ∀ b ∈ fp, (upd H2 D (.lst [])) b = none := fun b hb => (f3 b hb).1.1
  generalize hce : compEnvC scope (cellsFrom (s3.heap.objs.size + 1) scope.names (cloFrom X.env.cells scope.names [])) s3.heap.objs.size X.env = ce at I4 pg pt pe ⊢
  have cL : ce.locals = s3.heap.objs.size := by subst hce; rfl
  generalize hH3 : upd H2 D (.lst []) = H3 at I3 I4 pg pt pe w0 nfp f3
  generalize hs4 : ({ s3 with heap := pushCells (s3.heap.push { cls := .type "dict", data := .dict #[] }) scope.names } : Shared) = s4 at I4 ⊢
  have st4 : tn 0 s4.heap := T.keep _ _ _ st3 fun b _ o e => by rw [← hs4]; exact pushCells_keeps _ _ _ _ (Heap.get?_push_of_some _ e)
  have stat : ∀ {σ' : St} {H' : Hp} {s' : Shared}, Inv (X.blk s3 H3 scope ce fp) [] σ' H' s' → (∀ b ∈ fp, H' b = none) → ∀ b ∈ fp, FpOk (X.blk s3 H3 scope ce fp) [] H' b := fun {σ' H' s'} I' hn b hb =>
    ⟨hn b hb, (I'.ok.exf b hb).1, I'.ok.exfs b hb, .inl hb, fun x c e => (I'.ok.exf b hb).2 x c e, fun p hp => absurd (show p ∈ ([] : List (Addr × Obj)) ++ [] from hp) (by simp)⟩
  have loop : codeAny (model X.prog X.w) X.A (.compLoop (.ListComp elt [⟨tg, iter, ifs, 0⟩] scope pos) 0 (.ref it) (.ref D) ce) (compPost (model X.prog X.w) X.A X.xe use Qf (.ref D) s3.heap.objs.size) s4 := by
    refine compLoop_any (fun n s' => ∃ i H', Inv (X.blk s3 H3 scope ce fp) [] (wipe σ (own.map (·.2))) H' s' ∧ tn i s'.heap ∧ (∀ b ∈ fp, H' b = none) ∧ W i n H') ?_ m0 ⟨0, H3, I4, st4, nfp, w0⟩
    rintro n s5 ⟨i, H5, I5, st5, n5, w5⟩
    rcases turn i n H5 w5 with ⟨stop, qq⟩ | ⟨go, Nx, hNx, step⟩
    · have td := T.done (X.blk s3 H3 scope ce fp) rfl rfl rfl hc i [] s5 _ H5 (fun _ _ => False) I5 (stat I5 n5) st5 stop
      refine thnF td fun r s6 hm43 => ?_
      obtain ⟨hr, I6⟩ := hm43
      subst hr
      have I7 : Inv X pins σ H5 s6 := I3.call' (ch := fp) I6.os I6.base I6.hok I6.bare fun b hb => ⟨(f3 b hb).1.2.2.2.1, (f3 b hb).1.2.1, (f3 b hb).1.2.2.2.2.1, (f3 b hb).1.2.2.2.2.2⟩
      have nC : H5 s3.heap.objs.size = none := by
        have z : H5 ce.locals = none := I6.free
        rw [cL] at z
        exact z
      obtain ⟨m, hn, _⟩ := I6.loc
      have hn : s6.heap.Ns ce.locals m := hn
      rw [cL] at hn
      exact hRR D s3.heap.objs.size s6 m H5 I7 qq hn (I3.fpOk (Nat.le_refl _) nC)
    · have ti := T.item (X.blk s3 H3 scope ce fp) rfl rfl rfl hc i [] s5 _ H5 (fun _ _ => False) I5 (stat I5 n5) st5 go
      refine thnF ti fun r s6 hm44 => ?_
      obtain ⟨u, hr, h6⟩ := hm44
      subst hr
      refine thnF h6 fun _ s7 hm45 => ?_
      obtain ⟨x, H7, I7, r7, y7, st7, n7⟩ := hm45
      have I7' := I7.pinned (stat I7 n7) (T.obj _ _ st7)
      refine thnF (pg _ s7 _ H7 x u _ I7' r7 (step x H7 y7)) fun _ s8 hm46 => ?_
      obtain ⟨σ8, H8, I8, hw8, q8⟩ := hm46
      refine thnF (pt _ s8 σ8 H8 _ I8 q8) fun b s9 hm47 => ?_
      obtain ⟨H9, I9, q9⟩ := hm47
      have fin : ∀ {s' : Shared} {H' : Hp}, Inv (X.blk s3 H3 scope ce fp) ([] ++ pinsAt fp s7.heap) σ8 H' s' → Nx H' → ∃ m, m < n ∧ ∃ i H', Inv (X.blk s3 H3 scope ce fp) [] (wipe σ (own.map (·.2))) H' s' ∧ tn i s'.heap ∧ (∀ b ∈ fp, H' b = none) ∧ W i m H' := fun {s' H'} I' nx => by
        obtain ⟨m', hm, w'⟩ := hNx H' nx
        have pin' : ∀ b ∈ fp, ∀ o, s7.heap.get? b = some o → s'.heap.get? b = some o ∧ H' b = none := fun b hb o e =>
          let z := I'.pin (b, o) (List.mem_append_right _ (List.mem_append_right _ (mem_pinsAt hb e)))
          ⟨z.1, z.2.1⟩
        have hl : (wipe σ (own.map (·.2))).length = σ8.length := by rw [← hw8, wipe_length]
        refine ⟨m', hm, i + 1, H', (I'.unpinned (pins := [])).weak hl (fun j v e => ?_), T.keep _ _ _ st7 fun b hb o e => (pin' b hb o e).1, fun b hb => ?_, w'⟩
        · rw [← hw8] at e
          exact (wipe_some e).1
        · obtain ⟨o, e, _⟩ := T.obj _ _ st7 b hb
          exact (pin' b hb o e).2
      cases b with
      | false =>
        simp only [Bool.false_eq_true, if_false] at q9 ⊢
        exact fin I9 q9
      | true =>
        simp only [if_true] at q9 ⊢
        refine thnF (pe _ s9 σ8 H9 _ I9 q9) fun z s10 hm48 => ?_
        obtain ⟨yv, H10, I10, r10, acc, hD10, hz10, nx⟩ := hm48
        exact app_ok (X := X.blk s3 H3 scope ce fp) I10 hD10 hz10 r10 fun s11 I11 => fin I11 nx
  exact codeAny_compStart_list loop (T.self X.A 0 _ _ _ st4 loop)
theorem pe_lc {elt tg iter : Expr} {ifs : List Expr} {scope : Scope} {own : List (Str × Nat)} {pos : Pos} {wi : TI} {g : TG} {tt : TT} {te : TE} (hc : X.calm = true) (hN : X.N.Nodup) (hi : PI X tg iter wi) (ok : BlkOk X.N X.env.scope scope own)
    (hg : ∀ (s : Shared) (H : Hp) (C : Addr) (cl : List (Str × Addr)) (fp : List Addr), PG (X.blk s H scope (compEnvC scope cl C X.env) fp) tg g) (ht : ∀ (s : Shared) (H : Hp) (C : Addr) (cl : List (Str × Addr)) (fp : List Addr), PTs (X.blk s H scope (compEnvC scope cl C X.env) fp) ifs tt)
    (he : ∀ (s : Shared) (H : Hp) (C : Addr) (cl : List (Str × Addr)) (fp : List Addr), PE (X.blk s H scope (compEnvC scope cl C X.env) fp) elt te) (hs : ∀ x, foldedSetIterable iter X.env x = pure x := by intro _; rfl) :
    PE X (.ListComp elt [⟨tg, iter, ifs, 0⟩] scope pos) (tLc wi g tt te (own.map (·.2))) := by
  intro pins s σ H Q I h
  rw [eval_ListComp]
  refine lc_core hc hN I hi ok hg ht he hs h fun D C s' m H' I' q hn f => ⟨m, hn, fun h'' sb => ?_⟩
  obtain ⟨f0, f1, f2, f3, f4, f5⟩ := f
  exact ⟨.ref D, H', I'.turned (t' := s'.toks) (fun b o hb e => (sb.2 b hb).trans e) f0 f1 f3 f4 f5, rfl, q⟩
end
theorem lc_list {K : PySem.W.Frag} {a : Addr} {xs : List V} {g : TG} {tt : TT} {te : TE} {vs : List Nat} {σ : St} {H1 : Hp} {D : Addr} {Qd : Hp → Prop} (Pv : Nat → Hp → Prop) (h0 : Pv 0 (upd H1 D (.lst []))) (hl : ∀ i H, i ≤ xs.length → Pv i H → SqL K H a xs)
    (hs : ∀ i x H, xs[i]? = some x → Pv i H → g x (wipe σ vs) H fun σ2 H2 => wipe σ2 vs = wipe σ vs ∧ tt σ2 H2 fun b H3 =>
      if b = true then te σ2 H3 fun y H4 => ∃ acc, H4 D = some (.lst acc) ∧ acc.length < sizeLine ∧ Pv (i + 1) (upd H4 D (.lst (acc ++ [y]))) else Pv (i + 1) H3) (hd : ∀ H, Pv xs.length H → Qd H) :
    ∃ W : Nat → Nat → Hp → Prop, (∃ m, W 0 m (upd H1 D (.lst []))) ∧ ∀ i m H, W i m H →
      ((Itl K a).stop i H ∧ Qd H) ∨ ((Itl K a).go i H ∧ ∃ Nx : Hp → Prop, (∀ H', Nx H' → ∃ m', m' < m ∧ W (i + 1) m' H') ∧ ∀ x H', (Itl K a).yld i H x H' → g x (wipe σ vs) H' fun σ2 H2 => wipe σ2 vs = wipe σ vs ∧ tt σ2 H2 fun b H3 =>
        if b = true then te σ2 H3 fun y H4 => ∃ acc, H4 D = some (.lst acc) ∧ acc.length < sizeLine ∧ Nx (upd H4 D (.lst (acc ++ [y]))) else Nx H3) := by
  refine ⟨fun i m H => m = xs.length - i ∧ i ≤ xs.length ∧ Pv i H, ⟨xs.length, by simp, Nat.zero_le _, h0⟩, ?_⟩
  rintro i m H ⟨rfl, hi, p⟩
  have q := hl i H hi p
  by_cases hlt : i < xs.length
  · refine .inr ⟨⟨xs, xs[i], q, by simp [hlt]⟩, Pv (i + 1), fun H' p' => ⟨xs.length - (i + 1), by omega, rfl, hlt, p'⟩, fun x H' y => ?_⟩
    obtain ⟨e, y⟩ := y
    subst e
    exact hs i x _ (y xs q) p
  · have e : i = xs.length := by omega
    subst e
    exact .inl ⟨⟨xs, q, Nat.le_refl _⟩, hd H p⟩
noncomputable def blkC (N : List Str) (sc scope : Scope) (own : List (Str × Nat)) : Bool :=
  (match scope.kind with | .function => true | _ => false) && (scope.names.all fun y => decide (scope.names.lookup y.1 = some y.2)) && (own.all fun p => decide (N[p.2]? = some p.1)) &&
    (scope.names.all fun y => match y.2 with
      | .free => (match sc.names.lookup y.1 with | some .cell => true | some .free => true | _ => false)
      | .local => decide (y.1 ∈ own.map (·.1)) || decide (y.1 ∉ N)
      | .cell => decide (y.1 ∈ own.map (·.1)) || decide (y.1 ∉ N)
      | _ => true)
theorem blkOk_by {N : List Str} {sc scope : Scope} {own : List (Str × Nat)} (h : blkC N sc scope own = true) : BlkOk N sc scope own := by
  unfold blkC at h
  simp only [Bool.and_eq_true, List.all_eq_true, decide_eq_true_eq] at h
  obtain ⟨⟨⟨h1, h2⟩, h3⟩, h4⟩ := h
  refine ⟨?_, h2, h3, fun y hy e => ?_, fun y hy e => ?_⟩
  · split at h1
    · assumption
    · cases h1
  · have q := h4 y hy
    simp only [e] at q
    split at q <;> first | exact .inl (by assumption) | exact .inr (by assumption) | cases q
  · have q := h4 y hy
    rcases e with e | e <;> (simp only [e, Bool.or_eq_true, decide_eq_true_eq] at q; exact q)
end L2
namespace L2
open PySem PySem.Spec PyProof.Rows
section
variable {prog : Program} {w : World} {A : Around} {R : Result → Shared → Prop} {s : Shared} {elt t0 i0 t1 i1 : Expr} {ifs0 ifs1 : List Expr} {scope : Scope} {pos : Pos} {it acc : Value} {env : Env}
end
section
variable {X : Cx}
end
end L2
namespace L2
open PySem PySem.Spec PyProof.Rows
section
variable {κ : Type} [DecidableEq κ]
noncomputable def valV (kvs : List (κ × V)) (k : κ) : Option V := (kvs.find? fun kv => decide (kv.1 = k)).map (·.2)
noncomputable def putK (kvs : List (κ × V)) (k : κ) (v : V) : List (κ × V) :=
  if (kvs.any fun kv => decide (kv.1 = k)) = true then kvs.map (fun kv => if kv.1 = k then (kv.1, v) else kv) else kvs ++ [(k, v)]
noncomputable def dropK (kvs : List (κ × V)) (k : κ) : List (κ × V) := kvs.filter fun kv => decide (kv.1 ≠ k)
theorem valV_pos {p : κ × V} {r : List (κ × V)} {k : κ} (e : p.1 = k) : valV (p :: r) k = some p.2 := by simp [valV, List.find?_cons, e]
theorem valV_neg {p : κ × V} {r : List (κ × V)} {k : κ} (e : ¬ p.1 = k) : valV (p :: r) k = valV r k := by simp [valV, List.find?_cons, e]
theorem valV_any (k : κ) : ∀ kvs : List (κ × V), (kvs.any fun kv => decide (kv.1 = k)) = (valV kvs k).isSome
  | [] => rfl
  | p :: r => by
    rw [List.any_cons]
    by_cases e : p.1 = k
    · simp only [valV_pos e, decide_eq_true e, Bool.true_or, Option.isSome_some]
    · rw [valV_neg e, decide_eq_false e, Bool.false_or]; exact valV_any k r
theorem length_putK (kvs : List (κ × V)) (k : κ) (v : V) : (putK kvs k v).length ≤ kvs.length + 1 := by
  unfold putK
  split
  · rw [List.length_map]; omega
  · rw [List.length_append, List.length_cons, List.length_nil]; omega
theorem RelO.isSome_eq {o : Option V} {u : Option Value} (r : RelO o u) : o.isSome = u.isSome := by
  cases o with
  | none => cases u with
    | none => rfl
    | some _ => exact (show False from r).elim
  | some _ => cases u with
    | none => exact (show False from r).elim
    | some _ => rfl
theorem RelO.getD {o : Option V} {u : Option Value} {d : V} {d' : Value} (r : RelO o u) (rd : RelV d d') : RelV (o.getD d) (u.getD d') := by
  cases o with
  | none => cases u with
    | none => exact rd
    | some _ => exact (show False from r).elim
  | some _ => cases u with
    | none => exact (show False from r).elim
    | some _ => exact r
theorem KV.val {kvs : List (κ × V)} {vs : List (κ × Value)} (r : KV kvs vs) (k : κ) : RelO (valV kvs k) (valueAt vs k) := by
  unfold KV at r
  induction r with
  | nil => exact True.intro
  | @cons p q ps qs h t ih =>
    obtain ⟨h1, h2⟩ := h
    by_cases e : p.1 = k
    · have e' : q.1 = k := h1.symm.trans e
      have b : valueAt (q :: qs) k = some q.2 := by simp [valueAt, List.find?_cons, e']
      rw [valV_pos e, b]; exact h2
    · have e' : ¬ q.1 = k := fun z => e (h1.trans z)
      have b : valueAt (q :: qs) k = valueAt qs k := by simp [valueAt, List.find?_cons, e']
      rw [valV_neg e, b]; exact ih
theorem KV.any {kvs : List (κ × V)} {vs : List (κ × Value)} (r : KV kvs vs) (k : κ) : (kvs.any fun kv => decide (kv.1 = k)) = vs.any fun kv => decide (kv.1 = k) := by
  unfold KV at r
  induction r with
  | nil => rfl
  | cons h t ih => rw [List.any_cons, List.any_cons, ih, h.1]
theorem KV.repl {kvs : List (κ × V)} {vs : List (κ × Value)} (r : KV kvs vs) (k : κ) {y : V} {u : Value} (ry : RelV y u) :
    KV (kvs.map fun kv => if kv.1 = k then (kv.1, y) else kv) (vs.map fun kv => if kv.1 = k then (kv.1, u) else kv) := by
  unfold KV at r ⊢
  induction r with
  | nil => exact .nil
  | @cons p q ps qs h t ih =>
    rw [List.map_cons, List.map_cons]
    refine .cons ?_ ih
    obtain ⟨h1, h2⟩ := h
    by_cases e : p.1 = k
    · rw [if_pos e, if_pos (h1.symm.trans e)]; exact ⟨h1, ry⟩
    · rw [if_neg e, if_neg (fun z => e (h1.trans z))]; exact ⟨h1, h2⟩
theorem KV.put {kvs : List (κ × V)} {vs : List (κ × Value)} (r : KV kvs vs) (k : κ) {y : V} {u : Value} (ry : RelV y u) : KV (putK kvs k y) (stored vs k u) := by
  unfold putK stored
  rw [r.any k]
  by_cases e : (vs.any fun kv => decide (kv.1 = k)) = true
  · rw [if_pos e, if_pos e]; exact r.repl k ry
  · rw [if_neg e, if_neg e]; exact Paired.snoc r ⟨rfl, ry⟩
theorem KV.drop {kvs : List (κ × V)} {vs : List (κ × Value)} (r : KV kvs vs) (k : κ) : KV (dropK kvs k) (without vs k) := by
  unfold KV at r ⊢
  unfold dropK without
  induction r with
  | nil => exact .nil
  | @cons p q ps qs h t ih =>
    obtain ⟨h1, h2⟩ := h
    rw [List.filter_cons, List.filter_cons]
    by_cases e : p.1 = k
    · have a : ¬ decide (p.1 ≠ k) = true := by simp [e]
      have b : ¬ decide (q.1 ≠ k) = true := by simp [h1.symm.trans e]
      rw [if_neg a, if_neg b]; exact ih
    · have e' : ¬ q.1 = k := fun z => e (h1.trans z)
      have a : decide (p.1 ≠ k) = true := by simp [e]
      have b : decide (q.1 ≠ k) = true := by simp [e']
      rw [if_pos a, if_pos b]; exact .cons ⟨h1, h2⟩ ih
theorem KV.keys {kvs : List (κ × V)} {vs : List (κ × Value)} (r : KV kvs vs) : kvs.map (·.1) = vs.map (·.1) := by
  unfold KV at r
  induction r with
  | nil => rfl
  | cons h t ih => rw [List.map_cons, List.map_cons, ih, h.1]
theorem KV.length {kvs : List (κ × V)} {vs : List (κ × Value)} (r : KV kvs vs) : kvs.length = vs.length := Paired.length r
theorem dropK_le (kvs : List (κ × V)) (k : κ) : (dropK kvs k).length ≤ kvs.length := List.length_filter_le _ _
end
theorem kV_is {P : Program} {w : World} {k : Key} {u : Value} (r : RelV (kV k) u) : (mixKind P w).is k u = true := by
  cases k with
  | inl i => obtain ⟨t, e⟩ := (show ∃ t, u = Value.int i t from r); subst e; exact mixKind_int P w i t
  | inr x => obtain ⟨t, e⟩ := (show ∃ t, u = Value.str x t from r); subst e; exact mixKind_str P w x t
theorem items_are {P : Program} {w : World} : ∀ {ks : List Key} {us : List Value}, Vals (ks.map kV) us → ItemsAre (mixKind P w) ks us
  | [], _, r => by rw [List.map_nil] at r; cases r; exact .nil
  | k :: ks, _, r => by
    rw [List.map_cons] at r
    cases r with
    | cons h t => exact .cons (kV_is h) (items_are t)
noncomputable abbrev KT (H : Hp) : List (List Key × V) → List (List Key × Addr × Value) → Prop := Paired fun p q => p.1 = q.1 ∧ H q.2.1 = some (.tup (p.1.map kV)) ∧ RelV p.2 q.2.2
theorem KT.val {H : Hp} {kvs : List (List Key × V)} {xs : List (List Key × Addr × Value)} (r : KT H kvs xs) (k : List Key) : RelO (valV kvs k) ((atKey xs k).map (·.2)) := by
  induction r with
  | nil => exact True.intro
  | @cons p q ps qs h t ih =>
    obtain ⟨h1, _, h2⟩ := h
    by_cases e : p.1 = k
    · have e' : q.1 = k := h1.symm.trans e
      have b : atKey (q :: qs) k = some q.2 := by simp [atKey, List.find?_cons, e']
      rw [valV_pos e, b]; exact h2
    · have e' : ¬ q.1 = k := fun z => e (h1.trans z)
      have b : atKey (q :: qs) k = atKey qs k := by simp [atKey, List.find?_cons, e']
      rw [valV_neg e, b]; exact ih
theorem KT.repl {H : Hp} {kvs : List (List Key × V)} {xs : List (List Key × Addr × Value)} (r : KT H kvs xs) (k : List Key) {y : V} {u : Value} (ry : RelV y u) :
    KT H (kvs.map fun kv => if kv.1 = k then (kv.1, y) else kv) (xs.map (putAt k u)) := by
  induction r with
  | nil => exact .nil
  | @cons p q ps qs h t ih =>
    rw [List.map_cons, List.map_cons]
    refine .cons ?_ ih
    obtain ⟨h1, h2, h3⟩ := h
    unfold putAt
    by_cases e : p.1 = k
    · rw [if_pos e, if_pos (h1.symm.trans e)]; exact ⟨h1, h2, ry⟩
    · rw [if_neg e, if_neg (fun z => e (h1.trans z))]; exact ⟨h1, h2, h3⟩
theorem KT.put {H : Hp} {kvs : List (List Key × V)} {xs : List (List Key × Addr × Value)} (r : KT H kvs xs) (k : List Key) {b : Addr} {y : V} {u : Value} (hb : H b = some (.tup (k.map kV))) (ry : RelV y u) :
    KT H (putK kvs k y) (storedH xs k b u) := by
  have e : (kvs.any fun kv => decide (kv.1 = k)) = (atKey xs k).isSome := by
    rw [valV_any, (r.val k).isSome_eq, Option.isSome_map]
  unfold putK storedH
  rw [e]
  by_cases q : (atKey xs k).isSome = true
  · rw [if_pos q, if_pos q]; exact r.repl k ry
  · rw [if_neg q, if_neg q]; exact Paired.snoc r ⟨rfl, hb, ry⟩
theorem KT.keeps {H H' : Hp} {kvs : List (List Key × V)} {xs : List (List Key × Addr × Value)} (r : KT H kvs xs) (ht : ∀ b ys, H b = some (.tup ys) → H' b = some (.tup ys)) : KT H' kvs xs :=
  Paired.mapP r fun _ _ z => ⟨z.1, ht _ _ z.2.1, z.2.2⟩
section
variable {P : Program} {w : World} {H : Hp} {h : Heap} {a : Addr}
theorem rd_of {u : HO} (ok : HOk P w H h) (e : Rd H a u) : ObjOk P w H h a u := e.ok ok
theorem dk_rd {kvs : List (Key × V)} (ok : HOk P w H h) (e : Rd H a (.dK kvs)) : kvs.length ≤ sizeLine ∧ (a == sysModules) = false ∧ ∃ vs, KV kvs vs ∧ h.DictOf (mixKind P w) a vs :=
  show ObjOk P w H h a (.dK kvs) from rd_of ok e
theorem dk_of {kvs : List (Key × V)} (ok : HOk P w H h) (e : H a = some (.dK kvs)) : kvs.length ≤ sizeLine ∧ (a == sysModules) = false ∧ ∃ vs, KV kvs vs ∧ h.DictOf (mixKind P w) a vs := dk_rd ok (.inl e)
theorem key_of {ks : List Key} (ok : HOk P w H h) (e : H a = some (.tup (ks.map kV))) : (tupleKind (mixKind P w)).is h ks a := by
  obtain ⟨_, its, r, o, h1, h2, n, h3⟩ := (show ObjOk P w H h a (.tup (ks.map kV)) from ok a _ e)
  exact ⟨o, its.toArray, n, h1, h2, h3, by simpa using items_are r⟩
theorem dt_rd {kvs : List (List Key × V)} (ok : HOk P w H h) (e : Rd H a (.dT kvs)) : kvs.length ≤ sizeLine ∧ (a == sysModules) = false ∧
    ∃ xs, KT H kvs xs ∧ h.DictOfH (tupleKind (mixKind P w)) a xs := by
  obtain ⟨z, y, xs, r, o, es, ep, h1, h2, h3, h4, h5⟩ := (show ObjOk P w H h a (.dT kvs) from rd_of ok e)
  refine ⟨z, y, xs, r, o, es, ep, h1, h2, h3, h4, fun x hx => ?_, h5⟩
  have all : ∀ {l : List (List Key × V)} {m : List (List Key × Addr × Value)}, KT H l m → ∀ x ∈ m, (tupleKind (mixKind P w)).is h x.1 x.2.1 := by
    intro l m q
    induction q with
    | nil => intro x hx; exact nomatch hx
    | @cons p q ps qs hq t ih =>
      intro x hx
      rcases List.mem_cons.mp hx with e | hx
      · subst e
        exact key_of ok (by rw [← hq.1]; exact hq.2.1)
      · exact ih x hx
  exact all r x hx
theorem dt_of {kvs : List (List Key × V)} (ok : HOk P w H h) (e : H a = some (.dT kvs)) : kvs.length ≤ sizeLine ∧ (a == sysModules) = false ∧
    ∃ xs, KT H kvs xs ∧ h.DictOfH (tupleKind (mixKind P w)) a xs := dt_rd ok (.inl e)
end
noncomputable def DGet (H : Hp) (a : Addr) (y : V) (r : Option V) : Prop :=
  (∃ kvs k, Rd H a (.dK kvs) ∧ y = kV k ∧ r = valV kvs k) ∨ ∃ kvs k b, Rd H a (.dT kvs) ∧ y = .ref b ∧ H b = some (.tup (k.map kV)) ∧ r = valV kvs k
noncomputable def DPut (H : Hp) (a : Addr) (y v : V) (H' : Hp) : Prop :=
  (∃ kvs k, H a = some (.dK kvs) ∧ y = kV k ∧ kvs.length < sizeLine ∧ H' = upd H a (.dK (putK kvs k v))) ∨
  ∃ kvs k b, H a = some (.dT kvs) ∧ y = .ref b ∧ H b = some (.tup (k.map kV)) ∧ kvs.length < sizeLine ∧ H' = upd H a (.dT (putK kvs k v))
theorem DGet.k {H : Hp} {a : Addr} {kvs : List (Key × V)} {k : Key} (e : H a = some (.dK kvs)) : DGet H a (kV k) (valV kvs k) := .inl ⟨kvs, k, .inl e, rfl, rfl⟩
theorem DPut.k {H : Hp} {a : Addr} {kvs : List (Key × V)} {k : Key} {v : V} (e : H a = some (.dK kvs)) (hl : kvs.length < sizeLine) : DPut H a (kV k) v (upd H a (.dK (putK kvs k v))) := .inl ⟨kvs, k, e, rfl, hl, rfl⟩
section
variable {X : Cx} {pins : List (Addr × Obj)} {σ : St} {H : Hp} {s : Shared} {a : Addr} {y v : V} {u r : Value} {o : Option V} {A : Around} {E : Value → Shared → Prop}
theorem Inv.big (I : Inv X pins σ H s) : sysModules < s.heap.objs.size := by
  have h : mainGlobals < s.heap.objs.size := (I.mod.glob.keeps I.bk).lt
  exact Nat.lt_trans (by decide) h
theorem d_getItem {Q : Value → Shared → Prop} (hu : A.units + 1 < cLine) (I : Inv X pins σ H s) (g : DGet H a y (some v)) (ry : RelV y u) (h : ∀ w' s', Inv X pins σ H s' → RelV v w' → Q w' s') :
    wpAny (model X.prog X.w) A (getItem (.ref a) u) Q E s := by
  rcases g with ⟨kvs, k, e, ey, l⟩ | ⟨kvs, k, b, e, ey, eb, l⟩
  · subst ey
    obtain ⟨z, hd, vs, rel, dd⟩ := dk_rd I.hok e
    obtain ⟨w', hw, rw'⟩ := RelO.some_of (v := v) (o := valueAt vs k) (by rw [l]; exact rel.val k)
    exact wpAny_getItem_of (kV_is ry) dd.mapOf hw (h w' _ (I.tok _) rw')
  · subst ey
    cases (show u = Value.ref b from ry)
    obtain ⟨z, hd, xs, rel, dd⟩ := dt_rd I.hok e
    obtain ⟨w', hw, rw'⟩ := RelO.some_of (v := v) (o := (atKey xs k).map (·.2)) (by rw [l]; exact rel.val k)
    obtain ⟨p, hp, hp2⟩ := Option.map_eq_some_iff.mp hw
    refine wpAny_getItem_heap (tupleKind_room_in1 hu) (key_of I.hok eb) dd hp ?_
    rw [hp2]
    exact h w' _ (I.tok _) rw'
theorem d_in {Q : Value → Shared → Prop} (hu : A.units + 1 < cLine) (I : Inv X pins σ H s) (g : DGet H a y o) (ry : RelV y u) (h : ∀ s', Inv X pins σ H s' → Q (.bool o.isSome) s') :
    wpAny (model X.prog X.w) A (compareOp .In u (.ref a)) Q E s := by
  rcases g with ⟨kvs, k, e, ey, l⟩ | ⟨kvs, k, b, e, ey, eb, l⟩
  · subst ey
    obtain ⟨z, hd, vs, rel, dd⟩ := dk_rd I.hok e
    refine wpAny_in_of (kV_is ry) hd dd.mapOf ?_
    rw [← (rel.val k).isSome_eq, ← l]
    exact h _ (I.tok _)
  · subst ey
    cases (show u = Value.ref b from ry)
    obtain ⟨z, hd, xs, rel, dd⟩ := dt_rd I.hok e
    refine wpAny_in_heap (tupleKind_room_in1 hu) (key_of I.hok eb) hd dd ?_
    have q := (rel.val k).isSome_eq
    rw [Option.isSome_map] at q
    rw [← q, ← l]
    exact h _ (I.tok _)
theorem d_write {h' : Heap} {t' : Nat} {ob : HO} (I : Inv X pins σ H s) (mu : Mut (H a)) (hs : Heap.SameBut a s.heap h') (he : ∃ q, h'.get? a = some q) (new : ObjOk X.prog X.w (upd H a ob) h' a ob) :
    Inv X pins σ (upd H a ob) { s with heap := h', toks := t' } :=
  I.write (x := a) (e := a) mu (.inl rfl) (fun b q hb z => (hs.2 b hb).trans z) he new
theorem dk_new {P : Program} {w : World} {H' : Hp} {h' : Heap} {kvs : List (Key × V)} {vs : List (Key × Value)} (z : kvs.length ≤ sizeLine) (hd : (a == sysModules) = false) (rel : KV kvs vs) (dd : h'.DictOf (mixKind P w) a vs) :
    ObjOk P w H' h' a (.dK kvs) := ⟨z, hd, vs, rel, dd⟩
theorem d_setItem {H' : Hp} {Q : Unit → Shared → Prop} (hu : A.units + 1 < cLine) (I : Inv X pins σ H s) (g : DPut H a y v H') (ry : RelV y u) (rv : RelV v r) (h : ∀ s', Inv X pins σ H' s' → Q () s') :
    wpAny (model X.prog X.w) A (setItem (.ref a) u r) Q E s := by
  rcases g with ⟨kvs, k, e, ey, l, eH⟩ | ⟨kvs, k, b, e, ey, eb, l, eH⟩
  · subst ey eH
    obtain ⟨z, hd, vs, rel, dd⟩ := dk_of I.hok e
    have hz : vs.length ≤ sizeLine := by rw [← rel.length]; exact z
    have hl : (putK kvs k v).length ≤ sizeLine := by have := length_putK kvs k v; omega
    refine wpAny_setItem_pairs (hsz := hz) (kV_is ry) dd fun h' dd' hs => h _ ?_
    have he : ∃ q, h'.get? a = some q := let ⟨q, _, _, hq, _⟩ := dd'; ⟨q, hq⟩
    exact d_write I (by rw [e]; exact True.intro) hs he (dk_new hl hd (rel.put k rv) dd')
  · subst ey eH
    cases (show u = Value.ref b from ry)
    obtain ⟨z, hd, xs, rel, dd⟩ := dt_of I.hok e
    have hz : xs.length ≤ sizeLine := by rw [← Paired.length rel]; exact z
    have hl : (putK kvs k v).length ≤ sizeLine := by have := length_putK kvs k v; omega
    refine wpAny_setItem_heap (hsz := hz) (tupleKind_room_in1 hu) (key_of I.hok eb) dd fun h' dd' hs => h _ ?_
    obtain ⟨q, es, ep, hq, h2, h3, h4, _, h5⟩ := dd'
    refine d_write I (by rw [e]; exact True.intro) hs ⟨q, hq⟩ ⟨hl, hd, _, (rel.put k eb rv).keeps fun c ys ec => ?_, q, es, ep, hq, h2, h3, h4, h5⟩
    rw [upd_ne (ne_of ec e (fun z => nomatch z))]
    exact ec
end
section
variable {X : Cx} {pins : List (Addr × Obj)} {σ : St} {H : Hp} {s : Shared} {a : Addr} {kvs : List (Key × V)} {k : Key} {u : Value} {A : Around} {E : Value → Shared → Prop}
theorem d_delItem {Q : Unit → Shared → Prop} (I : Inv X pins σ H s) (e : H a = some (.dK kvs)) (ry : RelV (kV k) u) (l : (valV kvs k).isSome = true) (h : ∀ s', Inv X pins σ (upd H a (.dK (dropK kvs k))) s' → Q () s') :
    wpAny (model X.prog X.w) A (delItem (.ref a) u) Q E s := by
  obtain ⟨z, hd, vs, rel, dd⟩ := dk_of I.hok e
  refine wpAny_delItem_slot dd.typeIs (by decide) PySem.F.slot_dict_delitem
    (call_meetsIn PySem.F.slot_dict_delitem dd.typeIs PySem.F.entry_dict_delitem (PySem.F.args_dict_delitem_2 _ _) (meets_dict_delitem_pairs (mixKind X.prog X.w) a (kV_is ry)) ⟨vs, dd, by rw [← rel.length]; exact z, by rw [← (rel.val k).isSome_eq]; exact l, fun h' dd' hs => h _ ?_⟩)
  have he : ∃ q, h'.get? a = some q := let ⟨q, _, _, hq, _⟩ := dd'; ⟨q, hq⟩
  exact d_write I (by rw [e]; exact True.intro) hs he (dk_new (Nat.le_trans (dropK_le kvs k) z) hd (rel.drop k) dd')
theorem d_pop {v : V} {more : List Value} {Q : Value → Shared → Prop} (I : Inv X pins σ H s) (e : H a = some (.dK kvs)) (ry : RelV (kV k) u) (l : valV kvs k = some v) (hm : more = [] ∨ ∃ x, more = [x])
    (h : ∀ w' s', Inv X pins σ (upd H a (.dK (dropK kvs k))) s' → RelV v w' → Q w' s') : wpAny (model X.prog X.w) A (call (.builtin "dict.pop") (.ref a :: u :: more)) Q E s := by
  obtain ⟨z, hd, vs, rel, dd⟩ := dk_of I.hok e
  obtain ⟨w', hw, rw'⟩ := RelO.some_of (v := v) (o := valueAt vs k) (by rw [← l]; exact rel.val k)
  have hp : (keyPart u).isSome = true := by
    cases k with
    | inl i => obtain ⟨t, q⟩ := (show ∃ t, u = Value.int i t from ry); subst q; rfl
    | inr x => obtain ⟨t, q⟩ := (show ∃ t, u = Value.str x t from ry); subst q; rfl
  have ha : argsOk "dict.pop" ⟨.ref a :: u :: more, []⟩ := by
    rcases hm with q | ⟨x, q⟩
    · subst q; exact PySem.F.args_dict_pop_2 _ _
    · subst q; exact PySem.F.args_dict_pop_3 _ _ _
  refine call_meetsIn PySem.F.slot_dict_pop dd.typeIs PySem.F.entry_dict_pop ha (meets_dict_pop_there (mixKind X.prog X.w) a (kV_is ry) more hm hp)
    ⟨vs, w', dd, by rw [← rel.length]; exact z, hw, fun h' dd' hs => h w' _ ?_ rw'⟩
  have he : ∃ q, h'.get? a = some q := let ⟨q, _, _, hq, _⟩ := dd'; ⟨q, hq⟩
  exact d_write I (by rw [e]; exact True.intro) hs he (dk_new (Nat.le_trans (dropK_le kvs k) z) hd (rel.drop k) dd')
theorem d_popD {r : Value} {Q : Value → Shared → Prop} (I : Inv X pins σ H s) (e : H a = some (.dK kvs)) (ry : RelV (kV k) u) (l : valV kvs k = none) (h : ∀ s', Inv X pins σ H s' → Q r s') :
    wpAny (model X.prog X.w) A (call (.builtin "dict.pop") [.ref a, u, r]) Q E s := by
  obtain ⟨z, hd, vs, rel, dd⟩ := dk_of I.hok e
  have hn : valueAt vs k = none := RelO.none_of (by rw [← l]; exact rel.val k)
  have hp : (keyPart u).isSome = true := by
    cases k with
    | inl i => obtain ⟨t, q⟩ := (show ∃ t, u = Value.int i t from ry); subst q; rfl
    | inr x => obtain ⟨t, q⟩ := (show ∃ t, u = Value.str x t from ry); subst q; rfl
  exact call_meetsIn PySem.F.slot_dict_pop dd.typeIs PySem.F.entry_dict_pop (PySem.F.args_dict_pop_3 _ _ _) (meets_dict_pop_default (mixKind X.prog X.w) a (kV_is ry) hd hp r) ⟨vs, dd, hn, h _ (I.tok _)⟩
theorem d_len {Q : Value → Shared → Prop} (I : Inv X pins σ H s) (e : Rd H a (.dK kvs)) (h : ∀ t s', Inv X pins σ H s' → Q (.int kvs.length t) s') : wpAny (model X.prog X.w) A (call (.builtin "len") [.ref a]) Q E s := by
  obtain ⟨z, hd, vs, rel, dd⟩ := dk_rd I.hok e
  refine call_len_dict hd dd (by rw [← rel.length]; rw [sizeLine_eq] at z; omega) ?_
  rw [← rel.length]
  exact h _ _ (I.tok _)
end
noncomputable def NoSl (i : Expr) : Prop := ∀ ov iv, subscripted i false ov iv = operate [ov, iv] (getItem ov iv)
theorem subD_of {prog : Program} {w : World} {A : Around} {E : Value → Shared → Prop} {s : Shared} {env : Env} {value slice : Expr} {pos : Pos} {T id : String} {Q : Value → Shared → Prop}
    (hl : typeLookup (.type T) "__getitem__" = pure (some (.builtin id))) (hs : NoSl slice)
    (h : wpAny (model prog w) A (eval value env) (fun o s₁ => wpAny (model prog w) A (eval slice env) (fun i s₂ => s₂.TypeIs o T ∧ wpAny (model prog w) A (getItem o i) Q E s₂) E s₁) E s) :
    wpAny (model prog w) A (eval (.Subscript value slice pos) env) Q E s := by
  refine Subscript_ (wpAny_mono h (fun o s₁ h₁ => wpAny_mono h₁ (fun i s₂ h₂ => ?_) fun _ _ x => x) fun _ _ x => x)
  obtain ⟨hT, h₂⟩ := h₂
  unfold subscriptTail
  refine wpAny_bind ?_
  rw [getitemInPython_of_ne hT.not_modules]
  refine wpAny_bind (wpAny_specialOf hT hl ?_)
  have fin : wpAny (model prog w) A (subscripted slice false o i) (fun r s₃ => wpAny (model prog w) A (letTemporaryGo value o r >>= fun _ => pure r) Q E s₃) E s₂ := by
    rw [hs o i]
    exact wpAny_operating (wpAny_mono h₂ (fun r s₃ h₃ => wpAny_bind (wpAny_letTemporaryGo (wpAny_pure h₃))) fun _ _ x => x)
  first
    | exact wpAny_pure (wpAny_bind fin)
    | exact wpAny_bind (wpAny_pure (wpAny_bind fin))
    | exact wpAny_bind fin
theorem dict_typeIs {X : Cx} {pins : List (Addr × Obj)} {σ : St} {H : Hp} {s : Shared} {a : Addr} {y : V} {o : Option V} (I : Inv X pins σ H s) (g : DGet H a y o) : s.TypeIs (.ref a) "dict" := by
  rcases g with ⟨kvs, k, e, _, _⟩ | ⟨kvs, k, b, e, _, _, _⟩
  · obtain ⟨_, _, vs, _, dd⟩ := dk_rd I.hok e
    exact dd.typeIs
  · obtain ⟨_, _, xs, _, dd⟩ := dt_rd I.hok e
    exact dd.typeIs
noncomputable def tDGet (td ty : TE) : TE := fun σ H Q => td σ H fun x H1 => ty σ H1 fun y H2 => ∃ a v, x = .ref a ∧ DGet H2 a y (some v) ∧ Q v H2
noncomputable def tDIn (ty td : TE) : TE := fun σ H Q => ty σ H fun y H1 => td σ H1 fun x H2 => ∃ a o, x = .ref a ∧ DGet H2 a y o ∧ Q (.bl o.isSome) H2
noncomputable def sDPut (td ty tv : TE) : TS := fun D σ H => tv σ H fun v H1 => td σ H1 fun x H2 => ty σ H2 fun y H3 => ∃ a H4, x = .ref a ∧ DPut H3 a y v H4 ∧ D.nx σ H4
section
variable {X : Cx} {o i e value : Expr} {pos pos' tpos : Pos} {td ty tv : TE}
theorem pe_dget (hu : X.A.units + 1 < cLine) (ho : PE X o td) (hi : PE X i ty) (hs : NoSl i) : PE X (.Subscript o i pos) (tDGet td ty) := by
  intro pins s σ H Q I h
  refine subD_of PySem.F.slot_dict_getitem.lookup hs (thn (ho pins s σ H _ I h) fun u s1 hm49 => ?_)
  obtain ⟨x, H1, I1, rx, q1⟩ := hm49
  refine thn (hi pins s1 σ H1 _ I1 q1) fun iv s2 hm50 => ?_
  obtain ⟨y, H2, I2, ry, a, v, ex, g, q2⟩ := hm50
  subst ex
  obtain rfl : u = Value.ref a := rx
  exact ⟨dict_typeIs I2 g, d_getItem hu I2 g ry fun w' s3 I3 rw' => ⟨v, H2, I3, rw', q2⟩⟩
theorem pc_din (hu : X.A.units + 1 < cLine) (hi : PE X i ty) (ho : PE X o td) : PC X .In i o (tDIn ty td) := by
  intro pins s σ H Q I h
  refine thn (hi pins s σ H _ I h) fun iv s1 hm51 => ?_
  obtain ⟨y, H1, I1, ry, q1⟩ := hm51
  refine thn (ho pins s1 σ H1 _ I1 q1) fun u s2 hm52 => ?_
  obtain ⟨x, H2, I2, rx, a, ov, ex, g, q2⟩ := hm52
  subst ex
  obtain rfl : u = Value.ref a := rx
  exact d_in hu I2 g ry fun s3 I3 => ⟨.bl ov.isSome, H2, I3, rfl, q2⟩
theorem ps_dput (hu : X.A.units + 1 < cLine) (ho : PE X o td) (hi : PE X i ty) (hv : PE X value tv) (hs : swapsWith value (some (.Subscript o i pos')) pos.line X.env = pure false) :
    PS X (.Assign [.Subscript o i pos'] value pos) (sDPut td ty tv) := by
  intro pins s σ H D I h
  refine wpAny_Assign_Subscript (thn (hv pins s σ H _ I h) fun r s1 hm53 => ?_) hs
  obtain ⟨v, H1, I1, rv, q1⟩ := hm53
  refine thn (ho pins s1 σ H1 _ I1 q1) fun u s2 hm54 => ?_
  obtain ⟨x, H2, I2, rx, q2⟩ := hm54
  refine thn (hi pins s2 σ H2 _ I2 q2) fun iv s3 hm55 => ?_
  obtain ⟨y, H3, I3, ry, a, H4, ex, g, q3⟩ := hm55
  subst ex
  obtain rfl : u = Value.ref a := rx
  exact d_setItem hu I3 g ry rv fun s4 I4 => ⟨σ, H4, I4, q3⟩
end
theorem dk_empty {P : Program} {w : World} {H : Hp} (h : Heap) (hb : sysModules < h.objs.size) : ObjOk P w H (h.push { cls := .type "dict", data := .dict #[] }) h.objs.size (.dK []) :=
  ⟨Nat.zero_le _, beq_eq_false_iff_ne.mpr (Ne.symm (Nat.ne_of_lt hb)), [], .nil, Heap.DictOf.new h⟩
noncomputable def tDNewK : TE := fun _ H Q => ∀ p, H p = none → Q (.ref p) (upd H p (.dK []))
section
variable {X : Cx} {pos : Pos}
theorem pe_dnewK : PE X (.Dict [] [] pos) tDNewK := fun pins s σ H Q I h =>
  wpAny_Dict_empty ⟨.ref s.heap.objs.size, _, I.laid (a := s.heap.objs.size) (o := .dK []) (t' := s.toks) (fun _ _ q => Heap.get?_push_of_some _ q) (Nat.le_refl _) (dk_empty s.heap I.big), rfl, h _ (I.hok.fresh (Nat.le_refl _))⟩
end
structure M1 (X : Cx) (o : Expr) (m : Str) (apos : Pos) (e : Expr) (cpos : Pos) : Prop where
  base : attributeBase o m X.env (eval o X.env) = eval o X.env
  few : ((backTo cpos (starEach [e] X.env)).all (fun x => !x.1) && (backToKw cpos (keywordEach [] X.env)).all (fun x => x.1.isSome)
    && decide (([e] : List Expr).length + ([] : List Keyword).length + (if ([] : List Keyword).isEmpty then 0 else 1) < 30)) = true
  line : (apos.endLine == cpos.line) = true
  trees : backTo cpos (starEach [e] X.env) = [(false, eval e X.env)]
structure M2 (X : Cx) (o : Expr) (m : Str) (apos : Pos) (e f : Expr) (cpos : Pos) : Prop where
  base : attributeBase o m X.env (eval o X.env) = eval o X.env
  few : ((backTo cpos (starEach [e, f] X.env)).all (fun x => !x.1) && (backToKw cpos (keywordEach [] X.env)).all (fun x => x.1.isSome)
    && decide (([e, f] : List Expr).length + ([] : List Keyword).length + (if ([] : List Keyword).isEmpty then 0 else 1) < 30)) = true
  line : (apos.endLine == cpos.line) = true
  trees : backTo cpos (starEach [e, f] X.env) = [(false, eval e X.env), (false, eval f X.env)]
noncomputable def IsD (H : Hp) (a : Addr) : Prop := (∃ kvs, Rd H a (.dK kvs)) ∨ ∃ kvs, Rd H a (.dT kvs)
theorem isD_at {X : Cx} {pins : List (Addr × Obj)} {σ : St} {H : Hp} {s : Shared} {a : Addr} (I : Inv X pins σ H s) (d : IsD H a) :
    s.TypeIs (.ref a) "dict" ∧ (∀ b, Value.ref a = .ref b → ∃ ob, s.heap.get? b = some ob ∧ ob.dict = none) ∧ (a == sysModules) = false := by
  rcases d with ⟨kvs, e⟩ | ⟨kvs, e⟩
  · obtain ⟨_, hd, vs, _, dd⟩ := dk_rd I.hok e
    refine ⟨dd.typeIs, fun b q => ?_, hd⟩
    cases q
    obtain ⟨ob, _, _, h1, h2, _⟩ := dd
    exact ⟨ob, h1, h2.2.1⟩
  · obtain ⟨_, hd, xs, _, dd⟩ := dt_rd I.hok e
    refine ⟨dd.typeIs, fun b q => ?_, hd⟩
    cases q
    obtain ⟨ob, _, _, h1, h2, _⟩ := dd
    exact ⟨ob, h1, h2.2.1⟩
section
variable {X : Cx} {pins : List (Addr × Obj)} {σ : St} {H : Hp} {s : Shared} {a : Addr} {y d : V} {u r : Value} {o : Option V} {A : Around} {E : Value → Shared → Prop}
theorem d_get1 {Q : Value → Shared → Prop} (hu : A.units + 1 < cLine) (I : Inv X pins σ H s) (g : DGet H a y o) (ry : RelV y u) (h : ∀ w' s', Inv X pins σ H s' → RelV (o.getD .non) w' → Q w' s') :
    wpAny (model X.prog X.w) A (call (.builtin "dict.get") [.ref a, u]) Q E s := by
  rcases g with ⟨kvs, k, e, ey, l⟩ | ⟨kvs, k, b, e, ey, eb, l⟩
  · subst ey
    obtain ⟨z, hd, vs, rel, dd⟩ := dk_rd I.hok e
    refine call_meetsIn PySem.F.slot_dict_get dd.typeIs PySem.F.entry_dict_get (PySem.F.args_dict_get_2 _ _) (meets_dict_get (mixKind X.prog X.w) a (kV_is ry) hd) ⟨_, dd.mapOf, h _ _ (I.tok _) ?_⟩
    rw [l]
    exact (rel.val k).getD rfl
  · subst ey
    cases (show u = Value.ref b from ry)
    obtain ⟨z, hd, xs, rel, dd⟩ := dt_rd I.hok e
    refine call_meetsIn PySem.F.slot_dict_get dd.typeIs PySem.F.entry_dict_get (PySem.F.args_dict_get_2 _ _) (meetsH_dict_get (tupleKind (mixKind X.prog X.w)) a b hd) ⟨tupleKind_room_in1 hu, k, xs, key_of I.hok eb, dd, h _ _ (I.tok _) ?_⟩
    rw [l]
    exact (rel.val k).getD rfl
end
noncomputable def tDGet1 (td ty : TE) : TE := fun σ H Q => td σ H fun x H1 => ∃ a, x = .ref a ∧ IsD H1 a ∧ ty σ H1 fun y H2 => ∃ o, DGet H2 a y o ∧ Q (o.getD .non) H2
noncomputable def tDPop2 (td ty tx : TE) : TE := fun σ H Q => td σ H fun x H1 => ∃ a, x = .ref a ∧ IsD H1 a ∧ ty σ H1 fun y H2 => tx σ H2 fun z H3 => ∃ kvs k, H3 a = some (.dK kvs) ∧ y = kV k ∧
  (∀ v, valV kvs k = some v → Q v (upd H3 a (.dK (dropK kvs k)))) ∧ (valV kvs k = none → Q z H3)
section
variable {X : Cx} {o e f : Expr} {apos cpos : Pos} {td ty tx : TE}
theorem pe_dget1 (hu : X.A.units + 1 < cLine) (ho : PE X o td) (he : PE X e ty) (m : M1 X o "get" apos e cpos) : PE X (.Call (.Attribute o "get" apos) [e] [] cpos) (tDGet1 td ty) := by
  intro pins s σ H Q I h
  refine wpAny_Call_method m.base m.few m.line PySem.F.plainAttrs_dict PySem.F.slot_dict_get PySem.F.type_dict_get (thn (ho pins s σ H _ I h) fun u s1 hm56 => ?_)
  obtain ⟨x, H1, I1, rx, a, ex, d, q1⟩ := hm56
  subst ex
  obtain rfl : u = Value.ref a := rx
  obtain ⟨t1, t2, _⟩ := isD_at I1 d
  refine ⟨t1, t2, ?_⟩
  rw [m.trees]
  refine Calls.callWith_builtin rfl (Calls.evalArgs_plain (Calls.spliced_cons (thn (he pins s1 σ H1 _ I1 q1) fun iv s2 hm57 => ?_)))
  obtain ⟨y, H2, I2, ry, ov, g, q2⟩ := hm57
  refine Calls.spliced_nil ?_
  exact d_get1 hu I2 g ry fun w' s3 I3 rw' => ⟨_, H2, I3, rw', q2⟩
theorem pe_dpop2 (ho : PE X o td) (he : PE X e ty) (hf : PE X f tx) (m : M2 X o "pop" apos e f cpos) : PE X (.Call (.Attribute o "pop" apos) [e, f] [] cpos) (tDPop2 td ty tx) := by
  intro pins s σ H Q I h
  refine wpAny_Call_method m.base m.few m.line PySem.F.plainAttrs_dict PySem.F.slot_dict_pop PySem.F.type_dict_pop (thn (ho pins s σ H _ I h) fun u s1 hm58 => ?_)
  obtain ⟨x, H1, I1, rx, a, ex, d, q1⟩ := hm58
  subst ex
  obtain rfl : u = Value.ref a := rx
  obtain ⟨t1, t2, _⟩ := isD_at I1 d
  refine ⟨t1, t2, ?_⟩
  rw [m.trees]
  refine Calls.callWith_builtin rfl (Calls.evalArgs_plain (Calls.spliced_cons (thn (he pins s1 σ H1 _ I1 q1) fun iv s2 ⟨y, H2, I2, ry, q2⟩ =>
    Calls.spliced_cons (thn (hf pins s2 σ H2 _ I2 q2) fun fv s3 ⟨z, H3, I3, rz, kvs, k, ea, ey, q3, q4⟩ => Calls.spliced_nil ?_))))
  subst ey
  cases l : valV kvs k with
  | some v => exact d_pop I3 ea ry l (.inr ⟨fv, rfl⟩) fun w' s4 I4 rw' => ⟨v, _, I4, rw', q3 v l⟩
  | none => exact d_popD I3 ea ry l fun s4 I4 => ⟨z, H3, I4, rz, q4 l⟩
end
section
variable {X : Cx} {pins : List (Addr × Obj)} {σ : St} {H : Hp} {s : Shared} {a : Addr} {kvs : List (Key × V)} {A : Around} {E : Value → Shared → Prop}
end
section
variable {X : Cx} {pins : List (Addr × Obj)} {σ : St} {H : Hp} {s : Shared} {a : Addr} {y : V} {u : Value} {A : Around} {E : Value → Shared → Prop}
end
end L2
namespace L2
open PySem PySem.Spec PyProof.Rows
section
variable {prog : Program} {w : World} {A : Around} {E : Value → Shared → Prop}
end
section
variable {X : Cx}
end
end L2
namespace L2
open PySem PySem.Spec PyProof.Rows
section
variable {X : Cx} {pins : List (Addr × Obj)} {σ : St} {H : Hp} {s : Shared} {h' : Heap}
theorem Inv.turnedNew {t' : Nat} {ch : List Addr} {T : Addr} {ob : HO} (I : Inv X pins σ H s) (k : ∀ b o, b ∉ ch → s.heap.get? b = some o → h'.get? b = some o) (hf : ∀ b ∈ ch, FpOk X pins H b) (hT : s.heap.objs.size ≤ T)
    (new : ObjOk X.prog X.w (upd H T ob) h' T ob) : Inv X pins σ (upd H T ob) { s with heap := h', toks := t' } := by
  have hn : H T = none := I.hok.fresh hT
  have nit : ∀ b u, H b = some u → b ∉ ch := fun b u e z => by
    have q := (hf b z).1
    rw [q] at e; cases e
  refine I.step (g' := s.gens) (d' := s.drawn) (ch := ch) (fun b hb => ⟨(hf b hb).2.2.2.1, (hf b hb).2.1, (hf b hb).2.2.2.2.1, (hf b hb).2.2.2.2.2⟩) (fun b o _ _ hc e _ => k b o hc e) (fun b o _ _ hc e _ => ⟨o.slots, k b o hc e⟩)
    (fun b o _ e n => ?_) (fun b o hc e => ⟨o, k b o hc e⟩) (fun b xs e => ?_) (fun b o u e => ?_) (fun b ps e => ⟨#[], ?_⟩) (fun m hm => ?_) (fun b u e => ?_) I.bare
  · rw [upd_ne (Nat.ne_of_lt (Nat.lt_of_lt_of_le (Heap.lt_size e) hT))]; exact n
  · rw [upd_ne (ne_of_none e hn)]; exact e
  · rw [upd_ne (ne_of_none e hn)]; exact e
  · rw [upd_ne (ne_of_none e hn), e]; simp
  · obtain ⟨o, es, ep, ho, r⟩ := hm
    exact ⟨o, es, ep, k _ o (fun z => (hf _ z).2.1 rfl) ho, r⟩
  · by_cases hb : b = T
    · subst hb
      rw [upd_same] at e
      cases e
      exact new
    · rw [upd_ne hb] at e
      refine (I.hok b u e).stay (fun c v hc q => k c v ?_ q) (fun c q => by rw [upd_ne (ne_of_none q hn)]; exact q) fun c xs q => by rw [upd_ne (ne_of_none q hn)]; exact q
      rcases hc with z | z
      · rw [z]; exact nit b u e
      · exact nit c _ z
theorem Inv.lock {d : Addr} {u : HO} (I : Inv X pins σ H s) (h : H d = some u) (mu : Mut (some u)) : ∃ od, Inv X pins σ (upd H d (.frz od u)) s := by
  have x := I.hok d u h
  have ex : ∃ od, s.heap.get? d = some od := by
    cases u with
    | lst xs => obtain ⟨_, _, _, _, e⟩ := x; exact ⟨_, e⟩
    | dK kvs => obtain ⟨_, _, _, _, o, _, _, e, _⟩ := x; exact ⟨o, e⟩
    | dT kvs => obtain ⟨_, _, _, _, o, _, _, e, _⟩ := x; exact ⟨o, e⟩
    | set S n => obtain ⟨o, _, _, _, e, _⟩ := x; exact ⟨o, e⟩
    | ins C dx fs => obtain ⟨_, _, _, e, _⟩ := x; exact ⟨_, e⟩
    | ext φ => obtain ⟨_, ⟨_, e⟩, _⟩ := x; exact ⟨_, e⟩
    | _ => exact False.elim mu
  obtain ⟨od, e⟩ := ex
  have new : ObjOk X.prog X.w (upd H d (.frz od u)) s.heap d (.frz od u) := by
    refine ⟨e, x.stay (fun b v _ q => q) (fun b q => ?_) fun b xs q => ?_⟩
    · rw [upd_ne (fun z => by rw [z, h] at q; cases q; exact mu)]; exact q
    · rw [upd_ne (fun z => by rw [z, h] at q; cases q; exact mu)]; exact q
  exact ⟨od, I.write (x := d) (e := d) (t' := s.toks) (h' := s.heap) (by rw [h]; exact mu) (.inl rfl) (fun b v _ q => q) ⟨od, e⟩ new⟩
theorem Inv.nofrz {d : Addr} {u : HO} (I : Inv X pins σ H s) (h : H d = some u) (mu : Mut (some u)) : ∀ o' u', X.H_0 d ≠ some (.frz o' u') := fun o' u' e => by
  have q := I.base.frzs d o' u' e
  rw [h] at q
  cases q
  exact mu
theorem Inv.unlock {d : Addr} {od : Obj} {u : HO} (I : Inv X pins σ H s) (h : H d = some (.frz od u)) (hn : ∀ o' u', X.H_0 d ≠ some (.frz o' u')) : Inv X pins σ (upd H d u) s := by
  have neH : ∀ b o, H b = some o → (∀ o' u', o ≠ .frz o' u') → b ≠ d := fun b o e hne z => by
    rw [z, h] at e
    cases e
    exact hne _ _ rfl
  have neN : ∀ b, H b = none → b ≠ d := fun b e z => by rw [z, h] at e; cases e
  refine ⟨I.ok, I.os, I.bare, ⟨I.base.keep, I.base.slot, fun b o e n hx => ?_, I.base.there, fun b xs e => ?_, fun b o x e => ?_, fun b ps e => ?_⟩, I.loc, I.cell, ?_, fun x c e => ?_, fun p hp => ?_, fun b o e => ?_, I.len⟩
  · rw [upd_ne (neN b (I.base.free b o e n hx))]; exact I.base.free b o e n hx
  · have q := I.base.tups b xs e
    rw [upd_ne (neH b _ q (fun _ _ z => nomatch z))]; exact q
  · have q := I.base.frzs b o x e
    rw [upd_ne (fun z => by rw [z] at e; exact hn _ _ e)]; exact q
  · obtain ⟨m, q⟩ := I.base.tbls b ps e
    exact ⟨m, by rw [upd_ne (neH b _ q (fun _ _ z => nomatch z))]; exact q⟩
  · rw [upd_ne (neN _ I.free)]; exact I.free
  · rw [upd_ne (neN c (I.freeC x c e))]; exact I.freeC x c e
  · obtain ⟨e, n, r⟩ := I.pin p hp
    exact ⟨e, by rw [upd_ne (neN _ n)]; exact n, r⟩
  · by_cases hb : b = d
    · rw [hb, upd_same] at e
      cases e
      rw [hb]
      obtain ⟨_, x⟩ := I.hok d _ h
      exact x.stay (fun c v _ q => q) (fun c q => by rw [upd_ne (neH c _ q (fun _ _ z => nomatch z))]; exact q) fun c xs q => by rw [upd_ne (neH c _ q (fun _ _ z => nomatch z))]; exact q
    · rw [upd_ne hb] at e
      exact (I.hok b o e).stay (fun c v _ q => q) (fun c q => by rw [upd_ne (neH c _ q (fun _ _ z => nomatch z))]; exact q) fun c xs q => by rw [upd_ne (neH c _ q (fun _ _ z => nomatch z))]; exact q
end
noncomputable def tLockE (t : TE) : TE := fun σ H Q => ∃ d u, H d = some u ∧ Mut (some u) ∧ ∀ od, t σ (upd H d (.frz od u)) fun v H' => H' d = some (.frz od u) ∧ Q v (upd H' d u)
section
variable {X : Cx}
theorem pe_lock {e : Expr} {t : TE} (h : PE X e t) : PE X e (tLockE t) := by
  intro pins s σ H Q I hw
  obtain ⟨d, u, hd, mu, hw⟩ := hw
  obtain ⟨od, I1⟩ := I.lock hd mu
  refine thn (h pins s σ _ _ I1 (hw od)) fun v s1 hm59 => ?_
  obtain ⟨x, H1, I2, r, e2, q⟩ := hm59
  exact ⟨x, _, I2.unlock e2 (I.nofrz hd mu), r, q⟩
theorem pi_one {tg : Expr} {pins : List (Addr × Obj)} {σ : St} {H : Hp} {s : Shared} {R : It → Hp → Prop} {J : It} {tn : Nat → Heap → Prop} {tk : Nat} (I : Inv X pins σ H s) (o : Obj)
    (T : Turn X.prog X.w X.K tg J [s.heap.objs.size] s.heap.objs.size tn) (st : tn 0 (s.heap.push o)) (q : R J H) : PIE X pins σ tg R (.ref s.heap.objs.size) { s with heap := s.heap.push o, toks := tk } := by
  refine ⟨s.heap.objs.size, [s.heap.objs.size], tn, J, H, rfl, I.kept fun b ob e => Heap.get?_push_of_some _ e, T, st, fun b hb => ?_, q⟩
  have e : b = s.heap.objs.size := by simpa using hb
  subst e
  exact I.fpOk (Nat.le_refl _) (I.hok.fresh (Nat.le_refl _))
end
noncomputable def Itc (lo c : Int) (n : Nat) : It := ⟨fun i _ => i < n, fun i H x H' => H' = H ∧ x = .int (lo + (i : Nat) * c), fun i _ => n ≤ i⟩
theorem turn_rangeC {P : Program} {w : World} {K : PySem.W.Frag} {tg : Expr} (it : Addr) (lo c : Int) (n : Nat) : Turn P w K tg (Itc lo c n) [it] it (fun i h => IsRangeIter h it (lo + (i : Nat) * c) ((n : Int) - (i : Nat)) c) where
  mem := by simp
  obj := fun i h st b hb => by
    have e : b = it := by simpa using hb
    subst e
    exact ⟨_, st, fun v z => nomatch z⟩
  keep := fun i h h' st k => k it (by simp) _ st
  item := by
    intro X hP hw hK hc i pins s σ H E I hf st hg
    subst hP hw hK
    obtain ⟨f0, f1, f2, f3, f4, f5⟩ := hf it (by simp)
    have W := Walks.range (prog := X.prog) (w := X.w) (I.ok.hd hc) it lo c n
    refine W.item i s _ _ hg st fun v h' tk hv st' kk => ?_
    obtain ⟨t, rfl⟩ := hv
    have I1 : Inv X pins σ H { s with heap := h', toks := tk } := I.turned (fun b o hb e => kk b o (by simpa using hb) e) f0 f1 f3 f4 f5
    exact ⟨_, rfl, go_of (s := { s with heap := h', toks := tk }) (n := "range_iterator") st' rfl rfl (by decide) ⟨.int (lo + (i : Nat) * c), H, I1, ⟨t, rfl⟩, ⟨rfl, rfl⟩, st', fun b hb => (hf b hb).1⟩⟩
  done := by
    intro X hP hw hK hc i pins s σ H E I hf st hg
    subst hP hw hK
    obtain ⟨f0, f1, f2, f3, f4, f5⟩ := hf it (by simp)
    exact wpAny_pyNext_range_end (I.ok.hd hc) st (by have : n ≤ i := hg; omega) fun h' eb => ⟨rfl, I.turned (t' := s.toks) (fun b o hb e => eb b o hb e) f0 f1 f3 f4 f5⟩
  self := fun A i s Q E st h => wpAny_pyIter_rangeiter st h
noncomputable def RgC (i j c : Int) (n : Nat) : Prop := c ≠ 0 ∧ c.natAbs < 1073741824 ∧ Builtin.Range.small i j c = true ∧ Builtin.Range.rangeSize i j c = n
theorem RgC.neg {i j : Int} (ha : -(2 ^ 62) ≤ i) (ha' : i < 2 ^ 62) (hb : -(2 ^ 62) ≤ j) (hb' : j < 2 ^ 62) : RgC i j (-1) (i - j).toNat :=
  ⟨by decide, by decide, PySem.W.small_down ha ha' hb hb', PySem.W.rangeSize_downNat i j⟩
noncomputable def iRng3 (ta : TA) : TI := fun σ H R => ta σ H fun vs H1 => ∃ (i j c : Int) (n : Nat), vs = [.int i, .int j, .int c] ∧ RgC i j c n ∧ R (Itc i c n) H1
section
variable {X : Cx} {tg : Expr}
theorem pi_range3 {a b c : Expr} {ta : TA} {p pos : Pos} (hg : Gl X "range") (hm : X.mg "range" = none) (ha : PA X [a, b, c] ta)
    (hs : starEach [a, b, c] X.env = (false, eval a X.env) :: starEach [b, c] X.env := by rfl) (hpl : (backTo pos (starEach [b, c] X.env)).any (·.1) = false := by rfl) :
    PI X tg (.Call (.Name "range" p) [a, b, c] [] pos) (iRng3 ta) := by
  intro pins s σ H R I h
  refine Call_ (ld_blt I hg hm boot_range (PyProof.Rows.callWith_type1 (thn (ha pos pins s σ H _ I h) fun us s1 hm60 => ?_) hs hpl))
  obtain ⟨vs, H1, I1, r1, q1⟩ := hm60
  obtain ⟨i, j, k, n, e, ⟨c0, c1, c2, c3⟩, q⟩ := q1
  subst e
  cases r1 with
  | cons r rr =>
    cases rr with
    | cons r' rr =>
      cases rr with
      | cons r'' rr =>
        cases rr
        obtain ⟨t, rfl⟩ := r
        obtain ⟨t', rfl⟩ := r'
        obtain ⟨t'', rfl⟩ := r''
        refine call_range_3 c0 ?_ (.inl (PyProof.noPylong_small c1))
        refine wpAny_pyIter_range (IsRange.new ..) c2 ?_
        have I2 : Inv X pins σ H1 { s1 with heap := s1.heap.push { cls := .type "range", data := .fields #[.int i t, .int j t', .int k t''] } } := I1.kept (t' := s1.toks) fun b o e => Heap.get?_push_of_some _ e
        refine pi_one (tk := s1.toks) I2 _ (turn_rangeC _ i k n) ?_ q
        have e1 : i + ((0 : Nat) : Int) * k = i := by simp
        have e2 : (n : Int) - ((0 : Nat) : Int) = Builtin.Range.rangeSize i j k := by rw [c3]; simp
        show IsRangeIter _ _ (i + ((0 : Nat) : Int) * k) ((n : Int) - ((0 : Nat) : Int)) k
        rw [e1, e2]
        exact Heap.get?_push_size _ rfl
end
theorem for_rangeC {lo c : Int} {n : Nat} {g : TG} {tb : TS} {D : Ends} {σ : St} {H : Hp} (Pv : Nat → St → Hp → Prop) (h0 : Pv 0 σ H)
    (hs : ∀ i σ H, i < n → Pv i σ H → g (.int (lo + (i : Nat) * c)) σ H fun σ2 H2 => tb { D with nx := Pv (i + 1), ct := Pv (i + 1), bk := D.nx } σ2 H2) (hd : ∀ σ H, Pv n σ H → D.nx σ H) :
    ∃ W : Nat → Nat → St → Hp → Prop, (∃ m, W 0 m σ H) ∧ ∀ i m σ H, W i m σ H →
      ((Itc lo c n).stop i H ∧ D.nx σ H) ∨ ((Itc lo c n).go i H ∧ ∃ N : St → Hp → Prop, (∀ σ' H', N σ' H' → ∃ m', m' < m ∧ W (i + 1) m' σ' H') ∧ ∀ x H', (Itc lo c n).yld i H x H' → g x σ H' fun σ2 H2 => tb { D with nx := N, ct := N, bk := D.nx } σ2 H2) := by
  refine ⟨fun i m σ H => m = n - i ∧ i ≤ n ∧ Pv i σ H, ⟨n, by simp, Nat.zero_le _, h0⟩, ?_⟩
  rintro i m σ H ⟨rfl, hi, p⟩
  by_cases hlt : i < n
  · refine .inr ⟨hlt, Pv (i + 1), fun σ' H' p' => ⟨n - (i + 1), by omega, rfl, hlt, p'⟩, fun x H' y => ?_⟩
    obtain ⟨e, y⟩ := y
    subst e y
    exact hs i σ _ hlt p
  · have e : i = n := by omega
    subst e
    exact .inl ⟨Nat.le_refl _, hd σ H p⟩
section
variable {X : Cx} {tg : Expr}
end
section
variable {prog : Program} {w : World} {A : Around} {E : Value → Shared → Prop} {s : Shared}
theorem iter_keys {d : Addr} {o : Obj} {es : Array DictEntry} {ep : Nat} {Q : Value → Shared → Prop} (hd : (d == sysModules) = false) (ho : s.heap.get? d = some o) (hc : o.ExactDict) (hdat : o.data = .dict es ep)
    (hQ : Q (.ref s.heap.objs.size) { s with heap := s.heap.push { cls := .type "dict_keyiterator", data := .fields #[.ref d, .int 0 0, .int es.size 0, .int ep 0] } }) :
    wpAny (model prog w) A (pyIter (.ref d)) Q E s := by
  have hT : s.TypeIs (.ref d) "dict" := ⟨o, ho, hc.1⟩
  refine wpAny_pyIter_slot hT F.slot_dict_iter (wpAny_call_entry F.slot_dict_iter hT F.entry_dict_iter ?_ (F.args_dict_iter_1 _))
  unfold Builtin.«dict.__iter__»
  refine wpAny_bind ?_
  unfold Builtin.Dict.dictSlotNone
  refine wpAny_bind (wpAny_notOrdered_dict hT ?_)
  show wpAny _ _ (pure (Value.ref d)) _ _ s
  refine wpAny_pure ?_
  show wpAny _ _ (Builtin.Dict.showsAll d >>= _) _ _ s
  unfold Builtin.Dict.showsAll
  rw [if_neg (by rw [hd]; exact Bool.false_ne_true)]
  refine wpAny_bind (wpAny_pure ?_)
  refine wpAny_bind (wpAny_dictEntries ho hdat ?_)
  refine wpAny_bind (wpAny_dictEpoch ho hdat ?_)
  refine wpAny_bind (wpAny_newObj_type (wpAny_pure ⟨_, rfl, "dict_keyiterator", _, ⟨_, Heap.get?_push_size _ rfl, rfl⟩, F.slot_dict_keyiterator_next.lookup, ?_⟩))
  simpa [rawInt] using hQ
theorem next_key_item {it d : Addr} {i n ep : Nat} {od : Obj} {es : Array DictEntry} {en : DictEntry} {Q : Option Value → Shared → Prop} (hit : s.heap.IsKeyIter it d i n ep) (hod : s.heap.get? d = some od) (hdd : od.data = .dict es ep)
    (hsz : es.size = n) (hx : es[i]? = some en) (hQ : ∀ h', h'.IsKeyIter it d (i + 1) n ep → Heap.SameBut it s.heap h' → Q (some en.key) { s with heap := h' }) : wpAny (model prog w) A (pyNext (.ref it)) Q E s := by
  obtain ⟨o, ho, hc, hd⟩ := id hit
  unfold pyNext
  refine wpAny_bind (wpAny_attempt (wpAny_callSpecial?_slot (name := Str.ofString "__next__") hit.typeIs F.slot_dict_keyiterator_next
    (wpAny_call_entry F.slot_dict_keyiterator_next hit.typeIs F.entry_dict_keyiterator_next ?_ (F.args_dict_keyiterator_next_1 _))))
  refine wpAny_bind (wpAny_pure ?_)
  refine wpAny_bind ?_
  refine wpAny_bind ?_
  first | refine wpAny_bind (wpAny_typeNameOfWhole_keyiter hit.typeIs (wpAny_pure ?_)) | refine wpAny_bind (wpAny_typeNameOf_keyiter hit.typeIs (wpAny_pure ?_))
  refine wpAny_bind (wpAny_fieldsOf ho hd ?_)
  have hown : Builtin.Dict_items.ownsTuple "dict_keyiterator" = false := by decide
  simp only [hown, Bool.false_eq_true, if_false]
  show wpAny _ _ (if (Value.ref d == Value.none) = true then _ else _) _ _ s
  rw [if_neg (show ¬ ((Value.ref d == Value.none) = true) from Bool.false_ne_true)]
  refine wpAny_bind (wpAny_pure ?_)
  refine wpAny_bind (wpAny_dictEntries hod hdd ?_)
  rw [if_neg (by rw [hsz]; simp)]
  refine wpAny_bind (wpAny_pure ?_)
  refine wpAny_bind (wpAny_dictEpoch hod hdd ?_)
  rw [if_neg (by simp)]
  refine wpAny_pure ?_
  obtain ⟨hlt', hen⟩ := Array.getElem?_eq_some_iff.mp hx
  simp only [show ¬ ((i : Int) < 0) from by omega, if_false, Int.toNat_natCast, Array.getElem?_eq_getElem hlt']
  refine wpAny_bind ?_
  first | refine wpAny_bind (wpAny_typeNameOfWhole_keyiter hit.typeIs (wpAny_pure ?_)) | refine wpAny_bind (wpAny_typeNameOf_keyiter hit.typeIs (wpAny_pure ?_))
  refine wpAny_bind (wpAny_isOneOf_keyiter hit.typeIs ?_)
  show wpAny _ _ (setField (.ref it) 1 (rawInt ((i : Int) + 1)) >>= _) _ _ s
  refine wpAny_bind (wpAny_setField ho hd (by simp) ?_)
  have hit' : (s.heap.update it (Obj.mapFields (·.setIfInBounds 1 (rawInt ((i : Int) + 1))))).IsKeyIter it d (i + 1) n ep :=
    ⟨_, Heap.get?_update_self _ ho (Obj.isFreed_of_fields (Obj.data_mapFields hd _)), (Obj.cls_mapFields ..).trans hc, by rw [Obj.data_mapFields hd]; simp [rawInt]⟩
  refine wpAny_bind (wpAny_holding ?_)
  refine wpAny_bind (wpAny_isOneOf_keyiter (s := { s with heap := s.heap.update it (Obj.mapFields (·.setIfInBounds 1 (rawInt ((i : Int) + 1)))) }) hit'.typeIs ?_)
  show wpAny _ _ (pure es[i].key) _ _ _
  rw [hen]
  exact wpAny_pure (wpAny_pure ⟨_, rfl, wpAny_pure (hQ _ hit' (Heap.SameBut.update ..))⟩)
theorem next_key_end {it d : Addr} {i n ep : Nat} {od : Obj} {es : Array DictEntry} {Q : Option Value → Shared → Prop} (hh : A.handled = none) (hit : s.heap.IsKeyIter it d i n ep) (hod : s.heap.get? d = some od) (hdd : od.data = .dict es ep)
    (hsz : es.size = n) (hge : n ≤ i) (hQ : ∀ h', Heap.ExtBut it s.heap h' → Q none { s with heap := h' }) : wpAny (model prog w) A (pyNext (.ref it)) Q E s := by
  obtain ⟨o, ho, hc, hd⟩ := id hit
  unfold pyNext
  refine wpAny_bind (wpAny_attempt (wpAny_callSpecial?_slot (name := Str.ofString "__next__") hit.typeIs F.slot_dict_keyiterator_next
    (wpAny_call_entry F.slot_dict_keyiterator_next hit.typeIs F.entry_dict_keyiterator_next ?_ (F.args_dict_keyiterator_next_1 _))))
  refine wpAny_bind (wpAny_pure ?_)
  refine wpAny_bind ?_
  refine wpAny_bind ?_
  first | refine wpAny_bind (wpAny_typeNameOfWhole_keyiter hit.typeIs (wpAny_pure ?_)) | refine wpAny_bind (wpAny_typeNameOf_keyiter hit.typeIs (wpAny_pure ?_))
  refine wpAny_bind (wpAny_fieldsOf ho hd ?_)
  have hown : Builtin.Dict_items.ownsTuple "dict_keyiterator" = false := by decide
  simp only [hown, Bool.false_eq_true, if_false]
  show wpAny _ _ (if (Value.ref d == Value.none) = true then _ else _) _ _ s
  rw [if_neg (show ¬ ((Value.ref d == Value.none) = true) from Bool.false_ne_true)]
  refine wpAny_bind (wpAny_pure ?_)
  refine wpAny_bind (wpAny_dictEntries hod hdd ?_)
  rw [if_neg (by rw [hsz]; simp)]
  refine wpAny_bind (wpAny_pure ?_)
  refine wpAny_bind (wpAny_dictEpoch hod hdd ?_)
  rw [if_neg (by simp)]
  refine wpAny_pure ?_
  have hge' : es.size ≤ i := by rw [hsz]; exact hge
  simp only [show ¬ ((i : Int) < 0) from by omega, if_false, Int.toNat_natCast, Array.getElem?_eq_none hge']
  refine wpAny_bind ?_
  first | refine wpAny_bind (wpAny_typeNameOfWhole_keyiter hit.typeIs (wpAny_pure ?_)) | refine wpAny_bind (wpAny_typeNameOf_keyiter hit.typeIs (wpAny_pure ?_))
  show wpAny _ _ (setField (.ref it) 0 .none >>= _) _ _ s
  refine wpAny_bind (wpAny_setField ho hd (by simp) ?_)
  show wpAny _ _ (newExc (.type "StopIteration") [] >>= _) _ _ _
  refine wpAny_bind ?_
  simp only [newExc, newTuple]
  refine wpAny_bind (wpAny_newObj_type ?_ (by size_fits))
  refine wpAny_bind (m := firstArgMember _ _) (wpAny_of_eq (a := Value.none) (by first | rfl | (simp only [firstArgMember]; rfl)) ?_)
  refine wpAny_newObj_type ?_ (by size_fits)
  simp only [raiseNew]
  refine wpAny_bind (wpAny_handled ?_)
  rw [show A.in1.handled = none from hh]
  refine wpAny_bind (wpAny_pure (wpAny_throw ?_))
  refine wpAny_bind (wpAny_isInstance (T := "StopIteration") (b := true) ⟨_, Heap.get?_push_size _ rfl, rfl⟩ isSubtype_stop ?_)
  exact wpAny_pure (hQ _ (((Heap.SameBut.update ..).extBut.push _).push _))
end
theorem paired_get {α β : Type} {G : α → β → Prop} {l₁ : List α} {l₂ : List β} (h : Paired G l₁ l₂) : ∀ {i : Nat} {a : α}, l₁[i]? = some a → ∃ b, l₂[i]? = some b ∧ G a b := by
  induction h with
  | nil => intro i a e; simp at e
  | @cons a b l₁ l₂ r t ih =>
    intro i a' e
    cases i with
    | zero =>
      simp only [List.getElem?_cons_zero, Option.some.injEq] at e
      subst e
      exact ⟨b, rfl, r⟩
    | succ j =>
      simp only [List.getElem?_cons_succ] at e ⊢
      exact ih e
section
variable {X : Cx} {pins : List (Addr × Obj)} {σ : St} {H : Hp} {s : Shared} {d : Addr} {o : Obj}
end
theorem dict_ep {o : Obj} {es es' : Array DictEntry} {ep ep' : Nat} (h : o.data = .dict es ep) (h' : o.data = .dict es' ep') : es' = es ∧ ep' = ep := by
  rw [h] at h'
  cases h'
  exact ⟨rfl, rfl⟩
section
variable {P : Program} {w : World} {K : PySem.W.Frag} {tg : Expr} {d : Addr} {o : Obj} {es : Array DictEntry} {ep : Nat}
end
section
variable {X : Cx} {tg e : Expr} {td : TE} {apos cpos : Pos}
end
noncomputable def Ite (K : PySem.W.Frag) (a : Addr) : It :=
  ⟨fun i H => ∃ (xs : List V) (x : V), SqL K H a xs ∧ xs[i]? = some x, fun i H v H' => ∃ T x, v = .ref T ∧ H T = none ∧ H' = upd H T (.tup [.int (i : Nat), x]) ∧ ∀ xs, SqL K H a xs → xs[i]? = some x, fun i H => ∃ xs : List V, SqL K H a xs ∧ xs.length ≤ i⟩
theorem turn_enum {P : Program} {w : World} {K : PySem.W.Frag} {elts : List Expr} {kk : Nat} {tpos : Pos} (a e it : Addr) :
    Turn P w K (.Tuple elts kk tpos) (Ite K a) [e, it] e (fun i h => (∃ old, IsEnum h e it ((i : Nat) : Int) old) ∧ h.IsListIter it a i ∧ e ≠ it) where
  mem := by simp
  obj := fun i h st b hb => by
    obtain ⟨⟨old, he⟩, ⟨o, ho, hc, hd⟩, _⟩ := st
    have e' : b = e ∨ b = it := by simpa using hb
    rcases e' with z | z
    · rw [z]; exact ⟨_, he, fun v q => nomatch q⟩
    · rw [z]; exact ⟨o, ho, fun v q => by rw [hd] at q; cases q⟩
  keep := fun i h h' st k => let ⟨⟨old, he⟩, hi, hne⟩ := st; ⟨⟨old, k e (by simp) _ he⟩, hi.at fun o q => k it (by simp) o q, hne⟩
  item := by
    intro X hP hw hK hc i pins s σ H E I hf st hg
    subst hP hw hK
    obtain ⟨⟨old, he⟩, hit, hne⟩ := st
    obtain ⟨xs, x, hq, hx⟩ := hg
    obtain ⟨its, rv, p, hz⟩ := I.list hq
    obtain ⟨u, hu, ru⟩ := rv.get hx
    have hel : e < s.heap.objs.size := Heap.lt_size he
    have hil : it < s.heap.objs.size := by obtain ⟨_, q, _⟩ := hit; exact Heap.lt_size q
    refine wpAny_pyNext_enum_item he hit p.isList (x := u) (by simpa using hu) hne fun h' ho hit' hT hsz hk => ?_
    refine ⟨_, rfl, wpAny_letOwnedTupleGo_enum (s := { s with heap := h', toks := s.toks + 1 }) ho fun h'' he' sb => ?_⟩
    have hT2 : h''.get? s.heap.objs.size = some { cls := .type "tuple", data := .seq #[.int i s.toks, u] } := (sb.2 _ (Nat.ne_of_gt hel)).trans hT
    have new : ObjOk X.prog X.w (upd H s.heap.objs.size (.tup [.int (i : Nat), x])) h'' s.heap.objs.size (.tup [.int (i : Nat), x]) :=
      ⟨by show 2 ≤ sizeLine; decide, [.int i s.toks, u], .cons ⟨_, rfl⟩ (.cons ru .nil), ⟨_, hT2, rfl, _, rfl⟩⟩
    have I1 : Inv X pins σ (upd H s.heap.objs.size (.tup [.int (i : Nat), x])) { s with heap := h'', toks := s.toks + 1 } :=
      I.turnedNew (ch := [e, it]) (fun b ob hb q => (sb.2 b (fun z => hb (by simp [z]))).trans (hk b ob (fun z => hb (by simp [z])) (fun z => hb (by simp [z])) q)) hf (Nat.le_refl _) new
    refine ⟨.ref s.heap.objs.size, _, I1, rfl, ⟨_, x, rfl, I.hok.fresh (Nat.le_refl _), rfl, fun ys hy => by rw [I.list_inj hy hq]; exact hx⟩, ⟨⟨u, ?_⟩, hit'.at fun o q => (sb.2 it (Ne.symm hne)).trans q, hne⟩, fun b hb => ?_⟩
    · have e1 : ((i + 1 : Nat) : Int) = (i : Int) + 1 := by omega
      rw [e1]; exact he'
    · have hb' : b < s.heap.objs.size := by
        have e' : b = e ∨ b = it := by simpa using hb
        rcases e' with z | z
        · rw [z]; exact hel
        · rw [z]; exact hil
      rw [upd_ne (Nat.ne_of_lt hb')]
      exact (hf b hb).1
  done := by
    intro X hP hw hK hc i pins s σ H E I hf st hg
    subst hP hw hK
    obtain ⟨⟨old, he⟩, hit, hne⟩ := st
    obtain ⟨xs, hq, hx⟩ := hg
    obtain ⟨its, rv, p, hz⟩ := I.list hq
    obtain ⟨f0, f1, f2, f3, f4, f5⟩ := hf it (by simp)
    have hl := rv.length
    exact wpAny_pyNext_enum_end (I.ok.hd hc) he hit p.isList (by simp; omega) fun h' eb => ⟨rfl, I.turned (t' := s.toks) (fun b o hb q => eb b o hb q) f0 f1 f3 f4 f5⟩
  self := fun A i s Q E st h => let ⟨⟨_, he⟩, _⟩ := st; wpAny_pyIter_enum he h
noncomputable def iEnum (K : PySem.W.Frag) (ta : TA) : TI := fun σ H R => ta σ H fun vs H1 => ∃ a xs, vs = [.ref a] ∧ SqL K H1 a xs ∧ R (Ite K a) H1
theorem pi_enum {X : Cx} {e : Expr} {ta : TA} {p pos tpos : Pos} {elts : List Expr} {kk : Nat} (hg : Gl X "enumerate") (hm : X.mg "enumerate" = none) (ha : PA X [e] ta) (hs : starEach [e] X.env = [(false, eval e X.env)] := by rfl) :
    PI X (.Tuple elts kk tpos) (.Call (.Name "enumerate" p) [e] [] pos) (iEnum X.K ta) := by
  intro pins s σ H R I h
  refine Call_ (ld_blt I hg hm boot_enumerate (PyProof.Rows.callWith_type1 (thn (ha pos pins s σ H _ I h) fun us s1 hm61 => ?_) hs rfl))
  obtain ⟨vs, H1, I1, r1, q1⟩ := hm61
  obtain ⟨a, xs, ex, hq, q⟩ := q1
  subst ex
  cases r1 with
  | cons r rr =>
    cases rr
    cases r
    obtain ⟨its, rv, p', hz⟩ := I1.list hq
    refine call_enumerate_list p'.isList fun h' he hit hsz hk => wpAny_pyIter_enum he ?_
    have I2 : Inv X pins σ H1 { s1 with heap := h' } := I1.kept (t' := s1.toks) hk
    refine ⟨s1.heap.objs.size + 1, [s1.heap.objs.size + 1, s1.heap.objs.size], _, _, H1, rfl, I2, turn_enum a (s1.heap.objs.size + 1) s1.heap.objs.size, ⟨⟨.none, he⟩, hit, Nat.succ_ne_self _⟩, fun b hb => ?_, q⟩
    have e' : b = s1.heap.objs.size + 1 ∨ b = s1.heap.objs.size := by simpa using hb
    have hle : s1.heap.objs.size ≤ b := by
      rcases e' with z | z
      · rw [z]; exact Nat.le_add_right _ _
      · rw [z]; exact Nat.le_refl _
    exact I1.fpOk hle (I1.hok.fresh hle)
end L2
section
namespace Bits
open PySem PyProof.Rows
end Bits
end
section
namespace TL
open PySem PySem.Builtin PySem.Builtin.Str PySem.StrLaws
end TL
end
namespace L2
open PySem PySem.Spec PyProof.Rows
section
variable {X : Cx} {pins : List (Addr × Obj)} {σ : St} {H : Hp} {s : Shared} {Q : VK}
end
section
variable {X : Cx}
end
section
variable {X : Cx} {o e : Expr} {to te : TE}
end
end L2
namespace L2
open PySem PySem.Spec PyProof.Rows
section
variable {X : Cx}
end
end L2
namespace Att
open PySem PySem.W PySem.Calls PyProof.Rows
section
variable {prog : Program} {w : World} {A : Around} {E : Value → Shared → Prop} {s : Shared} {K : Frag}
end
end Att
namespace L2
open PySem PySem.Spec PyProof.Rows
theorem vals_ints : ∀ {vs : List Value} {ns : List Int}, IntsAre vs ns → Vals (ns.map V.int) vs
  | _, _, .nil => .nil
  | _, _, .cons n t h => .cons ⟨t, rfl⟩ (vals_ints h)
noncomputable def Only (H : Hp) : Prop := ∀ b, H b = none ∨ ∃ o xs, H b = some (.frz o (.lst xs))
end L2
namespace L2
open PySem PySem.Spec PyProof.Rows
end L2
namespace L2
open PySem PySem.Spec PyProof.Rows
noncomputable def inClass (s : Stmt) (j : Nat) : Stmt := match s with
  | .ClassDef _ _ _ body _ _ _ _ _ _ _ => body.getD j (.Pass ⟨0, 0, 0, 0⟩)
  | _ => .Pass ⟨0, 0, 0, 0⟩
noncomputable def defArgs (s : Stmt) : Arguments := match s with
  | .FunctionDef _ a _ _ _ _ _ _ _ _ => a
  | _ => { posonlyargs := [], args := [], vararg := none, kwonlyargs := [], kw_defaults := [], kwarg := none, defaults := [] }
noncomputable def defBody (s : Stmt) : List Stmt := match s with
  | .FunctionDef _ _ b _ _ _ _ _ _ _ => b
  | _ => []
noncomputable def defScope (s : Stmt) : Scope := match s with
  | .FunctionDef _ _ _ _ _ _ sc _ _ _ => sc
  | _ => { kind := .function, names := [], isGenerator := false, isCoroutine := false }
noncomputable abbrev CX0 : CXT := fun _ _ _ _ _ _ => False
noncomputable abbrev E0 : XK := fun _ _ _ => False
theorem pass0 {X : Cx} : Passes CX0 X E0 := fun _ _ _ _ _ _ _ h => h.elim
structure Fun (K : PySem.W.Frag) (x qual : Str) (st : Stmt) (f : Addr) (fd : FuncData) : Prop where
  ex : ∃ (oc : Value) (od : Option Addr) (kV doc pm : Value) (an : Option Addr) (cdv ct : Value) (osl : Array (Option Value)),
    fd = PySem.W.fnOf x qual (defArgs st) (defBody st) (defScope st) .none kV doc pm an cdv ct ∧ K.lookup f = some ⟨oc, od, .func fd, osl⟩ ∧ PySem.W.codeIn K cdv qual = true
  kp : PySem.W.keepIn K (.ref f) = true
section
variable {P : Program} {w : World} {K : PySem.W.Frag} {mg : Str → Option Value} {base : Heap}
theorem Fun.ok {x qual : Str} {st : Stmt} {f : Addr} {fd : FuncData} {N ps : List Str} {k : Nat} {sp : Sp} (F : Fun K x qual st f fd) (S : FnScope N ps (defScope st)) (len : ∀ vs H Q E, sp vs H Q E → vs.length = ps.length)
    (hbody : ∀ (cdv : Value) (A : Around) (outer : List Env) (s : Shared) (H : Hp) (vs : List V) (Q : VK) (E : XK), Room k (A.deeper (envOfC qual (defScope st) s.heap.objs.size f cdv)) → sp vs H Q E →
      ∃ t, PSs (cxOf CX0 P w K mg base N qual (defScope st) f cdv A outer s H E).nox (defBody st) t ∧ t { nx := fun _ H' => Q .non H', rt := Q } (start N vs) H) : FnOk P w K mg base CX0 (k + 1) f fd ps sp := by
  obtain ⟨oc, od, kV, doc, pm, an, cdv, ct, osl, rfl, lk, hcd⟩ := F.ex
  refine fn_of lk hcd S len fun A outer s H vs Q E hr hsp => ?_
  obtain ⟨t, h, q⟩ := hbody cdv A outer s H vs Q E hr hsp
  exact ⟨t, h.nox, q⟩
theorem Fun.binds {x qual : Str} {st : Stmt} {f : Addr} {fd : FuncData} {ps : List Str} (F : Fun K x qual st f fd)
    (h : ∀ (kV doc pm : Value) (an : Option Addr) (cdv ct : Value) (us : List Value), us.length = ps.length → bindArgs (PySem.W.fnOf x qual (defArgs st) (defBody st) (defScope st) .none kV doc pm an cdv ct) ⟨us, []⟩ = pure (ps.zip us)) : Binds K fd ps [] := by
  obtain ⟨oc, od, kV, doc, pm, an, cdv, ct, osl, rfl, lk, hcd⟩ := F.ex
  exact .all (h kV doc pm an cdv ct)
theorem fun_mk {x qual : Str} {st : Stmt} {f : Addr} {oc : Value} {od an : Option Addr} {osl : Array (Option Value)} {kV doc pm cdv ct : Value} (l : K.lookup f = some ⟨oc, od, .func (PySem.W.fnOf x qual (defArgs st) (defBody st) (defScope st) .none kV doc pm an cdv ct), osl⟩)
    (c : PySem.W.codeIn K cdv qual = true) (k : PySem.W.keepIn K (.ref f) = true) : Fun K x qual st f (PySem.W.fnOf x qual (defArgs st) (defBody st) (defScope st) .none kV doc pm an cdv ct) := ⟨⟨oc, od, kV, doc, pm, an, cdv, ct, osl, rfl, l, c⟩, k⟩
end
theorem hu_of {A : Around} {k : Nat} (hr : Room k A) : A.units + 1 < cLine := Nat.lt_of_le_of_lt (Nat.add_le_add_left (by decide : 1 ≤ 64) _) hr.units
section
variable {X : Cx}
theorem pv (i : Nat) {x : Str} {pos : Pos} (hN : X.N[i]? = some x := by rfl) (hv : Vis X.env.scope x := by first | exact Or.inl rfl | exact Or.inr (Or.inl rfl) | exact Or.inr (Or.inr rfl)) (hd : (x == ("__debug__" : Str)) = false := by decide)
    (hcd : (x == ("__classdict__" : Str)) = false := by decide) : PE X (.Name x pos) (tVar i) := pe_var hN hv hd hcd
theorem call_lenD : CallR X (.builtin "len") (fun xs H Q => ∃ a kvs, xs = [V.ref a] ∧ H a = some (.dK kvs) ∧ Q (.int kvs.length) H) := by
  intro pins s σ H xs us Q I r h
  obtain ⟨a, kvs, rfl, ha, q⟩ := h
  obtain ⟨u, rfl, ru⟩ := vals1 r
  cases ru
  exact d_len I (.inl ha) fun t s' I' => ⟨.int kvs.length, H, I', ⟨t, rfl⟩, q⟩
end
theorem iteF {A B : Prop} (h : B) : if false = true then A else B := by
  rw [if_neg Bool.false_ne_true]
  exact h
theorem iteT {A B : Prop} (h : A) : if true = true then A else B := by
  rw [if_pos rfl]
  exact h
noncomputable def Same (H H' : Hp) : Prop := ∀ b o, H b = some o → H' b = some o
theorem Same.trans {H H1 H2 : Hp} (a : Same H H1) (b : Same H1 H2) : Same H H2 := fun c o h => b c o (a c o h)
theorem Same.seq {K : PySem.W.Frag} {H H' : Hp} {a : Addr} {xs : List V} (e : Same H H') (h : SqL K H a xs) : SqL K H' a xs := by
  rcases h with (h | ⟨o, h⟩) | h
  · exact .inl (.inl (e _ _ h))
  · exact .inl (.inr ⟨o, e _ _ h⟩)
  · exact .inr h
section
variable {κ : Type} [DecidableEq κ]
end
theorem at_of {xs : List V} {z : Int} {j : Nat} {v : V} (e : z = (j : Int)) (h : xs[j]? = some v) : atI xs z = some v := by
  rw [e]
  exact atI_nat h
theorem nd_ix {α : Type} {l : List α} (hN : l.Nodup) {i j : Nat} {x : α} (a : l[i]? = some x) (b : l[j]? = some x) : i = j := by
  obtain ⟨h1, e1⟩ := List.getElem?_eq_some_iff.mp a
  obtain ⟨h2, e2⟩ := List.getElem?_eq_some_iff.mp b
  exact (List.getElem_inj hN).mp (e1.trans e2.symm)
end L2
end
section
set_option linter.all false
namespace R46
open Sf46
section
variable {α β : Type} [BEq α] [LawfulBEq α] [DecidableEq α]
theorem look_nil (k : α) : look ([] : List (α × β)) k = none := rfl
theorem look_cons (p : α × β) (l : List (α × β)) (k : α) : look (p :: l) k = if p.1 = k then some p.2 else look l k := by
  unfold look
  rw [List.find?_cons]
  by_cases h : p.1 = k
  · simp [h]
  · have h' : (p.1 == k) = false := beq_eq_false_iff_ne.mpr h
    simp [h, h']
theorem look_filter (q : α → Bool) (k : α) : ∀ l : List (α × β), look (l.filter fun p => q p.1) k = if q k = true then look l k else none
  | [] => by simp [look_nil]
  | p :: l => by
    rw [List.filter_cons]
    by_cases hq : q p.1 = true
    · rw [if_pos hq, look_cons, look_cons, look_filter q k l]
      by_cases h : p.1 = k
      · subst h; simp [hq]
      · simp [h]
    · rw [if_neg hq, look_filter q k l, look_cons]
      by_cases h : p.1 = k
      · subst h; simp [hq]
      · simp [h]
theorem look_put (l : List (α × β)) (k k' : α) (v : Option β) : look (put l k v) k' = if k' = k then v else look l k' := by
  have hf := look_filter (fun x => !(x == k)) k' l
  unfold put
  cases v with
  | none =>
    show look (l.filter fun p => !(p.1 == k)) k' = _
    rw [hf]
    by_cases h : k' = k
    · simp [h]
    · simp [h]
  | some v =>
    show look ((k, v) :: l.filter fun p => !(p.1 == k)) k' = _
    rw [look_cons, hf]
    by_cases h : k' = k
    · simp [h]
    · have h' : ¬ k = k' := fun e => h e.symm
      simp [h, h']
theorem look_some_mem {l : List (α × β)} {k : α} {v : β} (h : look l k = some v) : (k, v) ∈ l := by
  unfold look at h
  cases hf : l.find? fun p => p.1 == k with
  | none => rw [hf] at h; cases h
  | some p =>
    rw [hf] at h
    have h1 := List.find?_some hf
    have h2 := List.mem_of_find?_eq_some hf
    have e1 : p.1 = k := by simpa using h1
    have e2 : p.2 = v := by simpa using h
    rw [← e1, ← e2]; exact h2
theorem look_none {l : List (α × β)} {k : α} : look l k = none ↔ ∀ p ∈ l, p.1 ≠ k := by
  unfold look
  rw [Option.map_eq_none_iff, List.find?_eq_none]
  constructor
  · intro h p hp e; exact h p hp (by simp [e])
  · intro h p hp e; exact h p hp (by simpa using e)
theorem look_isSome {l : List (α × β)} {k : α} : (look l k).isSome = true ↔ ∃ p ∈ l, p.1 = k := by
  cases h : look l k with
  | none =>
    have := look_none.mp h
    constructor
    · intro e; cases e
    · rintro ⟨p, hp, e⟩; exact absurd e (this p hp)
  | some v =>
    constructor
    · intro _; exact ⟨_, look_some_mem h, rfl⟩
    · intro _; rfl
theorem mem_put {l : List (α × β)} {k : α} {v : Option β} {p : α × β} (h : p ∈ put l k v) : p ∈ l ∨ (p.1 = k ∧ v = some p.2) := by
  unfold put at h
  cases v with
  | none => exact .inl (List.mem_filter.mp h).1
  | some v =>
    rcases List.mem_cons.mp h with e | h
    · subst e; exact .inr ⟨rfl, rfl⟩
    · exact .inl (List.mem_filter.mp h).1
end
noncomputable def lt (a b : Net) : Prop := a.1 < b.1 ∨ (a.1 = b.1 ∧ a.2 < b.2)
theorem before_iff {a b : Net} : before a b = true ↔ lt a b ∨ a = b := by
  obtain ⟨a1, a2⟩ := a
  obtain ⟨b1, b2⟩ := b
  simp only [before, lt, Bool.or_eq_true, Bool.and_eq_true, decide_eq_true_eq, beq_iff_eq, Prod.mk.injEq]
  omega
theorem lt_irrefl (a : Net) : ¬ lt a a := by unfold lt; omega
theorem lt_trans {a b c : Net} (h : lt a b) (h' : lt b c) : lt a c := by unfold lt at *; omega
theorem lt_total (a b : Net) : lt a b ∨ a = b ∨ lt b a := by
  obtain ⟨a1, a2⟩ := a
  obtain ⟨b1, b2⟩ := b
  simp only [lt, Prod.mk.injEq]; omega
theorem mem_sorted {l : List Net} {n : Net} : n ∈ sorted l ↔ n ∈ l := by
  unfold sorted
  rw [List.mem_mergeSort, List.mem_eraseDups]
theorem eraseDups_nodup {α : Type} [BEq α] [LawfulBEq α] : ∀ (k : Nat) (l : List α), l.length ≤ k → l.eraseDups.Nodup
  | 0, l, h => by
    have : l = [] := List.length_eq_zero_iff.mp (by omega)
    subst this; simp
  | k + 1, [], _ => by simp
  | k + 1, a :: l, h => by
    rw [List.eraseDups_cons, List.nodup_cons]
    refine ⟨fun hm => ?_, eraseDups_nodup k _ ?_⟩
    · rw [List.mem_eraseDups] at hm
      have := (List.mem_filter.mp hm).2
      simp at this
    · have := List.length_filter_le (fun b => !b == a) l
      simp only [List.length_cons] at h
      omega
theorem sorted_strict (l : List Net) : (sorted l).Pairwise lt := by
  have h1 : (sorted l).Pairwise (fun a b => before a b = true) := by
    unfold sorted
    refine List.pairwise_mergeSort (fun a b c h h' => ?_) (fun a b => ?_) _
    · rw [before_iff] at *
      rcases h with h | h
      · rcases h' with h' | h'
        · exact .inl (lt_trans h h')
        · subst h'; exact .inl h
      · subst h; exact h'
    · rw [Bool.or_eq_true, before_iff, before_iff]
      rcases lt_total a b with h | h | h
      · exact .inl (.inl h)
      · exact .inl (.inr h)
      · exact .inr (.inl h)
  have h2 : (sorted l).Nodup := by
    unfold sorted
    exact (List.mergeSort_perm _ _).nodup_iff.mpr (eraseDups_nodup _ _ (Nat.le_refl _))
  have h3 := List.Pairwise.and h1 h2
  exact h3.imp fun {a b} h => (before_iff.mp h.1).resolve_right h.2
theorem strict_nodup {l : List Net} (h : l.Pairwise lt) : l.Nodup := h.imp fun {a b} h e => by subst e; exact lt_irrefl _ h
theorem strict_eq : ∀ {l m : List Net}, l.Pairwise lt → m.Pairwise lt → (∀ n, n ∈ l ↔ n ∈ m) → l = m
  | [], [], _, _, _ => rfl
  | [], b :: m, _, _, h => by have := (h b).mpr (by simp); simp at this
  | a :: l, [], _, _, h => by have := (h a).mp (by simp); simp at this
  | a :: l, b :: m, hl, hm, h => by
    rw [List.pairwise_cons] at hl hm
    have e : a = b := by
      rcases List.mem_cons.mp ((h a).mp (by simp)) with e | e
      · exact e
      · rcases List.mem_cons.mp ((h b).mpr (by simp)) with e' | e'
        · exact e'.symm
        · exact absurd (lt_trans (hl.1 b e') (hm.1 a e)) (lt_irrefl _)
    subst e
    congr 1
    refine strict_eq hl.2 hm.2 fun n => ?_
    constructor
    · intro hn
      rcases List.mem_cons.mp ((h n).mp (List.mem_cons_of_mem _ hn)) with e | e
      · subst e; exact absurd (hl.1 _ hn) (lt_irrefl _)
      · exact e
    · intro hn
      rcases List.mem_cons.mp ((h n).mpr (List.mem_cons_of_mem _ hn)) with e | e
      · subst e; exact absurd (hm.1 _ hn) (lt_irrefl _)
      · exact e
theorem sorted_is {l m : List Net} (hm : m.Pairwise lt) (h : ∀ n, n ∈ m ↔ n ∈ l) : sorted l = m :=
  strict_eq (sorted_strict l) hm fun n => mem_sorted.trans (h n).symm
noncomputable def NetOk (n : Net) : Prop := n.1 < 2 ^ 32 ∧ n.2 ≤ 32 ∧ n.1 % 2 ^ (32 - n.2) = 0
noncomputable def RtOk (r : Route) : Prop := 1 ≤ r.path.length ∧ r.path.length ≤ 16
structure Ok (s : St) : Prop where
  peers : s.peers.length = 8
  held : ∀ x ∈ s.held, (s.peer x.1.1).isSome = true ∧ NetOk x.1.2 ∧ RtOk x.2
  told : ∀ x ∈ s.told, (s.peer x.1.1).isSome = true ∧ NetOk x.1.2 ∧ 1 ≤ x.2.1.length ∧ x.2.1.length ≤ 16
  row : ∀ x ∈ s.row, (s.peer x.1).isSome = true ∧ NetOk x.2
  rowNd : s.row.Nodup
theorem peer_lt {s : St} (o : s.peers.length = 8) {k : Nat} (h : (s.peer k).isSome = true) : k < 8 := by
  unfold St.peer at h
  rcases Nat.lt_or_ge k 8 with h' | h'
  · exact h'
  · rw [List.getElem?_eq_none (by omega)] at h; cases h
theorem look_held {s : St} {k : Nat} {n : Net} (o : Ok s) (h : (s.peer k).isSome = false) : look s.held (k, n) = none :=
  look_none.mpr fun p hp e => by
    have := (o.held p hp).1
    rw [e, h] at this; cases this
theorem look_told {s : St} {k : Nat} {n : Net} (o : Ok s) (h : (s.peer k).isSome = false) : look s.told (k, n) = none :=
  look_none.mpr fun p hp e => by
    have := (o.told p hp).1
    rw [e, h] at this; cases this
theorem mem_nets {s : St} {n : Net} : n ∈ s.nets ↔ ∃ k, (look s.held (k, n)).isSome = true := by
  unfold St.nets
  rw [mem_sorted, List.mem_map]
  constructor
  · rintro ⟨p, hp, e⟩
    exact ⟨p.1.1, look_isSome.mpr ⟨p, hp, Prod.ext rfl e⟩⟩
  · rintro ⟨k, h⟩
    obtain ⟨p, hp, e⟩ := look_isSome.mp h
    exact ⟨p, hp, by rw [e]⟩
theorem mem_known {s : St} {n : Net} : n ∈ s.known ↔ ∃ k, (look s.held (k, n)).isSome = true ∨ (look s.told (k, n)).isSome = true := by
  unfold St.known
  rw [mem_sorted, List.mem_append, List.mem_map, List.mem_map]
  constructor
  · rintro (⟨p, hp, e⟩ | ⟨p, hp, e⟩)
    · exact ⟨p.1.1, .inl (look_isSome.mpr ⟨p, hp, Prod.ext rfl e⟩)⟩
    · exact ⟨p.1.1, .inr (look_isSome.mpr ⟨p, hp, Prod.ext rfl e⟩)⟩
  · rintro ⟨k, h | h⟩
    · obtain ⟨p, hp, e⟩ := look_isSome.mp h
      exact .inl ⟨p, hp, by rw [e]⟩
    · obtain ⟨p, hp, e⟩ := look_isSome.mp h
      exact .inr ⟨p, hp, by rw [e]⟩
theorem known_length {s : St} {m : List Net} (hm : m.Nodup) (h : ∀ n, n ∈ m ↔ n ∈ s.known) : s.known.length = m.length := by
  have h1 : s.known.Nodup := strict_nodup (sorted_strict _)
  exact (List.perm_ext_iff_of_nodup h1 hm).mpr (fun n => (h n).symm) |>.length_eq
theorem peer_mapIdx (l : List (Option Peer)) (j : Nat) (v : Option Peer) (k : Nat) (hj : j < l.length) :
    ((l.mapIdx fun i p => if i = j then v else p)[k]?).bind id = if k = j then v else (l[k]?).bind id := by
  rw [List.getElem?_mapIdx]
  by_cases h : k = j
  · subst h
    rw [List.getElem?_eq_getElem hj]
    simp
  · rw [if_neg h]
    cases l[k]? with
    | none => rfl
    | some p => simp [h]
noncomputable def lookOne (s : St) (n : Net) (r : List (Nat × Net)) (k : Nat) : List (Nat × Net) :=
  if (s.peer k).isSome = true then
    (if s.should k n ≠ look s.told (k, n) then (if (k, n) ∈ r then r else r ++ [(k, n)]) else r.filter fun x => decide (x ≠ (k, n)))
  else r
theorem filter_same {α : Type} {l : List α} {p : α → Bool} (h : ∀ a ∈ l, p a = true) : l.filter p = l := List.filter_eq_self.mpr h
theorem mem_lookOne {s : St} {n : Net} {r : List (Nat × Net)} {k : Nat} {x : Nat × Net} (h : x ∈ lookOne s n r k) : x ∈ r ∨ (x = (k, n) ∧ (s.peer k).isSome = true) := by
  unfold lookOne at h
  split at h
  · rename_i hk
    split at h
    · split at h
      · exact .inl h
      · rcases List.mem_append.mp h with h | h
        · exact .inl h
        · exact .inr ⟨by simpa using h, hk⟩
    · exact .inl (List.mem_filter.mp h).1
  · exact .inl h
theorem nodup_lookOne {s : St} {n : Net} {r : List (Nat × Net)} {k : Nat} (h : r.Nodup) : (lookOne s n r k).Nodup := by
  unfold lookOne
  split
  · split
    · split
      · exact h
      · rename_i hx
        rw [List.nodup_append]
        refine ⟨h, by simp, fun a ha b hb e => ?_⟩
        simp only [List.mem_singleton] at hb
        subst hb; subst e; exact hx ha
    · exact h.filter _
  · exact h
theorem lookAt_row {s : St} {n : Net} : ∀ (ks : List Nat) (r : List (Nat × Net)), (∀ x ∈ r, (s.peer x.1).isSome = true) →
    ks.foldl (fun r k => if (s.peer k).isSome = true ∧ s.should k n ≠ look s.told (k, n) then (if r.contains (k, n) = true then r else r ++ [(k, n)]) else r.filter fun x => x != (k, n)) r = ks.foldl (lookOne s n) r
  | [], _, _ => rfl
  | k :: ks, r, hr => by
    rw [List.foldl_cons, List.foldl_cons]
    have e : (if (s.peer k).isSome = true ∧ s.should k n ≠ look s.told (k, n) then (if r.contains (k, n) = true then r else r ++ [(k, n)]) else r.filter fun x => x != (k, n)) = lookOne s n r k := by
      unfold lookOne
      by_cases hk : (s.peer k).isSome = true
      · by_cases hs : s.should k n ≠ look s.told (k, n)
        · rw [if_pos ⟨hk, hs⟩, if_pos hk, if_pos hs]
          by_cases hc : (k, n) ∈ r
          · rw [if_pos hc, if_pos (by simpa using hc)]
          · rw [if_neg hc, if_neg (by simpa using hc)]
        · rw [if_neg (fun h => hs h.2), if_pos hk, if_neg hs]
          congr 1
          funext x
          by_cases hx : x = (k, n)
          · simp [hx]
          · simp [hx]
      · rw [if_neg (fun h => hk h.1), if_neg hk]
        refine filter_same fun x hx => ?_
        have : x ≠ (k, n) := fun e => hk (by have := hr x hx; rw [e] at this; exact this)
        simpa using this
    rw [e]
    refine lookAt_row ks _ fun x hx => ?_
    rcases mem_lookOne hx with h | ⟨h, h'⟩
    · exact hr x h
    · rw [h]; exact h'
theorem foldl_inv {α β : Type} {f : β → α → β} {P : β → Prop} (h : ∀ b a, P b → P (f b a)) : ∀ (l : List α) (b : β), P b → P (l.foldl f b)
  | [], _, hb => hb
  | a :: l, b, hb => foldl_inv h l _ (h b a hb)
theorem Ok.lookAt {s : St} (o : Ok s) {n : Net} (hn : NetOk n) : Ok (s.lookAt n) := by
  have hrow : (s.lookAt n).row = (List.range 8).foldl (lookOne s n) s.row := lookAt_row _ _ fun x hx => (o.row x hx).1
  refine ⟨o.peers, o.held, o.told, fun x hx => ?_, ?_⟩
  · rw [hrow] at hx
    have := foldl_inv (f := lookOne s n) (P := fun r => ∀ x ∈ r, (s.peer x.1).isSome = true ∧ NetOk x.2) (fun r k hr x hx => by
      rcases mem_lookOne hx with h | ⟨h, h'⟩
      · exact hr x h
      · rw [h]; exact ⟨h', hn⟩) (List.range 8) s.row o.row
    exact this x hx
  · rw [hrow]
    exact foldl_inv (f := lookOne s n) (P := fun r => r.Nodup) (fun r k hr => nodup_lookOne hr) (List.range 8) s.row o.rowNd
theorem isNet_ok {net : Nat} {bits : Int} (hn : net < 2 ^ 32) (h : isNet net bits = true) : NetOk (net, bits.toNat) := by
  simp only [isNet, Bool.and_eq_true, decide_eq_true_eq, beq_iff_eq] at h
  exact ⟨hn, by show bits.toNat ≤ 32; omega, h.2.2⟩
theorem should_len {s : St} (o : Ok s) {k : Nat} {n : Net} {p : List Nat × Nat} (h : s.should k n = some p) : 1 ≤ p.1.length ∧ p.1.length ≤ 16 := by
  unfold St.should at h
  split at h
  · cases h
  · split at h
    · rename_i b _ hb
      cases h
      simp only [List.length_cons]; omega
    · cases h
theorem first_mem {s : St} : ∀ {l : List (Nat × Net)} {x : Nat × Net} {t : Told} {r : List (Nat × Net)}, s.first l = some (x, t, r) → ∃ pre, l = pre ++ x :: r ∧ t = s.should x.1 x.2
  | [], _, _, _, h => by simp [St.first] at h
  | y :: l, x, t, r, h => by
    unfold St.first at h
    split at h
    · obtain ⟨pre, e, e'⟩ := first_mem h
      exact ⟨y :: pre, by rw [e]; rfl, e'⟩
    · simp only [Option.some.injEq, Prod.mk.injEq] at h
      obtain ⟨rfl, rfl, rfl⟩ := h
      exact ⟨[], rfl, rfl⟩
end R46
end
section
set_option linter.all false
namespace R46
open Sf46
noncomputable def CallOk : Call → Prop
  | .begin_ _ => True
  | .up _ _ _ => True
  | .down _ => True
  | .tell _ r => r.net < 2 ^ 32 ∧ r.path.length = 16
  | .back _ net _ => net < 2 ^ 32
  | .next => True
  | .best net _ => net < 2 ^ 32
  | .send _ => True
  | .count => True
theorem peer_of {s t : St} (h : s.peers = t.peers) (k : Nat) : s.peer k = t.peer k := by unfold St.peer; rw [h]
theorem empty_ok (z : Nat) : Ok (empty z) := ⟨rfl, fun x hx => (nomatch hx), fun x hx => (nomatch hx), fun x hx => (nomatch hx), List.nodup_nil⟩
theorem empty_peer (z k : Nat) : (empty z).peer k = none := by
  unfold St.peer empty
  cases h : (List.replicate 8 (none : Option Peer))[k]? with
  | none => rfl
  | some p =>
    have := List.mem_of_getElem? h
    rw [List.mem_replicate] at this
    rw [this.2]; rfl
theorem nets_ok {s : St} (o : Ok s) {n : Net} (h : n ∈ s.nets) : NetOk n := by
  unfold St.nets at h
  rw [mem_sorted, List.mem_map] at h
  obtain ⟨p, hp, rfl⟩ := h
  exact (o.held p hp).2.1
theorem isPeer_iff {k : Int} : isPeer k = true ↔ 0 ≤ k ∧ k < 8 := by
  simp [isPeer]
theorem isUp_iff {s : St} {k : Int} : s.isUp k = true ↔ (0 ≤ k ∧ k < 8) ∧ (s.peer k.toNat).isSome = true := by
  simp [St.isUp, isPeer]
noncomputable def downed (s : St) (j : Nat) : St := { s with peers := s.peers.mapIdx fun i p => if i = j then none else p, held := s.held.filter fun p => p.1.1 != j, told := s.told.filter fun p => p.1.1 != j, row := s.row.filter fun x => x.1 != j }
theorem downed_peer {s : St} {j : Nat} (o : s.peers.length = 8) (hj : j < 8) (k : Nat) : (downed s j).peer k = if k = j then none else s.peer k := by
  unfold St.peer downed
  exact peer_mapIdx s.peers j none k (by omega)
theorem Ok.downed {s : St} (o : Ok s) {j : Nat} (hj : j < 8) : Ok (downed s j) := by
  have hp := downed_peer o.peers hj
  refine ⟨?_, fun x hx => ?_, fun x hx => ?_, fun x hx => ?_, o.rowNd.filter _⟩
  · show (s.peers.mapIdx _).length = 8
    rw [List.length_mapIdx]; exact o.peers
  · obtain ⟨h1, h2⟩ := List.mem_filter.mp hx
    have h2' : x.1.1 ≠ j := by simpa using h2
    rw [hp, if_neg h2']; exact o.held x h1
  · obtain ⟨h1, h2⟩ := List.mem_filter.mp hx
    have h2' : x.1.1 ≠ j := by simpa using h2
    rw [hp, if_neg h2']; exact o.told x h1
  · obtain ⟨h1, h2⟩ := List.mem_filter.mp hx
    have h2' : x.1 ≠ j := by simpa using h2
    rw [hp, if_neg h2']; exact o.row x h1
theorem Ok.looks {s : St} (o : Ok s) : ∀ (ns : List Net), (∀ n ∈ ns, NetOk n) → Ok (ns.foldl St.lookAt s)
  | [], _ => o
  | n :: ns, h => Ok.looks (o.lookAt (h n (by simp))) ns fun m hm => h m (by simp [hm])
noncomputable def hold (s : St) (k : Nat) (n : Net) (v : Option Route) : St := { s with held := put s.held (k, n) v }
theorem Ok.hold {s : St} (o : Ok s) {k : Nat} {n : Net} {v : Option Route} (hk : (s.peer k).isSome = true) (hn : NetOk n) (hv : ∀ r, v = some r → RtOk r) : Ok (hold s k n v) := by
  refine ⟨o.peers, fun x hx => ?_, o.told, o.row, o.rowNd⟩
  rcases mem_put hx with h | ⟨h, h'⟩
  · exact o.held x h
  · rw [h]; exact ⟨hk, hn, hv _ h'⟩
theorem Ok.step {s : St} (o : Ok s) {c : Call} (hc : CallOk c) : Ok (spec s c).2 := by
  cases c with
  | begin_ z => exact empty_ok z
  | up k as id =>
    simp only [spec]
    split
    · rename_i h
      obtain ⟨h1, h2⟩ := h
      have h1' := isPeer_iff.mp h1
      have hj : k.toNat < 8 := by omega
      have hp : ∀ i, ({ s with peers := s.peers.mapIdx fun i p => if i = k.toNat then some ⟨as, id⟩ else p, row := s.row ++ s.nets.map fun n => (k.toNat, n) } : St).peer i = if i = k.toNat then some ⟨as, id⟩ else s.peer i := fun i => by
        unfold St.peer
        exact peer_mapIdx s.peers k.toNat _ i (by rw [o.peers]; exact hj)
      have up : ∀ i, (s.peer i).isSome = true → (({ s with peers := s.peers.mapIdx fun i p => if i = k.toNat then some ⟨as, id⟩ else p, row := s.row ++ s.nets.map fun n => (k.toNat, n) } : St).peer i).isSome = true := fun i hi => by
        rw [hp]; split
        · rfl
        · exact hi
      refine ⟨by show (s.peers.mapIdx _).length = 8; rw [List.length_mapIdx]; exact o.peers, fun x hx => ⟨up _ (o.held x hx).1, (o.held x hx).2⟩, fun x hx => ⟨up _ (o.told x hx).1, (o.told x hx).2⟩, fun x hx => ?_, ?_⟩
      · rcases List.mem_append.mp hx with h | h
        · exact ⟨up _ (o.row x h).1, (o.row x h).2⟩
        · obtain ⟨n, hn, rfl⟩ := List.mem_map.mp h
          refine ⟨?_, nets_ok o hn⟩
          rw [hp, if_pos rfl]; rfl
      · show (s.row ++ s.nets.map fun n => (k.toNat, n)).Nodup
        rw [List.nodup_append]
        refine ⟨o.rowNd, ?_, fun a ha b hb e => ?_⟩
        · refine List.Pairwise.map _ (fun a b hab e => hab ?_) (strict_nodup (show s.nets.Pairwise lt from sorted_strict _))
          simpa using e
        · obtain ⟨n, hn, rfl⟩ := List.mem_map.mp hb
          subst e
          have := (o.row _ ha).1
          rw [Option.isNone_iff_eq_none] at h2
          rw [h2] at this; cases this
    · exact o
  | down k =>
    simp only [spec]
    split
    · rename_i h
      obtain ⟨h1, h2⟩ := isUp_iff.mp h
      refine Ok.looks (o.downed (j := k.toNat) (by omega)) _ fun n hn => ?_
      rw [mem_sorted, List.mem_map] at hn
      obtain ⟨p, hp, rfl⟩ := hn
      exact (o.held p (List.mem_filter.mp hp).1).2.1
    · exact o
  | tell k r =>
    obtain ⟨c1, c2⟩ := hc
    simp only [spec]
    split
    · rename_i h
      obtain ⟨h1, h2, h3, h4, h5⟩ := h
      obtain ⟨u1, u2⟩ := isUp_iff.mp h1
      generalize hv : (if (r.path.take r.count.toNat).contains s.self = true then none else some (⟨r.path.take r.count.toNat, r.pref, r.origin, r.med⟩ : Route)) = v
      split
      · exact o
      · refine (o.hold (k := k.toNat) (n := (r.net, r.bits.toNat)) (v := v) u2 (isNet_ok c1 h2) fun r' e => ?_).lookAt (isNet_ok c1 h2)
        subst hv
        split at e
        · cases e
        · cases e
          show 1 ≤ (r.path.take r.count.toNat).length ∧ (r.path.take r.count.toNat).length ≤ 16
          rw [List.length_take, c2]
          omega
    · exact o
  | back k net bits =>
    simp only [spec]
    split
    · rename_i h
      obtain ⟨h1, h2⟩ := h
      obtain ⟨u1, u2⟩ := isUp_iff.mp h1
      split
      · exact (o.hold (k := k.toNat) (n := (net, bits.toNat)) (v := none) u2 (isNet_ok hc h2) fun r' e => nomatch e).lookAt (isNet_ok hc h2)
      · exact o
    · exact o
  | next =>
    simp only [spec]
    split
    · exact ⟨o.peers, o.held, o.told, fun x hx => (nomatch hx), List.nodup_nil⟩
    · rename_i x t r h
      obtain ⟨pre, e, e'⟩ := first_mem h
      have hx : x ∈ s.row := by rw [e]; simp
      refine ⟨o.peers, o.held, fun y hy => ?_, fun y hy => o.row y (by rw [e]; exact List.mem_append_right _ (List.mem_cons_of_mem _ hy)), ?_⟩
      · rcases mem_put hy with h | ⟨h, h'⟩
        · exact o.told y h
        · rw [h]
          exact ⟨(o.row x hx).1, (o.row x hx).2, should_len o (e'.symm.trans h')⟩
      · have := o.rowNd
        rw [e, List.nodup_append] at this
        exact (List.nodup_cons.mp this.2.1).2
  | best net bits =>
    simp only [spec]
    split
    · split <;> exact o
    · exact o
  | send a => exact o
  | count => exact o
end R46
end
section
set_option linter.all false
namespace R46
open Sf46
noncomputable def N32 (z : Int) : Prop := 0 ≤ z ∧ z < 2 ^ 32
noncomputable def I32 (z : Int) : Prop := -(2 ^ 31) ≤ z ∧ z < 2 ^ 31
theorem natural_iff {z : Int} : Sf46Neutral.natural z 32 = true ↔ N32 z := by
  simp only [Sf46Neutral.natural, N32, Bool.and_eq_true, decide_eq_true_eq]
theorem whole_iff {z : Int} : Sf46Neutral.whole32 z = true ↔ I32 z := by
  simp only [Sf46Neutral.whole32, I32, Bool.and_eq_true, decide_eq_true_eq]
inductive Line : List Int → List Call → Prop
  | nil : Line [] []
  | begin_ {z rest cs} : N32 z → Line rest cs → Line (1 :: z :: rest) (.begin_ z.toNat :: cs)
  | up {k a i rest cs} : I32 k → N32 a → N32 i → Line rest cs → Line (2 :: k :: a :: i :: rest) (.up k a.toNat i.toNat :: cs)
  | down {k rest cs} : I32 k → Line rest cs → Line (3 :: k :: rest) (.down k :: cs)
  | tell {k net bits count pref origin med path rest cs} : I32 k → N32 net → I32 bits → I32 count → N32 pref → N32 origin → N32 med → (∀ z ∈ path, N32 z) → path.length = 16 → Line rest cs →
      Line (4 :: k :: net :: bits :: count :: pref :: origin :: med :: 16 :: (path ++ rest)) (.tell k ⟨net.toNat, bits, path.map Int.toNat, count, pref.toNat, origin.toNat, med.toNat⟩ :: cs)
  | back {k net bits rest cs} : I32 k → N32 net → I32 bits → Line rest cs → Line (5 :: k :: net :: bits :: rest) (.back k net.toNat bits :: cs)
  | next {rest cs} : Line rest cs → Line (6 :: rest) (.next :: cs)
  | best {net bits rest cs} : N32 net → I32 bits → Line rest cs → Line (7 :: net :: bits :: rest) (.best net.toNat bits :: cs)
  | send {a rest cs} : N32 a → Line rest cs → Line (8 :: a :: rest) (.send a.toNat :: cs)
  | count {rest cs} : Line rest cs → Line (9 :: rest) (.count :: cs)
noncomputable def outs : St → List Call → List Int
  | _, [] => []
  | s, c :: cs => ((Sf46Neutral.listOf (spec s c).1).length : Int) :: Sf46Neutral.listOf (spec s c).1 ++ outs (spec s c).2 cs
theorem take_of_lt {l : List Int} : ∀ {n : Nat}, ¬ l.length < n → (l.take n).length = n := fun h => by rw [List.length_take]; omega
theorem cut1 {l : List Int} (h : ¬ l.length < 1) : ∃ a r, l = a :: r := by
  cases l with
  | nil => exact absurd (by simp) h
  | cons a r => exact ⟨a, r, rfl⟩
theorem cut2 {l : List Int} (h : ¬ l.length < 2) : ∃ a b r, l = a :: b :: r := by
  obtain ⟨a, r, rfl⟩ := cut1 (l := l) (by omega)
  obtain ⟨b, r, rfl⟩ := cut1 (l := r) (by simp only [List.length_cons] at h; omega)
  exact ⟨a, b, r, rfl⟩
theorem cut3 {l : List Int} (h : ¬ l.length < 3) : ∃ a b c r, l = a :: b :: c :: r := by
  obtain ⟨a, b, r, rfl⟩ := cut2 (l := l) (by omega)
  obtain ⟨c, r, rfl⟩ := cut1 (l := r) (by simp only [List.length_cons] at h; omega)
  exact ⟨a, b, c, r, rfl⟩
theorem cut7 {l : List Int} (h : ¬ l.length < 7) : ∃ a b c d e f g r, l = a :: b :: c :: d :: e :: f :: g :: r := by
  obtain ⟨a, b, c, r, rfl⟩ := cut3 (l := l) (by omega)
  obtain ⟨d, e, f, r, rfl⟩ := cut3 (l := r) (by simp only [List.length_cons] at h; omega)
  obtain ⟨g, r, rfl⟩ := cut1 (l := r) (by simp only [List.length_cons] at h; omega)
  exact ⟨a, b, c, d, e, f, g, r, rfl⟩
theorem call_cases {l : List Int} {c : List (List Int)} {t : List Int} (h : PyFlat.call PySf46.shape l = some (c, t)) (ha : Sf46Neutral.asked1 (PySf46.whole c) = true) :
    ∃ q, Sf46Neutral.callOf (PySf46.whole c) = some q ∧ CallOk q ∧ t.length < l.length ∧ ∀ cs, Line t cs → Line l (q :: cs) := by
  cases l with
  | nil => simp [PyFlat.call] at h
  | cons p r =>
    unfold PyFlat.call at h
    unfold PySf46.shape at h
    dsimp only at h
    by_cases p1 : p = 1
    · subst p1
      simp only [if_true] at h
      split at h
      · cases h
      · rename_i hl
        obtain ⟨z, r, rfl⟩ := cut1 hl
        simp only [PyFlat.rows, Option.some.injEq, Prod.mk.injEq, List.drop_succ_cons, List.drop_zero, List.take_succ_cons, List.take_zero] at h
        obtain ⟨rfl, rfl⟩ := h
        have a := natural_iff.mp (show Sf46Neutral.natural z 32 = true from ha)
        exact ⟨_, rfl, trivial, by simp <;> omega, fun cs hcs => .begin_ a hcs⟩
    rw [if_neg p1] at h
    by_cases p2 : p = 2
    · subst p2
      simp only [if_true] at h
      split at h
      · cases h
      · rename_i hl
        obtain ⟨x, y, z, r, rfl⟩ := cut3 hl
        simp only [PyFlat.rows, Option.some.injEq, Prod.mk.injEq, List.drop_succ_cons, List.drop_zero, List.take_succ_cons, List.take_zero] at h
        obtain ⟨rfl, rfl⟩ := h
        have a : (Sf46Neutral.whole32 x && Sf46Neutral.natural y 32 && Sf46Neutral.natural z 32) = true := ha
        simp only [Bool.and_eq_true, whole_iff, natural_iff] at a
        exact ⟨_, rfl, trivial, by simp <;> omega, fun cs hcs => .up a.1.1 a.1.2 a.2 hcs⟩
    rw [if_neg p2] at h
    by_cases p3 : p = 3
    · subst p3
      simp only [if_true] at h
      split at h
      · cases h
      · rename_i hl
        obtain ⟨z, r, rfl⟩ := cut1 hl
        simp only [PyFlat.rows, Option.some.injEq, Prod.mk.injEq, List.drop_succ_cons, List.drop_zero, List.take_succ_cons, List.take_zero] at h
        obtain ⟨rfl, rfl⟩ := h
        have a := whole_iff.mp (show Sf46Neutral.whole32 z = true from ha)
        exact ⟨_, rfl, trivial, by simp <;> omega, fun cs hcs => .down a hcs⟩
    rw [if_neg p3] at h
    by_cases p4 : p = 4
    · subst p4
      simp only [if_true] at h
      split at h
      · cases h
      · rename_i hl
        obtain ⟨k, net, bits, count, pref, origin, med, r, rfl⟩ := cut7 hl
        simp only [List.drop_succ_cons, List.drop_zero, List.take_succ_cons, List.take_zero] at h
        cases r with
        | nil => simp [PyFlat.rows, PyFlat.row] at h
        | cons m r =>
          simp only [PyFlat.rows, PyFlat.row] at h
          by_cases hm : 0 ≤ m ∧ m.toNat ≤ r.length
          · rw [if_pos hm] at h
            simp only [Option.some.injEq, Prod.mk.injEq] at h
            obtain ⟨rfl, rfl⟩ := h
            have a : (Sf46Neutral.whole32 k && Sf46Neutral.natural net 32 && Sf46Neutral.whole32 bits && Sf46Neutral.whole32 count && Sf46Neutral.natural pref 32 && Sf46Neutral.natural origin 32 && Sf46Neutral.natural med 32 &&
              ((r.take m.toNat).all (fun (z : Int) => Sf46Neutral.natural z 32) && Sf46Neutral.long (r.take m.toNat) 16 16 16)) = true := ha
            simp only [Bool.and_eq_true, whole_iff, natural_iff, List.all_eq_true] at a
            obtain ⟨⟨⟨⟨⟨⟨⟨a1, a2⟩, a3⟩, a4⟩, a5⟩, a6⟩, a7⟩, a8, a9⟩ := a
            have a9' : ((r.take m.toNat).length : Int) = 16 := by simpa [Sf46Neutral.long] using a9
            have e16 : (r.take m.toNat).length = 16 := by omega
            have em : m = 16 := by rw [List.length_take] at e16; omega
            subst em
            refine ⟨_, rfl, ⟨?_, ?_⟩, ?_, fun cs hcs => ?_⟩
            · show net.toNat < 2 ^ 32
              have := a2; unfold N32 at this; omega
            · show ((r.take (16 : Int).toNat).map Int.toNat).length = 16
              rw [List.length_map]; exact e16
            · simp only [List.length_cons, List.length_drop]; omega
            · have e : r = r.take (16 : Int).toNat ++ r.drop (16 : Int).toNat := (List.take_append_drop _ _).symm
              conv => arg 1; rw [e]
              exact .tell a1 a2 a3 a4 a5 a6 a7 a8 e16 hcs
          · rw [if_neg hm] at h; simp at h
    rw [if_neg p4] at h
    by_cases p5 : p = 5
    · subst p5
      simp only [if_true] at h
      split at h
      · cases h
      · rename_i hl
        obtain ⟨x, y, z, r, rfl⟩ := cut3 hl
        simp only [PyFlat.rows, Option.some.injEq, Prod.mk.injEq, List.drop_succ_cons, List.drop_zero, List.take_succ_cons, List.take_zero] at h
        obtain ⟨rfl, rfl⟩ := h
        have a : (Sf46Neutral.whole32 x && Sf46Neutral.natural y 32 && Sf46Neutral.whole32 z) = true := ha
        simp only [Bool.and_eq_true, whole_iff, natural_iff] at a
        refine ⟨_, rfl, ?_, by simp <;> omega, fun cs hcs => .back a.1.1 a.1.2 a.2 hcs⟩
        show y.toNat < 2 ^ 32
        have := a.1.2; unfold N32 at this; omega
    rw [if_neg p5] at h
    by_cases p6 : p = 6
    · subst p6
      simp only [if_true] at h
      split at h
      · cases h
      · simp only [PyFlat.rows, Option.some.injEq, Prod.mk.injEq, List.drop_zero, List.take_zero] at h
        obtain ⟨rfl, rfl⟩ := h
        exact ⟨_, rfl, trivial, by simp <;> omega, fun cs hcs => .next hcs⟩
    rw [if_neg p6] at h
    by_cases p7 : p = 7
    · subst p7
      simp only [if_true] at h
      split at h
      · cases h
      · rename_i hl
        obtain ⟨y, z, r, rfl⟩ := cut2 hl
        simp only [PyFlat.rows, Option.some.injEq, Prod.mk.injEq, List.drop_succ_cons, List.drop_zero, List.take_succ_cons, List.take_zero] at h
        obtain ⟨rfl, rfl⟩ := h
        have a : (Sf46Neutral.natural y 32 && Sf46Neutral.whole32 z) = true := ha
        simp only [Bool.and_eq_true, whole_iff, natural_iff] at a
        refine ⟨_, rfl, ?_, by simp <;> omega, fun cs hcs => .best a.1 a.2 hcs⟩
        show y.toNat < 2 ^ 32
        have := a.1; unfold N32 at this; omega
    rw [if_neg p7] at h
    by_cases p8 : p = 8
    · subst p8
      simp only [if_true] at h
      split at h
      · cases h
      · rename_i hl
        obtain ⟨z, r, rfl⟩ := cut1 hl
        simp only [PyFlat.rows, Option.some.injEq, Prod.mk.injEq, List.drop_succ_cons, List.drop_zero, List.take_succ_cons, List.take_zero] at h
        obtain ⟨rfl, rfl⟩ := h
        have a := natural_iff.mp (show Sf46Neutral.natural z 32 = true from ha)
        exact ⟨_, rfl, trivial, by simp <;> omega, fun cs hcs => .send a hcs⟩
    rw [if_neg p8] at h
    by_cases p9 : p = 9
    · subst p9
      simp only [if_true] at h
      split at h
      · cases h
      · simp only [PyFlat.rows, Option.some.injEq, Prod.mk.injEq, List.drop_zero, List.take_zero] at h
        obtain ⟨rfl, rfl⟩ := h
        exact ⟨_, rfl, trivial, by simp <;> omega, fun cs hcs => .count hcs⟩
    rw [if_neg p9] at h
    simp at h
theorem line_of : ∀ (f : Nat) (l : List Int) (cs : List (List (List Int))), PyFlat.calls PySf46.shape f l = some cs → (∀ c ∈ cs, Sf46Neutral.asked1 (PySf46.whole c) = true) →
    ∃ qs : List Call, Line l qs ∧ qs.length = cs.length ∧ (∀ q ∈ qs, CallOk q) ∧ ∀ s, PyFlat.told (PyFlat.played Sf46Neutral.step s (cs.map PySf46.whole)) = outs s qs
  | 0, [], cs, h, _ => by
    simp [PyFlat.calls] at h
    subst h
    exact ⟨[], .nil, rfl, by simp, fun _ => rfl⟩
  | 0, _ :: _, cs, h, _ => by simp [PyFlat.calls] at h
  | f + 1, [], cs, h, _ => by
    simp [PyFlat.calls] at h
    subst h
    exact ⟨[], .nil, rfl, by simp, fun _ => rfl⟩
  | f + 1, p :: r, cs, h, ha => by
    unfold PyFlat.calls at h
    split at h
    · cases h
    · rename_i c t hc
      split at h
      · cases h
      · rename_i cs' hcs
        cases h
        obtain ⟨q, h1, h2, h3, h4⟩ := call_cases hc (ha c (by simp))
        obtain ⟨qs, g1, g2, g3, g4⟩ := line_of f t cs' hcs fun c hc => ha c (by simp [hc])
        refine ⟨q :: qs, h4 _ g1, by simp [g2], fun x hx => ?_, fun s => ?_⟩
        · rcases List.mem_cons.mp hx with e | hx
          · subst e; exact h2
          · exact g3 x hx
        · have e : Sf46Neutral.step s (PySf46.whole c) = ((spec s q).2, Sf46Neutral.listOf (spec s q).1) := by
            unfold Sf46Neutral.step; rw [h1]; rfl
          rw [List.map_cons]
          unfold PyFlat.played
          rw [e]
          have g := g4 (spec s q).2
          unfold PyFlat.told at g ⊢
          rw [List.flatMap_cons, g]
          rfl
theorem asked_line {l : List Int} (h : PySf46.answers_asked l = true) : ∃ qs : List Call, Line l qs ∧ qs.length ≤ 3000 ∧ (∀ q ∈ qs, CallOk q) ∧ PySf46.answers l = outs (empty 0) qs := by
  unfold PySf46.answers_asked at h
  unfold PySf46.answers
  cases hc : PySf46.calls l with
  | none => rw [hc] at h; cases h
  | some cs =>
    rw [hc] at h
    simp only [Bool.and_eq_true] at h
    obtain ⟨h1, h2⟩ := h
    unfold PySf46.calls at hc
    split at hc
    · cases hc
    · rename_i cs' hcs
      cases hc
      have h2' : ∀ c ∈ cs', Sf46Neutral.asked1 (PySf46.whole c) = true := by
        unfold Sf46Neutral.asked at h2
        simp only [Bool.and_eq_true, List.all_eq_true] at h2
        intro c hc
        exact h2.1.2.1 _ (List.mem_map.mpr ⟨c, hc, rfl⟩)
      obtain ⟨qs, g1, g2, g3, g4⟩ := line_of _ _ _ hcs h2'
      refine ⟨qs, g1, ?_, g3, g4 _⟩
      unfold PyFlat.atMost at h1
      rw [List.length_map] at h1
      have := of_decide_eq_true h1
      omega
end R46
end
section
set_option linter.all false
namespace R46
open Sf46
noncomputable def pick (b : Option (Nat × Peer × Route)) (y : Nat × Peer × Route) : Option (Nat × Peer × Route) := match b with
  | none => some y
  | some b => if better y b = true then some y else some b
theorem pick_fold : ∀ (l : List (Nat × Peer × Route)) (x : Nat × Peer × Route), l.foldl pick (some x) = some (l.foldl (fun b y => if better y b = true then y else b) x)
  | [], _ => rfl
  | y :: l, x => by
    rw [List.foldl_cons, List.foldl_cons]
    show l.foldl pick (if better y x = true then some y else some x) = _
    split
    · rename_i h; rw [pick_fold l y]
    · rename_i h; rw [pick_fold l x]
theorem best_fold (s : St) (n : Net) : s.best n = (s.routes n).foldl pick none := by
  unfold St.best
  cases h : s.routes n with
  | nil => rfl
  | cons x r => rw [List.foldl_cons]; exact (pick_fold r x).symm
theorem incr_eq : ∀ {l m : List Nat}, l.Pairwise (· < ·) → m.Pairwise (· < ·) → (∀ n, n ∈ l ↔ n ∈ m) → l = m
  | [], [], _, _, _ => rfl
  | [], b :: m, _, _, h => by have := (h b).mpr (by simp); simp at this
  | a :: l, [], _, _, h => by have := (h a).mp (by simp); simp at this
  | a :: l, b :: m, hl, hm, h => by
    rw [List.pairwise_cons] at hl hm
    have e : a = b := by
      rcases List.mem_cons.mp ((h a).mp (by simp)) with e | e
      · exact e
      · rcases List.mem_cons.mp ((h b).mpr (by simp)) with e' | e'
        · exact e'.symm
        · exact absurd (Nat.lt_trans (hl.1 b e') (hm.1 a e)) (Nat.lt_irrefl _)
    subst e
    congr 1
    refine incr_eq hl.2 hm.2 fun n => ?_
    constructor
    · intro hn
      rcases List.mem_cons.mp ((h n).mp (List.mem_cons_of_mem _ hn)) with e | e
      · subst e; exact absurd (hl.1 _ hn) (Nat.lt_irrefl _)
      · exact e
    · intro hn
      rcases List.mem_cons.mp ((h n).mpr (List.mem_cons_of_mem _ hn)) with e | e
      · subst e; exact absurd (hm.1 _ hn) (Nat.lt_irrefl _)
      · exact e
theorem filterMap_filter {α β : Type} (f : α → Option β) : ∀ l : List α, (l.filter fun a => (f a).isSome).filterMap f = l.filterMap f
  | [] => rfl
  | a :: l => by
    rw [List.filter_cons, List.filterMap_cons]
    cases h : f a with
    | none => simp only [Option.isSome_none, Bool.false_eq_true, if_false]; exact filterMap_filter f l
    | some b =>
      simp only [Option.isSome_some, if_true]
      rw [List.filterMap_cons, h, filterMap_filter f l]
noncomputable def routeOf (s : St) (n : Net) (k : Nat) : Option (Nat × Peer × Route) := (s.peer k).bind fun p => (look s.held (k, n)).map fun r => (k, p, r)
theorem routes_is {s : St} (o : Ok s) {n : Net} {ks : List Nat} (hi : ks.Pairwise (· < ·)) (hm : ∀ k, k ∈ ks ↔ (look s.held (k, n)).isSome = true) : s.routes n = ks.filterMap (routeOf s n) := by
  show (List.range 8).filterMap (routeOf s n) = _
  rw [← filterMap_filter]
  congr 1
  refine incr_eq (List.Pairwise.filter _ List.pairwise_lt_range) hi fun k => ?_
  rw [hm, List.mem_filter, List.mem_range]
  have key : (routeOf s n k).isSome = true ↔ (look s.held (k, n)).isSome = true := by
    unfold routeOf
    cases hp : s.peer k with
    | none =>
      have := look_held (k := k) (n := n) o (by rw [hp]; rfl)
      rw [this]; rfl
    | some p => simp
  constructor
  · intro h; exact key.mp h.2
  · intro h
    refine ⟨?_, key.mpr h⟩
    obtain ⟨p, hp, e⟩ := look_isSome.mp h
    have := (o.held p hp).1
    rw [e] at this
    exact peer_lt o.peers this
theorem routeOf_some {s : St} (o : Ok s) {n : Net} {k : Nat} {r : Route} (h : look s.held (k, n) = some r) : ∃ p, s.peer k = some p ∧ routeOf s n k = some (k, p, r) := by
  have h1 : (s.peer k).isSome = true := by
    have := (o.held _ (look_some_mem h)).1
    exact this
  obtain ⟨p, hp⟩ := Option.isSome_iff_exists.mp h1
  exact ⟨p, hp, by unfold routeOf; rw [hp, h]; rfl⟩
theorem pick_cases {b y : Nat × Peer × Route} (x : Option (Nat × Peer × Route)) (h : pick x y = some b) : b = y ∨ x = some b := by
  cases x with
  | none => exact .inl (Option.some.inj h).symm
  | some x =>
    simp only [pick] at h
    split at h
    · exact .inl (Option.some.inj h).symm
    · exact .inr h
theorem pick_mem : ∀ (l : List (Nat × Peer × Route)) (x : Option (Nat × Peer × Route)) (b : Nat × Peer × Route), l.foldl pick x = some b → b ∈ l ∨ x = some b
  | [], _, _, h => .inr h
  | y :: l, x, b, h => by
    rw [List.foldl_cons] at h
    rcases pick_mem l _ b h with h | h
    · exact .inl (List.mem_cons_of_mem _ h)
    · rcases pick_cases x h with e | e
      · subst e; exact .inl (List.mem_cons_self ..)
      · exact .inr e
theorem best_some {s : St} {n : Net} {b : Nat × Peer × Route} (h : s.best n = some b) : s.peer b.1 = some b.2.1 ∧ look s.held (b.1, n) = some b.2.2 := by
  rw [best_fold] at h
  rcases pick_mem _ _ _ h with h | h
  · obtain ⟨k, _, hk⟩ := List.mem_filterMap.mp h
    cases hp : s.peer k with
    | none => rw [hp] at hk; cases hk
    | some p =>
      rw [hp] at hk
      cases hr : look s.held (k, n) with
      | none => rw [hr] at hk; cases hk
      | some r => rw [hr] at hk; cases hk; exact ⟨hp, hr⟩
  · cases h
theorem best_none {s : St} (o : Ok s) {n : Net} : s.best n = none ↔ ∀ k, look s.held (k, n) = none := by
  constructor
  · intro h k
    cases hr : look s.held (k, n) with
    | none => rfl
    | some r =>
      exfalso
      have hm : (look s.held (k, n)).isSome = true := by rw [hr]; rfl
      obtain ⟨p, hp, hx⟩ := routeOf_some o hr
      have hk := peer_lt o.peers (k := k) (by rw [hp]; rfl)
      have : (k, p, r) ∈ s.routes n := List.mem_filterMap.mpr ⟨k, List.mem_range.mpr hk, hx⟩
      unfold St.best at h
      split at h
      · rename_i he; rw [he] at this; cases this
      · cases h
  · intro h
    cases hb : s.best n with
    | none => rfl
    | some b =>
      have := (best_some hb).2
      rw [h] at this; cases this
theorem outs_append (s : St) : ∀ (a b : List Call), outs s (a ++ b) = outs s a ++ outs (run s a) b
  | [], b => rfl
  | c :: a, b => by
    show _ :: Sf46Neutral.listOf (spec s c).1 ++ outs (spec s c).2 (a ++ b) = _ :: Sf46Neutral.listOf (spec s c).1 ++ outs (spec s c).2 a ++ _
    rw [outs_append (spec s c).2 a b]
    simp [run]
theorem listOf_len {s : St} {c : Call} : (Sf46Neutral.listOf (spec s c).1).length ≤ 23 := by
  have pl : ∀ l, (places l).length = 16 := fun l => by simp [places]
  have on : ∀ z, (Sf46Neutral.listOf (only z)).length ≤ 23 := fun z => by simp [only, Sf46Neutral.listOf]
  have rw_ : ∀ (z : Int) n l a b c, (Sf46Neutral.listOf ⟨z, some (raw n l a b c)⟩).length ≤ 23 := fun z n l a b c => by simp [Sf46Neutral.listOf, raw, Sf46Neutral.ints, pl]
  cases c with
  | begin_ => exact on _
  | up => simp only [spec]; split <;> exact on _
  | down => simp only [spec]; split <;> exact on _
  | tell =>
    simp only [spec]
    repeat' split
    all_goals exact on _
  | back =>
    simp only [spec]; split
    · split <;> exact on _
    · exact on _
  | next =>
    simp only [spec]; split
    · exact on _
    · split <;> exact rw_ ..
  | best =>
    simp only [spec]; split
    · split
      · exact rw_ ..
      · exact on _
    · exact on _
  | send => exact on _
  | count => exact on _
end R46
end
section
set_option linter.all false
set_option maxRecDepth 100000
namespace PySem
open Sem (wp)
section
variable {K : Type} [DecidableEq K]
noncomputable def withoutH (xs : List (K × Addr × Value)) (k : K) : List (K × Addr × Value) := xs.filter fun x => decide (x.1 ≠ k)
theorem withoutH_erase : ∀ {xs : List (K × Addr × Value)} {j : Nat} {p : Addr × Value}, (xs.map (·.1)).Nodup → ∀ {k : K}, xs[j]? = some (k, p) → xs.eraseIdx j = withoutH xs k
  | [], j, p, _, k, h => by simp at h
  | x :: xs, 0, p, hn, k, h => by
    rw [List.map_cons, List.nodup_cons] at hn
    simp only [List.getElem?_cons_zero, Option.some.injEq] at h
    subst h
    unfold withoutH
    rw [List.eraseIdx_cons_zero, List.filter_cons, if_neg (by simp)]
    refine (List.filter_eq_self.mpr fun y hy => ?_).symm
    have : y.1 ≠ k := fun e => hn.1 (List.mem_map.mpr ⟨y, hy, e⟩)
    simpa using this
  | x :: xs, j + 1, p, hn, k, h => by
    rw [List.map_cons, List.nodup_cons] at hn
    simp only [List.getElem?_cons_succ] at h
    have hne : x.1 ≠ k := fun e => hn.1 (List.mem_map.mpr ⟨_, List.mem_of_getElem? h, e.symm⟩)
    have ih := withoutH_erase hn.2 h
    unfold withoutH at ih ⊢
    rw [List.eraseIdx_cons_succ, List.filter_cons, if_pos (by simpa using hne), ih]
theorem map_erase {α β : Type} (f : α → β) : ∀ (l : List α) (j : Nat), (l.map f).eraseIdx j = (l.eraseIdx j).map f
  | [], _ => by simp
  | _ :: _, 0 => rfl
  | x :: l, j + 1 => by
    show f x :: (l.map f).eraseIdx j = f x :: (l.eraseIdx j).map f
    rw [map_erase f l j]
theorem withoutH_nodup {xs : List (K × Addr × Value)} (h : (xs.map (·.1)).Nodup) (k : K) : ((withoutH xs k).map (·.1)).Nodup :=
  h.sublist (List.filter_sublist.map _)
end
section
variable {prog : Program} {w : World} {K : Type} [DecidableEq K] {knd : HeapKind prog w K} {A : Around} {E : Value → Shared → Prop} {s : Shared}
theorem wpAny_takeOut_heap {d a : Addr} {xs : List (K × Addr × Value)} {k : K} {Q : Option DictEntry → Shared → Prop} (hu : knd.room A) (hkey : knd.is s.heap k a) (hm : s.heap.DictOfH knd d xs)
    (hnone : atKey xs k = none → Q none { s with toks := s.toks + knd.draws k })
    (hsome : ∀ e p, atKey xs k = some p → e.val = p.2 → ∀ h', h'.DictOfH knd d (withoutH xs k) → Heap.SameBut d s.heap h' → Q (some e) { s with heap := h', toks := s.toks + knd.draws k })
    (hsz : xs.length ≤ sizeLine := by size_fits) : wpAny (model prog w) A (Builtin.Dict.takeOut d (.ref a)) Q E s := by
  obtain ⟨o, es, ep, ho, hc, hd, he, his, hn⟩ := hm
  have hes : es.size ≤ sizeLine := by have e := size_of_entries he; omega
  unfold Builtin.Dict.takeOut
  try with_reducible refine wpAny_holding ?_
  refine wpAny_bind (knd.pyHash hu hkey ?_)
  refine wpAny_bind (wpAny_dictFind_heap (s := { s with toks := s.toks + knd.draws k }) hu hkey ho hd he his hn ?_ ?_)
  · intro hno
    exact wpAny_pure (hnone (atKey_none_of_get hno))
  · intro j p hj
    refine wpAny_bind (wpAny_dictEntries (s := { s with toks := s.toks + knd.draws k }) ho hd ?_)
    rw [entry_at he j, hj]
    refine wpAny_bind (wpAny_updateDictKeys (hz := hes) (s := { s with toks := s.toks + knd.draws k }) ho hd (wpAny_pure (hsome _ p (atKey_of_get hn hj) rfl _ ⟨_, _, ep + 1, Heap.get?_update_self _ ho (Obj.isFreed_of_dict (Obj.data_mapDictKeys hd _)),
      hc.mapDictKeys _, Obj.data_mapDictKeys hd _, ?_, ?_, withoutH_nodup hn k⟩ (Heap.SameBut.update ..))))
    · have e2 : (xs.map (entryOfKey knd)).eraseIdx j = (withoutH xs k).map (entryOfKey knd) := by
        rw [← withoutH_erase hn hj]; exact map_erase _ _ _
      rw [← e2, ← he]
      obtain ⟨l⟩ := es
      simp [Array.eraseIdxIfInBounds]
      split
      · simp
      · rename_i hlt
        exact (List.eraseIdx_of_length_le (by simpa using hlt)).symm
    · intro x hx
      exact knd.keeps (his x (List.mem_filter.mp hx).1) ho hd (Heap.SameBut.update ..)
end
section
variable {prog : Program} {w : World} {K : Type} [DecidableEq K] (knd : HeapKind prog w K) (d a : Addr)
theorem meetsH_dict_pop (hd : (d == sysModules) = false) (rest : List Value) (hrest : rest = [] ∨ ∃ dflt, rest = [dflt]) :
    MeetsIn prog w (Builtin.«dict.pop» ⟨.ref d :: .ref a :: rest, []⟩) (fun A R s => knd.room A.in1 ∧ ∃ k xs, knd.is s.heap k a ∧ s.heap.DictOfH knd d xs ∧ xs.length ≤ sizeLine ∧
      ((∃ p, atKey xs k = some p ∧ ∀ h', h'.DictOfH knd d (withoutH xs k) → Heap.SameBut d s.heap h' → R (.ok (.ret p.2)) { s with heap := h', toks := s.toks + knd.draws k }) ∨
       (∃ dflt, atKey xs k = none ∧ rest = [dflt] ∧ ∀ n, R (.ok (.ret dflt)) { s with toks := n }))) :=
  .of_wp fun A R s ⟨hu, k, xs, hkey, hm, hsz, h⟩ => by
    obtain ⟨o, es, ep, ho, hc, hdat, he, his, hn⟩ := id hm
    have hpart : (keyPart (.ref a)).isSome = false := rfl
    unfold Builtin.«dict.pop»
    refine wpAny_bind ?_
    unfold Builtin.Dict.keyAndDefault
    refine wpAny_bind (wpAny_notOrdered_dict hm.typeIs ?_)
    have go : ∀ (df : Option Value), (df = none ∧ rest = []) ∨ (∃ x, df = some x ∧ rest = [x]) →
        wpAny (model prog w) A.in1 (do
          let empty ← if (keyPart (.ref a)).isSome = true then pure false else do pure (← dictEntries d).isEmpty
          let old ← if empty then rule "dict.pop.empty"; pure none else Builtin.Dict.takeOut d (.ref a)
          if old.isNone then Builtin.Dict.missedRemoval d (.ref a)
          match old, df with
          | some e, _ => letGo [e.key] [e.val]; ret e.val
          | none, some x => rule "dict.pop.default"; ret x
          | none, none => rule "dict.pop.keyerror"; raiseNew (← newExc (.type "KeyError") [.ref a])) (fun fin s' => ∃ v, fin = .done (.ret v) ∧ R (.ok (.ret v)) s') (fun e s' => R (.error e) s') s := by
      intro df hdf
      simp only [hpart, Bool.false_eq_true, if_false]
      refine wpAny_bind (wpAny_dictEntries ho hdat (wpAny_bind (wpAny_pure ?_)))
      by_cases hemp : es.isEmpty = true
      · have hx : xs = [] := by
          have e := size_of_entries he
          have e2 : es.size = 0 := by simpa using hemp
          exact List.length_eq_zero_iff.mp (by omega)
        subst hx
        rcases h with ⟨p, hp, _⟩ | ⟨dflt, _, hr, hq⟩
        · cases hp
        rcases hdf with ⟨rfl, hr'⟩ | ⟨x, rfl, hr'⟩
        · rw [hr'] at hr; cases hr
        rw [hr'] at hr
        cases hr
        rw [if_pos hemp]
        refine wpAny_bind (wpAny_rule (wpAny_bind (wpAny_pure ?_)))
        (try simp only [Option.isNone_none, if_true])
        refine wpAny_bind (wpAny_missedRemoval_other hd ?_)
        exact wpAny_bind (wpAny_rule (wpAny_pure ⟨_, rfl, hq s.toks⟩))
      · rw [if_neg hemp]
        refine wpAny_bind (wpAny_takeOut_heap (hsz := hsz) hu hkey hm (fun hno => ?_) fun e p hp hv h' hm' hs' => ?_)
        · rcases h with ⟨p, hp, _⟩ | ⟨dflt, _, hr, hq⟩
          · rw [hno] at hp; cases hp
          rcases hdf with ⟨rfl, hr'⟩ | ⟨x, rfl, hr'⟩
          · rw [hr'] at hr; cases hr
          rw [hr'] at hr
          cases hr
          simp only [Option.isNone_none, if_true]
          refine wpAny_bind (wpAny_missedRemoval_other hd ?_)
          exact wpAny_bind (wpAny_rule (wpAny_pure ⟨_, rfl, hq _⟩))
        · rcases h with ⟨p', hp', hq⟩ | ⟨dflt, hno, _, _⟩
          · rw [hp] at hp'
            cases hp'
            simp only [Option.isNone_some, Bool.false_eq_true, if_false]
            refine wpAny_bind (wpAny_letGo (wpAny_pure ⟨_, rfl, ?_⟩))
            show R (.ok (.ret e.val)) _
            rw [hv]
            exact hq h' hm' hs'
          · rw [hno] at hp; cases hp
    rcases hrest with rfl | ⟨dflt, rfl⟩
    · show wpAny _ _ (pure (d, Value.ref a, none)) _ _ s
      exact wpAny_pure (go none (.inl ⟨rfl, rfl⟩))
    · show wpAny _ _ (pure (d, Value.ref a, some dflt)) _ _ s
      exact wpAny_pure (go (some dflt) (.inr ⟨dflt, rfl, rfl⟩))
end
end PySem
end
section
set_option linter.all false
set_option maxRecDepth 100000
namespace PySem
open Sem (wp)
section
variable {prog : Program} {w : World} {K : Type} [DecidableEq K] (knd : KeyKind prog w K)
noncomputable def IsPairKey (h : Heap) (p : K × List K) (a : Addr) : Prop := ∃ o v b n, h.get? a = some o ∧ o.cls = .type "tuple" ∧ o.data = .seq #[v, .ref b] n ∧ knd.is p.1 v = true ∧ IsTupleKey knd h p.2 b
variable {knd}
theorem IsPairKey.typeIs {s : Shared} {p : K × List K} {a : Addr} (x : IsPairKey knd s.heap p a) : s.TypeIs (.ref a) "tuple" := let ⟨o, _, _, _, ho, hc, _⟩ := x; ⟨o, ho, hc⟩
theorem IsPairKey.inj {h : Heap} {a : Addr} {p q : K × List K} (hx : IsPairKey knd h p a) (hy : IsPairKey knd h q a) : p = q := by
  obtain ⟨o, v, b, n, ho, _, hd, h1, h2⟩ := hx
  obtain ⟨o', v', b', n', ho', _, hd', h1', h2'⟩ := hy
  obtain rfl : o = o' := Option.some.inj (ho.symm.trans ho')
  rw [hd] at hd'
  injection hd' with e _
  have e1 : v = v' ∧ b = b' := by simpa using e
  obtain ⟨rfl, rfl⟩ := e1
  exact Prod.ext (knd.inj _ _ _ h1 h1') (h2.inj h2')
theorem IsPairKey.keeps {h h' : Heap} {p : K × List K} {a d : Addr} {o : Obj} {es ep} (x : IsPairKey knd h p a) (ho : h.get? d = some o) (hd : o.data = .dict es ep) (hs : Heap.SameBut d h h') : IsPairKey knd h' p a := by
  obtain ⟨o', v, b, n, ho', hc, hd', h1, h2⟩ := x
  have hne : a ≠ d := by
    rintro rfl
    obtain rfl : o' = o := Option.some.inj (ho'.symm.trans ho)
    rw [hd] at hd'; exact nomatch hd'
  exact ⟨o', v, b, n, (hs.2 a hne).trans ho', hc, hd', h1, h2.keeps ho hd hs⟩
noncomputable def pairKeyHash (knd : KeyKind prog w K) (p : K × List K) : Int := reduceHash (Builtin.Tuple.tupleHashOf [knd.hash p.1, tupleKeyHash knd p.2])
variable {A : Around} {E : Value → Shared → Prop} {s : Shared}
theorem wpAny_pyHash_pair {p : K × List K} {a : Addr} {Q : Int → Shared → Prop} (hu : A.units + 1 < cLine) (hk : IsPairKey knd s.heap p a) (h : Q (pairKeyHash knd p) { s with toks := s.toks + (p.2.length + 3) }) :
    wpAny (model prog w) A (pyHash (.ref a)) Q E s := by
  have hT := hk.typeIs
  obtain ⟨o, v, b, n, ho, _, hd, h1, h2⟩ := hk
  unfold pyHash
  first | unfold pyHashByItsType | skip
  first | refine wpAny_bind (wpAny_cRoomFor_or (.inr (Nat.lt_of_succ_lt hu)) ?_) | skip
  refine wpAny_bind (wpAny_specialOf hT F.slot_tuple_hash.lookup ?_)
  show wpAny _ _ (if (some (Value.builtin "tuple.__hash__") == some Value.none) = true then _ else _) Q E s
  rw [if_neg (by rw [beq_builtin_none]; exact Bool.false_ne_true)]
  refine wpAny_bind (wpAny_specialOf hT F.slot_tuple_hash.lookup ?_)
  show wpAny _ _ (callSpecialIfBoundUnlessNone? (.ref a) "__hash__" _ >>= _) Q E s
  refine wpAny_bind (wpAny_callSpecialIfBoundUnlessNone?_slot hT F.slot_tuple_hash (wpAny_call_entry F.slot_tuple_hash hT F.entry_tuple_hash ?_ (F.args_tuple_hash_1 _)))
  show wpAny _ _ (Builtin.Tuple.tupleItemsOf (.ref a) >>= _) _ _ s
  refine wpAny_bind (wpAny_tupleItemsOf ho hd ?_)
  refine wpAny_bind ?_
  rw [← Array.forIn_toList]
  show wpAny _ _ (forIn [v, Value.ref b] _ _) _ _ s
  rw [List.forIn_cons]
  refine wpAny_bind ?_
  refine wpAny_bind (knd.pyHash h1 ?_)
  refine wpAny_bind (wpAny_pure ?_)
  refine wpAny_pure ?_
  show wpAny _ _ (forIn [Value.ref b] _ _) _ _ _
  rw [List.forIn_cons]
  refine wpAny_bind ?_
  refine wpAny_bind (wpAny_pyHash_tuple (s := { s with toks := s.toks + 1 }) hu h2 ?_)
  refine wpAny_bind (wpAny_pure ?_)
  refine wpAny_pure ?_
  show wpAny _ _ (forIn ([] : List Value) _ _) _ _ _
  rw [List.forIn_nil]
  refine wpAny_pure ?_
  show wpAny _ _ (retInt (Builtin.Tuple.tupleHashOf [knd.hash p.1, tupleKeyHash knd p.2])) _ _ _
  refine wpAny_ret_mkInt ?_
  show wpAny _ _ (if (decide (-(2 : Int) ^ 63 ≤ Builtin.Tuple.tupleHashOf [knd.hash p.1, tupleKeyHash knd p.2]) && decide (Builtin.Tuple.tupleHashOf [knd.hash p.1, tupleKeyHash knd p.2] < 2 ^ 63)) = true then _ else _) Q E _
  unfold pairKeyHash reduceHash at h
  have ht : s.toks + 1 + (p.2.length + 1) + 1 = s.toks + (p.2.length + 3) := by omega
  by_cases hr : (decide (-(2 : Int) ^ 63 ≤ Builtin.Tuple.tupleHashOf [knd.hash p.1, tupleKeyHash knd p.2]) && decide (Builtin.Tuple.tupleHashOf [knd.hash p.1, tupleKeyHash knd p.2] < 2 ^ 63)) = true
  · rw [if_pos hr]
    rw [if_pos hr] at h
    refine wpAny_pure ?_
    rw [← ht] at h
    exact h
  · rw [if_neg hr]
    rw [if_neg hr] at h
    refine wpAny_bind (wpAny_rule (wpAny_pure ?_))
    rw [← ht] at h
    exact h
theorem pair_eq_tree {p q : K × List K} {a b : Addr} {P : Fin → Shared → Prop} (hu : A.units < cLine) (hx : IsPairKey knd s.heap p a) (hy : IsPairKey knd s.heap q b) (h : P (.done (.ret (.bool (decide (p = q))))) s) :
    wpAny (model prog w) A (Builtin.«tuple.__eq__» ⟨[.ref a, .ref b], []⟩) P E s := by
  have hTb := hy.typeIs
  obtain ⟨oa, v, a2, na, hoa, _, hda, h1, h2⟩ := hx
  obtain ⟨ob, u, b2, nb, hob, _, hdb, g1, g2⟩ := hy
  show wpAny _ _ (isInstance (.ref b) (.type "tuple") >>= _) _ _ s
  refine wpAny_bind (wpAny_isInstance hTb isSubtype_tuple_tuple ?_)
  simp only [Bool.not_true, Bool.false_eq_true, if_false]
  refine wpAny_bind (wpAny_tupleItemsOf hoa hda ?_)
  refine wpAny_bind (wpAny_tupleItemsOf hob hdb ?_)
  refine wpAny_bind ?_
  show wpAny _ _ (forIn [(v, u), (Value.ref a2, Value.ref b2)] _ _) _ _ s
  rw [List.forIn_cons]
  refine wpAny_bind ?_
  refine wpAny_bind (knd.eqBool (a := p.1) (b := q.1) h1 g1 ?_)
  by_cases hk : p.1 = q.1
  · rw [decide_eq_true hk]
    simp only [Bool.not_true, Bool.false_eq_true, if_false]
    refine wpAny_pure ?_
    show wpAny _ _ (forIn [(Value.ref a2, Value.ref b2)] _ _) _ _ s
    rw [List.forIn_cons]
    refine wpAny_bind ?_
    refine wpAny_bind (wpAny_eqBool_tuple hu h2 g2 ?_)
    by_cases hk2 : p.2 = q.2
    · rw [decide_eq_true hk2]
      simp only [Bool.not_true, Bool.false_eq_true, if_false]
      refine wpAny_pure ?_
      show wpAny _ _ (forIn ([] : List (Value × Value)) _ _) _ _ s
      rw [List.forIn_nil]
      refine wpAny_pure (wpAny_pure ?_)
      have e : decide (p = q) = true := decide_eq_true (Prod.ext hk hk2)
      rw [e] at h
      exact h
    · rw [decide_eq_false hk2]
      simp only [Bool.not_false, if_true]
      have e : decide (p = q) = false := decide_eq_false fun z => hk2 (congrArg Prod.snd z)
      rw [e] at h
      exact wpAny_bind (wpAny_pure (wpAny_pure (wpAny_pure (wpAny_pure h))))
  · rw [decide_eq_false hk]
    simp only [Bool.not_false, if_true]
    have e : decide (p = q) = false := decide_eq_false fun z => hk (congrArg Prod.fst z)
    rw [e] at h
    exact wpAny_bind (wpAny_pure (wpAny_pure (wpAny_pure (wpAny_pure h))))
theorem wpAny_eqBool_pair {p q : K × List K} {a b : Addr} {Q : Bool → Shared → Prop} (hu : A.units + 1 < cLine) (hx : IsPairKey knd s.heap p a) (hy : IsPairKey knd s.heap q b) (h : Q (decide (p = q)) s) :
    wpAny (model prog w) A (eqBool (.ref a) (.ref b)) Q E s := by
  unfold eqBool
  try with_reducible refine wpAny_holding ?_
  show wpAny _ _ (if (Value.ref a == Value.ref b) = true then _ else _) Q E s
  by_cases hab : (Value.ref a == Value.ref b) = true
  · rw [if_pos hab]
    have e : a = b := by have := eq_of_beq hab; injection this
    subst e
    obtain rfl := hx.inj hy
    exact wpAny_bind (wpAny_rule (wpAny_pure (by simpa using h)))
  · rw [if_neg hab]
    exact wpAny_bind (wpAny_richCompare_same_room (op := .Eq) hx.typeIs hy.typeIs F.slot_tuple_eq
      (wpAny_call_entry F.slot_tuple_eq hx.typeIs F.entry_tuple_eq (pair_eq_tree (A := A.in1) hu hx hy ⟨_, rfl, (fun e => nomatch e), wpAny_truthy_bool h⟩) (F.args_tuple_eq_2 _ _)) (Nat.lt_of_succ_lt hu))
theorem wpAny_eqIsQuiet_tuple7 {ks : List K} {a : Addr} {Q : Bool → Shared → Prop} (hk : IsTupleKey knd s.heap ks a) (h : Q true s) : wpAny (model prog w) A (eqIsQuiet 7 (.ref a)) Q E s := by
  have hT := hk.typeIs
  obtain ⟨o, items, n, ho, _, hd, hi⟩ := hk
  unfold eqIsQuiet
  refine wpAny_bind (wpAny_specialOf hT F.slot_tuple_eq.lookup ?_)
  show wpAny _ _ (isInstance (.ref a) (.type "tuple") >>= _) _ _ s
  refine wpAny_bind (wpAny_isInstance hT isSubtype_tuple_tuple ?_)
  simp only [Bool.not_true, Bool.false_eq_true, if_false]
  refine wpAny_bind (wpAny_seqItems ho hd ?_)
  refine wpAny_bind ?_
  show wpAny _ _ (forIn items _ _) _ _ s
  rw [← Array.forIn_toList]
  refine wpAny_forIn_list _ (fun rest r s' => r.1 = none ∧ s' = s ∧ ∀ v ∈ rest, carriedByValue v = true) _ ?_ ?_ _ _ ⟨rfl, rfl, hi.byValue⟩
  · rintro v rest r s' ⟨hr, rfl, hall⟩
    rw [eqIsQuiet_byValue _ (hall v List.mem_cons_self)]
    refine wpAny_bind (wpAny_pure ?_)
    simp only [Bool.not_true, Bool.false_eq_true, if_false]
    exact wpAny_pure ⟨rfl, rfl, fun u hu' => hall u (List.mem_cons_of_mem _ hu')⟩
  · rintro ⟨r1, r2⟩ s' ⟨hr, rfl, _⟩
    simp only at hr
    subst hr
    exact wpAny_pure h
theorem wpAny_eqIsQuiet_pair {p : K × List K} {a : Addr} {Q : Bool → Shared → Prop} (hk : IsPairKey knd s.heap p a) (h : Q true s) : wpAny (model prog w) A (eqIsQuiet 8 (.ref a)) Q E s := by
  have hT := hk.typeIs
  obtain ⟨o, v, b, n, ho, _, hd, h1, h2⟩ := hk
  unfold eqIsQuiet
  refine wpAny_bind (wpAny_specialOf hT F.slot_tuple_eq.lookup ?_)
  show wpAny _ _ (isInstance (.ref a) (.type "tuple") >>= _) _ _ s
  refine wpAny_bind (wpAny_isInstance hT isSubtype_tuple_tuple ?_)
  simp only [Bool.not_true, Bool.false_eq_true, if_false]
  refine wpAny_bind (wpAny_seqItems ho hd ?_)
  refine wpAny_bind ?_
  show wpAny _ _ (forIn #[v, Value.ref b] _ _) _ _ s
  rw [← Array.forIn_toList]
  show wpAny _ _ (forIn [v, Value.ref b] _ _) _ _ s
  rw [List.forIn_cons]
  refine wpAny_bind ?_
  rw [eqIsQuiet_byValue _ (knd.byValue _ _ h1)]
  refine wpAny_bind (wpAny_pure ?_)
  simp only [Bool.not_true, Bool.false_eq_true, if_false]
  refine wpAny_pure ?_
  show wpAny _ _ (forIn [Value.ref b] _ _) _ _ s
  rw [List.forIn_cons]
  refine wpAny_bind ?_
  refine wpAny_bind (wpAny_eqIsQuiet_tuple7 h2 ?_)
  simp only [Bool.not_true, Bool.false_eq_true, if_false]
  refine wpAny_pure ?_
  show wpAny _ _ (forIn ([] : List Value) _ _) _ _ s
  rw [List.forIn_nil]
  exact wpAny_pure (wpAny_pure h)
end
noncomputable def pairKind {prog : Program} {w : World} {K : Type} [DecidableEq K] (knd : KeyKind prog w K) : HeapKind prog w (K × List K) where
  is := IsPairKey knd
  hash := pairKeyHash knd
  draws := fun p => p.2.length + 3
  room := fun A => A.units + 1 < cLine
  inj := fun hx hy => hx.inj hy
  keeps := fun x ho hd hs => x.keeps ho hd hs
  pyHash := fun hu hk h => wpAny_pyHash_pair hu hk h
  eqBool := fun hu hx hy h => wpAny_eqBool_pair hu hx hy h
  quiet := fun hk h => wpAny_eqIsQuiet_pair hk h
theorem pairKind_room_in1 {prog : Program} {w : World} {K : Type} [DecidableEq K] {knd : KeyKind prog w K} {A : Around} (hu : A.units + 2 < cLine) : (pairKind knd).room A.in1 := by
  show A.in1.units + 1 < cLine
  have : A.in1.units = A.units + 1 := rfl
  omega
end PySem
end
section
set_option linter.all false
set_option maxRecDepth 100000
set_option maxHeartbeats 2000000
namespace PySem
section
variable {prog : Program} {w : World} {A : Around} {E : Value → Shared → Prop} {s : Shared}
theorem lenBody_raw {d : Addr} {o : Obj} {es : Array DictEntry} {ep : Nat} {Q : Value → Shared → Prop} (hd : (d == sysModules) = false) (ho : s.heap.get? d = some o) (hc : o.ExactDict) (hdat : o.data = .dict es ep) (hfit : (es.size : Int) < 2 ^ 63)
    (h : ∀ t n, Q (.int es.size t) { s with toks := n }) : wpAny (model prog w) A (call (.builtin "len") [.ref d]) Q E s := by
  have hT : s.TypeIs (.ref d) "dict" := ⟨o, ho, hc.1⟩
  refine Calls.call_function_entry kind_len plain_len entry_len (args_len1 _) ?_
  unfold Builtin.«len»
  refine wpAny_bind (m := oneArg "len" _) (wpAny_pure ?_)
  refine wpAny_bind (m := callSpecial? (.ref d) (Str.ofString "__len__")) (wpAny_callSpecial?_slot (name := Str.ofString "__len__") hT F.slot_dict_len
    (wpAny_call_entry F.slot_dict_len hT F.entry_dict_len ?_ (F.args_dict_len_1 _)))
  show wpAny _ _ (dictSize d >>= _) _ _ s
  unfold dictSize
  refine wpAny_bind (wpAny_bind (wpAny_dictEntries ho hdat (wpAny_pure ?_)))
  show wpAny _ _ (Builtin.Dict.pendingCount d >>= _) _ _ s
  refine wpAny_bind (wpAny_pendingCount_other hd ?_)
  refine wpAny_ret_mkInt ?_
  rw [Nat.add_zero]
  show wpAny _ _ _ _ _ { s with toks := s.toks + 1 }
  refine wpAny_bind (wpAny_holding (wpAny_pure ?_))
  refine wpAny_bind (wpAny_letGo ?_)
  show wpAny _ _ (if ((es.size : Nat) : Int) < 0 then _ else _) _ _ _
  rw [if_neg (by omega)]
  show wpAny _ _ (if ((es.size : Nat) : Int) ≥ 2 ^ 63 then _ else _) _ _ _
  rw [if_neg (by omega)]
  exact wpAny_bind (wpAny_mkInt (wpAny_pure ⟨_, rfl, h _ _⟩))
noncomputable def RawDict (d : Addr) (o : Obj) (h : Heap) : Prop := h.get? d = some o
theorem Walks.rawKeys (hh : A.handled = none) (I d : Addr) (hne : d ≠ I) {o : Obj} {es : Array DictEntry} {ep : Nat} (hdat : o.data = .dict es ep) :
    Walks prog w A I [I, d] [I] es.size (fun i v => ∃ en, es[i]? = some en ∧ v = en.key) (fun i h => h.IsKeyIter I d i es.size ep ∧ h.get? d = some o) where
  sub := fun b hb => by simp at hb; simp [hb]
  frame := fun _ _ _ st hk => ⟨st.1.at fun o e => hk I (by simp) o e, hk d (by simp) o st.2⟩
  item := fun i s Q E hi st hQ => by
    have hx : es[i]? = some es[i] := Array.getElem?_eq_getElem hi
    refine L2.next_key_item st.1 st.2 hdat rfl hx fun h' hit' hs' => ?_
    exact hQ _ h' s.toks ⟨_, hx, rfl⟩ ⟨hit', (hs'.2 d hne).trans st.2⟩ fun b o hb e => (hs'.2 b (fun z => hb (by simp [z]))).trans e
  done := fun s Q E st hQ => L2.next_key_end hh st.1 st.2 hdat rfl (Nat.le_refl _) fun h' he' => hQ h' s.toks fun b o hb e => he' b o (fun h => hb (by simp [h])) e
  self := fun i s Q E st hQ => by
    refine wpAny_pyIter_slot st.1.typeIs F.slot_dict_keyiterator_iter (wpAny_call_entry F.slot_dict_keyiterator_iter st.1.typeIs F.entry_dict_keyiterator_iter ?_ (F.args_dict_keyiterator_iter_1 _))
    show wpAny _ _ (ret (.ref I)) _ _ s
    exact wpAny_pure ⟨_, rfl, "dict_keyiterator", _, st.1.typeIs, F.slot_dict_keyiterator_next.lookup, hQ⟩
theorem kdl_raw {d : Addr} {o : Obj} {es : Array DictEntry} {ep : Nat} (lo : (d == sysModules) = false) (hc : o.ExactDict) (hdat : o.data = .dict es ep) :
    W.KdlSrc prog w "dict" d d es.size (fun i v => ∃ en, es[i]? = some en ∧ v = en.key) (RawDict d o) where
  type := fun _ hm => ⟨o, hm, hc.1⟩
  there := fun _ hm => ⟨Heap.lt_size hm, Heap.lt_size hm⟩
  keep := fun _ _ hm hk => hk d (.inl rfl) o hm
  notList := by decide
  notTuple := by decide
  hint := fun _ _ _ _ hm hq => W.kdl_hint_dict ⟨o, hm, hc.1⟩ hq
  iter := fun _ _ hh hm => ⟨_, _, (fun _ _ hq => L2.iter_keys lo hm hc hdat hq), Walks.rawKeys hh _ d (Nat.ne_of_lt (Heap.lt_size hm)) hdat, ⟨⟨_, Heap.get?_push_size _ rfl, rfl, rfl⟩, Heap.get?_push_of_some _ hm⟩⟩
end
end PySem
namespace L2
open PySem PySem.Spec PyProof.Rows
structure HK (κ : Type) [DecidableEq κ] where
  hash : κ → Int
  knd : ∀ (P : Program) (w : World), HeapKind P w κ
  hash_eq : ∀ (P : Program) (w : World), (knd P w).hash = hash
  on : Hp → κ → Addr → Prop
  sound : ∀ {P : Program} {w : World} {H : Hp} {h : Heap} {k : κ} {a : Addr}, HOk P w H h → on H k a → (knd P w).is h k a
  keep : ∀ {H H' : Hp} {k : κ} {a : Addr}, on H k a → (∀ b ys, H b = some (.tup ys) → H' b = some (.tup ys)) → on H' k a
  room : ∀ {P : Program} {w : World} {A : Around}, A.units + 2 < cLine → (knd P w).room A.in1
section
variable {κ : Type} [DecidableEq κ]
noncomputable def PairX (p : κ × Addr × V) (q : κ × Addr × Value) : Prop := p.1 = q.1 ∧ p.2.1 = q.2.1 ∧ RelV p.2.2 q.2.2
noncomputable def dX (hash : κ → Int) (a : Addr) (kvs : List (κ × Addr × V)) : HO := .ext fun h => kvs.length ≤ sizeLine ∧ (a == sysModules) = false ∧ ∃ xs : List (κ × Addr × Value), Paired PairX kvs xs ∧
  ∃ o es ep, h.get? a = some o ∧ o.ExactDict ∧ o.data = .dict es ep ∧ es.toList = xs.map (fun x => (⟨hash x.1, .ref x.2.1, x.2.2⟩ : DictEntry)) ∧ (xs.map (·.1)).Nodup
noncomputable def valX (kvs : List (κ × Addr × V)) (k : κ) : Option V := (kvs.find? fun p => decide (p.1 = k)).map (·.2.2)
noncomputable def putX (kvs : List (κ × Addr × V)) (k : κ) (b : Addr) (v : V) : List (κ × Addr × V) :=
  if (valX kvs k).isSome = true then kvs.map (fun p => if p.1 = k then (p.1, p.2.1, v) else p) else kvs ++ [(k, b, v)]
noncomputable def dropX (kvs : List (κ × Addr × V)) (k : κ) : List (κ × Addr × V) := kvs.filter fun p => decide (p.1 ≠ k)
theorem PairX.val {kvs : List (κ × Addr × V)} {xs : List (κ × Addr × Value)} (r : Paired PairX kvs xs) (k : κ) : RelO (valX kvs k) ((atKey xs k).map (·.2)) := by
  induction r with
  | nil => exact True.intro
  | @cons p q ps qs h t ih =>
    obtain ⟨h1, h2, h3⟩ := h
    by_cases e : p.1 = k
    · have e' : q.1 = k := h1.symm.trans e
      have a : valX (p :: ps) k = some p.2.2 := by simp [valX, List.find?_cons, e]
      have b : atKey (q :: qs) k = some q.2 := by simp [atKey, List.find?_cons, e']
      rw [a, b]; exact h3
    · have e' : ¬ q.1 = k := fun z => e (h1.trans z)
      have a : valX (p :: ps) k = valX ps k := by simp [valX, List.find?_cons, e]
      have b : atKey (q :: qs) k = atKey qs k := by simp [atKey, List.find?_cons, e']
      rw [a, b]; exact ih
theorem PairX.put {kvs : List (κ × Addr × V)} {xs : List (κ × Addr × Value)} (r : Paired PairX kvs xs) (k : κ) (b : Addr) {v : V} {u : Value} (rv : RelV v u) : Paired PairX (putX kvs k b v) (storedH xs k b u) := by
  have e : (valX kvs k).isSome = (atKey xs k).isSome := by rw [(PairX.val r k).isSome_eq, Option.isSome_map]
  unfold putX storedH
  rw [e]
  by_cases q : (atKey xs k).isSome = true
  · rw [if_pos q, if_pos q]
    clear e q
    induction r with
    | nil => exact .nil
    | @cons p q ps qs h t ih =>
      rw [List.map_cons, List.map_cons]
      refine .cons ?_ ih
      obtain ⟨h1, h2, h3⟩ := h
      unfold putAt
      by_cases z : p.1 = k
      · rw [if_pos z, if_pos (h1.symm.trans z)]; exact ⟨h1, h2, rv⟩
      · rw [if_neg z, if_neg (fun y => z (h1.trans y))]; exact ⟨h1, h2, h3⟩
  · rw [if_neg q, if_neg q]
    exact Paired.snoc r ⟨rfl, rfl, rv⟩
theorem PairX.drop {kvs : List (κ × Addr × V)} {xs : List (κ × Addr × Value)} (r : Paired PairX kvs xs) (k : κ) : Paired PairX (dropX kvs k) (withoutH xs k) := by
  unfold dropX withoutH
  induction r with
  | nil => exact .nil
  | @cons p q ps qs h t ih =>
    rw [List.filter_cons, List.filter_cons]
    have h1 := h.1
    by_cases e : p.1 = k
    · rw [if_neg (by simp [e]), if_neg (by simp [h1.symm.trans e])]; exact ih
    · have e' : ¬ q.1 = k := fun z => e (h1.trans z)
      rw [if_pos (by simp [e]), if_pos (by simp [e'])]; exact .cons h ih
theorem length_putX (kvs : List (κ × Addr × V)) (k : κ) (b : Addr) (v : V) : (putX kvs k b v).length ≤ kvs.length + 1 := by
  unfold putX
  split
  · rw [List.length_map]; omega
  · rw [List.length_append]; simp
theorem dropX_le (kvs : List (κ × Addr × V)) (k : κ) : (dropX kvs k).length ≤ kvs.length := List.length_filter_le _ _
variable {P : Program} {w : World} {H : Hp} {h : Heap} {a : Addr} {T : HK κ} {kvs : List (κ × Addr × V)}
theorem dx_mk {xs : List (κ × Addr × Value)} (z : kvs.length ≤ sizeLine) (hd : (a == sysModules) = false) (r : Paired PairX kvs xs) (dd : h.DictOfH (T.knd P w) a xs) : ObjOk P w H h a (dX T.hash a kvs) := by
  obtain ⟨o, es, ep, h1, h2, h3, h4, h5, h6⟩ := dd
  refine ⟨⟨z, hd, xs, r, o, es, ep, h1, h2, h3, ?_, h6⟩, ⟨o, h1⟩, ?_⟩
  · rw [h4]
    refine List.map_congr_left fun x _ => ?_
    unfold entryOfKey
    rw [T.hash_eq]
  · rintro g1 g2 ⟨z, hd, xs, r, o, es, ep, e, c⟩ k
    exact ⟨z, hd, xs, r, o, es, ep, k o e, c⟩
noncomputable def OnX (T : HK κ) (H : Hp) (kvs : List (κ × Addr × V)) : Prop := ∀ p ∈ kvs, T.on H p.1 p.2.1
theorem OnX.keep {H' : Hp} (x : OnX T H kvs) (ht : ∀ b ys, H b = some (.tup ys) → H' b = some (.tup ys)) : OnX T H' kvs := fun p hp => T.keep (x p hp) ht
theorem OnX.drop (x : OnX T H kvs) (k : κ) : OnX T H (dropX kvs k) := fun p hp => x p (List.mem_filter.mp hp).1
theorem OnX.put (x : OnX T H kvs) {k : κ} {b : Addr} (hb : T.on H k b) (v : V) : OnX T H (putX kvs k b v) := by
  intro p hp
  unfold putX at hp
  split at hp
  · obtain ⟨q, hq, rfl⟩ := List.mem_map.mp hp
    split
    · exact x q hq
    · exact x q hq
  · rcases List.mem_append.mp hp with hp | hp
    · exact x p hp
    · simp only [List.mem_singleton] at hp
      subst hp; exact hb
theorem dx_raw (ok : HOk P w H h) (e : Rd H a (dX T.hash a kvs)) : kvs.length ≤ sizeLine ∧ (a == sysModules) = false ∧ ∃ xs, Paired PairX kvs xs ∧
    ∃ o es ep, h.get? a = some o ∧ o.ExactDict ∧ o.data = .dict es ep ∧ es.toList = xs.map (entryOfKey (T.knd P w)) ∧ (xs.map (·.1)).Nodup := by
  obtain ⟨⟨z, hd, xs, r, o, es, ep, h1, h2, h3, h4, h5⟩, _⟩ := (show ObjOk P w H h a (dX T.hash a kvs) from e.ok ok)
  refine ⟨z, hd, xs, r, o, es, ep, h1, h2, h3, ?_, h5⟩
  rw [h4]
  refine List.map_congr_left fun x _ => ?_
  unfold entryOfKey
  rw [T.hash_eq]
theorem paired_mem {α β : Type} {G : α → β → Prop} {l₁ : List α} {l₂ : List β} (h : Paired G l₁ l₂) : ∀ b ∈ l₂, ∃ a ∈ l₁, G a b := by
  induction h with
  | nil => intro b hb; cases hb
  | @cons a b l₁ l₂ r t ih =>
    intro c hc
    rcases List.mem_cons.mp hc with e | hc
    · subst e; exact ⟨a, by simp, r⟩
    · obtain ⟨x, hx, g⟩ := ih c hc
      exact ⟨x, by simp [hx], g⟩
theorem dx_at (ok : HOk P w H h) (e : Rd H a (dX T.hash a kvs)) (hk : OnX T H kvs) : kvs.length ≤ sizeLine ∧ (a == sysModules) = false ∧ ∃ xs, Paired PairX kvs xs ∧ h.DictOfH (T.knd P w) a xs := by
  obtain ⟨z, hd, xs, r, o, es, ep, h1, h2, h3, h4, h5⟩ := dx_raw ok e
  refine ⟨z, hd, xs, r, o, es, ep, h1, h2, h3, h4, fun x hx => ?_, h5⟩
  obtain ⟨p, hp, e1, e2, _⟩ := paired_mem r x hx
  rw [← e1, ← e2]
  exact T.sound ok (hk p hp)
theorem dx_type {X : Cx} {pins : List (Addr × Obj)} {σ : St} {s : Shared} (I : Inv X pins σ H s) (e : Rd H a (dX T.hash a kvs)) :
    s.TypeIs (.ref a) "dict" ∧ (∀ b, Value.ref a = .ref b → ∃ ob, s.heap.get? b = some ob ∧ ob.dict = none) := by
  obtain ⟨_, _, _, _, o, _, _, h1, h2, _⟩ := dx_raw I.hok e
  refine ⟨⟨o, h1, h2.1⟩, fun b q => ?_⟩
  cases q
  exact ⟨o, h1, h2.2.1⟩
end
section
variable {κ : Type} [DecidableEq κ] {T : HK κ} {kvs : List (κ × Addr × V)} {k : κ} {X : Cx} {pins : List (Addr × Obj)} {σ : St} {H : Hp} {s : Shared} {a b : Addr} {v : V} {A : Around} {E : Value → Shared → Prop}
theorem x_getItem {Q : Value → Shared → Prop} (hu : A.units + 2 < cLine) (I : Inv X pins σ H s) (e : Rd H a (dX T.hash a kvs)) (hk : OnX T H kvs) (hb : T.on H k b) (l : valX kvs k = some v)
    (h : ∀ w' s', Inv X pins σ H s' → RelV v w' → Q w' s') : wpAny (model X.prog X.w) A (getItem (.ref a) (.ref b)) Q E s := by
  obtain ⟨z, hd, xs, rel, dd⟩ := dx_at I.hok e hk
  obtain ⟨w', hw, rw'⟩ := RelO.some_of (v := v) (o := (atKey xs k).map (·.2)) (by rw [← l]; exact PairX.val rel k)
  obtain ⟨p, hp, hp2⟩ := Option.map_eq_some_iff.mp hw
  refine wpAny_getItem_heap (T.room hu) (T.sound I.hok hb) dd hp ?_
  rw [hp2]
  exact h w' _ (I.tok _) rw'
theorem x_in {Q : Value → Shared → Prop} (hu : A.units + 2 < cLine) (I : Inv X pins σ H s) (e : Rd H a (dX T.hash a kvs)) (hk : OnX T H kvs) (hb : T.on H k b) (h : ∀ s', Inv X pins σ H s' → Q (.bool (valX kvs k).isSome) s') :
    wpAny (model X.prog X.w) A (compareOp .In (.ref b) (.ref a)) Q E s := by
  obtain ⟨z, hd, xs, rel, dd⟩ := dx_at I.hok e hk
  refine wpAny_in_heap (T.room hu) (T.sound I.hok hb) hd dd ?_
  have q := (PairX.val rel k).isSome_eq
  rw [Option.isSome_map] at q
  rw [← q]
  exact h _ (I.tok _)
theorem x_notIn {Q : Value → Shared → Prop} (hu : A.units + 2 < cLine) (I : Inv X pins σ H s) (e : Rd H a (dX T.hash a kvs)) (hk : OnX T H kvs) (hb : T.on H k b) (h : ∀ s', Inv X pins σ H s' → Q (.bool (!(valX kvs k).isSome)) s') :
    wpAny (model X.prog X.w) A (compareOp .NotIn (.ref b) (.ref a)) Q E s := by
  obtain ⟨z, hd, xs, rel, dd⟩ := dx_at I.hok e hk
  refine wpAny_notIn_heap (T.room hu) (T.sound I.hok hb) hd dd ?_
  have q := (PairX.val rel k).isSome_eq
  rw [Option.isSome_map] at q
  rw [← q]
  exact h _ (I.tok _)
theorem x_setItem {u : Value} {Q : Unit → Shared → Prop} (hu : A.units + 2 < cLine) (I : Inv X pins σ H s) (e : H a = some (dX T.hash a kvs)) (hk : OnX T H kvs) (hb : T.on H k b) (hl : kvs.length < sizeLine) (rv : RelV v u)
    (h : ∀ s', Inv X pins σ (upd H a (dX T.hash a (putX kvs k b v))) s' → Q () s') : wpAny (model X.prog X.w) A (setItem (.ref a) (.ref b) u) Q E s := by
  obtain ⟨z, hd, xs, rel, dd⟩ := dx_at I.hok (.inl e) hk
  have hz : xs.length ≤ sizeLine := by rw [← Paired.length rel]; exact z
  have hl' : (putX kvs k b v).length ≤ sizeLine := by have := length_putX kvs k b v; omega
  refine wpAny_setItem_heap (hsz := hz) (T.room hu) (T.sound I.hok hb) dd fun h' dd' hs => h _ ?_
  have he : ∃ q, h'.get? a = some q := let ⟨q, _, _, hq, _⟩ := dd'; ⟨q, hq⟩
  exact d_write I (by rw [e]; exact True.intro) hs he (dx_mk hl' hd (PairX.put rel k b rv) dd')
theorem x_pop {more : List Value} {Q : Value → Shared → Prop} (hu : A.units + 2 < cLine) (I : Inv X pins σ H s) (e : H a = some (dX T.hash a kvs)) (hk : OnX T H kvs) (hb : T.on H k b) (hm : more = [] ∨ ∃ x, more = [x])
    (hs : ∀ v, valX kvs k = some v → ∀ w' s', Inv X pins σ (upd H a (dX T.hash a (dropX kvs k))) s' → RelV v w' → Q w' s')
    (hn : valX kvs k = none → ∃ x, more = [x] ∧ ∀ s', Inv X pins σ H s' → Q x s') : wpAny (model X.prog X.w) A (call (.builtin "dict.pop") (.ref a :: .ref b :: more)) Q E s := by
  obtain ⟨z, hd, xs, rel, dd⟩ := dx_at I.hok (.inl e) hk
  have hz : xs.length ≤ sizeLine := by rw [← Paired.length rel]; exact z
  have ha : argsOk "dict.pop" ⟨.ref a :: .ref b :: more, []⟩ := by
    rcases hm with q | ⟨x, q⟩
    · subst q; exact PySem.F.args_dict_pop_2 _ _
    · subst q; exact PySem.F.args_dict_pop_3 _ _ _
  refine call_meetsIn PySem.F.slot_dict_pop dd.typeIs PySem.F.entry_dict_pop ha (meetsH_dict_pop (T.knd X.prog X.w) a b hd more hm) ⟨T.room hu, k, xs, T.sound I.hok hb, dd, hz, ?_⟩
  have rv := PairX.val rel k
  cases hv : valX kvs k with
  | some v =>
    rw [hv] at rv
    obtain ⟨w', hw, rw'⟩ := RelO.some_of (v := v) (o := (atKey xs k).map (·.2)) rv
    obtain ⟨p, hp, hp2⟩ := Option.map_eq_some_iff.mp hw
    refine .inl ⟨p, hp, fun h' dd' hsb => hs v hv p.2 _ ?_ (by rw [hp2]; exact rw')⟩
    have he : ∃ q, h'.get? a = some q := let ⟨q, _, _, hq, _⟩ := dd'; ⟨q, hq⟩
    exact d_write I (by rw [e]; exact True.intro) hsb he (dx_mk (Nat.le_trans (dropX_le kvs k) z) hd (PairX.drop rel k) dd')
  | none =>
    rw [hv] at rv
    have hno : (atKey xs k).map (·.2) = none := RelO.none_of rv
    obtain ⟨x, hx, hq⟩ := hn hv
    exact .inr ⟨x, Option.map_eq_none_iff.mp hno, hx, fun n => hq _ (I.tok _)⟩
end
section
variable {κ : Type} [DecidableEq κ] (T : HK κ)
noncomputable def tXGet (td ty : TE) : TE := fun σ H Q => td σ H fun x H1 => ty σ H1 fun y H2 => ∃ a b kvs k v, x = .ref a ∧ y = .ref b ∧ Rd H2 a (dX T.hash a kvs) ∧ OnX T H2 kvs ∧ T.on H2 k b ∧ valX kvs k = some v ∧ Q v H2
noncomputable def tXIn (ty td : TE) : TE := fun σ H Q => ty σ H fun y H1 => td σ H1 fun x H2 => ∃ a b kvs k, x = .ref a ∧ y = .ref b ∧ Rd H2 a (dX T.hash a kvs) ∧ OnX T H2 kvs ∧ T.on H2 k b ∧ Q (.bl (valX kvs k).isSome) H2
noncomputable def tXNotIn (ty td : TE) : TE := fun σ H Q => ty σ H fun y H1 => td σ H1 fun x H2 => ∃ a b kvs k, x = .ref a ∧ y = .ref b ∧ Rd H2 a (dX T.hash a kvs) ∧ OnX T H2 kvs ∧ T.on H2 k b ∧ Q (.bl (!(valX kvs k).isSome)) H2
noncomputable def sXPut (td ty tv : TE) : TS := fun D σ H => tv σ H fun v H1 => td σ H1 fun x H2 => ty σ H2 fun y H3 => ∃ a b kvs k, x = .ref a ∧ y = .ref b ∧ H3 a = some (dX T.hash a kvs) ∧ OnX T H3 kvs ∧ T.on H3 k b ∧ kvs.length < sizeLine ∧ D.nx σ (upd H3 a (dX T.hash a (putX kvs k b v)))
noncomputable def tXPop1 (td ty : TE) : TE := fun σ H Q => td σ H fun x H1 => ∃ a kvs0, x = .ref a ∧ Rd H1 a (dX T.hash a kvs0) ∧ ty σ H1 fun y H2 => ∃ b kvs k v, y = .ref b ∧ H2 a = some (dX T.hash a kvs) ∧ OnX T H2 kvs ∧ T.on H2 k b ∧ valX kvs k = some v ∧ Q v (upd H2 a (dX T.hash a (dropX kvs k)))
noncomputable def tXPop2 (td ty tx : TE) : TE := fun σ H Q => td σ H fun x H1 => ∃ a kvs0, x = .ref a ∧ Rd H1 a (dX T.hash a kvs0) ∧ ty σ H1 fun y H2 => tx σ H2 fun z H3 => ∃ b kvs k, y = .ref b ∧ H3 a = some (dX T.hash a kvs) ∧ OnX T H3 kvs ∧ T.on H3 k b ∧
  (∀ v, valX kvs k = some v → Q v (upd H3 a (dX T.hash a (dropX kvs k)))) ∧ (valX kvs k = none → Q z H3)
variable {T} {X : Cx} {o i e f value : Expr} {pos pos' tpos apos cpos : Pos} {td ty tv tx : TE}
theorem pe_xget (hu : X.A.units + 2 < cLine) (ho : PE X o td) (hi : PE X i ty) (hs : NoSl i) : PE X (.Subscript o i pos) (tXGet T td ty) := by
  intro pins s σ H Q I h
  refine subD_of PySem.F.slot_dict_getitem.lookup hs (thn (ho pins s σ H _ I h) fun u s1 hm0 => ?_)
  obtain ⟨x, H1, I1, rx, q1⟩ := hm0
  refine thn (hi pins s1 σ H1 _ I1 q1) fun iv s2 hm1 => ?_
  obtain ⟨y, H2, I2, ry, a, b, kvs, k, v, ex, ey, g, hk, hb, l, q2⟩ := hm1
  subst ex ey
  obtain rfl : u = Value.ref a := rx
  obtain rfl : iv = Value.ref b := ry
  exact ⟨(dx_type I2 g).1, x_getItem hu I2 g hk hb l fun w' s3 I3 rw' => ⟨v, H2, I3, rw', q2⟩⟩
theorem pc_xin (hu : X.A.units + 2 < cLine) (hi : PE X i ty) (ho : PE X o td) : PC X .In i o (tXIn T ty td) := by
  intro pins s σ H Q I h
  refine thn (hi pins s σ H _ I h) fun iv s1 hm2 => ?_
  obtain ⟨y, H1, I1, ry, q1⟩ := hm2
  refine thn (ho pins s1 σ H1 _ I1 q1) fun u s2 hm3 => ?_
  obtain ⟨x, H2, I2, rx, a, b, kvs, k, ex, ey, g, hk, hb, q2⟩ := hm3
  subst ex ey
  obtain rfl : u = Value.ref a := rx
  obtain rfl : iv = Value.ref b := ry
  exact x_in hu I2 g hk hb fun s3 I3 => ⟨.bl _, H2, I3, rfl, q2⟩
theorem pc_xnotin (hu : X.A.units + 2 < cLine) (hi : PE X i ty) (ho : PE X o td) : PC X .NotIn i o (tXNotIn T ty td) := by
  intro pins s σ H Q I h
  refine thn (hi pins s σ H _ I h) fun iv s1 hm4 => ?_
  obtain ⟨y, H1, I1, ry, q1⟩ := hm4
  refine thn (ho pins s1 σ H1 _ I1 q1) fun u s2 hm5 => ?_
  obtain ⟨x, H2, I2, rx, a, b, kvs, k, ex, ey, g, hk, hb, q2⟩ := hm5
  subst ex ey
  obtain rfl : u = Value.ref a := rx
  obtain rfl : iv = Value.ref b := ry
  exact x_notIn hu I2 g hk hb fun s3 I3 => ⟨.bl _, H2, I3, rfl, q2⟩
theorem ps_xput (hu : X.A.units + 2 < cLine) (ho : PE X o td) (hi : PE X i ty) (hv : PE X value tv) (hs : swapsWith value (some (.Subscript o i pos')) pos.line X.env = pure false) :
    PS X (.Assign [.Subscript o i pos'] value pos) (sXPut T td ty tv) := by
  intro pins s σ H D I h
  refine wpAny_Assign_Subscript (thn (hv pins s σ H _ I h) fun r s1 hm6 => ?_) hs
  obtain ⟨v, H1, I1, rv, q1⟩ := hm6
  refine thn (ho pins s1 σ H1 _ I1 q1) fun u s2 hm7 => ?_
  obtain ⟨x, H2, I2, rx, q2⟩ := hm7
  refine thn (hi pins s2 σ H2 _ I2 q2) fun iv s3 hm8 => ?_
  obtain ⟨y, H3, I3, ry, a, b, kvs, k, ex, ey, g, hk, hb, hl, q3⟩ := hm8
  subst ex ey
  obtain rfl : u = Value.ref a := rx
  obtain rfl : iv = Value.ref b := ry
  exact x_setItem hu I3 g hk hb hl rv fun s4 I4 => ⟨σ, _, I4, q3⟩
theorem pe_xpop1 (hu : X.A.units + 2 < cLine) (ho : PE X o td) (he : PE X e ty) (m : M1 X o "pop" apos e cpos) : PE X (.Call (.Attribute o "pop" apos) [e] [] cpos) (tXPop1 T td ty) := by
  intro pins s σ H Q I h
  refine wpAny_Call_method m.base m.few m.line PySem.F.plainAttrs_dict PySem.F.slot_dict_pop PySem.F.type_dict_pop (thn (ho pins s σ H _ I h) fun u s1 hm9 => ?_)
  obtain ⟨x, H1, I1, rx, a, kvs0, ex, d, q1⟩ := hm9
  subst ex
  obtain rfl : u = Value.ref a := rx
  obtain ⟨t1, t2⟩ := dx_type I1 d
  refine ⟨t1, t2, ?_⟩
  rw [m.trees]
  refine Calls.callWith_builtin rfl (Calls.evalArgs_plain (Calls.spliced_cons (thn (he pins s1 σ H1 _ I1 q1) fun iv s2 hm10 => ?_)))
  obtain ⟨y, H2, I2, ry, b, kvs, k, v, ey, g, hk, hb, l, q2⟩ := hm10
  refine Calls.spliced_nil ?_
  subst ey
  obtain rfl : iv = Value.ref b := ry
  refine x_pop hu I2 g hk hb (.inl rfl) (fun v' l' w' s3 I3 rw' => ?_) fun l' => ?_
  · rw [l] at l'
    cases l'
    exact ⟨v, _, I3, rw', q2⟩
  · rw [l] at l'; cases l'
theorem pe_xpop2 (hu : X.A.units + 2 < cLine) (ho : PE X o td) (he : PE X e ty) (hf : PE X f tx) (m : M2 X o "pop" apos e f cpos) : PE X (.Call (.Attribute o "pop" apos) [e, f] [] cpos) (tXPop2 T td ty tx) := by
  intro pins s σ H Q I h
  refine wpAny_Call_method m.base m.few m.line PySem.F.plainAttrs_dict PySem.F.slot_dict_pop PySem.F.type_dict_pop (thn (ho pins s σ H _ I h) fun u s1 hm11 => ?_)
  obtain ⟨x, H1, I1, rx, a, kvs0, ex, d, q1⟩ := hm11
  subst ex
  obtain rfl : u = Value.ref a := rx
  obtain ⟨t1, t2⟩ := dx_type I1 d
  refine ⟨t1, t2, ?_⟩
  rw [m.trees]
  refine Calls.callWith_builtin rfl (Calls.evalArgs_plain (Calls.spliced_cons (thn (he pins s1 σ H1 _ I1 q1) fun iv s2 ⟨y, H2, I2, ry, q2⟩ =>
    Calls.spliced_cons (thn (hf pins s2 σ H2 _ I2 q2) fun fv s3 ⟨z, H3, I3, rz, b, kvs, k, ey, g, hk, hb, q3, q4⟩ => Calls.spliced_nil ?_))))
  subst ey
  obtain rfl : iv = Value.ref b := ry
  refine x_pop hu I3 g hk hb (.inr ⟨fv, rfl⟩) (fun v' l' w' s4 I4 rw' => ⟨v', _, I4, rw', q3 v' l'⟩) fun l' => ⟨fv, rfl, fun s4 I4 => ⟨z, H3, I4, rz, q4 l'⟩⟩
noncomputable def tXNew (hash : κ → Int) : TE := fun _ H Q => ∀ p, H p = none → Q (.ref p) (upd H p (dX hash p []))
theorem pe_xnew : PE X (.Dict [] [] pos) (tXNew T.hash) := fun pins s σ H Q I h =>
  wpAny_Dict_empty ⟨.ref s.heap.objs.size, _, I.laid (a := s.heap.objs.size) (o := dX T.hash s.heap.objs.size []) (t' := s.toks) (fun _ _ q => Heap.get?_push_of_some _ q) (Nat.le_refl _)
    (dx_mk (xs := []) (Nat.zero_le _) (beq_eq_false_iff_ne.mpr (Ne.symm (Nat.ne_of_lt I.big))) .nil (Heap.DictOfH.new _)), rfl, h _ (I.hok.fresh (Nat.le_refl _))⟩
theorem call_lenX : CallR X (.builtin "len") (fun xs H Q => ∃ a kvs, xs = [V.ref a] ∧ Rd H a (dX T.hash a kvs) ∧ Q (.int kvs.length) H) := by
  intro pins s σ H xs us Q I r h
  obtain ⟨a, kvs, rfl, e, q⟩ := h
  obtain ⟨u, rfl, rx⟩ := vals1 r
  cases rx
  obtain ⟨z, hd, xs, rel, o, es, ep, h1, h2, h3, h4, _⟩ := dx_raw (T := T) I.hok e
  have hs : es.size = kvs.length := by rw [size_of_entries h4, ← Paired.length rel]
  have hz : (es.size : Int) < 2 ^ 63 := by rw [hs]; rw [sizeLine_eq] at z; omega
  exact lenBody_raw hd h1 h2 h3 hz fun t n => ⟨.int kvs.length, H, I.tok _, ⟨t, by rw [hs]⟩, q⟩
theorem keys_vals {κ : Type} [DecidableEq κ] {P : Program} {w : World} {knd : HeapKind P w κ} {kvs : List (κ × Addr × V)} {xs : List (κ × Addr × Value)} {es : Array DictEntry} (r : Paired PairX kvs xs) (he : es.toList = xs.map (entryOfKey knd)) {acc : Array Value}
    (ha : ItemsOf (fun i v => ∃ en, es[i]? = some en ∧ v = en.key) acc es.size) : Vals (kvs.map fun p => V.ref p.2.1) acc.toList := by
  have e : acc.toList = xs.map fun x => Value.ref x.2.1 := by
    refine List.ext_getElem? fun i => ?_
    rw [List.getElem?_map, Array.getElem?_toList]
    have hsz : es.size = xs.length := size_of_entries he
    cases hx : xs[i]? with
    | none =>
      rw [Array.getElem?_eq_none (by rw [ha.1, hsz]; exact List.getElem?_eq_none_iff.mp hx)]
      rfl
    | some x =>
      have hi : i < acc.size := by rw [ha.1, hsz]; exact (List.getElem?_eq_some_iff.mp hx).1
      obtain ⟨en, h1, h2⟩ := ha.2 i acc[i] (Array.getElem?_eq_getElem hi)
      rw [entry_at he i, hx] at h1
      have h1' : entryOfKey knd x = en := Option.some.inj h1
      rw [Array.getElem?_eq_getElem hi, h2, ← h1']
      rfl
  rw [e]
  clear e ha he
  induction r with
  | nil => exact .nil
  | @cons p q ps qs h t ih => exact .cons (by show Value.ref q.2.1 = Value.ref p.2.1; rw [h.2.1]) ih
theorem call_listX (hc : X.calm = true) : CallR X (.type "list") (fun xs H Q => ∃ a kvs, xs = [V.ref a] ∧ Rd H a (dX T.hash a kvs) ∧ ∀ l, H l = none → Q (.ref l) (upd H l (.lst (kvs.map fun p => V.ref p.2.1)))) := by
  intro pins s σ H xs us Q I r h
  obtain ⟨a, kvs, rfl, e, q⟩ := h
  obtain ⟨u, rfl, rx⟩ := vals1 r
  cases rx
  obtain ⟨z, hd, xs, rel, o, es, ep, h1, h2, h3, h4, _⟩ := dx_raw (T := T) I.hok e
  have hs : es.size = kvs.length := by rw [size_of_entries h4, ← Paired.length rel]
  refine PySem.W.kdl_call (kdl_raw hd h2 h3) (I.ok.hd hc) h1 (by rw [hs]; exact z) fun h' tk acc c' hk hS hacc => ?_
  have hv := keys_vals rel h4 hacc
  refine ⟨.ref s.heap.objs.size, _, I.laid (t' := tk) hk (Nat.le_refl _) (show ObjOk X.prog X.w _ h' _ (.lst _) from ⟨by rw [List.length_map]; exact z, acc.toList, c', hv, ?_⟩), rfl, q _ (I.hok.fresh (Nat.le_refl _))⟩
  rw [hS]
end
end L2
end
section
set_option linter.all false
set_option maxRecDepth 100000
set_option maxHeartbeats 2000000
namespace PySem
noncomputable def HeapKind.via {prog : Program} {w : World} {ι κ : Type} [DecidableEq ι] [DecidableEq κ] (K : HeapKind prog w ι) (f : κ → ι) (hf : ∀ a b, f a = f b → a = b) : HeapKind prog w κ where
  is := fun h k a => K.is h (f k) a
  hash := fun k => K.hash (f k)
  draws := fun k => K.draws (f k)
  room := K.room
  inj := fun hx hy => hf _ _ (K.inj hx hy)
  keeps := fun x ho hd hs => K.keeps x ho hd hs
  pyHash := fun hu hk h => K.pyHash hu hk h
  eqBool := fun {A E s x y a b Q} hu hx hy h => K.eqBool hu hx hy (by
    have e : decide (f x = f y) = decide (x = y) := by
      by_cases z : x = y
      · rw [decide_eq_true z, decide_eq_true (congrArg f z)]
      · rw [decide_eq_false z, decide_eq_false (fun q => z (hf _ _ q))]
    rw [e]; exact h)
  quiet := fun hk h => K.quiet hk h
end PySem
namespace L2
open PySem PySem.Spec PyProof.Rows
open Sf46 (Net)
noncomputable def nV (n : Net) : List V := [.int (n.1 : Int), .int (n.2 : Int)]
noncomputable def nI (n : Net) : List Int := [(n.1 : Int), (n.2 : Int)]
theorem nI_inj {a b : Net} (h : nI a = nI b) : a = b := by
  obtain ⟨a1, a2⟩ := a
  obtain ⟨b1, b2⟩ := b
  simp only [nI, List.cons.injEq, and_true] at h
  obtain ⟨h1, h2⟩ := h
  rw [Int.ofNat.inj h1, Int.ofNat.inj h2]
theorem nV_inj {a b : Net} (h : nV a = nV b) : a = b := by
  obtain ⟨a1, a2⟩ := a
  obtain ⟨b1, b2⟩ := b
  simp only [nV, List.cons.injEq, V.int.injEq, and_true] at h
  obtain ⟨h1, h2⟩ := h
  rw [Int.ofNat.inj h1, Int.ofNat.inj h2]
theorem nV_key {P : Program} {w : World} {H : Hp} {h : Heap} {n : Net} {a : Addr} (ok : HOk P w H h) (e : H a = some (.tup (nV n))) : IsTupleKey (PySem.intKind P w) h (nI n) a := by
  obtain ⟨_, its, r, o, h1, h2, m, h3⟩ := (show ObjOk P w H h a (.tup (nV n)) from ok a _ e)
  refine ⟨o, its.toArray, m, h1, h2, h3, ?_⟩
  cases r with
  | cons r1 r2 =>
    cases r2 with
    | cons r3 r4 =>
      cases r4
      obtain ⟨t, rfl⟩ := r1
      obtain ⟨u, rfl⟩ := r3
      exact .cons (by simp [PySem.intKind, Value.isInt]) (.cons (by simp [PySem.intKind, Value.isInt]) .nil)
noncomputable def netK : HK Net where
  hash := fun n => reduceHash (Builtin.Tuple.tupleHashOf ((nI n).map hashInt))
  knd := fun P w => (tupleKind (PySem.intKind P w)).via nI fun _ _ h => nI_inj h
  hash_eq := fun _ _ => rfl
  on := fun H n a => H a = some (.tup (nV n))
  sound := fun ok e => nV_key ok e
  keep := fun e ht => ht _ _ e
  room := fun {P w A} hu => by
    show A.in1.units < cLine
    have : A.in1.units = A.units + 1 := rfl
    omega
noncomputable def pI (x : Nat × Net) : Int × List Int := ((x.1 : Int), nI x.2)
noncomputable def pairK : HK (Nat × Net) where
  hash := fun x => reduceHash (Builtin.Tuple.tupleHashOf [hashInt (x.1 : Int), reduceHash (Builtin.Tuple.tupleHashOf ((nI x.2).map hashInt))])
  knd := fun P w => (pairKind (PySem.intKind P w)).via pI fun a b h => by
    obtain ⟨a1, a2⟩ := a
    obtain ⟨b1, b2⟩ := b
    simp only [pI, Prod.mk.injEq] at h
    rw [Int.ofNat.inj h.1, nI_inj h.2]
  hash_eq := fun _ _ => rfl
  on := fun H x a => ∃ b, H a = some (.tup [.int (x.1 : Int), .ref b]) ∧ H b = some (.tup (nV x.2))
  sound := fun {P w H h k a} ok e => by
    obtain ⟨b, e1, e2⟩ := e
    obtain ⟨_, its, r, o, h1, h2, m, h3⟩ := (show ObjOk P w H h a (.tup [.int (k.1 : Int), .ref b]) from ok a _ e1)
    cases r with
    | cons r1 r2 =>
      cases r2 with
      | cons r3 r4 =>
        cases r4
        obtain ⟨t, rfl⟩ := r1
        cases r3
        exact ⟨o, _, b, m, h1, h2, h3, by simp [PySem.intKind, Value.isInt, pI], nV_key ok e2⟩
  keep := fun e ht => by
    obtain ⟨b, e1, e2⟩ := e
    exact ⟨b, ht _ _ e1, ht _ _ e2⟩
  room := fun {P w A} hu => pairKind_room_in1 (knd := PySem.intKind P w) hu
end L2
end
section
set_option linter.all false
set_option maxRecDepth 100000
set_option maxHeartbeats 2000000
namespace L2
open PySem PySem.Spec PyProof.Rows
open Sf46 (Net)
theorem perm_map_ex {α β : Type} {f : α → β} : ∀ {l : List β} {m : List β}, l.Perm m → ∀ {ps : List α}, m = ps.map f → ∃ ps' : List α, ps'.Perm ps ∧ l = ps'.map f := by
  intro l m h
  induction h with
  | nil => intro ps e; exact ⟨ps, .refl _, e⟩
  | @cons x l₁ l₂ h ih =>
    intro ps e
    cases ps with
    | nil => cases e
    | cons p ps =>
      rw [List.map_cons] at e
      injection e with e1 e2
      obtain ⟨qs, h1, h2⟩ := ih e2
      exact ⟨p :: qs, h1.cons p, by rw [List.map_cons, ← h2, e1]⟩
  | @swap x y l =>
    intro ps e
    match ps, e with
    | p :: q :: ps, e =>
      rw [List.map_cons, List.map_cons] at e
      injection e with e1 e2
      injection e2 with e2 e3
      exact ⟨q :: p :: ps, List.Perm.swap _ _ _, by rw [List.map_cons, List.map_cons, ← e1, ← e2, ← e3]⟩
  | @trans l₁ l₂ l₃ h1 h2 ih1 ih2 =>
    intro ps e
    obtain ⟨qs, a, b⟩ := ih2 e
    obtain ⟨rs, c, d⟩ := ih1 b
    exact ⟨rs, c.trans a, d⟩
noncomputable def shN : Nat → Bool := fun _ => false
noncomputable def keyN (n : Net) : List (Int ⊕ List Nat) := [Sum.inl (n.1 : Int), Sum.inl (n.2 : Int)]
theorem keyN_lt {a b : Net} : lexLt itemOrd (keyN a) (keyN b) = true ↔ R46.lt a b := by
  have e1 : itemOrd.blt (Sum.inl (a.1 : Int)) (Sum.inl (b.1 : Int)) = decide ((a.1 : Int) < (b.1 : Int)) := rfl
  have e2 : itemOrd.blt (Sum.inl (b.1 : Int)) (Sum.inl (a.1 : Int)) = decide ((b.1 : Int) < (a.1 : Int)) := rfl
  have e3 : itemOrd.blt (Sum.inl (a.2 : Int)) (Sum.inl (b.2 : Int)) = decide ((a.2 : Int) < (b.2 : Int)) := rfl
  have e4 : itemOrd.blt (Sum.inl (b.2 : Int)) (Sum.inl (a.2 : Int)) = decide ((b.2 : Int) < (a.2 : Int)) := rfl
  have e5 : lexLt itemOrd [] [] = false := rfl
  unfold keyN R46.lt
  rw [lex_cons, lex_cons, e1, e2, e3, e4, e5]
  simp only [Bool.and_false, Bool.or_false, Bool.or_eq_true, Bool.and_eq_true, Bool.not_eq_true', decide_eq_true_eq, decide_eq_false_iff_not]
  omega
section
variable {P : Program} {w : World} {H : Hp} {h : Heap}
theorem net_obj (ok : HOk P w H h) {n : Net} {a : Addr} (e : H a = some (.tup (nV n))) : ∃ (o : Obj) (t u : Tok) (m : Nat), h.get? a = some o ∧ o.cls = .type "tuple" ∧ o.data = .seq #[.int (n.1 : Int) t, .int (n.2 : Int) u] m := by
  obtain ⟨_, its, r, o, h1, h2, m, h3⟩ := (show ObjOk P w H h a (.tup (nV n)) from ok a _ e)
  cases r with
  | cons r1 r2 =>
    cases r2 with
    | cons r3 r4 =>
      cases r4
      obtain ⟨t, rfl⟩ := r1
      obtain ⟨u, rfl⟩ := r3
      exact ⟨o, t, u, m, h1, h2, h3⟩
theorem net_keyC (ok : HOk P w H h) {n : Net} {a : Addr} (e : H a = some (.tup (nV n))) : G.tupKeyC h shN (.ref a) = some (keyN n) := by
  obtain ⟨o, t, u, m, h1, h2, h3⟩ := net_obj ok e
  unfold G.tupKeyC
  have e1 : G.isTupObj h (.ref a) = true := by simp [G.isTupObj, h1, h2]
  rw [if_pos e1]
  simp only [tupKey, h1, h3]
  rfl
theorem nets_tups (ok : HOk P w H h) : ∀ (ps : List (Net × Addr)), (∀ p ∈ ps, H p.2 = some (.tup (nV p.1))) → ∃ fs, TupsOf h shN (ps.map fun p => Value.ref p.2) fs
  | [], _ => ⟨[], .nil⟩
  | p :: ps, hp => by
    obtain ⟨fs, hf⟩ := nets_tups ok ps fun q hq => hp q (by simp [hq])
    obtain ⟨o, t, u, m, h1, h2, h3⟩ := net_obj ok (hp p (by simp))
    exact ⟨.int (p.1.1 : Int) t :: fs, .cons ⟨p.2, o, _, m, rfl, h1, h2, h3, rfl, fun _ => ⟨_, _, rfl⟩, fun z => by cases z⟩ hf⟩
theorem nets_out (ok : HOk P w H h) {ps : List (Net × Addr)} (hp : ∀ p ∈ ps, H p.2 = some (.tup (nV p.1))) {arr : Array Keyed} (h1 : arr.Perm (pairsOf (ps.map fun p => Value.ref p.2)))
    (h2 : SortedToK (G.tupKindC h shN) arr (pairsOf (ps.map fun p => Value.ref p.2)).size) :
    ∃ ps' : List (Net × Addr), ps'.Perm ps ∧ ps'.Pairwise (fun a b => ¬ R46.lt b.1 a.1) ∧ (arr.map (·.2)).toList = ps'.map fun p => Value.ref p.2 := by
  have hl := Array.perm_iff_toList_perm.mp h1
  rw [pairsOf_toList] at hl
  have ez : (ps.map fun p => Value.ref p.2).zip (ps.map fun p => Value.ref p.2) = ps.map fun p => ((Value.ref p.2, Value.ref p.2) : Keyed) := by
    clear hl h1 h2 hp
    induction ps with
    | nil => rfl
    | cons p ps ih => simp only [List.map_cons, List.zip_cons_cons, ih]
  obtain ⟨ps', q1, q2⟩ := perm_map_ex hl ez
  refine ⟨ps', q1, ?_, ?_⟩
  · rw [List.pairwise_iff_getElem]
    intro i j hi hj hij hlt
    have hsz : (pairsOf (ps.map fun p => Value.ref p.2)).size = ps'.length := by rw [pairsOf_size, List.length_map, q1.length_eq]
    have hk := h2 i j (Nat.le_of_lt hij) (by rw [hsz]; exact hj)
    have key : ∀ (m : Nat) (hm : m < ps'.length), KK (G.tupKindC h shN) arr m = keyN ps'[m].1 := fun m hm => by
      have e : arr[m]? = some (Value.ref ps'[m].2, Value.ref ps'[m].2) := by
        rw [← Array.getElem?_toList, q2, List.getElem?_map, List.getElem?_eq_getElem hm]; rfl
      unfold KK
      rw [e]
      show (G.tupKeyC h shN (Value.ref ps'[m].2)).getD [] = _
      rw [net_keyC ok (hp _ (q1.mem_iff.mp (List.getElem_mem hm)))]
      rfl
    rw [key i hi, key j hj] at hk
    have hk' : lexLt itemOrd (keyN ps'[j].1) (keyN ps'[i].1) = false := hk
    rw [keyN_lt.mpr hlt] at hk'
    cases hk'
  · rw [Array.toList_map, q2, List.map_map]
    rfl
end
section
variable {X : Cx}
noncomputable def rSortN (K : PySem.W.Frag) : List V → Hp → VK → Prop := fun vs H Q => ∃ (a : Addr) (ps : List (Net × Addr)), vs = [V.ref a] ∧ SqL K H a (ps.map fun p => V.ref p.2) ∧ (∀ p ∈ ps, H p.2 = some (.tup (nV p.1))) ∧
  ∀ (ps' : List (Net × Addr)) (l : Addr), ps'.Perm ps → ps'.Pairwise (fun a b => ¬ R46.lt b.1 a.1) → H l = none → Q (.ref l) (upd H l (.lst (ps'.map fun p => V.ref p.2)))
theorem vals_refs {ps : List (Net × Addr)} {its : List Value} (r : Vals (ps.map fun p => V.ref p.2) its) : its = ps.map fun p => Value.ref p.2 := by
  induction ps generalizing its with
  | nil => cases r; rfl
  | cons p ps ih =>
    cases r with
    | cons a b => cases a; rw [ih b]; rfl
theorem refs_vals : ∀ (ps : List (Net × Addr)), Vals (ps.map fun p => V.ref p.2) (ps.map fun p => Value.ref p.2)
  | [] => .nil
  | _ :: ps => .cons rfl (refs_vals ps)
theorem cr_sortN : CallR X (.builtin "sorted") (rSortN X.K) := by
  intro pins s σ H vs us Q I r h
  obtain ⟨a, ps, rfl, hs, hp, q⟩ := h
  obtain ⟨its, rv, hl, hz⟩ := I.list hs
  rw [Vals.ref1 r]
  have e := vals_refs rv
  subst e
  rw [List.length_map] at hz
  obtain ⟨fs, ht⟩ := nets_tups I.hok ps hp
  refine G.sorted_tups hl.isList ht (fun v hv => ?_) (by rw [List.length_map]; exact hz) fun st' h1 h2 _ => ?_
  · obtain ⟨p, hp', rfl⟩ := List.mem_map.mp hv
    exact ⟨_, net_keyC I.hok (hp p hp')⟩
  · obtain ⟨ps', q1, q2, q3⟩ := nets_out I.hok hp h1 h2
    obtain ⟨ep, he'⟩ := PyProof.Rows.sortedAll_at s.heap (ps.map fun p => Value.ref p.2) ((arrOf st').map (·.2))
    have hlen : (ps'.map fun p => V.ref p.2).length ≤ sizeLine := by rw [List.length_map, q1.length_eq]; exact hz
    refine ⟨.ref _, upd H (s.heap.objs.size + 1) (.lst (ps'.map fun p => V.ref p.2)), I.laid (t' := s.toks) (fun _ _ => PyProof.Rows.sortedAll_old) (Nat.le_succ _) ⟨hlen, ((arrOf st').map (·.2)).toList, ep, ?_, he'⟩, rfl, q ps' _ q1 q2 (I.hok.fresh (Nat.le_succ _))⟩
    rw [q3]
    exact refs_vals ps'
end
section
variable {prog : Program} {w : World} {A : Around} {E : Value → Shared → Prop} {s : Shared} {T : String} {r d : Addr} {n : Nat} {P : Nat → Value → Prop} {OK : Heap → Prop} {Q : Value → Shared → Prop}
theorem sorted_src (K : PySem.W.KdlSrc prog w T r d n P OK) (hh : A.handled = none) (hok : OK s.heap) (hn : n ≤ sizeLine)
    (h : ∀ (h' : Heap) (tk : Nat) (vs : List Value), (∀ b o, s.heap.get? b = some o → h'.get? b = some o) → vs.length = n → (∀ (j : Nat) (v : Value), vs[j]? = some v → P j v) →
      wpAny (model prog w) A.in1 (call (.builtin "list.sort") [.ref h'.objs.size]) (fun _ s' => Q (.ref h'.objs.size) s') E { s with heap := h'.push { cls := .type "list", data := .seq vs.toArray }, toks := tk }) :
    wpAny (model prog w) A (call (.builtin "sorted") [.ref r]) Q E s := by
  refine Calls.call_function_entry kind_sorted plain_sorted entry_sorted (args_sorted1 _) ?_
  unfold Builtin.«sorted»
  refine wpAny_bind (m := checkCount "sorted" 1 1 _) (wpAny_pure ?_)
  refine wpAny_bind (PySem.W.kdu_collect (A := A.in1) K hh hok hn fun h' tk acc hk hacc => ?_)
  have hl : acc.toList.length = n := by rw [Array.length_toList]; exact hacc.1
  refine wpAny_bind (wpAny_newList ?_ (by rw [hl]; exact hn))
  have hg := h h' tk acc.toList hk hl (fun j v e => hacc.2 j v (by rw [← Array.getElem?_toList]; exact e))
  refine wpAny_bind (wpAny_holding (wpAny_mono hg (fun _ s' x => ?_) fun _ _ e => e))
  exact wpAny_pure ⟨_, rfl, x⟩
end
section
variable {X : Cx}
noncomputable def rSortDN : List V → Hp → VK → Prop := fun vs H Q => ∃ (a : Addr) (kvs : List (Net × Addr × V)), vs = [V.ref a] ∧ Rd H a (dX netK.hash a kvs) ∧ OnX netK H kvs ∧
  ∀ (ps' : List (Net × Addr)) (l : Addr), ps'.Perm (kvs.map fun p => (p.1, p.2.1)) → ps'.Pairwise (fun a b => ¬ R46.lt b.1 a.1) → H l = none → Q (.ref l) (upd H l (.lst (ps'.map fun p => V.ref p.2)))
theorem cr_sortDN (hc : X.calm = true) : CallR X (.builtin "sorted") rSortDN := by
  intro pins s σ H vs us Q I r h
  obtain ⟨a, kvs, rfl, e, hon, q⟩ := h
  rw [Vals.ref1 r]
  obtain ⟨z, hd, xs, rel, o, es, ep, h1, h2, h3, h4, _⟩ := dx_raw (T := netK) I.hok e
  have hs : es.size = kvs.length := by rw [size_of_entries h4, ← Paired.length rel]
  refine sorted_src (kdl_raw hd h2 h3) (I.ok.hd hc) h1 (by rw [hs]; exact z) fun h' tk vs hk hl hv => ?_
  have hacc : ItemsOf (fun i v => ∃ en, es[i]? = some en ∧ v = en.key) vs.toArray es.size := ⟨by simpa using hl, fun j v hj => hv j v (by simpa using hj)⟩
  have rv := keys_vals rel h4 hacc
  have ev : vs = (kvs.map fun p => (p.1, p.2.1)).map fun p => Value.ref p.2 := by
    have rv' : Vals ((kvs.map fun p => (p.1, p.2.1)).map fun p => V.ref p.2) vs := by
      rw [List.map_map]
      exact rv
    exact vals_refs rv'
  generalize hps : (kvs.map fun p => (p.1, p.2.1)) = ps at ev q
  have hp : ∀ p ∈ ps, H p.2 = some (.tup (nV p.1)) := by
    intro p hp
    rw [← hps] at hp
    obtain ⟨x, hx, rfl⟩ := List.mem_map.mp hp
    exact hon x hx
  have hz : ps.length ≤ sizeLine := by rw [← hps, List.length_map]; exact z
  subst ev
  have I0 : Inv X pins σ H { s with heap := h', toks := tk } := I.kept hk
  have hfr : H h'.objs.size = none := I0.fresh
  have I1 : Inv X pins σ (upd H h'.objs.size (.lst (ps.map fun p => V.ref p.2))) { s with heap := h'.push { cls := .type "list", data := .seq (ps.map fun p => Value.ref p.2).toArray }, toks := tk } :=
    Inv.lnew (t' := tk) I0 (refs_vals ps) (by rw [List.length_map]; exact hz)
  have hp1 : ∀ p ∈ ps, (upd H h'.objs.size (.lst (ps.map fun p => V.ref p.2))) p.2 = some (.tup (nV p.1)) := fun p hq => by
    rw [upd_ne (ne_of_none (hp p hq) hfr)]; exact hp p hq
  have hD : (h'.push { cls := .type "list", data := .seq (ps.map fun p => Value.ref p.2).toArray }).get? h'.objs.size = some (seqObj "list" (ps.map fun p => Value.ref p.2).toArray 0) := Heap.get?_push_size _ rfl
  obtain ⟨fs, ht⟩ := nets_tups I1.hok ps hp1
  refine wpAny_call_entry (s := { s with heap := h'.push { cls := .type "list", data := .seq (ps.map fun p => Value.ref p.2).toArray }, toks := tk }) PyProof.Rows.slot_list_sort ⟨_, hD, rfl⟩ PyProof.Rows.entry_list_sort
    (G.list_sort_tups (s := { s with heap := h'.push { cls := .type "list", data := .seq (ps.map fun p => Value.ref p.2).toArray }, toks := tk }) hD ht (fun v hv => ?_) (by rw [List.length_map]; exact hz) fun st' g1 g2 _ => ⟨.none, rfl, ?_⟩) (PyProof.Rows.args_list_sort _)
  · obtain ⟨p, hp', rfl⟩ := List.mem_map.mp hv
    exact ⟨_, net_keyC I1.hok (hp1 p hp')⟩
  · obtain ⟨ps', q1, q2, q3⟩ := nets_out I1.hok hp1 g1 g2
    obtain ⟨ep', he'⟩ := PyProof.Rows.sortedHeap_at (vs := ps.map fun p => Value.ref p.2) (out := (arrOf st').map (·.2)) hD
    have hlen : (ps'.map fun p => V.ref p.2).length ≤ sizeLine := by rw [List.length_map, q1.length_eq]; exact hz
    have new : ObjOk X.prog X.w (upd (upd H h'.objs.size (.lst (ps.map fun p => V.ref p.2))) h'.objs.size (.lst (ps'.map fun p => V.ref p.2)))
        (sortedHeap (h'.push { cls := .type "list", data := .seq (ps.map fun p => Value.ref p.2).toArray }) h'.objs.size (ps.map fun p => Value.ref p.2) ((arrOf st').map (·.2))) h'.objs.size (.lst (ps'.map fun p => V.ref p.2)) :=
      ⟨hlen, ((arrOf st').map (·.2)).toList, ep', by rw [q3]; exact refs_vals ps', he'⟩
    have I2 := I1.write (x := h'.objs.size) (e := h'.objs.size) (t' := tk) (by rw [upd_same]; trivial) (.inl rfl)
      (fun b u hb hu => (PyProof.Rows.sortedHeap_old hb (Heap.lt_size hu)).trans hu) ⟨_, he'⟩ new
    rw [upd_upd] at I2
    exact ⟨.ref _, _, I2, rfl, q ps' _ q1 q2 hfr⟩
end
end L2
end
section
set_option linter.all false
set_option maxRecDepth 100000
set_option maxHeartbeats 2000000
namespace L2
open PySem PySem.Spec PyProof.Rows
open Sf46 (Net)
section
variable {κ : Type} [DecidableEq κ] {T : HK κ} {X : Cx} {pins : List (Addr × Obj)} {σ : St} {H : Hp} {s : Shared} {d : Addr} {o : Obj} {kvs : List (κ × Addr × V)}
theorem Inv.frzX (I : Inv X pins σ H s) (h : H d = some (.frz o (dX T.hash d kvs))) :
    (d == sysModules) = false ∧ s.heap.get? d = some o ∧ o.ExactDict ∧ ∃ (es : Array DictEntry) (ep : Nat), o.data = .dict es ep ∧ es.size = kvs.length ∧
      ∀ (i : Nat) (k : κ) (q : Addr) (v : V), kvs[i]? = some (k, q, v) → ∃ en : DictEntry, es[i]? = some en ∧ en.key = .ref q := by
  obtain ⟨hd, _⟩ := I.hok d _ h
  obtain ⟨z, hs, xs, rel, o', es, ep, h1, h2, h3, h4, _⟩ := dx_raw (T := T) I.hok (.inr ⟨o, h⟩)
  rw [hd] at h1
  cases h1
  refine ⟨hs, hd, h2, es, ep, h3, ?_, fun i k q v e => ?_⟩
  · rw [size_of_entries h4, ← Paired.length rel]
  · obtain ⟨b, hb, e1, e2, _⟩ := paired_get rel e
    have g := entry_at h4 i
    rw [hb] at g
    refine ⟨_, g, ?_⟩
    show Value.ref b.2.1 = Value.ref q
    rw [← e2]
end
noncomputable def Itx {κ : Type} [DecidableEq κ] (hash : κ → Int) (d : Addr) (o : Obj) (kvs : List (κ × Addr × V)) : It :=
  ⟨fun i H => H d = some (.frz o (dX hash d kvs)) ∧ i < kvs.length, fun i H x H' => H' = H ∧ ∃ (k : κ) (q : Addr) (v : V), kvs[i]? = some (k, q, v) ∧ x = .ref q, fun i H => H d = some (.frz o (dX hash d kvs)) ∧ kvs.length ≤ i⟩
section
variable {κ : Type} [DecidableEq κ] {T : HK κ} {P : Program} {w : World} {K : PySem.W.Frag} {tg : Expr} {d : Addr} {o : Obj} {es : Array DictEntry} {ep : Nat}
theorem turn_keysX {kvs : List (κ × Addr × V)} (it : Addr) (hod : o.data = .dict es ep) : Turn P w K tg (Itx T.hash d o kvs) [it] it (fun i h => h.IsKeyIter it d i kvs.length ep) where
  mem := by simp
  obj := fun i h st b hb => by
    have e : b = it := by simpa using hb
    subst e
    obtain ⟨oi, e, c, dd⟩ := st
    exact ⟨oi, e, fun v z => by rw [dd] at z; cases z⟩
  keep := fun i h h' st k => st.at fun oi e => k it (by simp) oi e
  item := by
    intro X hP hw hK hc i pins s σ H E I hf st hg
    subst hP hw hK
    obtain ⟨hd, hi⟩ := hg
    obtain ⟨f0, f1, f2, f3, f4, f5⟩ := hf it (by simp)
    obtain ⟨hs, hgd, hx, es', ep', hdt, hsz, ent⟩ := I.frzX hd
    obtain ⟨rfl, rfl⟩ := dict_ep hod hdt
    obtain ⟨⟨k, q, v⟩, hkv⟩ : ∃ p, kvs[i]? = some p := ⟨kvs[i], List.getElem?_eq_getElem hi⟩
    obtain ⟨en, hen, hkey⟩ := ent i k q v hkv
    refine next_key_item st hgd hdt hsz hen fun h' st' sb => ?_
    have I1 : Inv X pins σ H { s with heap := h' } := I.turned (t' := s.toks) (fun b ob hb e => (sb.2 b hb).trans e) f0 f1 f3 f4 f5
    obtain ⟨oi, e, c, dd⟩ := id st'
    exact ⟨en.key, rfl, go_of (s := { s with heap := h' }) e c dd (by decide) ⟨.ref q, H, I1, hkey, ⟨rfl, k, q, v, hkv, rfl⟩, st', fun b hb => (hf b hb).1⟩⟩
  done := by
    intro X hP hw hK hc i pins s σ H E I hf st hg
    subst hP hw hK
    obtain ⟨hd, hi⟩ := hg
    obtain ⟨f0, f1, f2, f3, f4, f5⟩ := hf it (by simp)
    obtain ⟨hs, hgd, hx, es', ep', hdt, hsz, ent⟩ := I.frzX hd
    obtain ⟨rfl, rfl⟩ := dict_ep hod hdt
    exact next_key_end (I.ok.hd hc) st hgd hdt hsz hi fun h' eb => ⟨rfl, I.turned (t' := s.toks) (fun b ob hb e => eb b ob hb e) f0 f1 f3 f4 f5⟩
  self := fun A i s Q E st h => by
    refine wpAny_pyIter_slot st.typeIs F.slot_dict_keyiterator_iter (wpAny_call_entry F.slot_dict_keyiterator_iter st.typeIs F.entry_dict_keyiterator_iter ?_ (F.args_dict_keyiterator_iter_1 _))
    show wpAny _ _ (ret (.ref it)) _ _ s
    exact wpAny_pure ⟨_, rfl, "dict_keyiterator", _, st.typeIs, F.slot_dict_keyiterator_next.lookup, h⟩
end
section
variable {κ : Type} [DecidableEq κ] {X : Cx} {tg e : Expr} {td : TE}
noncomputable def iKeysX (hash : κ → Int) (td : TE) : TI := fun σ H R => td σ H fun x H1 => ∃ d o kvs, x = .ref d ∧ H1 d = some (.frz o (dX hash d kvs)) ∧ R (Itx hash d o kvs) H1
theorem pi_keysX {T : HK κ} (he : PE X e td) : PI X tg e (iKeysX T.hash td) := by
  intro pins s σ H R I h
  refine thn (he pins s σ H _ I h) fun u s1 hm0 => ?_
  obtain ⟨x, H1, I1, rx, d, o, kvs, ex, hd, q⟩ := hm0
  subst ex
  obtain rfl : u = Value.ref d := rx
  obtain ⟨hs, hgd, hx, es, ep, hdt, hsz, ent⟩ := I1.frzX hd
  refine iter_keys hs hgd hx hdt (pi_one (tk := s1.toks) I1 _ (turn_keysX (T := T) _ hdt) ⟨_, Heap.get?_push_size _ rfl, rfl, ?_⟩ q)
  rw [hsz] <;> rfl
end
section
variable {X : Cx}
noncomputable def rSortDI : List V → Hp → VK → Prop := fun vs H Q => ∃ (a : Addr) (kvs : List (Key × V)) (ns : List Int), vs = [V.ref a] ∧ Rd H a (.dK kvs) ∧ kvs.map (·.1) = ns.map Sum.inl ∧ ns.length < 64 ∧
  ∀ (ns' : List Int) (l : Addr), ns'.Perm ns → ns'.Pairwise (· ≤ ·) → H l = none → Q (.ref l) (upd H l (.lst (ns'.map V.int)))
theorem ints_of_keys {kvs : List (Key × V)} {xs : List (Key × Value)} {ns : List Int} {vs : List Value} {P : Program} {w : World} (rel : KV kvs xs) (hk : kvs.map (·.1) = ns.map Sum.inl) (hl : vs.length = xs.length)
    (hv : ∀ (j : Nat) (v : Value), vs[j]? = some v → ∃ k x, xs[j]? = some (k, x) ∧ (mixKind P w).is k v = true) : IntsAre vs ns := by
  have hkx : xs.map (·.1) = ns.map (Sum.inl : Int → Key) := by rw [← rel.keys]; exact hk
  clear rel hk
  induction xs generalizing ns vs with
  | nil =>
    cases ns with
    | cons _ _ => cases hkx
    | nil =>
      cases vs with
      | nil => exact .nil
      | cons _ _ => cases hl
  | cons x xs ih =>
    cases ns with
    | nil => cases hkx
    | cons n ns =>
      rw [List.map_cons, List.map_cons] at hkx
      injection hkx with e1 e2
      cases vs with
      | nil => cases hl
      | cons v vs =>
        obtain ⟨k, y, h1, h2⟩ := hv 0 v rfl
        simp only [List.getElem?_cons_zero, Option.some.injEq] at h1
        subst h1
        have e1' : k = Sum.inl n := e1
        subst e1'
        obtain ⟨t, rfl⟩ := Value.isInt_shape (show Value.isInt n v = true from h2)
        refine .cons n t (ih (by simpa using hl) (fun j u hj => ?_) e2)
        obtain ⟨k', x', g1, g2⟩ := hv (j + 1) u (by simpa using hj)
        exact ⟨k', x', by simpa using g1, g2⟩
theorem cr_sortDI (hc : X.calm = true) : CallR X (.builtin "sorted") rSortDI := by
  intro pins s σ H vs us Q I r h
  obtain ⟨a, kvs, ns, rfl, e, hk, h64, q⟩ := h
  rw [Vals.ref1 r]
  obtain ⟨z, hd, xs, rel, o, es, ep, dd⟩ := dk_rd I.hok e
  have hm : s.heap.DictAt (mixKind X.prog X.w) a xs ep := ⟨o, es, dd⟩
  have hlx : xs.length ≤ sizeLine := by rw [← rel.length]; exact z
  refine sorted_src (PySem.W.kdl_dict hd) (I.ok.hd hc) hm hlx fun h' tk vs hk' hl hv => ?_
  have hi : IntsAre vs ns := ints_of_keys rel hk hl hv
  have hln : vs.length < 64 := by rw [hi.length]; exact h64
  have I0 : Inv X pins σ H { s with heap := h', toks := tk } := I.kept hk'
  have hfr : H h'.objs.size = none := I0.fresh
  have I1 : Inv X pins σ (upd H h'.objs.size (.lst (ns.map V.int))) { s with heap := h'.push { cls := .type "list", data := .seq vs.toArray }, toks := tk } :=
    Inv.lnew (t' := tk) I0 (vals_of_ints hi) (by rw [List.length_map]; exact small64 h64)
  have hD : (h'.push { cls := .type "list", data := .seq vs.toArray }).get? h'.objs.size = some (seqObj "list" vs.toArray 0) := Heap.get?_push_size _ rfl
  refine wpAny_call_entry (s := { s with heap := h'.push { cls := .type "list", data := .seq vs.toArray }, toks := tk }) PyProof.Rows.slot_list_sort ⟨_, hD, rfl⟩ PyProof.Rows.entry_list_sort
    (PyProof.Rows.list_sort_tree (s := { s with heap := h'.push { cls := .type "list", data := .seq vs.toArray }, toks := tk }) hD hi hln fun out ns' h1 h2 h3 => ⟨.none, rfl, ?_⟩) (PyProof.Rows.args_list_sort _)
  obtain ⟨ep', he'⟩ := PyProof.Rows.sortedHeap_at (vs := vs) (out := out) hD
  have hlen : (ns'.map V.int).length ≤ sizeLine := by rw [List.length_map, h2.length_eq]; exact small64 h64
  have new : ObjOk X.prog X.w (upd (upd H h'.objs.size (.lst (ns.map V.int))) h'.objs.size (.lst (ns'.map V.int)))
      (sortedHeap (h'.push { cls := .type "list", data := .seq vs.toArray }) h'.objs.size vs out) h'.objs.size (.lst (ns'.map V.int)) := ⟨hlen, out.toList, ep', vals_of_ints h1, he'⟩
  have I2 := I1.write (x := h'.objs.size) (e := h'.objs.size) (t' := tk) (by rw [upd_same]; trivial) (.inl rfl)
    (fun b u hb hu => (PyProof.Rows.sortedHeap_old hb (Heap.lt_size hu)).trans hu) ⟨_, he'⟩ new
  rw [upd_upd] at I2
  exact ⟨.ref _, _, I2, rfl, q ns' _ h2 h3 hfr⟩
end
end L2
end
section
set_option linter.all false
set_option maxRecDepth 100000
set_option maxHeartbeats 2000000
namespace L2
open PySem PySem.Spec PyProof.Rows
noncomputable def entOk (e : DictEntry) (p : Int × Int) : Bool := match e.key, e.val with
  | .int i _, .int v _ => decide (i = p.1) && (decide (v = p.2) && decide (e.hash = hashInt p.1))
  | _, _ => false
noncomputable def entsOk : List DictEntry → List (Int × Int) → Bool
  | [], [] => true
  | e :: es, p :: ps => entOk e p && entsOk es ps
  | _, _ => false
noncomputable def isDict : Value → Bool
  | .type n => n == "dict"
  | _ => false
noncomputable def tblO (o : Obj) (ps : List (Int × Int)) : Bool := isDict o.cls && (o.dict.isNone && (o.slots.isEmpty && (match o.data with
    | .dict es _ => entsOk es.toList ps
    | _ => false)))
theorem entOk_of {e : DictEntry} {p : Int × Int} (h : entOk e p = true) : ∃ t u, e.key = .int p.1 t ∧ e.val = .int p.2 u ∧ e.hash = hashInt p.1 := by
  unfold entOk at h
  split at h
  · rename_i i t v u hk hv
    rw [Bool.and_eq_true, Bool.and_eq_true, decide_eq_true_eq, decide_eq_true_eq, decide_eq_true_eq] at h
    obtain ⟨h1, h2, h3⟩ := h
    subst h1 h2
    exact ⟨t, u, hk, hv, h3⟩
  · cases h
theorem entsOk_keys : ∀ {es : List DictEntry} {ps : List (Int × Int)}, entsOk es ps = true → ∀ e ∈ es, ∃ i t, e.key = .int i t ∧ e.hash = hashInt i
  | [], _, _, e, he => nomatch he
  | x :: es, [], h, _, _ => nomatch h
  | x :: es, p :: ps, h, e, he => by
    have h' : (entOk x p && entsOk es ps) = true := h
    rw [Bool.and_eq_true] at h'
    rcases List.mem_cons.mp he with rfl | he
    · obtain ⟨t, u, h1, h2, h3⟩ := entOk_of h'.1
      exact ⟨_, t, h1, h3⟩
    · exact entsOk_keys h'.2 e he
theorem entsOk_find : ∀ {es : List DictEntry} {ps : List (Int × Int)}, entsOk es ps = true → ∀ {i v : Int}, ps.lookup i = some v → ∃ t, (es.find? fun e => keyIs (.inl i) e.key).map (·.val) = some (.int v t)
  | [], [], _, _, _, hl => nomatch hl
  | [], _ :: _, h, _, _, _ => nomatch h
  | x :: es, [], h, _, _, _ => nomatch h
  | x :: es, (k, y) :: ps, h, i, v, hl => by
    have h' : (entOk x (k, y) && entsOk es ps) = true := h
    rw [Bool.and_eq_true] at h'
    obtain ⟨t, u, h1, h2, h3⟩ := entOk_of h'.1
    rw [List.find?_cons, h1]
    by_cases e : i = k
    · subst e
      rw [keyIs_int]
      rw [List.lookup_cons, beq_self_eq_true] at hl
      cases hl
      exact ⟨u, by rw [Option.map_some, h2]⟩
    · have ek : keyIs (.inl i) (.int k t) = false := by
        cases hh : keyIs (.inl i) (.int k t) with
        | false => rfl
        | true =>
          rcases keyIs_shape hh with ⟨j, s, e1, e2⟩ | ⟨j, s, e1, e2⟩
          · injection e1 with e1
            injection e2 with e2 _
            exact absurd (e1.trans e2.symm) e
          · cases e1
      rw [ek]
      rw [List.lookup_cons, beq_eq_false_iff_ne.mpr e] at hl
      exact entsOk_find h'.2 hl
theorem tblO_map {P : Program} {w : World} {h : Heap} {a : Addr} {o : Obj} {ps : List (Int × Int)} (ho : h.get? a = some o) (ht : tblO o ps = true) :
    ∃ f, h.MapOf (mixKind P w) a f ∧ ∀ {i v : Int}, ps.lookup i = some v → ∃ t, f (.inl i) = some (.int v t) := by
  unfold tblO at ht
  rw [Bool.and_eq_true, Bool.and_eq_true, Bool.and_eq_true] at ht
  obtain ⟨h1, h2, h3, h4⟩ := ht
  have hc : o.ExactDict := by
    refine ⟨?_, Option.isNone_iff_eq_none.mp h2, ?_⟩
    · unfold isDict at h1
      split at h1
      · rename_i n hn
        rw [hn, eq_of_beq h1]
      · cases h1
    · exact Array.isEmpty_iff.mp h3
  split at h4
  · rename_i es ep hd
    refine ⟨fun k => findBy keyIs es k, ⟨o, es, ep, ho, hc, hd, fun e he => ?_, fun k => rfl⟩, fun {i v} hl => ?_⟩
    · obtain ⟨i, t, h5, h6⟩ := entsOk_keys h4 e (by simpa using he)
      exact ⟨.inl i, by rw [h5]; exact keyIs_int i t, h6⟩
    · obtain ⟨t, h5⟩ := entsOk_find h4 hl
      refine ⟨t, ?_⟩
      show (es.find? fun e => keyIs (.inl i) e.key).map (·.val) = _
      rw [← Array.find?_toList]
      exact h5
  · cases h4
noncomputable def tKGet (K : PySem.W.Frag) (td ty : TE) : TE := fun σ H Q => td σ H fun x H1 => ty σ H1 fun y H2 => ∃ a o ps i v, x = .ref a ∧ K.lookup a = some o ∧ tblO o ps = true ∧ y = .int i ∧ ps.lookup i = some v ∧ Q (.int v) H2
section
variable {X : Cx} {o i : Expr} {pos : Pos} {td ty : TE}
theorem pe_kget (ho : PE X o td) (hi : PE X i ty) (hs : NoSl i) : PE X (.Subscript o i pos) (tKGet X.K td ty) := by
  intro pins s σ H Q I h
  refine subD_of PySem.F.slot_dict_getitem.lookup hs (thn (ho pins s σ H _ I h) fun u s1 hm0 => ?_)
  obtain ⟨x, H1, I1, rx, q1⟩ := hm0
  refine thn (hi pins s1 σ H1 _ I1 q1) fun iv s2 hm1 => ?_
  obtain ⟨y, H2, I2, ry, a, ob, ps, n, v, ex, hk, ht, ey, l, q2⟩ := hm1
  subst ex ey
  obtain rfl : u = Value.ref a := rx
  obtain ⟨t, rfl⟩ := ry
  obtain ⟨f, hm, hf⟩ := tblO_map (P := X.prog) (w := X.w) (I2.kIn a ob hk) ht
  obtain ⟨t', hv⟩ := hf l
  exact ⟨hm.typeIs, wpAny_getItem_of (mixKind_int _ _ n t) hm hv ⟨.int v, H2, I2.tok _, ⟨t', rfl⟩, q2⟩⟩
end
end L2
end
section
set_option linter.all false
set_option maxRecDepth 100000
set_option maxHeartbeats 2000000
namespace R46
open PySem PySem.Spec PyProof.Rows L2 Sf46
noncomputable abbrev iv (n : Nat) : V := .int (n : Int)
noncomputable abbrev ivs (l : List Nat) : List V := l.map iv
structure Cl where
  nb : Addr
  rt : Addr
  en : Addr
  ro : Addr
noncomputable def nbF (k : Nat) (p : Peer) : List (Str × V) := [("number", iv k), ("as_number", iv p.as), ("ident", iv p.id)]
noncomputable def rtF (na pa : Addr) (r : Route) : List (Str × V) := [("teller", .ref na), ("path", .ref pa), ("pref", iv r.pref), ("origin", iv r.origin), ("med", iv r.med)]
noncomputable def enF (rd td : Addr) : List (Str × V) := [("routes", .ref rd), ("told", .ref td)]
noncomputable def roF (z : Nat) (nl nd wd : Addr) : List (Str × V) := [("self_number", iv z), ("neighbours", .ref nl), ("networks", .ref nd), ("waiting", .ref wd)]
variable (C : Cl) (H : Hp)
noncomputable def NbAt (a : Addr) (k : Nat) (p : Peer) : Prop := ∃ dx, H a = some (.ins C.nb dx (nbF k p))
noncomputable def RtAt (a : Addr) (x : Nat × Peer × Route) : Prop := ∃ dx na pa, H a = some (.ins C.rt dx (rtF na pa x.2.2)) ∧ NbAt C H na x.1 x.2.1 ∧ H pa = some (.tup (ivs x.2.2.path))
noncomputable def TdAt (a : Addr) (t : List Nat × Nat) : Prop := ∃ pa, H a = some (.tup [.ref pa, iv t.2]) ∧ H pa = some (.tup (ivs t.1))
structure Ent where
  n : Net
  ka : Addr
  e : Addr
  rd : Addr
  td : Addr
  rs : List (Nat × Addr)
  ts : List (Nat × Addr)
noncomputable def kvs (l : List (Nat × Addr)) : List (Key × V) := l.map fun p => (Sum.inl (p.1 : Int), V.ref p.2)
noncomputable def Both {α β : Type} (R : α → β → Prop) : Option α → Option β → Prop
  | none, none => True
  | some a, some b => R a b
  | _, _ => False
structure AS where
  self : Nat
  peer : Nat → Option Peer
  g : Nat → Net → Option (Nat × Peer × Route)
  t : Nat → Net → Option (List Nat × Nat)
  row : List (Nat × Net)
noncomputable def AS.of (s : Sf46.St) : AS := ⟨s.self, s.peer, fun k n => routeOf s n k, fun k n => look s.told (k, n), s.row⟩
noncomputable def AS.known (A : AS) (n : Net) : Prop := ∃ k, (A.g k n).isSome = true ∨ (A.t k n).isSome = true
structure AOk (N : List Net) (A : AS) : Prop where
  g : ∀ k n b, A.g k n = some b → k < 8 ∧ b.1 = k ∧ RtOk b.2.2
  t : ∀ k n p, A.t k n = some p → k < 8
  few : N.length ≤ 4000
  all : ∀ n, A.known n → n ∈ N
  row : ∀ x ∈ A.row, x.1 < 8 ∧ x.2 ∈ N
structure EnAt (A : AS) (x : Ent) : Prop where
  obj : ∃ dx, H x.e = some (.ins C.en dx (enF x.rd x.td))
  rd : H x.rd = some (.dK (kvs x.rs))
  td : H x.td = some (.dK (kvs x.ts))
  rnd : (x.rs.map (·.1)).Nodup
  tnd : (x.ts.map (·.1)).Nodup
  held : ∀ k, Both (RtAt C H) (look x.rs k) (A.g k x.n)
  told : ∀ k, Both (TdAt H) (look x.ts k) (A.t k x.n)
structure RA where
  nl : Addr
  nd : Addr
  wd : Addr
  nbs : List (Option Addr)
  es : List Ent
  ws : List ((Nat × Net) × Addr)
noncomputable def nbV : Option Addr → V
  | none => .non
  | some a => .ref a
noncomputable def esM (es : List Ent) : List Addr := es.flatMap fun y => [y.e, y.rd, y.td]
noncomputable def RA.muts (r : Addr) (x : RA) : List Addr := r :: x.nl :: x.nd :: x.wd :: esM x.es
noncomputable def esV (es : List Ent) : List (Net × Addr × V) := es.map fun x => (x.n, x.ka, V.ref x.e)
noncomputable def wsV (ws : List ((Nat × Net) × Addr)) : List ((Nat × Net) × Addr × V) := ws.map fun x => (x.1, x.2, V.bl true)
structure BaseAt (r : Addr) (x : RA) (A : AS) : Prop where
  obj : ∃ dx, H r = some (.ins C.ro dx (roF A.self x.nl x.nd x.wd))
  nl : H x.nl = some (.lst (x.nbs.map nbV))
  len : x.nbs.length = 8
  nbs : ∀ k, Both (fun a p => NbAt C H a k p) ((x.nbs[k]?).bind id) (A.peer k)
structure NetsAt (nd : Addr) (es : List Ent) (A : AS) (X : Net → Prop) : Prop where
  nd : H nd = some (dX netK.hash nd (esV es))
  ndOn : OnX netK H (esV es)
  ents : ∀ y ∈ es, EnAt C H A y
  keys : (es.map (·.n)).Nodup
  all : ∀ n, A.known n → n ∈ es.map (·.n)
  only : ∀ n, n ∈ es.map (·.n) → A.known n ∨ X n
structure WaitAt (wd : Addr) (ws : List ((Nat × Net) × Addr)) (row : List (Nat × Net)) : Prop where
  wd : H wd = some (dX pairK.hash wd (wsV ws))
  wdOn : OnX pairK H (wsV ws)
  eq : ws.map (·.1) = row
  nd : row.Nodup
structure RAt (r : Addr) (x : RA) (A : AS) (X : Net → Prop) : Prop where
  base : BaseAt C H r x A
  nets : NetsAt C H x.nd x.es A X
  wait : WaitAt H x.wd x.ws A.row
  sep : (x.muts r).Nodup
noncomputable abbrev No : Net → Prop := fun _ => False
variable {C H}
theorem len_sub {α : Type} [DecidableEq α] : ∀ {l m : List α}, l.Nodup → (∀ a ∈ l, a ∈ m) → l.length ≤ m.length
  | [], _, _, _ => Nat.zero_le _
  | a :: l, m, hn, hs => by
    rw [List.nodup_cons] at hn
    have ha := hs a (by simp)
    have ih := len_sub (m := m.erase a) hn.2 fun b hb => (List.mem_erase_of_ne (fun (e : b = a) => hn.1 (by rw [← e]; exact hb))).mpr (hs b (by simp [hb]))
    rw [List.length_erase_of_mem ha] at ih
    have : 0 < m.length := List.length_pos_of_mem ha
    simp only [List.length_cons]; omega
variable (C H)
noncomputable def Imm (H' : Hp) : Prop := ∀ b o, H b = some o → ((∃ xs, o = .tup xs) ∨ (∃ dx fs, o = .ins C.nb dx fs) ∨ ∃ dx fs, o = .ins C.rt dx fs) → H' b = some o
variable {C H}
theorem Imm.tup {H' : Hp} (m : Imm C H H') : ∀ b ys, H b = some (.tup ys) → H' b = some (.tup ys) := fun b ys h => m b _ h (.inl ⟨_, rfl⟩)
theorem NbAt.imm {H' : Hp} (m : Imm C H H') {a : Addr} {k : Nat} {p : Peer} (h : NbAt C H a k p) : NbAt C H' a k p := by
  obtain ⟨dx, h⟩ := h
  exact ⟨dx, m _ _ h (.inr (.inl ⟨_, _, rfl⟩))⟩
theorem RtAt.imm {H' : Hp} (m : Imm C H H') {a : Addr} {x : Nat × Peer × Route} (h : RtAt C H a x) : RtAt C H' a x := by
  obtain ⟨dx, na, pa, h1, h2, h3⟩ := h
  exact ⟨dx, na, pa, m _ _ h1 (.inr (.inr ⟨_, _, rfl⟩)), h2.imm m, m.tup _ _ h3⟩
theorem TdAt.imm {H' : Hp} (m : Imm C H H') {a : Addr} {t : List Nat × Nat} (h : TdAt H a t) : TdAt H' a t := by
  obtain ⟨pa, h1, h2⟩ := h
  exact ⟨pa, m.tup _ _ h1, m.tup _ _ h2⟩
theorem Both.imp {α β : Type} {R S : α → β → Prop} (f : ∀ a b, R a b → S a b) : ∀ {a : Option α} {b : Option β}, Both R a b → Both S a b
  | none, none, _ => True.intro
  | some a, some b, h => f a b h
  | none, some _, h => h
  | some _, none, h => h
theorem EnAt.keep {H' : Hp} {A : AS} {y : Ent} (m : Imm C H H') (h : EnAt C H A y) (h1 : ∀ o, H y.e = some o → H' y.e = some o) (h2 : ∀ o, H y.rd = some o → H' y.rd = some o) (h3 : ∀ o, H y.td = some o → H' y.td = some o) : EnAt C H' A y :=
  ⟨let ⟨dx, e⟩ := h.obj; ⟨dx, h1 _ e⟩, h2 _ h.rd, h3 _ h.td, h.rnd, h.tnd, fun k => (h.held k).imp fun _ _ z => z.imm m, fun k => (h.told k).imp fun _ _ z => z.imm m⟩
noncomputable def Stay (H H' : Hp) (M : List Addr) : Prop := ∀ b ∈ M, ∀ o, H b = some o → H' b = some o
theorem mem_esM {es : List Ent} {y : Ent} (h : y ∈ es) : y.e ∈ esM es ∧ y.rd ∈ esM es ∧ y.td ∈ esM es := by
  unfold esM
  refine ⟨List.mem_flatMap.mpr ⟨y, h, by simp⟩, List.mem_flatMap.mpr ⟨y, h, by simp⟩, List.mem_flatMap.mpr ⟨y, h, by simp⟩⟩
theorem NetsAt.keep {H' : Hp} {nd : Addr} {es : List Ent} {A : AS} {X : Net → Prop} (h : NetsAt C H nd es A X) (m : Imm C H H') (st : Stay H H' (nd :: esM es)) : NetsAt C H' nd es A X :=
  ⟨st nd (by simp) _ h.nd, h.ndOn.keep m.tup, fun y hy => (h.ents y hy).keep m (st _ (by simp [mem_esM hy])) (st _ (by simp [mem_esM hy])) (st _ (by simp [mem_esM hy])), h.keys, h.all, h.only⟩
theorem BaseAt.keep {H' : Hp} {r : Addr} {x : RA} {A : AS} (h : BaseAt C H r x A) (m : Imm C H H') (st : Stay H H' [r, x.nl]) : BaseAt C H' r x A :=
  ⟨let ⟨dx, e⟩ := h.obj; ⟨dx, st r (by simp) _ e⟩, st x.nl (by simp) _ h.nl, h.len, fun k => (h.nbs k).imp fun _ _ z => z.imm m⟩
theorem WaitAt.keep {H' : Hp} {wd : Addr} {ws : List ((Nat × Net) × Addr)} {row : List (Nat × Net)} (h : WaitAt H wd ws row) (m : Imm C H H') (st : Stay H H' [wd]) : WaitAt H' wd ws row :=
  ⟨st wd (by simp) _ h.wd, h.wdOn.keep m.tup, h.eq, h.nd⟩
theorem Imm.same {H' : Hp} (s : Same H H') : Imm C H H' := fun b o h _ => s b o h
theorem Stay.same {H' : Hp} {M : List Addr} (s : Same H H') : Stay H H' M := fun b _ o h => s b o h
theorem RAt.same {H' : Hp} {r : Addr} {x : RA} {A : AS} {X : Net → Prop} (s : Same H H') (h : RAt C H r x A X) : RAt C H' r x A X :=
  ⟨h.base.keep (.same s) (.same s), h.nets.keep (.same s) (.same s), h.wait.keep (C := C) (.same s) (.same s), h.sep⟩
theorem Imm.upd {a : Addr} {o o' : HO} (h : H a = some o) (n1 : ∀ xs, o ≠ .tup xs) (n2 : ∀ dx fs, o ≠ .ins C.nb dx fs) (n3 : ∀ dx fs, o ≠ .ins C.rt dx fs) : Imm C H (upd H a o') := fun b u hb hu => by
  rw [upd_ne]
  · exact hb
  · rintro rfl
    rw [h] at hb
    cases hb
    rcases hu with ⟨xs, e⟩ | ⟨dx, fs, e⟩ | ⟨dx, fs, e⟩
    · exact n1 _ e
    · exact n2 _ _ e
    · exact n3 _ _ e
theorem Stay.upd {a : Addr} {o : HO} {M : List Addr} (h : a ∉ M) : Stay H (upd H a o) M := fun b hb u hu => by
  rw [upd_ne (fun e => h (by rw [← e]; exact hb))]; exact hu
theorem Imm.trans {H1 H2 : Hp} (a : Imm C H H1) (b : Imm C H1 H2) : Imm C H H2 := fun x o h k => b x o (a x o h k) k
theorem RAt.few {N : List Net} {r : Addr} {x : RA} {A : AS} {X : Net → Prop} (h : RAt C H r x A X) (o : AOk N A) (hX : ∀ n, X n → n ∈ N) : x.es.length ≤ 4000 ∧ x.ws.length ≤ 32000 := by
  constructor
  · have := len_sub (m := N) h.nets.keys fun n hn => (h.nets.only n hn).elim (o.all n) (hX n)
    rw [List.length_map] at this
    exact Nat.le_trans this o.few
  · have := len_sub (m := (List.range 8).flatMap fun k => N.map fun n => (k, n)) h.wait.nd fun y hy => by
      obtain ⟨a, b⟩ := o.row y hy
      exact List.mem_flatMap.mpr ⟨y.1, List.mem_range.mpr a, List.mem_map.mpr ⟨y.2, b, rfl⟩⟩
    rw [← h.wait.eq, List.length_map] at this
    have e : ((List.range 8).flatMap fun k => N.map fun n => (k, n)).length = 8 * N.length := by
      rw [List.length_flatMap]
      simp [List.range_succ]
      omega
    have := o.few
    omega
end R46
end
section
set_option linter.all false
set_option Elab.async false
set_option maxRecDepth 100000
set_option maxHeartbeats 2000000
namespace R46
open PySem PySem.Spec PyProof.Rows L2
open Sf46 (Net Peer Route)
noncomputable def top (i : Nat) : Stmt := PySem.Challenge.pw_pathrouter_s01_answers.main.body.getD i (.Pass ⟨0, 0, 0, 0⟩)
noncomputable abbrev sNbInit : Stmt := inClass (top 2) 0
noncomputable abbrev sRtInit : Stmt := inClass (top 3) 0
noncomputable abbrev sRank : Stmt := top 4
noncomputable abbrev sBetter : Stmt := top 5
noncomputable abbrev sBestOf : Stmt := top 6
noncomputable abbrev sShould : Stmt := top 7
structure Txt (K : PySem.W.Frag) (mg : Str → Option Value) (C : Cl) : Prop where
  nb : Cls K C.nb
  rt : Cls K C.rt
  nbA : NoAttr K C.nb "number" ∧ NoAttr K C.nb "as_number" ∧ NoAttr K C.nb "ident"
  rtA : NoAttr K C.rt "teller" ∧ NoAttr K C.rt "path" ∧ NoAttr K C.rt "pref" ∧ NoAttr K C.rt "origin" ∧ NoAttr K C.rt "med"
  en : Cls K C.en
  ro : Cls K C.ro
  enA : NoAttr K C.en "routes" ∧ NoAttr K C.en "told"
  roA : NoAttr K C.ro "self_number" ∧ NoAttr K C.ro "neighbours" ∧ NoAttr K C.ro "networks" ∧ NoAttr K C.ro "waiting"
  roN : C.ro ≠ C.nb ∧ C.ro ≠ C.rt
  mNb : mg "Neighbour" = some (.ref C.nb)
  mRt : mg "Route" = some (.ref C.rt)
  mEn : mg "Entry" = some (.ref C.en)
  mRo : mg "Router" = some (.ref C.ro)
  len : mg "len" = none
  srt : mg "sorted" = none
  enu : mg "enumerate" = none
  lst : mg "list" = none
  tpl : mg "tuple" = none
  passed : ∃ t, mg "LONGEST_PASSED_ON" = some (.int 15 t)
  nbours : ∃ t, mg "NEIGHBOURS" = some (.int 8 t)
  abits : ∃ t, mg "ADDRESS_BITS" = some (.int 32 t)
  lpath : ∃ t, mg "LONGEST_PATH" = some (.int 16 t)
  gorig : ∃ t, mg "GREATEST_ORIGIN" = some (.int 2 t)
  many : ∃ t, mg "TOO_MANY_NETWORKS" = some (.int 4096 t)
  done : ∃ t, mg "DONE" = some (.int 0 t)
  refused : ∃ t, mg "REFUSED" = some (.int (-1) t)
  full : ∃ t, mg "FULL" = some (.int (-2) t)
  nobody : ∃ t, mg "NOBODY" = some (.int 8 t)
  rng : mg "range" = none
  cBegin : ∃ t, mg "BEGIN" = some (.int 1 t)
  cUp : ∃ t, mg "UP" = some (.int 2 t)
  cDown : ∃ t, mg "DOWN" = some (.int 3 t)
  cTell : ∃ t, mg "TELL" = some (.int 4 t)
  cBack : ∃ t, mg "BACK" = some (.int 5 t)
  cNext : ∃ t, mg "NEXT" = some (.int 6 t)
  cBest : ∃ t, mg "BEST" = some (.int 7 t)
  cSend : ∃ t, mg "SEND" = some (.int 8 t)
noncomputable def Keep (M : List Addr) (H H' : Hp) : Prop := ∀ b o, H b = some o → b ∉ M → H' b = some o
theorem Keep.refl {M : List Addr} {H : Hp} : Keep M H H := fun _ _ h _ => h
theorem Keep.one {a : Addr} {H : Hp} {o : HO} : Keep [a] H (upd H a o) := fun b u h hb => by rw [upd_ne (by simpa using hb)]; exact h
theorem cx_K {CX : CXT} {P : Program} {w : World} {K : PySem.W.Frag} {mg : Str → Option Value} {base : Heap} {N : List Str} {qual : Str} {sc : Scope} {f : Addr} {cdv : Value} {A : Around} {outer : List Env} {s : Shared} {H : Hp} {E : XK} : (cxOf CX P w K mg base N qual sc f cdv A outer s H E).nox.K = K := rfl
theorem q_fld {K : PySem.W.Frag} {i : Nat} {f : Str} {σ : L2.St} {H : Hp} {R : V → Prop} {a C dx : Addr} {fs : List (Str × V)} {v : V} (h0 : σ[i]? = some (some (.ref a))) (h1 : H a = some (.ins C dx fs)) (c : Cls K C) (n : NoAttr K C f) (l : fs.lookup f = some v) (q : R v) : ∃ u, σ[i]? = some (some u) ∧ ∃ a C dx fs v, u = .ref a ∧ H a = some (.ins C dx fs) ∧ Cls K C ∧ NoAttr K C f ∧ fs.lookup f = some v ∧ R v := ⟨_, h0, a, C, dx, fs, v, rfl, h1, c, n, l, q⟩
theorem q_ff {K : PySem.W.Frag} {i : Nat} {f g : Str} {σ : L2.St} {H : Hp} {R : V → Prop} {a C dx b D dy : Addr} {fs gs : List (Str × V)} {v : V} (h0 : σ[i]? = some (some (.ref a))) (h1 : H a = some (.ins C dx fs)) (c : Cls K C) (n : NoAttr K C f) (l : fs.lookup f = some (.ref b)) (h2 : H b = some (.ins D dy gs)) (c' : Cls K D) (n' : NoAttr K D g) (l' : gs.lookup g = some v) (q : R v) : ∃ u, σ[i]? = some (some u) ∧ ∃ a C dx fs w, u = .ref a ∧ H a = some (.ins C dx fs) ∧ Cls K C ∧ NoAttr K C f ∧ fs.lookup f = some w ∧ ∃ b D dy gs v, w = .ref b ∧ H b = some (.ins D dy gs) ∧ Cls K D ∧ NoAttr K D g ∧ gs.lookup g = some v ∧ R v := ⟨_, h0, a, C, dx, fs, _, rfl, h1, c, n, l, b, D, dy, gs, v, rfl, h2, c', n', l', q⟩
theorem q_meth {C : Addr} {m : Str} {i : Nat} {σ : L2.St} {H : Hp} {R : V → Prop} {a dx : Addr} {fs : List (Str × V)} (h0 : σ[i]? = some (some (.ref a))) (h1 : H a = some (.ins C dx fs)) (h2 : fs.lookup m = none) (q : R (.ref a)) : ∃ u, σ[i]? = some (some u) ∧ ∃ a dx fs, u = .ref a ∧ H a = some (.ins C dx fs) ∧ fs.lookup m = none ∧ R u := ⟨_, h0, a, dx, fs, rfl, h1, h2, q⟩
theorem q_ixL {K : PySem.W.Frag} {i : Nat} {k : Int} {σ : L2.St} {H : Hp} {R : V → Prop} {p : Addr} {xs : List V} {v : V} (h0 : σ[i]? = some (some (.ref p))) (h1 : SqL K H p xs) (h2 : atI xs k = some v) (q : R v) : ∃ u, σ[i]? = some (some u) ∧ ∃ p xs j v, u = .ref p ∧ V.int k = .int j ∧ SqL K H p xs ∧ atI xs j = some v ∧ R v := ⟨_, h0, p, xs, k, v, rfl, rfl, h1, h2, q⟩
theorem q_ixT {K : PySem.W.Frag} {i : Nat} {k : Int} {σ : L2.St} {H : Hp} {R : V → Prop} {p : Addr} {xs : List V} {v : V} (h0 : σ[i]? = some (some (.ref p))) (h1 : SqT K H p xs) (h2 : atI xs k = some v) (q : R v) : ∃ u, σ[i]? = some (some u) ∧ ∃ p xs j v, u = .ref p ∧ V.int k = .int j ∧ SqT K H p xs ∧ atI xs j = some v ∧ R v := ⟨_, h0, p, xs, k, v, rfl, rfl, h1, h2, q⟩
theorem args1 {i0 : Nat} {σ : L2.St} {v0 : V} {H : Hp} {G : List V → Hp → Prop} (h0 : σ[i0]? = some (some v0)) (k : G [v0] H) : tCons (tVar i0) tNil σ H G := ⟨v0, h0, k⟩
theorem args2 {i0 i1 : Nat} {σ : L2.St} {v0 v1 : V} {H : Hp} {G : List V → Hp → Prop} (h0 : σ[i0]? = some (some v0)) (h1 : σ[i1]? = some (some v1)) (k : G [v0, v1] H) : tCons (tVar i0) (tCons (tVar i1) tNil) σ H G := ⟨v0, h0, v1, h1, k⟩
theorem args3 {i0 i1 i2 : Nat} {σ : L2.St} {v0 v1 v2 : V} {H : Hp} {G : List V → Hp → Prop} (h0 : σ[i0]? = some (some v0)) (h1 : σ[i1]? = some (some v1)) (h2 : σ[i2]? = some (some v2)) (k : G [v0, v1, v2] H) : tCons (tVar i0) (tCons (tVar i1) (tCons (tVar i2) tNil)) σ H G := ⟨v0, h0, v1, h1, v2, h2, k⟩
theorem args4 {i0 i1 i2 i3 : Nat} {σ : L2.St} {v0 v1 v2 v3 : V} {H : Hp} {G : List V → Hp → Prop} (h0 : σ[i0]? = some (some v0)) (h1 : σ[i1]? = some (some v1)) (h2 : σ[i2]? = some (some v2)) (h3 : σ[i3]? = some (some v3)) (k : G [v0, v1, v2, v3] H) : tCons (tVar i0) (tCons (tVar i1) (tCons (tVar i2) (tCons (tVar i3) tNil))) σ H G := ⟨v0, h0, v1, h1, v2, h2, v3, h3, k⟩
theorem nb_put (k : Nat) (p : Peer) : putF "ident" (iv p.id) (putF "as_number" (iv p.as) (putF "number" (iv k) [])) = nbF k p := rfl
section
variable {P : Program} {w : World} {K : PySem.W.Frag} {mg : Str → Option Value} {base : Heap} {C : Cl}
noncomputable def spNbInit (C : Cl) : Sp := fun vs H Q _ => ∃ (a dx : Addr) (k : Nat) (p : Peer), vs = [.ref a, iv k, iv p.as, iv p.id] ∧ H a = some (.ins C.nb dx []) ∧ ∀ H' : Hp, NbAt C H' a k p → Keep [a] H H' → Q .non H'
theorem scNb : FnScope ["self", "number", "as_number", "ident"] ["self", "number", "as_number", "ident"] (defScope sNbInit) := ⟨rfl, rfl, rfl, by decide +kernel, rfl, by decide +kernel, by decide +kernel⟩
theorem ok_nbInit {f : Addr} {fd : FuncData} (F : Fun K "__init__" "Neighbour.__init__" sNbInit f fd) (T : Txt K mg C) : FnOk P w K mg base CX0 1 f fd ["self", "number", "as_number", "ident"] (spNbInit C) := by
  refine F.ok scNb (fun vs H Q E h => ?_) (fun cdv A outer s H vs Q E hr h => ?_)
  · obtain ⟨a, dx, k, p, rfl, _⟩ := h
    rfl
  · obtain ⟨a, dx, k, p, rfl, ha, q⟩ := h
    obtain ⟨n1, n2, n3⟩ := T.nbA
    refine ⟨_, pss_cons (ps_fld (pv 0) (pv 1) rfl) (pss_cons (ps_fld (pv 0) (pv 2) rfl) (pss_one (ps_fld (pv 0) (pv 3) rfl))), ?_⟩
    try dsimp only [cx_K]
    refine ⟨_, rfl, _, rfl, a, C.nb, dx, _, rfl, ha, T.nb, n1, (by show 0 < 1000; decide), ?_⟩
    refine ⟨_, rfl, _, rfl, a, C.nb, dx, _, rfl, upd_same, T.nb, n2, (by show 1 < 1000; decide), ?_⟩
    refine ⟨_, rfl, _, rfl, a, C.nb, dx, _, rfl, upd_same, T.nb, n3, (by show 2 < 1000; decide), ?_⟩
    refine q _ ⟨dx, upd_same⟩ fun b o hb hn => ?_
    have hn' : b ≠ a := by simpa using hn
    rw [upd_ne hn', upd_ne hn', upd_ne hn']; exact hb
noncomputable def spRtInit (C : Cl) : Sp := fun vs H Q _ => ∃ (a dx na pa : Addr) (r : Route), vs = [.ref a, .ref na, .ref pa, iv r.pref, iv r.origin, iv r.med] ∧ H a = some (.ins C.rt dx []) ∧ ∀ H' : Hp, H' a = some (.ins C.rt dx (rtF na pa r)) → Keep [a] H H' → Q .non H'
theorem scRt : FnScope ["self", "teller", "path", "pref", "origin", "med"] ["self", "teller", "path", "pref", "origin", "med"] (defScope sRtInit) := ⟨rfl, rfl, rfl, by decide +kernel, rfl, by decide +kernel, by decide +kernel⟩
theorem ok_rtInit {f : Addr} {fd : FuncData} (F : Fun K "__init__" "Route.__init__" sRtInit f fd) (T : Txt K mg C) : FnOk P w K mg base CX0 1 f fd ["self", "teller", "path", "pref", "origin", "med"] (spRtInit C) := by
  refine F.ok scRt (fun vs H Q E h => ?_) (fun cdv A outer s H vs Q E hr h => ?_)
  · obtain ⟨a, dx, na, pa, r, rfl, _⟩ := h
    rfl
  · obtain ⟨a, dx, na, pa, r, rfl, ha, q⟩ := h
    obtain ⟨n1, n2, n3, n4, n5⟩ := T.rtA
    refine ⟨_, pss_cons (ps_fld (pv 0) (pv 1) rfl) (pss_cons (ps_fld (pv 0) (pv 2) rfl) (pss_cons (ps_fld (pv 0) (pv 3) rfl) (pss_cons (ps_fld (pv 0) (pv 4) rfl) (pss_one (ps_fld (pv 0) (pv 5) rfl))))), ?_⟩
    try dsimp only [cx_K]
    refine ⟨_, rfl, _, rfl, a, C.rt, dx, _, rfl, ha, T.rt, n1, (by show 0 < 1000; decide), ?_⟩
    refine ⟨_, rfl, _, rfl, a, C.rt, dx, _, rfl, upd_same, T.rt, n2, (by show 1 < 1000; decide), ?_⟩
    refine ⟨_, rfl, _, rfl, a, C.rt, dx, _, rfl, upd_same, T.rt, n3, (by show 2 < 1000; decide), ?_⟩
    refine ⟨_, rfl, _, rfl, a, C.rt, dx, _, rfl, upd_same, T.rt, n4, (by show 3 < 1000; decide), ?_⟩
    refine ⟨_, rfl, _, rfl, a, C.rt, dx, _, rfl, upd_same, T.rt, n5, (by show 4 < 1000; decide), ?_⟩
    refine q _ upd_same fun b o hb hn => ?_
    have hn' : b ≠ a := by simpa using hn
    rw [upd_ne hn', upd_ne hn', upd_ne hn', upd_ne hn', upd_ne hn']; exact hb
noncomputable abbrev RtX := Nat × Peer × Route
noncomputable def rankV (x : RtX) : List Int := [(x.2.1.as : Int), (x.2.1.id : Int), (x.1 : Int)]
noncomputable def spRank (C : Cl) : Sp := fun vs H Q _ => ∃ (a : Addr) (x : RtX), vs = [.ref a] ∧ RtAt C H a x ∧ ∀ p, H p = none → Q (.ref p) (upd H p (.tup ((rankV x).map V.int)))
theorem scRank : FnScope ["route"] ["route"] (defScope sRank) := ⟨rfl, rfl, rfl, by decide +kernel, rfl, by decide +kernel, by decide +kernel⟩
theorem ok_rank {f : Addr} {fd : FuncData} (F : Fun K "teller_rank" "teller_rank" sRank f fd) (T : Txt K mg C) : FnOk P w K mg base CX0 1 f fd ["route"] (spRank C) := by
  refine F.ok scRank (fun vs H Q E h => ?_) (fun cdv A outer s H vs Q E hr h => ?_)
  · obtain ⟨a, x, rfl, _⟩ := h
    rfl
  · obtain ⟨a, x, rfl, ⟨dx, na, pa, ha, ⟨dn, hn⟩, hp⟩, q⟩ := h
    obtain ⟨n1, n2, n3, n4, n5⟩ := T.rtA
    obtain ⟨m1, m2, m3⟩ := T.nbA
    refine ⟨_, pss_one (ps_ret (pe_tup (pa_cons (pe_fld (pe_fld (pv 0) rfl) rfl) (pa_cons (pe_fld (pe_fld (pv 0) rfl) rfl) (pa_cons (pe_fld (pe_fld (pv 0) rfl) rfl) pa_nil))))), ?_⟩
    try dsimp only [cx_K]
    refine q_ff rfl ha T.rt n1 rfl hn T.nb m2 rfl ?_
    refine q_ff rfl ha T.rt n1 rfl hn T.nb m3 rfl ?_
    refine q_ff rfl ha T.rt n1 rfl hn T.nb m1 rfl ?_
    exact ⟨(by show 3 ≤ sizeLine; decide), fun p hp => q p hp⟩
end
end R46
end
section
set_option linter.all false
set_option Elab.async false
set_option maxRecDepth 100000
set_option maxHeartbeats 2000000
namespace R46
open PySem PySem.Spec PyProof.Rows L2
open Sf46 (Net Peer Route better)
theorem iv_eq {i j : Nat} : iv i = iv j ↔ i = j := ⟨fun h => by injection h with h; exact Int.ofNat.inj h, fun h => by rw [h]⟩
theorem ifNe {i j : Nat} {A B : Prop} (h1 : i ≠ j → A) (h2 : i = j → B) : if (!decide (iv i = iv j)) = true then A else B := by
  by_cases h : i = j
  · rw [decide_eq_true (iv_eq.mpr h)]; exact iteF (h2 h)
  · rw [decide_eq_false (fun z => h (iv_eq.mp z))]; exact iteT (h1 h)
theorem ifEq {i j : Nat} {A B : Prop} (h1 : i = j → A) (h2 : i ≠ j → B) : if decide (iv i = iv j) = true then A else B := by
  by_cases h : i = j
  · rw [decide_eq_true (iv_eq.mpr h)]; exact iteT (h1 h)
  · rw [decide_eq_false (fun z => h (iv_eq.mp z))]; exact iteF (h2 h)
theorem decLt {i j : Nat} : decide ((i : Int) < (j : Int)) = decide (i < j) := by
  by_cases h : i < j
  · rw [decide_eq_true h, decide_eq_true (by omega)]
  · rw [decide_eq_false h, decide_eq_false (by omega)]
theorem Same.refl {H : Hp} : Same H H := fun _ _ h => h
theorem Same.new {H : Hp} {p : Addr} {o : HO} (h : H p = none) : Same H (upd H p o) := fun b u hb => by rw [upd_ne (ne_of_none hb h)]; exact hb
theorem NbAt.same {C : Cl} {H H' : Hp} {a : Addr} {k : Nat} {p : Peer} (s : Same H H') (h : NbAt C H a k p) : NbAt C H' a k p := by
  obtain ⟨dx, h⟩ := h
  exact ⟨dx, s _ _ h⟩
theorem RtAt.same {C : Cl} {H H' : Hp} {a : Addr} {x : RtX} (s : Same H H') (h : RtAt C H a x) : RtAt C H' a x := by
  obtain ⟨dx, na, pa, h1, h2, h3⟩ := h
  exact ⟨dx, na, pa, s _ _ h1, h2.same s, s _ _ h3⟩
theorem rank_lt (x y : RtX) : HT.lexLt (rankV x) (rankV y) = (if x.2.1.as ≠ y.2.1.as then decide (x.2.1.as < y.2.1.as) else if x.2.1.id ≠ y.2.1.id then decide (x.2.1.id < y.2.1.id) else decide (x.1 < y.1)) := by
  unfold rankV
  rw [HT.lexLt_cons, HT.lexLt_cons, HT.lexLt_cons, HT.lexLt_nil_nil]
  by_cases h1 : x.2.1.as = y.2.1.as
  · rw [if_pos (show (x.2.1.as : Int) = (y.2.1.as : Int) by rw [h1]), if_neg (show ¬ x.2.1.as ≠ y.2.1.as from fun z => z h1)]
    by_cases h2 : x.2.1.id = y.2.1.id
    · rw [if_pos (show (x.2.1.id : Int) = (y.2.1.id : Int) by rw [h2]), if_neg (show ¬ x.2.1.id ≠ y.2.1.id from fun z => z h2)]
      by_cases h3 : x.1 = y.1
      · rw [if_pos (show (x.1 : Int) = (y.1 : Int) by rw [h3]), h3]; simp
      · rw [if_neg (show ¬ (x.1 : Int) = (y.1 : Int) by omega)]; exact decLt
    · rw [if_neg (show ¬ (x.2.1.id : Int) = (y.2.1.id : Int) by omega), if_pos h2]; exact decLt
  · rw [if_neg (show ¬ (x.2.1.as : Int) = (y.2.1.as : Int) by omega), if_pos h1]; exact decLt
section
variable {P : Program} {w : World} {K : PySem.W.Frag} {mg : Str → Option Value} {base : Heap} {C : Cl}
noncomputable def spBetter (C : Cl) : Sp := fun vs H Q _ => ∃ (a b : Addr) (x y : RtX), vs = [.ref a, .ref b] ∧ RtAt C H a x ∧ RtAt C H b y ∧ x.2.2.path ≠ [] ∧ y.2.2.path ≠ [] ∧ ∀ H', Same H H' → Q (.bl (better x y)) H'
theorem scBetter : FnScope ["route", "other"] ["route", "other"] (defScope sBetter) := ⟨rfl, rfl, rfl, by decide +kernel, rfl, by decide +kernel, by decide +kernel⟩
theorem head_eq {a b : List Nat} {x y : Nat} {r t : List Nat} (ha : a = x :: r) (hb : b = y :: t) : (a.head? = b.head?) ↔ x = y := by
  subst ha hb
  simp
theorem ok_better {f fR : Addr} {fd fdR : FuncData} (F : Fun K "is_better" "is_better" sBetter f fd) (T : Txt K mg C) (FR : Fun K "teller_rank" "teller_rank" sRank fR fdR) (bR : Binds K fdR ["route"] []) (mR : mg "teller_rank" = some (.ref fR)) :
    FnOk P w K mg base CX0 2 f fd ["route", "other"] (spBetter C) := by
  have GR : FnOk P w K mg base CX0 1 fR fdR ["route"] (spRank C) := ok_rank FR T
  refine F.ok scBetter (fun vs H Q E h => ?_) (fun cdv A outer s H vs Q E hr h => ?_)
  · obtain ⟨a, b, x, y, rfl, _⟩ := h
    rfl
  · obtain ⟨a, b, x, y, rfl, ra, rb, hx, hy, q⟩ := h
    have ra0 := ra
    have rb0 := rb
    obtain ⟨dx, na, pa, ha, hna, hpa⟩ := ra
    obtain ⟨dy, nb, pb, hb, hnb, hpb⟩ := rb
    obtain ⟨n1, n2, n3, n4, n5⟩ := T.rtA
    obtain ⟨x0, xr, ex⟩ := List.exists_cons_of_ne_nil hx
    obtain ⟨y0, yr, ey⟩ := List.exists_cons_of_ne_nil hy
    refine ⟨_, pss_cons (ps_if (pt_cmpR op_ne (pe_fld (pv 0) rfl) (pe_fld (pv 1) rfl) (nomark _)) (pss_one (ps_ret (pe_cmpR op_gt (pe_fld (pv 0) rfl) (pe_fld (pv 1) rfl) (nomark _)))) pss_nil)
      (pss_cons (ps_if (pt_cmpR op_ne (pe_callB call_len_seq rfl T.len PySem.boot_len (pa_cons (pe_fld (pv 0) rfl) pa_nil)) (pe_callB call_len_seq rfl T.len PySem.boot_len (pa_cons (pe_fld (pv 1) rfl) pa_nil)) (nomark _))
        (pss_one (ps_ret (pe_cmpR op_lt (pe_callB call_len_seq rfl T.len PySem.boot_len (pa_cons (pe_fld (pv 0) rfl) pa_nil)) (pe_callB call_len_seq rfl T.len PySem.boot_len (pa_cons (pe_fld (pv 1) rfl) pa_nil)) (nomark _)))) pss_nil)
      (pss_cons (ps_if (pt_cmpR op_ne (pe_fld (pv 0) rfl) (pe_fld (pv 1) rfl) (nomark _)) (pss_one (ps_ret (pe_cmpR op_lt (pe_fld (pv 0) rfl) (pe_fld (pv 1) rfl) (nomark _)))) pss_nil)
      (pss_cons (ps_if (pw_and (pt_cmpR op_eq (pe_ix ix_tup (pe_fld (pv 0) rfl) pe_int (fun _ _ => rfl)) (pe_ix ix_tup (pe_fld (pv 1) rfl) pe_int (fun _ _ => rfl)) (nomark _)) (pw_and1 (pt_cmpR op_ne (pe_fld (pv 0) rfl) (pe_fld (pv 1) rfl) (nomark _)))).pt
        (pss_one (ps_ret (pe_cmpR op_lt (pe_fld (pv 0) rfl) (pe_fld (pv 1) rfl) (nomark _)))) pss_nil)
      (pss_one (ps_ret (pe_cmpR (op_ltT hr.units0) (pe_call GR hr rfl mR FR.kp bR .nil pass0 (pa_cons (pv 0) pa_nil)) (pe_call GR hr rfl mR FR.kp bR .nil pass0 (pa_cons (pv 1) pa_nil)) (nomark _))))))), ?_⟩
    try dsimp only [cx_K]
    refine q_fld rfl ha T.rt n3 rfl (q_fld rfl hb T.rt n3 rfl ⟨rfl, _, rfl, ifNe (fun h1 => ?_) fun h1 => ?_⟩)
    · refine q_fld rfl ha T.rt n3 rfl (q_fld rfl hb T.rt n3 rfl ⟨_, _, rfl, rfl, ?_⟩)
      have e := q H Same.refl
      unfold better at e
      rw [if_pos h1, ← decLt] at e
      exact e
    refine q_fld rfl ha T.rt n2 rfl ⟨pa, _, rfl, .inr (SqT.of hpa), q_fld rfl hb T.rt n2 rfl ⟨pb, _, rfl, .inr (SqT.of hpb), rfl, _, rfl, ?_⟩⟩
    rw [List.length_map, List.length_map]
    refine ifNe (fun h2 => ?_) fun h2 => ?_
    · refine q_fld rfl ha T.rt n2 rfl ⟨pa, _, rfl, .inr (SqT.of hpa), q_fld rfl hb T.rt n2 rfl ⟨pb, _, rfl, .inr (SqT.of hpb), _, _, rfl, rfl, ?_⟩⟩
      have e := q H Same.refl
      unfold better at e
      rw [if_neg (fun z => z h1), if_pos h2, ← decLt] at e
      rw [List.length_map, List.length_map]
      exact e
    refine q_fld rfl ha T.rt n4 rfl (q_fld rfl hb T.rt n4 rfl ⟨rfl, _, rfl, ifNe (fun h3 => ?_) fun h3 => ?_⟩)
    · refine q_fld rfl ha T.rt n4 rfl (q_fld rfl hb T.rt n4 rfl ⟨_, _, rfl, rfl, ?_⟩)
      have e := q H Same.refl
      unfold better at e
      rw [if_neg (fun z => z h1), if_neg (fun z => z h2), if_pos h3, ← decLt] at e
      exact e
    have last : ¬ (x.2.2.path.head? = y.2.2.path.head? ∧ x.2.2.med ≠ y.2.2.med) → tRet (tOp (rLtT K) (tCall (spRank C) [] E0 (tCons (tVar 0) tNil)) (tCall (spRank C) [] E0 (tCons (tVar 1) tNil))) { nx := fun _ H' => Q .non H', rt := Q } (start ["route", "other"] [V.ref a, V.ref b]) H := by
      intro h4
      refine ⟨_, rfl, a, x, rfl, ra0, fun p hp => ⟨_, rfl, b, y, rfl, rb0.same (Same.new hp), fun p2 hp2 => ?_⟩⟩
      refine ⟨p, p2, rankV x, rankV y, rfl, rfl, SqT.of ?_, SqT.of upd_same, ?_⟩
      · rw [upd_ne (ne_of_none upd_same hp2)]; exact upd_same
      · rw [rank_lt]
        have e := q (upd (upd H p (.tup ((rankV x).map V.int))) p2 (.tup ((rankV y).map V.int))) ((Same.new hp).trans (Same.new hp2))
        unfold better at e
        rw [if_neg (fun z => z h1), if_neg (fun z => z h2), if_neg (fun z => z h3), if_neg h4] at e
        exact e
    refine q_fld rfl ha T.rt n2 rfl ⟨pa, _, _, _, rfl, rfl, SqT.of hpa, at_of (j := 0) (v := iv x0) rfl (by rw [ex]; rfl), q_fld rfl hb T.rt n2 rfl ⟨pb, _, _, _, rfl, rfl, SqT.of hpb, at_of (j := 0) (v := iv y0) rfl (by rw [ey]; rfl), rfl, _, rfl, ?_⟩⟩
    refine ifEq (fun h4 => ?_) fun h4 => ?_
    · refine q_fld rfl ha T.rt n5 rfl (q_fld rfl hb T.rt n5 rfl ⟨rfl, _, rfl, ifNe (fun h5 => ?_) fun h5 => ?_⟩)
      · refine q_fld rfl ha T.rt n5 rfl (q_fld rfl hb T.rt n5 rfl ⟨_, _, rfl, rfl, ?_⟩)
        have e := q H Same.refl
        unfold better at e
        rw [if_neg (fun z => z h1), if_neg (fun z => z h2), if_neg (fun z => z h3), if_pos ⟨(head_eq ex ey).mpr h4, h5⟩, ← decLt] at e
        exact e
      · exact last fun z => z.2 h5
    · exact last fun z => h4 ((head_eq ex ey).mp z.1)
end
end R46
end
section
set_option linter.all false
set_option Elab.async false
set_option maxRecDepth 100000
set_option maxHeartbeats 2000000
namespace R46
open PySem PySem.Spec PyProof.Rows L2
open Sf46 (Net Peer Route better)
noncomputable def BestIs (C : Cl) (H : Hp) (v : V) (o : Option RtX) : Prop := match o with
  | none => v = .non
  | some b => ∃ a, v = .ref a ∧ RtAt C H a b ∧ b.2.2.path ≠ []
theorem BestIs.same {C : Cl} {H H' : Hp} {v : V} {o : Option RtX} (s : Same H H') (h : BestIs C H v o) : BestIs C H' v o := by
  cases o with
  | none => exact h
  | some b =>
    obtain ⟨a, h1, h2, h3⟩ := h
    exact ⟨a, h1, h2.same s, h3⟩
theorem take_snoc {α : Type} : ∀ {l : List α} {i : Nat} {x : α}, l[i]? = some x → l.take (i + 1) = l.take i ++ [x]
  | [], _, _, h => by simp at h
  | y :: l, 0, x, h => by simp at h; simp [h]
  | y :: l, i + 1, x, h => by
    simp only [List.getElem?_cons_succ] at h
    rw [List.take_succ_cons, List.take_succ_cons, take_snoc h]
    rfl
theorem map_get {α β : Type} {f : α → β} {l : List α} {i : Nat} {y : β} (h : (l.map f)[i]? = some y) : ∃ x, l[i]? = some x ∧ y = f x := by
  rw [List.getElem?_map] at h
  cases e : l[i]? with
  | none => rw [e] at h; cases h
  | some x => rw [e] at h; exact ⟨x, rfl, (Option.some.inj h).symm⟩
section
variable {P : Program} {w : World} {K : PySem.W.Frag} {mg : Str → Option Value} {base : Heap} {C : Cl}
noncomputable def spBestOf (K : PySem.W.Frag) (C : Cl) : Sp := fun vs H Q _ => ∃ (l : Addr) (rs : List (Addr × RtX)), vs = [.ref l] ∧ SqL K H l (rs.map fun p => V.ref p.1) ∧ (∀ p ∈ rs, RtAt C H p.1 p.2 ∧ p.2.2.2.path ≠ []) ∧
  ∀ (v : V) (H' : Hp), Same H H' → BestIs C H' v ((rs.map (·.2)).foldl pick none) → Q v H'
theorem scBestOf : FnScope ["routes", "best", "route"] ["routes"] (defScope sBestOf) := ⟨rfl, rfl, rfl, by decide +kernel, rfl, by decide +kernel, by decide +kernel⟩
theorem ok_bestOf {f fB : Addr} {fd fdB : FuncData} (F : Fun K "best_of" "best_of" sBestOf f fd) (T : Txt K mg C) (GB : FnOk P w K mg base CX0 2 fB fdB ["route", "other"] (spBetter C)) (kB : PySem.W.keepIn K (.ref fB) = true) (bB : Binds K fdB ["route", "other"] []) (mB : mg "is_better" = some (.ref fB)) :
    FnOk P w K mg base CX0 3 f fd ["routes"] (spBestOf K C) := by
  refine F.ok scBestOf (fun vs H Q E h => ?_) (fun cdv A outer s H vs Q E hr h => ?_)
  · obtain ⟨l, rs, rfl, _⟩ := h
    rfl
  · obtain ⟨l, rs, rfl, hl, hrs, q⟩ := h
    refine ⟨_, pss_cons (ps_set (i := 1) scBestOf.nd rfl (Or.inl rfl) pe_non)
      (pss_cons (ps_for PassesOwn.never rfl (pi_list (pv 0)) (pg_name (i := 2) scBestOf.nd rfl (Or.inl rfl))
        (pss_one (ps_if (PW.pt (pw_or (pt_cmp (pc_isN (pv 1))) (pw_or1 (pt_val (pe_call GB hr rfl mB kB bB .nil pass0 (pa_cons (pv 2) (pa_cons (pv 1) pa_nil)))))))
          (pss_one (ps_set (i := 1) scBestOf.nd rfl (Or.inl rfl) (pv 2))) pss_nil)))
      (pss_one (ps_ret (pv 1)))), ?_⟩
    try dsimp only [cx_K]
    refine ⟨_, rfl, l, rfl, ⟨_, hl⟩, for_list (K := K) (a := l) (xs := rs.map fun p => V.ref p.1) (fun i σ H' => ∃ (bv : V) (rv : Option V), σ = [some (.ref l), some bv, rv] ∧ Same H H' ∧ BestIs C H' bv (((rs.map (·.2)).take i).foldl pick none))
      ⟨.non, none, rfl, Same.refl, rfl⟩ (fun i σ H' _ hm => by obtain ⟨_, _, _, s1, _⟩ := hm; exact s1.seq hl) ?_ ?_⟩
    · rintro i y σ H' hi ⟨bv, rv, rfl, s1, hb⟩
      obtain ⟨p, hp, rfl⟩ := map_get hi
      obtain ⟨hpr, hpn⟩ := hrs p (List.mem_of_getElem? hp)
      have hx : (rs.map (·.2))[i]? = some p.2 := by rw [List.getElem?_map, hp]; rfl
      have step : ((rs.map (·.2)).take (i + 1)).foldl pick none = pick (((rs.map (·.2)).take i).foldl pick none) p.2 := by rw [take_snoc hx, List.foldl_append]; rfl
      generalize ho : ((rs.map (·.2)).take i).foldl pick none = o at hb step
      cases o with
      | none =>
        have hb' : bv = .non := hb
        subst hb'
        refine ⟨_, rfl, _, rfl, iteT (iteT ⟨_, rfl, ?_⟩)⟩
        refine ⟨_, _, rfl, s1, ?_⟩
        rw [step]
        exact ⟨p.1, rfl, hpr.same s1, hpn⟩
      | some b =>
        obtain ⟨a, rfl, hba, hbn⟩ := hb
        refine ⟨_, rfl, _, rfl, iteF ⟨_, rfl, _, rfl, p.1, a, p.2, b, rfl, hpr.same s1, hba, hpn, hbn, fun H2 s2 => ⟨_, rfl, ?_⟩⟩⟩
        have e : pick (some b) p.2 = if better p.2 b = true then some p.2 else some b := rfl
        rw [e] at step
        cases hbt : better p.2 b with
        | true =>
          rw [hbt, if_pos rfl] at step
          refine iteT ⟨_, rfl, _, _, rfl, s1.trans s2, ?_⟩
          rw [step]
          exact ⟨p.1, rfl, (hpr.same s1).same s2, hpn⟩
        | false =>
          rw [hbt, if_neg Bool.false_ne_true] at step
          refine iteF ⟨_, _, rfl, s1.trans s2, ?_⟩
          rw [step]
          exact ⟨a, rfl, hba.same s2, hbn⟩
    · rintro σ H' ⟨bv, rv, rfl, s1, hb⟩
      refine ⟨_, rfl, q _ _ s1 ?_⟩
      rw [List.length_map] at hb
      rw [List.take_of_length_le (by rw [List.length_map]; exact Nat.le_refl _)] at hb
      exact hb
end
end R46
end
section
set_option linter.all false
set_option Elab.async false
set_option maxRecDepth 100000
set_option maxHeartbeats 2000000
namespace R46
open PySem PySem.Spec PyProof.Rows L2
open Sf46 (Net Peer Route better Told)
noncomputable def DueIs (H : Hp) (v : V) (t : Told) : Prop := match t with
  | none => v = .non
  | some t => ∃ a, v = .ref a ∧ TdAt H a t
theorem TdAt.same {H H' : Hp} {a : Addr} {t : List Nat × Nat} (s : Same H H') (h : TdAt H a t) : TdAt H' a t := by
  obtain ⟨pa, h1, h2⟩ := h
  exact ⟨pa, s _ _ h1, s _ _ h2⟩
theorem DueIs.same {H H' : Hp} {v : V} {t : Told} (s : Same H H') (h : DueIs H v t) : DueIs H' v t := by
  cases t with
  | none => exact h
  | some t =>
    obtain ⟨a, h1, h2⟩ := h
    exact ⟨a, h1, h2.same s⟩
noncomputable def due (z : Nat) (o : Option RtX) (k : Nat) (p : Peer) : Told := match o with
  | none => none
  | some b => if b.1 ≠ k ∧ b.2.2.path.length < 16 ∧ b.2.2.path.contains p.as = false then some (z :: b.2.2.path, b.2.2.origin) else none
theorem due_should {s : Sf46.St} {n : Net} {k : Nat} {p : Peer} (h : s.peer k = some p) : due s.self (s.best n) k p = s.should k n := by
  unfold due Sf46.St.should
  cases s.best n with
  | none => rfl
  | some b => simp only [h, Option.map_some, Option.getD_some]
theorem inV_iv (n : Nat) : ∀ l : List Nat, inV (iv n) (ivs l) = l.contains n
  | [] => rfl
  | x :: l => by
    have ih := inV_iv n l
    unfold inV at ih ⊢
    show ((iv x :: ivs l).any fun y => eqV y (iv n)) = _
    rw [List.any_cons, ih, List.contains_cons]
    congr 1
    show eqV (iv x) (iv n) = (n == x)
    by_cases h : n = x
    · subst h
      simp [eqV]
    · have h1 : (n == x) = false := beq_eq_false_iff_ne.mpr h
      rw [h1]
      simp [eqV]
      omega
theorem flat_ivs : ∀ l : List Nat, (ivs l).all flatV = true
  | [] => rfl
  | x :: l => by
    show ((iv x :: ivs l).all flatV) = true
    rw [List.all_cons, flat_ivs l]; rfl
section
variable {P : Program} {w : World} {K : PySem.W.Frag} {mg : Str → Option Value} {base : Heap} {C : Cl}
noncomputable def spShould (C : Cl) : Sp := fun vs H Q _ => ∃ (bv : V) (o : Option RtX) (na : Addr) (k : Nat) (p : Peer) (z : Nat), vs = [bv, .ref na, iv z] ∧ BestIs C H bv o ∧ NbAt C H na k p ∧ ∀ (v : V) (H' : Hp), Same H H' → DueIs H' v (due z o k p) → Q v H'
theorem scShould : FnScope ["best", "neighbour", "self_number"] ["best", "neighbour", "self_number"] (defScope sShould) := ⟨rfl, rfl, rfl, by decide +kernel, rfl, by decide +kernel, by decide +kernel⟩
theorem ok_should {f : Addr} {fd : FuncData} (F : Fun K "should_be_told" "should_be_told" sShould f fd) (T : Txt K mg C) : FnOk P w K mg base CX0 1 f fd ["best", "neighbour", "self_number"] (spShould C) := by
  obtain ⟨t15, g15⟩ := T.passed
  refine F.ok scShould (fun vs H Q E h => ?_) (fun cdv A outer s H vs Q E hr h => ?_)
  · obtain ⟨bv, o, na, k, p, z, rfl, _⟩ := h
    rfl
  · obtain ⟨bv, o, na, k, p, z, rfl, hb, ⟨dn, hn⟩, q⟩ := h
    obtain ⟨n1, n2, n3, n4, n5⟩ := T.rtA
    obtain ⟨m1, m2, m3⟩ := T.nbA
    refine ⟨_, pss_cons (ps_if (PW.pt (pw_or (pt_cmp (pc_isN (pv 0))) (pw_or1 (pt_cmpR op_eq (pe_fld (pe_fld (pv 0) rfl) rfl) (pe_fld (pv 1) rfl) (nomark _))))) (pss_one (ps_ret pe_non)) pss_nil)
      (pss_cons (ps_if (PW.pt (pw_or (pt_cmpR op_in_seq (pe_fld (pv 1) rfl) (pe_fld (pv 0) rfl) rfl) (pw_or1 (pt_cmpR op_gt (pe_callB call_len_seq rfl T.len PySem.boot_len (pa_cons (pe_fld (pv 0) rfl) pa_nil)) (pe_glob (v := .int 15) rfl g15 ⟨t15, rfl⟩) (nomark _))))) (pss_one (ps_ret pe_non)) pss_nil)
      (pss_one (ps_ret (pe_tup (pa_cons (pe_op op_catT (pe_tup (pa_cons (pv 2) pa_nil)) (pe_fld (pv 0) rfl)) (pa_cons (pe_fld (pv 0) rfl) pa_nil)))))), ?_⟩
    try dsimp only [cx_K]
    cases o with
    | none =>
      have hb' : bv = .non := hb
      subst hb'
      exact ⟨_, rfl, _, rfl, iteT (iteT (q _ _ Same.refl rfl))⟩
    | some b =>
      obtain ⟨a, rfl, ⟨dx, ta, pa, ha, ⟨dt, ht⟩, hp⟩, hne⟩ := hb
      have none_of : ¬ (b.1 ≠ k ∧ b.2.2.path.length < 16 ∧ b.2.2.path.contains p.as = false) → Q .non H := fun hc => q _ _ Same.refl (by
        show DueIs H .non (if _ then _ else none)
        rw [if_neg hc]
        rfl)
      refine ⟨_, rfl, _, rfl, iteF ?_⟩
      refine q_ff rfl ha T.rt n1 rfl ht T.nb m1 rfl (q_fld rfl hn T.nb m1 rfl ⟨rfl, _, rfl, ifEq (fun h1 => ?_) fun h1 => ?_⟩)
      · exact none_of fun z => z.1 h1
      refine q_fld rfl hn T.nb m2 rfl (q_fld rfl ha T.rt n2 rfl ⟨pa, _, rfl, .inr (SqT.of hp), rfl, flat_ivs _, _, rfl, ?_⟩)
      simp only [Bool.false_eq_true, if_false]
      rw [inV_iv]
      cases hin : b.2.2.path.contains p.as with
      | true =>
        refine iteT ?_
        exact none_of fun z => by rw [hin] at z; cases z.2.2
      | false =>
        refine iteF (q_fld rfl ha T.rt n2 rfl ⟨pa, _, rfl, .inr (SqT.of hp), _, _, rfl, rfl, _, rfl, ?_⟩)
        rw [List.length_map]
        by_cases hl : (15 : Int) < (b.2.2.path.length : Int)
        · rw [decide_eq_true hl]
          exact iteT (none_of fun z => by have := z.2.1; omega)
        · rw [decide_eq_false hl]
          have hl' : b.2.2.path.length < 16 := by omega
          refine iteF ⟨_, rfl, (by show 1 ≤ sizeLine; decide), fun p1 hp1 => ?_⟩
          have s1 := Same.new (o := .tup [iv z]) hp1
          refine q_fld rfl (s1 _ _ ha) T.rt n2 rfl ⟨p1, pa, _, _, rfl, rfl, SqT.of upd_same, SqT.of (s1 _ _ hp), (by simp), (by rw [List.length_map]; show 1 + b.2.2.path.length ≤ sizeLine; rw [sizeLine_eq]; omega), (fun e => absurd (List.map_eq_nil_iff.mp e) hne), fun _ p2 hp2 => ?_⟩
          have s2 := s1.trans (Same.new (o := .tup ([iv z] ++ ivs b.2.2.path)) hp2)
          refine q_fld rfl (s2 _ _ ha) T.rt n4 rfl ⟨(by show 2 ≤ sizeLine; decide), fun p3 hp3 => ?_⟩
          refine q _ _ (s2.trans (Same.new hp3)) ?_
          show DueIs _ _ (if _ then _ else none)
          rw [if_pos ⟨h1, hl', hin⟩]
          refine ⟨p3, rfl, p2, upd_same, ?_⟩
          rw [upd_ne (ne_of_none upd_same hp3), upd_same]
          rfl
end
end R46
end
section
set_option linter.all false
set_option Elab.async false
set_option maxRecDepth 100000
set_option maxHeartbeats 2000000
namespace R46
open PySem PySem.Spec PyProof.Rows L2
open Sf46 (Net Peer Route better Told isNet)
noncomputable abbrev sFirst : Stmt := top 18
noncomputable abbrev sIsNet : Stmt := top 19
noncomputable abbrev sIsRt : Stmt := top 20
noncomputable def fb (n b : Nat) : Nat := n - n % 2 ^ (32 - b)
theorem fb_int {n b : Nat} (h : b ≤ 32) : (n : Int) - (n : Int) % (1 * 2 ^ ((32 : Int) - (b : Int)).toNat) = ((fb n b : Nat) : Int) := by
  have e1 : ((32 : Int) - (b : Int)).toNat = 32 - b := by omega
  have e2 : ((n : Int) % (1 * 2 ^ (32 - b))) = ((n % 2 ^ (32 - b) : Nat) : Int) := by
    rw [Int.one_mul, Int.natCast_emod]
    norm_cast
  rw [e1, e2]
  unfold fb
  have := Nat.mod_le n (2 ^ (32 - b))
  omega
theorem isNet_false {n : Nat} {b : Int} (h : b < 0 ∨ 32 < b) : isNet n b = false := by
  unfold isNet
  rcases h with h | h
  · rw [decide_eq_false (show ¬ 0 ≤ b by omega)]; rfl
  · rw [decide_eq_false (show ¬ b ≤ 32 by omega)]; simp
theorem isNet_fb {n b : Nat} (h : b ≤ 32) : isNet n (b : Int) = decide (iv (fb n b) = iv n) := by
  unfold isNet fb
  rw [decide_eq_true (show (0 : Int) ≤ (b : Int) by omega), decide_eq_true (show (b : Int) ≤ 32 by omega), Bool.true_and, Bool.true_and]
  rw [Int.toNat_natCast]
  have := Nat.mod_le n (2 ^ (32 - b))
  by_cases hz : n % 2 ^ (32 - b) = 0
  · rw [hz]; simp
  · rw [beq_eq_false_iff_ne.mpr hz]
    symm
    refine decide_eq_false fun z => hz ?_
    injection z with z
    have z' : n - n % 2 ^ (32 - b) = n := Int.ofNat.inj z
    omega
section
variable {P : Program} {w : World} {K : PySem.W.Frag} {mg : Str → Option Value} {base : Heap} {C : Cl}
noncomputable def spFirst : Sp := fun vs H Q _ => ∃ (n b : Nat), vs = [iv n, iv b] ∧ b ≤ 32 ∧ Q (iv (fb n b)) H
theorem scFirst : FnScope ["number", "bits"] ["number", "bits"] (defScope sFirst) := ⟨rfl, rfl, rfl, by decide +kernel, rfl, by decide +kernel, by decide +kernel⟩
theorem ok_first {f : Addr} {fd : FuncData} (F : Fun K "first_bits" "first_bits" sFirst f fd) (T : Txt K mg C) : FnOk P w K mg base CX0 1 f fd ["number", "bits"] spFirst := by
  obtain ⟨t32, g32⟩ := T.abits
  refine F.ok scFirst (fun vs H Q E h => ?_) (fun cdv A outer s H vs Q E hr h => ?_)
  · obtain ⟨n, b, rfl, _⟩ := h
    rfl
  · obtain ⟨n, b, rfl, hb, q⟩ := h
    refine ⟨_, pss_one (ps_ret (pe_op op_sub (pv 0) (pe_op op_mod (pv 0) (pe_op op_shl pe_int (pe_op op_sub (pe_glob (v := .int 32) rfl g32 ⟨t32, rfl⟩) (pv 1)))))), ?_⟩
    try dsimp only [cx_K]
    refine ⟨_, rfl, _, rfl, _, rfl, _, _, rfl, rfl, _, _, rfl, rfl, ⟨(by omega), (by omega), (by decide)⟩, _, _, rfl, rfl, ?_, _, _, rfl, rfl, ?_⟩
    · have : (0 : Int) < 2 ^ ((32 : Int) - (b : Int)).toNat := Int.pow_pos (by decide)
      omega
    · show Q (V.int ((n : Int) - (n : Int) % (1 * 2 ^ ((32 : Int) - (b : Int)).toNat))) H
      rw [fb_int hb]; exact q
noncomputable def spIsNet : Sp := fun vs H Q _ => ∃ (n : Nat) (b : Int), vs = [iv n, .int b] ∧ Q (.bl (isNet n b)) H
theorem scIsNet : FnScope ["net", "bits"] ["net", "bits"] (defScope sIsNet) := ⟨rfl, rfl, rfl, by decide +kernel, rfl, by decide +kernel, by decide +kernel⟩
theorem ok_isNet {f fF : Addr} {fd fdF : FuncData} (F : Fun K "is_network" "is_network" sIsNet f fd) (T : Txt K mg C) (GF : FnOk P w K mg base CX0 1 fF fdF ["number", "bits"] spFirst) (kF : PySem.W.keepIn K (.ref fF) = true) (bF : Binds K fdF ["number", "bits"] []) (mF : mg "first_bits" = some (.ref fF)) :
    FnOk P w K mg base CX0 2 f fd ["net", "bits"] spIsNet := by
  obtain ⟨t32, g32⟩ := T.abits
  refine F.ok scIsNet (fun vs H Q E h => ?_) (fun cdv A outer s H vs Q E hr h => ?_)
  · obtain ⟨n, b, rfl, _⟩ := h
    rfl
  · obtain ⟨n, b, rfl, q⟩ := h
    refine ⟨_, pss_one (ps_ret (pe_and (pe_chain op_le op_le pe_int (pv 1) (pe_glob (v := .int 32) rfl g32 ⟨t32, rfl⟩)) (pe_one (pe_cmpR op_eq (pe_call GF hr rfl mF kF bF .nil pass0 (pa_cons (pv 0) (pa_cons (pv 1) pa_nil))) (pv 0) (nomark _))))), ?_⟩
    try dsimp only [cx_K]
    refine ⟨_, rfl, _, _, rfl, rfl, _, rfl, ?_⟩
    by_cases h0 : (0 : Int) ≤ b
    · rw [decide_eq_true h0]
      refine iteT ⟨_, _, rfl, rfl, _, rfl, ?_⟩
      by_cases h1 : b ≤ 32
      · rw [decide_eq_true h1]
        obtain ⟨m, rfl⟩ := Int.eq_ofNat_of_zero_le h0
        have hm : m ≤ 32 := by omega
        refine iteT ⟨_, rfl, _, rfl, n, m, rfl, hm, _, rfl, rfl, ?_⟩
        rw [isNet_fb hm] at q
        exact q
      · rw [decide_eq_false h1]
        rw [isNet_false (.inr (by omega))] at q
        exact iteF q
    · rw [decide_eq_false h0]
      rw [isNet_false (.inl (by omega))] at q
      exact iteF ⟨_, rfl, iteF q⟩
noncomputable def rtOk (n : Nat) (b c : Int) (o : Nat) : Bool := isNet n b && (decide (1 ≤ c ∧ c ≤ 16) && decide (o ≤ 2))
noncomputable def spIsRt : Sp := fun vs H Q _ => ∃ (n : Nat) (b c : Int) (o : Nat), vs = [iv n, .int b, .int c, iv o] ∧ Q (.bl (rtOk n b c o)) H
theorem scIsRt : FnScope ["net", "bits", "count", "origin"] ["net", "bits", "count", "origin"] (defScope sIsRt) := ⟨rfl, rfl, rfl, by decide +kernel, rfl, by decide +kernel, by decide +kernel⟩
theorem ok_isRt {f fN : Addr} {fd fdN : FuncData} (F : Fun K "is_route" "is_route" sIsRt f fd) (T : Txt K mg C) (GN : FnOk P w K mg base CX0 2 fN fdN ["net", "bits"] spIsNet) (kN : PySem.W.keepIn K (.ref fN) = true) (bN : Binds K fdN ["net", "bits"] []) (mN : mg "is_network" = some (.ref fN)) :
    FnOk P w K mg base CX0 3 f fd ["net", "bits", "count", "origin"] spIsRt := by
  obtain ⟨t16, g16⟩ := T.lpath
  obtain ⟨t2, g2⟩ := T.gorig
  refine F.ok scIsRt (fun vs H Q E h => ?_) (fun cdv A outer s H vs Q E hr h => ?_)
  · obtain ⟨n, b, c, o, rfl, _⟩ := h
    rfl
  · obtain ⟨n, b, c, o, rfl, q⟩ := h
    refine ⟨_, pss_cons (ps_if (pt_not (pt_val (pe_call GN hr rfl mN kN bN .nil pass0 (pa_cons (pv 0) (pa_cons (pv 1) pa_nil))))) (pss_one (ps_ret pe_bl)) pss_nil)
      (pss_one (ps_ret (pe_and (pe_chain op_le op_le pe_int (pv 2) (pe_glob (v := .int 16) rfl g16 ⟨t16, rfl⟩)) (pe_one (pe_chain op_le op_le pe_int (pv 3) (pe_glob (v := .int 2) rfl g2 ⟨t2, rfl⟩)))))), ?_⟩
    try dsimp only [cx_K]
    refine ⟨_, rfl, _, rfl, n, b, rfl, _, rfl, ?_⟩
    unfold rtOk at q
    cases hn : isNet n b with
    | false =>
      rw [hn] at q
      exact iteT q
    | true =>
      rw [hn, Bool.true_and] at q
      refine iteF ⟨_, rfl, _, _, rfl, rfl, _, rfl, ?_⟩
      by_cases h1 : (1 : Int) ≤ c
      · rw [decide_eq_true h1]
        refine iteT ⟨_, _, rfl, rfl, _, rfl, ?_⟩
        by_cases h2 : c ≤ 16
        · rw [decide_eq_true h2]
          rw [decide_eq_true (show 1 ≤ c ∧ c ≤ 16 from ⟨h1, h2⟩), Bool.true_and] at q
          refine iteT ⟨_, rfl, _, _, rfl, rfl, _, rfl, ?_⟩
          rw [decide_eq_true (show (0 : Int) ≤ (o : Int) by omega)]
          refine iteT ⟨_, _, rfl, rfl, ?_⟩
          have e : decide ((o : Int) ≤ 2) = decide (o ≤ 2) := by
            by_cases h3 : o ≤ 2
            · rw [decide_eq_true h3, decide_eq_true (by omega)]
            · rw [decide_eq_false h3, decide_eq_false (by omega)]
          rw [← e] at q
          exact q
        · rw [decide_eq_false h2]
          rw [decide_eq_false (show ¬ (1 ≤ c ∧ c ≤ 16) from fun z => h2 z.2), Bool.false_and] at q
          exact iteF q
      · rw [decide_eq_false h1]
        rw [decide_eq_false (show ¬ (1 ≤ c ∧ c ≤ 16) from fun z => h1 z.1), Bool.false_and] at q
        exact iteF ⟨_, rfl, iteF q⟩
end
end R46
end
section
set_option linter.all false
set_option Elab.async false
set_option maxRecDepth 100000
set_option maxHeartbeats 2000000
namespace R46
open PySem PySem.Spec PyProof.Rows L2
open Sf46 (Net Peer Route better Told isNet look)
noncomputable abbrev sEnInit : Stmt := inClass (top 23) 0
noncomputable abbrev sEnEmpty : Stmt := inClass (top 23) 1
noncomputable abbrev sEnBest : Stmt := inClass (top 23) 2
theorem kvs_val (l : List (Nat × Addr)) (k : Nat) : valV (kvs l) (Sum.inl (k : Int)) = (look l k).map V.ref := by
  induction l with
  | nil => rfl
  | cons p l ih =>
    rw [look_cons]
    show valV ((Sum.inl (p.1 : Int), V.ref p.2) :: kvs l) _ = _
    by_cases h : p.1 = k
    · rw [if_pos h, valV_pos (by rw [h])]; rfl
    · rw [if_neg h, valV_neg (fun z => h (by injection z with z; exact Int.ofNat.inj z)), ih]
theorem kvs_keys (l : List (Nat × Addr)) : (kvs l).map (·.1) = (l.map fun p => (p.1 : Int)).map (Sum.inl : Int → Key) := by
  unfold kvs
  rw [List.map_map, List.map_map]
  rfl
theorem kvs_len (l : List (Nat × Addr)) : (kvs l).length = l.length := List.length_map _
section
variable {P : Program} {w : World} {K : PySem.W.Frag} {mg : Str → Option Value} {base : Heap} {C : Cl}
noncomputable def spEnInit (C : Cl) : Sp := fun vs H Q _ => ∃ (a dx : Addr), vs = [.ref a] ∧ H a = some (.ins C.en dx []) ∧ ∀ (H' : Hp) (rd td : Addr), H rd = none → H td = none → rd ≠ td → H' a = some (.ins C.en dx (enF rd td)) → H' rd = some (.dK []) → H' td = some (.dK []) → Keep [a] H H' → Q .non H'
theorem scEnInit : FnScope ["self"] ["self"] (defScope sEnInit) := ⟨rfl, rfl, rfl, by decide +kernel, rfl, by decide +kernel, by decide +kernel⟩
theorem ok_enInit {f : Addr} {fd : FuncData} (F : Fun K "__init__" "Entry.__init__" sEnInit f fd) (T : Txt K mg C) : FnOk P w K mg base CX0 1 f fd ["self"] (spEnInit C) := by
  refine F.ok scEnInit (fun vs H Q E h => ?_) (fun cdv A outer s H vs Q E hr h => ?_)
  · obtain ⟨a, dx, rfl, _⟩ := h
    rfl
  · obtain ⟨a, dx, rfl, ha, q⟩ := h
    obtain ⟨n1, n2⟩ := T.enA
    refine ⟨_, pss_cons (ps_fld (pv 0) pe_dnewK rfl) (pss_one (ps_fld (pv 0) pe_dnewK rfl)), ?_⟩
    try dsimp only [cx_K]
    intro rd hrd
    refine ⟨_, rfl, a, C.en, dx, _, rfl, (by rw [upd_ne (ne_of_none ha hrd)]; exact ha), T.en, n1, (by show 0 < 1000; decide), ?_⟩
    intro td htd
    have ntd : a ≠ td := ne_of_none upd_same htd
    have nrd : a ≠ rd := ne_of_none ha hrd
    rw [upd_ne (fun z => ntd z.symm)] at htd
    have nrt : rd ≠ td := ne_of_none upd_same htd
    rw [upd_ne (fun z => nrt z.symm)] at htd
    refine ⟨_, rfl, a, C.en, dx, _, rfl, (by rw [upd_ne ntd]; exact upd_same), T.en, n2, (by show 1 < 1000; decide), ?_⟩
    refine q _ rd td hrd htd nrt upd_same ?_ ?_ fun b o hb hn => ?_
    · rw [upd_ne (fun z => nrd z.symm), upd_ne nrt, upd_ne (fun z => nrd z.symm), upd_same]
    · rw [upd_ne (fun z => ntd z.symm), upd_same]
    · have hn' : b ≠ a := by simpa using hn
      rw [upd_ne hn', upd_ne (ne_of_none hb htd), upd_ne hn', upd_ne (ne_of_none hb hrd)]; exact hb
noncomputable def spEnEmpty (C : Cl) : Sp := fun vs H Q _ => ∃ (a dx rd td : Addr) (rs ts : List (Key × V)), vs = [.ref a] ∧ H a = some (.ins C.en dx (enF rd td)) ∧ H rd = some (.dK rs) ∧ H td = some (.dK ts) ∧ Q (.bl (rs.isEmpty && ts.isEmpty)) H
theorem scEnEmpty : FnScope ["self"] ["self"] (defScope sEnEmpty) := ⟨rfl, rfl, rfl, by decide +kernel, rfl, by decide +kernel, by decide +kernel⟩
theorem len0 {α : Type} (l : List α) : decide (V.int (l.length : Int) = V.int 0) = l.isEmpty := by
  cases l with
  | nil => simp
  | cons a l =>
    refine decide_eq_false fun z => ?_
    injection z with z
    simp at z
    omega
theorem ok_enEmpty {f : Addr} {fd : FuncData} (F : Fun K "is_empty" "Entry.is_empty" sEnEmpty f fd) (T : Txt K mg C) : FnOk P w K mg base CX0 1 f fd ["self"] (spEnEmpty C) := by
  refine F.ok scEnEmpty (fun vs H Q E h => ?_) (fun cdv A outer s H vs Q E hr h => ?_)
  · obtain ⟨a, dx, rd, td, rs, ts, rfl, _⟩ := h
    rfl
  · obtain ⟨a, dx, rd, td, rs, ts, rfl, ha, hrd, htd, q⟩ := h
    obtain ⟨n1, n2⟩ := T.enA
    refine ⟨_, pss_one (ps_ret (pe_and (pe_cmpR op_eq (pe_callB call_lenD rfl T.len PySem.boot_len (pa_cons (pe_fld (pv 0) rfl) pa_nil)) pe_int (nomark _)) (pe_one (pe_cmpR op_eq (pe_callB call_lenD rfl T.len PySem.boot_len (pa_cons (pe_fld (pv 0) rfl) pa_nil)) pe_int (nomark _))))), ?_⟩
    try dsimp only [cx_K]
    refine q_fld rfl ha T.en n1 rfl ⟨rd, rs, rfl, hrd, rfl, _, rfl, ?_⟩
    rw [len0]
    cases hr : rs.isEmpty with
    | false =>
      rw [hr] at q
      exact iteF q
    | true =>
      rw [hr, Bool.true_and] at q
      refine iteT (q_fld rfl ha T.en n2 rfl ⟨td, ts, rfl, htd, rfl, ?_⟩)
      rw [len0]
      exact q
noncomputable def spEnBest (C : Cl) : Sp := fun vs H Q _ => ∃ (a dx rd td : Addr) (rs : List (Nat × Addr)) (g : Nat → Option RtX), vs = [.ref a] ∧ H a = some (.ins C.en dx (enF rd td)) ∧ H rd = some (.dK (kvs rs)) ∧ (rs.map (·.1)).Nodup ∧ rs.length < 64 ∧
  (∀ k, Both (RtAt C H) (look rs k) (g k)) ∧ (∀ k b, g k = some b → b.2.2.path ≠ []) ∧
  ∀ (v : V) (H' : Hp) (ks : List Nat), Same H H' → ks.Pairwise (· < ·) → (∀ k, k ∈ ks ↔ (g k).isSome = true) → BestIs C H' v ((ks.filterMap g).foldl pick none) → Q v H'
theorem scEnBest : FnScope ["self", "k"] ["self"] (defScope sEnBest) := ⟨rfl, rfl, rfl, by decide +kernel, rfl, by decide +kernel, by decide +kernel⟩
theorem both_some {α β : Type} {R : α → β → Prop} {a : Option α} {b : Option β} (h : Both R a b) : a.isSome = b.isSome := by
  cases a with
  | none => cases b with
    | none => rfl
    | some _ => exact h.elim
  | some _ => cases b with
    | none => exact h.elim
    | some _ => rfl
theorem fm_of {α β γ : Type} {g : α → Option β} {f : γ → β} {l₁ : List α} {l₂ : List γ} (h : Paired (fun a c => g a = some (f c)) l₁ l₂) : l₁.filterMap g = l₂.map f := by
  induction h with
  | nil => rfl
  | cons h t ih => rw [List.filterMap_cons, h, List.map_cons, ih]
theorem incr_of {ks : List Nat} (h1 : (ks.map fun (k : Nat) => (k : Int)).Pairwise (· ≤ ·)) (h2 : ks.Nodup) : ks.Pairwise (· < ·) := by
  rw [List.pairwise_map] at h1
  have h3 := List.Pairwise.and h1 h2
  exact h3.imp fun {a b} h => by
    have := h.1
    have := h.2
    omega
theorem ok_enBest {f fB : Addr} {fd fdB : FuncData} (F : Fun K "best_route" "Entry.best_route" sEnBest f fd) (T : Txt K mg C) (GB : FnOk P w K mg base CX0 3 fB fdB ["routes"] (spBestOf K C)) (kB : PySem.W.keepIn K (.ref fB) = true) (bB : Binds K fdB ["routes"] []) (mB : mg "best_of" = some (.ref fB)) :
    FnOk P w K mg base CX0 4 f fd ["self"] (spEnBest C) := by
  refine F.ok scEnBest (fun vs H Q E h => ?_) (fun cdv A outer s H vs Q E hr h => ?_)
  · obtain ⟨a, dx, rd, td, rs, g, rfl, _⟩ := h
    rfl
  · obtain ⟨a, dx, rd, td, rs, g, rfl, ha, hrd, hnd, h64, hg, hp, q⟩ := h
    obtain ⟨n1, n2⟩ := T.enA
    refine ⟨_, pss_one (ps_ret (pe_call GB hr rfl mB kB bB .nil pass0 (pa_cons
      (pe_lc (own := [("k", 1)]) (te := tDGet (tFld K (tVar 0) "routes") (tVar 1)) rfl scEnBest.nd (pi_list (pe_callB (cr_sortDI rfl) rfl T.srt rfl (pa_cons (pe_fld (pv 0) rfl) pa_nil))) (blkOk_by (N := ["self", "k"]) (sc := defScope sEnBest) (by decide +kernel))
        (fun _ _ _ _ _ => pg_name (i := 1) scEnBest.nd rfl (Or.inl rfl)) (fun _ _ _ _ _ => pts_nil) (fun _ _ _ _ _ => pe_dget (hu_of hr) (pe_fld (pv 0) rfl) (pv 1) (fun _ _ => rfl))) pa_nil))), ?_⟩
    try dsimp only [cx_K]
    refine q_fld rfl ha T.en n1 rfl ⟨rd, kvs rs, rs.map (fun p => (p.1 : Int)), rfl, .inl hrd, kvs_keys rs, (by rw [List.length_map]; exact h64), fun ns' l hperm hle hl => ?_⟩
    obtain ⟨ks, hks, eks⟩ := perm_map_ex (f := fun (k : Nat) => (k : Int)) hperm (ps := rs.map (·.1)) (by rw [List.map_map]; rfl)
    subst eks
    have ksnd : ks.Nodup := hks.nodup_iff.mpr hnd
    have hinc : ks.Pairwise (· < ·) := incr_of hle ksnd
    have hmem : ∀ k, k ∈ ks ↔ (g k).isSome = true := fun k => by
      rw [← both_some (hg k), look_isSome, hks.mem_iff, List.mem_map]
    have hrt : ∀ k ∈ ks, ∃ (ra : Addr) (b : RtX), look rs k = some ra ∧ g k = some b ∧ RtAt C H ra b ∧ b.2.2.path ≠ [] := fun k hk => by
      obtain ⟨b, hb⟩ := Option.isSome_iff_exists.mp ((hmem k).mp hk)
      have h := hg k
      rw [hb] at h
      cases hl : look rs k with
      | none => rw [hl] at h; exact h.elim
      | some ra =>
        rw [hl] at h
        exact ⟨ra, b, rfl, hb, h, hp k b hb⟩
    obtain ⟨ps, hps⟩ : ∃ ps : List (Addr × RtX), Paired (fun (k : Nat) (p : Addr × RtX) => look rs k = some p.1 ∧ g k = some p.2 ∧ RtAt C H p.1 p.2 ∧ p.2.2.2.path ≠ []) ks ps := by
      clear hperm hle hinc hmem hks ksnd
      induction ks with
      | nil => exact ⟨[], .nil⟩
      | cons k ks ih =>
        obtain ⟨ra, b, h1, h2, h3, h4⟩ := hrt k (by simp)
        obtain ⟨ps, h⟩ := ih fun k' hk' => hrt k' (by simp [hk'])
        exact ⟨(ra, b) :: ps, .cons ⟨h1, h2, h3, h4⟩ h⟩
    have s1 : Same H (upd H l (.lst (ks.map (fun (k : Nat) => (k : Int)) |>.map V.int))) := Same.new hl
    refine ⟨l, rfl, ⟨_, SqL.of upd_same⟩, fun D hD => lc_list (K := K) (a := l) (xs := (ks.map (fun (k : Nat) => (k : Int))).map V.int) (fun i H' => H' D = some (.lst ((ps.map fun p => V.ref p.1).take i)) ∧ Same H H' ∧ H' l = some (.lst ((ks.map (fun (k : Nat) => (k : Int))).map V.int)))
      ⟨upd_same, s1.trans (Same.new hD), by rw [upd_ne (ne_of_none upd_same hD)]; exact upd_same⟩ (fun i H' _ h => SqL.of h.2.2) ?_ ?_⟩
    · rintro i x H' hi ⟨h1, h2, h3⟩
      obtain ⟨z, hz, rfl⟩ := map_get hi
      obtain ⟨k, hk, rfl⟩ := map_get hz
      obtain ⟨p, hpi, e1, e2, e3, e4⟩ := paired_get hps hk
      refine ⟨rfl, ?_⟩
      unfold tYes
      dsimp only
      rw [if_pos rfl]
      refine q_fld rfl (h2 _ _ ha) T.en n1 rfl ⟨_, rfl, rd, V.ref p.1, rfl, ?_, _, h1, ?_, ?_, ?_, ?_⟩
      · have e := kvs_val rs k
        rw [e1] at e
        have d := DGet.k (H := H') (k := Sum.inl (k : Int)) (h2 _ _ hrd)
        rw [e] at d
        exact d
      · have : ps.length = ks.length := (Paired.length hps).symm
        have : rs.length = ks.length := by rw [hks.length_eq, List.length_map]
        rw [List.length_take, List.length_map, sizeLine_eq]
        omega
      · rw [upd_same, take_snoc (x := V.ref p.1) (by rw [List.getElem?_map, hpi]; rfl)]
      · intro b o hb
        rw [upd_ne]
        · exact h2 _ _ hb
        · rintro rfl
          rw [s1 _ _ hb] at hD
          cases hD
      · rw [upd_ne]
        · exact h3
        · rintro rfl
          rw [upd_same] at hD
          cases hD
    · rintro H' ⟨h1, h2, h3⟩
      have hlen : ((ks.map (fun (k : Nat) => (k : Int))).map V.int).length = (ps.map fun p => V.ref p.1).length := by rw [List.length_map, List.length_map, List.length_map, Paired.length hps]
      rw [hlen, List.take_length] at h1
      refine ⟨D, ps, rfl, SqL.of h1, fun p hp' => ?_, fun v H2 s2 hb => q v H2 ks (h2.trans s2) hinc hmem ?_⟩
      · obtain ⟨k, _, _, _, e3, e4⟩ := paired_mem hps p hp'
        exact ⟨e3.same h2, e4⟩
      · have e : ks.filterMap g = ps.map (·.2) := by
          exact fm_of (Paired.mapP hps fun k p h => h.2.1)
        rw [e]
        exact hb
end
end R46
end
section
set_option linter.all false
set_option Elab.async false
set_option maxRecDepth 100000
set_option maxHeartbeats 2000000
namespace R46
open PySem PySem.Spec PyProof.Rows L2
open Sf46 (Net Peer Route better Told isNet look)
noncomputable abbrev sRo (i : Nat) : Stmt := inClass (top 24) i
noncomputable abbrev sIsUp : Stmt := sRo 10
noncomputable abbrev sEntryOf : Stmt := sRo 11
noncomputable abbrev sRoom : Stmt := sRo 13
noncomputable abbrev sDrop : Stmt := sRo 17
noncomputable def AS.isUp (A : AS) (k : Int) : Bool := decide (0 ≤ k ∧ k < 8) && (A.peer k.toNat).isSome
theorem nbV_is {o : Option Addr} : (!decide (nbV o = .non)) = o.isSome := by
  cases o with
  | none => rfl
  | some a => rfl
section
variable {P : Program} {w : World} {K : PySem.W.Frag} {mg : Str → Option Value} {base : Heap} {C : Cl}
noncomputable def spIsUp (C : Cl) : Sp := fun vs H Q _ => ∃ (r : Addr) (x : RA) (A : AS) (k : Int), vs = [.ref r, .int k] ∧ BaseAt C H r x A ∧ Q (.bl (A.isUp k)) H
theorem scIsUp : FnScope ["self", "k"] ["self", "k"] (defScope sIsUp) := ⟨rfl, rfl, rfl, by decide +kernel, rfl, by decide +kernel, by decide +kernel⟩
theorem ok_isUp {f : Addr} {fd : FuncData} (F : Fun K "is_up" "Router.is_up" sIsUp f fd) (T : Txt K mg C) : FnOk P w K mg base CX0 1 f fd ["self", "k"] (spIsUp C) := by
  obtain ⟨t8, g8⟩ := T.nbours
  refine F.ok scIsUp (fun vs H Q E h => ?_) (fun cdv A0 outer s H vs Q E hr h => ?_)
  · obtain ⟨r, x, A, k, rfl, _⟩ := h
    rfl
  · obtain ⟨r, x, A, k, rfl, ⟨⟨dx, hobj⟩, hnl, hlen, hnb⟩, q⟩ := h
    obtain ⟨n1, n2, n3, n4⟩ := T.roA
    refine ⟨_, pss_one (ps_ret (pe_and (pe_chain op_le op_lt pe_int (pv 1) (pe_glob (v := .int 8) rfl g8 ⟨t8, rfl⟩)) (pe_one (pe_cmp (pc_notN (pe_ix ix_list (pe_fld (pv 0) rfl) (pv 1) (fun _ _ => rfl))))))), ?_⟩
    try dsimp only [cx_K]
    unfold AS.isUp at q
    refine ⟨_, rfl, _, _, rfl, rfl, _, rfl, ?_⟩
    by_cases h0 : (0 : Int) ≤ k
    · rw [decide_eq_true h0]
      refine iteT ⟨_, _, rfl, rfl, _, rfl, ?_⟩
      by_cases h1 : k < 8
      · rw [decide_eq_true h1]
        rw [decide_eq_true (show 0 ≤ k ∧ k < 8 from ⟨h0, h1⟩), Bool.true_and] at q
        obtain ⟨o, ho⟩ : ∃ o, x.nbs[k.toNat]? = some o := ⟨_, List.getElem?_eq_getElem (by omega)⟩
        refine iteT (q_fld rfl hobj T.ro n2 rfl ⟨_, rfl, x.nl, _, _, _, rfl, rfl, SqL.of hnl, at_of (j := k.toNat) (v := nbV o) (by omega) (by rw [List.getElem?_map, ho]; rfl), ?_⟩)
        show Q (V.bl (!decide (nbV o = V.non))) H
        rw [nbV_is]
        have hb := both_some (hnb k.toNat)
        rw [ho] at hb
        have hb' : o.isSome = (A.peer k.toNat).isSome := hb
        rw [hb']
        exact q
      · rw [decide_eq_false h1]
        rw [decide_eq_false (show ¬ (0 ≤ k ∧ k < 8) from fun z => h1 z.2), Bool.false_and] at q
        exact iteF q
    · rw [decide_eq_false h0]
      rw [decide_eq_false (show ¬ (0 ≤ k ∧ k < 8) from fun z => h0 z.1), Bool.false_and] at q
      exact iteF ⟨_, rfl, iteF q⟩
structure NewEnt (C : Cl) (H H' : Hp) (e rd td : Addr) : Prop where
  obj : ∃ dx, H' e = some (.ins C.en dx (enF rd td))
  fe : H e = none
  fr : H rd = none
  ft : H td = none
  dr : H' rd = some (.dK [])
  dt : H' td = some (.dK [])
  rt : rd ≠ td
  same : Same H H'
noncomputable def spEntryOf (C : Cl) : Sp := fun vs H Q _ => ∃ (r na : Addr) (x : RA) (A : AS) (X : Net → Prop) (n : Net), vs = [.ref r, .ref na] ∧ BaseAt C H r x A ∧ NetsAt C H x.nd x.es A X ∧ H na = some (.tup (nV n)) ∧
  (∀ y ∈ x.es, y.n = n → Q (.ref y.e) H) ∧ (n ∉ x.es.map (·.n) → ∀ (H' : Hp) (e rd td : Addr), NewEnt C H H' e rd td → Q (.ref e) H')
theorem scEntryOf : FnScope ["self", "network"] ["self", "network"] (defScope sEntryOf) := ⟨rfl, rfl, rfl, by decide +kernel, rfl, by decide +kernel, by decide +kernel⟩
theorem esV_some {es : List Ent} (hn : (es.map (·.n)).Nodup) {y : Ent} (h : y ∈ es) : valX (esV es) y.n = some (.ref y.e) := by
  induction es with
  | nil => cases h
  | cons z es ih =>
    rw [List.map_cons, List.nodup_cons] at hn
    unfold valX esV
    rw [List.map_cons, List.find?_cons]
    rcases List.mem_cons.mp h with e | h
    · subst e; simp
    · have hne : ¬ z.n = y.n := fun e => hn.1 (by rw [e]; exact List.mem_map.mpr ⟨y, h, rfl⟩)
      simp only [decide_eq_false hne]
      exact ih hn.2 h
theorem esV_none {es : List Ent} {n : Net} : valX (esV es) n = none ↔ n ∉ es.map (·.n) := by
  unfold valX esV
  rw [Option.map_eq_none_iff, List.find?_eq_none]
  constructor
  · intro h hm
    obtain ⟨y, hy, e⟩ := List.mem_map.mp hm
    exact h _ (List.mem_map.mpr ⟨y, hy, rfl⟩) (decide_eq_true e)
  · intro h p hp
    obtain ⟨y, hy, rfl⟩ := List.mem_map.mp hp
    intro e
    exact h (List.mem_map.mpr ⟨y, hy, of_decide_eq_true e⟩)
theorem hu2_of {A : Around} {k : Nat} (hr : Room k A) : A.units + 2 < cLine := Nat.lt_of_le_of_lt (Nat.add_le_add_left (by decide : 2 ≤ 64) _) hr.units
theorem ok_entryOf {f fE : Addr} {fd fdE : FuncData} (F : Fun K "entry_of" "Router.entry_of" sEntryOf f fd) (T : Txt K mg C) (M : Mk K C.en fE) (GE : FnOk P w K mg base CX0 1 fE fdE ["self"] (spEnInit C)) (bE : Binds K fdE ["self"] []) :
    FnOk P w K mg base CX0 3 f fd ["self", "network"] (spEntryOf C) := by
  refine F.ok scEntryOf (fun vs H Q E h => ?_) (fun cdv A0 outer s H vs Q E hr h => ?_)
  · obtain ⟨r, na, x, A, X, n, rfl, _⟩ := h
    rfl
  · obtain ⟨r, na, x, A, X, n, rfl, ⟨⟨dx, hobj⟩, hnl, hlen, hnb⟩, hN, hna, q1, q2⟩ := h
    obtain ⟨n1, n2, n3, n4⟩ := T.roA
    refine ⟨_, pss_cons (ps_if (pt_cmp (pc_xin (T := netK) (hu2_of hr) (pv 1) (pe_fld (pv 0) rfl))) (pss_one (ps_ret (pe_xget (T := netK) (hu2_of hr) (pe_fld (pv 0) rfl) (pv 1) (fun _ _ => rfl)))) pss_nil)
      (pss_one (ps_ret (pe_make0 M GE hr rfl T.mEn bE .nil pass0))), ?_⟩
    try dsimp only [cx_K]
    refine ⟨_, rfl, q_fld rfl hobj T.ro n3 rfl ⟨x.nd, na, _, n, rfl, rfl, .inl hN.nd, hN.ndOn, hna, _, rfl, ?_⟩⟩
    by_cases hin : n ∈ x.es.map (·.n)
    · obtain ⟨y, hy, rfl⟩ := List.mem_map.mp hin
      have hv := esV_some hN.keys hy
      rw [hv]
      refine iteT (q_fld rfl hobj T.ro n3 rfl ⟨_, rfl, x.nd, na, _, y.n, _, rfl, rfl, .inl hN.nd, hN.ndOn, hna, hv, ?_⟩)
      exact q1 y hy rfl
    · rw [esV_none.mpr hin]
      refine iteF ?_
      intro e de he hde hne
      refine ⟨e, de, rfl, upd_same, fun H' rd td hrd htd hrt h1 h2 h3 hk => ⟨rfl, ?_⟩⟩
      have fr : H rd = none := by
        have ne1 : rd ≠ e := fun z => by rw [z, upd_same] at hrd; cases hrd
        rw [upd_ne ne1] at hrd
        have ne2 : rd ≠ de := fun z => by rw [z, upd_same] at hrd; cases hrd
        rw [upd_ne ne2] at hrd
        exact hrd
      have ft : H td = none := by
        have ne1 : td ≠ e := fun z => by rw [z, upd_same] at htd; cases htd
        rw [upd_ne ne1] at htd
        have ne2 : td ≠ de := fun z => by rw [z, upd_same] at htd; cases htd
        rw [upd_ne ne2] at htd
        exact htd
      refine q2 hin H' e rd td ⟨⟨de, h1⟩, he, fr, ft, h2, h3, hrt, fun b o hb => ?_⟩
      refine hk b o ?_ (by simpa using ne_of_none hb he)
      rw [upd_ne (ne_of_none hb he), upd_ne (ne_of_none hb hde)]
      exact hb
noncomputable def spRoom (C : Cl) : Sp := fun vs H Q _ => ∃ (r na : Addr) (x : RA) (A : AS) (X : Net → Prop) (n : Net), vs = [.ref r, .ref na] ∧ BaseAt C H r x A ∧ NetsAt C H x.nd x.es A X ∧ H na = some (.tup (nV n)) ∧
  Q (.bl (decide ((if n ∈ x.es.map (·.n) then x.es.length else x.es.length + 1) < 4096))) H
theorem scRoom : FnScope ["self", "network", "then_known"] ["self", "network"] (defScope sRoom) := ⟨rfl, rfl, rfl, by decide +kernel, rfl, by decide +kernel, by decide +kernel⟩
theorem ok_room {f : Addr} {fd : FuncData} (F : Fun K "has_room_for" "Router.has_room_for" sRoom f fd) (T : Txt K mg C) : FnOk P w K mg base CX0 1 f fd ["self", "network"] (spRoom C) := by
  obtain ⟨tm, gm⟩ := T.many
  refine F.ok scRoom (fun vs H Q E h => ?_) (fun cdv A0 outer s H vs Q E hr h => ?_)
  · obtain ⟨r, na, x, A, X, n, rfl, _⟩ := h
    rfl
  · obtain ⟨r, na, x, A, X, n, rfl, ⟨⟨dx, hobj⟩, hnl, hlen, hnb⟩, hN, hna, q⟩ := h
    obtain ⟨n1, n2, n3, n4⟩ := T.roA
    refine ⟨_, pss_cons (ps_set (i := 2) scRoom.nd rfl (Or.inl rfl) (pe_callB (call_lenX (T := netK)) rfl T.len PySem.boot_len (pa_cons (pe_fld (pv 0) rfl) pa_nil)))
      (pss_cons (ps_if (pt_cmp (pc_xnotin (T := netK) (hu2_of hr) (pv 1) (pe_fld (pv 0) rfl))) (pss_one (ps_set (i := 2) scRoom.nd rfl (Or.inl rfl) (pe_op op_add (pv 2) pe_int))) pss_nil)
      (pss_one (ps_ret (pe_cmpR op_lt (pv 2) (pe_glob (v := .int 4096) rfl gm ⟨tm, rfl⟩) (nomark _))))), ?_⟩
    try dsimp only [cx_K]
    have hl : (esV x.es).length = x.es.length := List.length_map _
    refine q_fld rfl hobj T.ro n3 rfl ⟨x.nd, _, rfl, .inl hN.nd, ?_⟩
    rw [hl]
    refine ⟨_, rfl, q_fld rfl hobj T.ro n3 rfl ⟨x.nd, na, _, n, rfl, rfl, .inl hN.nd, hN.ndOn, hna, _, rfl, ?_⟩⟩
    by_cases hin : n ∈ x.es.map (·.n)
    · obtain ⟨y, hy, rfl⟩ := List.mem_map.mp hin
      rw [esV_some hN.keys hy]
      rw [if_pos hin, ← decLt] at q
      exact iteF ⟨_, rfl, _, _, rfl, rfl, q⟩
    · rw [esV_none.mpr hin]
      rw [if_neg hin, ← decLt] at q
      refine iteT ⟨_, rfl, _, _, rfl, rfl, _, rfl, _, _, rfl, rfl, ?_⟩
      have e : ((x.es.length + 1 : Nat) : Int) = (x.es.length : Int) + 1 := by omega
      rw [e] at q
      exact q
end
end R46
end
section
set_option linter.all false
set_option Elab.async false
set_option maxRecDepth 100000
set_option maxHeartbeats 2000000
namespace R46
open PySem PySem.Spec PyProof.Rows L2
open Sf46 (Net Peer Route better Told isNet look)
structure Step (C : Cl) (H H' : Hp) (r : Addr) (x x' : RA) (A' : AS) (X' : Net → Prop) : Prop where
  rat : RAt C H' r x' A' X'
  keep : Keep (x.muts r) H H'
  new : ∀ b ∈ x'.muts r, b ∈ x.muts r ∨ H b = none
  imm : Imm C H H'
theorem Step.trans {C : Cl} {H H1 H2 : Hp} {r : Addr} {x x1 x2 : RA} {A1 A2 : AS} {X1 X2 : Net → Prop} (a : Step C H H1 r x x1 A1 X1) (b : Step C H1 H2 r x1 x2 A2 X2) : Step C H H2 r x x2 A2 X2 := by
  refine ⟨b.rat, fun c o h hc => b.keep c o (a.keep c o h hc) fun hm => ?_, fun c hc => ?_, a.imm.trans b.imm⟩
  · rcases a.new c hm with z | z
    · exact hc z
    · rw [z] at h; cases h
  · rcases b.new c hc with z | z
    · exact a.new c z
    · by_cases hm : c ∈ x.muts r
      · exact .inl hm
      · cases e : H c with
        | none => exact .inr rfl
        | some o => rw [a.keep c o e hm] at z; cases z
theorem Step.same {C : Cl} {H H' : Hp} {r : Addr} {x : RA} {A : AS} {X : Net → Prop} (s : Same H H') (h : RAt C H r x A X) : Step C H H' r x x A X :=
  ⟨h.same s, fun b o hb _ => s b o hb, fun b hb => .inl hb, .same s⟩
theorem RAt.weak {C : Cl} {H : Hp} {r : Addr} {x : RA} {A : AS} {X X' : Net → Prop} (h : RAt C H r x A X) (k : ∀ n, n ∈ x.es.map (·.n) → A.known n ∨ X' n) : RAt C H r x A X' :=
  ⟨h.base, ⟨h.nets.nd, h.nets.ndOn, h.nets.ents, h.nets.keys, h.nets.all, k⟩, h.wait, h.sep⟩
theorem Step.weak {C : Cl} {H H' : Hp} {r : Addr} {x x' : RA} {A : AS} {X X' : Net → Prop} (h : Step C H H' r x x' A X) (k : ∀ n, n ∈ x'.es.map (·.n) → A.known n ∨ X' n) : Step C H H' r x x' A X' :=
  ⟨h.rat.weak k, h.keep, h.new, h.imm⟩
theorem BaseAt.of {C : Cl} {H : Hp} {r : Addr} {x x' : RA} {A A' : AS} (h : BaseAt C H r x A) (e1 : x'.nl = x.nl) (e2 : x'.nd = x.nd) (e3 : x'.wd = x.wd) (e4 : x'.nbs = x.nbs) (e5 : A'.self = A.self) (e6 : A'.peer = A.peer) : BaseAt C H r x' A' :=
  ⟨by rw [e1, e2, e3, e5]; exact h.obj, by rw [e1, e4]; exact h.nl, by rw [e4]; exact h.len, by rw [e4, e6]; exact h.nbs⟩
theorem RAt.apart {C : Cl} {H : Hp} {r : Addr} {x : RA} {A : AS} {X : Net → Prop} (h : RAt C H r x A X) :
    r ≠ x.nl ∧ r ≠ x.nd ∧ r ≠ x.wd ∧ x.nl ≠ x.nd ∧ x.nl ≠ x.wd ∧ x.nd ≠ x.wd ∧ (∀ b ∈ esM x.es, b ≠ r ∧ b ≠ x.nl ∧ b ≠ x.nd ∧ b ≠ x.wd) ∧ (esM x.es).Nodup := by
  have s := h.sep
  unfold RA.muts at s
  simp only [List.nodup_cons, List.mem_cons, not_or] at s
  obtain ⟨⟨a1, a2, a3, a4⟩, ⟨b1, b2, b3⟩, ⟨c1, c2⟩, d1, e⟩ := s
  exact ⟨a1, a2, a3, b1, b2, c1, fun b hb => ⟨fun z => a4 (z ▸ hb), fun z => b3 (z ▸ hb), fun z => c2 (z ▸ hb), fun z => d1 (z ▸ hb)⟩, e⟩
theorem esM_apart : ∀ {es : List Ent}, (esM es).Nodup → ∀ {y z : Ent}, y ∈ es → z ∈ es → y.n ≠ z.n → z.e ≠ y.rd ∧ z.rd ≠ y.rd ∧ z.td ≠ y.rd ∧ z.e ≠ y.td ∧ z.rd ≠ y.td ∧ z.td ≠ y.td
  | [], _, _, _, h, _, _ => nomatch h
  | w :: es, hn, y, z, hy, hz, hne => by
    have hw : esM (w :: es) = [w.e, w.rd, w.td] ++ esM es := rfl
    rw [hw, List.nodup_append] at hn
    obtain ⟨_, h2, h3⟩ := hn
    rcases List.mem_cons.mp hy with e | hy1
    · rcases List.mem_cons.mp hz with e' | hz1
      · subst e e'; exact absurd rfl hne
      · subst e
        obtain ⟨m1, m2, m3⟩ := mem_esM hz1
        have k : ∀ a ∈ [y.e, y.rd, y.td], ∀ b ∈ esM es, b ≠ a := fun a ha b hb => (h3 a ha b hb).symm
        exact ⟨k _ (by simp) _ m1, k _ (by simp) _ m2, k _ (by simp) _ m3, k _ (by simp) _ m1, k _ (by simp) _ m2, k _ (by simp) _ m3⟩
    · rcases List.mem_cons.mp hz with e' | hz1
      · subst e'
        obtain ⟨m1, m2, m3⟩ := mem_esM hy1
        exact ⟨h3 _ (by simp) _ m2, h3 _ (by simp) _ m2, h3 _ (by simp) _ m2, h3 _ (by simp) _ m3, h3 _ (by simp) _ m3, h3 _ (by simp) _ m3⟩
      · exact esM_apart h2 hy1 hz1 hne
theorem esM_self : ∀ {es : List Ent}, (esM es).Nodup → ∀ {y : Ent}, y ∈ es → y.e ≠ y.rd ∧ y.e ≠ y.td ∧ y.rd ≠ y.td
  | [], _, _, h => nomatch h
  | w :: es, hn, y, hy => by
    have hw : esM (w :: es) = [w.e, w.rd, w.td] ++ esM es := rfl
    rw [hw, List.nodup_append] at hn
    obtain ⟨h1, h2, h3⟩ := hn
    rcases List.mem_cons.mp hy with e | hy
    · subst e
      simp only [List.nodup_cons, List.mem_cons, List.not_mem_nil, or_false, not_or] at h1
      exact ⟨h1.1.1, h1.1.2, h1.2.1⟩
    · exact esM_self h2 hy
noncomputable def setE (es : List Ent) (n : Net) (f : Ent → Ent) : List Ent := es.map fun z => if z.n = n then f z else z
theorem setE_n {es : List Ent} {n : Net} {f : Ent → Ent} (hf : ∀ z, (f z).n = z.n) : (setE es n f).map (·.n) = es.map (·.n) := by
  unfold setE
  rw [List.map_map]
  refine List.map_congr_left fun z _ => ?_
  show (if z.n = n then f z else z).n = z.n
  split
  · exact hf z
  · rfl
theorem setE_V {es : List Ent} {n : Net} {f : Ent → Ent} (hf : ∀ z, (f z).n = z.n ∧ (f z).ka = z.ka ∧ (f z).e = z.e) : esV (setE es n f) = esV es := by
  unfold setE esV
  rw [List.map_map]
  refine List.map_congr_left fun z _ => ?_
  show ((if z.n = n then f z else z).n, (if z.n = n then f z else z).ka, V.ref (if z.n = n then f z else z).e) = _
  split
  · obtain ⟨a, b, c⟩ := hf z
    rw [a, b, c]
  · rfl
theorem setE_M {n : Net} {f : Ent → Ent} (hf : ∀ z, (f z).e = z.e ∧ (f z).rd = z.rd ∧ (f z).td = z.td) : ∀ es : List Ent, esM (setE es n f) = esM es
  | [] => rfl
  | z :: es => by
    have ih := setE_M (n := n) hf es
    have h1 : esM (z :: es) = [z.e, z.rd, z.td] ++ esM es := rfl
    have h2 : setE (z :: es) n f = (if z.n = n then f z else z) :: setE es n f := rfl
    have h3 : esM ((if z.n = n then f z else z) :: setE es n f) = [(if z.n = n then f z else z).e, (if z.n = n then f z else z).rd, (if z.n = n then f z else z).td] ++ esM (setE es n f) := rfl
    rw [h1, h2, h3, ih]
    split
    · obtain ⟨a, b, c⟩ := hf z
      rw [a, b, c]
    · rfl
noncomputable def AS.setG (A : AS) (k : Nat) (n : Net) (v : Option RtX) : AS := { A with g := fun k' n' => if k' = k ∧ n' = n then v else A.g k' n' }
noncomputable def AS.setT (A : AS) (k : Nat) (n : Net) (v : Option (List Nat × Nat)) : AS := { A with t := fun k' n' => if k' = k ∧ n' = n then v else A.t k' n' }
theorem AS.setG_id {A : AS} {k : Nat} {n : Net} (h : A.g k n = none) : A.setG k n none = A := by
  have : (fun k' n' => if k' = k ∧ n' = n then none else A.g k' n') = A.g := by
    funext k' n'
    split
    · rename_i e; rw [e.1, e.2, h]
    · rfl
  unfold AS.setG
  rw [this]
theorem RAt.setRs {C : Cl} {H : Hp} {r : Addr} {x : RA} {A : AS} {X : Net → Prop} (h : RAt C H r x A X) {y : Ent} (hy : y ∈ x.es) {rs' : List (Nat × Addr)} {k : Nat} {v : Option RtX}
    (hn : (rs'.map (·.1)).Nodup) (hs : ∀ k', look rs' k' = if k' = k then look rs' k else look y.rs k') (hv : Both (RtAt C H) (look rs' k) v) (hX : ∀ n, X n → n = y.n) :
    ∃ x', Step C H (upd H y.rd (.dK (kvs rs'))) r x x' (A.setG k y.n v) (fun n => n = y.n) ∧ (∃ y' ∈ x'.es, y'.n = y.n ∧ y'.e = y.e ∧ y'.rs = rs' ∧ y'.ts = y.ts) ∧ x'.es.map (·.n) = x.es.map (·.n) ∧ x'.nd = x.nd ∧ x'.wd = x.wd ∧ x'.ws = x.ws ∧ x'.nl = x.nl ∧ x'.nbs = x.nbs ∧ esV x'.es = esV x.es := by
  obtain ⟨a1, a2, a3, a4, a5, a6, a7, a8⟩ := h.apart
  obtain ⟨m1, m2, m3⟩ := mem_esM hy
  obtain ⟨b1, b2, b3, b4⟩ := a7 _ m2
  have hE := h.nets.ents y hy
  have im : Imm C H (upd H y.rd (.dK (kvs rs'))) := Imm.upd hE.rd (fun _ z => nomatch z) (fun _ _ z => nomatch z) (fun _ _ z => nomatch z)
  have hf1 : ∀ z : Ent, ({ z with rs := rs' } : Ent).n = z.n ∧ ({ z with rs := rs' } : Ent).ka = z.ka ∧ ({ z with rs := rs' } : Ent).e = z.e := fun _ => ⟨rfl, rfl, rfl⟩
  have hV := setE_V (es := x.es) (n := y.n) hf1
  have hNn := setE_n (es := x.es) (n := y.n) (f := fun z => { z with rs := rs' }) fun _ => rfl
  have hM : esM (setE x.es y.n fun z => { z with rs := rs' }) = esM x.es := setE_M (f := fun z => { z with rs := rs' }) (fun _ => ⟨rfl, rfl, rfl⟩) _
  refine ⟨{ x with es := setE x.es y.n fun z => { z with rs := rs' } }, ⟨⟨?_, ?_, ?_, ?_⟩, ?_, ?_, im⟩, ⟨{ y with rs := rs' }, ?_, rfl, rfl, rfl, rfl⟩, hNn, rfl, rfl, rfl, rfl, rfl, hV⟩
  · exact (h.base.keep im (Stay.upd (by simp [b1, b2]))).of rfl rfl rfl rfl rfl rfl
  · refine ⟨?_, ?_, fun z hz => ?_, by rw [hNn]; exact h.nets.keys, fun n hk => ?_, fun n hk => ?_⟩
    · show upd H y.rd _ x.nd = _
      rw [hV, upd_ne (fun e => b3 e.symm)]; exact h.nets.nd
    · show OnX netK _ (esV (setE x.es y.n fun z => { z with rs := rs' }))
      rw [hV]; exact h.nets.ndOn.keep im.tup
    · obtain ⟨z0, hz0, rfl⟩ := List.mem_map.mp hz
      by_cases hzn : z0.n = y.n
      · have ez : z0 = y := by
          have hk := h.nets.keys
          exact (List.pairwise_map.mp hk) |> fun hp => by
            by_cases hh : z0 = y
            · exact hh
            · exfalso
              rcases List.mem_iff_getElem.mp hz0 with ⟨i, hi, ei⟩
              rcases List.mem_iff_getElem.mp hy with ⟨j, hj, ej⟩
              have hij : i ≠ j := fun e => hh (by subst e; rw [← ei, ← ej])
              rcases Nat.lt_or_gt_of_ne hij with hlt | hgt
              · exact (List.pairwise_iff_getElem.mp hp i j hi hj hlt) (by rw [ei, ej]; exact hzn)
              · exact (List.pairwise_iff_getElem.mp hp j i hj hi hgt) (by rw [ei, ej]; exact hzn.symm)
        subst ez
        rw [if_pos rfl]
        obtain ⟨s1, s2, s3⟩ := esM_self a8 hy
        refine ⟨?_, upd_same, ?_, hn, hE.tnd, fun k' => ?_, fun k' => (hE.told k').imp fun _ _ z => z.imm im⟩
        · obtain ⟨dx, e⟩ := hE.obj
          exact ⟨dx, by show upd H z0.rd _ z0.e = _; rw [upd_ne s1]; exact e⟩
        · show upd H z0.rd _ z0.td = _
          rw [upd_ne (fun e => s3 e.symm)]; exact hE.td
        · show Both _ (look rs' k') (if k' = k ∧ z0.n = z0.n then v else A.g k' z0.n)
          rw [hs k']
          by_cases e : k' = k
          · rw [if_pos e, if_pos ⟨e, rfl⟩]; exact hv.imp fun _ _ z => z.imm im
          · rw [if_neg e, if_neg (fun z => e z.1)]; exact (hE.held k').imp fun _ _ z => z.imm im
      · rw [if_neg hzn]
        obtain ⟨s1, s2, s3, _⟩ := esM_apart a8 hy hz0 (fun e => hzn e.symm)
        have hz' := (h.nets.ents z0 hz0).keep im (fun o ho => by rw [upd_ne s1]; exact ho) (fun o ho => by rw [upd_ne s2]; exact ho) (fun o ho => by rw [upd_ne s3]; exact ho)
        refine ⟨hz'.obj, hz'.rd, hz'.td, hz'.rnd, hz'.tnd, fun k' => ?_, hz'.told⟩
        show Both _ _ (if k' = k ∧ z0.n = y.n then v else A.g k' z0.n)
        rw [if_neg (fun z => hzn z.2)]
        exact hz'.held k'
    · show n ∈ (setE x.es y.n fun z => { z with rs := rs' }).map (·.n)
      rw [hNn]
      obtain ⟨k', hk'⟩ := hk
      by_cases e : n = y.n
      · rw [e]; exact List.mem_map.mpr ⟨y, hy, rfl⟩
      · refine h.nets.all n ⟨k', ?_⟩
        have : (A.setG k y.n v).g k' n = A.g k' n := if_neg (fun z => e z.2)
        rw [this] at hk'
        exact hk'
    · rw [hNn] at hk
      by_cases e : n = y.n
      · exact .inr e
      · rcases h.nets.only n hk with ⟨k', hk'⟩ | z
        · refine .inl ⟨k', ?_⟩
          have : (A.setG k y.n v).g k' n = A.g k' n := if_neg (fun z => e z.2)
          rw [this]; exact hk'
        · exact absurd (hX n z) e
  · exact h.wait.keep (C := C) im (Stay.upd (by simp [b4]))
  · show (r :: x.nl :: x.nd :: x.wd :: esM (setE x.es y.n _)).Nodup
    rw [hM]; exact h.sep
  · intro b o hb hn'
    rw [upd_ne]
    · exact hb
    · rintro rfl
      exact hn' (by unfold RA.muts; simp [m2])
  · intro b hb
    have e : RA.muts r { x with es := setE x.es y.n fun z => { z with rs := rs' } } = x.muts r := by
      show (r :: x.nl :: x.nd :: x.wd :: esM (setE x.es y.n _)) = _
      rw [hM]; rfl
    rw [e] at hb
    exact .inl hb
  · exact List.mem_map.mpr ⟨y, hy, by rw [if_pos rfl]⟩
end R46
end
section
set_option linter.all false
set_option Elab.async false
set_option maxRecDepth 100000
set_option maxHeartbeats 2000000
namespace R46
open PySem PySem.Spec PyProof.Rows L2
open Sf46 (Net Peer Route better Told isNet look)
theorem RAt.setTs {C : Cl} {H : Hp} {r : Addr} {x : RA} {A : AS} {X : Net → Prop} (h : RAt C H r x A X) {y : Ent} (hy : y ∈ x.es) {ts' : List (Nat × Addr)} {k : Nat} {v : Option (List Nat × Nat)}
    (hn : (ts'.map (·.1)).Nodup) (hs : ∀ k', look ts' k' = if k' = k then look ts' k else look y.ts k') (hv : Both (TdAt H) (look ts' k) v) (hX : ∀ n, X n → n = y.n) :
    ∃ x', Step C H (upd H y.td (.dK (kvs ts'))) r x x' (A.setT k y.n v) (fun n => n = y.n) ∧ (∃ y' ∈ x'.es, y'.n = y.n ∧ y'.e = y.e ∧ y'.ts = ts' ∧ y'.rs = y.rs) ∧ x'.es.map (·.n) = x.es.map (·.n) ∧ x'.nd = x.nd ∧ x'.wd = x.wd ∧ x'.ws = x.ws ∧ x'.nl = x.nl ∧ x'.nbs = x.nbs ∧ esV x'.es = esV x.es := by
  obtain ⟨a1, a2, a3, a4, a5, a6, a7, a8⟩ := h.apart
  obtain ⟨m1, m2, m3⟩ := mem_esM hy
  obtain ⟨b1, b2, b3, b4⟩ := a7 _ m3
  have hE := h.nets.ents y hy
  have im : Imm C H (upd H y.td (.dK (kvs ts'))) := Imm.upd hE.td (fun _ z => nomatch z) (fun _ _ z => nomatch z) (fun _ _ z => nomatch z)
  have hf1 : ∀ z : Ent, ({ z with ts := ts' } : Ent).n = z.n ∧ ({ z with ts := ts' } : Ent).ka = z.ka ∧ ({ z with ts := ts' } : Ent).e = z.e := fun _ => ⟨rfl, rfl, rfl⟩
  have hV := setE_V (es := x.es) (n := y.n) hf1
  have hNn := setE_n (es := x.es) (n := y.n) (f := fun z => { z with ts := ts' }) fun _ => rfl
  have hM : esM (setE x.es y.n fun z => { z with ts := ts' }) = esM x.es := setE_M (f := fun z => { z with ts := ts' }) (fun _ => ⟨rfl, rfl, rfl⟩) _
  refine ⟨{ x with es := setE x.es y.n fun z => { z with ts := ts' } }, ⟨⟨?_, ?_, ?_, ?_⟩, ?_, ?_, im⟩, ⟨{ y with ts := ts' }, ?_, rfl, rfl, rfl, rfl⟩, hNn, rfl, rfl, rfl, rfl, rfl, hV⟩
  · exact (h.base.keep im (Stay.upd (by simp [b1, b2]))).of rfl rfl rfl rfl rfl rfl
  · refine ⟨?_, ?_, fun z hz => ?_, by rw [hNn]; exact h.nets.keys, fun n hk => ?_, fun n hk => ?_⟩
    · show upd H y.td _ x.nd = _
      rw [hV, upd_ne (fun e => b3 e.symm)]; exact h.nets.nd
    · show OnX netK _ (esV (setE x.es y.n fun z => { z with ts := ts' }))
      rw [hV]; exact h.nets.ndOn.keep im.tup
    · obtain ⟨z0, hz0, rfl⟩ := List.mem_map.mp hz
      by_cases hzn : z0.n = y.n
      · have ez : z0 = y := by
          have hk := h.nets.keys
          exact (List.pairwise_map.mp hk) |> fun hp => by
            by_cases hh : z0 = y
            · exact hh
            · exfalso
              rcases List.mem_iff_getElem.mp hz0 with ⟨i, hi, ei⟩
              rcases List.mem_iff_getElem.mp hy with ⟨j, hj, ej⟩
              have hij : i ≠ j := fun e => hh (by subst e; rw [← ei, ← ej])
              rcases Nat.lt_or_gt_of_ne hij with hlt | hgt
              · exact (List.pairwise_iff_getElem.mp hp i j hi hj hlt) (by rw [ei, ej]; exact hzn)
              · exact (List.pairwise_iff_getElem.mp hp j i hj hi hgt) (by rw [ei, ej]; exact hzn.symm)
        subst ez
        rw [if_pos rfl]
        obtain ⟨s1, s2, s3⟩ := esM_self a8 hy
        refine ⟨?_, ?_, upd_same, hE.rnd, hn, fun k' => (hE.held k').imp fun _ _ z => z.imm im, fun k' => ?_⟩
        · obtain ⟨dx, e⟩ := hE.obj
          exact ⟨dx, by show upd H z0.td _ z0.e = _; rw [upd_ne s2]; exact e⟩
        · show upd H z0.td _ z0.rd = _
          rw [upd_ne s3]; exact hE.rd
        · show Both _ (look ts' k') (if k' = k ∧ z0.n = z0.n then v else A.t k' z0.n)
          rw [hs k']
          by_cases e : k' = k
          · rw [if_pos e, if_pos ⟨e, rfl⟩]; exact hv.imp fun _ _ z => z.imm im
          · rw [if_neg e, if_neg (fun z => e z.1)]; exact (hE.told k').imp fun _ _ z => z.imm im
      · rw [if_neg hzn]
        obtain ⟨_, _, _, s1, s2, s3⟩ := esM_apart a8 hy hz0 (fun e => hzn e.symm)
        have hz' := (h.nets.ents z0 hz0).keep im (fun o ho => by rw [upd_ne s1]; exact ho) (fun o ho => by rw [upd_ne s2]; exact ho) (fun o ho => by rw [upd_ne s3]; exact ho)
        refine ⟨hz'.obj, hz'.rd, hz'.td, hz'.rnd, hz'.tnd, hz'.held, fun k' => ?_⟩
        show Both _ _ (if k' = k ∧ z0.n = y.n then v else A.t k' z0.n)
        rw [if_neg (fun z => hzn z.2)]
        exact hz'.told k'
    · show n ∈ (setE x.es y.n fun z => { z with ts := ts' }).map (·.n)
      rw [hNn]
      obtain ⟨k', hk'⟩ := hk
      by_cases e : n = y.n
      · rw [e]; exact List.mem_map.mpr ⟨y, hy, rfl⟩
      · refine h.nets.all n ⟨k', ?_⟩
        have : (A.setT k y.n v).t k' n = A.t k' n := if_neg (fun z => e z.2)
        rw [this] at hk'
        exact hk'
    · rw [hNn] at hk
      by_cases e : n = y.n
      · exact .inr e
      · rcases h.nets.only n hk with ⟨k', hk'⟩ | z
        · refine .inl ⟨k', ?_⟩
          have : (A.setT k y.n v).t k' n = A.t k' n := if_neg (fun z => e z.2)
          rw [this]; exact hk'
        · exact absurd (hX n z) e
  · exact h.wait.keep (C := C) im (Stay.upd (by simp [b4]))
  · show (r :: x.nl :: x.nd :: x.wd :: esM (setE x.es y.n _)).Nodup
    rw [hM]; exact h.sep
  · intro b o hb hn'
    rw [upd_ne]
    · exact hb
    · rintro rfl
      exact hn' (by unfold RA.muts; simp [m3])
  · intro b hb
    have e : RA.muts r { x with es := setE x.es y.n fun z => { z with ts := ts' } } = x.muts r := by
      show (r :: x.nl :: x.nd :: x.wd :: esM (setE x.es y.n _)) = _
      rw [hM]; rfl
    rw [e] at hb
    exact .inl hb
  · exact List.mem_map.mpr ⟨y, hy, by rw [if_pos rfl]⟩
end R46
end
section
set_option linter.all false
set_option Elab.async false
set_option maxRecDepth 100000
set_option maxHeartbeats 2000000
namespace R46
open PySem PySem.Spec PyProof.Rows L2
open Sf46 (Net Peer Route better Told isNet look)
noncomputable abbrev sHold : Stmt := sRo 14
noncomputable abbrev sForget : Stmt := sRo 15
noncomputable def dropR (l : List (Nat × Addr)) (k : Nat) : List (Nat × Addr) := l.filter fun p => decide (p.1 ≠ k)
noncomputable def putR (l : List (Nat × Addr)) (k : Nat) (a : Addr) : List (Nat × Addr) := if (look l k).isSome = true then l.map (fun p => if p.1 = k then (p.1, a) else p) else l ++ [(k, a)]
theorem inl_eq {a b : Nat} : (Sum.inl (a : Int) : Key) = Sum.inl (b : Int) ↔ a = b := ⟨fun h => by injection h with h; exact Int.ofNat.inj h, fun h => by rw [h]⟩
theorem kvs_drop (l : List (Nat × Addr)) (k : Nat) : dropK (kvs l) (Sum.inl (k : Int)) = kvs (dropR l k) := by
  unfold dropK kvs dropR
  rw [List.filter_map]
  congr 1
  refine List.filter_congr fun p _ => ?_
  show decide ((Sum.inl (p.1 : Int) : Key) ≠ Sum.inl (k : Int)) = decide (p.1 ≠ k)
  by_cases h : p.1 = k
  · rw [h]; simp
  · have h1 : (Sum.inl (p.1 : Int) : Key) ≠ Sum.inl (k : Int) := fun z => h (inl_eq.mp z)
    rw [decide_eq_true h, decide_eq_true h1]
theorem look_drop (l : List (Nat × Addr)) (k k' : Nat) : look (dropR l k) k' = if k' = k then none else look l k' := by
  have := look_filter (fun j => decide (j ≠ k)) k' l
  unfold dropR
  rw [this]
  by_cases h : k' = k
  · rw [if_pos h, if_neg (by simp [h])]
  · rw [if_neg h, if_pos (by simp [h])]
theorem drop_same {l : List (Nat × Addr)} {k : Nat} (h : look l k = none) : dropR l k = l := by
  unfold dropR
  rw [List.filter_eq_self]
  intro p hp
  have := look_none.mp h p hp
  simpa using this
theorem drop_nodup {l : List (Nat × Addr)} (h : (l.map (·.1)).Nodup) (k : Nat) : ((dropR l k).map (·.1)).Nodup := h.sublist (List.filter_sublist.map _)
theorem kvs_put (l : List (Nat × Addr)) (k : Nat) (a : Addr) : putK (kvs l) (Sum.inl (k : Int)) (.ref a) = kvs (putR l k a) := by
  unfold putK putR
  have e : ((kvs l).any fun kv => decide (kv.1 = Sum.inl (k : Int))) = (look l k).isSome := by
    rw [valV_any, kvs_val, Option.isSome_map]
  rw [e]
  by_cases h : (look l k).isSome = true
  · rw [if_pos h, if_pos h]
    unfold kvs
    rw [List.map_map, List.map_map]
    refine List.map_congr_left fun p _ => ?_
    show (if (Sum.inl (p.1 : Int) : Key) = Sum.inl (k : Int) then _ else _) = _
    by_cases e : p.1 = k
    · rw [if_pos (inl_eq.mpr e)]
      show _ = (fun (p : Nat × Addr) => ((Sum.inl (p.1 : Int) : Key), V.ref p.2)) (if p.1 = k then (p.1, a) else p)
      rw [if_pos e]
    · rw [if_neg (fun z => e (inl_eq.mp z))]
      show _ = (fun (p : Nat × Addr) => ((Sum.inl (p.1 : Int) : Key), V.ref p.2)) (if p.1 = k then (p.1, a) else p)
      rw [if_neg e]
  · rw [if_neg h, if_neg h]
    unfold kvs
    rw [List.map_append]
    rfl
theorem look_map_put (k k' : Nat) (a : Addr) : ∀ l : List (Nat × Addr), look (l.map fun p => if p.1 = k then (p.1, a) else p) k' = if k' = k then (look l k).map (fun _ => a) else look l k'
  | [] => by split <;> rfl
  | p :: l => by
    have ih := look_map_put k k' a l
    rw [List.map_cons, look_cons, look_cons, look_cons, ih]
    by_cases e : p.1 = k
    · by_cases e' : k' = k
      · subst e'; simp [e]
      · have h' : ¬ k = k' := fun z => e' z.symm
        simp [e, e', h']
    · by_cases e' : k' = k
      · subst e'; simp [e]
      · simp [e, e']
theorem look_append (k' : Nat) (q : Nat × Addr) : ∀ l : List (Nat × Addr), look (l ++ [q]) k' = (look l k').or (if q.1 = k' then some q.2 else none)
  | [] => by
    show look [q] k' = _
    rw [look_cons]
    split <;> rfl
  | p :: l => by
    rw [List.cons_append, look_cons, look_cons, look_append k' q l]
    split <;> rfl
theorem look_putR (l : List (Nat × Addr)) (k k' : Nat) (a : Addr) : look (putR l k a) k' = if k' = k then some a else look l k' := by
  unfold putR
  cases h : look l k with
  | some b =>
    rw [if_pos (show (some b).isSome = true from rfl), look_map_put, h]
    rfl
  | none =>
    rw [if_neg (by simp), look_append]
    by_cases e : k' = k
    · rw [if_pos e, e, h, if_pos rfl]; rfl
    · rw [if_neg e, if_neg (fun z => e z.symm)]; cases look l k' <;> rfl
theorem putR_nodup {l : List (Nat × Addr)} (h : (l.map (·.1)).Nodup) (k : Nat) (a : Addr) : ((putR l k a).map (·.1)).Nodup := by
  unfold putR
  split
  · rw [List.map_map]
    have e : (l.map ((fun p => p.1) ∘ fun p : Nat × Addr => if p.1 = k then (p.1, a) else p)) = l.map (·.1) := List.map_congr_left fun p _ => by
      show (if p.1 = k then (p.1, a) else p).1 = p.1
      split <;> rfl
    rw [e]; exact h
  · rename_i hn
    rw [List.map_append, List.nodup_append]
    refine ⟨h, by simp, fun b hb c hc => ?_⟩
    simp only [List.map_cons, List.map_nil, List.mem_singleton] at hc
    subst hc
    rintro rfl
    obtain ⟨p, hp, e⟩ := List.mem_map.mp hb
    exact hn (look_isSome.mpr ⟨p, hp, e⟩)
theorem keys_few {l : List (Nat × Addr)} (h : (l.map (·.1)).Nodup) (hk : ∀ k, (look l k).isSome = true → k < 8) : l.length ≤ 8 := by
  have := len_sub (m := List.range 8) h fun k hm => by
    obtain ⟨p, hp, e⟩ := List.mem_map.mp hm
    exact List.mem_range.mpr (hk k (look_isSome.mpr ⟨p, hp, e⟩))
  rw [List.length_map, List.length_range] at this
  exact this
theorem EnAt.few {C : Cl} {H : Hp} {N : List Net} {A : AS} {y : Ent} (h : EnAt C H A y) (o : AOk N A) : y.rs.length ≤ 8 ∧ y.ts.length ≤ 8 := by
  constructor
  · refine keys_few h.rnd fun k hk => ?_
    rw [both_some (h.held k)] at hk
    obtain ⟨b, hb⟩ := Option.isSome_iff_exists.mp hk
    exact (o.g k _ b hb).1
  · refine keys_few h.tnd fun k hk => ?_
    rw [both_some (h.told k)] at hk
    obtain ⟨b, hb⟩ := Option.isSome_iff_exists.mp hk
    exact o.t k _ b hb
section
variable {P : Program} {w : World} {K : PySem.W.Frag} {mg : Str → Option Value} {base : Heap} {C : Cl}
noncomputable def spDrop (C : Cl) : Sp := fun vs H Q _ => ∃ (r na : Addr) (x : RA) (A : AS) (n : Net), vs = [.ref r, .ref na] ∧ RAt C H r x A (fun m => m = n) ∧ H na = some (.tup (nV n)) ∧ ∀ (H' : Hp) (x' : RA), Step C H H' r x x' A No → Q .non H'
theorem scDrop : FnScope ["self", "network"] ["self", "network"] (defScope sDrop) := ⟨rfl, rfl, rfl, by decide +kernel, rfl, by decide +kernel, by decide +kernel⟩
theorem esV_drop (es : List Ent) (n : Net) : dropX (esV es) n = esV (es.filter fun y => decide (y.n ≠ n)) := by
  unfold dropX esV
  rw [List.filter_map]
  rfl
theorem esM_filter (p : Ent → Bool) : ∀ es : List Ent, (esM (es.filter p)).Sublist (esM es)
  | [] => .slnil
  | y :: es => by
    have h1 : esM (y :: es) = [y.e, y.rd, y.td] ++ esM es := rfl
    rw [List.filter_cons]
    split
    · have h2 : esM (y :: es.filter p) = [y.e, y.rd, y.td] ++ esM (es.filter p) := rfl
      rw [h1, h2]
      exact (esM_filter p es).append_left _
    · rw [h1]
      exact (esM_filter p es).trans (List.sublist_append_right _ _)
theorem RAt.popE {C : Cl} {H : Hp} {r : Addr} {x : RA} {A : AS} {y : Ent} (h : RAt C H r x A (fun m => m = y.n)) (hy : y ∈ x.es) (hr : y.rs = []) (ht : y.ts = []) :
    Step C H (upd H x.nd (dX netK.hash x.nd (dropX (esV x.es) y.n))) r x { x with es := x.es.filter fun z => decide (z.n ≠ y.n) } A No := by
  obtain ⟨a1, a2, a3, a4, a5, a6, a7, a8⟩ := h.apart
  have im : Imm C H (upd H x.nd (dX netK.hash x.nd (dropX (esV x.es) y.n))) := Imm.upd h.nets.nd (fun _ z => nomatch z) (fun _ _ z => nomatch z) (fun _ _ z => nomatch z)
  have hsub := esM_filter (fun z => decide (z.n ≠ y.n)) x.es
  have hE := h.nets.ents y hy
  refine ⟨⟨(h.base.keep im (Stay.upd (by simp [a2.symm, a4.symm]))).of rfl rfl rfl rfl rfl rfl, ?_, h.wait.keep (C := C) im (Stay.upd (by simp [a6])), ?_⟩, ?_, ?_, im⟩
  · refine ⟨by rw [esV_drop]; exact upd_same, ?_, fun z hz => ?_, ?_, fun n hk => ?_, fun n hn => ?_⟩
    · show OnX netK _ (esV (x.es.filter _))
      rw [← esV_drop]
      exact (h.nets.ndOn.drop _).keep im.tup
    · have hz' := (List.mem_filter.mp hz).1
      obtain ⟨m1, m2, m3⟩ := mem_esM hz'
      exact (h.nets.ents z hz').keep im (fun o ho => by rw [upd_ne (a7 _ m1).2.2.1]; exact ho) (fun o ho => by rw [upd_ne (a7 _ m2).2.2.1]; exact ho) (fun o ho => by rw [upd_ne (a7 _ m3).2.2.1]; exact ho)
    · exact h.nets.keys.sublist (List.filter_sublist.map _)
    · obtain ⟨z, hz, e⟩ := List.mem_map.mp (h.nets.all n hk)
      refine List.mem_map.mpr ⟨z, List.mem_filter.mpr ⟨hz, decide_eq_true fun e' => ?_⟩, e⟩
      obtain ⟨k, hk⟩ := hk
      rw [← e, e'] at hk
      rcases hk with hk | hk
      · rw [← both_some (hE.held k), hr] at hk; cases hk
      · rw [← both_some (hE.told k), ht] at hk; cases hk
    · obtain ⟨z, hz, e⟩ := List.mem_map.mp hn
      obtain ⟨hz1, hz2⟩ := List.mem_filter.mp hz
      rcases h.nets.only n (List.mem_map.mpr ⟨z, hz1, e⟩) with q | q
      · exact .inl q
      · exact absurd (e.trans q) (of_decide_eq_true hz2)
  · show (r :: x.nl :: x.nd :: x.wd :: esM (x.es.filter _)).Nodup
    exact h.sep.sublist ((((hsub.cons₂ _).cons₂ _).cons₂ _).cons₂ _)
  · intro b o hb hn
    rw [upd_ne]
    · exact hb
    · rintro rfl
      exact hn (by unfold RA.muts; simp)
  · intro b hb
    exact .inl ((((((hsub.cons₂ _).cons₂ _).cons₂ _).cons₂ _ : List.Sublist (r :: x.nl :: x.nd :: x.wd :: esM (x.es.filter _)) (r :: x.nl :: x.nd :: x.wd :: esM x.es))).subset hb)
theorem ok_drop {f fO fM : Addr} {fd fdO fdM : FuncData} (F : Fun K "drop_if_empty" "Router.drop_if_empty" sDrop f fd) (T : Txt K mg C) (mO : Meth K C.ro "entry_of" fO) (GO : FnOk P w K mg base CX0 3 fO fdO ["self", "network"] (spEntryOf C)) (bO : Binds K fdO ["self", "network"] [])
    (mM : Meth K C.en "is_empty" fM) (GM : FnOk P w K mg base CX0 1 fM fdM ["self"] (spEnEmpty C)) (bM : Binds K fdM ["self"] []) :
    FnOk P w K mg base CX0 4 f fd ["self", "network"] (spDrop C) := by
  refine F.ok scDrop (fun vs H Q E h => ?_) (fun cdv A0 outer s H vs Q E hr h => ?_)
  · obtain ⟨r, na, x, A, n, rfl, _⟩ := h
    rfl
  · obtain ⟨r, na, x, A, n, rfl, hR, hna, q⟩ := h
    obtain ⟨n1, n2, n3, n4⟩ := T.roA
    obtain ⟨dx, hobj⟩ := hR.base.obj
    refine ⟨_, pss_one (ps_if (pt_val (pe_meth0 (pe_meth (pv 0) T.ro mO GO hr bO .nil pass0 (pa_cons (pv 1) pa_nil)) T.en mM GM (hr.mono (by decide)) bM .nil pass0))
      (pss_one (ps_expr (pe_xpop2 (T := netK) (hu2_of hr) (pe_fld (pv 0) rfl) (pv 1) pe_non ⟨rfl, rfl, rfl, rfl⟩))) pss_nil), ?_⟩
    try dsimp only [cx_K]
    refine q_meth rfl hobj rfl (args1 rfl ⟨r, na, x, A, _, n, rfl, hR.base, hR.nets, hna, ?_, ?_⟩)
    · rintro y hy rfl
      have hE := hR.nets.ents y hy
      obtain ⟨de, he⟩ := hE.obj
      refine ⟨y.e, de, _, rfl, he, rfl, y.e, de, y.rd, y.td, _, _, rfl, he, hE.rd, hE.td, _, rfl, ?_⟩
      cases hr0 : ((kvs y.rs).isEmpty && (kvs y.ts).isEmpty) with
      | false =>
        refine iteF (q _ x ((Step.same Same.refl hR).weak fun m hm => ?_))
        rcases hR.nets.only m hm with z | z
        · exact .inl z
        · subst z
          left
          rw [Bool.and_eq_false_iff] at hr0
          rcases hr0 with z | z
          · cases hrs : y.rs with
            | nil => rw [hrs] at z; cases z
            | cons p l =>
              refine ⟨p.1, .inl ?_⟩
              rw [← both_some (hE.held p.1), hrs, look_cons, if_pos rfl]; rfl
          · cases hts : y.ts with
            | nil => rw [hts] at z; cases z
            | cons p l =>
              refine ⟨p.1, .inr ?_⟩
              rw [← both_some (hE.told p.1), hts, look_cons, if_pos rfl]; rfl
      | true =>
        rw [Bool.and_eq_true] at hr0
        have h1 : y.rs = [] := by cases hrs : y.rs with | nil => rfl | cons p l => rw [hrs] at hr0; cases hr0.1
        have h2 : y.ts = [] := by cases hts : y.ts with | nil => rfl | cons p l => rw [hts] at hr0; cases hr0.2
        refine iteT (q_fld rfl hobj T.ro n3 rfl ⟨x.nd, _, rfl, .inl hR.nets.nd, _, rfl, na, _, y.n, rfl, hR.nets.nd, hR.nets.ndOn, hna, fun v hv => ?_, fun hv => ?_⟩)
        · exact q _ _ (hR.popE hy h1 h2)
        · rw [esV_some hR.nets.keys hy] at hv; cases hv
    · intro hno H1 e rd td hN
      obtain ⟨de, he⟩ := hN.obj
      have hR1 := hR.same hN.same
      obtain ⟨dx1, hobj1⟩ := hR1.base.obj
      refine ⟨e, de, _, rfl, he, rfl, e, de, rd, td, [], [], rfl, he, hN.dr, hN.dt, _, rfl, iteT ?_⟩
      refine q_fld rfl hobj1 T.ro n3 rfl ⟨x.nd, _, rfl, .inl hR1.nets.nd, _, rfl, na, _, n, rfl, hR1.nets.nd, hR1.nets.ndOn, hN.same _ _ hna, fun v hv => ?_, fun hv => ?_⟩
      · rw [esV_none.mpr hno] at hv; cases hv
      · refine q _ x ((Step.same hN.same hR).weak fun m hm => ?_)
        rcases hR.nets.only m hm with z | z
        · exact .inl z
        · subst z; exact absurd hm hno
end
end R46
end
section
set_option linter.all false
set_option Elab.async false
set_option maxRecDepth 100000
set_option maxHeartbeats 2000000
namespace R46
open PySem PySem.Spec PyProof.Rows L2
open Sf46 (Net Peer Route better Told isNet look)
section
variable {P : Program} {w : World} {K : PySem.W.Frag} {mg : Str → Option Value} {base : Heap} {C : Cl}
noncomputable def spForget (C : Cl) : Sp := fun vs H Q _ => ∃ (r na : Addr) (x : RA) (A : AS) (n : Net) (k : Nat), vs = [.ref r, iv k, .ref na] ∧ RAt C H r x A (fun m => m = n) ∧ H na = some (.tup (nV n)) ∧ ∀ (H' : Hp) (x' : RA), Step C H H' r x x' (A.setG k n none) No → Q .non H'
theorem scForget : FnScope ["self", "k", "network"] ["self", "k", "network"] (defScope sForget) := ⟨rfl, rfl, rfl, by decide +kernel, rfl, by decide +kernel, by decide +kernel⟩
theorem ok_forget {f fO fD : Addr} {fd fdO fdD : FuncData} (F : Fun K "forget" "Router.forget" sForget f fd) (T : Txt K mg C) (mO : Meth K C.ro "entry_of" fO) (GO : FnOk P w K mg base CX0 3 fO fdO ["self", "network"] (spEntryOf C)) (bO : Binds K fdO ["self", "network"] [])
    (mD : Meth K C.ro "drop_if_empty" fD) (GD : FnOk P w K mg base CX0 4 fD fdD ["self", "network"] (spDrop C)) (bD : Binds K fdD ["self", "network"] []) :
    FnOk P w K mg base CX0 5 f fd ["self", "k", "network"] (spForget C) := by
  refine F.ok scForget (fun vs H Q E h => ?_) (fun cdv A0 outer s H vs Q E hr h => ?_)
  · obtain ⟨r, na, x, A, n, k, rfl, _⟩ := h
    rfl
  · obtain ⟨r, na, x, A, n, k, rfl, hR, hna, q⟩ := h
    obtain ⟨n1, n2, n3, n4⟩ := T.roA
    obtain ⟨e1, e2⟩ := T.enA
    obtain ⟨dx, hobj⟩ := hR.base.obj
    refine ⟨_, pss_cons (ps_expr (pe_dpop2 (pe_fld (pe_meth (pv 0) T.ro mO GO (hr.mono (by decide)) bO .nil pass0 (pa_cons (pv 2) pa_nil)) rfl) (pv 1) pe_non ⟨rfl, rfl, rfl, rfl⟩))
      (pss_one (ps_expr (pe_meth (pv 0) T.ro mD GD hr bD .nil pass0 (pa_cons (pv 2) pa_nil)))), ?_⟩
    try dsimp only [cx_K]
    have last : ∀ (H1 : Hp) (x1 : RA), Step C H H1 r x x1 (A.setG k n none) (fun m => m = n) → tDrop (tMeth C.ro "drop_if_empty" (spDrop C) [] E0 (tVar 0) (tCons (tVar 2) tNil)) { nx := fun _ H' => Q .non H', rt := Q } (start ["self", "k", "network"] [V.ref r, iv k, V.ref na]) H1 := by
      intro H1 x1 S
      obtain ⟨dx1, hobj1⟩ := S.rat.base.obj
      exact q_meth rfl hobj1 rfl (args1 rfl ⟨r, na, x1, _, n, rfl, S.rat, S.imm.tup _ _ hna, fun H2 x2 S2 => q H2 x2 (S.trans S2)⟩)
    refine q_meth rfl hobj rfl (args1 rfl ⟨r, na, x, A, _, n, rfl, hR.base, hR.nets, hna, ?_, ?_⟩)
    · rintro y hy rfl
      have hE := hR.nets.ents y hy
      obtain ⟨de, he⟩ := hE.obj
      refine ⟨y.e, C.en, de, _, _, rfl, he, T.en, e1, rfl, y.rd, rfl, .inl ⟨_, .inl hE.rd⟩, _, rfl, kvs y.rs, Sum.inl (k : Int), hE.rd, rfl, fun v hv => ?_, fun hv => ?_⟩
      · rw [kvs_drop]
        obtain ⟨x1, S, _⟩ := hR.setRs hy (rs' := dropR y.rs k) (k := k) (v := none) (drop_nodup hE.rnd k) (fun k' => by
          rw [look_drop, look_drop, if_pos rfl]) (by rw [look_drop, if_pos rfl]; exact True.intro) (fun n z => z)
        exact last _ x1 S
      · rw [kvs_val] at hv
        have hl : look y.rs k = none := Option.map_eq_none_iff.mp hv
        have hg : A.g k y.n = none := by
          have := both_some (hE.held k)
          rw [hl] at this
          exact Option.isNone_iff_eq_none.mp (by cases hh : A.g k y.n with | none => rfl | some b => rw [hh] at this; cases this)
        refine last _ x ?_
        rw [AS.setG_id hg]
        exact (Step.same Same.refl hR).weak fun m hm => hR.nets.only m hm
    · intro hno H1 e rd td hN
      obtain ⟨de, he⟩ := hN.obj
      refine ⟨e, C.en, de, _, _, rfl, he, T.en, e1, rfl, rd, rfl, .inl ⟨_, .inl hN.dr⟩, _, rfl, [], Sum.inl (k : Int), hN.dr, rfl, fun v hv => (by cases hv), fun hv => ?_⟩
      have hg : A.g k n = none := by
        cases hh : A.g k n with
        | none => rfl
        | some b => exact absurd (hR.nets.all n ⟨k, .inl (by rw [hh]; rfl)⟩) hno
      refine last _ x ?_
      rw [AS.setG_id hg]
      exact (Step.same hN.same hR).weak fun m hm => hR.nets.only m hm
noncomputable def spHold (C : Cl) : Sp := fun vs H Q _ => ∃ (r na ra : Addr) (x : RA) (N : List Net) (A : AS) (n : Net) (k : Nat) (b : RtX), vs = [.ref r, iv k, .ref na, .ref ra] ∧ RAt C H r x A No ∧ AOk N A ∧ H na = some (.tup (nV n)) ∧ RtAt C H ra b ∧
  ∀ (H' : Hp) (x' : RA), Step C H H' r x x' (A.setG k n (some b)) No → Q .non H'
theorem scHold : FnScope ["self", "k", "network", "route", "entry"] ["self", "k", "network", "route"] (defScope sHold) := ⟨rfl, rfl, rfl, by decide +kernel, rfl, by decide +kernel, by decide +kernel⟩
theorem putX_same {es : List Ent} (hn : (es.map (·.n)).Nodup) {y : Ent} (hy : y ∈ es) (b : Addr) : putX (esV es) y.n b (.ref y.e) = esV es := by
  unfold putX
  rw [esV_some hn hy, if_pos (show (some (V.ref y.e)).isSome = true from rfl)]
  have : (esV es).map (fun p => if p.1 = y.n then (p.1, p.2.1, V.ref y.e) else p) = (esV es).map id := by
    refine List.map_congr_left fun p hp => ?_
    obtain ⟨z, hz, rfl⟩ := List.mem_map.mp hp
    show (if z.n = y.n then (z.n, z.ka, V.ref y.e) else _) = _
    split
    · rename_i e
      have h1 := esV_some hn hz
      rw [e, esV_some hn hy] at h1
      injection h1 with h1
      rw [h1]; rfl
    · rfl
  rw [this, List.map_id]
theorem putX_new {es : List Ent} {n : Net} (h : n ∉ es.map (·.n)) (b : Addr) (y : Ent) (e1 : y.n = n) (e2 : y.ka = b) : putX (esV es) n b (.ref y.e) = esV (es ++ [y]) := by
  unfold putX
  rw [esV_none.mpr h, if_neg (by simp)]
  unfold esV
  rw [List.map_append, ← e1, ← e2]
  rfl
theorem upd_id {H : Hp} {a : Addr} {o : HO} (h : H a = some o) : upd H a o = H := by
  funext b
  by_cases e : b = a
  · rw [e, upd_same, h]
  · rw [upd_ne e]
theorem RAt.addE {H H1 : Hp} {r na ra e rd td : Addr} {x : RA} {A : AS} {n : Net} {k : Nat} {b : RtX} (h : RAt C H r x A No) (hno : n ∉ x.es.map (·.n)) (hN : NewEnt C H H1 e rd td) (hna : H na = some (.tup (nV n))) (hb : RtAt C H ra b) :
    Step C H (upd (upd H1 rd (.dK (kvs [(k, ra)]))) x.nd (dX netK.hash x.nd (esV (x.es ++ [⟨n, na, e, rd, td, [(k, ra)], []⟩])))) r x { x with es := x.es ++ [⟨n, na, e, rd, td, [(k, ra)], []⟩] } (A.setG k n (some b)) No := by
  obtain ⟨a1, a2, a3, a4, a5, a6, a7, a8⟩ := h.apart
  obtain ⟨de, he⟩ := hN.obj
  have hR1 := h.same hN.same
  have fresh : ∀ c ∈ x.muts r, c ≠ e ∧ c ≠ rd ∧ c ≠ td := by
    have tr : ∀ c ∈ x.muts r, ∃ o, H c = some o := by
      intro c hc
      unfold RA.muts at hc
      simp only [List.mem_cons] at hc
      rcases hc with rfl | rfl | rfl | rfl | hc
      · obtain ⟨dx, z⟩ := h.base.obj; exact ⟨_, z⟩
      · exact ⟨_, h.base.nl⟩
      · exact ⟨_, h.nets.nd⟩
      · exact ⟨_, h.wait.wd⟩
      · obtain ⟨y, hy, hc⟩ := List.mem_flatMap.mp hc
        have hE := h.nets.ents y hy
        simp only [List.mem_cons, List.not_mem_nil, or_false] at hc
        rcases hc with rfl | rfl | rfl
        · obtain ⟨dx, z⟩ := hE.obj; exact ⟨_, z⟩
        · exact ⟨_, hE.rd⟩
        · exact ⟨_, hE.td⟩
    intro c hc
    obtain ⟨o, ho⟩ := tr c hc
    exact ⟨ne_of_none ho hN.fe, ne_of_none ho hN.fr, ne_of_none ho hN.ft⟩
  have er : e ≠ rd := ne_of he hN.dr (fun z => nomatch z)
  have et : e ≠ td := ne_of he hN.dt (fun z => nomatch z)
  have ndm : x.nd ∈ x.muts r := by unfold RA.muts; simp
  obtain ⟨f1, f2, f3⟩ := fresh _ ndm
  have hnd1 : upd H1 rd (.dK (kvs [(k, ra)])) x.nd = some (dX netK.hash x.nd (esV x.es)) := by rw [upd_ne f2]; exact hR1.nets.nd
  have im1 : Imm C H1 (upd H1 rd (.dK (kvs [(k, ra)]))) := Imm.upd hN.dr (fun _ z => nomatch z) (fun _ _ z => nomatch z) (fun _ _ z => nomatch z)
  have im2 : Imm C (upd H1 rd (.dK (kvs [(k, ra)]))) (upd (upd H1 rd (.dK (kvs [(k, ra)]))) x.nd (dX netK.hash x.nd (esV (x.es ++ [⟨n, na, e, rd, td, [(k, ra)], []⟩])))) := Imm.upd hnd1 (fun _ z => nomatch z) (fun _ _ z => nomatch z) (fun _ _ z => nomatch z)
  have im : Imm C H (upd (upd H1 rd (.dK (kvs [(k, ra)]))) x.nd (dX netK.hash x.nd (esV (x.es ++ [⟨n, na, e, rd, td, [(k, ra)], []⟩])))) := (Imm.same hN.same).trans (im1.trans im2)
  have get : ∀ c o, H c = some o → c ≠ x.nd → upd (upd H1 rd (.dK (kvs [(k, ra)]))) x.nd (dX netK.hash x.nd (esV (x.es ++ [⟨n, na, e, rd, td, [(k, ra)], []⟩]))) c = some o := fun c o hc hne => by
    rw [upd_ne hne, upd_ne (ne_of_none hc hN.fr)]; exact hN.same _ _ hc
  have hM : esM (x.es ++ [⟨n, na, e, rd, td, [(k, ra)], []⟩]) = esM x.es ++ [e, rd, td] := by
    unfold esM; rw [List.flatMap_append]; rfl
  have none_g : ∀ k', A.g k' n = none := fun k' => by
    cases hh : A.g k' n with
    | none => rfl
    | some b => exact absurd (h.nets.all n ⟨k', .inl (by rw [hh]; rfl)⟩) hno
  have none_t : ∀ k', A.t k' n = none := fun k' => by
    cases hh : A.t k' n with
    | none => rfl
    | some b => exact absurd (h.nets.all n ⟨k', .inr (by rw [hh]; rfl)⟩) hno
  refine ⟨⟨(h.base.keep im (fun c hc o ho => get c o ho (by simp only [List.mem_cons, List.not_mem_nil, or_false] at hc; rcases hc with rfl | rfl; exact a2; exact a4))).of rfl rfl rfl rfl rfl rfl, ?_, ?_, ?_⟩, ?_, ?_, im⟩
  · refine ⟨upd_same, ?_, fun y hy => ?_, ?_, fun m hm => ?_, fun m hm => ?_⟩
    · intro p hp
      have hp' : p ∈ esV x.es ++ [(n, na, V.ref e)] := by
        have : esV (x.es ++ [⟨n, na, e, rd, td, [(k, ra)], []⟩]) = esV x.es ++ [(n, na, V.ref e)] := by unfold esV; rw [List.map_append]; rfl
        rw [← this]; exact hp
      rcases List.mem_append.mp hp' with hp' | hp'
      · exact netK.keep (h.nets.ndOn p hp') im.tup
      · simp only [List.mem_singleton] at hp'
        subst hp'
        exact im.tup _ _ hna
    · rcases List.mem_append.mp hy with hy | hy
      · obtain ⟨m1, m2, m3⟩ := mem_esM hy
        have hy' := (h.nets.ents y hy).keep im (fun o ho => get _ o ho (a7 _ m1).2.2.1) (fun o ho => get _ o ho (a7 _ m2).2.2.1) (fun o ho => get _ o ho (a7 _ m3).2.2.1)
        refine ⟨hy'.obj, hy'.rd, hy'.td, hy'.rnd, hy'.tnd, fun k' => ?_, hy'.told⟩
        show Both _ _ (if k' = k ∧ y.n = n then some b else A.g k' y.n)
        rw [if_neg (fun z => hno (by rw [← z.2]; exact List.mem_map.mpr ⟨y, hy, rfl⟩))]
        exact hy'.held k'
      · simp only [List.mem_singleton] at hy
        subst hy
        refine ⟨⟨de, ?_⟩, ?_, ?_, by simp, by simp, fun k' => ?_, fun k' => ?_⟩
        · show upd _ x.nd _ e = _
          rw [upd_ne (fun z => f1 z.symm), upd_ne er]; exact he
        · show upd _ x.nd _ rd = _
          rw [upd_ne (fun z => f2 z.symm)]; exact upd_same
        · show upd _ x.nd _ td = _
          rw [upd_ne (fun z => f3 z.symm), upd_ne (fun z => hN.rt z.symm)]; exact hN.dt
        · show Both _ (look [(k, ra)] k') (if k' = k ∧ n = n then some b else A.g k' n)
          rw [look_cons]
          by_cases e' : k' = k
          · rw [if_pos e'.symm, if_pos ⟨e', rfl⟩]; exact hb.imm im
          · rw [if_neg (fun z => e' z.symm), if_neg (fun z => e' z.1), none_g]; exact True.intro
        · show Both _ none (A.t k' n)
          rw [none_t]; exact True.intro
    · rw [List.map_append, List.nodup_append]
      refine ⟨h.nets.keys, by simp, fun a ha c hc => ?_⟩
      simp only [List.map_cons, List.map_nil, List.mem_singleton] at hc
      subst hc
      rintro rfl
      exact hno ha
    · rw [List.map_append]
      by_cases e' : m = n
      · subst e'; simp
      · refine List.mem_append_left _ (h.nets.all m ?_)
        obtain ⟨k', hk'⟩ := hm
        refine ⟨k', ?_⟩
        have : (A.setG k n (some b)).g k' m = A.g k' m := if_neg (fun z => e' z.2)
        rw [this] at hk'
        exact hk'
    · left
      rw [List.map_append] at hm
      rcases List.mem_append.mp hm with hm | hm
      · rcases h.nets.only m hm with ⟨k', hk'⟩ | z
        · refine ⟨k', ?_⟩
          have hne : m ≠ n := fun z => hno (by rw [← z]; exact hm)
          have : (A.setG k n (some b)).g k' m = A.g k' m := if_neg (fun z => hne z.2)
          rw [this]; exact hk'
        · exact z.elim
      · simp only [List.map_cons, List.map_nil, List.mem_singleton] at hm
        subst hm
        refine ⟨k, .inl ?_⟩
        show (if k = k ∧ m = m then some b else A.g k m).isSome = true
        rw [if_pos ⟨rfl, rfl⟩]; rfl
  · exact h.wait.keep (C := C) im (fun c hc o ho => get c o ho (by simp only [List.mem_singleton] at hc; subst hc; exact a6.symm))
  · show (r :: x.nl :: x.nd :: x.wd :: esM (x.es ++ _)).Nodup
    rw [hM]
    have e1 : (r :: x.nl :: x.nd :: x.wd :: (esM x.es ++ [e, rd, td])) = x.muts r ++ [e, rd, td] := rfl
    rw [e1, List.nodup_append]
    refine ⟨h.sep, by simp [er, et, hN.rt], fun c hc d hd => ?_⟩
    obtain ⟨g1, g2, g3⟩ := fresh c hc
    simp only [List.mem_cons, List.not_mem_nil, or_false] at hd
    rcases hd with rfl | rfl | rfl
    · exact g1
    · exact g2
    · exact g3
  · intro c o hc hn
    exact get c o hc fun z => hn (by rw [z]; exact ndm)
  · intro c hc
    have hc' : c ∈ x.muts r ++ [e, rd, td] := by
      have : RA.muts r { x with es := x.es ++ [⟨n, na, e, rd, td, [(k, ra)], []⟩] } = x.muts r ++ [e, rd, td] := by
        show (r :: x.nl :: x.nd :: x.wd :: esM (x.es ++ _)) = _
        rw [hM]; rfl
      rw [← this]; exact hc
    rcases List.mem_append.mp hc' with hc' | hc'
    · exact .inl hc'
    · right
      simp only [List.mem_cons, List.not_mem_nil, or_false] at hc'
      rcases hc' with rfl | rfl | rfl
      · exact hN.fe
      · exact hN.fr
      · exact hN.ft
theorem small_line {n : Nat} (h : n ≤ 100000) : n < sizeLine := by rw [sizeLine_eq]; omega
theorem ok_hold {f fO : Addr} {fd fdO : FuncData} (F : Fun K "hold" "Router.hold" sHold f fd) (T : Txt K mg C) (mO : Meth K C.ro "entry_of" fO) (GO : FnOk P w K mg base CX0 3 fO fdO ["self", "network"] (spEntryOf C)) (bO : Binds K fdO ["self", "network"] []) :
    FnOk P w K mg base CX0 4 f fd ["self", "k", "network", "route"] (spHold C) := by
  refine F.ok scHold (fun vs H Q E h => ?_) (fun cdv A0 outer s H vs Q E hr h => ?_)
  · obtain ⟨r, na, ra, x, N, A, n, k, b, rfl, _⟩ := h
    rfl
  · obtain ⟨r, na, ra, x, N, A, n, k, b, rfl, hR, hA, hna, hb, q⟩ := h
    obtain ⟨n1, n2, n3, n4⟩ := T.roA
    obtain ⟨e1, e2⟩ := T.enA
    obtain ⟨dx, hobj⟩ := hR.base.obj
    have hfew := (hR.few hA (fun n z => z.elim)).1
    have hlen : (esV x.es).length < sizeLine := small_line (by unfold esV; rw [List.length_map]; omega)
    refine ⟨_, pss_cons (ps_set (i := 4) scHold.nd rfl (Or.inl rfl) (pe_meth (pv 0) T.ro mO GO hr bO .nil pass0 (pa_cons (pv 2) pa_nil)))
      (pss_cons (ps_dput (hu_of hr) (pe_fld (pv 4) rfl) (pv 1) (pv 3) rfl) (pss_one (ps_xput (T := netK) (hu2_of hr) (pe_fld (pv 0) rfl) (pv 2) (pv 4) rfl))), ?_⟩
    try dsimp only [cx_K]
    refine q_meth rfl hobj rfl (args1 rfl ⟨r, na, x, A, _, n, rfl, hR.base, hR.nets, hna, ?_, ?_⟩)
    · rintro y hy rfl
      have hE := hR.nets.ents y hy
      obtain ⟨de, he⟩ := hE.obj
      have hrl : (kvs y.rs).length < sizeLine := small_line (by rw [kvs_len]; have := (hE.few hA).1; omega)
      obtain ⟨x1, S, ⟨y1, hy1, f1, f2, f3, f4⟩, g1, g2, g3, g4, g5, g6, g7⟩ := hR.setRs hy (rs' := putR y.rs k ra) (k := k) (v := some b) (putR_nodup hE.rnd k ra) (fun k' => by
          rw [look_putR, look_putR, if_pos rfl]) (by rw [look_putR, if_pos rfl]; exact hb) (fun n z => z.elim)
      refine ⟨_, rfl, q_fld rfl he T.en e1 rfl ⟨_, rfl, y.rd, _, rfl, DPut.k (k := Sum.inl (k : Int)) hE.rd hrl, ?_⟩⟩
      rw [kvs_put]
      obtain ⟨dx1, hobj1⟩ := S.rat.base.obj
      refine ⟨_, rfl, q_fld rfl hobj1 T.ro n3 rfl ⟨_, rfl, x1.nd, na, _, y.n, rfl, rfl, S.rat.nets.nd, S.rat.nets.ndOn, S.imm.tup _ _ hna, (by rw [g7]; exact hlen), ?_⟩⟩
      have e : putX (esV x1.es) y.n na (.ref y.e) = esV x1.es := by
        have := putX_same S.rat.nets.keys hy1 na
        rw [f1, f2] at this
        exact this
      rw [e, upd_id S.rat.nets.nd]
      refine q _ x1 (S.weak fun m hm => ?_)
      rcases S.rat.nets.only m hm with z | z
      · exact .inl z
      · left
        refine ⟨k, .inl ?_⟩
        show (if k = k ∧ m = y.n then some b else A.g k m).isSome = true
        rw [if_pos ⟨rfl, z⟩]; rfl
    · intro hno H1 e rd td hN
      obtain ⟨de, he⟩ := hN.obj
      have hR1 := hR.same hN.same
      obtain ⟨dx1, hobj1⟩ := hR1.base.obj
      have S := hR.addE (k := k) hno hN hna hb
      refine ⟨_, rfl, q_fld rfl he T.en e1 rfl ⟨_, rfl, rd, _, rfl, DPut.k (k := Sum.inl (k : Int)) hN.dr (by show 0 < sizeLine; decide), ?_⟩⟩
      have ne_r : r ≠ rd := ne_of_none hobj hN.fr
      have ne_d : x.nd ≠ rd := ne_of_none hR.nets.nd hN.fr
      have keepT : ∀ b ys, H1 b = some (.tup ys) → upd H1 rd (.dK (putK [] (Sum.inl (k : Int)) (V.ref ra))) b = some (.tup ys) := fun b ys hb' => by
        rw [upd_ne (ne_of hb' hN.dr (fun z => nomatch z))]; exact hb'
      refine ⟨_, rfl, q_fld rfl (by rw [upd_ne ne_r]; exact hobj1) T.ro n3 rfl ⟨_, rfl, x.nd, na, _, n, rfl, rfl, (by rw [upd_ne ne_d]; exact hR1.nets.nd), hR1.nets.ndOn.keep keepT, keepT _ _ (hN.same _ _ hna), hlen, ?_⟩⟩
      have ee : putX (esV x.es) n na (.ref e) = esV (x.es ++ [⟨n, na, e, rd, td, [(k, ra)], []⟩]) := putX_new hno na ⟨n, na, e, rd, td, [(k, ra)], []⟩ rfl rfl
      rw [ee]
      exact q _ _ S
end
end R46
end
section
set_option linter.all false
set_option Elab.async false
set_option maxRecDepth 100000
set_option maxHeartbeats 2000000
namespace R46
open PySem PySem.Spec PyProof.Rows L2
open Sf46 (Net Peer Route better Told isNet look)
noncomputable abbrev sWithRt : Stmt := sRo 12
noncomputable abbrev sForgetPairs : Stmt := sRo 18
noncomputable abbrev sWaitIf : Stmt := sRo 22
noncomputable def pdI (l : List Nat) : List PyData := l.map fun (n : Nat) => PyData.int (n : Int)
noncomputable def pd : Told → PyData
  | none => .none
  | some t => .tuple [.tuple (pdI t.1), .int (t.2 : Int)]
theorem pdI_eqv : ∀ a b : List Nat, PyData.eqvAll (pdI a) (pdI b) = decide (a = b)
  | [], [] => rfl
  | [], _ :: _ => rfl
  | _ :: _, [] => rfl
  | x :: a, y :: b => by
    have ih := pdI_eqv a b
    show (PyData.eqv (.int (x : Int)) (.int (y : Int)) && PyData.eqvAll (pdI a) (pdI b)) = _
    rw [ih]
    have e : PyData.eqv (.int (x : Int)) (.int (y : Int)) = decide (x = y) := by
      show ((x : Int) == (y : Int)) = _
      by_cases h : x = y
      · subst h; simp
      · rw [decide_eq_false h]
        exact beq_eq_false_iff_ne.mpr fun z => h (Int.ofNat.inj z)
    rw [e]
    by_cases h1 : x = y
    · by_cases h2 : a = b
      · simp [h1, h2]
      · simp [h1, h2]
    · simp [h1]
theorem pd_eqv : ∀ a b : Told, PyData.eqv (pd a) (pd b) = decide (a = b)
  | none, none => rfl
  | none, some _ => rfl
  | some _, none => rfl
  | some a, some b => by
    show (PyData.eqvAll (pdI a.1) (pdI b.1) && (PyData.eqv (.int (a.2 : Int)) (.int (b.2 : Int)) && true)) = _
    rw [pdI_eqv, Bool.and_true]
    have e : PyData.eqv (.int (a.2 : Int)) (.int (b.2 : Int)) = decide (a.2 = b.2) := by
      show ((a.2 : Int) == (b.2 : Int)) = _
      by_cases h : a.2 = b.2
      · rw [h]; simp
      · rw [decide_eq_false h]
        exact beq_eq_false_iff_ne.mpr fun z => h (Int.ofNat.inj z)
    rw [e]
    obtain ⟨a1, a2⟩ := a
    obtain ⟨b1, b2⟩ := b
    by_cases h1 : a1 = b1
    · by_cases h2 : a2 = b2
      · simp [h1, h2]
      · simp [h1, h2]
    · simp [h1]
theorem pdI_lay : ∀ l : List Nat, PyData.canLayAll0 (pdI l) = true ∧ PyData.depthAll (pdI l) = 0
  | [] => ⟨by simp [pdI, PyData.canLayAll0], by simp [pdI, PyData.depthAll]⟩
  | x :: l => by
    obtain ⟨h1, h2⟩ := pdI_lay l
    constructor
    · show (PyData.canLay0 (.int (x : Int)) && PyData.canLayAll0 (pdI l)) = true
      rw [h1]; rfl
    · have e : PyData.depthAll (pdI (x :: l)) = max (PyData.depth (.int (x : Int))) (PyData.depthAll (pdI l)) := by simp [pdI, PyData.depthAll]
      rw [e, h2]; simp [PyData.depth]
theorem pd_shaped : ∀ t : Told, SeqAt.shaped (pd t) = true
  | none => rfl
  | some t => by
    obtain ⟨h1, h2⟩ := pdI_lay t.1
    unfold SeqAt.shaped
    rw [Bool.and_eq_true]
    constructor
    · show (PyData.canLayAll0 (pdI t.1) && (PyData.canLay0 (.int (t.2 : Int)) && true)) = true
      rw [h1]; rfl
    · refine decide_eq_true ?_
      have e : PyData.depth (pd (some t)) = max (PyData.depthAll (pdI t.1) + 1) (max (PyData.depth (.int (t.2 : Int))) 0) + 1 := by simp [pd, PyData.depth, PyData.depthAll]
      rw [e]
      rw [h2]
      have : PyData.depth (.int (t.2 : Int)) = 0 := by simp [PyData.depth]
      rw [this]
      decide
theorem dpI {K : PySem.W.Frag} {H : Hp} : ∀ l : List Nat, DpAll K H (ivs l) (pdI l)
  | [] => .nil
  | x :: l => .cons (.int _) (dpI l)
theorem DueIs.dp {K : PySem.W.Frag} {H : Hp} {v : V} {t : Told} (h : DueIs H v t) : Dp K H v (pd t) := by
  cases t with
  | none => cases (show v = .non from h); exact .non
  | some t =>
    obtain ⟨a, rfl, pa, h1, h2⟩ := h
    exact .tup (SqT.of h1) (.cons (.tup (SqT.of h2) (dpI _)) (.cons (.int _) .nil))
theorem wsV_val (ws : List ((Nat × Net) × Addr)) (p : Nat × Net) : (valX (wsV ws) p).isSome = decide (p ∈ ws.map (·.1)) := by
  induction ws with
  | nil => rfl
  | cons w ws ih =>
    unfold valX wsV at ih ⊢
    rw [List.map_cons, List.find?_cons]
    by_cases h : w.1 = p
    · simp [h]
    · have h' : ¬ p = w.1 := fun z => h z.symm
      simp only [decide_eq_false h]
      rw [ih]
      simp [h']
theorem wsV_drop (ws : List ((Nat × Net) × Addr)) (p : Nat × Net) : dropX (wsV ws) p = wsV (ws.filter fun w => decide (w.1 ≠ p)) := by
  unfold dropX wsV
  rw [List.filter_map]
  rfl
theorem ws_filter (ws : List ((Nat × Net) × Addr)) (q : Nat × Net → Bool) : (ws.filter fun w => q w.1).map (·.1) = (ws.map (·.1)).filter q := by
  rw [List.filter_map]; rfl
noncomputable def rowIf (b : Bool) (row : List (Nat × Net)) (p : Nat × Net) : List (Nat × Net) := if b = true then row.filter (fun x => decide (x ≠ p)) else if p ∈ row then row else row ++ [p]
theorem rowIf_nodup {b : Bool} {row : List (Nat × Net)} {p : Nat × Net} (h : row.Nodup) : (rowIf b row p).Nodup := by
  unfold rowIf
  split
  · exact h.filter _
  · split
    · exact h
    · rename_i hx
      rw [List.nodup_append]
      refine ⟨h, by simp, fun a ha b hb e => ?_⟩
      simp only [List.mem_singleton] at hb
      subst hb; subst e; exact hx ha
noncomputable def AS.setRow (A : AS) (row : List (Nat × Net)) : AS := { A with row := row }
theorem NetsAt.of {C : Cl} {H : Hp} {nd : Addr} {es : List Ent} {A A' : AS} {X : Net → Prop} (h : NetsAt C H nd es A X) (e1 : A'.g = A.g) (e2 : A'.t = A.t) : NetsAt C H nd es A' X := by
  have hk : ∀ n, A'.known n ↔ A.known n := fun n => by unfold AS.known; rw [e1, e2]
  exact ⟨h.nd, h.ndOn, fun y hy => let z := h.ents y hy; ⟨z.obj, z.rd, z.td, z.rnd, z.tnd, by rw [e1]; exact z.held, by rw [e2]; exact z.told⟩, h.keys, fun n hn => h.all n ((hk n).mp hn), fun n hn => (h.only n hn).imp (hk n).mpr id⟩
theorem RAt.setW {C : Cl} {H : Hp} {r : Addr} {x : RA} {A : AS} {X : Net → Prop} (h : RAt C H r x A X) {ws' : List ((Nat × Net) × Addr)} {row' : List (Nat × Net)} (hon : OnX pairK H (wsV ws')) (he : ws'.map (·.1) = row') (hn : row'.Nodup) :
    Step C H (upd H x.wd (dX pairK.hash x.wd (wsV ws'))) r x { x with ws := ws' } (A.setRow row') X := by
  obtain ⟨a1, a2, a3, a4, a5, a6, a7, a8⟩ := h.apart
  have im : Imm C H (upd H x.wd (dX pairK.hash x.wd (wsV ws'))) := Imm.upd h.wait.wd (fun _ z => nomatch z) (fun _ _ z => nomatch z) (fun _ _ z => nomatch z)
  refine ⟨⟨(h.base.keep im (Stay.upd (by simp [a3.symm, a5.symm]))).of rfl rfl rfl rfl rfl rfl, (h.nets.keep im (Stay.upd ?_)).of rfl rfl, ⟨upd_same, hon.keep im.tup, he, hn⟩, h.sep⟩, ?_, fun b hb => .inl hb, im⟩
  · simp only [List.mem_cons, not_or]
    exact ⟨a6.symm, fun z => (a7 _ z).2.2.2 rfl⟩
  · intro b o hb hn
    rw [upd_ne]
    · exact hb
    · rintro rfl
      exact hn (by unfold RA.muts; simp)
section
variable {P : Program} {w : World} {K : PySem.W.Frag} {mg : Str → Option Value} {base : Heap} {C : Cl}
noncomputable def spWaitIf (C : Cl) : Sp := fun vs H Q _ => ∃ (r pa : Addr) (x : RA) (N : List Net) (A : AS) (X : Net → Prop) (p : Nat × Net) (dv tv : V) (d t : Told), vs = [.ref r, .ref pa, dv, tv] ∧ RAt C H r x A X ∧ AOk N A ∧ (∀ n, X n → n ∈ N) ∧ pairK.on H p pa ∧ DueIs H dv d ∧ DueIs H tv t ∧
  ∀ (H' : Hp) (x' : RA), Step C H H' r x x' (A.setRow (rowIf (decide (d = t)) A.row p)) X → x'.nl = x.nl → x'.nbs = x.nbs → x'.es = x.es → Q .non H'
theorem scWaitIf : FnScope ["self", "pair", "due", "told"] ["self", "pair", "due", "told"] (defScope sWaitIf) := ⟨rfl, rfl, rfl, by decide +kernel, rfl, by decide +kernel, by decide +kernel⟩
theorem ok_waitIf {f : Addr} {fd : FuncData} (F : Fun K "wait_if_due" "Router.wait_if_due" sWaitIf f fd) (T : Txt K mg C) : FnOk P w K mg base CX0 1 f fd ["self", "pair", "due", "told"] (spWaitIf C) := by
  refine F.ok scWaitIf (fun vs H Q E h => ?_) (fun cdv A0 outer s H vs Q E hr h => ?_)
  · obtain ⟨r, pa, x, N, A, X, p, dv, tv, d, t, rfl, _⟩ := h
    rfl
  · obtain ⟨r, pa, x, N, A, X, p, dv, tv, d, t, rfl, hR, hA, hX, hp, hd, ht, q⟩ := h
    obtain ⟨n1, n2, n3, n4⟩ := T.roA
    obtain ⟨dx, hobj⟩ := hR.base.obj
    have hfew := (hR.few hA hX).2
    have hlen : (wsV x.ws).length < sizeLine := small_line (by unfold wsV; rw [List.length_map]; omega)
    refine ⟨_, pss_one (ps_if (pt_cmpR (op_eqD hr.units) (pv 2) (pv 3) (nomark _)) (pss_one (ps_expr (pe_xpop2 (T := pairK) (hu2_of hr) (pe_fld (pv 0) rfl) (pv 1) pe_non ⟨rfl, rfl, rfl, rfl⟩)))
      (pss_one (ps_xput (T := pairK) (hu2_of hr) (pe_fld (pv 0) rfl) (pv 1) pe_bl rfl))), ?_⟩
    try dsimp only [cx_K]
    refine ⟨_, rfl, _, rfl, _, _, hd.dp, ht.dp, pd_shaped _, pd_shaped _, _, rfl, ?_⟩
    rw [pd_eqv]
    have hv := wsV_val x.ws p
    rw [hR.wait.eq] at hv
    unfold rowIf at q
    by_cases e : d = t
    · rw [decide_eq_true e]
      rw [decide_eq_true e, if_pos rfl] at q
      refine iteT (q_fld rfl hobj T.ro n4 rfl ⟨x.wd, _, rfl, .inl hR.wait.wd, _, rfl, pa, _, p, rfl, hR.wait.wd, hR.wait.wdOn, hp, fun v hv' => ?_, fun hv' => ?_⟩)
      · rw [wsV_drop]
        refine q _ _ (hR.setW ?_ (by rw [ws_filter _ (fun w => decide (w ≠ p)), hR.wait.eq]) (hR.wait.nd.filter _)) rfl rfl rfl
        rw [← wsV_drop]; exact hR.wait.wdOn.drop _
      · rw [hv'] at hv
        have hno : p ∉ A.row := fun z => by rw [decide_eq_true z] at hv; cases hv
        have er : A.row.filter (fun x => decide (x ≠ p)) = A.row := List.filter_eq_self.mpr fun y hy => decide_eq_true fun z => hno (by rw [← z]; exact hy)
        rw [er] at q
        exact q _ x (Step.same Same.refl hR) rfl rfl rfl
    · rw [decide_eq_false e]
      rw [decide_eq_false e, if_neg Bool.false_ne_true] at q
      refine iteF (q_fld rfl hobj T.ro n4 rfl ⟨_, rfl, x.wd, pa, _, p, rfl, rfl, hR.wait.wd, hR.wait.wdOn, hp, hlen, ?_⟩)
      by_cases hin : p ∈ A.row
      · rw [decide_eq_true hin] at hv
        rw [if_pos hin] at q
        have ee : putX (wsV x.ws) p pa (.bl true) = wsV x.ws := by
          unfold putX
          rw [if_pos hv]
          have : (wsV x.ws).map (fun q => if q.1 = p then (q.1, q.2.1, V.bl true) else q) = (wsV x.ws).map id := List.map_congr_left fun q hq => by
            obtain ⟨z, hz, rfl⟩ := List.mem_map.mp hq
            show (if z.1 = p then (z.1, z.2, V.bl true) else _) = _
            split <;> rfl
          rw [this, List.map_id]
        rw [ee, upd_id hR.wait.wd]
        exact q _ x (Step.same Same.refl hR) rfl rfl rfl
      · rw [decide_eq_false hin] at hv
        rw [if_neg hin] at q
        have ee : putX (wsV x.ws) p pa (.bl true) = wsV (x.ws ++ [(p, pa)]) := by
          unfold putX
          rw [if_neg (by rw [hv]; exact Bool.false_ne_true)]
          unfold wsV
          rw [List.map_append]; rfl
        rw [ee]
        refine q _ _ (hR.setW ?_ (by rw [List.map_append, hR.wait.eq]; rfl) ?_) rfl rfl rfl
        · rw [← ee]; exact hR.wait.wdOn.put hp _
        · have := rowIf_nodup (b := false) (p := p) hR.wait.nd
          unfold rowIf at this
          rw [if_neg Bool.false_ne_true, if_neg hin] at this
          exact this
end
end R46
end
section
set_option linter.all false
set_option Elab.async false
set_option maxRecDepth 100000
set_option maxHeartbeats 2000000
namespace R46
open PySem PySem.Spec PyProof.Rows L2
open Sf46 (Net Peer Route better Told isNet look)
noncomputable abbrev sInit : Stmt := sRo 0
noncomputable abbrev sBegin : Stmt := sRo 1
theorem upd_none {H : Hp} {a b : Addr} {o : HO} (h : upd H a o b = none) : b ≠ a ∧ H b = none := by
  have hne : b ≠ a := fun e => by rw [e, upd_same] at h; cases h
  rw [upd_ne hne] at h
  exact ⟨hne, h⟩
structure Begun (C : Cl) (H H' : Hp) (r : Addr) (x' : RA) (A' : AS) : Prop where
  rat : RAt C H' r x' A' No
  keep : Keep [r] H H'
  new : ∀ b ∈ x'.muts r, b = r ∨ H b = none
  imm : Imm C H H'
theorem Begun.step {C : Cl} {H H' : Hp} {r : Addr} {x x' : RA} {A' : AS} (h : Begun C H H' r x' A') : Step C H H' r x x' A' No :=
  ⟨h.rat, fun b o hb hn => h.keep b o hb (fun z => hn (by simp only [List.mem_singleton] at z; rw [z]; unfold RA.muts; simp)), fun b hb => (h.new b hb).imp (fun z => by rw [z]; unfold RA.muts; simp) id, h.imm⟩
theorem empty_of (z : Nat) : (AS.of (Sf46.empty z)).self = z ∧ (∀ k, (AS.of (Sf46.empty z)).peer k = none) ∧ (∀ k n, (AS.of (Sf46.empty z)).g k n = none) ∧ (∀ k n, (AS.of (Sf46.empty z)).t k n = none) ∧ (AS.of (Sf46.empty z)).row = [] := by
  refine ⟨rfl, fun k => empty_peer z k, fun k n => ?_, fun k n => rfl, rfl⟩
  show routeOf _ _ _ = none
  unfold routeOf
  rw [empty_peer]; rfl
theorem nbs_empty (k : Nat) : ((List.replicate 8 (none : Option Addr))[k]?).bind id = none := by
  rw [List.getElem?_replicate]
  split <;> rfl
section
variable {P : Program} {w : World} {K : PySem.W.Frag} {mg : Str → Option Value} {base : Heap} {C : Cl}
noncomputable def spBegin (C : Cl) : Sp := fun vs H Q _ => ∃ (r dx : Addr) (fs : List (Str × V)) (z : Nat), vs = [.ref r, iv z] ∧ H r = some (.ins C.ro dx fs) ∧ (fs = [] ∨ ∃ z0 a b c, fs = roF z0 a b c) ∧
  ∀ (H' : Hp) (x' : RA), Begun C H H' r x' (AS.of (Sf46.empty z)) → Q (.int 0) H'
theorem scBegin : FnScope ["self", "self_number"] ["self", "self_number"] (defScope sBegin) := ⟨rfl, rfl, rfl, by decide +kernel, rfl, by decide +kernel, by decide +kernel⟩
theorem ok_begin {f : Addr} {fd : FuncData} (F : Fun K "begin" "Router.begin" sBegin f fd) (T : Txt K mg C) : FnOk P w K mg base CX0 1 f fd ["self", "self_number"] (spBegin C) := by
  obtain ⟨t8, g8⟩ := T.nbours
  obtain ⟨t0, g0⟩ := T.done
  refine F.ok scBegin (fun vs H Q E h => ?_) (fun cdv A0 outer s H vs Q E hr h => ?_)
  · obtain ⟨r, dx, fs, z, rfl, _⟩ := h
    rfl
  · obtain ⟨r, dx, fs, z, rfl, hr0, hfs, q⟩ := h
    obtain ⟨n1, n2, n3, n4⟩ := T.roA
    have l1 : fs.length < 1000 := by
      rcases hfs with rfl | ⟨z0, a, b, c, rfl⟩
      · show 0 < 1000; decide
      · show 4 < 1000; decide
    have l2 : ∀ v1, (putF "self_number" v1 fs).length < 1000 := by
      rcases hfs with rfl | ⟨z0, a, b, c, rfl⟩
      · intro v1; show 1 < 1000; decide
      · intro v1; show 4 < 1000; decide
    have l3 : ∀ v1 v2, (putF "neighbours" v2 (putF "self_number" v1 fs)).length < 1000 := by
      rcases hfs with rfl | ⟨z0, a, b, c, rfl⟩
      · intro v1 v2; show 2 < 1000; decide
      · intro v1 v2; show 4 < 1000; decide
    have l4 : ∀ v1 v2 v3, (putF "networks" v3 (putF "neighbours" v2 (putF "self_number" v1 fs))).length < 1000 := by
      rcases hfs with rfl | ⟨z0, a, b, c, rfl⟩
      · intro v1 v2 v3; show 3 < 1000; decide
      · intro v1 v2 v3; show 4 < 1000; decide
    have hput : ∀ nl nd wd, putF "waiting" (.ref wd) (putF "networks" (.ref nd) (putF "neighbours" (.ref nl) (putF "self_number" (iv z) fs))) = roF z nl nd wd := by
      rcases hfs with rfl | ⟨z0, a, b, c, rfl⟩ <;> intros <;> rfl
    refine ⟨_, pss_cons (ps_fld (pv 0) (pv 1) rfl) (pss_cons (ps_fld (pv 0) (pe_op op_rep (pe_lst (pa_cons pe_non pa_nil)) (pe_glob (v := .int 8) rfl g8 ⟨t8, rfl⟩)) rfl)
      (pss_cons (ps_fld (pv 0) (pe_xnew (T := netK)) rfl) (pss_cons (ps_fld (pv 0) (pe_xnew (T := pairK)) rfl) (pss_one (ps_ret (pe_glob (v := .int 0) rfl g0 ⟨t0, rfl⟩)))))), ?_⟩
    try dsimp only [cx_K]
    refine ⟨_, rfl, _, rfl, r, C.ro, dx, _, rfl, hr0, T.ro, n1, l1, ?_⟩
    refine ⟨(by show 1 ≤ sizeLine; decide), fun l hl => ?_⟩
    refine ⟨l, 8, [.non], rfl, rfl, upd_same, (by decide), (by decide), (by show 8 ≤ sizeLine; decide), fun p hp => ?_⟩
    obtain ⟨hl1, hl0⟩ := upd_none hl
    obtain ⟨hp2, hp1⟩ := upd_none hp
    obtain ⟨hp1, hp0⟩ := upd_none hp1
    refine ⟨_, rfl, r, C.ro, dx, _, rfl, (by rw [upd_ne hp1.symm, upd_ne hl1.symm]; exact upd_same), T.ro, n2, l2 _, ?_⟩
    intro nd hnd
    obtain ⟨d1, hd⟩ := upd_none hnd
    obtain ⟨d2, hd⟩ := upd_none hd
    obtain ⟨d3, hd⟩ := upd_none hd
    obtain ⟨_, hd0⟩ := upd_none hd
    refine ⟨_, rfl, r, C.ro, dx, _, rfl, (by rw [upd_ne d1.symm]; exact upd_same), T.ro, n3, l3 _ _, ?_⟩
    intro wd hwd
    obtain ⟨w1, hw⟩ := upd_none hwd
    obtain ⟨w2, hw⟩ := upd_none hw
    obtain ⟨_, hw⟩ := upd_none hw
    obtain ⟨w3, hw⟩ := upd_none hw
    obtain ⟨w4, hw⟩ := upd_none hw
    obtain ⟨_, hw0⟩ := upd_none hw
    refine ⟨_, rfl, r, C.ro, dx, _, rfl, (by rw [upd_ne w1.symm]; exact upd_same), T.ro, n4, l4 _ _ _, ?_⟩
    rw [hput]
    have keep : ∀ b o, H b = some o → b ≠ r → ∀ X1 X2 X3 X4 X5 X6 X7 X8, upd (upd (upd (upd (upd (upd (upd (upd H r X1) l X2) p X3) r X4) nd X5) r X6) wd X7) r X8 b = some o := fun b o hb hbr X1 X2 X3 X4 X5 X6 X7 X8 => by
      rw [upd_ne hbr, upd_ne (ne_of_none hb hw0), upd_ne hbr, upd_ne (ne_of_none hb hd0), upd_ne hbr, upd_ne (ne_of_none hb hp0), upd_ne (ne_of_none hb hl0), upd_ne hbr]; exact hb
    obtain ⟨e1, e2, e3, e4, e5⟩ := empty_of z
    refine q _ ⟨p, nd, wd, List.replicate 8 none, [], []⟩ ⟨⟨⟨⟨dx, ?_⟩, ?_, rfl, fun k => ?_⟩, ⟨?_, (fun y hy => nomatch hy), (fun y hy => nomatch hy), List.nodup_nil, fun n hn => ?_, (fun n hn => nomatch hn)⟩, ⟨?_, (fun y hy => nomatch hy), ?_, ?_⟩, ?_⟩, ?_, ?_, ?_⟩
    · rw [e1]; exact upd_same
    · show _ = some (HO.lst (List.map nbV (List.replicate 8 none)))
      rw [upd_ne hp1, upd_ne w3.symm, upd_ne hp1, upd_ne d2.symm, upd_ne hp1, upd_same]
      rfl
    · rw [e2, nbs_empty]; exact True.intro
    · show _ = some (dX netK.hash nd [])
      rw [upd_ne d1, upd_ne w2.symm, upd_ne d1, upd_same]
    · obtain ⟨k, hk⟩ := hn
      rw [e3, e4] at hk
      rcases hk with hk | hk <;> cases hk
    · show _ = some (dX pairK.hash wd [])
      rw [upd_ne w1, upd_same]
    · rw [e5]; rfl
    · rw [e5]; exact List.nodup_nil
    · show [r, p, nd, wd].Nodup
      simp [hp1.symm, d1.symm, w1.symm, d2.symm, w3.symm, w2.symm]
    · intro b o hb hn
      exact keep b o hb (by simpa using hn) _ _ _ _ _ _ _ _
    · intro b hb
      have hb' : b ∈ [r, p, nd, wd] := hb
      simp only [List.mem_cons, List.not_mem_nil, or_false] at hb'
      rcases hb' with rfl | rfl | rfl | rfl
      · exact .inl rfl
      · exact .inr hp0
      · exact .inr hd0
      · exact .inr hw0
    · intro b o hb hu
      refine keep b o hb (fun e => ?_) _ _ _ _ _ _ _ _
      rw [e, hr0] at hb
      cases hb
      obtain ⟨m1, m2⟩ := T.roN
      rcases hu with ⟨xs, e⟩ | ⟨dx, fs, e⟩ | ⟨dx, fs, e⟩
      · cases e
      · injection e with e; exact m1 e
      · injection e with e; exact m2 e
noncomputable def spInit (C : Cl) : Sp := fun vs H Q _ => ∃ (r dx : Addr), vs = [.ref r] ∧ H r = some (.ins C.ro dx []) ∧ ∀ (H' : Hp) (x' : RA), Begun C H H' r x' (AS.of (Sf46.empty 0)) → Q .non H'
theorem scInit : FnScope ["self"] ["self"] (defScope sInit) := ⟨rfl, rfl, rfl, by decide +kernel, rfl, by decide +kernel, by decide +kernel⟩
theorem ok_init {f fB : Addr} {fd fdB : FuncData} (F : Fun K "__init__" "Router.__init__" sInit f fd) (T : Txt K mg C) (mB : Meth K C.ro "begin" fB) (GB : FnOk P w K mg base CX0 1 fB fdB ["self", "self_number"] (spBegin C)) (bB : Binds K fdB ["self", "self_number"] []) :
    FnOk P w K mg base CX0 2 f fd ["self"] (spInit C) := by
  refine F.ok scInit (fun vs H Q E h => ?_) (fun cdv A0 outer s H vs Q E hr h => ?_)
  · obtain ⟨r, dx, rfl, _⟩ := h
    rfl
  · obtain ⟨r, dx, rfl, hr0, q⟩ := h
    refine ⟨_, pss_one (ps_expr (pe_meth (pv 0) T.ro mB GB hr bB .nil pass0 (pa_cons pe_int pa_nil))), ?_⟩
    try dsimp only [cx_K]
    exact q_meth rfl hr0 rfl ⟨r, dx, [], 0, rfl, hr0, .inl rfl, fun H' x' hB => q H' x' hB⟩
end
end R46
end
section
set_option linter.all false
set_option Elab.async false
set_option maxRecDepth 100000
set_option maxHeartbeats 2000000
namespace L2
open PySem PySem.Spec PyProof.Rows
theorem lc_keysX {κ : Type} [DecidableEq κ] {hash : κ → Int} {d : Addr} {o : Obj} {kvs : List (κ × Addr × V)} {g : TG} {tt : TT} {te : TE} {vs : List Nat} {σ : St} {H1 : Hp} {D : Addr} {Qd : Hp → Prop} (Pv : Nat → Hp → Prop) (h0 : Pv 0 (upd H1 D (.lst []))) (hl : ∀ i H, i ≤ kvs.length → Pv i H → H d = some (.frz o (dX hash d kvs)))
    (hs : ∀ i k q v H, kvs[i]? = some (k, q, v) → Pv i H → g (.ref q) (wipe σ vs) H fun σ2 H2 => wipe σ2 vs = wipe σ vs ∧ tt σ2 H2 fun b H3 =>
      if b = true then te σ2 H3 fun y H4 => ∃ acc, H4 D = some (.lst acc) ∧ acc.length < sizeLine ∧ Pv (i + 1) (upd H4 D (.lst (acc ++ [y]))) else Pv (i + 1) H3) (hd : ∀ H, Pv kvs.length H → Qd H) :
    ∃ W : Nat → Nat → Hp → Prop, (∃ m, W 0 m (upd H1 D (.lst []))) ∧ ∀ i m H, W i m H →
      ((Itx hash d o kvs).stop i H ∧ Qd H) ∨ ((Itx hash d o kvs).go i H ∧ ∃ Nx : Hp → Prop, (∀ H', Nx H' → ∃ m', m' < m ∧ W (i + 1) m' H') ∧ ∀ x H', (Itx hash d o kvs).yld i H x H' → g x (wipe σ vs) H' fun σ2 H2 => wipe σ2 vs = wipe σ vs ∧ tt σ2 H2 fun b H3 =>
        if b = true then te σ2 H3 fun y H4 => ∃ acc, H4 D = some (.lst acc) ∧ acc.length < sizeLine ∧ Nx (upd H4 D (.lst (acc ++ [y]))) else Nx H3) := by
  refine ⟨fun i m H => m = kvs.length - i ∧ i ≤ kvs.length ∧ Pv i H, ⟨kvs.length, by simp, Nat.zero_le _, h0⟩, ?_⟩
  rintro i m H ⟨rfl, hi, p⟩
  have q := hl i H hi p
  by_cases hlt : i < kvs.length
  · refine .inr ⟨⟨q, hlt⟩, Pv (i + 1), fun H' p' => ⟨kvs.length - (i + 1), by omega, rfl, hlt, p'⟩, fun x H' y => ?_⟩
    obtain ⟨e, k, qa, v, hk, ex⟩ := y
    subst e ex
    exact hs i k qa v _ hk p
  · have e : i = kvs.length := by omega
    subst e
    exact .inl ⟨⟨q, Nat.le_refl _⟩, hd H p⟩
end L2
namespace R46
open PySem PySem.Spec PyProof.Rows L2
open Sf46 (Net Peer Route better Told isNet look)
noncomputable abbrev sCount : Stmt := sRo 9
noncomputable def withRt (es : List Ent) : List Ent := es.filter fun y => !y.rs.isEmpty
theorem decPos {n : Nat} : decide ((0 : Int) < (n : Int)) = decide (0 < n) := by
  by_cases h : 0 < n
  · rw [decide_eq_true h, decide_eq_true (by omega)]
  · rw [decide_eq_false h, decide_eq_false (by omega)]
theorem pos_empty {α : Type} (l : List α) : decide (0 < l.length) = !l.isEmpty := by
  cases l with
  | nil => rfl
  | cons a l => simp
theorem esV_get {es : List Ent} {i : Nat} {k : Net} {q : Addr} {v : V} (h : (esV es)[i]? = some (k, q, v)) : ∃ y, es[i]? = some y ∧ k = y.n ∧ q = y.ka ∧ v = .ref y.e := by
  obtain ⟨y, hy, e⟩ := map_get h
  injection e with e1 e2
  injection e2 with e2 e3
  exact ⟨y, hy, e1, e2, e3⟩
section
variable {P : Program} {w : World} {K : PySem.W.Frag} {mg : Str → Option Value} {base : Heap} {C : Cl}
noncomputable def spWithRt (C : Cl) : Sp := fun vs H Q _ => ∃ (r : Addr) (x : RA) (A : AS) (X : Net → Prop), vs = [.ref r] ∧ RAt C H r x A X ∧ x.es.length ≤ 100000 ∧ ∀ l, H l = none → Q (.ref l) (upd H l (.lst ((withRt x.es).map fun y => V.ref y.ka)))
theorem scWithRt : FnScope ["self", "network"] ["self"] (defScope sWithRt) := ⟨rfl, rfl, rfl, by decide +kernel, rfl, by decide +kernel, by decide +kernel⟩
theorem ok_withRt {f : Addr} {fd : FuncData} (F : Fun K "networks_with_route" "Router.networks_with_route" sWithRt f fd) (T : Txt K mg C) : FnOk P w K mg base CX0 1 f fd ["self"] (spWithRt C) := by
  refine F.ok scWithRt (fun vs H Q E h => ?_) (fun cdv A0 outer s H vs Q E hr h => ?_)
  · obtain ⟨r, x, A, X, rfl, _⟩ := h
    rfl
  · obtain ⟨r, x, A, X, rfl, hR, hlen, q⟩ := h
    obtain ⟨n1, n2, n3, n4⟩ := T.roA
    obtain ⟨e1, e2⟩ := T.enA
    obtain ⟨dx, hobj⟩ := hR.base.obj
    obtain ⟨a1, a2, a3, a4, a5, a6, a7, a8⟩ := hR.apart
    refine ⟨_, pss_one (ps_ret (pe_lock (pe_lc (own := [("network", 1)]) (tt := tTest (tOp (rI0 fun i j => .bl (decide (j < i))) (tCB (fun xs H Q => ∃ a kvs, xs = [V.ref a] ∧ H a = some (.dK kvs) ∧ Q (.int kvs.length) H) (tCons (tFld K (tXGet netK (tFld K (tVar 0) "networks") (tVar 1)) "routes") tNil)) (tC (.int 0)))) (te := tVar 1) rfl scWithRt.nd (pi_keysX (T := netK) (pe_fld (pv 0) rfl)) (blkOk_by (N := ["self", "network"]) (sc := defScope sWithRt) (by decide +kernel))
      (fun _ _ _ _ _ => pg_name (i := 1) scWithRt.nd rfl (Or.inl rfl)) (fun _ _ _ _ _ => pts_one (pt_cmpR op_gt (pe_callB call_lenD rfl T.len PySem.boot_len (pa_cons (pe_fld (pe_xget (T := netK) (hu2_of hr) (pe_fld (pv 0) rfl) (pv 1) (fun _ _ => rfl)) rfl) pa_nil)) pe_int (nomark _))) (fun _ _ _ _ _ => pv 1)))), ?_⟩
    try dsimp only [cx_K]
    refine ⟨x.nd, _, hR.nets.nd, True.intro, fun od => ?_⟩
    refine ⟨_, rfl, r, C.ro, dx, _, _, rfl, (by rw [upd_ne a2]; exact hobj), T.ro, n3, rfl, x.nd, od, esV x.es, rfl, upd_same, fun D hD => lc_keysX
      (fun i H' => H' = upd (upd H x.nd (.frz od (dX netK.hash x.nd (esV x.es)))) D (.lst ((withRt (x.es.take i)).map fun y => V.ref y.ka))) rfl ?_ ?_ ?_⟩
    · rintro i H' _ rfl
      rw [upd_ne (fun e => (upd_none hD).1 e.symm)]; exact upd_same
    · rintro i k qa v H' hk rfl
      obtain ⟨y, hy, rfl, rfl, rfl⟩ := esV_get hk
      have hyes := List.mem_of_getElem? hy
      have hE := hR.nets.ents y hyes
      obtain ⟨de, he⟩ := hE.obj
      obtain ⟨m1, m2, m3⟩ := mem_esM hyes
      have rd : ∀ b o, H b = some o → b ≠ x.nd → upd (upd H x.nd (.frz od (dX netK.hash x.nd (esV x.es)))) D (.lst ((withRt (x.es.take i)).map fun y => V.ref y.ka)) b = some o := fun b o hb hn => by
        rw [upd_ne (ne_of_none hb (upd_none hD).2), upd_ne hn]; exact hb
      have rdT : ∀ b ys, H b = some (.tup ys) → upd (upd H x.nd (.frz od (dX netK.hash x.nd (esV x.es)))) D (.lst ((withRt (x.es.take i)).map fun y => V.ref y.ka)) b = some (.tup ys) := fun b ys hb => rd b _ hb (ne_of hb hR.nets.nd (fun z => nomatch z))
      refine ⟨rfl, ?_⟩
      refine q_fld rfl (rd _ _ hobj a2) T.ro n3 rfl ⟨_, rfl, x.nd, y.ka, _, y.n, _, rfl, rfl, .inr ⟨od, (by rw [upd_ne (fun e => (upd_none hD).1 e.symm)]; exact upd_same)⟩, hR.nets.ndOn.keep rdT, ?_, esV_some hR.nets.keys hyes, ?_⟩
      · exact netK.keep (hR.nets.ndOn (y.n, y.ka, .ref y.e) (List.mem_of_getElem? hk)) rdT
      refine ⟨y.e, C.en, de, _, _, rfl, rd _ _ he (a7 _ m1).2.2.1, T.en, e1, rfl, y.rd, _, rfl, rd _ _ hE.rd (a7 _ m2).2.2.1, _, _, rfl, rfl, _, rfl, ?_⟩
      rw [kvs_len, decPos, pos_empty]
      have hstep : withRt (x.es.take (i + 1)) = withRt (x.es.take i) ++ (if (!y.rs.isEmpty) = true then [y] else []) := by
        rw [take_snoc hy]
        unfold withRt
        rw [List.filter_append, List.filter_cons, List.filter_nil]
      cases hb : (!y.rs.isEmpty) with
      | true =>
        rw [hb, if_pos rfl] at hstep
        refine iteT ⟨_, rfl, _, upd_same, ?_, ?_⟩
        · rw [List.length_map]
          have : (withRt (x.es.take i)).length ≤ x.es.length := Nat.le_trans (List.length_filter_le _ _) (by rw [List.length_take]; omega)
          rw [sizeLine_eq]; omega
        · rw [upd_upd, hstep, List.map_append]; rfl
      | false =>
        rw [hb, if_neg Bool.false_ne_true, List.append_nil] at hstep
        refine iteF ?_
        rw [hstep]
    · rintro H' rfl
      have hl : (esV x.es).length = x.es.length := List.length_map _
      rw [hl, List.take_length]
      obtain ⟨d1, d2⟩ := upd_none hD
      refine ⟨by rw [upd_ne d1.symm]; exact upd_same, ?_⟩
      have e : upd (upd (upd H x.nd (.frz od (dX netK.hash x.nd (esV x.es)))) D (.lst ((withRt x.es).map fun y => V.ref y.ka))) x.nd (dX netK.hash x.nd (esV x.es)) = upd H D (.lst ((withRt x.es).map fun y => V.ref y.ka)) := by
        funext b
        by_cases h1 : b = x.nd
        · rw [h1, upd_same, upd_ne d1.symm, hR.nets.nd]
        · rw [upd_ne h1]
          by_cases h2 : b = D
          · rw [h2, upd_same, upd_same]
          · rw [upd_ne h2, upd_ne h1, upd_ne h2]
      rw [e]
      exact q D d2
noncomputable def spCount (C : Cl) : Sp := fun vs H Q _ => ∃ (r : Addr) (x : RA) (A : AS) (X : Net → Prop), vs = [.ref r] ∧ RAt C H r x A X ∧ x.es.length ≤ 100000 ∧ ∀ H', Same H H' → Q (.int ((withRt x.es).length : Int)) H'
theorem scCount : FnScope ["self"] ["self"] (defScope sCount) := ⟨rfl, rfl, rfl, by decide +kernel, rfl, by decide +kernel, by decide +kernel⟩
theorem ok_count {f fW : Addr} {fd fdW : FuncData} (F : Fun K "count_networks" "Router.count_networks" sCount f fd) (T : Txt K mg C) (mW : Meth K C.ro "networks_with_route" fW) (GW : FnOk P w K mg base CX0 1 fW fdW ["self"] (spWithRt C)) (bW : Binds K fdW ["self"] []) :
    FnOk P w K mg base CX0 2 f fd ["self"] (spCount C) := by
  refine F.ok scCount (fun vs H Q E h => ?_) (fun cdv A0 outer s H vs Q E hr h => ?_)
  · obtain ⟨r, x, A, X, rfl, _⟩ := h
    rfl
  · obtain ⟨r, x, A, X, rfl, hR, hlen, q⟩ := h
    obtain ⟨dx, hobj⟩ := hR.base.obj
    refine ⟨_, pss_one (ps_ret (pe_callB call_len_seq rfl T.len PySem.boot_len (pa_cons (pe_meth0 (pv 0) T.ro mW GW hr bW .nil pass0) pa_nil))), ?_⟩
    try dsimp only [cx_K]
    refine q_meth rfl hobj rfl ⟨r, x, A, X, rfl, hR, hlen, fun l hl => ?_⟩
    refine ⟨l, _, rfl, .inl (SqL.of upd_same), ?_⟩
    rw [List.length_map]
    exact q _ (Same.new hl)
end
end R46
end
section
set_option linter.all false
set_option Elab.async false
set_option maxRecDepth 100000
set_option maxHeartbeats 2000000
namespace R46
open PySem PySem.Spec PyProof.Rows L2
open Sf46 (Net Peer Route better Told isNet look)
noncomputable abbrev sUp : Stmt := sRo 2
theorem filter_out {α β : Type} [DecidableEq α] {pre post : List (α × β)} {w : α × β} (h : ((pre ++ w :: post).map (·.1)).Nodup) : (pre ++ w :: post).filter (fun z => decide (z.1 ≠ w.1)) = pre ++ post := by
  rw [List.map_append, List.map_cons, List.nodup_append, List.nodup_cons] at h
  obtain ⟨h1, ⟨h2, h3⟩, h4⟩ := h
  rw [List.filter_append, List.filter_cons, if_neg (by simp)]
  congr 1
  · exact List.filter_eq_self.mpr fun z hz => decide_eq_true fun e => h4 z.1 (List.mem_map.mpr ⟨z, hz, rfl⟩) w.1 (by simp) e
  · exact List.filter_eq_self.mpr fun z hz => decide_eq_true fun e => h2 (List.mem_map.mpr ⟨z, hz, e⟩)
theorem RAt.popW {C : Cl} {H : Hp} {r : Addr} {x : RA} {A : AS} {X : Net → Prop} (h : RAt C H r x A X) {pre post : List ((Nat × Net) × Addr)} {w : (Nat × Net) × Addr} (hw : x.ws = pre ++ w :: post) :
    (∃ v, valX (wsV x.ws) w.1 = some v) ∧ dropX (wsV x.ws) w.1 = wsV (pre ++ post) ∧ pairK.on H w.1 w.2 ∧
    Step C H (upd H x.wd (dX pairK.hash x.wd (wsV (pre ++ post)))) r x { x with ws := pre ++ post } (A.setRow ((pre ++ post).map (·.1))) X := by
  have hn : (x.ws.map (·.1)).Nodup := by rw [h.wait.eq]; exact h.wait.nd
  have hd : dropX (wsV x.ws) w.1 = wsV (pre ++ post) := by
    rw [wsV_drop, hw, filter_out (by rw [← hw]; exact hn)]
  refine ⟨?_, hd, ?_, ?_⟩
  · have := wsV_val x.ws w.1
    rw [decide_eq_true (by rw [hw]; simp)] at this
    exact Option.isSome_iff_exists.mp this
  · exact h.wait.wdOn (w.1, w.2, .bl true) (List.mem_map.mpr ⟨w, by rw [hw]; simp, rfl⟩)
  · refine h.setW (by rw [← hd]; exact h.wait.wdOn.drop _) rfl ?_
    rw [hw] at hn
    rw [List.map_append, List.map_cons] at hn
    rw [List.map_append]
    exact hn.sublist (List.Sublist.append_left (List.sublist_cons_self _ _) _)
theorem RAt.addW {C : Cl} {H : Hp} {r : Addr} {x : RA} {A : AS} {X : Net → Prop} (h : RAt C H r x A X) {p : Nat × Net} {pa : Addr} (hp : pairK.on H p pa) (hno : p ∉ A.row) :
    putX (wsV x.ws) p pa (.bl true) = wsV (x.ws ++ [(p, pa)]) ∧ Step C H (upd H x.wd (dX pairK.hash x.wd (wsV (x.ws ++ [(p, pa)])))) r x { x with ws := x.ws ++ [(p, pa)] } (A.setRow (A.row ++ [p])) X := by
  have hv := wsV_val x.ws p
  rw [h.wait.eq, decide_eq_false hno] at hv
  have ee : putX (wsV x.ws) p pa (.bl true) = wsV (x.ws ++ [(p, pa)]) := by
    unfold putX
    rw [if_neg (by rw [hv]; exact Bool.false_ne_true)]
    unfold wsV
    rw [List.map_append]; rfl
  refine ⟨ee, h.setW ?_ (by rw [List.map_append, h.wait.eq]; rfl) ?_⟩
  · rw [← ee]; exact h.wait.wdOn.put hp _
  · rw [List.nodup_append]
    refine ⟨h.wait.nd, by simp, fun a ha b hb e => ?_⟩
    simp only [List.mem_singleton] at hb
    subst hb; subst e; exact hno ha
theorem Step.out {C : Cl} {H H' : Hp} {r l : Addr} {x x' : RA} {A' : AS} {X' : Net → Prop} {o : HO} (S : Step C H H' r x x' A' X') (h : H l = some o) (hn : l ∉ x.muts r) : l ∉ x'.muts r := fun hc => (S.new l hc).elim hn fun z => by rw [h] at z; cases z
theorem RAt.fresh {C : Cl} {H : Hp} {r l : Addr} {x : RA} {A : AS} {X : Net → Prop} (h : RAt C H r x A X) (hl : H l = none) : l ∉ x.muts r := fun hc => by
  have tr : ∃ o, H l = some o := by
    unfold RA.muts at hc
    simp only [List.mem_cons] at hc
    rcases hc with rfl | rfl | rfl | rfl | hc
    · obtain ⟨dx, z⟩ := h.base.obj; exact ⟨_, z⟩
    · exact ⟨_, h.base.nl⟩
    · exact ⟨_, h.nets.nd⟩
    · exact ⟨_, h.wait.wd⟩
    · obtain ⟨y, hy, hc⟩ := List.mem_flatMap.mp hc
      have hE := h.nets.ents y hy
      simp only [List.mem_cons, List.not_mem_nil, or_false] at hc
      rcases hc with rfl | rfl | rfl
      · obtain ⟨dx, z⟩ := hE.obj; exact ⟨_, z⟩
      · exact ⟨_, hE.rd⟩
      · exact ⟨_, hE.td⟩
  obtain ⟨o, ho⟩ := tr
  rw [hl] at ho; cases ho
theorem drop_get {α : Type} : ∀ {l : List α} {i : Nat} {x : α}, l[i]? = some x → l.drop i = x :: l.drop (i + 1)
  | [], _, _, h => by simp at h
  | y :: l, 0, x, h => by simp at h; simp [h]
  | y :: l, i + 1, x, h => by
    simp only [List.getElem?_cons_succ] at h
    rw [List.drop_succ_cons, drop_get h]
    rfl
section
variable {P : Program} {w : World} {K : PySem.W.Frag} {mg : Str → Option Value} {base : Heap} {C : Cl}
noncomputable def spForgetPairs (C : Cl) : Sp := fun vs H Q _ => ∃ (r : Addr) (x : RA) (A : AS) (X : Net → Prop) (k : Nat), vs = [.ref r, iv k] ∧ RAt C H r x A X ∧
  ∀ (H' : Hp) (x' : RA), Step C H H' r x x' (A.setRow (A.row.filter fun p => decide (p.1 ≠ k))) X → x'.es = x.es → x'.nl = x.nl → x'.nbs = x.nbs → Q .non H'
noncomputable def pvPairs (C : Cl) (A : AS) (x : RA) (X : Net → Prop) (r l : Addr) (k : Nat) (H : Hp) (i : Nat) (σ : L2.St) (H' : Hp) : Prop := ∃ (pv : Option V) (x' : RA), σ = [some (.ref r), some (iv k), pv] ∧ Step C (upd H l (.lst (x.ws.map fun w => V.ref w.2))) H' r x x' (A.setRow (x'.ws.map (·.1))) X ∧ H' l = some (.lst (x.ws.map fun w => V.ref w.2)) ∧ x'.es = x.es ∧ x'.nl = x.nl ∧ x'.nbs = x.nbs ∧ x'.ws = (x.ws.take i).filter (fun w => decide (w.1.1 ≠ k)) ++ x.ws.drop i
theorem scForgetPairs : FnScope ["self", "k", "pair"] ["self", "k"] (defScope sForgetPairs) := ⟨rfl, rfl, rfl, by decide +kernel, rfl, by decide +kernel, by decide +kernel⟩
theorem ok_forgetPairs {f : Addr} {fd : FuncData} (F : Fun K "forget_pairs" "Router.forget_pairs" sForgetPairs f fd) (T : Txt K mg C) : FnOk P w K mg base CX0 1 f fd ["self", "k"] (spForgetPairs C) := by
  refine F.ok scForgetPairs (fun vs H Q E h => ?_) (fun cdv A0 outer s H vs Q E hr h => ?_)
  · obtain ⟨r, x, A, X, k, rfl, _⟩ := h
    rfl
  · obtain ⟨r, x, A, X, k, rfl, hR, q⟩ := h
    obtain ⟨n1, n2, n3, n4⟩ := T.roA
    obtain ⟨dx, hobj⟩ := hR.base.obj
    refine ⟨_, pss_one (ps_for PassesOwn.never rfl (pi_list (pe_callTy (call_listX (T := pairK) rfl) rfl T.lst (by decide +kernel) (pa_cons (pe_fld (pv 0) rfl) pa_nil))) (pg_name (i := 2) scForgetPairs.nd rfl (Or.inl rfl))
      (pss_one (ps_if (pt_cmpR op_eq (pe_ix ix_tup (pv 2) pe_int (fun _ _ => rfl)) (pv 1) (nomark _))
        (pss_one (ps_expr (pe_xpop1 (T := pairK) (hu2_of hr) (pe_fld (pv 0) rfl) (pv 2) ⟨rfl, rfl, rfl, rfl⟩))) pss_nil))), ?_⟩
    try dsimp only [cx_K]
    refine q_fld rfl hobj T.ro n4 rfl ⟨x.wd, _, rfl, .inl hR.wait.wd, fun l hl => ?_⟩
    have el : (wsV x.ws).map (fun p => V.ref p.2.1) = x.ws.map fun w => V.ref w.2 := by
      unfold wsV; rw [List.map_map]; rfl
    rw [el]
    have s1 : Same H (upd H l (.lst (x.ws.map fun w => V.ref w.2))) := Same.new hl
    have hlm : l ∉ x.muts r := hR.fresh hl
    refine ⟨l, rfl, ⟨_, SqL.of upd_same⟩, for_list (K := K) (a := l) (xs := x.ws.map fun w => V.ref w.2) (pvPairs C A x X r l k H)
      ⟨none, x, rfl, by rw [hR.wait.eq]; exact Step.same Same.refl (hR.same s1), upd_same, rfl, rfl, rfl, rfl⟩ (fun i σ H' _ hm => by obtain ⟨_, _, _, _, h1, _⟩ := hm; exact SqL.of h1) ?_ ?_⟩
    · rintro i v σ H' hi ⟨pv0, x', rfl, S, hl', e1, e2, e3, e4⟩
      obtain ⟨w, hw, rfl⟩ := map_get hi
      have hx' : x'.ws = (x.ws.take i).filter (fun w => decide (w.1.1 ≠ k)) ++ w :: x.ws.drop (i + 1) := by rw [e4, drop_get hw]
      obtain ⟨⟨v0, hv⟩, hd, hon, S2⟩ := S.rat.popW hx'
      obtain ⟨na, hw1, hw2⟩ := hon
      obtain ⟨dx', hobj'⟩ := S.rat.base.obj
      refine q_ixT rfl (SqT.of hw1) (at_of (j := 0) (v := iv w.1.1) rfl rfl) ⟨_, rfl, rfl, _, rfl, ifEq (fun h1 => ?_) fun h1 => ?_⟩
      · refine q_fld rfl hobj' T.ro n4 rfl ⟨x'.wd, _, rfl, .inl S.rat.wait.wd, _, rfl, w.2, _, w.1, v0, rfl, S.rat.wait.wd, S.rat.wait.wdOn, ⟨na, hw1, hw2⟩, hv, ?_⟩
        rw [hd]
        refine ⟨_, _, rfl, S.trans S2, S2.keep _ _ hl' (S.out upd_same hlm), e1, e2, e3, ?_⟩
        show _ ++ _ = _
        rw [take_snoc hw, List.filter_append, List.filter_cons, if_neg (by simp [h1]), List.filter_nil, List.append_nil]
      · refine ⟨_, x', rfl, S, hl', e1, e2, e3, ?_⟩
        rw [hx', take_snoc hw, List.filter_append, List.filter_cons, if_pos (by simpa using h1), List.filter_nil, List.append_assoc]
        rfl
    · rintro σ H' ⟨pv0, x', rfl, S, hl', e1, e2, e3, e4⟩
      rw [List.length_map, List.take_length, List.drop_length, List.append_nil] at e4
      have er : A.row.filter (fun p => decide (p.1 ≠ k)) = x'.ws.map (·.1) := by
        rw [e4, ws_filter _ (fun p => decide (p.1 ≠ k)), hR.wait.eq]
      rw [er] at q
      exact q _ _ ((Step.same s1 hR).trans S) e1 e2 e3
end
end R46
end
section
set_option linter.all false
set_option Elab.async false
set_option maxRecDepth 100000
set_option maxHeartbeats 2000000
namespace R46
open PySem PySem.Spec PyProof.Rows L2
open Sf46 (Net Peer Route better Told isNet look)
noncomputable def AS.setPeer (A : AS) (k : Nat) (p : Option Peer) : AS := { A with peer := fun k' => if k' = k then p else A.peer k' }
theorem RAt.setNb {C : Cl} {H : Hp} {r : Addr} {x : RA} {A : AS} {X : Net → Prop} (h : RAt C H r x A X) {k : Nat} (hk : k < 8) {o : Option Addr} {p : Option Peer} (hp : Both (fun a p => NbAt C H a k p) o p) :
    Step C H (upd H x.nl (.lst ((x.nbs.map nbV).set k (nbV o)))) r x { x with nbs := x.nbs.set k o } (A.setPeer k p) X := by
  obtain ⟨a1, a2, a3, a4, a5, a6, a7, a8⟩ := h.apart
  have im : Imm C H (upd H x.nl (.lst ((x.nbs.map nbV).set k (nbV o)))) := Imm.upd h.base.nl (fun _ z => nomatch z) (fun _ _ z => nomatch z) (fun _ _ z => nomatch z)
  refine ⟨⟨⟨?_, ?_, ?_, fun k' => ?_⟩, (h.nets.keep im (Stay.upd ?_)).of rfl rfl, h.wait.keep (C := C) im (Stay.upd (by simp [a5])), h.sep⟩, ?_, fun b hb => .inl hb, im⟩
  · obtain ⟨dx, e⟩ := h.base.obj
    exact ⟨dx, by show upd H x.nl _ r = _; rw [upd_ne a1]; exact e⟩
  · show upd H x.nl _ x.nl = some (.lst ((x.nbs.set k o).map nbV))
    rw [upd_same, List.map_set]
  · show (x.nbs.set k o).length = 8
    rw [List.length_set]; exact h.base.len
  · show Both _ (((x.nbs.set k o)[k']?).bind id) (if k' = k then p else A.peer k')
    by_cases e : k' = k
    · subst e
      rw [if_pos rfl, List.getElem?_set_self (by rw [h.base.len]; exact hk)]
      exact hp.imp fun _ _ z => z.imm im
    · rw [if_neg e, List.getElem?_set_ne (fun z => e z.symm)]
      exact (h.base.nbs k').imp fun _ _ z => z.imm im
  · simp only [List.mem_cons, not_or]
    exact ⟨a4, fun z => (a7 _ z).2.1 rfl⟩
  · intro b o hb hn
    rw [upd_ne]
    · exact hb
    · rintro rfl
      exact hn (by unfold RA.muts; simp)
theorem AOk.setPeer {N : List Net} {A : AS} (h : AOk N A) (k : Nat) (p : Option Peer) : AOk N (A.setPeer k p) := ⟨h.g, h.t, h.few, h.all, h.row⟩
theorem AOk.setRow {N : List Net} {A : AS} (h : AOk N A) {row : List (Nat × Net)} (hr : ∀ x ∈ row, x.1 < 8 ∧ x.2 ∈ N) : AOk N (A.setRow row) := ⟨h.g, h.t, h.few, h.all, hr⟩
theorem sorted_nets {ps' : List (Net × Addr)} (h : ps'.Pairwise (fun a b => ¬ R46.lt b.1 a.1)) (hn : (ps'.map (·.1)).Nodup) : (ps'.map (·.1)).Pairwise R46.lt := by
  rw [List.pairwise_map]
  have h2 := List.pairwise_map.mp hn
  refine (h.and h2).imp fun {a b} z => ?_
  rcases lt_total a.1 b.1 with q | q | q
  · exact q
  · exact absurd q z.2
  · exact absurd q z.1
theorem rs_some {C : Cl} {H : Hp} {A : AS} {y : Ent} (h : EnAt C H A y) : (!y.rs.isEmpty) = true ↔ ∃ k, (A.g k y.n).isSome = true := by
  constructor
  · intro e
    cases hrs : y.rs with
    | nil => rw [hrs] at e; cases e
    | cons p l => exact ⟨p.1, by rw [← both_some (h.held p.1), hrs, look_cons, if_pos rfl]; rfl⟩
  · rintro ⟨k, hk⟩
    rw [← both_some (h.held k)] at hk
    cases hrs : y.rs with
    | nil => rw [hrs] at hk; cases hk
    | cons p l => rfl
theorem withRt_nets {C : Cl} {H : Hp} {nd : Addr} {es : List Ent} {A : AS} {X : Net → Prop} (h : NetsAt C H nd es A X) : ((withRt es).map (·.n)).Nodup ∧ ∀ n, n ∈ (withRt es).map (·.n) ↔ ∃ k, (A.g k n).isSome = true := by
  refine ⟨h.keys.sublist (List.filter_sublist.map _), fun n => ?_⟩
  constructor
  · intro hm
    obtain ⟨y, hy, rfl⟩ := List.mem_map.mp hm
    obtain ⟨h1, h2⟩ := List.mem_filter.mp hy
    exact (rs_some (h.ents y h1)).mp h2
  · rintro ⟨k, hk⟩
    obtain ⟨y, hy, rfl⟩ := List.mem_map.mp (h.all n ⟨k, .inl hk⟩)
    exact List.mem_map.mpr ⟨y, List.mem_filter.mpr ⟨hy, (rs_some (h.ents y hy)).mpr ⟨k, hk⟩⟩, rfl⟩
section
variable {P : Program} {w : World} {K : PySem.W.Frag} {mg : Str → Option Value} {base : Heap} {C : Cl}
noncomputable def spUp (C : Cl) : Sp := fun vs H Q _ => ∃ (r : Addr) (x : RA) (N : List Net) (A : AS) (k : Int) (p : Peer), vs = [.ref r, .int k, iv p.as, iv p.id] ∧ RAt C H r x A No ∧ AOk N A ∧ (∀ z ∈ A.row, (A.peer z.1).isSome = true) ∧
  (¬ (0 ≤ k ∧ k < 8) ∨ A.isUp k = true → Q (.int (-1)) H) ∧
  (0 ≤ k ∧ k < 8 → A.isUp k = false → ∀ (H' : Hp) (x' : RA) (ns : List Net), ns.Pairwise R46.lt → (∀ n, n ∈ ns ↔ ∃ k', (A.g k' n).isSome = true) → Step C H H' r x x' ((A.setPeer k.toNat (some p)).setRow (A.row ++ ns.map fun n => (k.toNat, n))) No → Q (.int 0) H')
noncomputable def pvUp (C : Cl) (A : AS) (x2 : RA) (p : Peer) (ps' : List (Net × Addr)) (r l2 : Addr) (m : Nat) (H3 : Hp) (i : Nat) (σ : L2.St) (H' : Hp) : Prop := ∃ (v : Option V) (x' : RA), σ = [some (.ref r), some (iv m), some (iv p.as), some (iv p.id), v] ∧ Step C (upd H3 l2 (.lst (ps'.map fun p => V.ref p.2))) H' r x2 x' ((A.setPeer m (some p)).setRow (A.row ++ ((ps'.map (·.1)).take i).map fun n => (m, n))) No ∧ H' l2 = some (.lst (ps'.map fun p => V.ref p.2))
theorem scUp : FnScope ["self", "k", "as_number", "ident", "network"] ["self", "k", "as_number", "ident"] (defScope sUp) := ⟨rfl, rfl, rfl, by decide +kernel, rfl, by decide +kernel, by decide +kernel⟩
theorem ok_up {f fU fN fW : Addr} {fd fdU fdN fdW : FuncData} (F : Fun K "up" "Router.up" sUp f fd) (T : Txt K mg C) (mU : Meth K C.ro "is_up" fU) (GU : FnOk P w K mg base CX0 1 fU fdU ["self", "k"] (spIsUp C)) (bU : Binds K fdU ["self", "k"] [])
    (M : Mk K C.nb fN) (GN : FnOk P w K mg base CX0 1 fN fdN ["self", "number", "as_number", "ident"] (spNbInit C)) (bN : Binds K fdN ["self", "number", "as_number", "ident"] [])
    (mW : Meth K C.ro "networks_with_route" fW) (GW : FnOk P w K mg base CX0 1 fW fdW ["self"] (spWithRt C)) (bW : Binds K fdW ["self"] []) :
    FnOk P w K mg base CX0 3 f fd ["self", "k", "as_number", "ident"] (spUp C) := by
  obtain ⟨t8, g8⟩ := T.nbours
  obtain ⟨t0, g0⟩ := T.done
  obtain ⟨tr, gr⟩ := T.refused
  refine F.ok scUp (fun vs H Q E h => ?_) (fun cdv A0 outer s H vs Q E hr h => ?_)
  · obtain ⟨r, x, N, A, k, p, rfl, _⟩ := h
    rfl
  · obtain ⟨r, x, N, A, k, p, rfl, hR, hA, hrow, q1, q2⟩ := h
    obtain ⟨n1, n2, n3, n4⟩ := T.roA
    obtain ⟨dx, hobj⟩ := hR.base.obj
    refine ⟨_, pss_cons (ps_if (PW.pt (pw_or (pt_not (pt_chain op_le op_lt pe_int (pv 1) (pe_glob (v := .int 8) rfl g8 ⟨t8, rfl⟩))) (pw_or1 (pt_val (pe_meth (pv 0) T.ro mU GU (hr.mono (by decide)) bU .nil pass0 (pa_cons (pv 1) pa_nil)))))) (pss_one (ps_ret (pe_glob (v := .int (-1)) rfl gr ⟨tr, rfl⟩))) pss_nil)
      (pss_cons (ps_asg (pe_make M GN hr rfl T.mNb bN .nil pass0 (pa_cons (pv 1) (pa_cons (pv 2) (pa_cons (pv 3) pa_nil)))) (pg_sub (pe_fld (pv 0) rfl) (pv 1) set_list))
      (pss_cons (ps_for PassesOwn.never rfl (pi_list (pe_callB cr_sortN rfl T.srt rfl (pa_cons (pe_meth0 (pv 0) T.ro mW GW (hr.mono (by decide)) bW .nil pass0) pa_nil))) (pg_name (i := 4) scUp.nd rfl (Or.inl rfl))
        (pss_one (ps_xput (T := pairK) (hu2_of hr) (pe_fld (pv 0) rfl) (pe_tup (pa_cons (pv 1) (pa_cons (pv 4) pa_nil))) pe_bl rfl)))
      (pss_one (ps_ret (pe_glob (v := .int 0) rfl g0 ⟨t0, rfl⟩))))), ?_⟩
    try dsimp only [cx_K]
    refine ⟨_, rfl, _, _, rfl, rfl, _, rfl, ?_⟩
    by_cases h0 : (0 : Int) ≤ k
    · rw [decide_eq_true h0]
      refine iteT ⟨_, _, rfl, rfl, _, rfl, ?_⟩
      by_cases h1 : k < 8
      · rw [decide_eq_true h1]
        refine iteF (q_meth rfl hobj rfl (args1 rfl ⟨r, x, A, k, rfl, hR.base, _, rfl, ?_⟩))
        cases hu : A.isUp k with
        | true => exact iteT (q1 (.inr hu))
        | false =>
          obtain ⟨m, rfl⟩ := Int.eq_ofNat_of_zero_le h0
          have hm : m < 8 := by omega
          refine iteF ⟨_, rfl, _, rfl, _, rfl, ?_⟩
          intro na dn hna hdn hne
          refine ⟨na, dn, m, p, rfl, upd_same, fun H1 hN1 hk1 => ⟨rfl, ?_⟩⟩
          have s1 : Same H H1 := fun b o hb => hk1 b o (by rw [upd_ne (ne_of_none hb hna), upd_ne (ne_of_none hb hdn)]; exact hb) (by simpa using ne_of_none hb hna)
          have hR1 := hR.same s1
          obtain ⟨dx1, hobj1⟩ := hR1.base.obj
          refine q_fld rfl hobj1 T.ro n2 rfl ⟨_, rfl, x.nl, _, _, m, rfl, rfl, hR1.base.nl, ?_, ?_⟩
          · unfold ixN
            rw [if_pos (by omega), List.length_map, hR1.base.len, if_pos (by omega), Int.toNat_natCast]
          have S1 := hR1.setNb hm (o := some na) (p := some p) hN1
          generalize hH2 : upd H1 x.nl (.lst ((x.nbs.map nbV).set m (nbV (some na)))) = H2 at S1
          have hH2' : upd H1 x.nl (.lst ((x.nbs.map nbV).set m (V.ref na))) = H2 := hH2
          rw [hH2']
          generalize hx2 : ({ x with nbs := x.nbs.set m (some na) } : RA) = x2 at S1
          have eq2 : x2.es = x.es := by rw [← hx2]
          have hA1 : AOk N (A.setPeer m (some p)) := hA.setPeer m (some p)
          have hfew := (S1.rat.few hA1 (fun n z => z.elim)).1
          obtain ⟨dx2, hobj2⟩ := S1.rat.base.obj
          refine q_meth rfl hobj2 rfl ⟨r, x2, _, No, rfl, S1.rat, (by omega), fun l hl => ?_⟩
          have s2 : Same H2 (upd H2 l (.lst ((withRt x2.es).map fun y => V.ref y.ka))) := Same.new hl
          have hps : ∀ z ∈ (withRt x2.es).map (fun y => (y.n, y.ka)), H2 z.2 = some (.tup (nV z.1)) := fun z hz => by
            obtain ⟨y, hy, rfl⟩ := List.mem_map.mp hz
            exact S1.rat.nets.ndOn (y.n, y.ka, .ref y.e) (List.mem_map.mpr ⟨y, (List.mem_filter.mp hy).1, rfl⟩)
          refine ⟨l, (withRt x2.es).map (fun y => (y.n, y.ka)), rfl, ?_, fun z hz => s2 _ _ (hps z hz), fun ps' l2 hperm hsort hl2 => ?_⟩
          · rw [List.map_map]; exact SqL.of upd_same
          obtain ⟨hnd, hmem⟩ := withRt_nets S1.rat.nets
          have hperm2 : (ps'.map (·.1)).Perm ((withRt x2.es).map (·.n)) := by
            have := hperm.map (·.1)
            rw [List.map_map] at this
            exact this
          have hnd' : (ps'.map (·.1)).Nodup := hperm2.nodup_iff.mpr hnd
          have hsorted := sorted_nets hsort hnd'
          have hmem' : ∀ n, n ∈ ps'.map (·.1) ↔ ∃ k', (A.g k' n).isSome = true := fun n => (hperm2.mem_iff).trans (hmem n)
          have hpt : ∀ z ∈ ps', H2 z.2 = some (.tup (nV z.1)) := fun z hz => hps z (hperm.mem_iff.mp hz)
          generalize hH3 : upd H2 l (.lst ((withRt x2.es).map fun y => V.ref y.ka)) = H3 at s2 hl2
          have s3 : Same H3 (upd H3 l2 (.lst (ps'.map fun p => V.ref p.2))) := Same.new hl2
          have hR4 := (S1.rat.same s2).same s3
          have hlm : l2 ∉ x2.muts r := (S1.rat.same s2).fresh hl2
          have noK : ∀ z ∈ A.row, z.1 ≠ m := fun z hz e => by
            have h' := hrow z hz
            rw [e] at h'
            unfold AS.isUp at hu
            rw [decide_eq_true (show (0 : Int) ≤ (m : Int) ∧ (m : Int) < 8 from ⟨h0, h1⟩), Bool.true_and, Int.toNat_natCast, h'] at hu
            cases hu
          refine ⟨l2, rfl, ⟨_, SqL.of upd_same⟩, for_list (K := K) (a := l2) (xs := ps'.map fun p => V.ref p.2) (pvUp C A x2 p ps' r l2 m H3)
            ⟨none, x2, rfl, ?_, upd_same⟩ (fun i σ H' _ hm => by obtain ⟨_, _, _, _, h1⟩ := hm; exact SqL.of h1) ?_ ?_⟩
          · have e : (A.setPeer m (some p)).setRow (A.row ++ ((ps'.map (·.1)).take 0).map fun n => (m, n)) = A.setPeer m (some p) := by
              rw [List.take_zero, List.map_nil, List.append_nil]; rfl
            rw [e]
            exact Step.same Same.refl hR4
          · rintro i v σ H' hi ⟨v0, x', rfl, S, hl'⟩
            obtain ⟨z, hz, rfl⟩ := map_get hi
            have hzn : (ps'.map (·.1))[i]? = some z.1 := by rw [List.getElem?_map, hz]; rfl
            have hzm : z.1 ∈ ps'.map (·.1) := List.mem_of_getElem? hzn
            obtain ⟨dx', hobj'⟩ := S.rat.base.obj
            have hAi : AOk N ((A.setPeer m (some p)).setRow (A.row ++ ((ps'.map (·.1)).take i).map fun n => (m, n))) := hA1.setRow fun y hy => by
              rcases List.mem_append.mp hy with hy | hy
              · exact hA.row y hy
              · obtain ⟨n, hn, rfl⟩ := List.mem_map.mp hy
                obtain ⟨k', hk'⟩ := (hmem' n).mp (List.mem_of_mem_take hn)
                exact ⟨hm, hA.all n ⟨k', .inl hk'⟩⟩
            have hfw := (S.rat.few hAi (fun n z => z.elim)).2
            refine q_fld rfl hobj' T.ro n4 rfl ⟨_, rfl, _, rfl, (by show 2 ≤ sizeLine; decide), fun t ht => ?_⟩
            have s5 : Same H' (upd H' t (.tup [iv m, .ref z.2])) := Same.new ht
            have hR5 := S.rat.same s5
            have hz2 : H' z.2 = some (.tup (nV z.1)) := S.imm.tup _ _ (s3 _ _ (s2 _ _ (hpt z (List.mem_of_getElem? hz))))
            have hon : pairK.on (upd H' t (.tup [iv m, .ref z.2])) (m, z.1) t := ⟨z.2, upd_same, s5 _ _ hz2⟩
            have hno : (m, z.1) ∉ A.row ++ ((ps'.map (·.1)).take i).map fun n => (m, n) := fun hc => by
              rcases List.mem_append.mp hc with hc | hc
              · exact noK _ hc rfl
              · obtain ⟨n, hn, e⟩ := List.mem_map.mp hc
                injection e with _ e
                subst e
                obtain ⟨j, hj, ej⟩ := List.mem_take_iff_getElem.mp hn
                have hne : j ≠ i := by omega
                exact hne (nd_ix hnd' (List.getElem?_eq_some_iff.mpr ⟨by omega, ej⟩) hzn)
            obtain ⟨ee, S6⟩ := hR5.addW hon hno
            refine ⟨x'.wd, t, _, (m, z.1), rfl, rfl, hR5.wait.wd, hR5.wait.wdOn, hon, small_line (by unfold wsV; rw [List.length_map]; omega), ?_⟩
            rw [ee]
            have S7 := (S.trans (Step.same s5 S.rat)).trans S6
            refine ⟨_, { x' with ws := x'.ws ++ [((m, z.1), t)] }, rfl, ?_, S6.keep _ _ (s5 _ _ hl') (S.out upd_same hlm)⟩
            have e : A.row ++ ((ps'.map (·.1)).take (i + 1)).map (fun n => (m, n)) = A.row ++ ((ps'.map (·.1)).take i).map (fun n => (m, n)) ++ [(m, z.1)] := by
              rw [take_snoc hzn, List.map_append, List.append_assoc]; rfl
            rw [e]
            exact S7
          · rintro σ H' ⟨v0, x', rfl, S, hl'⟩
            rw [List.length_map] at S
            rw [List.take_of_length_le (by rw [List.length_map]; exact Nat.le_refl _)] at S
            refine q2 ⟨h0, h1⟩ hu H' x' _ hsorted hmem' ?_
            have S0 := (Step.same s1 hR).trans S1
            have S00 := (S0.trans ((Step.same s2 S1.rat).trans (Step.same s3 (S1.rat.same s2)))).trans S
            rw [Int.toNat_natCast]
            exact S00
      · rw [decide_eq_false h1]
        exact iteT (q1 (.inl fun z => h1 z.2))
    · rw [decide_eq_false h0]
      exact iteF ⟨_, rfl, iteT (q1 (.inl fun z => h0 z.1))⟩
end
end R46
end
section
set_option linter.all false
set_option Elab.async false
set_option maxRecDepth 100000
set_option maxHeartbeats 2000000
namespace R46
open PySem PySem.Spec PyProof.Rows L2
open Sf46 (Net Peer Route better Told isNet look)
noncomputable abbrev sForgetAll : Stmt := sRo 16
theorem RAt.side {C : Cl} {H : Hp} {r D : Addr} {x : RA} {A : AS} {X : Net → Prop} {xs ys : List V} (h : RAt C H r x A X) (hD : H D = some (.lst xs)) (hn : D ∉ x.muts r) : RAt C (upd H D (.lst ys)) r x A X := by
  have im : Imm C H (upd H D (.lst ys)) := Imm.upd hD (fun _ z => nomatch z) (fun _ _ z => nomatch z) (fun _ _ z => nomatch z)
  unfold RA.muts at hn
  simp only [List.mem_cons, not_or] at hn
  obtain ⟨h1, h2, h3, h4, h5⟩ := hn
  exact ⟨h.base.keep im (Stay.upd (by simp [h1, h2])), h.nets.keep im (Stay.upd (by simp [h3, h5])), h.wait.keep (C := C) im (Stay.upd (by simp [h4])), h.sep⟩
theorem Step.side {C : Cl} {H H' : Hp} {r D : Addr} {x x' : RA} {A' : AS} {X' : Net → Prop} {xs ys : List V} (S : Step C H H' r x x' A' X') (h0 : H D = none) (hD : H' D = some (.lst xs)) (hn : D ∉ x'.muts r) : Step C H (upd H' D (.lst ys)) r x x' A' X' :=
  ⟨S.rat.side hD hn, fun b o hb hc => by rw [upd_ne (ne_of_none hb h0)]; exact S.keep b o hb hc, S.new, fun b o hb hu => by rw [upd_ne (ne_of_none hb h0)]; exact S.imm b o hb hu⟩
noncomputable def AS.cut (A : AS) (k : Nat) (ns : List Net) : AS := { A with g := fun k' n => if k' = k ∧ n ∈ ns then none else A.g k' n, t := fun k' n => if k' = k ∧ n ∈ ns then none else A.t k' n }
noncomputable def AS.dropK (A : AS) (k : Nat) : AS := { A with g := fun k' n => if k' = k then none else A.g k' n, t := fun k' n => if k' = k then none else A.t k' n }
theorem AS.cut_nil (A : AS) (k : Nat) : A.cut k [] = A := by
  unfold AS.cut
  simp
theorem AS.cut_snoc (A : AS) (k : Nat) (ns : List Net) (n : Net) : ((A.cut k ns).setT k n none).setG k n none = A.cut k (ns ++ [n]) := by
  unfold AS.cut AS.setT AS.setG
  simp only [AS.mk.injEq, true_and, and_true]
  constructor
  · funext k' n'
    by_cases h1 : k' = k
    · by_cases h2 : n' = n
      · simp [h1, h2]
      · simp [h1, h2]
    · simp [h1]
  · funext k' n'
    by_cases h1 : k' = k
    · by_cases h2 : n' = n
      · simp [h1, h2]
      · simp [h1, h2]
    · simp [h1]
theorem AS.cut_all (A : AS) (k : Nat) (ns : List Net) (h : ∀ n, A.known n → n ∈ ns) : A.cut k ns = A.dropK k := by
  unfold AS.cut AS.dropK
  simp only [AS.mk.injEq, true_and, and_true]
  constructor
  · funext k' n'
    by_cases h1 : k' = k
    · by_cases h2 : n' ∈ ns
      · simp [h1, h2]
      · have : A.g k' n' = none := by
          cases e : A.g k' n' with
          | none => rfl
          | some b => exact absurd (h n' ⟨k', .inl (by rw [e]; rfl)⟩) h2
        subst h1
        simp [h2, this]
    · simp [h1]
  · funext k' n'
    by_cases h1 : k' = k
    · by_cases h2 : n' ∈ ns
      · simp [h1, h2]
      · have : A.t k' n' = none := by
          cases e : A.t k' n' with
          | none => rfl
          | some b => exact absurd (h n' ⟨k', .inr (by rw [e]; rfl)⟩) h2
        subst h1
        simp [h2, this]
    · simp [h1]
theorem AS.setT_id {A : AS} {k : Nat} {n : Net} (h : A.t k n = none) : A.setT k n none = A := by
  have : (fun k' n' => if k' = k ∧ n' = n then none else A.t k' n') = A.t := by
    funext k' n'
    split
    · rename_i e; rw [e.1, e.2, h]
    · rfl
  unfold AS.setT
  rw [this]
theorem RAt.popT {C : Cl} {H : Hp} {r : Addr} {x : RA} {A : AS} {X : Net → Prop} (h : RAt C H r x A X) {y : Ent} (hy : y ∈ x.es) (hX : ∀ n, X n → n = y.n) (k : Nat) :
    ((look y.ts k).isSome = true → ∃ x', Step C H (upd H y.td (.dK (kvs (dropR y.ts k)))) r x x' (A.setT k y.n none) (fun n => n = y.n)) ∧ (look y.ts k = none → Step C H H r x x (A.setT k y.n none) (fun n => n = y.n)) := by
  have hE := h.nets.ents y hy
  constructor
  · intro _
    obtain ⟨x1, S, _⟩ := h.setTs hy (ts' := dropR y.ts k) (k := k) (v := none) (drop_nodup hE.tnd k) (fun k' => by
          rw [look_drop, look_drop, if_pos rfl]) (by rw [look_drop, if_pos rfl]; exact True.intro) hX
    exact ⟨x1, S⟩
  · intro hl
    have ht : A.t k y.n = none := by
      have := both_some (hE.told k)
      rw [hl] at this
      cases hh : A.t k y.n with
      | none => rfl
      | some b => rw [hh] at this; cases this
    rw [AS.setT_id ht]
    exact (Step.same Same.refl h).weak fun m hm => (h.nets.only m hm).imp id (hX m)
section
variable {P : Program} {w : World} {K : PySem.W.Frag} {mg : Str → Option Value} {base : Heap} {C : Cl}
noncomputable def spForgetAll (C : Cl) : Sp := fun vs H Q _ => ∃ (r : Addr) (x : RA) (N : List Net) (A : AS) (k : Nat), vs = [.ref r, iv k] ∧ RAt C H r x A No ∧ AOk N A ∧
  ∀ (H' : Hp) (x' : RA) (D : Addr) (ps : List (Net × Addr)), Step C H H' r x x' (A.dropK k) No → H' D = some (.lst (ps.map fun p => V.ref p.2)) → D ∉ x'.muts r → (∀ p ∈ ps, H' p.2 = some (.tup (nV p.1))) → (ps.map (·.1)).Pairwise R46.lt → (∀ n, n ∈ ps.map (·.1) ↔ (A.g k n).isSome = true) → Q (.ref D) H'
noncomputable def pvAll (C : Cl) (A : AS) (x : RA) (ps' : List (Net × Addr)) (r l D : Addr) (k : Nat) (H : Hp) (i : Nat) (σ : L2.St) (H' : Hp) : Prop := ∃ (v1 v2 : Option V) (x' : RA), σ = [some (.ref r), some (iv k), some (.ref l), some (.ref D), v1, v2] ∧ Step C H H' r x x' (A.cut k ((ps'.map (·.1)).take i)) No ∧ H' l = some (.lst (ps'.map fun p => V.ref p.2)) ∧ l ∉ x'.muts r ∧ H' D = some (.lst (((ps'.take i).filter fun p => (A.g k p.1).isSome).map fun p => V.ref p.2)) ∧ D ∉ x'.muts r
theorem scForgetAll : FnScope ["self", "k", "order", "had_route", "network", "entry"] ["self", "k"] (defScope sForgetAll) := ⟨rfl, rfl, rfl, by decide +kernel, rfl, by decide +kernel, by decide +kernel⟩
theorem ok_forgetAll {f fG : Addr} {fd fdG : FuncData} (F : Fun K "forget_all" "Router.forget_all" sForgetAll f fd) (T : Txt K mg C) (mG : Meth K C.ro "forget" fG) (GG : FnOk P w K mg base CX0 5 fG fdG ["self", "k", "network"] (spForget C)) (bG : Binds K fdG ["self", "k", "network"] []) :
    FnOk P w K mg base CX0 6 f fd ["self", "k"] (spForgetAll C) := by
  refine F.ok scForgetAll (fun vs H Q E h => ?_) (fun cdv A0 outer s H vs Q E hr h => ?_)
  · obtain ⟨r, x, N, A, k, rfl, _⟩ := h
    rfl
  · obtain ⟨r, x, N, A, k, rfl, hR, hA, q⟩ := h
    obtain ⟨n1, n2, n3, n4⟩ := T.roA
    obtain ⟨e1, e2⟩ := T.enA
    obtain ⟨dx, hobj⟩ := hR.base.obj
    have hfew := (hR.few hA (fun n z => z.elim)).1
    refine ⟨_, pss_cons (ps_set (i := 2) scForgetAll.nd rfl (Or.inl rfl) (pe_callB (cr_sortDN rfl) rfl T.srt rfl (pa_cons (pe_fld (pv 0) rfl) pa_nil)))
      (pss_cons (ps_set (i := 3) scForgetAll.nd rfl (Or.inl rfl) (pe_lst pa_nil))
      (pss_cons (ps_for PassesOwn.never rfl (pi_list (pv 2)) (pg_name (i := 4) scForgetAll.nd rfl (Or.inl rfl))
        (pss_cons (ps_set (i := 5) scForgetAll.nd rfl (Or.inl rfl) (pe_xget (T := netK) (hu2_of hr) (pe_fld (pv 0) rfl) (pv 4) (fun _ _ => rfl)))
        (pss_cons (ps_if (pt_cmp (pc_din (hu_of hr) (pv 1) (pe_fld (pv 5) rfl))) (pss_one (ps_expr (pe_bm PySem.F.plainAttrs_list PySem.F.slot_list_append PySem.F.type_list_append mt_append (pv 3) (pa_cons (pv 4) pa_nil)))) pss_nil)
        (pss_cons (ps_expr (pe_dpop2 (pe_fld (pv 5) rfl) (pv 1) pe_non ⟨rfl, rfl, rfl, rfl⟩))
        (pss_one (ps_expr (pe_meth (pv 0) T.ro mG GG hr bG .nil pass0 (pa_cons (pv 1) (pa_cons (pv 4) pa_nil)))))))))
      (pss_one (ps_ret (pv 3))))), ?_⟩
    try dsimp only [cx_K]
    refine q_fld rfl hobj T.ro n3 rfl ⟨x.nd, _, rfl, .inl hR.nets.nd, hR.nets.ndOn, fun ps' l hperm hsort hl => ?_⟩
    have eps : (esV x.es).map (fun p => (p.1, p.2.1)) = x.es.map fun y => (y.n, y.ka) := by unfold esV; rw [List.map_map]; rfl
    rw [eps] at hperm
    have hperm2 : (ps'.map (·.1)).Perm (x.es.map (·.n)) := by
      have := hperm.map (·.1)
      rw [List.map_map] at this
      exact this
    have hnd' : (ps'.map (·.1)).Nodup := hperm2.nodup_iff.mpr hR.nets.keys
    have hsorted := sorted_nets hsort hnd'
    have hmem : ∀ n, n ∈ ps'.map (·.1) ↔ A.known n := fun n => by
      rw [hperm2.mem_iff]
      exact ⟨fun h => (hR.nets.only n h).elim id fun z => z.elim, hR.nets.all n⟩
    have hpt : ∀ z ∈ ps', H z.2 = some (.tup (nV z.1)) := fun z hz => by
      obtain ⟨y, hy, rfl⟩ := List.mem_map.mp (hperm.mem_iff.mp hz)
      exact hR.nets.ndOn (y.n, y.ka, .ref y.e) (List.mem_map.mpr ⟨y, hy, rfl⟩)
    have hlen : ps'.length ≤ 4000 := by
      have := hperm.length_eq
      rw [List.length_map] at this
      omega
    have s1 : Same H (upd H l (.lst (ps'.map fun p => V.ref p.2))) := Same.new hl
    refine ⟨(by show 0 ≤ sizeLine; decide), fun D hD => ?_⟩
    obtain ⟨d1, d0⟩ := upd_none hD
    have s2 : Same (upd H l (.lst (ps'.map fun p => V.ref p.2))) (upd (upd H l (.lst (ps'.map fun p => V.ref p.2))) D (.lst [])) := Same.new hD
    refine ⟨_, rfl, l, rfl, ⟨_, SqL.of (by rw [upd_ne d1.symm]; exact upd_same)⟩, for_list (K := K) (a := l) (xs := ps'.map fun p => V.ref p.2) (pvAll C A x ps' r l D k H)
      ⟨none, none, x, rfl, ?_, ?_, hR.fresh hl, upd_same, hR.fresh d0⟩ (fun i σ H' _ hm => by obtain ⟨_, _, _, _, _, h1, _⟩ := hm; exact SqL.of h1) ?_ ?_⟩
    · rw [List.take_zero, AS.cut_nil]
      exact Step.same (s1.trans s2) hR
    · rw [upd_ne d1.symm]; exact upd_same
    · rintro i v σ H' hi ⟨v1, v2, x', rfl, S, hl', hlm, hD', hDm⟩
      obtain ⟨z, hz, rfl⟩ := map_get hi
      have hzn : (ps'.map (·.1))[i]? = some z.1 := by rw [List.getElem?_map, hz]; rfl
      have hzp := List.mem_of_getElem? hz
      have hz2 : ∀ H2, Imm C H' H2 → H2 z.2 = some (.tup (nV z.1)) := fun H2 im => im.tup _ _ (S.imm.tup _ _ (hpt z hzp))
      have hzno : z.1 ∉ (ps'.map (·.1)).take i := fun hc => by
        obtain ⟨j, hj, ej⟩ := List.mem_take_iff_getElem.mp hc
        have hne : j ≠ i := by omega
        exact hne (nd_ix hnd' (List.getElem?_eq_some_iff.mpr ⟨by omega, ej⟩) hzn)
      have hzk : (A.cut k ((ps'.map (·.1)).take i)).known z.1 := by
        obtain ⟨k', hk'⟩ := (hmem z.1).mp (List.mem_map.mpr ⟨z, hzp, rfl⟩)
        refine ⟨k', ?_⟩
        show ((if k' = k ∧ z.1 ∈ _ then none else A.g k' z.1).isSome = true) ∨ ((if k' = k ∧ z.1 ∈ _ then none else A.t k' z.1).isSome = true)
        rw [if_neg (fun c => hzno c.2), if_neg (fun c => hzno c.2)]
        exact hk'
      obtain ⟨y, hy, hyn⟩ := List.mem_map.mp (S.rat.nets.all _ hzk)
      have hE := S.rat.nets.ents y hy
      obtain ⟨de, he⟩ := hE.obj
      obtain ⟨dx', hobj'⟩ := S.rat.base.obj
      have hval : valX (esV x'.es) z.1 = some (.ref y.e) := by rw [← hyn]; exact esV_some S.rat.nets.keys hy
      refine q_fld rfl hobj' T.ro n3 rfl ⟨_, rfl, x'.nd, z.2, _, z.1, _, rfl, rfl, .inl S.rat.nets.nd, S.rat.nets.ndOn, hz2 _ (Imm.same Same.refl), hval, ?_⟩
      refine ⟨_, rfl, q_fld rfl he T.en e1 rfl ⟨y.rd, _, rfl, DGet.k (k := Sum.inl (k : Int)) hE.rd, _, rfl, ?_⟩⟩
      have hg : (valV (kvs y.rs) (Sum.inl (k : Int))).isSome = (A.g k z.1).isSome := by
        rw [kvs_val, Option.isSome_map, both_some (hE.held k), hyn]
        show (if k = k ∧ z.1 ∈ _ then none else A.g k z.1).isSome = _
        rw [if_neg (fun c => hzno c.2)]
      have rest : ∀ H2, Step C H H2 r x x' (A.cut k ((ps'.map (·.1)).take i)) No → Imm C H' H2 → H2 l = some (.lst (ps'.map fun p => V.ref p.2)) → H2 D = some (.lst (((ps'.take (i + 1)).filter fun p => (A.g k p.1).isSome).map fun p => V.ref p.2)) → H2 y.td = some (.dK (kvs y.ts)) → (∃ de, H2 y.e = some (.ins C.en de (enF y.rd y.td))) →
          tSeq (tDrop (tDPop2 (tFld K (tVar 5) "told") (tVar 1) (tC .non))) (tDrop (tMeth C.ro "forget" (spForget C) [] E0 (tVar 0) (tCons (tVar 1) (tCons (tVar 4) tNil)))) { nx := pvAll C A x ps' r l D k H (i + 1), rt := Q } [some (.ref r), some (iv k), some (.ref l), some (.ref D), some (.ref z.2), some (.ref y.e)] H2 := by
        intro H2 S2 im2 hl2 hD2 htd2 ⟨de2, he2⟩
        obtain ⟨p1, p2⟩ := S2.rat.popT hy (fun n z => z.elim) k
        have fin : ∀ H3 x3, Step C H2 H3 r x' x3 ((A.cut k ((ps'.map (·.1)).take i)).setT k y.n none) (fun n => n = y.n) → tDrop (tMeth C.ro "forget" (spForget C) [] E0 (tVar 0) (tCons (tVar 1) (tCons (tVar 4) tNil))) { nx := pvAll C A x ps' r l D k H (i + 1), rt := Q } [some (.ref r), some (iv k), some (.ref l), some (.ref D), some (.ref z.2), some (.ref y.e)] H3 := by
          intro H3 x3 S3
          obtain ⟨dx3, hobj3⟩ := S3.rat.base.obj
          rw [hyn] at S3
          refine q_meth rfl hobj3 rfl (args2 rfl rfl ⟨r, z.2, x3, _, z.1, k, rfl, S3.rat, hz2 _ (im2.trans S3.imm), fun H4 x4 S4 => ?_⟩)
          have S24 := S3.trans S4
          refine ⟨_, _, x4, rfl, ?_, S24.keep _ _ hl2 hlm, S24.out hl2 hlm, S24.keep _ _ hD2 hDm, S24.out hD2 hDm⟩
          have := S2.trans S24
          rw [AS.cut_snoc] at this
          rw [take_snoc hzn]
          exact this
        refine q_fld rfl he2 T.en e2 rfl ⟨y.td, rfl, .inl ⟨_, .inl htd2⟩, _, rfl, kvs y.ts, Sum.inl (k : Int), htd2, rfl, fun v hv => ?_, fun hv => ?_⟩
        · rw [kvs_drop]
          rw [kvs_val] at hv
          obtain ⟨x3, S3⟩ := p1 (by cases hh : look y.ts k with | none => rw [hh] at hv; cases hv | some _ => rfl)
          exact fin _ x3 S3
        · rw [kvs_val] at hv
          exact fin _ x' (p2 (Option.map_eq_none_iff.mp hv))
      have htake : (ps'.take (i + 1)).filter (fun p => (A.g k p.1).isSome) = (ps'.take i).filter (fun p => (A.g k p.1).isSome) ++ (if (A.g k z.1).isSome = true then [z] else []) := by
        rw [take_snoc hz, List.filter_append, List.filter_cons, List.filter_nil]
      rw [hg]
      obtain ⟨my1, my2, my3⟩ := mem_esM hy
      have inM : ∀ b ∈ esM x'.es, b ∈ x'.muts r := fun b hb => by unfold RA.muts; simp [hb]
      cases hgk : (A.g k z.1).isSome with
      | true =>
        rw [hgk, if_pos rfl] at htake
        refine iteT ⟨_, rfl, .inl ⟨rfl, _, SqL.of hD'⟩, _, rfl, D, _, _, rfl, rfl, hD', ?_, ?_⟩
        · rw [List.length_map]
          have : ((ps'.take i).filter fun p => (A.g k p.1).isSome).length ≤ ps'.length := Nat.le_trans (List.length_filter_le _ _) (by rw [List.length_take]; omega)
          rw [sizeLine_eq]; omega
        · have im2 : Imm C H' (upd H' D (.lst ((((ps'.take i).filter fun p => (A.g k p.1).isSome).map fun p => V.ref p.2) ++ [V.ref z.2]))) := Imm.upd hD' (fun _ z => nomatch z) (fun _ _ z => nomatch z) (fun _ _ z => nomatch z)
          refine rest _ (S.side d0 hD' hDm) im2 (by rw [upd_ne d1.symm]; exact hl') ?_ ?_ ⟨de, ?_⟩
          · rw [upd_same, htake, List.map_append]; rfl
          · rw [upd_ne (fun e => hDm (by rw [← e]; exact inM _ my3))]; exact hE.td
          · rw [upd_ne (fun e => hDm (by rw [← e]; exact inM _ my1))]; exact he
      | false =>
        rw [hgk, if_neg Bool.false_ne_true, List.append_nil] at htake
        refine iteF (rest _ S (Imm.same Same.refl) hl' ?_ hE.td ⟨de, he⟩)
        rw [htake]; exact hD'
    · rintro σ H' ⟨v1, v2, x', rfl, S, hl', hlm, hD', hDm⟩
      rw [List.length_map] at S hD'
      rw [List.take_of_length_le (by rw [List.length_map]; exact Nat.le_refl _), AS.cut_all _ _ _ (fun n hn => (hmem n).mpr hn)] at S
      rw [List.take_length] at hD'
      refine ⟨_, rfl, q H' x' D _ S hD' hDm (fun p hp => S.imm.tup _ _ (hpt p (List.mem_filter.mp hp).1)) ?_ fun n => ?_⟩
      · exact hsorted.sublist (List.filter_sublist.map _)
      · constructor
        · intro hn
          obtain ⟨p, hp, rfl⟩ := List.mem_map.mp hn
          exact (List.mem_filter.mp hp).2
        · intro hn
          obtain ⟨p, hp, rfl⟩ := List.mem_map.mp ((hmem n).mpr ⟨k, .inl hn⟩)
          exact List.mem_map.mpr ⟨p, List.mem_filter.mpr ⟨hp, hn⟩, rfl⟩
end
end R46
end
section
set_option linter.all false
set_option Elab.async false
set_option maxRecDepth 100000
set_option maxHeartbeats 2000000
namespace L2
open PySem PySem.Spec PyProof.Rows
theorem for_enum {K : PySem.W.Frag} {a : Addr} {xs : List V} {g : TG} {tb : TS} {D : Ends} {σ : St} {H : Hp} (Pv : Nat → St → Hp → Prop) (h0 : Pv 0 σ H) (hl : ∀ i σ H, i ≤ xs.length → Pv i σ H → SqL K H a xs)
    (hs : ∀ i x σ H T, xs[i]? = some x → Pv i σ H → H T = none → g (.ref T) σ (upd H T (.tup [.int (i : Nat), x])) fun σ2 H2 => tb { D with nx := Pv (i + 1), ct := Pv (i + 1), bk := D.nx } σ2 H2) (hd : ∀ σ H, Pv xs.length σ H → D.nx σ H) :
    ∃ W : Nat → Nat → St → Hp → Prop, (∃ m, W 0 m σ H) ∧ ∀ i m σ H, W i m σ H →
      ((Ite K a).stop i H ∧ D.nx σ H) ∨ ((Ite K a).go i H ∧ ∃ N : St → Hp → Prop, (∀ σ' H', N σ' H' → ∃ m', m' < m ∧ W (i + 1) m' σ' H') ∧ ∀ x H', (Ite K a).yld i H x H' → g x σ H' fun σ2 H2 => tb { D with nx := N, ct := N, bk := D.nx } σ2 H2) := by
  refine ⟨fun i m σ H => m = xs.length - i ∧ i ≤ xs.length ∧ Pv i σ H, ⟨xs.length, by simp, Nat.zero_le _, h0⟩, ?_⟩
  rintro i m σ H ⟨rfl, hi, p⟩
  have q := hl i σ H hi p
  by_cases hlt : i < xs.length
  · refine .inr ⟨⟨xs, xs[i], q, by simp [hlt]⟩, Pv (i + 1), fun σ' H' p' => ⟨xs.length - (i + 1), by omega, rfl, hlt, p'⟩, fun v H' y => ?_⟩
    obtain ⟨T, x, rfl, hT, rfl, y⟩ := y
    exact hs i x σ H T (y xs q) p hT
  · have e : i = xs.length := by omega
    subst e
    exact .inl ⟨⟨xs, q, Nat.le_refl _⟩, hd σ H p⟩
end L2
namespace R46
open PySem PySem.Spec PyProof.Rows L2
open Sf46 (Net Peer Route better Told isNet look)
noncomputable abbrev sLookAt : Stmt := sRo 21
theorem args0 {σ : L2.St} {H : Hp} {G : List V → Hp → Prop} (k : G [] H) : tNil σ H G := k
noncomputable def AS.best (A : AS) (n : Net) : Option RtX := ((List.range 8).filterMap fun k => A.g k n).foldl pick none
noncomputable def AS.look1 (A : AS) (n : Net) (row : List (Nat × Net)) (k : Nat) : List (Nat × Net) := match A.peer k with
  | none => row
  | some p => rowIf (decide (due A.self (A.best n) k p = A.t k n)) row (k, n)
noncomputable def AS.lookAt (A : AS) (n : Net) : AS := A.setRow ((List.range 8).foldl (A.look1 n) A.row)
theorem look1_some {A : AS} {n : Net} {row : List (Nat × Net)} {k : Nat} {p : Peer} (hp : A.peer k = some p) : A.look1 n row k = rowIf (decide (due A.self (A.best n) k p = A.t k n)) row (k, n) := by
  unfold AS.look1
  rw [hp]
theorem look1_none {A : AS} {n : Net} {row : List (Nat × Net)} {k : Nat} (hp : A.peer k = none) : A.look1 n row k = row := by
  unfold AS.look1
  rw [hp]
theorem range_incr (m : Nat) : (List.range m).Pairwise (· < ·) := List.pairwise_lt_range
theorem best_eq {A : AS} {N : List Net} (o : AOk N A) {n : Net} {ks : List Nat} (hi : ks.Pairwise (· < ·)) (hm : ∀ k, k ∈ ks ↔ (A.g k n).isSome = true) : (ks.filterMap fun k => A.g k n).foldl pick none = A.best n := by
  unfold AS.best
  have e : ks = (List.range 8).filter fun k => (A.g k n).isSome := incr_eq hi ((range_incr 8).filter _) fun k => by
    rw [hm k, List.mem_filter, List.mem_range]
    exact ⟨fun h => ⟨by obtain ⟨b, hb⟩ := Option.isSome_iff_exists.mp h; exact (o.g k n b hb).1, h⟩, fun h => h.2⟩
  rw [e, filterMap_filter (fun k => A.g k n)]
theorem best_q {C : Cl} {H : Hp} {A : AS} {N : List Net} {y : Ent} {Q : VK} {E : XK} (h : EnAt C H A y) (o : AOk N A) (q : ∀ (v : V) (H' : Hp), Same H H' → BestIs C H' v (A.best y.n) → Q v H') : spEnBest C [.ref y.e] H Q E := by
  obtain ⟨de, he⟩ := h.obj
  refine ⟨y.e, de, y.rd, y.td, y.rs, fun k => A.g k y.n, rfl, he, h.rd, h.rnd, ?_, h.held, fun k b hb hn => ?_, fun v H' ks s hi hm hb => q v H' s ?_⟩
  · have := (h.few o).1; omega
  · have := (o.g k _ b hb).2.2.1
    rw [hn] at this
    exact absurd this (by simp)
  · rw [← best_eq o hi hm]; exact hb
theorem NewEnt.ent {C : Cl} {H H' : Hp} {nd e rd td na : Addr} {es : List Ent} {A : AS} {X : Net → Prop} {n : Net} (hN : NewEnt C H H' e rd td) (h : NetsAt C H nd es A X) (hno : n ∉ es.map (·.n)) : EnAt C H' A ⟨n, na, e, rd, td, [], []⟩ := by
  refine ⟨hN.obj, hN.dr, hN.dt, List.nodup_nil, List.nodup_nil, fun k => ?_, fun k => ?_⟩
  · show Both _ none (A.g k n)
    cases hh : A.g k n with
    | none => exact True.intro
    | some b => exact absurd (h.all n ⟨k, .inl (by rw [hh]; rfl)⟩) hno
  · show Both _ none (A.t k n)
    cases hh : A.t k n with
    | none => exact True.intro
    | some b => exact absurd (h.all n ⟨k, .inr (by rw [hh]; rfl)⟩) hno
theorem EnAt.same {C : Cl} {H H' : Hp} {A : AS} {y : Ent} (s : Same H H') (h : EnAt C H A y) : EnAt C H' A y := h.keep (.same s) (fun o => s _ o) (fun o => s _ o) (fun o => s _ o)
noncomputable def EntOr (H : Hp) (x : RA) (y : Ent) : Prop := y ∈ x.es ∨ (H y.e = none ∧ H y.rd = none ∧ H y.td = none ∧ y.n ∉ x.es.map (·.n))
theorem entryOf_q {C : Cl} {H : Hp} {r na : Addr} {x : RA} {A : AS} {X : Net → Prop} {n : Net} {Q : VK} {E : XK} (hB : BaseAt C H r x A) (hN : NetsAt C H x.nd x.es A X) (hna : H na = some (.tup (nV n)))
    (q : ∀ (y : Ent) (H' : Hp), y.n = n → EnAt C H' A y → Same H H' → EntOr H x y → Q (.ref y.e) H') : spEntryOf C [.ref r, .ref na] H Q E := by
  refine ⟨r, na, x, A, X, n, rfl, hB, hN, hna, fun y hy e => q y H e (hN.ents y hy) Same.refl (.inl hy), fun hno H' e rd td hE => ?_⟩
  exact q ⟨n, na, e, rd, td, [], []⟩ H' rfl (hE.ent hN hno) hE.same (.inr ⟨hE.fe, hE.fr, hE.ft, hno⟩)
theorem EnAt.stay {C : Cl} {H H2 H' : Hp} {r : Addr} {x x' : RA} {A A0 : AS} {X0 X' : Net → Prop} {row : List (Nat × Net)} {y : Ent} (hR : RAt C H r x A0 X0) (hor : EntOr H x y) (hE : EnAt C H2 A y) (S : Step C H2 H' r x x' (A.setRow row) X') (hes : x'.es = x.es) : EnAt C H' A y := by
  rcases hor with hy | ⟨f1, f2, f3, _⟩
  · have z := S.rat.nets.ents y (by rw [hes]; exact hy)
    exact ⟨z.obj, z.rd, z.td, z.rnd, z.tnd, z.held, z.told⟩
  · exact hE.keep S.imm (fun o ho => S.keep _ o ho (hR.fresh f1)) (fun o ho => S.keep _ o ho (hR.fresh f2)) (fun o ho => S.keep _ o ho (hR.fresh f3))
theorem BestIs.imm {C : Cl} {H H' : Hp} {v : V} {o : Option RtX} (m : Imm C H H') (h : BestIs C H v o) : BestIs C H' v o := by
  cases o with
  | none => exact h
  | some b =>
    obtain ⟨a, h1, h2, h3⟩ := h
    exact ⟨a, h1, h2.imm m, h3⟩
theorem told_is {C : Cl} {H : Hp} {A : AS} {y : Ent} (h : EnAt C H A y) (k : Nat) : DueIs H ((valV (kvs y.ts) (Sum.inl (k : Int))).getD .non) (A.t k y.n) := by
  rw [kvs_val]
  have hb := h.told k
  cases hl : look y.ts k with
  | none =>
    rw [hl] at hb
    cases ht : A.t k y.n with
    | none => rfl
    | some b => rw [ht] at hb; exact hb.elim
  | some a =>
    rw [hl] at hb
    cases ht : A.t k y.n with
    | none => rw [ht] at hb; exact hb.elim
    | some b => rw [ht] at hb; exact ⟨a, rfl, hb⟩
theorem look1_mem {A : AS} {n : Net} {row : List (Nat × Net)} {k : Nat} {z : Nat × Net} (h : z ∈ A.look1 n row k) : z ∈ row ∨ z = (k, n) := by
  unfold AS.look1 at h
  split at h
  · exact .inl h
  · unfold rowIf at h
    split at h
    · exact .inl (List.mem_filter.mp h).1
    · split at h
      · exact .inl h
      · rcases List.mem_append.mp h with h | h
        · exact .inl h
        · exact .inr (by simpa using h)
theorem looks_mem {A : AS} {N : List Net} (o : AOk N A) {n : Net} (hn : n ∈ N) : ∀ i, i ≤ 8 → ∀ z ∈ (List.range i).foldl (A.look1 n) A.row, z.1 < 8 ∧ z.2 ∈ N
  | 0, _, z, hz => o.row z hz
  | i + 1, hi, z, hz => by
    rw [List.range_succ, List.foldl_append] at hz
    rcases look1_mem (show z ∈ A.look1 n _ i from hz) with h | h
    · exact looks_mem o hn i (by omega) z h
    · rw [h]; exact ⟨by show i < 8; omega, hn⟩
section
variable {P : Program} {w : World} {K : PySem.W.Frag} {mg : Str → Option Value} {base : Heap} {C : Cl}
noncomputable def spLookAt (C : Cl) : Sp := fun vs H Q _ => ∃ (r na : Addr) (x : RA) (N : List Net) (A : AS) (n : Net), vs = [.ref r, .ref na] ∧ RAt C H r x A No ∧ AOk N A ∧ n ∈ N ∧ H na = some (.tup (nV n)) ∧ ∀ (H' : Hp) (x' : RA), Step C H H' r x x' (A.lookAt n) No → Q .non H'
noncomputable def pvLook (C : Cl) (A : AS) (x : RA) (n : Net) (r na e : Addr) (bv : V) (H2 : Hp) (i : Nat) (σ : L2.St) (H' : Hp) : Prop := ∃ (v4 v5 v6 : Option V) (x' : RA), σ = [some (.ref r), some (.ref na), some (.ref e), some bv, v4, v5, v6] ∧ Step C H2 H' r x x' (A.setRow ((List.range i).foldl (A.look1 n) A.row)) No ∧ x'.es = x.es ∧ x'.nl = x.nl ∧ x'.nbs = x.nbs
theorem scLookAt : FnScope ["self", "network", "entry", "best", "k", "neighbour", "due"] ["self", "network"] (defScope sLookAt) := ⟨rfl, rfl, rfl, by decide +kernel, rfl, by decide +kernel, by decide +kernel⟩
theorem ok_lookAt {f fO fB fS fI : Addr} {fd fdO fdB fdS fdI : FuncData} (F : Fun K "look_at" "Router.look_at" sLookAt f fd) (T : Txt K mg C) (mO : Meth K C.ro "entry_of" fO) (GO : FnOk P w K mg base CX0 3 fO fdO ["self", "network"] (spEntryOf C)) (bO : Binds K fdO ["self", "network"] [])
    (mB : Meth K C.en "best_route" fB) (GB : FnOk P w K mg base CX0 4 fB fdB ["self"] (spEnBest C)) (bB : Binds K fdB ["self"] [])
    (GS : FnOk P w K mg base CX0 1 fS fdS ["best", "neighbour", "self_number"] (spShould C)) (kS : PySem.W.keepIn K (.ref fS) = true) (bS : Binds K fdS ["best", "neighbour", "self_number"] []) (mS : mg "should_be_told" = some (.ref fS))
    (mI : Meth K C.ro "wait_if_due" fI) (GI : FnOk P w K mg base CX0 1 fI fdI ["self", "pair", "due", "told"] (spWaitIf C)) (bI : Binds K fdI ["self", "pair", "due", "told"] []) :
    FnOk P w K mg base CX0 5 f fd ["self", "network"] (spLookAt C) := by
  refine F.ok scLookAt (fun vs H Q E h => ?_) (fun cdv A0 outer s H vs Q E hr h => ?_)
  · obtain ⟨r, na, x, N, A, n, rfl, _⟩ := h
    rfl
  · obtain ⟨r, na, x, N, A, n, rfl, hR, hA, hnN, hna, q⟩ := h
    obtain ⟨n1, n2, n3, n4⟩ := T.roA
    obtain ⟨e1, e2⟩ := T.enA
    obtain ⟨dx, hobj⟩ := hR.base.obj
    refine ⟨_, pss_cons (ps_set (i := 2) scLookAt.nd rfl (Or.inl rfl) (pe_meth (pv 0) T.ro mO GO (hr.mono (by decide)) bO .nil pass0 (pa_cons (pv 1) pa_nil)))
      (pss_cons (ps_set (i := 3) scLookAt.nd rfl (Or.inl rfl) (pe_meth0 (pv 2) T.en mB GB hr bB .nil pass0))
      (pss_one (ps_for PassesOwn.never rfl (pi_enum rfl T.enu (pa_cons (pe_fld (pv 0) rfl) pa_nil)) (pg_tup rfl (pgs_cons (pg_name (i := 4) scLookAt.nd rfl (Or.inl rfl)) (pgs_cons (pg_name (i := 5) scLookAt.nd rfl (Or.inl rfl)) pgs_nil)))
        (pss_one (ps_if (pt_cmp (pc_notN (pv 5)))
          (pss_cons (ps_set (i := 6) scLookAt.nd rfl (Or.inl rfl) (pe_call GS (hr.mono (by decide)) rfl mS kS bS .nil pass0 (pa_cons (pv 3) (pa_cons (pv 5) (pa_cons (pe_fld (pv 0) rfl) pa_nil)))))
          (pss_one (ps_expr (pe_meth (pv 0) T.ro mI GI (hr.mono (by decide)) bI .nil pass0 (pa_cons (pe_tup (pa_cons (pv 4) (pa_cons (pv 1) pa_nil))) (pa_cons (pv 6) (pa_cons (pe_dget1 (hu_of hr) (pe_fld (pv 2) rfl) (pv 4) ⟨rfl, rfl, rfl, rfl⟩) pa_nil))))))) pss_nil))))), ?_⟩
    try dsimp only [cx_K]
    refine q_meth rfl hobj rfl (args1 rfl (entryOf_q hR.base hR.nets hna fun y H1 hyn hE1 s1 hor => ?_))
    obtain ⟨de, he1⟩ := hE1.obj
    refine ⟨_, rfl, y.e, de, _, rfl, he1, rfl, args0 (best_q hE1 hA fun bv H2 s2 hbest => ?_)⟩
    rw [hyn] at hbest
    have hR2 := (hR.same s1).same s2
    have hE2 := hE1.same s2
    obtain ⟨dx2, hobj2⟩ := hR2.base.obj
    refine ⟨_, rfl, r, C.ro, dx2, _, _, rfl, hobj2, T.ro, n2, rfl, x.nl, _, rfl, SqL.of hR2.base.nl, for_enum (K := K) (a := x.nl) (xs := x.nbs.map nbV) (pvLook C A x n r na y.e bv H2)
      ⟨none, none, none, x, rfl, Step.same Same.refl hR2, rfl, rfl, rfl⟩ (fun i σ H' _ hm => by obtain ⟨_, _, _, x', _, S, _, z1, z2⟩ := hm; exact (by rw [← z1, ← z2]; exact SqL.of S.rat.base.nl)) ?_ ?_⟩
    · rintro i v σ H' t0 hi ⟨v4, v5, v6, x', rfl, S, z0, z1, z2⟩ ht0
      obtain ⟨o, ho, rfl⟩ := map_get hi
      have hi8 : i < 8 := by
        have := (List.getElem?_eq_some_iff.mp ho).1
        rw [hR.base.len] at this
        exact this
      have s3 : Same H' (upd H' t0 (.tup [.int (i : Nat), nbV o])) := Same.new ht0
      refine ⟨t0, _, rfl, SqT.of upd_same, rfl, _, _, rfl, _, _, rfl, rfl, ?_⟩
      generalize hH3 : upd H' t0 (.tup [.int (i : Nat), nbV o]) = H3 at s3
      have S3 := S.trans (Step.same s3 S.rat)
      have hpeer := S3.rat.base.nbs i
      rw [z2, ho] at hpeer
      have hstep : (List.range (i + 1)).foldl (A.look1 n) A.row = A.look1 n ((List.range i).foldl (A.look1 n) A.row) i := by
        rw [List.range_succ, List.foldl_append]; rfl
      refine ⟨_, rfl, _, rfl, ?_⟩
      cases o with
      | none =>
        refine iteF ⟨_, _, v6, x', rfl, ?_, z0, z1, z2⟩
        have hp : A.peer i = none := by
          cases hp : A.peer i with
          | none => rfl
          | some p =>
            have hpeer' : Both (fun a p => NbAt C H3 a i p) none (A.peer i) := hpeer
            rw [hp] at hpeer'; exact hpeer'.elim
        rw [hstep, look1_none hp]
        exact S3
      | some nb =>
        cases hp : A.peer i with
        | none =>
          have hpeer' : Both (fun a p => NbAt C H3 a i p) (some nb) (A.peer i) := hpeer
          rw [hp] at hpeer'; exact hpeer'.elim
        | some p =>
          have hpeer' : Both (fun a p => NbAt C H3 a i p) (some nb) (A.peer i) := hpeer
          rw [hp] at hpeer'
          have hnb : NbAt C H3 nb i p := hpeer'
          obtain ⟨dx3, hobj3⟩ := S3.rat.base.obj
          refine iteT ⟨_, rfl, _, rfl, q_fld rfl hobj3 T.ro n1 rfl ⟨bv, A.best n, nb, i, p, A.self, rfl, hbest.imm S3.imm, hnb, fun dv H4 s4 hdue => ?_⟩⟩
          have S4 := S3.trans (Step.same s4 S3.rat)
          obtain ⟨dx4, hobj4⟩ := S4.rat.base.obj
          refine q_meth rfl hobj4 rfl ⟨_, rfl, _, rfl, (by show 2 ≤ sizeLine; decide), fun t ht => ?_⟩
          have s5 : Same H4 (upd H4 t (.tup [iv i, .ref na])) := Same.new ht
          have S5 := S4.trans (Step.same s5 S4.rat)
          have hE5 : EnAt C (upd H4 t (.tup [iv i, .ref na])) A y := hE2.stay hR hor S5 z0
          obtain ⟨de5, he5⟩ := hE5.obj
          have hna5 : upd H4 t (.tup [iv i, .ref na]) na = some (.tup (nV n)) := S5.imm.tup _ _ (s2 _ _ (s1 _ _ hna))
          have hAi : AOk N (A.setRow ((List.range i).foldl (A.look1 n) A.row)) := hA.setRow (looks_mem hA hnN i (by omega))
          have htold := told_is hE5 i
          rw [hyn] at htold
          refine ⟨_, rfl, q_fld rfl he5 T.en e2 rfl ⟨y.td, rfl, .inl ⟨_, .inl hE5.td⟩, _, rfl, _, DGet.k (k := Sum.inl (i : Int)) hE5.td, r, t, x', N, _, No, (i, n), dv, _, due A.self (A.best n) i p, A.t i n, rfl, S5.rat, hAi, (fun n z => z.elim), ⟨na, upd_same, hna5⟩, hdue.same s5, htold, fun H6 x6 S6 y1 y2 y3 => ?_⟩⟩
          refine ⟨_, _, _, x6, rfl, ?_, y3.trans z0, y1.trans z1, y2.trans z2⟩
          rw [hstep, look1_some hp]
          exact S5.trans S6
    · rintro σ H' ⟨v4, v5, v6, x', rfl, S, _⟩
      rw [List.length_map, hR.base.len] at S
      exact q H' x' ((Step.same (s1.trans s2) hR).trans S)
end
end R46
end
section
set_option linter.all false
set_option Elab.async false
set_option maxRecDepth 100000
set_option maxHeartbeats 2000000
namespace R46
open PySem PySem.Spec PyProof.Rows L2
open Sf46 (Net Peer Route better Told isNet look)
noncomputable abbrev sDown : Stmt := sRo 3
noncomputable abbrev sTell : Stmt := sRo 4
noncomputable abbrev sBack : Stmt := sRo 5
noncomputable def AS.downed (A : AS) (j : Nat) : AS := ((A.setPeer j none).setRow (A.row.filter fun p => decide (p.1 ≠ j))).dropK j
theorem AOk.dropK {N : List Net} {A : AS} (h : AOk N A) (k : Nat) : AOk N (A.dropK k) := by
  have hg : ∀ k' n b, (A.dropK k).g k' n = some b → A.g k' n = some b := fun k' n b hb => by
    have hb' : (if k' = k then none else A.g k' n) = some b := hb
    split at hb'
    · cases hb'
    · exact hb'
  have ht : ∀ k' n b, (A.dropK k).t k' n = some b → A.t k' n = some b := fun k' n b hb => by
    have hb' : (if k' = k then none else A.t k' n) = some b := hb
    split at hb'
    · cases hb'
    · exact hb'
  refine ⟨fun k' n b hb => h.g k' n b (hg _ _ _ hb), fun k' n b hb => h.t k' n b (ht _ _ _ hb), h.few, fun n hn => h.all n ?_, h.row⟩
  obtain ⟨k', hk'⟩ := hn
  refine ⟨k', hk'.imp (fun z => ?_) (fun z => ?_)⟩
  · obtain ⟨b, hb⟩ := Option.isSome_iff_exists.mp z
    rw [hg _ _ _ hb]; rfl
  · obtain ⟨b, hb⟩ := Option.isSome_iff_exists.mp z
    rw [ht _ _ _ hb]; rfl
theorem AOk.downed {N : List Net} {A : AS} (h : AOk N A) (j : Nat) : AOk N (A.downed j) := ((h.setPeer j none).setRow fun x hx => h.row x (List.mem_filter.mp hx).1).dropK j
theorem AOk.lookAt {N : List Net} {A : AS} (h : AOk N A) {n : Net} (hn : n ∈ N) : AOk N (A.lookAt n) := h.setRow (looks_mem h hn 8 (Nat.le_refl _))
theorem AOk.setG {N : List Net} {A : AS} (h : AOk N A) {k : Nat} {n : Net} {v : Option RtX} (hn : n ∈ N) (hv : ∀ b, v = some b → k < 8 ∧ b.1 = k ∧ RtOk b.2.2) : AOk N (A.setG k n v) := by
  refine ⟨fun k' n' b hb => ?_, h.t, h.few, fun n' hn' => ?_, h.row⟩
  · have hb' : (if k' = k ∧ n' = n then v else A.g k' n') = some b := hb
    split at hb'
    · rename_i e
      rw [e.1]; exact hv b hb'
    · exact h.g k' n' b hb'
  · obtain ⟨k', hk'⟩ := hn'
    by_cases e : n' = n
    · rw [e]; exact hn
    · refine h.all n' ⟨k', hk'.imp (fun z => ?_) id⟩
      have z' : (if k' = k ∧ n' = n then v else A.g k' n').isSome = true := z
      rw [if_neg (fun c => e c.2)] at z'
      exact z'
theorem AOk.looks {N : List Net} : ∀ (ns : List Net) {A : AS}, AOk N A → (∀ n ∈ ns, n ∈ N) → AOk N (ns.foldl AS.lookAt A)
  | [], _, h, _ => h
  | n :: ns, _, h, hs => AOk.looks ns (h.lookAt (hs n (by simp))) fun m hm => hs m (by simp [hm])
theorem isUp_nat {A : AS} {m : Nat} : A.isUp (m : Int) = true ↔ m < 8 ∧ (A.peer m).isSome = true := by
  unfold AS.isUp
  rw [Bool.and_eq_true, decide_eq_true_eq, Int.toNat_natCast]
  constructor
  · intro h; exact ⟨by omega, h.2⟩
  · intro h; exact ⟨by omega, h.2⟩
theorem isUp_ge {A : AS} {k : Int} (h : A.isUp k = true) : ∃ m : Nat, k = (m : Int) ∧ m < 8 ∧ ∃ p, A.peer m = some p := by
  unfold AS.isUp at h
  rw [Bool.and_eq_true, decide_eq_true_eq] at h
  obtain ⟨m, rfl⟩ := Int.eq_ofNat_of_zero_le h.1.1
  rw [Int.toNat_natCast] at h
  exact ⟨m, rfl, by omega, Option.isSome_iff_exists.mp h.2⟩
section
variable {P : Program} {w : World} {K : PySem.W.Frag} {mg : Str → Option Value} {base : Heap} {C : Cl}
noncomputable def spDown (C : Cl) : Sp := fun vs H Q _ => ∃ (r : Addr) (x : RA) (N : List Net) (A : AS) (k : Int), vs = [.ref r, .int k] ∧ RAt C H r x A No ∧ AOk N A ∧
  (A.isUp k = false → Q (.int (-1)) H) ∧
  (A.isUp k = true → ∀ (H' : Hp) (x' : RA) (ns : List Net), ns.Pairwise R46.lt → (∀ n, n ∈ ns ↔ (A.g k.toNat n).isSome = true) → Step C H H' r x x' (ns.foldl AS.lookAt (A.downed k.toNat)) No → Q (.int 0) H')
noncomputable def pvDown (C : Cl) (A : AS) (x4 : RA) (ps : List (Net × Addr)) (r D : Addr) (m : Nat) (H4 : Hp) (i : Nat) (σ : L2.St) (H' : Hp) : Prop := ∃ (v : Option V) (x' : RA), σ = [some (.ref r), some (iv m), v] ∧ Step C H4 H' r x4 x' (((ps.map (·.1)).take i).foldl AS.lookAt (A.downed m)) No ∧ H' D = some (.lst (ps.map fun p => V.ref p.2))
theorem scDown : FnScope ["self", "k", "network"] ["self", "k"] (defScope sDown) := ⟨rfl, rfl, rfl, by decide +kernel, rfl, by decide +kernel, by decide +kernel⟩
theorem ok_down {f fU fP fA fL : Addr} {fd fdU fdP fdA fdL : FuncData} (F : Fun K "down" "Router.down" sDown f fd) (T : Txt K mg C) (mU : Meth K C.ro "is_up" fU) (GU : FnOk P w K mg base CX0 1 fU fdU ["self", "k"] (spIsUp C)) (bU : Binds K fdU ["self", "k"] [])
    (mP : Meth K C.ro "forget_pairs" fP) (GP : FnOk P w K mg base CX0 1 fP fdP ["self", "k"] (spForgetPairs C)) (bP : Binds K fdP ["self", "k"] [])
    (mA : Meth K C.ro "forget_all" fA) (GA : FnOk P w K mg base CX0 6 fA fdA ["self", "k"] (spForgetAll C)) (bA : Binds K fdA ["self", "k"] [])
    (mL : Meth K C.ro "look_at" fL) (GL : FnOk P w K mg base CX0 5 fL fdL ["self", "network"] (spLookAt C)) (bL : Binds K fdL ["self", "network"] []) :
    FnOk P w K mg base CX0 7 f fd ["self", "k"] (spDown C) := by
  obtain ⟨t0, g0⟩ := T.done
  obtain ⟨tr, gr⟩ := T.refused
  refine F.ok scDown (fun vs H Q E h => ?_) (fun cdv A0 outer s H vs Q E hr h => ?_)
  · obtain ⟨r, x, N, A, k, rfl, _⟩ := h
    rfl
  · obtain ⟨r, x, N, A, k, rfl, hR, hA, q1, q2⟩ := h
    obtain ⟨n1, n2, n3, n4⟩ := T.roA
    obtain ⟨dx, hobj⟩ := hR.base.obj
    refine ⟨_, pss_cons (ps_if (pt_not (pt_val (pe_meth (pv 0) T.ro mU GU (hr.mono (by decide)) bU .nil pass0 (pa_cons (pv 1) pa_nil)))) (pss_one (ps_ret (pe_glob (v := .int (-1)) rfl gr ⟨tr, rfl⟩))) pss_nil)
      (pss_cons (ps_asg pe_non (pg_sub (pe_fld (pv 0) rfl) (pv 1) set_list))
      (pss_cons (ps_expr (pe_meth (pv 0) T.ro mP GP (hr.mono (by decide)) bP .nil pass0 (pa_cons (pv 1) pa_nil)))
      (pss_cons (ps_for PassesOwn.never rfl (pi_list (pe_meth (pv 0) T.ro mA GA hr bA .nil pass0 (pa_cons (pv 1) pa_nil))) (pg_name (i := 2) scDown.nd rfl (Or.inl rfl))
        (pss_one (ps_expr (pe_meth (pv 0) T.ro mL GL (hr.mono (by decide)) bL .nil pass0 (pa_cons (pv 2) pa_nil)))))
      (pss_one (ps_ret (pe_glob (v := .int 0) rfl g0 ⟨t0, rfl⟩)))))), ?_⟩
    try dsimp only [cx_K]
    refine q_meth rfl hobj rfl (args1 rfl ⟨r, x, A, k, rfl, hR.base, _, rfl, ?_⟩)
    cases hu : A.isUp k with
    | false => exact iteT (q1 hu)
    | true =>
      obtain ⟨m, rfl, hm, p, hp⟩ := isUp_ge hu
      have q2 := q2 hu
      rw [Int.toNat_natCast] at q2
      refine iteF (q_fld rfl hobj T.ro n2 rfl ⟨_, rfl, x.nl, _, _, m, rfl, rfl, hR.base.nl, ?_, ?_⟩)
      · unfold ixN
        rw [if_pos (by omega), List.length_map, hR.base.len, if_pos (by omega), Int.toNat_natCast]
      have S1 := hR.setNb hm (o := none) (p := none) True.intro
      generalize hH2 : upd H x.nl (.lst ((x.nbs.map nbV).set m (nbV none))) = H2 at S1
      have hH2' : upd H x.nl (.lst ((x.nbs.map nbV).set m V.non)) = H2 := hH2
      rw [hH2']
      obtain ⟨dx2, hobj2⟩ := S1.rat.base.obj
      refine q_meth rfl hobj2 rfl (args1 rfl ⟨r, _, _, No, m, rfl, S1.rat, fun H3 x3 S3 _ _ _ => ?_⟩)
      obtain ⟨dx3, hobj3⟩ := S3.rat.base.obj
      have hA3 : AOk N ((A.setPeer m none).setRow (A.row.filter fun p => decide (p.1 ≠ m))) := (hA.setPeer m none).setRow fun x hx => hA.row x (List.mem_filter.mp hx).1
      refine q_meth rfl hobj3 rfl (args1 rfl ⟨r, x3, N, _, m, rfl, S3.rat, hA3, fun H4 x4 D ps S4 hD hDm hpt hsort hmem => ?_⟩)
      have hmem' : ∀ n, n ∈ ps.map (·.1) ↔ (A.g m n).isSome = true := hmem
      have hN : ∀ n ∈ ps.map (·.1), n ∈ N := fun n hn => hA.all n ⟨m, .inl ((hmem' n).mp hn)⟩
      have hA4 : AOk N (A.downed m) := hA.downed m
      refine ⟨D, rfl, ⟨_, SqL.of hD⟩, for_list (K := K) (a := D) (xs := ps.map fun p => V.ref p.2) (pvDown C A x4 ps r D m H4)
        ⟨none, x4, rfl, Step.same Same.refl S4.rat, hD⟩ (fun i σ H' _ hm => by obtain ⟨_, _, _, _, h1⟩ := hm; exact SqL.of h1) ?_ ?_⟩
      · rintro i v σ H' hi ⟨v0, x', rfl, S, hD'⟩
        obtain ⟨z, hz, rfl⟩ := map_get hi
        have hzn : (ps.map (·.1))[i]? = some z.1 := by rw [List.getElem?_map, hz]; rfl
        obtain ⟨dx', hobj'⟩ := S.rat.base.obj
        have hAi : AOk N (((ps.map (·.1)).take i).foldl AS.lookAt (A.downed m)) := AOk.looks _ hA4 fun n hn => hN n (List.mem_of_mem_take hn)
        refine q_meth rfl hobj' rfl (args1 rfl ⟨r, z.2, x', N, _, z.1, rfl, S.rat, hAi, hN _ (List.mem_of_getElem? hzn), S.imm.tup _ _ (hpt z (List.mem_of_getElem? hz)), fun H5 x5 S5 => ?_⟩)
        refine ⟨_, x5, rfl, ?_, S5.keep _ _ hD' (S.out hD hDm)⟩
        rw [take_snoc hzn, List.foldl_append]
        exact S.trans S5
      · rintro σ H' ⟨v0, x', rfl, S, hD'⟩
        rw [List.length_map] at S
        rw [List.take_of_length_le (by rw [List.length_map]; exact Nat.le_refl _)] at S
        exact q2 H' x' _ hsort hmem' (((S1.trans S3).trans S4).trans S)
noncomputable def spBack (C : Cl) : Sp := fun vs H Q _ => ∃ (r : Addr) (x : RA) (N : List Net) (A : AS) (k : Int) (n : Nat) (b : Int), vs = [.ref r, .int k, iv n, .int b] ∧ RAt C H r x A No ∧ AOk N A ∧
  (¬ (A.isUp k = true ∧ isNet n b = true) → Q (.int (-1)) H) ∧
  (A.isUp k = true → isNet n b = true → (A.g k.toNat (n, b.toNat) = none → ∀ H', Same H H' → Q (.int 0) H') ∧ ((A.g k.toNat (n, b.toNat)).isSome = true → ∀ (H' : Hp) (x' : RA), Step C H H' r x x' ((A.setG k.toNat (n, b.toNat) none).lookAt (n, b.toNat)) No → Q (.int 0) H'))
theorem scBack : FnScope ["self", "k", "net", "bits", "network"] ["self", "k", "net", "bits"] (defScope sBack) := ⟨rfl, rfl, rfl, by decide +kernel, rfl, by decide +kernel, by decide +kernel⟩
theorem isNet_nat {n : Nat} {b : Int} (h : isNet n b = true) : ∃ m : Nat, b = (m : Int) ∧ m ≤ 32 := by
  by_cases h0 : b < 0 ∨ 32 < b
  · rw [isNet_false h0] at h; cases h
  · obtain ⟨m, rfl⟩ := Int.eq_ofNat_of_zero_le (show 0 ≤ b by omega)
    exact ⟨m, rfl, by omega⟩
theorem ok_back {f fU fN fO fG fL : Addr} {fd fdU fdN fdO fdG fdL : FuncData} (F : Fun K "back" "Router.back" sBack f fd) (T : Txt K mg C) (mU : Meth K C.ro "is_up" fU) (GU : FnOk P w K mg base CX0 1 fU fdU ["self", "k"] (spIsUp C)) (bU : Binds K fdU ["self", "k"] [])
    (GN : FnOk P w K mg base CX0 2 fN fdN ["net", "bits"] spIsNet) (kN : PySem.W.keepIn K (.ref fN) = true) (bN : Binds K fdN ["net", "bits"] []) (mN : mg "is_network" = some (.ref fN))
    (mO : Meth K C.ro "entry_of" fO) (GO : FnOk P w K mg base CX0 3 fO fdO ["self", "network"] (spEntryOf C)) (bO : Binds K fdO ["self", "network"] [])
    (mG : Meth K C.ro "forget" fG) (GG : FnOk P w K mg base CX0 5 fG fdG ["self", "k", "network"] (spForget C)) (bG : Binds K fdG ["self", "k", "network"] [])
    (mL : Meth K C.ro "look_at" fL) (GL : FnOk P w K mg base CX0 5 fL fdL ["self", "network"] (spLookAt C)) (bL : Binds K fdL ["self", "network"] []) :
    FnOk P w K mg base CX0 6 f fd ["self", "k", "net", "bits"] (spBack C) := by
  obtain ⟨t0, g0⟩ := T.done
  obtain ⟨tr, gr⟩ := T.refused
  refine F.ok scBack (fun vs H Q E h => ?_) (fun cdv A0 outer s H vs Q E hr h => ?_)
  · obtain ⟨r, x, N, A, k, n, b, rfl, _⟩ := h
    rfl
  · obtain ⟨r, x, N, A, k, n, b, rfl, hR, hA, q1, q2⟩ := h
    obtain ⟨n1, n2, n3, n4⟩ := T.roA
    obtain ⟨e1, e2⟩ := T.enA
    obtain ⟨dx, hobj⟩ := hR.base.obj
    refine ⟨_, pss_cons (ps_if (PW.pt (pw_or (pt_not (pt_val (pe_meth (pv 0) T.ro mU GU (hr.mono (by decide)) bU .nil pass0 (pa_cons (pv 1) pa_nil)))) (pw_or1 (pt_not (pt_val (pe_call GN (hr.mono (by decide)) rfl mN kN bN .nil pass0 (pa_cons (pv 2) (pa_cons (pv 3) pa_nil)))))))) (pss_one (ps_ret (pe_glob (v := .int (-1)) rfl gr ⟨tr, rfl⟩))) pss_nil)
      (pss_cons (ps_set (i := 4) scBack.nd rfl (Or.inl rfl) (pe_tup (pa_cons (pv 2) (pa_cons (pv 3) pa_nil))))
      (pss_cons (ps_if (pt_cmp (pc_din (hu_of hr) (pv 1) (pe_fld (pe_meth (pv 0) T.ro mO GO (hr.mono (by decide)) bO .nil pass0 (pa_cons (pv 4) pa_nil)) rfl)))
        (pss_cons (ps_expr (pe_meth (pv 0) T.ro mG GG hr bG .nil pass0 (pa_cons (pv 1) (pa_cons (pv 4) pa_nil))))
        (pss_one (ps_expr (pe_meth (pv 0) T.ro mL GL hr bL .nil pass0 (pa_cons (pv 4) pa_nil))))) pss_nil)
      (pss_one (ps_ret (pe_glob (v := .int 0) rfl g0 ⟨t0, rfl⟩))))), ?_⟩
    try dsimp only [cx_K]
    refine q_meth rfl hobj rfl (args1 rfl ⟨r, x, A, k, rfl, hR.base, _, rfl, ?_⟩)
    cases hu : A.isUp k with
    | false => exact iteT (iteT (q1 fun z => by rw [hu] at z; cases z.1))
    | true =>
      refine iteF ⟨_, rfl, _, rfl, n, b, rfl, _, rfl, ?_⟩
      cases hn : isNet n b with
      | false => exact iteT (q1 fun z => by rw [hn] at z; cases z.2)
      | true =>
        obtain ⟨q3, q4⟩ := q2 hu hn
        obtain ⟨m, rfl, hm, p, hp⟩ := isUp_ge hu
        obtain ⟨b, rfl, hb⟩ := isNet_nat hn
        rw [Int.toNat_natCast, Int.toNat_natCast] at q3 q4
        refine iteF ⟨_, rfl, _, rfl, (by show 2 ≤ sizeLine; decide), fun na hna => ?_⟩
        have s1 : Same H (upd H na (.tup [iv n, iv b])) := Same.new hna
        have hna1 : upd H na (.tup [iv n, iv b]) na = some (.tup (nV (n, b))) := upd_same
        generalize hH1 : upd H na (.tup [iv n, iv b]) = H1 at s1 hna1
        have hR1 := hR.same s1
        obtain ⟨dx1, hobj1⟩ := hR1.base.obj
        refine ⟨_, rfl, q_meth rfl hobj1 rfl (args1 rfl (entryOf_q hR1.base hR1.nets hna1 fun y H2 hyn hE2 s2 hor => ?_))⟩
        obtain ⟨de, he2⟩ := hE2.obj
        refine ⟨y.e, C.en, de, _, _, rfl, he2, T.en, e1, rfl, y.rd, _, rfl, DGet.k (k := Sum.inl (m : Int)) hE2.rd, _, rfl, ?_⟩
        have hg : (valV (kvs y.rs) (Sum.inl (m : Int))).isSome = (A.g m (n, b)).isSome := by
          rw [kvs_val, Option.isSome_map, both_some (hE2.held m), hyn]
        rw [hg]
        have hR2 := hR1.same s2
        cases hgk : A.g m (n, b) with
        | none => exact iteF (q3 hgk _ (s1.trans s2))
        | some bb =>
          have hgs : (A.g m (n, b)).isSome = true := by rw [hgk]; rfl
          have hnN : (n, b) ∈ N := hA.all _ ⟨m, .inl hgs⟩
          obtain ⟨dx2, hobj2⟩ := hR2.base.obj
          refine iteT (q_meth rfl hobj2 rfl (args2 rfl rfl ⟨r, na, x, A, (n, b), m, rfl, hR2.weak (fun z hz => (hR2.nets.only z hz).imp id fun c => c.elim), s2 _ _ hna1, fun H3 x3 S3 => ?_⟩))
          obtain ⟨dx3, hobj3⟩ := S3.rat.base.obj
          refine q_meth rfl hobj3 rfl (args1 rfl ⟨r, na, x3, N, _, (n, b), rfl, S3.rat, hA.setG hnN (fun b hb => by cases hb), hnN, S3.imm.tup _ _ (s2 _ _ hna1), fun H4 x4 S4 => ?_⟩)
          exact q4 hgs H4 x4 (((Step.same (s1.trans s2) hR).trans S3).trans S4)
end
end R46
end
section
set_option linter.all false
set_option Elab.async false
set_option maxRecDepth 100000
set_option maxHeartbeats 2000000
namespace R46
open PySem PySem.Spec PyProof.Rows L2
open Sf46 (Net Peer Route better Told isNet look)
theorem cut_take (l : List Nat) (c : Nat) : cutV (ivs l) none (some (c : Int)) = ivs (l.take c) := by
  unfold cutV
  rw [HT.sIx_none, HT.sIx_nat, List.drop_zero, Nat.sub_zero]
  show ((l.map iv).take (min c (l.map iv).length)) = (l.take c).map iv
  rw [List.map_take]
  by_cases h : c ≤ (l.map iv).length
  · rw [Nat.min_eq_left h]
  · rw [Nat.min_eq_right (by omega), List.take_length, List.take_of_length_le (by omega)]
theorem rtOk_iff {n : Nat} {b c : Int} {o : Nat} : rtOk n b c o = true ↔ isNet n b = true ∧ 1 ≤ c ∧ c ≤ 16 ∧ o ≤ 2 := by
  unfold rtOk
  rw [Bool.and_eq_true, Bool.and_eq_true, decide_eq_true_eq, decide_eq_true_eq]
  constructor
  · intro h; exact ⟨h.1, h.2.1.1, h.2.1.2, h.2.2⟩
  · intro h; exact ⟨h.1, ⟨h.2.1, h.2.2.1⟩, h.2.2.2⟩
section
variable {P : Program} {w : World} {K : PySem.W.Frag} {mg : Str → Option Value} {base : Heap} {C : Cl}
noncomputable def AS.told (A : AS) (k : Nat) (p : Peer) (n : Net) (rt : Route) : AS := (A.setG k n (if rt.path.contains A.self = true then none else some (k, p, rt))).lookAt n
noncomputable def spTell (C : Cl) : Sp := fun vs H Q _ => ∃ (r pl : Addr) (x : RA) (N : List Net) (A : AS) (k : Int) (n : Nat) (b c : Int) (rt : Route), vs = [.ref r, .int k, iv n, .int b, .int c, iv rt.pref, iv rt.origin, iv rt.med, .ref pl] ∧ RAt C H r x A No ∧ AOk N A ∧
  H pl = some (.lst (ivs rt.path)) ∧ rt.path.length = 16 ∧ (isNet n b = true → (n, b.toNat) ∈ N) ∧
  (¬ (A.isUp k = true ∧ rtOk n b c rt.origin = true) → Q (.int (-1)) H) ∧
  (∀ p, A.isUp k = true → A.peer k.toNat = some p → rtOk n b c rt.origin = true → ∀ (H' : Hp) (x' : RA), Step C H H' r x x' (A.told k.toNat p (n, b.toNat) { rt with path := rt.path.take c.toNat }) No → Q (.int 0) H')
theorem scTell : FnScope ["self", "k", "net", "bits", "count", "pref", "origin", "med", "path", "network", "route"] ["self", "k", "net", "bits", "count", "pref", "origin", "med", "path"] (defScope sTell) := ⟨rfl, rfl, rfl, by decide +kernel, rfl, by decide +kernel, by decide +kernel⟩
theorem ok_tell {f fU fI fR fG fM fD fL : Addr} {fd fdU fdI fdR fdG fdM fdD fdL : FuncData} (F : Fun K "tell" "Router.tell" sTell f fd) (T : Txt K mg C) (mU : Meth K C.ro "is_up" fU) (GU : FnOk P w K mg base CX0 1 fU fdU ["self", "k"] (spIsUp C)) (bU : Binds K fdU ["self", "k"] [])
    (GI : FnOk P w K mg base CX0 3 fI fdI ["net", "bits", "count", "origin"] spIsRt) (kI : PySem.W.keepIn K (.ref fI) = true) (bI : Binds K fdI ["net", "bits", "count", "origin"] []) (mI : mg "is_route" = some (.ref fI))
    (M : Mk K C.rt fR) (GR : FnOk P w K mg base CX0 1 fR fdR ["self", "teller", "path", "pref", "origin", "med"] (spRtInit C)) (bR : Binds K fdR ["self", "teller", "path", "pref", "origin", "med"] [])
    (mG : Meth K C.ro "forget" fG) (GG : FnOk P w K mg base CX0 5 fG fdG ["self", "k", "network"] (spForget C)) (bG : Binds K fdG ["self", "k", "network"] [])
    (mM : Meth K C.ro "has_room_for" fM) (GM : FnOk P w K mg base CX0 1 fM fdM ["self", "network"] (spRoom C)) (bM : Binds K fdM ["self", "network"] [])
    (mD : Meth K C.ro "hold" fD) (GD : FnOk P w K mg base CX0 4 fD fdD ["self", "k", "network", "route"] (spHold C)) (bD : Binds K fdD ["self", "k", "network", "route"] [])
    (mL : Meth K C.ro "look_at" fL) (GL : FnOk P w K mg base CX0 5 fL fdL ["self", "network"] (spLookAt C)) (bL : Binds K fdL ["self", "network"] []) :
    FnOk P w K mg base CX0 6 f fd ["self", "k", "net", "bits", "count", "pref", "origin", "med", "path"] (spTell C) := by
  obtain ⟨t0, g0⟩ := T.done
  obtain ⟨tr, gr⟩ := T.refused
  obtain ⟨tf, gf⟩ := T.full
  refine F.ok scTell (fun vs H Q E h => ?_) (fun cdv A0 outer s H vs Q E hr h => ?_)
  · obtain ⟨r, pl, x, N, A, k, n, b, c, rt, rfl, _⟩ := h
    rfl
  · obtain ⟨r, pl, x, N, A, k, n, b, c, rt, rfl, hR, hA, hpl, h16, hnN0, q1, q2⟩ := h
    obtain ⟨n1, n2, n3, n4⟩ := T.roA
    obtain ⟨m1, m2, m3, m4, m5⟩ := T.rtA
    obtain ⟨dx, hobj⟩ := hR.base.obj
    refine ⟨_, pss_cons (ps_if (PW.pt (pw_or (pt_not (pt_val (pe_meth (pv 0) T.ro mU GU (hr.mono (by decide)) bU .nil pass0 (pa_cons (pv 1) pa_nil)))) (pw_or1 (pt_not (pt_val (pe_call GI (hr.mono (by decide)) rfl mI kI bI .nil pass0 (pa_cons (pv 2) (pa_cons (pv 3) (pa_cons (pv 4) (pa_cons (pv 6) pa_nil)))))))))) (pss_one (ps_ret (pe_glob (v := .int (-1)) rfl gr ⟨tr, rfl⟩))) pss_nil)
      (pss_cons (ps_set (i := 9) scTell.nd rfl (Or.inl rfl) (pe_tup (pa_cons (pv 2) (pa_cons (pv 3) pa_nil))))
      (pss_cons (ps_set (i := 10) scTell.nd rfl (Or.inl rfl) (pe_make M GR (hr.mono (by decide)) rfl T.mRt bR .nil pass0 (pa_cons (pe_ix ix_list (pe_fld (pv 0) rfl) (pv 1) (fun _ _ => rfl)) (pa_cons (pe_callTy call_tuple_of rfl T.tpl (by decide +kernel) (pa_cons (pe_slice sl_list (pv 8) po_none (po_some (pv 4))) pa_nil)) (pa_cons (pv 5) (pa_cons (pv 6) (pa_cons (pv 7) pa_nil)))))))
      (pss_cons (ps_if (pt_cmpR op_in_seq (pe_fld (pv 0) rfl) (pe_fld (pv 10) rfl) rfl)
        (pss_one (ps_expr (pe_meth (pv 0) T.ro mG GG hr bG .nil pass0 (pa_cons (pv 1) (pa_cons (pv 9) pa_nil)))))
        (pss_one (ps_if (pt_val (pe_meth (pv 0) T.ro mM GM (hr.mono (by decide)) bM .nil pass0 (pa_cons (pv 9) pa_nil)))
          (pss_one (ps_expr (pe_meth (pv 0) T.ro mD GD (hr.mono (by decide)) bD .nil pass0 (pa_cons (pv 1) (pa_cons (pv 9) (pa_cons (pv 10) pa_nil))))))
          (pss_one (ps_ret (pe_glob (v := .int (-2)) rfl gf ⟨tf, rfl⟩))))))
      (pss_cons (ps_expr (pe_meth (pv 0) T.ro mL GL hr bL .nil pass0 (pa_cons (pv 9) pa_nil)))
      (pss_one (ps_ret (pe_glob (v := .int 0) rfl g0 ⟨t0, rfl⟩))))))), ?_⟩
    try dsimp only [cx_K]
    refine q_meth rfl hobj rfl (args1 rfl ⟨r, x, A, k, rfl, hR.base, _, rfl, ?_⟩)
    cases hu : A.isUp k with
    | false => exact iteT (iteT (q1 fun z => by rw [hu] at z; cases z.1))
    | true =>
      refine iteF ⟨_, rfl, _, rfl, _, rfl, _, rfl, n, b, c, rt.origin, rfl, _, rfl, ?_⟩
      cases hn : rtOk n b c rt.origin with
      | false => exact iteT (q1 fun z => by rw [hn] at z; cases z.2)
      | true =>
        obtain ⟨m, rfl, hm, p, hp⟩ := isUp_ge hu
        have q2 := q2 p hu (by rw [Int.toNat_natCast]; exact hp) hn
        obtain ⟨hnet, hc1, hc2, ho⟩ := rtOk_iff.mp hn
        obtain ⟨b, rfl, hb⟩ := isNet_nat hnet
        obtain ⟨c, rfl⟩ := Int.eq_ofNat_of_zero_le (show 0 ≤ c by omega)
        have hnN := hnN0 hnet
        rw [Int.toNat_natCast] at hnN
        rw [Int.toNat_natCast, Int.toNat_natCast, Int.toNat_natCast] at q2
        refine iteF ⟨_, rfl, _, rfl, (by show 2 ≤ sizeLine; decide), fun na hna => ?_⟩
        have s1 : Same H (upd H na (.tup [iv n, iv b])) := Same.new hna
        have hna1 : upd H na (.tup [iv n, iv b]) na = some (.tup (nV (n, b))) := upd_same
        generalize hH1 : upd H na (.tup [iv n, iv b]) = H1 at s1 hna1
        have hR1 := hR.same s1
        obtain ⟨dx1, hobj1⟩ := hR1.base.obj
        have hpeer := hR1.base.nbs m
        rw [hp] at hpeer
        obtain ⟨o, ho⟩ : ∃ o, x.nbs[m]? = some o := ⟨_, List.getElem?_eq_getElem (by rw [hR.base.len]; exact hm)⟩
        rw [ho] at hpeer
        cases o with
        | none => exact hpeer.elim
        | some nb =>
          have hnb : NbAt C H1 nb m p := hpeer
          refine q_fld rfl hobj1 T.ro n2 rfl ⟨_, rfl, x.nl, _, _, _, rfl, rfl, SqL.of hR1.base.nl, at_of (j := m) (v := .ref nb) rfl (by rw [List.getElem?_map, ho]; rfl), ?_⟩
          refine ⟨_, rfl, _, rfl, _, rfl, pl, _, rfl, SqL.of (s1 _ _ hpl), fun l2 hl2 => ?_⟩
          rw [cut_take]
          have s2 : Same H1 (upd H1 l2 (.lst (ivs (rt.path.take c)))) := Same.new hl2
          refine ⟨l2, _, rfl, .inl ⟨SqL.of upd_same, fun pa hpa => ?_⟩⟩
          generalize hH2 : upd H1 l2 (.lst (ivs (rt.path.take c))) = H2 at s2 hpa
          have s3 : Same H2 (upd H2 pa (.tup (ivs (rt.path.take c)))) := Same.new hpa
          have hpa3 : upd H2 pa (.tup (ivs (rt.path.take c))) pa = some (.tup (ivs (rt.path.take c))) := upd_same
          generalize hH3 : upd H2 pa (.tup (ivs (rt.path.take c))) = H3 at s3 hpa3
          refine ⟨_, rfl, _, rfl, _, rfl, ?_⟩
          intro ra dr hra hdr hne
          refine ⟨ra, dr, nb, pa, { rt with path := rt.path.take c }, rfl, upd_same, fun H4 hra4 hk4 => ⟨rfl, ?_⟩⟩
          have s4 : Same H3 H4 := fun b o hb => hk4 b o (by rw [upd_ne (ne_of_none hb hra), upd_ne (ne_of_none hb hdr)]; exact hb) (by simpa using ne_of_none hb hra)
          have s14 : Same H1 H4 := (s2.trans s3).trans s4
          have s04 : Same H H4 := s1.trans s14
          have hR4 := hR.same s04
          have hrt4 : RtAt C H4 ra (m, p, { rt with path := rt.path.take c }) := ⟨dr, nb, pa, hra4, hnb.same s14, s4 _ _ hpa3⟩
          have hna4 : H4 na = some (.tup (nV (n, b))) := s14 _ _ hna1
          obtain ⟨dx4, hobj4⟩ := hR4.base.obj
          have hlen : (rt.path.take c).length = c := by rw [List.length_take, h16]; omega
          have last : ∀ (H5 : Hp) (x5 : RA), Step C H4 H5 r x x5 (A.setG m (n, b) (if (rt.path.take c).contains A.self = true then none else some (m, p, { rt with path := rt.path.take c }))) No →
              tSeq (tDrop (tMeth C.ro "look_at" (spLookAt C) [] E0 (tVar 0) (tCons (tVar 9) tNil))) (tRet (tC (.int 0))) { nx := fun _ H' => Q .non H', rt := Q } [some (.ref r), some (iv m), some (iv n), some (iv b), some (iv c), some (iv rt.pref), some (iv rt.origin), some (iv rt.med), some (.ref pl), some (.ref na), some (.ref ra)] H5 := by
            intro H5 x5 S5
            obtain ⟨dx5, hobj5⟩ := S5.rat.base.obj
            refine q_meth rfl hobj5 rfl (args1 rfl ⟨r, na, x5, N, _, (n, b), rfl, S5.rat, hA.setG hnN (fun bb hbb => ?_), hnN, S5.imm.tup _ _ hna4, fun H6 x6 S6 => ?_⟩)
            · split at hbb
              · cases hbb
              · cases hbb
                exact ⟨hm, rfl, by show 1 ≤ (rt.path.take c).length; omega, by show (rt.path.take c).length ≤ 16; omega⟩
            · exact q2 H6 x6 (((Step.same s04 hR).trans S5).trans S6)
          refine q_fld rfl hobj4 T.ro n1 rfl (q_fld rfl hra4 T.rt m2 rfl ⟨pa, _, rfl, .inr (SqT.of (s4 _ _ hpa3)), rfl, flat_ivs _, _, rfl, ?_⟩)
          simp only [Bool.false_eq_true, if_false]
          rw [inV_iv]
          cases hin : (rt.path.take c).contains A.self with
          | true =>
            rw [hin, if_pos rfl] at last
            refine iteT (q_meth rfl hobj4 rfl (args2 rfl rfl ⟨r, na, x, A, (n, b), m, rfl, hR4.weak (fun z hz => (hR4.nets.only z hz).imp id fun c => c.elim), hna4, fun H5 x5 S5 => ?_⟩))
            exact last H5 x5 S5
          | false =>
            rw [hin, if_neg Bool.false_ne_true] at last
            refine iteF (q_meth rfl hobj4 rfl (args1 rfl ⟨r, na, x, A, No, (n, b), rfl, hR4.base, hR4.nets, hna4, _, rfl, ?_⟩))
            have hroom : (if (n, b) ∈ x.es.map (·.n) then x.es.length else x.es.length + 1) < 4096 := by
              have hes := (hR.few hA (fun n z => z.elim)).1
              split
              · omega
              · omega
            rw [decide_eq_true hroom]
            refine iteT (q_meth rfl hobj4 rfl (args3 rfl rfl rfl ⟨r, na, ra, x, N, A, (n, b), m, _, rfl, hR4, hA, hna4, hrt4, fun H5 x5 S5 => ?_⟩))
            exact last H5 x5 S5
end
end R46
end
section
set_option linter.all false
set_option Elab.async false
set_option maxRecDepth 100000
set_option maxHeartbeats 2000000
namespace R46
open PySem PySem.Spec PyProof.Rows L2
open Sf46 (Net Peer Route better Told isNet look)
noncomputable abbrev sDueTo : Stmt := sRo 19
noncomputable abbrev sKeepTold : Stmt := sRo 20
noncomputable abbrev sRtNums : Stmt := top 21
noncomputable abbrev sTdNums : Stmt := top 22
theorem best_known {A : AS} {n : Net} {b : RtX} (h : A.best n = some b) : A.known n := by
  unfold AS.best at h
  rcases pick_mem _ _ _ h with h | h
  · obtain ⟨k, _, hk⟩ := List.mem_filterMap.mp h
    exact ⟨k, .inl (by rw [hk]; rfl)⟩
  · cases h
theorem due_known {A : AS} {n : Net} {k : Nat} {p : Peer} {t : List Nat × Nat} (h : due A.self (A.best n) k p = some t) : A.known n := by
  cases hb : A.best n with
  | none => rw [hb] at h; cases h
  | some b => exact best_known hb
theorem best_len {N : List Net} {A : AS} (o : AOk N A) {n : Net} {b : RtX} (h : A.best n = some b) : RtOk b.2.2 := by
  unfold AS.best at h
  rcases pick_mem _ _ _ h with h | h
  · obtain ⟨k, _, hk⟩ := List.mem_filterMap.mp h
    exact (o.g k n b hk).2.2
  · cases h
theorem due_len {z : Nat} {o : Option RtX} {k : Nat} {p : Peer} {t : List Nat × Nat} (h : due z o k p = some t) : t.1.length ≤ 16 := by
  cases o with
  | none => cases h
  | some b =>
    unfold due at h
    dsimp only at h
    split at h
    · rename_i hc
      cases h
      show (z :: b.2.2.path).length ≤ 16
      rw [List.length_cons]; omega
    · cases h
section
variable {P : Program} {w : World} {K : PySem.W.Frag} {mg : Str → Option Value} {base : Heap} {C : Cl}
noncomputable def spDueTo (C : Cl) : Sp := fun vs H Q _ => ∃ (r na : Addr) (x : RA) (N : List Net) (A : AS) (X : Net → Prop) (n : Net) (m : Nat) (p : Peer), vs = [.ref r, iv m, .ref na] ∧ RAt C H r x A X ∧ AOk N A ∧ m < 8 ∧ A.peer m = some p ∧ H na = some (.tup (nV n)) ∧
  ∀ (v : V) (H' : Hp), Same H H' → DueIs H' v (due A.self (A.best n) m p) → Q v H'
theorem scDueTo : FnScope ["self", "k", "network", "best"] ["self", "k", "network"] (defScope sDueTo) := ⟨rfl, rfl, rfl, by decide +kernel, rfl, by decide +kernel, by decide +kernel⟩
theorem ok_dueTo {f fO fB fS : Addr} {fd fdO fdB fdS : FuncData} (F : Fun K "due_to" "Router.due_to" sDueTo f fd) (T : Txt K mg C) (mO : Meth K C.ro "entry_of" fO) (GO : FnOk P w K mg base CX0 3 fO fdO ["self", "network"] (spEntryOf C)) (bO : Binds K fdO ["self", "network"] [])
    (mB : Meth K C.en "best_route" fB) (GB : FnOk P w K mg base CX0 4 fB fdB ["self"] (spEnBest C)) (bB : Binds K fdB ["self"] [])
    (GS : FnOk P w K mg base CX0 1 fS fdS ["best", "neighbour", "self_number"] (spShould C)) (kS : PySem.W.keepIn K (.ref fS) = true) (bS : Binds K fdS ["best", "neighbour", "self_number"] []) (mS : mg "should_be_told" = some (.ref fS)) :
    FnOk P w K mg base CX0 5 f fd ["self", "k", "network"] (spDueTo C) := by
  refine F.ok scDueTo (fun vs H Q E h => ?_) (fun cdv A0 outer s H vs Q E hr h => ?_)
  · obtain ⟨r, na, x, N, A, X, n, m, p, rfl, _⟩ := h
    rfl
  · obtain ⟨r, na, x, N, A, X, n, m, p, rfl, hR, hA, hm, hp, hna, q⟩ := h
    obtain ⟨n1, n2, n3, n4⟩ := T.roA
    obtain ⟨dx, hobj⟩ := hR.base.obj
    refine ⟨_, pss_cons (ps_set (i := 3) scDueTo.nd rfl (Or.inl rfl) (pe_meth0 (pe_meth (pv 0) T.ro mO GO (hr.mono (by decide)) bO .nil pass0 (pa_cons (pv 2) pa_nil)) T.en mB GB hr bB .nil pass0))
      (pss_one (ps_ret (pe_call GS (hr.mono (by decide)) rfl mS kS bS .nil pass0 (pa_cons (pv 3) (pa_cons (pe_ix ix_list (pe_fld (pv 0) rfl) (pv 1) (fun _ _ => rfl)) (pa_cons (pe_fld (pv 0) rfl) pa_nil)))))), ?_⟩
    try dsimp only [cx_K]
    refine q_meth rfl hobj rfl (args1 rfl (entryOf_q hR.base hR.nets hna fun y H1 hyn hE1 s1 hor => ?_))
    obtain ⟨de, he1⟩ := hE1.obj
    refine ⟨y.e, de, _, rfl, he1, rfl, args0 (best_q hE1 hA fun bv H2 s2 hbest => ?_)⟩
    rw [hyn] at hbest
    have hR2 := (hR.same s1).same s2
    obtain ⟨dx2, hobj2⟩ := hR2.base.obj
    have hpeer := hR2.base.nbs m
    rw [hp] at hpeer
    obtain ⟨o, ho⟩ : ∃ o, x.nbs[m]? = some o := ⟨_, List.getElem?_eq_getElem (by rw [hR.base.len]; exact hm)⟩
    rw [ho] at hpeer
    cases o with
    | none => exact hpeer.elim
    | some nb =>
      have hnb : NbAt C H2 nb m p := hpeer
      refine ⟨_, rfl, q_fld rfl hobj2 T.ro n2 rfl ⟨_, rfl, x.nl, _, _, _, rfl, rfl, SqL.of hR2.base.nl, at_of (j := m) (v := .ref nb) rfl (by rw [List.getElem?_map, ho]; rfl), ?_⟩⟩
      exact q_fld rfl hobj2 T.ro n1 rfl ⟨bv, A.best n, nb, m, p, A.self, rfl, hbest, hnb, fun v H3 s3 hd => q v H3 ((s1.trans s2).trans s3) hd⟩
noncomputable def spKeepTold (C : Cl) : Sp := fun vs H Q _ => ∃ (r na : Addr) (x : RA) (N : List Net) (A : AS) (n : Net) (m : Nat) (wv : V) (t : Told), vs = [.ref r, iv m, .ref na, wv] ∧ RAt C H r x A No ∧ AOk N A ∧ H na = some (.tup (nV n)) ∧ DueIs H wv t ∧ (∀ y, t = some y → A.known n) ∧
  ∀ (H' : Hp) (x' : RA), Step C H H' r x x' (A.setT m n t) No → Q .non H'
theorem scKeepTold : FnScope ["self", "k", "network", "what", "entry"] ["self", "k", "network", "what"] (defScope sKeepTold) := ⟨rfl, rfl, rfl, by decide +kernel, rfl, by decide +kernel, by decide +kernel⟩
theorem ok_keepTold {f fO fD : Addr} {fd fdO fdD : FuncData} (F : Fun K "keep_told" "Router.keep_told" sKeepTold f fd) (T : Txt K mg C) (mO : Meth K C.ro "entry_of" fO) (GO : FnOk P w K mg base CX0 3 fO fdO ["self", "network"] (spEntryOf C)) (bO : Binds K fdO ["self", "network"] [])
    (mD : Meth K C.ro "drop_if_empty" fD) (GD : FnOk P w K mg base CX0 4 fD fdD ["self", "network"] (spDrop C)) (bD : Binds K fdD ["self", "network"] []) :
    FnOk P w K mg base CX0 5 f fd ["self", "k", "network", "what"] (spKeepTold C) := by
  refine F.ok scKeepTold (fun vs H Q E h => ?_) (fun cdv A0 outer s H vs Q E hr h => ?_)
  · obtain ⟨r, na, x, N, A, n, m, wv, t, rfl, _⟩ := h
    rfl
  · obtain ⟨r, na, x, N, A, n, m, wv, t, rfl, hR, hA, hna, hdue, hkn, q⟩ := h
    obtain ⟨n1, n2, n3, n4⟩ := T.roA
    obtain ⟨e1, e2⟩ := T.enA
    obtain ⟨dx, hobj⟩ := hR.base.obj
    refine ⟨_, pss_cons (ps_set (i := 4) scKeepTold.nd rfl (Or.inl rfl) (pe_meth (pv 0) T.ro mO GO (hr.mono (by decide)) bO .nil pass0 (pa_cons (pv 2) pa_nil)))
      (pss_one (ps_if (pt_cmp (pc_isN (pv 3)))
        (pss_cons (ps_expr (pe_dpop2 (pe_fld (pv 4) rfl) (pv 1) pe_non ⟨rfl, rfl, rfl, rfl⟩)) (pss_one (ps_expr (pe_meth (pv 0) T.ro mD GD hr bD .nil pass0 (pa_cons (pv 2) pa_nil)))))
        (pss_one (ps_dput (hu_of hr) (pe_fld (pv 4) rfl) (pv 1) (pv 3) rfl)))), ?_⟩
    try dsimp only [cx_K]
    refine q_meth rfl hobj rfl (args1 rfl (entryOf_q hR.base hR.nets hna fun y H1 hyn hE1 s1 hor => ?_))
    obtain ⟨de, he1⟩ := hE1.obj
    have hR1 := hR.same s1
    cases t with
    | none =>
      have hwv : wv = .non := hdue
      subst hwv
      refine ⟨_, rfl, _, rfl, iteT ?_⟩
      have last : ∀ (H2 : Hp) (x2 : RA), Step C H H2 r x x2 (A.setT m n none) (fun z => z = n) → tDrop (tMeth C.ro "drop_if_empty" (spDrop C) [] E0 (tVar 0) (tCons (tVar 2) tNil)) { nx := fun _ H' => Q .non H', rt := Q } [some (.ref r), some (iv m), some (.ref na), some .non, some (.ref y.e)] H2 := by
        intro H2 x2 S2
        obtain ⟨dx2, hobj2⟩ := S2.rat.base.obj
        exact q_meth rfl hobj2 rfl (args1 rfl ⟨r, na, x2, _, n, rfl, S2.rat, S2.imm.tup _ _ hna, fun H3 x3 S3 => q H3 x3 (S2.trans S3)⟩)
      refine q_fld rfl he1 T.en e2 rfl ⟨y.td, rfl, .inl ⟨_, .inl hE1.td⟩, _, rfl, kvs y.ts, Sum.inl (m : Int), hE1.td, rfl, fun v hv => ?_, fun hv => ?_⟩
      · rw [kvs_drop]
        rw [kvs_val] at hv
        have hl : (look y.ts m).isSome = true := by cases hh : look y.ts m with | none => rw [hh] at hv; cases hv | some _ => rfl
        rcases hor with hy | ⟨_, _, _, hno⟩
        · obtain ⟨x2, S2⟩ := (hR1.popT hy (fun n z => z.elim) m).1 hl
          rw [hyn] at S2
          exact last _ x2 ((Step.same s1 hR).trans S2)
        · exfalso
          rw [both_some (hE1.told m)] at hl
          exact hno (hR.nets.all _ ⟨m, .inr hl⟩)
      · rw [kvs_val] at hv
        have hl : look y.ts m = none := Option.map_eq_none_iff.mp hv
        refine last _ x ?_
        have ht : A.t m n = none := by
          have := both_some (hE1.told m)
          rw [hl, hyn] at this
          cases hh : A.t m n with
          | none => rfl
          | some b => rw [hh] at this; cases this
        rw [AS.setT_id ht]
        exact (Step.same s1 hR).weak fun z hz => (hR.nets.only z hz).imp id fun c => c.elim
    | some t =>
      obtain ⟨ta, rfl, hta⟩ := hdue
      refine ⟨_, rfl, _, rfl, iteF ?_⟩
      have hy : y ∈ x.es := by
        rcases hor with hy | ⟨_, _, _, hno⟩
        · exact hy
        · exact absurd (hR.nets.all _ (hkn t rfl)) (by rw [← hyn]; exact hno)
      have hrl : (kvs y.ts).length < sizeLine := small_line (by rw [kvs_len]; have := (hE1.few hA).2; omega)
      obtain ⟨x2, S2, _⟩ := hR1.setTs hy (ts' := putR y.ts m ta) (k := m) (v := some t) (putR_nodup hE1.tnd m ta) (fun k' => by
          rw [look_putR, look_putR, if_pos rfl]) (by rw [look_putR, if_pos rfl]; exact hta.same s1) (fun n z => z.elim)
      refine ⟨_, rfl, q_fld rfl he1 T.en e2 rfl ⟨_, rfl, y.td, _, rfl, DPut.k (k := Sum.inl (m : Int)) hE1.td hrl, ?_⟩⟩
      rw [kvs_put]
      rw [hyn] at S2
      refine q _ x2 ((Step.same s1 hR).trans (S2.weak fun z hz => ?_))
      rcases S2.rat.nets.only z hz with c | c
      · exact .inl c
      · left
        refine ⟨m, .inr ?_⟩
        show (if m = m ∧ z = n then some t else A.t m z).isSome = true
        rw [if_pos ⟨rfl, c⟩]; rfl
noncomputable def nums (n : Net) (path : List Nat) (pref origin med : Nat) : List Nat := [n.1, n.2, path.length, pref, origin, med] ++ path ++ List.replicate (16 - path.length) 0
noncomputable def spRtNums : Sp := fun vs H Q _ => ∃ (na pa : Addr) (n : Net) (path : List Nat) (pref origin med : Nat), vs = [.ref na, .ref pa, iv pref, iv origin, iv med] ∧ H na = some (.tup (nV n)) ∧ H pa = some (.tup (ivs path)) ∧ path.length ≤ 16 ∧
  ∀ (l : Addr) (H' : Hp), Same H H' → H' l = some (.lst (ivs (nums n path pref origin med))) → H l = none → Q (.ref l) H'
theorem scRtNums : FnScope ["network", "path", "pref", "origin", "med", "rest"] ["network", "path", "pref", "origin", "med"] (defScope sRtNums) := ⟨rfl, rfl, rfl, by decide +kernel, rfl, by decide +kernel, by decide +kernel⟩
theorem rep0 (k : Nat) : (List.replicate k [V.int 0]).flatten = ivs (List.replicate k 0) := by
  induction k with
  | zero => rfl
  | succ k ih => rw [List.replicate_succ, List.flatten_cons, ih, List.replicate_succ]; rfl
theorem ok_rtNums {f : Addr} {fd : FuncData} (F : Fun K "route_numbers" "route_numbers" sRtNums f fd) (T : Txt K mg C) : FnOk P w K mg base CX0 1 f fd ["network", "path", "pref", "origin", "med"] spRtNums := by
  obtain ⟨t16, g16⟩ := T.lpath
  refine F.ok scRtNums (fun vs H Q E h => ?_) (fun cdv A0 outer s H vs Q E hr h => ?_)
  · obtain ⟨na, pa, n, path, pref, origin, med, rfl, _⟩ := h
    rfl
  · obtain ⟨na, pa, n, path, pref, origin, med, rfl, hna, hpa, h16, q⟩ := h
    have hl16 : (ivs path).length = path.length := List.length_map _
    refine ⟨_, pss_cons (ps_set (i := 5) scRtNums.nd rfl (Or.inl rfl) (pe_op op_rep (pe_lst (pa_cons pe_int pa_nil)) (pe_op op_sub (pe_glob (v := .int 16) rfl g16 ⟨t16, rfl⟩) (pe_callB call_len_seq rfl T.len PySem.boot_len (pa_cons (pv 1) pa_nil)))))
      (pss_one (ps_ret (pe_op op_cat (pe_op op_cat (pe_lst (pa_cons (pe_ix ix_tup (pv 0) pe_int (fun _ _ => rfl)) (pa_cons (pe_ix ix_tup (pv 0) pe_int (fun _ _ => rfl)) (pa_cons (pe_callB call_len_seq rfl T.len PySem.boot_len (pa_cons (pv 1) pa_nil)) (pa_cons (pv 2) (pa_cons (pv 3) (pa_cons (pv 4) pa_nil))))))) (pe_callTy call_list_of rfl T.lst (by decide +kernel) (pa_cons (pv 1) pa_nil))) (pv 5)))), ?_⟩
    try dsimp only [cx_K]
    refine ⟨(by show 1 ≤ sizeLine; decide), fun l1 hl1 => ?_⟩
    have s1 : Same H (upd H l1 (.lst [.int 0])) := Same.new hl1
    have hl1' : upd H l1 (.lst [.int 0]) l1 = some (.lst [.int 0]) := upd_same
    generalize hH1 : upd H l1 (.lst [.int 0]) = H1 at s1 hl1'
    refine ⟨_, rfl, pa, _, rfl, .inr (SqT.of (s1 _ _ hpa)), _, _, rfl, rfl, ?_⟩
    rw [hl16]
    have e16 : ((16 : Int) - (path.length : Int)) = ((16 - path.length : Nat) : Int) := by omega
    refine ⟨l1, (16 : Int) - (path.length : Int), _, rfl, rfl, hl1', (by omega), (by omega), (by show 1 * ((16 : Int) - (path.length : Int)).toNat ≤ sizeLine; rw [sizeLine_eq]; omega), fun l2 hl2 => ?_⟩
    rw [e16, Int.toNat_natCast, rep0]
    have s2 : Same H1 (upd H1 l2 (.lst (ivs (List.replicate (16 - path.length) 0)))) := Same.new hl2
    have hl2' : upd H1 l2 (.lst (ivs (List.replicate (16 - path.length) 0))) l2 = some (.lst (ivs (List.replicate (16 - path.length) 0))) := upd_same
    generalize hH2 : upd H1 l2 (.lst (ivs (List.replicate (16 - path.length) 0))) = H2 at s2 hl2'
    have s02 := s1.trans s2
    refine q_ixT rfl (SqT.of (s02 _ _ hna)) (at_of (j := 0) (v := iv n.1) rfl rfl) ?_
    refine q_ixT rfl (SqT.of (s02 _ _ hna)) (at_of (j := 1) (v := iv n.2) rfl rfl) ?_
    refine ⟨_, rfl, pa, _, rfl, .inr (SqT.of (s02 _ _ hpa)), _, rfl, _, rfl, _, rfl, (by show 6 ≤ sizeLine; decide), fun l3 hl3 => ?_⟩
    rw [hl16]
    have s3 : Same H2 (upd H2 l3 (.lst [iv n.1, iv n.2, iv path.length, iv pref, iv origin, iv med])) := Same.new hl3
    have hl3' : upd H2 l3 (.lst [iv n.1, iv n.2, iv path.length, iv pref, iv origin, iv med]) l3 = some (.lst [iv n.1, iv n.2, iv path.length, iv pref, iv origin, iv med]) := upd_same
    generalize hH3 : upd H2 l3 (.lst [iv n.1, iv n.2, iv path.length, iv pref, iv origin, iv med]) = H3 at s3 hl3'
    refine ⟨_, rfl, pa, _, rfl, .inr (SqT.of (s3 _ _ (s02 _ _ hpa))), fun l4 hl4 => ?_⟩
    have s4 : Same H3 (upd H3 l4 (.lst (ivs path))) := Same.new hl4
    have hl4' : upd H3 l4 (.lst (ivs path)) l4 = some (.lst (ivs path)) := upd_same
    generalize hH4 : upd H3 l4 (.lst (ivs path)) = H4 at s4 hl4'
    refine ⟨l3, l4, _, _, rfl, rfl, s4 _ _ hl3', hl4', (by rw [hl16]; show 6 + path.length ≤ sizeLine; rw [sizeLine_eq]; omega), fun l5 hl5 => ?_⟩
    have s5 : Same H4 (upd H4 l5 (.lst ([iv n.1, iv n.2, iv path.length, iv pref, iv origin, iv med] ++ ivs path))) := Same.new hl5
    have hl5' : upd H4 l5 (.lst ([iv n.1, iv n.2, iv path.length, iv pref, iv origin, iv med] ++ ivs path)) l5 = some (.lst ([iv n.1, iv n.2, iv path.length, iv pref, iv origin, iv med] ++ ivs path)) := upd_same
    generalize hH5 : upd H4 l5 (.lst ([iv n.1, iv n.2, iv path.length, iv pref, iv origin, iv med] ++ ivs path)) = H5 at s5 hl5'
    have s35 := (s3.trans s4).trans s5
    refine ⟨_, rfl, l5, l2, _, _, rfl, rfl, hl5', s35 _ _ hl2', ?_, fun l6 hl6 => ?_⟩
    · rw [List.length_append, hl16, List.length_map, List.length_replicate]
      show 6 + path.length + (16 - path.length) ≤ sizeLine
      rw [sizeLine_eq]; omega
    · have s05 := s02.trans s35
      refine q l6 _ (s05.trans (Same.new hl6)) ?_ ?_
      · rw [upd_same]
        unfold nums ivs
        rw [List.map_append, List.map_append]
        rfl
      · cases e : H l6 with
        | none => rfl
        | some o => rw [s05 _ _ e] at hl6; cases hl6
noncomputable def tnums (n : Net) : Told → List Nat
  | none => nums n [] 0 0 0
  | some t => nums n t.1 0 t.2 0
noncomputable def spTdNums : Sp := fun vs H Q _ => ∃ (na : Addr) (n : Net) (v : V) (t : Told), vs = [.ref na, v] ∧ H na = some (.tup (nV n)) ∧ DueIs H v t ∧ (∀ y, t = some y → y.1.length ≤ 16) ∧
  ∀ (l : Addr) (H' : Hp), Same H H' → H' l = some (.lst (ivs (tnums n t))) → H l = none → Q (.ref l) H'
theorem scTdNums : FnScope ["network", "what"] ["network", "what"] (defScope sTdNums) := ⟨rfl, rfl, rfl, by decide +kernel, rfl, by decide +kernel, by decide +kernel⟩
theorem ok_tdNums {f fN : Addr} {fd fdN : FuncData} (F : Fun K "told_numbers" "told_numbers" sTdNums f fd) (T : Txt K mg C) (GN : FnOk P w K mg base CX0 1 fN fdN ["network", "path", "pref", "origin", "med"] spRtNums) (kN : PySem.W.keepIn K (.ref fN) = true) (bN : Binds K fdN ["network", "path", "pref", "origin", "med"] []) (mN : mg "route_numbers" = some (.ref fN)) :
    FnOk P w K mg base CX0 2 f fd ["network", "what"] spTdNums := by
  refine F.ok scTdNums (fun vs H Q E h => ?_) (fun cdv A0 outer s H vs Q E hr h => ?_)
  · obtain ⟨na, n, v, t, rfl, _⟩ := h
    rfl
  · obtain ⟨na, n, v, t, rfl, hna, hd, h16, q⟩ := h
    refine ⟨_, pss_cons (ps_if (pt_cmp (pc_isN (pv 1))) (pss_one (ps_ret (pe_call GN hr rfl mN kN bN .nil pass0 (pa_cons (pv 0) (pa_cons (pe_tup pa_nil) (pa_cons pe_int (pa_cons pe_int (pa_cons pe_int pa_nil)))))))) pss_nil)
      (pss_one (ps_ret (pe_call GN hr rfl mN kN bN .nil pass0 (pa_cons (pv 0) (pa_cons (pe_ix ix_tup (pv 1) pe_int (fun _ _ => rfl)) (pa_cons pe_int (pa_cons (pe_ix ix_tup (pv 1) pe_int (fun _ _ => rfl)) (pa_cons pe_int pa_nil)))))))), ?_⟩
    try dsimp only [cx_K]
    cases t with
    | none =>
      have hv : v = .non := hd
      subst hv
      refine ⟨_, rfl, _, rfl, iteT ⟨_, rfl, (by show 0 ≤ sizeLine; decide), fun pa hpa => ?_⟩⟩
      have s1 : Same H (upd H pa (.tup [])) := Same.new hpa
      refine ⟨na, pa, n, [], 0, 0, 0, rfl, s1 _ _ hna, upd_same, (by decide), fun l H' s hl hn => q l H' (s1.trans s) hl ?_⟩
      exact (upd_none hn).2
    | some t =>
      obtain ⟨ta, rfl, pa, hta, hpa⟩ := hd
      refine ⟨_, rfl, _, rfl, iteF ⟨_, rfl, q_ixT rfl (SqT.of hta) (at_of (j := 0) (v := .ref pa) rfl rfl) ?_⟩⟩
      refine q_ixT rfl (SqT.of hta) (at_of (j := 1) (v := iv t.2) rfl rfl) ?_
      exact ⟨na, pa, n, t.1, 0, t.2, 0, rfl, hna, hpa, h16 t rfl, fun l H' s hl hn => q l H' s hl hn⟩
end
end R46
end
section
set_option linter.all false
set_option Elab.async false
set_option maxRecDepth 100000
set_option maxHeartbeats 2000000
namespace R46
open PySem PySem.Spec PyProof.Rows L2
open Sf46 (Net Peer Route better Told isNet look)
noncomputable abbrev sNext : Stmt := sRo 6
noncomputable abbrev sBest : Stmt := sRo 7
noncomputable abbrev sSend : Stmt := sRo 8
noncomputable def AS.should (A : AS) (k : Nat) (n : Net) : Told := match A.peer k with
  | none => none
  | some p => due A.self (A.best n) k p
theorem should_some {A : AS} {k : Nat} {n : Net} {p : Peer} (h : A.peer k = some p) : A.should k n = due A.self (A.best n) k p := by
  unfold AS.should
  rw [h]
noncomputable def AS.first (A : AS) : List (Nat × Net) → Option ((Nat × Net) × Told × List (Nat × Net))
  | [] => none
  | z :: r => if A.should z.1 z.2 = A.t z.1 z.2 then A.first r else some (z, A.should z.1 z.2, r)
theorem first_cons_eq {A : AS} {z : Nat × Net} {r : List (Nat × Net)} (h : A.should z.1 z.2 = A.t z.1 z.2) : A.first (z :: r) = A.first r := by
  conv => lhs; unfold AS.first
  rw [if_pos h]
theorem first_cons_ne {A : AS} {z : Nat × Net} {r : List (Nat × Net)} (h : ¬ A.should z.1 z.2 = A.t z.1 z.2) : A.first (z :: r) = some (z, A.should z.1 z.2, r) := by
  conv => lhs; unfold AS.first
  rw [if_neg h]
noncomputable def AS.send (A : AS) (a : Nat) : Nat → Int
  | 0 => 8
  | j + 1 => match A.best (fb a j, j) with
    | some b => (b.1 : Int)
    | none => A.send a j
theorem send_some {A : AS} {a j : Nat} {b : RtX} (h : A.best (fb a j, j) = some b) : A.send a (j + 1) = (b.1 : Int) := by
  conv => lhs; unfold AS.send
  rw [h]
theorem send_none {A : AS} {a j : Nat} (h : A.best (fb a j, j) = none) : A.send a (j + 1) = A.send a j := by
  conv => lhs; unfold AS.send
  rw [h]
noncomputable def AS.bestN (A : AS) (n : Nat) (b : Int) : List Int := if isNet n b = true then (match A.best (n, b.toNat) with
  | some z => (z.1 : Int) :: (nums (n, b.toNat) z.2.2.path z.2.2.pref z.2.2.origin z.2.2.med).map fun (i : Nat) => (i : Int)
  | none => [8]) else [-1]
theorem ints_ivs (l : List Nat) : (l.map fun (i : Nat) => (i : Int)).map V.int = ivs l := by rw [List.map_map]; rfl
section
variable {P : Program} {w : World} {K : PySem.W.Frag} {mg : Str → Option Value} {base : Heap} {C : Cl}
noncomputable def Apt (H : Hp) (x : RA) (r l : Addr) : Prop := ∀ b o, H b = some o → b ∉ x.muts r → b ≠ l
noncomputable def spNext (C : Cl) : Sp := fun vs H Q _ => ∃ (r : Addr) (x : RA) (N : List Net) (A : AS), vs = [.ref r] ∧ RAt C H r x A No ∧ AOk N A ∧ (∀ z ∈ A.row, (A.peer z.1).isSome = true) ∧
  (A.first A.row = none → ∀ (H' : Hp) (x' : RA) (l : Addr), Step C H H' r x x' (A.setRow []) No → H' l = some (.lst [.int 8]) → Apt H x r l → Q (.ref l) H') ∧
  (∀ z t rest, A.first A.row = some (z, t, rest) → ∀ (H' : Hp) (x' : RA) (l : Addr), Step C H H' r x x' ((A.setRow rest).setT z.1 z.2 t) No → H' l = some (.lst (iv z.1 :: ivs (tnums z.2 t))) → Apt H x r l → Q (.ref l) H')
noncomputable def pvNext (C : Cl) (A : AS) (x : RA) (r l : Addr) (H : Hp) (i : Nat) (σ : L2.St) (H' : Hp) : Prop := ∃ (v1 v2 v3 v4 : Option V) (x' : RA), σ = [some (.ref r), v1, v2, v3, v4] ∧ Step C (upd H l (.lst (x.ws.map fun w => V.ref w.2))) H' r x x' (A.setRow (x'.ws.map (·.1))) No ∧ H' l = some (.lst (x.ws.map fun w => V.ref w.2)) ∧ x'.ws = x.ws.drop i ∧ A.first A.row = A.first ((x.ws.drop i).map (·.1))
theorem scNext : FnScope ["self", "pair", "k", "network", "due"] ["self"] (defScope sNext) := ⟨rfl, rfl, rfl, by decide +kernel, rfl, by decide +kernel, by decide +kernel⟩
theorem ok_next {f fT fO fK fN : Addr} {fd fdT fdO fdK fdN : FuncData} (F : Fun K "next_told" "Router.next_told" sNext f fd) (T : Txt K mg C) (mT : Meth K C.ro "due_to" fT) (GT : FnOk P w K mg base CX0 5 fT fdT ["self", "k", "network"] (spDueTo C)) (bT : Binds K fdT ["self", "k", "network"] [])
    (mO : Meth K C.ro "entry_of" fO) (GO : FnOk P w K mg base CX0 3 fO fdO ["self", "network"] (spEntryOf C)) (bO : Binds K fdO ["self", "network"] [])
    (mK : Meth K C.ro "keep_told" fK) (GK : FnOk P w K mg base CX0 5 fK fdK ["self", "k", "network", "what"] (spKeepTold C)) (bK : Binds K fdK ["self", "k", "network", "what"] [])
    (GN : FnOk P w K mg base CX0 2 fN fdN ["network", "what"] spTdNums) (kN : PySem.W.keepIn K (.ref fN) = true) (bN : Binds K fdN ["network", "what"] []) (mN : mg "told_numbers" = some (.ref fN)) :
    FnOk P w K mg base CX0 6 f fd ["self"] (spNext C) := by
  obtain ⟨t8, g8⟩ := T.nobody
  refine F.ok scNext (fun vs H Q E h => ?_) (fun cdv A0 outer s H vs Q E hr h => ?_)
  · obtain ⟨r, x, N, A, rfl, _⟩ := h
    rfl
  · obtain ⟨r, x, N, A, rfl, hR, hA, hrow, q1, q2⟩ := h
    obtain ⟨n1, n2, n3, n4⟩ := T.roA
    obtain ⟨e1, e2⟩ := T.enA
    obtain ⟨dx, hobj⟩ := hR.base.obj
    refine ⟨_, pss_cons (ps_for PassesOwn.never rfl (pi_list (pe_callTy (call_listX (T := pairK) rfl) rfl T.lst (by decide +kernel) (pa_cons (pe_fld (pv 0) rfl) pa_nil))) (pg_name (i := 1) scNext.nd rfl (Or.inl rfl))
      (pss_cons (ps_expr (pe_xpop1 (T := pairK) (hu2_of hr) (pe_fld (pv 0) rfl) (pv 1) ⟨rfl, rfl, rfl, rfl⟩))
      (pss_cons (ps_set (i := 2) scNext.nd rfl (Or.inl rfl) (pe_ix ix_tup (pv 1) pe_int (fun _ _ => rfl)))
      (pss_cons (ps_set (i := 3) scNext.nd rfl (Or.inl rfl) (pe_ix ix_tup (pv 1) pe_int (fun _ _ => rfl)))
      (pss_cons (ps_set (i := 4) scNext.nd rfl (Or.inl rfl) (pe_meth (pv 0) T.ro mT GT hr bT .nil pass0 (pa_cons (pv 2) (pa_cons (pv 3) pa_nil))))
      (pss_one (ps_if (pt_cmpR (op_neD hr.units) (pv 4) (pe_dget1 (hu_of hr) (pe_fld (pe_meth (pv 0) T.ro mO GO (hr.mono (by decide)) bO .nil pass0 (pa_cons (pv 3) pa_nil)) rfl) (pv 2) ⟨rfl, rfl, rfl, rfl⟩) (nomark _))
        (pss_cons (ps_expr (pe_meth (pv 0) T.ro mK GK hr bK .nil pass0 (pa_cons (pv 2) (pa_cons (pv 3) (pa_cons (pv 4) pa_nil)))))
        (pss_one (ps_ret (pe_op op_cat (pe_lst (pa_cons (pv 2) pa_nil)) (pe_call GN (hr.mono (by decide)) rfl mN kN bN .nil pass0 (pa_cons (pv 3) (pa_cons (pv 4) pa_nil))))))) pss_nil)))))))
      (pss_one (ps_ret (pe_lst (pa_cons (pe_glob (v := .int 8) rfl g8 ⟨t8, rfl⟩) pa_nil)))), ?_⟩
    try dsimp only [cx_K]
    refine q_fld rfl hobj T.ro n4 rfl ⟨x.wd, _, rfl, .inl hR.wait.wd, fun l hl => ?_⟩
    have el : (wsV x.ws).map (fun p => V.ref p.2.1) = x.ws.map fun w => V.ref w.2 := by
      unfold wsV; rw [List.map_map]; rfl
    rw [el]
    have s1 : Same H (upd H l (.lst (x.ws.map fun w => V.ref w.2))) := Same.new hl
    have hlm : l ∉ x.muts r := hR.fresh hl
    refine ⟨l, rfl, ⟨_, SqL.of upd_same⟩, for_list (K := K) (a := l) (xs := x.ws.map fun w => V.ref w.2) (pvNext C A x r l H)
      ⟨none, none, none, none, x, rfl, by rw [hR.wait.eq]; exact Step.same Same.refl (hR.same s1), upd_same, rfl, by rw [List.drop_zero, hR.wait.eq]⟩ (fun i σ H' _ hm => by obtain ⟨_, _, _, _, _, _, _, h1, _⟩ := hm; exact SqL.of h1) ?_ ?_⟩
    · rintro i v σ H' hi ⟨v1, v2, v3, v4, x', rfl, S, hl', e4, ef⟩
      obtain ⟨w, hw, rfl⟩ := map_get hi
      have hx' : x'.ws = [] ++ w :: x.ws.drop (i + 1) := by rw [e4, drop_get hw]; rfl
      obtain ⟨⟨v0, hv⟩, hd, hon, S2⟩ := S.rat.popW hx'
      obtain ⟨na, hw1, hw2⟩ := id hon
      obtain ⟨dx', hobj'⟩ := S.rat.base.obj
      have hwrow : w.1 ∈ A.row := by rw [← hR.wait.eq]; exact List.mem_map.mpr ⟨w, List.mem_of_getElem? hw, rfl⟩
      obtain ⟨hw8, hwN⟩ := hA.row _ hwrow
      obtain ⟨p, hp⟩ := Option.isSome_iff_exists.mp (hrow _ hwrow)
      refine q_fld rfl hobj' T.ro n4 rfl ⟨x'.wd, _, rfl, .inl S.rat.wait.wd, _, rfl, w.2, _, w.1, v0, rfl, S.rat.wait.wd, S.rat.wait.wdOn, hon, hv, ?_⟩
      rw [hd]
      have S12 := S.trans S2
      simp only [List.nil_append] at S12 S2
      generalize hH2 : upd H' x'.wd (dX pairK.hash x'.wd (wsV (x.ws.drop (i + 1)))) = H2 at S12 S2
      have hH2' : upd H' x'.wd (dX pairK.hash x'.wd (wsV ([] ++ x.ws.drop (i + 1)))) = H2 := hH2
      rw [hH2']
      generalize hx2 : ({ x' with ws := x.ws.drop (i + 1) } : RA) = x2 at S12 S2
      have ews : x2.ws = x.ws.drop (i + 1) := by rw [← hx2]
      have hw1' := S2.imm.tup _ _ hw1
      have hw2' := S2.imm.tup _ _ hw2
      refine q_ixT rfl (SqT.of hw1') (at_of (j := 0) (v := iv w.1.1) rfl rfl) ?_
      refine q_ixT rfl (SqT.of hw1') (at_of (j := 1) (v := .ref na) rfl rfl) ?_
      obtain ⟨dx2, hobj2⟩ := S12.rat.base.obj
      have hArow : ∀ z ∈ (x.ws.drop (i + 1)).map (·.1), z.1 < 8 ∧ z.2 ∈ N := fun z hz => by
        refine hA.row z ?_
        rw [← hR.wait.eq]
        obtain ⟨y, hy, rfl⟩ := List.mem_map.mp hz
        exact List.mem_map.mpr ⟨y, List.mem_of_mem_drop hy, rfl⟩
      have hA2 : AOk N (A.setRow ((x.ws.drop (i + 1)).map (·.1))) := hA.setRow hArow
      refine q_meth rfl hobj2 rfl (args2 rfl rfl ⟨r, na, x2, N, _, No, w.1.2, w.1.1, p, rfl, S12.rat, hA2, hw8, hp, hw2', fun dv H3 s3 hdue => ?_⟩)
      have hR3 := S12.rat.same s3
      obtain ⟨dx3, hobj3⟩ := hR3.base.obj
      refine ⟨_, rfl, q_meth rfl hobj3 rfl (args1 rfl (entryOf_q hR3.base hR3.nets (s3 _ _ hw2') fun y H4 hyn hE4 s4 hor => ?_))⟩
      obtain ⟨de, he4⟩ := hE4.obj
      have htold := told_is hE4 w.1.1
      rw [hyn] at htold
      have htold' : DueIs H4 ((valV (kvs y.ts) (Sum.inl (w.1.1 : Int))).getD .non) (A.t w.1.1 w.1.2) := htold
      have hdue' : DueIs H4 dv (due A.self (A.best w.1.2) w.1.1 p) := hdue.same s4
      refine ⟨y.e, C.en, de, _, _, rfl, he4, T.en, e2, rfl, y.td, rfl, .inl ⟨_, .inl hE4.td⟩, _, rfl, _, DGet.k (k := Sum.inl (w.1.1 : Int)) hE4.td, _, _, hdue'.dp, htold'.dp, pd_shaped _, pd_shaped _, _, rfl, ?_⟩
      rw [pd_eqv]
      have hsh : A.should w.1.1 w.1.2 = due A.self (A.best w.1.2) w.1.1 p := should_some hp
      have hdr : (x.ws.drop i).map (·.1) = w.1 :: (x.ws.drop (i + 1)).map (·.1) := by rw [drop_get hw]; rfl
      have S24 : Step C H2 H4 r x2 x2 (A.setRow ((x.ws.drop (i + 1)).map (·.1))) No := Step.same (s3.trans s4) S12.rat
      have hl4 : H4 l = some (.lst (x.ws.map fun w => V.ref w.2)) := s4 _ _ (s3 _ _ (S12.keep _ _ upd_same hlm))
      by_cases hc : due A.self (A.best w.1.2) w.1.1 p = A.t w.1.1 w.1.2
      · rw [decide_eq_true hc]
        refine iteF ⟨_, _, _, _, x2, rfl, ?_, hl4, ews, ?_⟩
        · rw [ews]
          exact S12.trans S24
        · rw [ef, hdr, first_cons_eq (by rw [hsh]; exact hc)]
      · rw [decide_eq_false hc]
        have hfirst : A.first A.row = some (w.1, due A.self (A.best w.1.2) w.1.1 p, (x.ws.drop (i + 1)).map (·.1)) := by
          rw [ef, hdr, first_cons_ne (by rw [hsh]; exact hc), hsh]
        obtain ⟨dx4, hobj4⟩ := S24.rat.base.obj
        refine iteT (q_meth rfl hobj4 rfl (args3 rfl rfl rfl ⟨r, na, x2, N, _, w.1.2, w.1.1, dv, due A.self (A.best w.1.2) w.1.1 p, rfl, S24.rat, hA2, s4 _ _ (s3 _ _ hw2'), hdue', (fun y hy => due_known (A := A) hy), fun H5 x5 S5 => ?_⟩))
        refine ⟨_, rfl, (by show 1 ≤ sizeLine; decide), fun l5 hl5 => ?_⟩
        have s6 : Same H5 (upd H5 l5 (.lst [iv w.1.1])) := Same.new hl5
        have hl5' : upd H5 l5 (.lst [iv w.1.1]) l5 = some (.lst [iv w.1.1]) := upd_same
        generalize hH6 : upd H5 l5 (.lst [iv w.1.1]) = H6 at s6 hl5'
        have hdue6 : DueIs H6 dv (due A.self (A.best w.1.2) w.1.1 p) := by
          have : ∀ {H H' : Hp} {v : V} {t : Told}, Imm C H H' → DueIs H v t → DueIs H' v t := fun {H H' v t} im h => by
            cases t with
            | none => exact h
            | some t => obtain ⟨a, h1, h2⟩ := h; exact ⟨a, h1, h2.imm im⟩
          exact (this S5.imm hdue').same s6
        refine ⟨_, rfl, _, rfl, na, w.1.2, dv, _, rfl, s6 _ _ (S5.imm.tup _ _ (s4 _ _ (s3 _ _ hw2'))), hdue6, (fun y hy => due_len hy), fun l7 H7 s7 hl7 hn7 => ?_⟩
        refine ⟨l5, l7, _, _, rfl, rfl, s7 _ _ hl5', hl7, ?_, fun l8 hl8 => ?_⟩
        · have e : (ivs (tnums w.1.2 (due A.self (A.best w.1.2) w.1.1 p))).length ≤ 100 := by
            unfold ivs
            rw [List.length_map]
            have hl : ∀ n path pref origin med, path.length ≤ 16 → (nums n path pref origin med).length ≤ 100 := fun n path pref origin med h => by
              unfold nums
              rw [List.length_append, List.length_append, List.length_replicate]
              show 6 + path.length + (16 - path.length) ≤ 100
              omega
            cases hd : due A.self (A.best w.1.2) w.1.1 p with
            | none => exact hl _ _ _ _ _ (by decide)
            | some t => exact hl _ _ _ _ _ (due_len hd)
          rw [sizeLine_eq]
          show 1 + _ ≤ _
          omega
        · have s8 : Same H7 (upd H7 l8 (.lst ([iv w.1.1] ++ ivs (tnums w.1.2 (due A.self (A.best w.1.2) w.1.1 p))))) := Same.new hl8
          have S05 := (((Step.same s1 hR).trans S12).trans S24).trans S5
          have S07 := S05.trans (Step.same (s6.trans s7) S5.rat)
          refine q2 _ _ _ hfirst _ x5 l8 ?_ upd_same fun b o hb hm => ne_of_none (S07.keep b o hb hm) hl8
          exact S07.trans (Step.same s8 S07.rat)
    · rintro σ H' ⟨v1, v2, v3, v4, x', rfl, S, hl', e4, ef⟩
      rw [List.length_map, List.drop_length] at e4 ef
      refine ⟨(by show 1 ≤ sizeLine; decide), fun l3 hl3 => ?_⟩
      refine q1 ef _ x' l3 ?_ upd_same fun b o hb hm => ne_of_none (((Step.same s1 hR).trans S).keep b o hb hm) hl3
      rw [e4] at S
      exact ((Step.same s1 hR).trans S).trans (Step.same (Same.new hl3) S.rat)
noncomputable def spBest (C : Cl) : Sp := fun vs H Q _ => ∃ (r : Addr) (x : RA) (N : List Net) (A : AS) (n : Nat) (b : Int), vs = [.ref r, iv n, .int b] ∧ RAt C H r x A No ∧ AOk N A ∧
  ∀ (H' : Hp) (l : Addr), Same H H' → H' l = some (.lst ((A.bestN n b).map V.int)) → Apt H x r l → Q (.ref l) H'
theorem scBest : FnScope ["self", "net", "bits", "network", "route"] ["self", "net", "bits"] (defScope sBest) := ⟨rfl, rfl, rfl, by decide +kernel, rfl, by decide +kernel, by decide +kernel⟩
theorem ok_best {f fN fO fB fR : Addr} {fd fdN fdO fdB fdR : FuncData} (F : Fun K "best" "Router.best" sBest f fd) (T : Txt K mg C) (GN : FnOk P w K mg base CX0 2 fN fdN ["net", "bits"] spIsNet) (kN : PySem.W.keepIn K (.ref fN) = true) (bN : Binds K fdN ["net", "bits"] []) (mN : mg "is_network" = some (.ref fN))
    (mO : Meth K C.ro "entry_of" fO) (GO : FnOk P w K mg base CX0 3 fO fdO ["self", "network"] (spEntryOf C)) (bO : Binds K fdO ["self", "network"] [])
    (mB : Meth K C.en "best_route" fB) (GB : FnOk P w K mg base CX0 4 fB fdB ["self"] (spEnBest C)) (bB : Binds K fdB ["self"] [])
    (GR : FnOk P w K mg base CX0 1 fR fdR ["network", "path", "pref", "origin", "med"] spRtNums) (kR : PySem.W.keepIn K (.ref fR) = true) (bR : Binds K fdR ["network", "path", "pref", "origin", "med"] []) (mR : mg "route_numbers" = some (.ref fR)) :
    FnOk P w K mg base CX0 5 f fd ["self", "net", "bits"] (spBest C) := by
  obtain ⟨t8, g8⟩ := T.nobody
  obtain ⟨tr, gr⟩ := T.refused
  refine F.ok scBest (fun vs H Q E h => ?_) (fun cdv A0 outer s H vs Q E hr h => ?_)
  · obtain ⟨r, x, N, A, n, b, rfl, _⟩ := h
    rfl
  · obtain ⟨r, x, N, A, n, b, rfl, hR, hA, q⟩ := h
    obtain ⟨n1, n2, n3, n4⟩ := T.roA
    obtain ⟨m1, m2, m3, m4, m5⟩ := T.rtA
    obtain ⟨k1, k2, k3⟩ := T.nbA
    obtain ⟨dx, hobj⟩ := hR.base.obj
    refine ⟨_, pss_cons (ps_if (pt_not (pt_val (pe_call GN (hr.mono (by decide)) rfl mN kN bN .nil pass0 (pa_cons (pv 1) (pa_cons (pv 2) pa_nil))))) (pss_one (ps_ret (pe_lst (pa_cons (pe_glob (v := .int (-1)) rfl gr ⟨tr, rfl⟩) pa_nil)))) pss_nil)
      (pss_cons (ps_set (i := 3) scBest.nd rfl (Or.inl rfl) (pe_tup (pa_cons (pv 1) (pa_cons (pv 2) pa_nil))))
      (pss_cons (ps_set (i := 4) scBest.nd rfl (Or.inl rfl) (pe_meth0 (pe_meth (pv 0) T.ro mO GO (hr.mono (by decide)) bO .nil pass0 (pa_cons (pv 3) pa_nil)) T.en mB GB hr bB .nil pass0))
      (pss_cons (ps_if (pt_cmp (pc_isN (pv 4))) (pss_one (ps_ret (pe_lst (pa_cons (pe_glob (v := .int 8) rfl g8 ⟨t8, rfl⟩) pa_nil)))) pss_nil)
      (pss_one (ps_ret (pe_op op_cat (pe_lst (pa_cons (pe_fld (pe_fld (pv 4) rfl) rfl) pa_nil)) (pe_call GR (hr.mono (by decide)) rfl mR kR bR .nil pass0 (pa_cons (pv 3) (pa_cons (pe_fld (pv 4) rfl) (pa_cons (pe_fld (pv 4) rfl) (pa_cons (pe_fld (pv 4) rfl) (pa_cons (pe_fld (pv 4) rfl) pa_nil)))))))))))), ?_⟩
    try dsimp only [cx_K]
    refine ⟨_, rfl, _, rfl, n, b, rfl, _, rfl, ?_⟩
    unfold AS.bestN at q
    cases hn : isNet n b with
    | false =>
      rw [hn, if_neg Bool.false_ne_true] at q
      exact iteT ⟨(by show 1 ≤ sizeLine; decide), fun l hl => q _ l (Same.new hl) upd_same fun b o hb _ => ne_of_none hb hl⟩
    | true =>
      rw [hn, if_pos rfl] at q
      obtain ⟨b, rfl, hb⟩ := isNet_nat hn
      rw [Int.toNat_natCast] at q
      refine iteF ⟨_, rfl, _, rfl, (by show 2 ≤ sizeLine; decide), fun na hna => ?_⟩
      have s1 : Same H (upd H na (.tup [iv n, iv b])) := Same.new hna
      have hna1 : upd H na (.tup [iv n, iv b]) na = some (.tup (nV (n, b))) := upd_same
      generalize hH1 : upd H na (.tup [iv n, iv b]) = H1 at s1 hna1
      have hR1 := hR.same s1
      obtain ⟨dx1, hobj1⟩ := hR1.base.obj
      refine q_meth rfl hobj1 rfl (args1 rfl (entryOf_q hR1.base hR1.nets hna1 fun y H2 hyn hE2 s2 hor => ?_))
      obtain ⟨de, he2⟩ := hE2.obj
      refine ⟨y.e, de, _, rfl, he2, rfl, args0 (best_q hE2 hA fun bv H3 s3 hbest => ?_)⟩
      rw [hyn] at hbest
      have s03 := (s1.trans s2).trans s3
      cases hb3 : A.best (n, b) with
      | none =>
        rw [hb3] at q hbest
        have hbv : bv = .non := hbest
        subst hbv
        exact ⟨_, rfl, _, rfl, iteT ⟨(by show 1 ≤ sizeLine; decide), fun l hl => q _ l (s03.trans (Same.new hl)) upd_same fun b o hb _ => ne_of_none (s03 _ _ hb) hl⟩⟩
      | some z =>
        rw [hb3] at q hbest
        obtain ⟨ra, rfl, ⟨dr, nb, pa, hra, ⟨dn, hnb⟩, hpa⟩, hne⟩ := hbest
        have h16 := (best_len hA hb3).2
        refine ⟨_, rfl, _, rfl, iteF (q_ff rfl hra T.rt m1 rfl hnb T.nb k1 rfl ⟨(by show 1 ≤ sizeLine; decide), fun l4 hl4 => ?_⟩)⟩
        have s4 : Same H3 (upd H3 l4 (.lst [iv z.1])) := Same.new hl4
        have hl4' : upd H3 l4 (.lst [iv z.1]) l4 = some (.lst [iv z.1]) := upd_same
        generalize hH4 : upd H3 l4 (.lst [iv z.1]) = H4 at s4 hl4'
        refine ⟨_, rfl, q_fld rfl (s4 _ _ hra) T.rt m2 rfl (q_fld rfl (s4 _ _ hra) T.rt m3 rfl (q_fld rfl (s4 _ _ hra) T.rt m4 rfl (q_fld rfl (s4 _ _ hra) T.rt m5 rfl ?_)))⟩
        refine ⟨na, pa, (n, b), z.2.2.path, z.2.2.pref, z.2.2.origin, z.2.2.med, rfl, s4 _ _ (s3 _ _ (s2 _ _ hna1)), s4 _ _ hpa, h16, fun l5 H5 s5 hl5 hn5 => ?_⟩
        refine ⟨l4, l5, _, _, rfl, rfl, s5 _ _ hl4', hl5, ?_, fun l6 hl6 => ?_⟩
        · rw [sizeLine_eq]
          unfold ivs nums
          rw [List.length_map, List.length_append, List.length_append, List.length_replicate]
          show 1 + (6 + z.2.2.path.length + (16 - z.2.2.path.length)) ≤ _
          omega
        · refine q _ l6 (s03.trans ((s4.trans s5).trans (Same.new hl6))) ?_ fun b o hb _ => ne_of_none (s5 _ _ (s4 _ _ (s03 _ _ hb))) hl6
          rw [upd_same, List.map_cons, ints_ivs]
          rfl
noncomputable def spSend (C : Cl) : Sp := fun vs H Q _ => ∃ (r : Addr) (x : RA) (N : List Net) (A : AS) (a : Nat), vs = [.ref r, iv a] ∧ RAt C H r x A No ∧ AOk N A ∧ ∀ H', Same H H' → Q (.int (A.send a 33)) H'
theorem scSend : FnScope ["self", "address", "bits", "route"] ["self", "address"] (defScope sSend) := ⟨rfl, rfl, rfl, by decide +kernel, rfl, by decide +kernel, by decide +kernel⟩
theorem ok_send {f fF fO fB : Addr} {fd fdF fdO fdB : FuncData} (F : Fun K "send" "Router.send" sSend f fd) (T : Txt K mg C) (GF : FnOk P w K mg base CX0 1 fF fdF ["number", "bits"] spFirst) (kF : PySem.W.keepIn K (.ref fF) = true) (bF : Binds K fdF ["number", "bits"] []) (mF : mg "first_bits" = some (.ref fF))
    (mO : Meth K C.ro "entry_of" fO) (GO : FnOk P w K mg base CX0 3 fO fdO ["self", "network"] (spEntryOf C)) (bO : Binds K fdO ["self", "network"] [])
    (mB : Meth K C.en "best_route" fB) (GB : FnOk P w K mg base CX0 4 fB fdB ["self"] (spEnBest C)) (bB : Binds K fdB ["self"] []) :
    FnOk P w K mg base CX0 5 f fd ["self", "address"] (spSend C) := by
  obtain ⟨t8, g8⟩ := T.nobody
  obtain ⟨t32, g32⟩ := T.abits
  refine F.ok scSend (fun vs H Q E h => ?_) (fun cdv A0 outer s H vs Q E hr h => ?_)
  · obtain ⟨r, x, N, A, a, rfl, _⟩ := h
    rfl
  · obtain ⟨r, x, N, A, a, rfl, hR, hA, q⟩ := h
    obtain ⟨n1, n2, n3, n4⟩ := T.roA
    obtain ⟨m1, m2, m3, m4, m5⟩ := T.rtA
    obtain ⟨k1, k2, k3⟩ := T.nbA
    refine ⟨_, pss_cons (ps_for PassesOwn.never rfl (pi_range3 rfl T.rng (pa_cons (pe_glob (v := .int 32) rfl g32 ⟨t32, rfl⟩) (pa_cons (pe_un un_neg pe_int) (pa_cons (pe_un un_neg pe_int) pa_nil)))) (pg_name (i := 2) scSend.nd rfl (Or.inl rfl))
      (pss_cons (ps_set (i := 3) scSend.nd rfl (Or.inl rfl) (pe_meth0 (pe_meth (pv 0) T.ro mO GO (hr.mono (by decide)) bO .nil pass0 (pa_cons (pe_tup (pa_cons (pe_call GF (hr.mono (by decide)) rfl mF kF bF .nil pass0 (pa_cons (pv 1) (pa_cons (pv 2) pa_nil))) (pa_cons (pv 2) pa_nil))) pa_nil)) T.en mB GB hr bB .nil pass0))
      (pss_one (ps_if (pt_cmp (pc_notN (pv 3))) (pss_one (ps_ret (pe_fld (pe_fld (pv 3) rfl) rfl))) pss_nil))))
      (pss_one (ps_ret (pe_glob (v := .int 8) rfl g8 ⟨t8, rfl⟩))), ?_⟩
    try dsimp only [cx_K]
    refine ⟨_, rfl, _, rfl, 32, -1, -1, 33, rfl, RgC.neg (by decide) (by decide) (by decide) (by decide), for_rangeC (lo := 32) (c := -1) (n := 33) (fun i σ H' => ∃ (v1 v2 : Option V), σ = [some (.ref r), some (iv a), v1, v2] ∧ Same H H' ∧ A.send a 33 = A.send a (33 - i)) ⟨none, none, rfl, Same.refl, rfl⟩ ?_ ?_⟩
    · rintro i σ H' hi ⟨v1, v2, rfl, s0, he⟩
      have hR0 := hR.same s0
      obtain ⟨dx, hobj⟩ := hR0.base.obj
      have ei : (32 : Int) + ((i : Nat) : Int) * (-1) = ((32 - i : Nat) : Int) := by omega
      rw [ei]
      refine q_meth rfl hobj rfl ?_
      refine ⟨_, rfl, _, rfl, a, 32 - i, rfl, (by omega), _, rfl, (by show 2 ≤ sizeLine; decide), fun na hna => ?_⟩
      have s1 : Same H' (upd H' na (.tup [iv (fb a (32 - i)), iv (32 - i)])) := Same.new hna
      have hna1 : upd H' na (.tup [iv (fb a (32 - i)), iv (32 - i)]) na = some (.tup (nV (fb a (32 - i), 32 - i))) := upd_same
      generalize hH1 : upd H' na (.tup [iv (fb a (32 - i)), iv (32 - i)]) = H1 at s1 hna1
      have hR1 := hR0.same s1
      refine args0 (entryOf_q hR1.base hR1.nets hna1 fun y H2 hyn hE2 s2 hor => ?_)
      obtain ⟨de, he2⟩ := hE2.obj
      refine ⟨y.e, de, _, rfl, he2, rfl, args0 (best_q hE2 hA fun bv H3 s3 hbest => ?_)⟩
      rw [hyn] at hbest
      have s03 := s0.trans ((s1.trans s2).trans s3)
      have e33 : 33 - i = (32 - i) + 1 := by omega
      cases hb3 : A.best (fb a (32 - i), 32 - i) with
      | none =>
        rw [hb3] at hbest
        have hbv : bv = .non := hbest
        subst hbv
        refine ⟨_, rfl, _, rfl, iteF ⟨_, _, rfl, s03, ?_⟩⟩
        have e2 : 33 - (i + 1) = 32 - i := by omega
        rw [he, e33, send_none hb3, e2]
      | some z =>
        rw [hb3] at hbest
        obtain ⟨ra, rfl, ⟨dr, nb, pa, hra, ⟨dn, hnb⟩, hpa⟩, hne⟩ := hbest
        refine ⟨_, rfl, _, rfl, iteT (q_ff rfl hra T.rt m1 rfl hnb T.nb k1 rfl ?_)⟩
        rw [he, e33, send_some hb3] at q
        exact q _ s03
    · rintro σ H' ⟨v1, v2, rfl, s0, he⟩
      have e : A.send a 33 = 8 := he
      rw [e] at q
      exact q _ s0
end
end R46
end
section
set_option linter.all false
set_option Elab.async false
set_option maxRecDepth 100000
set_option maxHeartbeats 2000000
namespace R46
open L2
open Sf46 (Net Peer Route Told isNet look put spec isPeer only raw places holds)
variable {s : Sf46.St} {N : List Net}
theorem AS.eq {A B : AS} (h1 : A.self = B.self) (h2 : A.peer = B.peer) (h3 : A.g = B.g) (h4 : A.t = B.t) (h5 : A.row = B.row) : A = B := by
  cases A; cases B
  cases h1; cases h2; cases h3; cases h4; cases h5
  rfl
theorem of_best (n : Net) : (AS.of s).best n = s.best n := (best_fold s n).symm
theorem of_g (o : Ok s) (k : Nat) (n : Net) : ((AS.of s).g k n).isSome = (look s.held (k, n)).isSome := by
  show (routeOf s n k).isSome = _
  unfold routeOf
  cases hp : s.peer k with
  | none => rw [look_held o (by rw [hp]; rfl)]; rfl
  | some p => cases look s.held (k, n) <;> rfl
theorem of_isUp (k : Int) : (AS.of s).isUp k = s.isUp k := by
  unfold AS.isUp Sf46.St.isUp Sf46.isPeer
  rw [Bool.decide_and]
  rfl
theorem of_should {k : Nat} {n : Net} {p : Peer} (h : s.peer k = some p) : due (AS.of s).self ((AS.of s).best n) k p = s.should k n := by
  rw [of_best]; exact due_should h
theorem of_look1 (n : Net) (r : List (Nat × Net)) (k : Nat) : (AS.of s).look1 n r k = lookOne s n r k := by
  unfold lookOne
  cases hp : s.peer k with
  | none => rw [look1_none hp]; rfl
  | some p =>
    rw [look1_some hp, of_should hp]
    show rowIf (decide (s.should k n = look s.told (k, n))) r (k, n) = _
    unfold rowIf
    by_cases h : s.should k n = look s.told (k, n)
    · rw [decide_eq_true h, if_pos rfl, if_pos (show (some p).isSome = true from rfl), if_neg (fun z => z h)]
    · rw [decide_eq_false h, if_neg Bool.false_ne_true, if_pos (show (some p).isSome = true from rfl), if_pos h]
theorem of_lookAt (o : Ok s) (n : Net) : AS.of (s.lookAt n) = (AS.of s).lookAt n := by
  have hrow : (s.lookAt n).row = (List.range 8).foldl (lookOne s n) s.row := lookAt_row _ _ fun x hx => (o.row x hx).1
  have e : AS.of (s.lookAt n) = (AS.of s).setRow (s.lookAt n).row := rfl
  rw [e, hrow]
  unfold AS.lookAt
  congr 1
  have : (AS.of s).look1 n = lookOne s n := by funext r k; exact of_look1 n r k
  rw [this]
  rfl
theorem of_looks : ∀ (ns : List Net) {s : Sf46.St}, Ok s → (∀ n ∈ ns, NetOk n) → AS.of (ns.foldl Sf46.St.lookAt s) = ns.foldl AS.lookAt (AS.of s)
  | [], _, _, _ => rfl
  | n :: ns, s, o, h => by
    rw [List.foldl_cons, List.foldl_cons, ← of_lookAt o n]
    exact of_looks ns (o.lookAt (h n (by simp))) fun m hm => h m (by simp [hm])
theorem of_hold {k : Nat} {n : Net} {p : Peer} {v : Option Route} (hp : s.peer k = some p) : AS.of (hold s k n v) = (AS.of s).setG k n (v.map fun r => (k, p, r)) := by
  refine AS.eq rfl rfl ?_ rfl rfl
  funext k' n'
  show routeOf (hold s k n v) n' k' = if k' = k ∧ n' = n then v.map (fun r => (k, p, r)) else routeOf s n' k'
  unfold routeOf
  show ((s.peer k').bind fun p => (look (put s.held (k, n) v) (k', n')).map fun r => (k', p, r)) = _
  rw [look_put]
  by_cases h : k' = k ∧ n' = n
  · rw [if_pos h, if_pos (by rw [h.1, h.2]), h.1, hp]; rfl
  · rw [if_neg h, if_neg (fun e => h (by injection e with e1 e2; exact ⟨e1, e2⟩))]
theorem of_next (z : Nat × Net) (t : Told) (r : List (Nat × Net)) : AS.of { s with row := r, told := put s.told z t } = ((AS.of s).setRow r).setT z.1 z.2 t := by
  refine AS.eq rfl rfl rfl ?_ rfl
  funext k n
  show look (put s.told z t) (k, n) = if k = z.1 ∧ n = z.2 then t else look s.told (k, n)
  rw [look_put]
  by_cases h : k = z.1 ∧ n = z.2
  · rw [if_pos h, if_pos (by rw [h.1, h.2])]
  · rw [if_neg h, if_neg (fun e => h (by rw [← e]; exact ⟨rfl, rfl⟩))]
theorem of_first (o : Ok s) : ∀ l : List (Nat × Net), (∀ x ∈ l, (s.peer x.1).isSome = true) → (AS.of s).first l = s.first l
  | [], _ => rfl
  | z :: l, h => by
    obtain ⟨p, hp⟩ := Option.isSome_iff_exists.mp (h z (by simp))
    have e : (AS.of s).should z.1 z.2 = s.should z.1 z.2 := by rw [should_some hp]; exact of_should hp
    have ih := of_first o l fun x hx => h x (by simp [hx])
    by_cases hc : s.should z.1 z.2 = look s.told z
    · rw [first_cons_eq (by rw [e]; exact hc), ih]
      conv => rhs; unfold Sf46.St.first
      rw [if_pos hc]
    · rw [first_cons_ne (by rw [e]; exact hc), e]
      conv => rhs; unfold Sf46.St.first
      rw [if_neg hc]
theorem of_downed (o : Ok s) {j : Nat} (hj : j < 8) : AS.of (downed s j) = (AS.of s).downed j := by
  have hp := downed_peer o.peers hj
  refine AS.eq rfl ?_ ?_ ?_ ?_
  · funext k; exact hp k
  · funext k n
    show routeOf (downed s j) n k = if k = j then none else routeOf s n k
    unfold routeOf
    rw [hp k]
    by_cases h : k = j
    · rw [if_pos h, if_pos h]; rfl
    · rw [if_neg h, if_neg h]
      have : look (downed s j).held (k, n) = look s.held (k, n) := by
        have := look_filter (fun q : Nat × Net => q.1 != j) (k, n) s.held
        rw [if_pos (by simpa using h)] at this
        exact this
      rw [this]
  · funext k n
    have := look_filter (fun q : Nat × Net => q.1 != j) (k, n) s.told
    show look (s.told.filter fun p => p.1.1 != j) (k, n) = if k = j then none else look s.told (k, n)
    rw [this]
    by_cases h : k = j
    · rw [if_pos h, if_neg (by simp [h])]
    · rw [if_neg h, if_pos (by simpa using h)]
  · show s.row.filter (fun x => x.1 != j) = s.row.filter fun p => decide (p.1 ≠ j)
    congr 1
    funext x
    by_cases h : x.1 = j
    · simp [h]
    · simp [h]
theorem of_had (o : Ok s) {j : Nat} {ns : List Net} (hs : ns.Pairwise R46.lt) (hm : ∀ n, n ∈ ns ↔ ((AS.of s).g j n).isSome = true) : Sf46.sorted ((s.held.filter fun p => p.1.1 == j).map fun p => p.1.2) = ns := by
  refine sorted_is hs fun n => ?_
  rw [hm, of_g o, look_isSome, List.mem_map]
  constructor
  · rintro ⟨p, hp, e⟩
    exact ⟨p, List.mem_filter.mpr ⟨hp, by rw [e]; simp⟩, by rw [e]⟩
  · rintro ⟨p, hp, e⟩
    obtain ⟨h1, h2⟩ := List.mem_filter.mp hp
    exact ⟨p, h1, Prod.ext (by simpa using h2) e⟩
theorem of_nets (o : Ok s) {ns : List Net} (hs : ns.Pairwise R46.lt) (hm : ∀ n, n ∈ ns ↔ ∃ k, ((AS.of s).g k n).isSome = true) : s.nets = ns := by
  refine strict_eq (sorted_strict _) hs fun n => ?_
  rw [mem_nets, hm]
  constructor
  · rintro ⟨k, h⟩; exact ⟨k, by rw [of_g o]; exact h⟩
  · rintro ⟨k, h⟩; exact ⟨k, by rw [← of_g o]; exact h⟩
theorem of_upped (o : Ok s) {j : Nat} (hj : j < 8) (hn : s.peer j = none) (p : Peer) (row : List (Nat × Net)) :
    AS.of { s with peers := s.peers.mapIdx fun i q => if i = j then some p else q, row := row } = ((AS.of s).setPeer j (some p)).setRow row := by
  have hp : ∀ k, ({ s with peers := s.peers.mapIdx fun i q => if i = j then some p else q, row := row } : Sf46.St).peer k = if k = j then some p else s.peer k := fun k => by
    unfold Sf46.St.peer
    exact peer_mapIdx s.peers j (some p) k (by rw [o.peers]; exact hj)
  refine AS.eq rfl ?_ ?_ rfl rfl
  · funext k; exact hp k
  · funext k n
    show routeOf _ n k = routeOf s n k
    unfold routeOf
    rw [hp k]
    by_cases h : k = j
    · rw [if_pos h, h, hn]
      show ((some p).bind fun q => (look s.held (j, n)).map fun r => (j, q, r)) = none
      rw [look_held o (by rw [hn]; rfl)]; rfl
    · rw [if_neg h]
theorem fb_div (a d : Nat) (hd : 0 < d) : (a - a % d) / d = a / d := by
  have h := Nat.div_add_mod a d
  have e : a - a % d = d * (a / d) := by omega
  rw [e, Nat.mul_div_cancel_left _ hd]
theorem holds_fb (a j : Nat) : holds (fb a j, j) a = true := by
  unfold holds fb
  rw [fb_div a _ (Nat.pow_pos (by decide))]
  simp
theorem holds_eq {n : Net} {a : Nat} (hn : NetOk n) (h : holds n a = true) : n = (fb a n.2, n.2) := by
  unfold holds at h
  have h := eq_of_beq h
  obtain ⟨_, _, h0⟩ := hn
  have e1 := Nat.div_add_mod n.1 (2 ^ (32 - n.2))
  have e2 := Nat.div_add_mod a (2 ^ (32 - n.2))
  rw [h0] at e1
  rw [h] at e2
  refine Prod.ext ?_ rfl
  show n.1 = a - a % 2 ^ (32 - n.2)
  omega
noncomputable def widest (b : Option Net) (n : Net) : Option Net := match b with
  | none => some n
  | some m => if m.2 < n.2 then some n else some m
theorem widest_fold : ∀ (l : List Net) (b : Option Net), (∀ m, l.foldl widest b = some m → (m ∈ l ∨ b = some m) ∧ (∀ n ∈ l, n.2 ≤ m.2) ∧ ∀ c, b = some c → c.2 ≤ m.2) ∧ (l.foldl widest b = none → l = [] ∧ b = none)
  | [], b => ⟨fun m h => ⟨.inr h, fun n hn => (nomatch hn), fun c hc => by rw [show b = some m from h] at hc; cases hc; exact Nat.le_refl _⟩, fun h => ⟨rfl, h⟩⟩
  | n :: l, b => by
    obtain ⟨h1, h2⟩ := widest_fold l (widest b n)
    rw [List.foldl_cons]
    constructor
    · intro m hm
      obtain ⟨g1, g2, g3⟩ := h1 m hm
      cases b with
      | none =>
        have e : widest none n = some n := rfl
        rw [e] at g1 g3
        refine ⟨?_, fun x hx => ?_, fun c hc => nomatch hc⟩
        · rcases g1 with g1 | g1
          · exact .inl (List.mem_cons_of_mem _ g1)
          · cases g1; exact .inl (List.mem_cons_self ..)
        · rcases List.mem_cons.mp hx with rfl | hx
          · exact g3 _ rfl
          · exact g2 x hx
      | some c =>
        have e : widest (some c) n = if c.2 < n.2 then some n else some c := rfl
        rw [e] at g1 g3
        by_cases hlt : c.2 < n.2
        · rw [if_pos hlt] at g1 g3
          have := g3 _ rfl
          refine ⟨?_, fun x hx => ?_, fun c' hc => by cases hc; omega⟩
          · rcases g1 with g1 | g1
            · exact .inl (List.mem_cons_of_mem _ g1)
            · cases g1; exact .inl (List.mem_cons_self ..)
          · rcases List.mem_cons.mp hx with rfl | hx
            · exact this
            · exact g2 x hx
        · rw [if_neg hlt] at g1 g3
          have := g3 _ rfl
          refine ⟨?_, fun x hx => ?_, fun c' hc => by cases hc; exact this⟩
          · rcases g1 with g1 | g1
            · exact .inl (List.mem_cons_of_mem _ g1)
            · exact .inr g1
          · rcases List.mem_cons.mp hx with rfl | hx
            · omega
            · exact g2 x hx
    · intro h
      obtain ⟨_, g⟩ := h2 h
      cases b with
      | none => cases g
      | some c =>
        have e : widest (some c) n = if c.2 < n.2 then some n else some c := rfl
        rw [e] at g
        split at g <;> cases g
theorem send_down {A : AS} {a : Nat} : ∀ (d j : Nat), (∀ i, j ≤ i → i < j + d → A.best (fb a i, i) = none) → A.send a (j + d) = A.send a j
  | 0, _, _ => rfl
  | d + 1, j, h => by
    rw [show j + (d + 1) = (j + d) + 1 from rfl, send_none (h (j + d) (by omega) (by omega))]
    exact send_down d j fun i h1 h2 => h i h1 (by omega)
theorem of_send (o : Ok s) (a : Nat) : (AS.of s).send a 33 = (match (s.match_ a).bind s.best with
    | some b => (b.1 : Int)
    | none => 8) := by
  have hin : ∀ n, n ∈ s.nets → ∃ b, s.best n = some b := fun n hn => by
    obtain ⟨k, hk⟩ := mem_nets.mp hn
    cases hb : s.best n with
    | none => rw [(best_none o).mp hb k] at hk; cases hk
    | some b => exact ⟨b, rfl⟩
  have hout : ∀ n b, s.best n = some b → n ∈ s.nets := fun n b hb => mem_nets.mpr ⟨b.1, by rw [(best_some hb).2]; rfl⟩
  have hm : s.match_ a = (s.nets.filter fun n => holds n a).foldl widest none := rfl
  obtain ⟨w1, w2⟩ := widest_fold (s.nets.filter fun n => holds n a) none
  cases hf : (s.nets.filter fun n => holds n a).foldl widest none with
  | none =>
    rw [hm, hf]
    have he := (w2 hf).1
    have hall : ∀ i, 0 ≤ i → i < 0 + 33 → (AS.of s).best (fb a i, i) = none := fun i _ _ => by
      rw [of_best]
      cases hb : s.best (fb a i, i) with
      | none => rfl
      | some b =>
        have : (fb a i, i) ∈ s.nets.filter fun n => holds n a := List.mem_filter.mpr ⟨hout _ _ hb, holds_fb a i⟩
        rw [he] at this; cases this
    exact send_down 33 0 hall
  | some m =>
    rw [hm, hf]
    obtain ⟨g1, g2, _⟩ := w1 m hf
    have g1 : m ∈ s.nets.filter fun n => holds n a := g1.elim id fun z => nomatch z
    obtain ⟨h1, h2⟩ := List.mem_filter.mp g1
    have hok := nets_ok o h1
    have hme := holds_eq hok h2
    obtain ⟨b, hb⟩ := hin m h1
    show _ = (match s.best m with | some b => (b.1 : Int) | none => 8)
    rw [hb]
    have hall : ∀ i, m.2 + 1 ≤ i → i < (m.2 + 1) + (32 - m.2) → (AS.of s).best (fb a i, i) = none := fun i hi _ => by
      rw [of_best]
      cases hbi : s.best (fb a i, i) with
      | none => rfl
      | some b' =>
        have := g2 _ (List.mem_filter.mpr ⟨hout _ _ hbi, holds_fb a i⟩)
        have this : i ≤ m.2 := this
        omega
    have e33 : 33 = (m.2 + 1) + (32 - m.2) := by have := hok.2.1; omega
    have hd := send_down (32 - m.2) (m.2 + 1) hall
    rw [← e33] at hd
    rw [hd]
    refine send_some ?_
    rw [of_best, ← hme]; exact hb
theorem places_is {l : List Nat} (h : l.length ≤ 16) : places l = l ++ List.replicate (16 - l.length) 0 := by
  unfold places
  refine List.ext_getElem? fun i => ?_
  rw [List.getElem?_map, List.getElem?_append]
  by_cases h1 : i < l.length
  · rw [if_pos h1, List.getElem?_range (by omega), List.getElem?_eq_getElem h1]
    simp [h1]
  · rw [if_neg h1, List.getElem?_replicate]
    by_cases h2 : i < 16
    · rw [List.getElem?_range h2, if_pos (by omega)]
      simp [List.getElem?_eq_none (show l.length ≤ i by omega)]
    · rw [List.getElem?_eq_none (by rw [List.length_range]; omega), if_neg (by omega)]; rfl
theorem listOf_raw (z : Int) (n : Net) {l : List Nat} (h : l.length ≤ 16) (pref origin med : Nat) : Sf46Neutral.listOf ⟨z, some (raw n l pref origin med)⟩ = z :: (nums n l pref origin med).map fun (i : Nat) => (i : Int) := by
  unfold Sf46Neutral.listOf raw nums Sf46Neutral.ints
  dsimp only
  rw [places_is h]
  simp
theorem listOf_only (z : Int) : Sf46Neutral.listOf (only z) = [z] := rfl
end R46
end
section
set_option linter.all false
set_option Elab.async false
set_option maxRecDepth 100000
set_option maxHeartbeats 2000000
namespace R46
open L2
open Sf46 (Net Peer Route Told Raw Call isNet look put spec isPeer only raw places holds)
inductive Enc : Call → Int → List Int → Prop
  | begin_ (z : Nat) : Enc (.begin_ z) 1 [(z : Int)]
  | up (k : Int) (a i : Nat) : Enc (.up k a i) 2 [k, (a : Int), (i : Int)]
  | down (k : Int) : Enc (.down k) 3 [k]
  | tell (k : Int) (w : Raw) : Enc (.tell k w) 4 (k :: (w.net : Int) :: w.bits :: w.count :: (w.pref : Int) :: (w.origin : Int) :: (w.med : Int) :: 16 :: w.path.map fun (i : Nat) => (i : Int))
  | back (k : Int) (n : Nat) (b : Int) : Enc (.back k n b) 5 [k, (n : Int), b]
  | next : Enc .next 6 []
  | best (n : Nat) (b : Int) : Enc (.best n b) 7 [(n : Int), b]
  | send (a : Nat) : Enc (.send a) 8 [(a : Int)]
  | count : Enc .count 9 []
theorem nat_of {z : Int} (h : N32 z) : ((z.toNat : Nat) : Int) = z := Int.toNat_of_nonneg h.1
theorem nats_of {l : List Int} (h : ∀ z ∈ l, N32 z) : (l.map Int.toNat).map (fun (i : Nat) => (i : Int)) = l := by
  rw [List.map_map]
  have : l.map ((fun (i : Nat) => (i : Int)) ∘ Int.toNat) = l.map id := List.map_congr_left fun z hz => nat_of (h z hz)
  rw [this, List.map_id]
theorem Line.enc {l : List Int} {c : Call} {cs : List Call} (h : Line l (c :: cs)) : ∃ num as rest, l = num :: (as ++ rest) ∧ Enc c num as ∧ Line rest cs := by
  cases h with
  | begin_ h1 hl => refine ⟨1, _, _, ?_, .begin_ _, hl⟩; rw [nat_of h1]; rfl
  | up h1 h2 h3 hl => refine ⟨2, _, _, ?_, .up _ _ _, hl⟩; rw [nat_of h2, nat_of h3]; rfl
  | down h1 hl => exact ⟨3, _, _, rfl, .down _, hl⟩
  | tell h1 h2 h3 h4 h5 h6 h7 h8 h9 hl =>
    refine ⟨4, _, _, ?_, .tell _ _, hl⟩
    dsimp only
    rw [nat_of h2, nat_of h5, nat_of h6, nat_of h7, nats_of h8]; rfl
  | back h1 h2 h3 hl => refine ⟨5, _, _, ?_, .back _ _ _, hl⟩; rw [nat_of h2]; rfl
  | next hl => exact ⟨6, _, _, rfl, .next, hl⟩
  | best h1 h2 hl => refine ⟨7, _, _, ?_, .best _ _, hl⟩; rw [nat_of h1]; rfl
  | send h1 hl => refine ⟨8, _, _, ?_, .send _, hl⟩; rw [nat_of h1]; rfl
  | count hl => exact ⟨9, _, _, rfl, .count, hl⟩
noncomputable def CallIn (N : List Net) : Call → Prop
  | .tell _ w => isNet w.net w.bits = true → (w.net, w.bits.toNat) ∈ N
  | _ => True
variable {s : Sf46.St} {N : List Net}
theorem spec_up_no {k : Int} {a i : Nat} (h : ¬ (0 ≤ k ∧ k < 8) ∨ (AS.of s).isUp k = true) : spec s (.up k a i) = (only (-1), s) := by
  simp only [spec]
  rw [if_neg]
  rintro ⟨h1, h2⟩
  rcases h with h | h
  · exact h (isPeer_iff.mp h1)
  · rw [of_isUp] at h
    have := (isUp_iff.mp h).2
    rw [Option.isNone_iff_eq_none] at h2
    rw [h2] at this; cases this
theorem spec_up_yes (o : Ok s) {k : Int} {a i : Nat} (h : 0 ≤ k ∧ k < 8) (hu : (AS.of s).isUp k = false) {ns : List Net} (hs : ns.Pairwise R46.lt) (hm : ∀ n, n ∈ ns ↔ ∃ k', ((AS.of s).g k' n).isSome = true) :
    (spec s (.up k a i)).1 = only 0 ∧ AS.of (spec s (.up k a i)).2 = ((AS.of s).setPeer k.toNat (some ⟨a, i⟩)).setRow ((AS.of s).row ++ ns.map fun n => (k.toNat, n)) := by
  have hn : s.peer k.toNat = none := by
    cases hp : s.peer k.toNat with
    | none => rfl
    | some p =>
      have : (AS.of s).isUp k = true := by rw [of_isUp]; exact isUp_iff.mpr ⟨h, by rw [hp]; rfl⟩
      rw [hu] at this; cases this
  simp only [spec]
  rw [if_pos ⟨isPeer_iff.mpr h, by rw [hn]; rfl⟩]
  refine ⟨rfl, ?_⟩
  rw [of_upped o (by omega) hn ⟨a, i⟩, of_nets o hs hm]
  rfl
theorem nets_g (o : Ok s) : s.nets.Pairwise R46.lt ∧ ∀ n, n ∈ s.nets ↔ ∃ k', ((AS.of s).g k' n).isSome = true := by
  refine ⟨sorted_strict _, fun n => ?_⟩
  rw [mem_nets]
  constructor
  · rintro ⟨k, h⟩; exact ⟨k, by rw [of_g o]; exact h⟩
  · rintro ⟨k, h⟩; exact ⟨k, by rw [← of_g o]; exact h⟩
theorem spec_down_no {k : Int} (h : (AS.of s).isUp k = false) : spec s (.down k) = (only (-1), s) := by
  simp only [spec]
  rw [if_neg (by rw [← of_isUp, h]; exact Bool.false_ne_true)]
theorem spec_down_yes (o : Ok s) {k : Int} (h : (AS.of s).isUp k = true) {ns : List Net} (hs : ns.Pairwise R46.lt) (hm : ∀ n, n ∈ ns ↔ ((AS.of s).g k.toNat n).isSome = true) :
    (spec s (.down k)).1 = only 0 ∧ AS.of (spec s (.down k)).2 = ns.foldl AS.lookAt ((AS.of s).downed k.toNat) := by
  have hj : k.toNat < 8 := by rw [of_isUp] at h; have := (isUp_iff.mp h).1; omega
  simp only [spec]
  rw [if_pos (by rw [← of_isUp]; exact h)]
  refine ⟨rfl, ?_⟩
  show AS.of ((Sf46.sorted _).foldl Sf46.St.lookAt (downed s k.toNat)) = _
  rw [of_had o hs hm, of_looks ns (o.downed hj) (fun n hn => ?_), of_downed o hj]
  have := (hm n).mp hn
  rw [of_g o] at this
  obtain ⟨p, hp, e⟩ := look_isSome.mp this
  have := (o.held p hp).2.1
  rw [e] at this
  exact this
theorem had_g (o : Ok s) (j : Nat) : ∃ ns : List Net, ns.Pairwise R46.lt ∧ ∀ n, n ∈ ns ↔ ((AS.of s).g j n).isSome = true := by
  refine ⟨Sf46.sorted ((s.held.filter fun p => p.1.1 == j).map fun p => p.1.2), sorted_strict _, fun n => ?_⟩
  rw [mem_sorted, of_g o, look_isSome, List.mem_map]
  constructor
  · rintro ⟨p, hp, e⟩
    obtain ⟨h1, h2⟩ := List.mem_filter.mp hp
    exact ⟨p, h1, Prod.ext (by simpa using h2) e⟩
  · rintro ⟨p, hp, e⟩
    exact ⟨p, List.mem_filter.mpr ⟨hp, by rw [e]; simp⟩, by rw [e]⟩
theorem spec_tell_no {k : Int} {w : Raw} (h : ¬ ((AS.of s).isUp k = true ∧ rtOk w.net w.bits w.count w.origin = true)) : spec s (.tell k w) = (only (-1), s) := by
  simp only [spec]
  rw [if_neg]
  rintro ⟨h1, h2, h3, h4, h5⟩
  exact h ⟨by rw [of_isUp]; exact h1, rtOk_iff.mpr ⟨h2, h3, h4, h5⟩⟩
theorem known_of (o : Ok s) {n : Net} (h : n ∈ s.known) : (AS.of s).known n := by
  obtain ⟨k, hk⟩ := mem_known.mp h
  exact ⟨k, hk.imp (fun z => by rw [of_g o]; exact z) id⟩
theorem spec_tell_yes (o : Ok s) (hA : AOk N (AS.of s)) {k : Int} {w : Raw} {p : Peer} (hw : CallOk (.tell k w)) (hin : CallIn N (.tell k w)) (hu : (AS.of s).isUp k = true) (hp : (AS.of s).peer k.toNat = some p) (hr : rtOk w.net w.bits w.count w.origin = true) :
    (spec s (.tell k w)).1 = only 0 ∧ AS.of (spec s (.tell k w)).2 = (AS.of s).told k.toNat p (w.net, w.bits.toNat) ⟨w.path.take w.count.toNat, w.pref, w.origin, w.med⟩ ∧ AOk N ((AS.of s).told k.toNat p (w.net, w.bits.toNat) ⟨w.path.take w.count.toNat, w.pref, w.origin, w.med⟩) := by
  obtain ⟨h2, h3, h4, h5⟩ := rtOk_iff.mp hr
  have hp' : s.peer k.toNat = some p := hp
  have hk8 : k.toNat < 8 := by rw [of_isUp] at hu; have := (isUp_iff.mp hu).1; omega
  have hnet := isNet_ok hw.1 h2
  have hN := hin h2
  have hlen : (w.path.take w.count.toNat).length = w.count.toNat := by rw [List.length_take, hw.2]; omega
  have hrt : RtOk ⟨w.path.take w.count.toNat, w.pref, w.origin, w.med⟩ := ⟨by show 1 ≤ (w.path.take w.count.toNat).length; omega, by show (w.path.take w.count.toNat).length ≤ 16; omega⟩
  generalize hv : (if (w.path.take w.count.toNat).contains s.self = true then none else some (⟨w.path.take w.count.toNat, w.pref, w.origin, w.med⟩ : Route)) = v
  have hvr : ∀ r, v = some r → RtOk r := fun r e => by
    rw [← hv] at e
    split at e
    · cases e
    · cases e; exact hrt
  have o2 : Ok (hold s k.toNat (w.net, w.bits.toNat) v) := o.hold (by rw [hp']; rfl) hnet hvr
  have eG : (if (w.path.take w.count.toNat).contains (AS.of s).self = true then none else some (k.toNat, p, (⟨w.path.take w.count.toNat, w.pref, w.origin, w.med⟩ : Route))) = v.map fun r => (k.toNat, p, r) := by
    rw [← hv]
    show (if (w.path.take w.count.toNat).contains s.self = true then _ else _) = _
    split <;> rfl
  have e2 : AS.of (hold s k.toNat (w.net, w.bits.toNat) v) = (AS.of s).setG k.toNat (w.net, w.bits.toNat) (v.map fun r => (k.toNat, p, r)) := of_hold hp'
  have hA2 : AOk N ((AS.of s).setG k.toNat (w.net, w.bits.toNat) (v.map fun r => (k.toNat, p, r))) := hA.setG hN fun b hb => by
    cases v with
    | none => cases hb
    | some r => cases hb; exact ⟨hk8, rfl, hvr r rfl⟩
  have hfew : (hold s k.toNat (w.net, w.bits.toNat) v).known.length ≤ 4000 := by
    have h1 : (hold s k.toNat (w.net, w.bits.toNat) v).known.Nodup := strict_nodup (sorted_strict _)
    refine Nat.le_trans (len_sub (m := N) h1 fun n hn => ?_) hA.few
    have := known_of o2 hn
    rw [e2] at this
    exact hA2.all n this
  unfold AS.told
  rw [eG]
  refine ⟨?_, ?_, hA2.lookAt hN⟩
  · simp only [spec]
    rw [if_pos ⟨by rw [← of_isUp]; exact hu, h2, h3, h4, h5⟩, if_neg]
    · rintro ⟨_, hm⟩
      unfold Sf46.MOST at hm
      have hm' : 4096 ≤ (hold s k.toNat (w.net, w.bits.toNat) v).known.length := by rw [← hv]; exact hm
      omega
  · simp only [spec]
    rw [if_pos ⟨by rw [← of_isUp]; exact hu, h2, h3, h4, h5⟩, if_neg]
    · have e : ({ s with held := put s.held (k.toNat, (w.net, w.bits.toNat)) (if (w.path.take w.count.toNat).contains s.self = true then none else some ⟨w.path.take w.count.toNat, w.pref, w.origin, w.med⟩) } : Sf46.St) = hold s k.toNat (w.net, w.bits.toNat) v := by rw [hv]; rfl
      rw [e, of_lookAt o2, e2]
    · rintro ⟨_, hm⟩
      unfold Sf46.MOST at hm
      have hm' : 4096 ≤ (hold s k.toNat (w.net, w.bits.toNat) v).known.length := by rw [← hv]; exact hm
      omega
theorem spec_back_no {k : Int} {n : Nat} {b : Int} (h : ¬ ((AS.of s).isUp k = true ∧ isNet n b = true)) : spec s (.back k n b) = (only (-1), s) := by
  simp only [spec]
  rw [if_neg]
  rintro ⟨h1, h2⟩
  exact h ⟨by rw [of_isUp]; exact h1, h2⟩
theorem spec_back_none (o : Ok s) {k : Int} {n : Nat} {b : Int} (h1 : (AS.of s).isUp k = true) (h2 : isNet n b = true) (h3 : (AS.of s).g k.toNat (n, b.toNat) = none) : spec s (.back k n b) = (only 0, s) := by
  have h3' : (look s.held (k.toNat, (n, b.toNat))).isSome = false := by rw [← of_g o, h3]; rfl
  simp only [spec]
  rw [if_pos ⟨by rw [← of_isUp]; exact h1, h2⟩, if_neg (by rw [h3']; exact Bool.false_ne_true)]
theorem spec_back_some (o : Ok s) (hA : AOk N (AS.of s)) {k : Int} {n : Nat} {b : Int} (hn : n < 2 ^ 32) (h1 : (AS.of s).isUp k = true) (h2 : isNet n b = true) (h3 : ((AS.of s).g k.toNat (n, b.toNat)).isSome = true) :
    (spec s (.back k n b)).1 = only 0 ∧ AS.of (spec s (.back k n b)).2 = ((AS.of s).setG k.toNat (n, b.toNat) none).lookAt (n, b.toNat) ∧ AOk N (((AS.of s).setG k.toNat (n, b.toNat) none).lookAt (n, b.toNat)) := by
  have h3' : (look s.held (k.toNat, (n, b.toNat))).isSome = true := by rw [← of_g o]; exact h3
  obtain ⟨p, hp⟩ := Option.isSome_iff_exists.mp (show (s.peer k.toNat).isSome = true by rw [of_isUp] at h1; exact (isUp_iff.mp h1).2)
  have hnet := isNet_ok hn h2
  have hN : (n, b.toNat) ∈ N := hA.all _ ⟨_, .inl h3⟩
  have o2 : Ok (hold s k.toNat (n, b.toNat) none) := o.hold (by rw [hp]; rfl) hnet (fun r e => nomatch e)
  have e2 : AS.of (hold s k.toNat (n, b.toNat) none) = (AS.of s).setG k.toNat (n, b.toNat) none := of_hold hp
  refine ⟨?_, ?_, (hA.setG hN fun b hb => by cases hb).lookAt hN⟩
  · simp only [spec]
    rw [if_pos ⟨by rw [← of_isUp]; exact h1, h2⟩, if_pos h3']
  · simp only [spec]
    rw [if_pos ⟨by rw [← of_isUp]; exact h1, h2⟩, if_pos h3']
    show AS.of ((hold s k.toNat (n, b.toNat) none).lookAt (n, b.toNat)) = _
    rw [of_lookAt o2, e2]
theorem spec_next_none (o : Ok s) (h : (AS.of s).first (AS.of s).row = none) : (spec s .next).1 = only 8 ∧ AS.of (spec s .next).2 = (AS.of s).setRow [] := by
  have h' : s.first s.row = none := by rw [← of_first o s.row fun x hx => (o.row x hx).1]; exact h
  simp only [spec]
  rw [h']
  exact ⟨rfl, rfl⟩
theorem spec_next_some (o : Ok s) {z : Nat × Net} {t : Told} {r : List (Nat × Net)} (h : (AS.of s).first (AS.of s).row = some (z, t, r)) :
    Sf46Neutral.listOf (spec s .next).1 = (z.1 : Int) :: (tnums z.2 t).map (fun (i : Nat) => (i : Int)) ∧ AS.of (spec s .next).2 = ((AS.of s).setRow r).setT z.1 z.2 t := by
  have h' : s.first s.row = some (z, t, r) := by rw [← of_first o s.row fun x hx => (o.row x hx).1]; exact h
  obtain ⟨_, _, ht⟩ := first_mem h'
  simp only [spec]
  rw [h']
  refine ⟨?_, of_next z t r⟩
  cases t with
  | none => exact listOf_raw _ _ (by decide) _ _ _
  | some y => exact listOf_raw _ _ (should_len o ht.symm).2 _ _ _
theorem spec_best (hA : AOk N (AS.of s)) (n : Nat) (b : Int) : Sf46Neutral.listOf (spec s (.best n b)).1 = (AS.of s).bestN n b ∧ (spec s (.best n b)).2 = s := by
  unfold AS.bestN
  simp only [spec]
  by_cases h : isNet n b = true
  · rw [if_pos h, if_pos h, of_best]
    cases hb : s.best (n, b.toNat) with
    | none => exact ⟨rfl, rfl⟩
    | some z => exact ⟨listOf_raw _ _ (best_len hA (by rw [of_best]; exact hb)).2 _ _ _, rfl⟩
  · rw [if_neg h, if_neg h]; exact ⟨rfl, rfl⟩
theorem spec_send (o : Ok s) (a : Nat) : spec s (.send a) = (only ((AS.of s).send a 33), s) := by
  simp only [spec]
  rw [of_send o]
  cases (s.match_ a).bind s.best <;> rfl
theorem nets_length {m : List Net} (hm : m.Nodup) (h : ∀ n, n ∈ m ↔ n ∈ s.nets) : s.nets.length = m.length := by
  have h1 : s.nets.Nodup := strict_nodup (sorted_strict _)
  exact (List.perm_ext_iff_of_nodup h1 hm).mpr (fun n => (h n).symm) |>.length_eq
theorem spec_count {C : Cl} {H : Hp} {r : PySem.Addr} {x : RA} {X : Net → Prop} (o : Ok s) (h : RAt C H r x (AS.of s) X) : spec s .count = (only ((withRt x.es).length : Int), s) := by
  obtain ⟨h1, h2⟩ := withRt_nets h.nets
  have e : s.nets.length = (withRt x.es).length := by
    have := nets_length (s := s) h1 fun n => by rw [h2, (nets_g o).2]
    rw [List.length_map] at this
    exact this
  simp only [spec]
  rw [e]
theorem AOk.empty (h : N.length ≤ 4000) (z : Nat) : AOk N (AS.of (Sf46.empty z)) := by
  obtain ⟨e1, e2, e3, e4, e5⟩ := empty_of z
  refine ⟨fun k n b hb => ?_, fun k n b hb => ?_, h, fun n hn => ?_, fun x hx => ?_⟩
  · rw [e3] at hb; cases hb
  · rw [e4] at hb; cases hb
  · obtain ⟨k, hk⟩ := hn
    rw [e3, e4] at hk
    rcases hk with hk | hk <;> cases hk
  · rw [e5] at hx; cases hx
theorem AOk.setT {A : AS} (h : AOk N A) {k : Nat} {n : Net} {v : Told} (hk : k < 8) (hn : n ∈ N) : AOk N (A.setT k n v) := by
  refine ⟨h.g, fun k' n' b hb => ?_, h.few, fun n' hn' => ?_, h.row⟩
  · have hb' : (if k' = k ∧ n' = n then v else A.t k' n') = some b := hb
    split at hb'
    · rename_i e
      rw [e.1]; exact hk
    · exact h.t k' n' b hb'
  · obtain ⟨k', hk'⟩ := hn'
    by_cases e : n' = n
    · rw [e]; exact hn
    · refine h.all n' ⟨k', hk'.imp id (fun z => ?_)⟩
      have z' : (if k' = k ∧ n' = n then v else A.t k' n').isSome = true := z
      rw [if_neg (fun c => e c.2)] at z'
      exact z'
theorem first_row {A : AS} : ∀ {l : List (Nat × Net)} {z : Nat × Net} {t : Told} {r : List (Nat × Net)}, A.first l = some (z, t, r) → z ∈ l ∧ ∀ y ∈ r, y ∈ l
  | [], _, _, _, h => nomatch h
  | y :: l, z, t, r, h => by
    by_cases hc : A.should y.1 y.2 = A.t y.1 y.2
    · rw [first_cons_eq hc] at h
      obtain ⟨h1, h2⟩ := first_row h
      exact ⟨List.mem_cons_of_mem _ h1, fun x hx => List.mem_cons_of_mem _ (h2 x hx)⟩
    · rw [first_cons_ne hc] at h
      cases h
      exact ⟨List.mem_cons_self .., fun x hx => List.mem_cons_of_mem _ hx⟩
theorem AOk.step (o : Ok s) (hA : AOk N (AS.of s)) {c : Call} (hc : CallOk c) (hin : CallIn N c) : AOk N (AS.of (spec s c).2) := by
  cases c with
  | begin_ z => exact AOk.empty hA.few z
  | up k a i =>
    by_cases h : ¬ (0 ≤ k ∧ k < 8) ∨ (AS.of s).isUp k = true
    · rw [spec_up_no h]; exact hA
    · have h1 : 0 ≤ k ∧ k < 8 := Classical.not_not.mp fun z => h (.inl z)
      have h2 : (AS.of s).isUp k = false := by cases e : (AS.of s).isUp k with | false => rfl | true => exact absurd (.inr e) h
      obtain ⟨g1, g2⟩ := nets_g o
      rw [(spec_up_yes o h1 h2 g1 g2).2]
      refine (hA.setPeer _ _).setRow fun x hx => ?_
      rcases List.mem_append.mp hx with hx | hx
      · exact hA.row x hx
      · obtain ⟨n, hn, rfl⟩ := List.mem_map.mp hx
        obtain ⟨k', hk'⟩ := (g2 n).mp hn
        exact ⟨by show k.toNat < 8; omega, hA.all n ⟨k', .inl hk'⟩⟩
  | down k =>
    cases h : (AS.of s).isUp k with
    | false => rw [spec_down_no h]; exact hA
    | true =>
      obtain ⟨ns, g1, g2⟩ := had_g o k.toNat
      rw [(spec_down_yes o h g1 g2).2]
      exact AOk.looks ns (hA.downed _) fun n hn => hA.all n ⟨_, .inl ((g2 n).mp hn)⟩
  | tell k w =>
    by_cases h : (AS.of s).isUp k = true ∧ rtOk w.net w.bits w.count w.origin = true
    · obtain ⟨p, hp⟩ := Option.isSome_iff_exists.mp (show (s.peer k.toNat).isSome = true by have := h.1; rw [of_isUp] at this; exact (isUp_iff.mp this).2)
      obtain ⟨_, e, z⟩ := spec_tell_yes o hA hc hin h.1 hp h.2
      rw [e]; exact z
    · rw [spec_tell_no h]; exact hA
  | back k n b =>
    by_cases h : (AS.of s).isUp k = true ∧ isNet n b = true
    · cases hg : (AS.of s).g k.toNat (n, b.toNat) with
      | none => rw [spec_back_none o h.1 h.2 hg]; exact hA
      | some r =>
        obtain ⟨_, e, z⟩ := spec_back_some o hA hc h.1 h.2 (by rw [hg]; rfl)
        rw [e]; exact z
    · rw [spec_back_no h]; exact hA
  | next =>
    cases h : (AS.of s).first (AS.of s).row with
    | none => rw [(spec_next_none o h).2]; exact hA.setRow fun x hx => nomatch hx
    | some z =>
      obtain ⟨z, t, r⟩ := z
      rw [(spec_next_some o h).2]
      obtain ⟨h1, h2⟩ := first_row h
      exact (hA.setRow fun x hx => hA.row x (h2 x hx)).setT (hA.row z h1).1 (hA.row z h1).2
  | best n b => rw [(spec_best hA n b).2]; exact hA
  | send a => rw [spec_send o a]; exact hA
  | count => exact hA
end R46
end
section
set_option linter.all false
set_option Elab.async false
set_option maxRecDepth 100000
set_option maxHeartbeats 2000000
namespace R46
open PySem PySem.Spec PyProof.Rows L2
open Sf46 (Net Peer Route Told Raw isNet look spec only)
noncomputable abbrev sAnsTell : Stmt := top 35
noncomputable abbrev sAnsOne : Stmt := top 36
noncomputable abbrev sAnswer : Stmt := top 37
theorem ifEqI {i j : Int} {A B : Prop} (h : i = j) (a : A) : if decide (V.int i = V.int j) = true then A else B := by
  subst h
  rw [decide_eq_true rfl]; exact iteT a
theorem ifNeI {i j : Int} {A B : Prop} (h : i ≠ j) (b : B) : if decide (V.int i = V.int j) = true then A else B := by
  rw [decide_eq_false (fun z => h (by injection z))]; exact iteF b
theorem q_skip {i : Nat} {n j : Int} {t u : TS} {D : Ends} {σ : L2.St} {H : Hp} (h : σ[i]? = some (some (.int n))) (hne : n ≠ j) (k : u D σ H) : tSeq (tIfS (tTest (tOp rEq (tVar i) (tC (.int j)))) t tNext) u D σ H := ⟨_, h, rfl, _, rfl, ifNeI hne k⟩
theorem q_take {i : Nat} {n : Int} {t u : TS} {D : Ends} {σ : L2.St} {H : Hp} (h : σ[i]? = some (some (.int n))) (k : t { D with nx := u D } σ H) : tSeq (tIfS (tTest (tOp rEq (tVar i) (tC (.int n)))) t tNext) u D σ H := ⟨_, h, rfl, _, rfl, ifEqI rfl k⟩
theorem cut8 (a0 a1 a2 a3 a4 a5 a6 a7 : V) (l : List V) : cutV (a0 :: a1 :: a2 :: a3 :: a4 :: a5 :: a6 :: a7 :: l) (some 8) none = l := by
  unfold cutV
  rw [show (8 : Int) = ((8 : Nat) : Int) from rfl, HT.sIx_nat, HT.sIx_none]
  have e : (a0 :: a1 :: a2 :: a3 :: a4 :: a5 :: a6 :: a7 :: l).length = l.length + 8 := by simp
  rw [e, Nat.min_eq_left (by omega)]
  show l.take (l.length + 8 - 8) = l
  rw [Nat.add_sub_cancel, List.take_length]
noncomputable def Ends (C : Cl) (H : Hp) (r : Addr) (x : RA) (s : Sf46.St) (c : Sf46.Call) (Q : VK) : Prop := ∀ (H' : Hp) (x' : RA), Step C H H' r x x' (AS.of (spec s c).2) No → Q (.int (spec s c).1.value) H'
structure At (C : Cl) (H : Hp) (r : Addr) (x : RA) (N : List Net) (s : Sf46.St) : Prop where
  rat : RAt C H r x (AS.of s) No
  ok : Ok s
  few : AOk N (AS.of s)
section
variable {P : Program} {w : World} {K : PySem.W.Frag} {mg : Str → Option Value} {base : Heap} {C : Cl}
noncomputable def spAnsTell (C : Cl) : Sp := fun vs H Q _ => ∃ (r al : Addr) (x : RA) (N : List Net) (s : Sf46.St) (k : Int) (w : Raw) (as : List Int), vs = [.ref r, .ref al] ∧ At C H r x N s ∧ CallOk (.tell k w) ∧ CallIn N (.tell k w) ∧ Enc (.tell k w) 4 as ∧ H al = some (.lst (as.map V.int)) ∧ Ends C H r x s (.tell k w) Q
theorem scAnsTell : FnScope ["router", "numbers", "k", "net", "bits", "count", "pref", "origin", "med"] ["router", "numbers"] (defScope sAnsTell) := ⟨rfl, rfl, rfl, by decide +kernel, rfl, by decide +kernel, by decide +kernel⟩
theorem ok_ansTell {f fT : Addr} {fd fdT : FuncData} (F : Fun K "answer_tell" "answer_tell" sAnsTell f fd) (T : Txt K mg C) (mT : Meth K C.ro "tell" fT) (GT : FnOk P w K mg base CX0 6 fT fdT ["self", "k", "net", "bits", "count", "pref", "origin", "med", "path"] (spTell C)) (bT : Binds K fdT ["self", "k", "net", "bits", "count", "pref", "origin", "med", "path"] []) :
    FnOk P w K mg base CX0 7 f fd ["router", "numbers"] (spAnsTell C) := by
  refine F.ok scAnsTell (fun vs H Q E h => ?_) (fun cdv A0 outer s0 H vs Q E hr h => ?_)
  · obtain ⟨r, al, x, N, s, k, w, as, rfl, _⟩ := h
    rfl
  · obtain ⟨r, al, x, N, s, k, w, as, rfl, hA, hc, hin, henc, hal, q⟩ := h
    cases henc
    have hR := hA.rat
    refine ⟨_, pss_cons (ps_set (i := 2) scAnsTell.nd rfl (Or.inl rfl) (pe_ix ix_list (pv 1) pe_int (fun _ _ => rfl))) (pss_cons (ps_set (i := 3) scAnsTell.nd rfl (Or.inl rfl) (pe_ix ix_list (pv 1) pe_int (fun _ _ => rfl)))
      (pss_cons (ps_set (i := 4) scAnsTell.nd rfl (Or.inl rfl) (pe_ix ix_list (pv 1) pe_int (fun _ _ => rfl))) (pss_cons (ps_set (i := 5) scAnsTell.nd rfl (Or.inl rfl) (pe_ix ix_list (pv 1) pe_int (fun _ _ => rfl)))
      (pss_cons (ps_set (i := 6) scAnsTell.nd rfl (Or.inl rfl) (pe_ix ix_list (pv 1) pe_int (fun _ _ => rfl))) (pss_cons (ps_set (i := 7) scAnsTell.nd rfl (Or.inl rfl) (pe_ix ix_list (pv 1) pe_int (fun _ _ => rfl)))
      (pss_cons (ps_set (i := 8) scAnsTell.nd rfl (Or.inl rfl) (pe_ix ix_list (pv 1) pe_int (fun _ _ => rfl)))
      (pss_one (ps_ret (pe_meth (pv 0) T.ro mT GT hr bT .nil pass0 (pa_cons (pv 2) (pa_cons (pv 3) (pa_cons (pv 4) (pa_cons (pv 5) (pa_cons (pv 6) (pa_cons (pv 7) (pa_cons (pv 8) (pa_cons (pe_slice sl_list (pv 1) (po_some pe_int) po_none) pa_nil))))))))))))))))), ?_⟩
    try dsimp only [cx_K]
    refine q_ixL rfl (SqL.of hal) (at_of (j := 0) (v := .int k) rfl rfl) ?_
    refine q_ixL rfl (SqL.of hal) (at_of (j := 1) (v := iv w.net) rfl rfl) ?_
    refine q_ixL rfl (SqL.of hal) (at_of (j := 2) (v := .int w.bits) rfl rfl) ?_
    refine q_ixL rfl (SqL.of hal) (at_of (j := 3) (v := .int w.count) rfl rfl) ?_
    refine q_ixL rfl (SqL.of hal) (at_of (j := 4) (v := iv w.pref) rfl rfl) ?_
    refine q_ixL rfl (SqL.of hal) (at_of (j := 5) (v := iv w.origin) rfl rfl) ?_
    refine q_ixL rfl (SqL.of hal) (at_of (j := 6) (v := iv w.med) rfl rfl) ?_
    obtain ⟨dx, hobj⟩ := hR.base.obj
    refine q_meth rfl hobj rfl ⟨_, rfl, _, rfl, _, rfl, _, rfl, _, rfl, _, rfl, _, rfl, _, rfl, 8, rfl, al, _, rfl, SqL.of hal, fun pl hpl => ?_⟩
    rw [show cutV (List.map V.int (k :: (w.net : Int) :: w.bits :: w.count :: (w.pref : Int) :: (w.origin : Int) :: (w.med : Int) :: 16 :: w.path.map fun (i : Nat) => (i : Int))) (some 8) none = ivs w.path from by
      rw [List.map_cons, List.map_cons, List.map_cons, List.map_cons, List.map_cons, List.map_cons, List.map_cons, List.map_cons, cut8, ints_ivs]]
    have s1 : Same H (upd H pl (.lst (ivs w.path))) := Same.new hpl
    refine ⟨r, pl, x, N, AS.of s, k, w.net, w.bits, w.count, ⟨w.path, w.pref, w.origin, w.med⟩, rfl, hR.same s1, hA.few, upd_same, hc.2, hin, fun h => ?_, fun p hu hp hrt H' x' S => ?_⟩
    · have q' := q (upd H pl (.lst (ivs w.path))) x
      rw [spec_tell_no h] at q'
      exact q' (Step.same s1 hR)
    · obtain ⟨g1, g2, _⟩ := spec_tell_yes hA.ok hA.few hc hin hu hp hrt
      have q' := q H' x'
      rw [g1, g2] at q'
      exact q' ((Step.same s1 hR).trans S)
noncomputable def spAnsOne (C : Cl) : Sp := fun vs H Q _ => ∃ (r al : Addr) (x : RA) (N : List Net) (s : Sf46.St) (c : Sf46.Call) (num : Int) (as : List Int), vs = [.ref r, .int num, .ref al] ∧ At C H r x N s ∧ CallOk c ∧ CallIn N c ∧ Enc c num as ∧ num ≠ 6 ∧ num ≠ 7 ∧ H al = some (.lst (as.map V.int)) ∧ Ends C H r x s c Q
theorem scAnsOne : FnScope ["router", "call", "numbers"] ["router", "call", "numbers"] (defScope sAnsOne) := ⟨rfl, rfl, rfl, by decide +kernel, rfl, by decide +kernel, by decide +kernel⟩
theorem ok_ansOne {f fB fU fD fT fK fS fC : Addr} {fd fdB fdU fdD fdT fdK fdS fdC : FuncData} (F : Fun K "answer_one" "answer_one" sAnsOne f fd) (T : Txt K mg C)
    (mB : Meth K C.ro "begin" fB) (GB : FnOk P w K mg base CX0 1 fB fdB ["self", "self_number"] (spBegin C)) (bB : Binds K fdB ["self", "self_number"] [])
    (mU : Meth K C.ro "up" fU) (GU : FnOk P w K mg base CX0 3 fU fdU ["self", "k", "as_number", "ident"] (spUp C)) (bU : Binds K fdU ["self", "k", "as_number", "ident"] [])
    (mD : Meth K C.ro "down" fD) (GD : FnOk P w K mg base CX0 7 fD fdD ["self", "k"] (spDown C)) (bD : Binds K fdD ["self", "k"] [])
    (GT : FnOk P w K mg base CX0 7 fT fdT ["router", "numbers"] (spAnsTell C)) (kT : PySem.W.keepIn K (.ref fT) = true) (bT : Binds K fdT ["router", "numbers"] []) (mT : mg "answer_tell" = some (.ref fT))
    (mK : Meth K C.ro "back" fK) (GK : FnOk P w K mg base CX0 6 fK fdK ["self", "k", "net", "bits"] (spBack C)) (bK : Binds K fdK ["self", "k", "net", "bits"] [])
    (mS : Meth K C.ro "send" fS) (GS : FnOk P w K mg base CX0 5 fS fdS ["self", "address"] (spSend C)) (bS : Binds K fdS ["self", "address"] [])
    (mC : Meth K C.ro "count_networks" fC) (GC : FnOk P w K mg base CX0 2 fC fdC ["self"] (spCount C)) (bC : Binds K fdC ["self"] []) :
    FnOk P w K mg base CX0 8 f fd ["router", "call", "numbers"] (spAnsOne C) := by
  obtain ⟨t1, g1⟩ := T.cBegin
  obtain ⟨t2, g2⟩ := T.cUp
  obtain ⟨t3, g3⟩ := T.cDown
  obtain ⟨t4, g4⟩ := T.cTell
  obtain ⟨t5, g5⟩ := T.cBack
  obtain ⟨t8, g8⟩ := T.cSend
  refine F.ok scAnsOne (fun vs H Q E h => ?_) (fun cdv A0 outer s0 H vs Q E hr h => ?_)
  · obtain ⟨r, al, x, N, s, c, num, as, rfl, _⟩ := h
    rfl
  · obtain ⟨r, al, x, N, s, c, num, as, rfl, hA, hc, hin, henc, hn6, hn7, hal, q⟩ := h
    have hR := hA.rat
    obtain ⟨dx, hobj⟩ := hR.base.obj
    have hrow : ∀ z ∈ (AS.of s).row, ((AS.of s).peer z.1).isSome = true := fun z hz => (hA.ok.row z hz).1
    refine ⟨_, pss_cons (ps_if (pt_cmpR op_eq (pv 1) (pe_glob (v := .int 1) rfl g1 ⟨t1, rfl⟩) (nomark _)) (pss_one (ps_ret (pe_meth (pv 0) T.ro mB GB (hr.mono (by decide)) bB .nil pass0 (pa_cons (pe_ix ix_list (pv 2) pe_int (fun _ _ => rfl)) pa_nil)))) pss_nil)
      (pss_cons (ps_if (pt_cmpR op_eq (pv 1) (pe_glob (v := .int 2) rfl g2 ⟨t2, rfl⟩) (nomark _)) (pss_one (ps_ret (pe_meth (pv 0) T.ro mU GU (hr.mono (by decide)) bU .nil pass0 (pa_cons (pe_ix ix_list (pv 2) pe_int (fun _ _ => rfl)) (pa_cons (pe_ix ix_list (pv 2) pe_int (fun _ _ => rfl)) (pa_cons (pe_ix ix_list (pv 2) pe_int (fun _ _ => rfl)) pa_nil)))))) pss_nil)
      (pss_cons (ps_if (pt_cmpR op_eq (pv 1) (pe_glob (v := .int 3) rfl g3 ⟨t3, rfl⟩) (nomark _)) (pss_one (ps_ret (pe_meth (pv 0) T.ro mD GD hr bD .nil pass0 (pa_cons (pe_ix ix_list (pv 2) pe_int (fun _ _ => rfl)) pa_nil)))) pss_nil)
      (pss_cons (ps_if (pt_cmpR op_eq (pv 1) (pe_glob (v := .int 4) rfl g4 ⟨t4, rfl⟩) (nomark _)) (pss_one (ps_ret (pe_call GT hr rfl mT kT bT .nil pass0 (pa_cons (pv 0) (pa_cons (pv 2) pa_nil))))) pss_nil)
      (pss_cons (ps_if (pt_cmpR op_eq (pv 1) (pe_glob (v := .int 5) rfl g5 ⟨t5, rfl⟩) (nomark _)) (pss_one (ps_ret (pe_meth (pv 0) T.ro mK GK (hr.mono (by decide)) bK .nil pass0 (pa_cons (pe_ix ix_list (pv 2) pe_int (fun _ _ => rfl)) (pa_cons (pe_ix ix_list (pv 2) pe_int (fun _ _ => rfl)) (pa_cons (pe_ix ix_list (pv 2) pe_int (fun _ _ => rfl)) pa_nil)))))) pss_nil)
      (pss_cons (ps_if (pt_cmpR op_eq (pv 1) (pe_glob (v := .int 8) rfl g8 ⟨t8, rfl⟩) (nomark _)) (pss_one (ps_ret (pe_meth (pv 0) T.ro mS GS (hr.mono (by decide)) bS .nil pass0 (pa_cons (pe_ix ix_list (pv 2) pe_int (fun _ _ => rfl)) pa_nil)))) pss_nil)
      (pss_one (ps_ret (pe_meth0 (pv 0) T.ro mC GC (hr.mono (by decide)) bC .nil pass0)))))))), ?_⟩
    try dsimp only [cx_K]
    cases henc with
    | begin_ z =>
      refine q_take rfl ?_
      refine q_meth rfl hobj rfl (q_ixL rfl (SqL.of hal) (at_of (j := 0) (v := iv z) rfl rfl) ?_)
      exact ⟨r, dx, _, z, rfl, hobj, .inr ⟨_, _, _, _, rfl⟩, fun H' x' B => q H' x' B.step⟩
    | up k a i =>
      refine q_skip rfl (by decide) ?_
      refine q_take rfl ?_
      refine q_meth rfl hobj rfl (q_ixL rfl (SqL.of hal) (at_of (j := 0) (v := .int k) rfl rfl) (q_ixL rfl (SqL.of hal) (at_of (j := 1) (v := iv a) rfl rfl) (q_ixL rfl (SqL.of hal) (at_of (j := 2) (v := iv i) rfl rfl) ?_)))
      refine ⟨r, x, N, AS.of s, k, ⟨a, i⟩, rfl, hR, hA.few, hrow, fun h => ?_, fun h hu H' x' ns hs hm S => ?_⟩
      · have q' := q H x
        rw [spec_up_no h] at q'
        exact q' (Step.same Same.refl hR)
      · obtain ⟨g1, g2⟩ := spec_up_yes (a := a) (i := i) hA.ok h hu hs hm
        have q' := q H' x'
        rw [g1, g2] at q'
        exact q' S
    | down k =>
      refine q_skip rfl (by decide) ?_
      refine q_skip rfl (by decide) ?_
      refine q_take rfl ?_
      refine q_meth rfl hobj rfl (q_ixL rfl (SqL.of hal) (at_of (j := 0) (v := .int k) rfl rfl) ?_)
      refine ⟨r, x, N, AS.of s, k, rfl, hR, hA.few, fun h => ?_, fun hu H' x' ns hs hm S => ?_⟩
      · have q' := q H x
        rw [spec_down_no h] at q'
        exact q' (Step.same Same.refl hR)
      · obtain ⟨g1, g2⟩ := spec_down_yes hA.ok hu hs hm
        have q' := q H' x'
        rw [g1, g2] at q'
        exact q' S
    | tell k w =>
      refine q_skip rfl (by decide) ?_
      refine q_skip rfl (by decide) ?_
      refine q_skip rfl (by decide) ?_
      refine q_take rfl ?_
      exact ⟨_, rfl, _, rfl, r, al, x, N, s, k, w, _, rfl, hA, hc, hin, .tell k w, hal, q⟩
    | back k n b =>
      refine q_skip rfl (by decide) ?_
      refine q_skip rfl (by decide) ?_
      refine q_skip rfl (by decide) ?_
      refine q_skip rfl (by decide) ?_
      refine q_take rfl ?_
      refine q_meth rfl hobj rfl (q_ixL rfl (SqL.of hal) (at_of (j := 0) (v := .int k) rfl rfl) (q_ixL rfl (SqL.of hal) (at_of (j := 1) (v := iv n) rfl rfl) (q_ixL rfl (SqL.of hal) (at_of (j := 2) (v := .int b) rfl rfl) ?_)))
      refine ⟨r, x, N, AS.of s, k, n, b, rfl, hR, hA.few, fun h => ?_, fun hu hn => ⟨fun hg H' s1 => ?_, fun hg H' x' S => ?_⟩⟩
      · have q' := q H x
        rw [spec_back_no h] at q'
        exact q' (Step.same Same.refl hR)
      · have q' := q H' x
        rw [spec_back_none hA.ok hu hn hg] at q'
        exact q' (Step.same s1 hR)
      · obtain ⟨g1, g2, _⟩ := spec_back_some hA.ok hA.few hc hu hn hg
        have q' := q H' x'
        rw [g1, g2] at q'
        exact q' S
    | next => exact absurd rfl hn6
    | best n b => exact absurd rfl hn7
    | send a =>
      refine q_skip rfl (by decide) ?_
      refine q_skip rfl (by decide) ?_
      refine q_skip rfl (by decide) ?_
      refine q_skip rfl (by decide) ?_
      refine q_skip rfl (by decide) ?_
      refine q_take rfl ?_
      refine q_meth rfl hobj rfl (q_ixL rfl (SqL.of hal) (at_of (j := 0) (v := iv a) rfl rfl) ?_)
      refine ⟨r, x, N, AS.of s, a, rfl, hR, hA.few, fun H' s1 => ?_⟩
      have q' := q H' x
      rw [spec_send hA.ok a] at q'
      exact q' (Step.same s1 hR)
    | count =>
      refine q_skip rfl (by decide) ?_
      refine q_skip rfl (by decide) ?_
      refine q_skip rfl (by decide) ?_
      refine q_skip rfl (by decide) ?_
      refine q_skip rfl (by decide) ?_
      refine q_skip rfl (by decide) ?_
      refine q_meth rfl hobj rfl ⟨r, x, AS.of s, No, rfl, hR, (by have := (hR.few hA.few (fun n z => z.elim)).1; omega), fun H' s1 => ?_⟩
      have q' := q H' x
      rw [spec_count hA.ok hR] at q'
      exact q' (Step.same s1 hR)
theorem listOf_one {s : Sf46.St} {c : Sf46.Call} {num : Int} {as : List Int} (h : Enc c num as) (h6 : num ≠ 6) (h7 : num ≠ 7) : Sf46Neutral.listOf (spec s c).1 = [(spec s c).1.value] := by
  have on : ∀ z, Sf46Neutral.listOf (only z) = [(only z).value] := fun z => rfl
  cases h with
  | begin_ => exact on _
  | up => simp only [spec]; split <;> exact on _
  | down => simp only [spec]; split <;> exact on _
  | tell =>
    simp only [spec]
    repeat' split
    all_goals exact on _
  | back =>
    simp only [spec]; split
    · split <;> exact on _
    · exact on _
  | next => exact absurd rfl h6
  | best => exact absurd rfl h7
  | send => exact on _
  | count => exact on _
noncomputable def spAnswer (C : Cl) : Sp := fun vs H Q _ => ∃ (r al : Addr) (x : RA) (N : List Net) (s : Sf46.St) (c : Sf46.Call) (num : Int) (as : List Int), vs = [.ref r, .int num, .ref al] ∧ At C H r x N s ∧ CallOk c ∧ CallIn N c ∧ Enc c num as ∧ H al = some (.lst (as.map V.int)) ∧
  ∀ (H' : Hp) (x' : RA) (l : Addr), Step C H H' r x x' (AS.of (spec s c).2) No → H' l = some (.lst ((Sf46Neutral.listOf (spec s c).1).map V.int)) → Apt H x r l → Q (.ref l) H'
theorem scAnswer : FnScope ["router", "call", "numbers"] ["router", "call", "numbers"] (defScope sAnswer) := ⟨rfl, rfl, rfl, by decide +kernel, rfl, by decide +kernel, by decide +kernel⟩
theorem ok_answer {f fN fB fO : Addr} {fd fdN fdB fdO : FuncData} (F : Fun K "answer" "answer" sAnswer f fd) (T : Txt K mg C)
    (mN : Meth K C.ro "next_told" fN) (GN : FnOk P w K mg base CX0 6 fN fdN ["self"] (spNext C)) (bN : Binds K fdN ["self"] [])
    (mB : Meth K C.ro "best" fB) (GB : FnOk P w K mg base CX0 5 fB fdB ["self", "net", "bits"] (spBest C)) (bB : Binds K fdB ["self", "net", "bits"] [])
    (GO : FnOk P w K mg base CX0 8 fO fdO ["router", "call", "numbers"] (spAnsOne C)) (kO : PySem.W.keepIn K (.ref fO) = true) (bO : Binds K fdO ["router", "call", "numbers"] []) (mO : mg "answer_one" = some (.ref fO)) :
    FnOk P w K mg base CX0 9 f fd ["router", "call", "numbers"] (spAnswer C) := by
  obtain ⟨t6, g6⟩ := T.cNext
  obtain ⟨t7, g7⟩ := T.cBest
  refine F.ok scAnswer (fun vs H Q E h => ?_) (fun cdv A0 outer s0 H vs Q E hr h => ?_)
  · obtain ⟨r, al, x, N, s, c, num, as, rfl, _⟩ := h
    rfl
  · obtain ⟨r, al, x, N, s, c, num, as, rfl, hA, hc, hin, henc, hal, q⟩ := h
    have hR := hA.rat
    obtain ⟨dx, hobj⟩ := hR.base.obj
    have hrow : ∀ z ∈ (AS.of s).row, ((AS.of s).peer z.1).isSome = true := fun z hz => (hA.ok.row z hz).1
    refine ⟨_, pss_cons (ps_if (pt_cmpR op_eq (pv 1) (pe_glob (v := .int 6) rfl g6 ⟨t6, rfl⟩) (nomark _)) (pss_one (ps_ret (pe_meth0 (pv 0) T.ro mN GN (hr.mono (by decide)) bN .nil pass0))) pss_nil)
      (pss_cons (ps_if (pt_cmpR op_eq (pv 1) (pe_glob (v := .int 7) rfl g7 ⟨t7, rfl⟩) (nomark _)) (pss_one (ps_ret (pe_meth (pv 0) T.ro mB GB (hr.mono (by decide)) bB .nil pass0 (pa_cons (pe_ix ix_list (pv 2) pe_int (fun _ _ => rfl)) (pa_cons (pe_ix ix_list (pv 2) pe_int (fun _ _ => rfl)) pa_nil))))) pss_nil)
      (pss_one (ps_ret (pe_lst (pa_cons (pe_call GO hr rfl mO kO bO .nil pass0 (pa_cons (pv 0) (pa_cons (pv 1) (pa_cons (pv 2) pa_nil)))) pa_nil))))), ?_⟩
    try dsimp only [cx_K]
    by_cases h6 : num = 6
    · subst h6
      cases henc
      refine q_take rfl ?_
      refine q_meth rfl hobj rfl ⟨r, x, N, AS.of s, rfl, hR, hA.few, hrow, fun hf H' x' l S hl ha => ?_, fun z t rest hf H' x' l S hl ha => ?_⟩
      · obtain ⟨g1, g2⟩ := spec_next_none hA.ok hf
        have q' := q H' x' l
        rw [g1, g2] at q'
        exact q' S hl ha
      · obtain ⟨g1, g2⟩ := spec_next_some hA.ok hf
        have q' := q H' x' l
        rw [g1, g2, List.map_cons, ints_ivs] at q'
        exact q' S hl ha
    · refine q_skip rfl h6 ?_
      by_cases h7 : num = 7
      · subst h7
        cases henc with
        | best n b =>
          refine q_take rfl ?_
          refine q_meth rfl hobj rfl (q_ixL rfl (SqL.of hal) (at_of (j := 0) (v := iv n) rfl rfl) (q_ixL rfl (SqL.of hal) (at_of (j := 1) (v := .int b) rfl rfl) ?_))
          refine ⟨r, x, N, AS.of s, n, b, rfl, hR, hA.few, fun H' l s1 hl ha => ?_⟩
          obtain ⟨g1, g2⟩ := spec_best hA.few n b
          have q' := q H' x l
          rw [g1, g2] at q'
          exact q' (Step.same s1 hR) hl ha
      · refine q_skip rfl h7 ?_
        refine ⟨_, rfl, _, rfl, _, rfl, r, al, x, N, s, c, num, as, rfl, hA, hc, hin, henc, h6, h7, hal, fun H' x' S => ?_⟩
        refine ⟨(by show 1 ≤ sizeLine; decide), fun l hl => ?_⟩
        refine q _ x' l (S.trans (Step.same (Same.new hl) S.rat)) ?_ fun b o hb hm => ne_of_none (S.keep b o hb hm) hl
        rw [upd_same, listOf_one henc h6 h7]
        rfl
end
end R46
end
section
set_option linter.all false
set_option Elab.async false
set_option maxRecDepth 100000
set_option maxHeartbeats 2000000
namespace R46
open PySem PySem.Spec PyProof.Rows L2
open Sf46 (Net Raw isNet spec)
noncomputable abbrev sAnswers : Stmt := top 38
noncomputable def widths : List (Int × Int) := [(1, 2), (2, 4), (3, 2), (4, 25), (5, 4), (6, 1), (7, 3), (8, 2), (9, 1)]
theorem enc_width {c : Sf46.Call} {num : Int} {as : List Int} (h : Enc c num as) (hc : CallOk c) : widths.lookup num = some ((as.length : Int) + 1) := by
  cases h with
  | tell k w =>
    have : w.path.length = 16 := hc.2
    simp [this]
    rfl
  | _ => rfl
noncomputable def tellNet : Sf46.Call → Option Net
  | .tell _ w => some (w.net, w.bits.toNat)
  | _ => none
theorem callIn_of {qs : List Sf46.Call} {c : Sf46.Call} (h : c ∈ qs) : CallIn (qs.filterMap tellNet) c := by
  cases c with
  | tell k w => exact fun _ => List.mem_filterMap.mpr ⟨_, h, rfl⟩
  | _ => trivial
theorem cut_mid {ns as rest : List Int} {num : Int} {i : Nat} (h : ns.drop i = num :: (as ++ rest)) : cutV (ns.map V.int) (some ((i : Int) + 1)) (some ((i : Int) + ((as.length : Int) + 1))) = as.map V.int := by
  have h1 : ns.drop (i + 1) = as ++ rest := by
    rw [← List.drop_drop, h]; rfl
  have hl : ns.length = i + 1 + as.length + rest.length := by
    have e := congrArg List.length h
    rw [List.length_drop, List.length_cons, List.length_append] at e
    omega
  unfold cutV
  have e1 : ((i : Int) + 1) = ((i + 1 : Nat) : Int) := by omega
  have e2 : ((i : Int) + ((as.length : Int) + 1)) = ((i + 1 + as.length : Nat) : Int) := by omega
  rw [e1, e2, HT.sIx_nat, HT.sIx_nat, List.length_map, Nat.min_eq_left (by omega), Nat.min_eq_left (by omega)]
  rw [← List.map_drop, h1, ← List.map_take]
  congr 1
  have e3 : i + 1 + as.length - (i + 1) = as.length := by omega
  rw [e3, List.take_left]
theorem outs_len : ∀ (cs : List Sf46.Call) (s : Sf46.St), (outs s cs).length ≤ 24 * cs.length
  | [], _ => Nat.le_refl _
  | c :: cs, s => by
    have h1 := outs_len cs (spec s c).2
    have h2 := listOf_len (s := s) (c := c)
    show (_ :: Sf46Neutral.listOf (spec s c).1 ++ outs (spec s c).2 cs).length ≤ _
    rw [List.length_append, List.length_cons, List.length_cons]
    omega
theorem run_snoc (s : Sf46.St) (l : List Sf46.Call) (c : Sf46.Call) : Sf46.run s (l ++ [c]) = (spec (Sf46.run s l) c).2 := by
  unfold Sf46.run
  rw [List.foldl_append]; rfl
theorem outs_snoc (s : Sf46.St) (l : List Sf46.Call) (c : Sf46.Call) : outs s (l ++ [c]) = outs s l ++ (((Sf46Neutral.listOf (spec (Sf46.run s l) c).1).length : Int) :: Sf46Neutral.listOf (spec (Sf46.run s l) c).1) := by
  rw [outs_append]
  congr 1
  show _ :: Sf46Neutral.listOf (spec (Sf46.run s l) c).1 ++ [] = _
  rw [List.append_nil]
theorem seq_keep {K : PySem.W.Frag} {H H' : Hp} {a : Addr} {xs : List V} (h : SqL K H a xs) (k : ∀ o, H a = some o → H' a = some o) : SqL K H' a xs := by
  rcases h with (h | ⟨o, h⟩) | h
  · exact .inl (.inl (k _ h))
  · exact .inl (.inr ⟨o, k _ h⟩)
  · exact .inr h
theorem Line.nil_of {l : List Int} (h : Line l []) : l = [] := by
  cases h
  rfl
noncomputable def left (n : Nat) (σ : L2.St) : Nat := match σ[3]? with
  | some (some (V.int i)) => n - i.toNat
  | _ => 0
section
variable {P : Program} {w : World} {K : PySem.W.Frag} {mg : Str → Option Value} {base : Heap} {C : Cl}
noncomputable def spAnswers (K : PySem.W.Frag) : Sp := fun vs H Q _ => ∃ (a : Addr) (ns : List Int), vs = [.ref a] ∧ SqL K H a (ns.map V.int) ∧ PySf46.answers_asked ns = true ∧ ∀ (H' : Hp) (p : Addr), H' p = some (.lst ((PySf46.answers ns).map V.int)) → Q (.ref p) H'
noncomputable def pvAns (C : Cl) (ns : List Int) (qs : List Sf46.Call) (a r g : Addr) (H : Hp) (σ : L2.St) (H' : Hp) : Prop := ∃ (i : Nat) (v4 v5 : Option V) (x' : RA) (done rest : List Sf46.Call), σ = [some (.ref a), some (.ref r), some (.ref g), some (iv i), v4, v5] ∧ i ≤ ns.length ∧ done ++ rest = qs ∧ Line (ns.drop i) rest ∧ At C H' r x' (qs.filterMap tellNet) (Sf46.run (Sf46.empty 0) done) ∧ H' g = some (.lst ((outs (Sf46.empty 0) done).map V.int)) ∧ g ∉ x'.muts r ∧ ∀ o, H a = some o → H' a = some o ∧ a ∉ x'.muts r ∧ a ≠ g
theorem scAnswers : FnScope ["calls", "router", "given", "at", "width", "answered"] ["calls"] (defScope sAnswers) := ⟨rfl, rfl, rfl, by decide +kernel, rfl, by decide +kernel, by decide +kernel⟩
theorem ok_answers {f fI fA aW : Addr} {fd fdI fdA : FuncData} {oW : Obj} (F : Fun K "answers" "answers" sAnswers f fd) (T : Txt K mg C)
    (M : Mk K C.ro fI) (GI : FnOk P w K mg base CX0 2 fI fdI ["self"] (spInit C)) (bI : Binds K fdI ["self"] [])
    (GA : FnOk P w K mg base CX0 9 fA fdA ["router", "call", "numbers"] (spAnswer C)) (kA : PySem.W.keepIn K (.ref fA) = true) (bA : Binds K fdA ["router", "call", "numbers"] []) (mA : mg "answer" = some (.ref fA))
    (mW : mg "WIDTHS" = some (.ref aW)) (lW : K.lookup aW = some oW) (tW : tblO oW widths = true) :
    FnOk P w K mg base CX0 10 f fd ["calls"] (spAnswers K) := by
  refine F.ok scAnswers (fun vs H Q E h => ?_) (fun cdv A0 outer s0 H vs Q E hr h => ?_)
  · obtain ⟨a, ns, rfl, _⟩ := h
    rfl
  · obtain ⟨a, ns, rfl, hS, hask, q⟩ := h
    obtain ⟨qs, hline, hq3, hcok, heq⟩ := asked_line hask
    rw [heq] at q
    refine ⟨_, pss_cons (ps_set (i := 1) scAnswers.nd rfl (Or.inl rfl) (pe_make0 M GI (hr.mono (by decide)) rfl T.mRo bI .nil pass0))
      (pss_cons (ps_set (i := 2) scAnswers.nd rfl (Or.inl rfl) (pe_lst pa_nil))
      (pss_cons (ps_set (i := 3) scAnswers.nd rfl (Or.inl rfl) pe_int)
      (pss_cons (ps_while PassesOwn.never (pt_cmpR op_lt (pv 3) (pe_callB call_len_seq rfl T.len PySem.boot_len (pa_cons (pv 0) pa_nil)) (nomark _))
        (pss_cons (ps_set (i := 4) scAnswers.nd rfl (Or.inl rfl) (pe_kget (pe_glob (v := .ref aW) rfl mW rfl) (pe_ix ix_list (pv 0) (pv 3) (fun _ _ => rfl)) (fun _ _ => rfl)))
        (pss_cons (ps_set (i := 5) scAnswers.nd rfl (Or.inl rfl) (pe_call GA hr rfl mA kA bA .nil pass0 (pa_cons (pv 1) (pa_cons (pe_ix ix_list (pv 0) (pv 3) (fun _ _ => rfl)) (pa_cons (pe_slice sl_list (pv 0) (po_some (pe_op op_add (pv 3) pe_int)) (po_some (pe_op op_add (pv 3) (pv 4)))) pa_nil)))))
        (pss_cons (ps_expr (pe_bm PySem.F.plainAttrs_list PySem.F.slot_list_append PySem.F.type_list_append mt_append (pv 2) (pa_cons (pe_callB call_len_seq rfl T.len PySem.boot_len (pa_cons (pv 5) pa_nil)) pa_nil)))
        (pss_cons (ps_expr (pe_bm PySem.F.plainAttrs_list PySem.F.slot_list_extend PySem.F.type_list_extend mt_extend (pv 2) (pa_cons (pv 5) pa_nil)))
        (pss_one (ps_set (i := 3) scAnswers.nd rfl (Or.inl rfl) (pe_op op_add (pv 3) (pv 4)))))))))
      (pss_one (ps_ret (pv 2)))))), ?_⟩
    try dsimp only [cx_K]
    intro r dr hr0 hdr hne
    refine ⟨r, dr, rfl, upd_same, fun H1 x1 B => ⟨rfl, ?_⟩⟩
    have s1 : ∀ b o, H b = some o → H1 b = some o := fun b o hb => B.keep b o (by rw [upd_ne (ne_of_none hb hr0), upd_ne (ne_of_none hb hdr)]; exact hb) (by simpa using ne_of_none hb hr0)
    have m1 : ∀ b o, H b = some o → b ∉ x1.muts r := fun b o hb hc => by
      have hb' : upd (upd H dr (.own r)) r (.ins C.ro dr []) b = some o := by rw [upd_ne (ne_of_none hb hr0), upd_ne (ne_of_none hb hdr)]; exact hb
      rcases B.new b hc with z | z
      · exact ne_of_none hb hr0 z
      · rw [hb'] at z; cases z
    refine ⟨Nat.zero_le _, fun g hg => ?_⟩
    have s2 : Same H1 (upd H1 g (.lst [])) := Same.new hg
    have hN : (qs.filterMap tellNet).length ≤ 4000 := Nat.le_trans (List.length_filterMap_le _ _) (by omega)
    have hA0 : At C (upd H1 g (.lst [])) r x1 (qs.filterMap tellNet) (Sf46.empty 0) := ⟨B.rat.same s2, empty_ok 0, AOk.empty hN 0⟩
    have hg0 : g ∉ x1.muts r := B.rat.fresh hg
    refine while_by (pvAns C ns qs a r g H) (fun σ _ => left ns.length σ)
      ⟨0, none, none, x1, [], qs, rfl, Nat.zero_le _, rfl, hline, hA0, upd_same, hg0, fun o ho => ⟨s2 _ _ (s1 _ _ ho), m1 _ _ ho, ne_of_none (s1 _ _ ho) hg⟩⟩ ?_ ?_
    · rintro σ H' ⟨i, v4, v5, x', done, rest, rfl, hi, hdr, hl, hA, hgl, hgm, hka⟩
      have hS' : SqL K H' a (ns.map V.int) := seq_keep hS fun o ho => (hka o ho).1
      refine ⟨_, rfl, _, rfl, a, _, rfl, .inl hS', _, _, rfl, rfl, _, rfl, ?_⟩
      rw [List.length_map]
      by_cases hlt : i < ns.length
      · rw [decide_eq_true (show (i : Int) < (ns.length : Int) by omega)]
        refine iteT ?_
        cases rest with
        | nil =>
          exfalso
          have e : ns.drop i = [] := hl.nil_of
          have := congrArg List.length e
          rw [List.length_drop, List.length_nil] at this
          omega
        | cons c rest =>
          obtain ⟨num, as, tl, hd, henc, hl2⟩ := hl.enc
          have hcq : c ∈ qs := by rw [← hdr]; simp
          have hc := hcok c hcq
          have hget : ns[i]? = some num := by
            have : (ns.drop i)[0]? = some num := by rw [hd]; rfl
            rw [List.getElem?_drop] at this
            exact this
          have hat : (ns.map V.int)[i]? = some (.int num) := by rw [List.getElem?_map, hget]; rfl
          refine ⟨_, rfl, _, rfl, a, _, _, _, rfl, rfl, hS', at_of (j := i) rfl hat, aW, oW, widths, num, _, rfl, lW, tW, rfl, enc_width henc hc, ?_⟩
          refine ⟨_, rfl, _, rfl, _, rfl, a, _, _, _, rfl, rfl, hS', at_of (j := i) rfl hat, ?_⟩
          refine ⟨_, rfl, _, rfl, _, _, rfl, rfl, _, rfl, _, rfl, _, rfl, _, _, rfl, rfl, _, rfl, a, _, rfl, hS', fun al hal => ?_⟩
          rw [cut_mid hd]
          have s3 : Same H' (upd H' al (.lst (as.map V.int))) := Same.new hal
          refine ⟨r, al, x', _, _, c, num, as, rfl, ⟨hA.rat.same s3, hA.ok, hA.few⟩, hc, callIn_of hcq, henc, upd_same, fun H2 x2 l S hl' hapt => ?_⟩
          have hg3 : upd H' al (.lst (as.map V.int)) g = some (.lst ((outs (Sf46.empty 0) done).map V.int)) := s3 _ _ hgl
          have hg2 : H2 g = some (.lst ((outs (Sf46.empty 0) done).map V.int)) := S.keep _ _ hg3 hgm
          have hgm2 : g ∉ x2.muts r := S.out hg3 hgm
          have hgl' : g ≠ l := hapt g _ hg3 hgm
          have hdone : done.length + 1 ≤ 3000 := by
            have := congrArg List.length hdr
            rw [List.length_append, List.length_cons] at this
            omega
          have hol := outs_len done (Sf46.empty 0)
          have hll := listOf_len (s := Sf46.run (Sf46.empty 0) done) (c := c)
          refine ⟨_, rfl, .inl ⟨rfl, _, SqL.of hg2⟩, _, rfl, l, _, rfl, .inl (SqL.of hl'), g, _, _, rfl, rfl, hg2, ?_, ?_⟩
          · rw [List.length_map, sizeLine_eq]; omega
          refine ⟨_, rfl, .inl ⟨rfl, _, SqL.of upd_same⟩, _, rfl, g, l, _, _, rfl, rfl, upd_same, (by rw [upd_ne hgl'.symm]; exact hl'), ?_, ?_⟩
          · rw [List.length_append, List.length_map, List.length_map, sizeLine_eq]
            show (outs (Sf46.empty 0) done).length + 1 + _ ≤ _
            omega
          refine ⟨_, rfl, _, rfl, _, _, rfl, rfl, ?_⟩
          rw [upd_upd]
          have hR3 : RAt C (upd H2 g (.lst ((outs (Sf46.empty 0) done).map V.int ++ [V.int ((List.map V.int (Sf46Neutral.listOf (spec (Sf46.run (Sf46.empty 0) done) c).1)).length : Int)] ++ List.map V.int (Sf46Neutral.listOf (spec (Sf46.run (Sf46.empty 0) done) c).1)))) r x2 (AS.of (spec (Sf46.run (Sf46.empty 0) done) c).2) No := S.rat.side hg2 hgm2
          have ei : ns.drop (i + (as.length + 1)) = tl := by
            rw [← List.drop_drop, hd]
            show (as ++ tl).drop as.length = tl
            rw [List.drop_left]
          have hi2 : i + (as.length + 1) ≤ ns.length := by
            have e := congrArg List.length hd
            rw [List.length_drop, List.length_cons, List.length_append] at e
            omega
          have eint : V.int ((i : Int) + ((as.length : Int) + 1)) = iv (i + (as.length + 1)) := by
            show V.int _ = V.int _
            congr 1
          refine ⟨⟨i + (as.length + 1), some (.int ((as.length : Int) + 1)), some (.ref l), x2, done ++ [c], rest, ?_, hi2, ?_, ?_, ⟨?_, ?_, ?_⟩, ?_, hgm2, fun o ho => ?_⟩, ?_⟩
          · show [some (V.ref a), some (V.ref r), some (V.ref g), some (V.int ((i : Int) + ((as.length : Int) + 1))), some (V.int ((as.length : Int) + 1)), some (V.ref l)] = _
            rw [eint]
          · rw [List.append_assoc]; exact hdr
          · rw [ei]; exact hl2
          · rw [run_snoc]; exact hR3
          · rw [run_snoc]; exact hA.ok.step hc
          · rw [run_snoc]; exact hA.few.step hA.ok hc (callIn_of hcq)
          · rw [upd_same, outs_snoc, List.map_append, List.map_cons, List.length_map, List.append_assoc]
            rfl
          · obtain ⟨k1, k2, k3⟩ := hka o ho
            have k4 := s3 _ _ k1
            exact ⟨by rw [upd_ne k3]; exact S.keep _ _ k4 k2, S.out k4 k2, k3⟩
          · show ns.length - ((i : Int) + ((as.length : Int) + 1)).toNat < ns.length - ((i : Nat) : Int).toNat
            omega
      · rw [decide_eq_false (show ¬ (i : Int) < (ns.length : Int) by omega)]
        have e : ns.drop i = [] := List.drop_eq_nil_of_le (by omega)
        rw [e] at hl
        have hrest : rest = [] := by cases hl; rfl
        subst hrest
        rw [List.append_nil] at hdr
        subst hdr
        exact iteF ⟨_, rfl, q _ _ hgl⟩
    · intro σ H Q Q' hq h
      obtain ⟨v, h1, v2, h2, p, ys, h3, h4, i, j, h5, h6, k, h7, h8⟩ := h
      exact ⟨v, h1, v2, h2, p, ys, h3, h4, i, j, h5, h6, k, h7, hq _ _ h8⟩
end
end R46
end
section
set_option linter.all false
set_option Elab.async false
set_option maxRecDepth 100000
set_option maxHeartbeats 2000000
namespace R46
open PySem PySem.Spec PyProof.Rows L2
section
variable {K : PySem.W.Frag} {h : Heap} {mg : Str → Option Value}
theorem us1 {us : List Value} (h : us.length = 1) : ∃ a0, us = [a0] := by
  cases us with
  | nil => cases h
  | cons a us =>
    cases us with
    | nil => exact ⟨a, rfl⟩
    | cons b us => simp at h
theorem us2 {us : List Value} (h : us.length = 2) : ∃ a0 a1, us = [a0, a1] := by
  cases us with
  | nil => cases h
  | cons a us =>
    obtain ⟨b0, rfl⟩ := us1 (us := us) (by simpa using h)
    exact ⟨a, b0, rfl⟩
theorem us3 {us : List Value} (h : us.length = 3) : ∃ a0 a1 a2, us = [a0, a1, a2] := by
  cases us with
  | nil => cases h
  | cons a us =>
    obtain ⟨b0, b1, rfl⟩ := us2 (us := us) (by simpa using h)
    exact ⟨a, b0, b1, rfl⟩
theorem us4 {us : List Value} (h : us.length = 4) : ∃ a0 a1 a2 a3, us = [a0, a1, a2, a3] := by
  cases us with
  | nil => cases h
  | cons a us =>
    obtain ⟨b0, b1, b2, rfl⟩ := us3 (us := us) (by simpa using h)
    exact ⟨a, b0, b1, b2, rfl⟩
theorem us5 {us : List Value} (h : us.length = 5) : ∃ a0 a1 a2 a3 a4, us = [a0, a1, a2, a3, a4] := by
  cases us with
  | nil => cases h
  | cons a us =>
    obtain ⟨b0, b1, b2, b3, rfl⟩ := us4 (us := us) (by simpa using h)
    exact ⟨a, b0, b1, b2, b3, rfl⟩
theorem us6 {us : List Value} (h : us.length = 6) : ∃ a0 a1 a2 a3 a4 a5, us = [a0, a1, a2, a3, a4, a5] := by
  cases us with
  | nil => cases h
  | cons a us =>
    obtain ⟨b0, b1, b2, b3, b4, rfl⟩ := us5 (us := us) (by simpa using h)
    exact ⟨a, b0, b1, b2, b3, b4, rfl⟩
theorem us9 {us : List Value} (h : us.length = 9) : ∃ a0 a1 a2 a3 a4 a5 a6 a7 a8, us = [a0, a1, a2, a3, a4, a5, a6, a7, a8] := by
  match us, h with
  | a :: b :: c :: us, h =>
    obtain ⟨b0, b1, b2, b3, b4, b5, rfl⟩ := us6 (us := us) (by simpa using h)
    exact ⟨a, b, c, b0, b1, b2, b3, b4, b5, rfl⟩
noncomputable def TopFn (K : PySem.W.Frag) (mg : Str → Option Value) (x : Str) (st : Stmt) : Prop := ∃ f fd, mg x = some (.ref f) ∧ Fun K x x st f fd
theorem top_mk {x : Str} {st : Stmt} {f : Addr} {oc : Value} {od an : Option Addr} {osl : Array (Option Value)} {kV doc pm cdv ct : Value} (X : K.In h) (G : h.Ns mainGlobals mg) (a : PySem.W.nsIn K mainGlobals x = some (some (.ref f)))
    (l : K.lookup f = some ⟨oc, od, .func (PySem.W.fnOf x x (defArgs st) (defBody st) (defScope st) .none kV doc pm an cdv ct), osl⟩) (c : PySem.W.codeIn K cdv x = true) (k : PySem.W.keepIn K (.ref f) = true) : TopFn K mg x st :=
  ⟨f, _, PySem.W.mg_of X G a, fun_mk l c k⟩
noncomputable def MethFn (K : PySem.W.Frag) (C : Addr) (x qual : Str) (st : Stmt) : Prop := ∃ f fd, Meth K C x f ∧ Fun K x qual st f fd
theorem meth_mk {C : Addr} {x qual : Str} {st : Stmt} {f : Addr} {oc : Value} {od an : Option Addr} {osl : Array (Option Value)} {kV doc pm cdv ct : Value} (a : PySem.W.findIn K (.ref C) x = some (some (.ref f))) (i : PySem.W.isFn K (.ref f) = true)
    (l : K.lookup f = some ⟨oc, od, .func (PySem.W.fnOf x qual (defArgs st) (defBody st) (defScope st) .none kV doc pm an cdv ct), osl⟩) (c : PySem.W.codeIn K cdv qual = true) (k : PySem.W.keepIn K (.ref f) = true) : MethFn K C x qual st :=
  ⟨f, _, ⟨a, i, k⟩, fun_mk l c k⟩
noncomputable def InitFn (K : PySem.W.Frag) (C : Addr) (qual : Str) (st : Stmt) : Prop := ∃ f fd, Mk K C f ∧ Fun K "__init__" qual st f fd
theorem init_mk {C : Addr} {qual : Str} {st : Stmt} {f : Addr} {oc : Value} {od an : Option Addr} {osl : Array (Option Value)} {kV doc pm cdv ct : Value} (m : PySem.W.makesIn K C = true) (kc : PySem.W.keepIn K (.ref C) = true) (a : PySem.W.findIn K (.ref C) "__init__" = some (some (.ref f))) (i : PySem.W.isFn K (.ref f) = true)
    (l : K.lookup f = some ⟨oc, od, .func (PySem.W.fnOf "__init__" qual (defArgs st) (defBody st) (defScope st) .none kV doc pm an cdv ct), osl⟩) (c : PySem.W.codeIn K cdv qual = true) (k : PySem.W.keepIn K (.ref f) = true) : InitFn K C qual st :=
  ⟨f, _, ⟨m, a, i, kc⟩, fun_mk l c k⟩
theorem con_mk {x : Str} {i : Int} {t : Tok} (X : K.In h) (G : h.Ns mainGlobals mg) (a : PySem.W.nsIn K mainGlobals x = some (some (.int i t))) : ∃ t, mg x = some (.int i t) := ⟨t, PySem.W.mg_of X G a⟩
theorem cls_mk {C : Addr} (pg : PySem.W.plainGet K C Str.empty = true) (hd : PySem.W.hasDictIn K C = true) (po : PySem.W.plainOver K C = true) (sa : PySem.W.findIn K (.ref C) "__setattr__" = some (some (.builtin "object.__setattr__"))) : Cls K C := ⟨pg, hd, po, sa⟩
end
structure Defs (K : PySem.W.Frag) (mg : Str → Option Value) (C : Cl) : Prop where
  rank : TopFn K mg "teller_rank" sRank
  better : TopFn K mg "is_better" sBetter
  bestOf : TopFn K mg "best_of" sBestOf
  should : TopFn K mg "should_be_told" sShould
  first : TopFn K mg "first_bits" sFirst
  isNet : TopFn K mg "is_network" sIsNet
  isRt : TopFn K mg "is_route" sIsRt
  rtNums : TopFn K mg "route_numbers" sRtNums
  tdNums : TopFn K mg "told_numbers" sTdNums
  ansTell : TopFn K mg "answer_tell" sAnsTell
  ansOne : TopFn K mg "answer_one" sAnsOne
  answer : TopFn K mg "answer" sAnswer
  answers : TopFn K mg "answers" sAnswers
  nbInit : InitFn K C.nb "Neighbour.__init__" sNbInit
  rtInit : InitFn K C.rt "Route.__init__" sRtInit
  enInit : InitFn K C.en "Entry.__init__" sEnInit
  enEmpty : MethFn K C.en "is_empty" "Entry.is_empty" sEnEmpty
  enBest : MethFn K C.en "best_route" "Entry.best_route" sEnBest
  init : InitFn K C.ro "Router.__init__" sInit
  begin_ : MethFn K C.ro "begin" "Router.begin" sBegin
  up : MethFn K C.ro "up" "Router.up" sUp
  down : MethFn K C.ro "down" "Router.down" sDown
  tell : MethFn K C.ro "tell" "Router.tell" sTell
  back : MethFn K C.ro "back" "Router.back" sBack
  next : MethFn K C.ro "next_told" "Router.next_told" sNext
  best : MethFn K C.ro "best" "Router.best" sBest
  send : MethFn K C.ro "send" "Router.send" sSend
  count : MethFn K C.ro "count_networks" "Router.count_networks" sCount
  isUp : MethFn K C.ro "is_up" "Router.is_up" sIsUp
  entryOf : MethFn K C.ro "entry_of" "Router.entry_of" sEntryOf
  withRt : MethFn K C.ro "networks_with_route" "Router.networks_with_route" sWithRt
  room : MethFn K C.ro "has_room_for" "Router.has_room_for" sRoom
  hold : MethFn K C.ro "hold" "Router.hold" sHold
  forget : MethFn K C.ro "forget" "Router.forget" sForget
  forgetAll : MethFn K C.ro "forget_all" "Router.forget_all" sForgetAll
  drop : MethFn K C.ro "drop_if_empty" "Router.drop_if_empty" sDrop
  forgetPairs : MethFn K C.ro "forget_pairs" "Router.forget_pairs" sForgetPairs
  dueTo : MethFn K C.ro "due_to" "Router.due_to" sDueTo
  keepTold : MethFn K C.ro "keep_told" "Router.keep_told" sKeepTold
  lookAt : MethFn K C.ro "look_at" "Router.look_at" sLookAt
  waitIf : MethFn K C.ro "wait_if_due" "Router.wait_if_due" sWaitIf
section
variable {K : PySem.W.Frag} {mg : Str → Option Value} {x qual : Str} {st : Stmt} {C : Addr}
noncomputable def TopFn.f (h : TopFn K mg x st) : Addr := h.choose
noncomputable def TopFn.d (h : TopFn K mg x st) : FuncData := h.choose_spec.choose
theorem TopFn.m (h : TopFn K mg x st) : mg x = some (.ref h.f) := h.choose_spec.choose_spec.1
theorem TopFn.F (h : TopFn K mg x st) : Fun K x x st h.f h.d := h.choose_spec.choose_spec.2
noncomputable def MethFn.f (h : MethFn K C x qual st) : Addr := h.choose
noncomputable def MethFn.d (h : MethFn K C x qual st) : FuncData := h.choose_spec.choose
theorem MethFn.m (h : MethFn K C x qual st) : Meth K C x h.f := h.choose_spec.choose_spec.1
theorem MethFn.F (h : MethFn K C x qual st) : Fun K x qual st h.f h.d := h.choose_spec.choose_spec.2
noncomputable def InitFn.f (h : InitFn K C qual st) : Addr := h.choose
noncomputable def InitFn.d (h : InitFn K C qual st) : FuncData := h.choose_spec.choose
theorem InitFn.m (h : InitFn K C qual st) : Mk K C h.f := h.choose_spec.choose_spec.1
theorem InitFn.F (h : InitFn K C qual st) : Fun K "__init__" qual st h.f h.d := h.choose_spec.choose_spec.2
end
section
variable {P : Program} {w : World} {K : PySem.W.Frag} {mg : Str → Option Value} {base : Heap} {C : Cl}
theorem b1 (D : Defs K mg C) : Binds K D.rank.d ["route"] [] := D.rank.F.binds fun _ _ _ _ _ _ us hl => by obtain ⟨a0, rfl⟩ := us1 hl; rfl
theorem b2 (D : Defs K mg C) : Binds K D.better.d ["route", "other"] [] := D.better.F.binds fun _ _ _ _ _ _ us hl => by obtain ⟨a0, a1, rfl⟩ := us2 hl; rfl
theorem b3 (D : Defs K mg C) : Binds K D.bestOf.d ["routes"] [] := D.bestOf.F.binds fun _ _ _ _ _ _ us hl => by obtain ⟨a0, rfl⟩ := us1 hl; rfl
theorem b4 (D : Defs K mg C) : Binds K D.should.d ["best", "neighbour", "self_number"] [] := D.should.F.binds fun _ _ _ _ _ _ us hl => by obtain ⟨a0, a1, a2, rfl⟩ := us3 hl; rfl
theorem b5 (D : Defs K mg C) : Binds K D.first.d ["number", "bits"] [] := D.first.F.binds fun _ _ _ _ _ _ us hl => by obtain ⟨a0, a1, rfl⟩ := us2 hl; rfl
theorem b6 (D : Defs K mg C) : Binds K D.isNet.d ["net", "bits"] [] := D.isNet.F.binds fun _ _ _ _ _ _ us hl => by obtain ⟨a0, a1, rfl⟩ := us2 hl; rfl
theorem b7 (D : Defs K mg C) : Binds K D.isRt.d ["net", "bits", "count", "origin"] [] := D.isRt.F.binds fun _ _ _ _ _ _ us hl => by obtain ⟨a0, a1, a2, a3, rfl⟩ := us4 hl; rfl
theorem b8 (D : Defs K mg C) : Binds K D.rtNums.d ["network", "path", "pref", "origin", "med"] [] := D.rtNums.F.binds fun _ _ _ _ _ _ us hl => by obtain ⟨a0, a1, a2, a3, a4, rfl⟩ := us5 hl; rfl
theorem b9 (D : Defs K mg C) : Binds K D.tdNums.d ["network", "what"] [] := D.tdNums.F.binds fun _ _ _ _ _ _ us hl => by obtain ⟨a0, a1, rfl⟩ := us2 hl; rfl
theorem b10 (D : Defs K mg C) : Binds K D.ansTell.d ["router", "numbers"] [] := D.ansTell.F.binds fun _ _ _ _ _ _ us hl => by obtain ⟨a0, a1, rfl⟩ := us2 hl; rfl
theorem b11 (D : Defs K mg C) : Binds K D.ansOne.d ["router", "call", "numbers"] [] := D.ansOne.F.binds fun _ _ _ _ _ _ us hl => by obtain ⟨a0, a1, a2, rfl⟩ := us3 hl; rfl
theorem b12 (D : Defs K mg C) : Binds K D.answer.d ["router", "call", "numbers"] [] := D.answer.F.binds fun _ _ _ _ _ _ us hl => by obtain ⟨a0, a1, a2, rfl⟩ := us3 hl; rfl
theorem b14 (D : Defs K mg C) : Binds K D.nbInit.d ["self", "number", "as_number", "ident"] [] := D.nbInit.F.binds fun _ _ _ _ _ _ us hl => by obtain ⟨a0, a1, a2, a3, rfl⟩ := us4 hl; rfl
theorem b15 (D : Defs K mg C) : Binds K D.rtInit.d ["self", "teller", "path", "pref", "origin", "med"] [] := D.rtInit.F.binds fun _ _ _ _ _ _ us hl => by obtain ⟨a0, a1, a2, a3, a4, a5, rfl⟩ := us6 hl; rfl
theorem b16 (D : Defs K mg C) : Binds K D.enInit.d ["self"] [] := D.enInit.F.binds fun _ _ _ _ _ _ us hl => by obtain ⟨a0, rfl⟩ := us1 hl; rfl
theorem b17 (D : Defs K mg C) : Binds K D.enEmpty.d ["self"] [] := D.enEmpty.F.binds fun _ _ _ _ _ _ us hl => by obtain ⟨a0, rfl⟩ := us1 hl; rfl
theorem b18 (D : Defs K mg C) : Binds K D.enBest.d ["self"] [] := D.enBest.F.binds fun _ _ _ _ _ _ us hl => by obtain ⟨a0, rfl⟩ := us1 hl; rfl
theorem b19 (D : Defs K mg C) : Binds K D.init.d ["self"] [] := D.init.F.binds fun _ _ _ _ _ _ us hl => by obtain ⟨a0, rfl⟩ := us1 hl; rfl
theorem b20 (D : Defs K mg C) : Binds K D.begin_.d ["self", "self_number"] [] := D.begin_.F.binds fun _ _ _ _ _ _ us hl => by obtain ⟨a0, a1, rfl⟩ := us2 hl; rfl
theorem b21 (D : Defs K mg C) : Binds K D.up.d ["self", "k", "as_number", "ident"] [] := D.up.F.binds fun _ _ _ _ _ _ us hl => by obtain ⟨a0, a1, a2, a3, rfl⟩ := us4 hl; rfl
theorem b22 (D : Defs K mg C) : Binds K D.down.d ["self", "k"] [] := D.down.F.binds fun _ _ _ _ _ _ us hl => by obtain ⟨a0, a1, rfl⟩ := us2 hl; rfl
theorem b23 (D : Defs K mg C) : Binds K D.tell.d ["self", "k", "net", "bits", "count", "pref", "origin", "med", "path"] [] := D.tell.F.binds fun _ _ _ _ _ _ us hl => by obtain ⟨a0, a1, a2, a3, a4, a5, a6, a7, a8, rfl⟩ := us9 hl; rfl
theorem b24 (D : Defs K mg C) : Binds K D.back.d ["self", "k", "net", "bits"] [] := D.back.F.binds fun _ _ _ _ _ _ us hl => by obtain ⟨a0, a1, a2, a3, rfl⟩ := us4 hl; rfl
theorem b25 (D : Defs K mg C) : Binds K D.next.d ["self"] [] := D.next.F.binds fun _ _ _ _ _ _ us hl => by obtain ⟨a0, rfl⟩ := us1 hl; rfl
theorem b26 (D : Defs K mg C) : Binds K D.best.d ["self", "net", "bits"] [] := D.best.F.binds fun _ _ _ _ _ _ us hl => by obtain ⟨a0, a1, a2, rfl⟩ := us3 hl; rfl
theorem b27 (D : Defs K mg C) : Binds K D.send.d ["self", "address"] [] := D.send.F.binds fun _ _ _ _ _ _ us hl => by obtain ⟨a0, a1, rfl⟩ := us2 hl; rfl
theorem b28 (D : Defs K mg C) : Binds K D.count.d ["self"] [] := D.count.F.binds fun _ _ _ _ _ _ us hl => by obtain ⟨a0, rfl⟩ := us1 hl; rfl
theorem b29 (D : Defs K mg C) : Binds K D.isUp.d ["self", "k"] [] := D.isUp.F.binds fun _ _ _ _ _ _ us hl => by obtain ⟨a0, a1, rfl⟩ := us2 hl; rfl
theorem b30 (D : Defs K mg C) : Binds K D.entryOf.d ["self", "network"] [] := D.entryOf.F.binds fun _ _ _ _ _ _ us hl => by obtain ⟨a0, a1, rfl⟩ := us2 hl; rfl
theorem b31 (D : Defs K mg C) : Binds K D.withRt.d ["self"] [] := D.withRt.F.binds fun _ _ _ _ _ _ us hl => by obtain ⟨a0, rfl⟩ := us1 hl; rfl
theorem b32 (D : Defs K mg C) : Binds K D.room.d ["self", "network"] [] := D.room.F.binds fun _ _ _ _ _ _ us hl => by obtain ⟨a0, a1, rfl⟩ := us2 hl; rfl
theorem b33 (D : Defs K mg C) : Binds K D.hold.d ["self", "k", "network", "route"] [] := D.hold.F.binds fun _ _ _ _ _ _ us hl => by obtain ⟨a0, a1, a2, a3, rfl⟩ := us4 hl; rfl
theorem b34 (D : Defs K mg C) : Binds K D.forget.d ["self", "k", "network"] [] := D.forget.F.binds fun _ _ _ _ _ _ us hl => by obtain ⟨a0, a1, a2, rfl⟩ := us3 hl; rfl
theorem b35 (D : Defs K mg C) : Binds K D.forgetAll.d ["self", "k"] [] := D.forgetAll.F.binds fun _ _ _ _ _ _ us hl => by obtain ⟨a0, a1, rfl⟩ := us2 hl; rfl
theorem b36 (D : Defs K mg C) : Binds K D.drop.d ["self", "network"] [] := D.drop.F.binds fun _ _ _ _ _ _ us hl => by obtain ⟨a0, a1, rfl⟩ := us2 hl; rfl
theorem b37 (D : Defs K mg C) : Binds K D.forgetPairs.d ["self", "k"] [] := D.forgetPairs.F.binds fun _ _ _ _ _ _ us hl => by obtain ⟨a0, a1, rfl⟩ := us2 hl; rfl
theorem b38 (D : Defs K mg C) : Binds K D.dueTo.d ["self", "k", "network"] [] := D.dueTo.F.binds fun _ _ _ _ _ _ us hl => by obtain ⟨a0, a1, a2, rfl⟩ := us3 hl; rfl
theorem b39 (D : Defs K mg C) : Binds K D.keepTold.d ["self", "k", "network", "what"] [] := D.keepTold.F.binds fun _ _ _ _ _ _ us hl => by obtain ⟨a0, a1, a2, a3, rfl⟩ := us4 hl; rfl
theorem b40 (D : Defs K mg C) : Binds K D.lookAt.d ["self", "network"] [] := D.lookAt.F.binds fun _ _ _ _ _ _ us hl => by obtain ⟨a0, a1, rfl⟩ := us2 hl; rfl
theorem b41 (D : Defs K mg C) : Binds K D.waitIf.d ["self", "pair", "due", "told"] [] := D.waitIf.F.binds fun _ _ _ _ _ _ us hl => by obtain ⟨a0, a1, a2, a3, rfl⟩ := us4 hl; rfl
theorem g2 (T : Txt K mg C) (D : Defs K mg C) : FnOk P w K mg base CX0 2 D.better.f D.better.d ["route", "other"] (spBetter C) := ok_better D.better.F T D.rank.F (b1 D) D.rank.m
theorem g3 (T : Txt K mg C) (D : Defs K mg C) : FnOk P w K mg base CX0 3 D.bestOf.f D.bestOf.d ["routes"] (spBestOf K C) := ok_bestOf D.bestOf.F T (g2 T D) D.better.F.kp (b2 D) D.better.m
theorem g4 (T : Txt K mg C) (D : Defs K mg C) : FnOk P w K mg base CX0 1 D.should.f D.should.d ["best", "neighbour", "self_number"] (spShould C) := ok_should D.should.F T
theorem g5 (T : Txt K mg C) (D : Defs K mg C) : FnOk P w K mg base CX0 1 D.first.f D.first.d ["number", "bits"] spFirst := ok_first D.first.F T
theorem g6 (T : Txt K mg C) (D : Defs K mg C) : FnOk P w K mg base CX0 2 D.isNet.f D.isNet.d ["net", "bits"] spIsNet := ok_isNet D.isNet.F T (g5 T D) D.first.F.kp (b5 D) D.first.m
theorem g7 (T : Txt K mg C) (D : Defs K mg C) : FnOk P w K mg base CX0 3 D.isRt.f D.isRt.d ["net", "bits", "count", "origin"] spIsRt := ok_isRt D.isRt.F T (g6 T D) D.isNet.F.kp (b6 D) D.isNet.m
theorem g8 (T : Txt K mg C) (D : Defs K mg C) : FnOk P w K mg base CX0 1 D.rtNums.f D.rtNums.d ["network", "path", "pref", "origin", "med"] spRtNums := ok_rtNums D.rtNums.F T
theorem g9 (T : Txt K mg C) (D : Defs K mg C) : FnOk P w K mg base CX0 2 D.tdNums.f D.tdNums.d ["network", "what"] spTdNums := ok_tdNums D.tdNums.F T (g8 T D) D.rtNums.F.kp (b8 D) D.rtNums.m
theorem g14 (T : Txt K mg C) (D : Defs K mg C) : FnOk P w K mg base CX0 1 D.nbInit.f D.nbInit.d ["self", "number", "as_number", "ident"] (spNbInit C) := ok_nbInit D.nbInit.F T
theorem g15 (T : Txt K mg C) (D : Defs K mg C) : FnOk P w K mg base CX0 1 D.rtInit.f D.rtInit.d ["self", "teller", "path", "pref", "origin", "med"] (spRtInit C) := ok_rtInit D.rtInit.F T
theorem g16 (T : Txt K mg C) (D : Defs K mg C) : FnOk P w K mg base CX0 1 D.enInit.f D.enInit.d ["self"] (spEnInit C) := ok_enInit D.enInit.F T
theorem g17 (T : Txt K mg C) (D : Defs K mg C) : FnOk P w K mg base CX0 1 D.enEmpty.f D.enEmpty.d ["self"] (spEnEmpty C) := ok_enEmpty D.enEmpty.F T
theorem g18 (T : Txt K mg C) (D : Defs K mg C) : FnOk P w K mg base CX0 4 D.enBest.f D.enBest.d ["self"] (spEnBest C) := ok_enBest D.enBest.F T (g3 T D) D.bestOf.F.kp (b3 D) D.bestOf.m
theorem g20 (T : Txt K mg C) (D : Defs K mg C) : FnOk P w K mg base CX0 1 D.begin_.f D.begin_.d ["self", "self_number"] (spBegin C) := ok_begin D.begin_.F T
theorem g19 (T : Txt K mg C) (D : Defs K mg C) : FnOk P w K mg base CX0 2 D.init.f D.init.d ["self"] (spInit C) := ok_init D.init.F T D.begin_.m (g20 T D) (b20 D)
theorem g29 (T : Txt K mg C) (D : Defs K mg C) : FnOk P w K mg base CX0 1 D.isUp.f D.isUp.d ["self", "k"] (spIsUp C) := ok_isUp D.isUp.F T
theorem g30 (T : Txt K mg C) (D : Defs K mg C) : FnOk P w K mg base CX0 3 D.entryOf.f D.entryOf.d ["self", "network"] (spEntryOf C) := ok_entryOf D.entryOf.F T D.enInit.m (g16 T D) (b16 D)
theorem g31 (T : Txt K mg C) (D : Defs K mg C) : FnOk P w K mg base CX0 1 D.withRt.f D.withRt.d ["self"] (spWithRt C) := ok_withRt D.withRt.F T
theorem g32 (T : Txt K mg C) (D : Defs K mg C) : FnOk P w K mg base CX0 1 D.room.f D.room.d ["self", "network"] (spRoom C) := ok_room D.room.F T
theorem g33 (T : Txt K mg C) (D : Defs K mg C) : FnOk P w K mg base CX0 4 D.hold.f D.hold.d ["self", "k", "network", "route"] (spHold C) := ok_hold D.hold.F T D.entryOf.m (g30 T D) (b30 D)
theorem g36 (T : Txt K mg C) (D : Defs K mg C) : FnOk P w K mg base CX0 4 D.drop.f D.drop.d ["self", "network"] (spDrop C) := ok_drop D.drop.F T D.entryOf.m (g30 T D) (b30 D) D.enEmpty.m (g17 T D) (b17 D)
theorem g34 (T : Txt K mg C) (D : Defs K mg C) : FnOk P w K mg base CX0 5 D.forget.f D.forget.d ["self", "k", "network"] (spForget C) := ok_forget D.forget.F T D.entryOf.m (g30 T D) (b30 D) D.drop.m (g36 T D) (b36 D)
theorem g35 (T : Txt K mg C) (D : Defs K mg C) : FnOk P w K mg base CX0 6 D.forgetAll.f D.forgetAll.d ["self", "k"] (spForgetAll C) := ok_forgetAll D.forgetAll.F T D.forget.m (g34 T D) (b34 D)
theorem g37 (T : Txt K mg C) (D : Defs K mg C) : FnOk P w K mg base CX0 1 D.forgetPairs.f D.forgetPairs.d ["self", "k"] (spForgetPairs C) := ok_forgetPairs D.forgetPairs.F T
theorem g38 (T : Txt K mg C) (D : Defs K mg C) : FnOk P w K mg base CX0 5 D.dueTo.f D.dueTo.d ["self", "k", "network"] (spDueTo C) := ok_dueTo D.dueTo.F T D.entryOf.m (g30 T D) (b30 D) D.enBest.m (g18 T D) (b18 D) (g4 T D) D.should.F.kp (b4 D) D.should.m
theorem g39 (T : Txt K mg C) (D : Defs K mg C) : FnOk P w K mg base CX0 5 D.keepTold.f D.keepTold.d ["self", "k", "network", "what"] (spKeepTold C) := ok_keepTold D.keepTold.F T D.entryOf.m (g30 T D) (b30 D) D.drop.m (g36 T D) (b36 D)
theorem g41 (T : Txt K mg C) (D : Defs K mg C) : FnOk P w K mg base CX0 1 D.waitIf.f D.waitIf.d ["self", "pair", "due", "told"] (spWaitIf C) := ok_waitIf D.waitIf.F T
theorem g40 (T : Txt K mg C) (D : Defs K mg C) : FnOk P w K mg base CX0 5 D.lookAt.f D.lookAt.d ["self", "network"] (spLookAt C) := ok_lookAt D.lookAt.F T D.entryOf.m (g30 T D) (b30 D) D.enBest.m (g18 T D) (b18 D) (g4 T D) D.should.F.kp (b4 D) D.should.m D.waitIf.m (g41 T D) (b41 D)
theorem g28 (T : Txt K mg C) (D : Defs K mg C) : FnOk P w K mg base CX0 2 D.count.f D.count.d ["self"] (spCount C) := ok_count D.count.F T D.withRt.m (g31 T D) (b31 D)
theorem g21 (T : Txt K mg C) (D : Defs K mg C) : FnOk P w K mg base CX0 3 D.up.f D.up.d ["self", "k", "as_number", "ident"] (spUp C) := ok_up D.up.F T D.isUp.m (g29 T D) (b29 D) D.nbInit.m (g14 T D) (b14 D) D.withRt.m (g31 T D) (b31 D)
theorem g22 (T : Txt K mg C) (D : Defs K mg C) : FnOk P w K mg base CX0 7 D.down.f D.down.d ["self", "k"] (spDown C) := ok_down D.down.F T D.isUp.m (g29 T D) (b29 D) D.forgetPairs.m (g37 T D) (b37 D) D.forgetAll.m (g35 T D) (b35 D) D.lookAt.m (g40 T D) (b40 D)
theorem g23 (T : Txt K mg C) (D : Defs K mg C) : FnOk P w K mg base CX0 6 D.tell.f D.tell.d ["self", "k", "net", "bits", "count", "pref", "origin", "med", "path"] (spTell C) := ok_tell D.tell.F T D.isUp.m (g29 T D) (b29 D) (g7 T D) D.isRt.F.kp (b7 D) D.isRt.m D.rtInit.m (g15 T D) (b15 D) D.forget.m (g34 T D) (b34 D) D.room.m (g32 T D) (b32 D) D.hold.m (g33 T D) (b33 D) D.lookAt.m (g40 T D) (b40 D)
theorem g24 (T : Txt K mg C) (D : Defs K mg C) : FnOk P w K mg base CX0 6 D.back.f D.back.d ["self", "k", "net", "bits"] (spBack C) := ok_back D.back.F T D.isUp.m (g29 T D) (b29 D) (g6 T D) D.isNet.F.kp (b6 D) D.isNet.m D.entryOf.m (g30 T D) (b30 D) D.forget.m (g34 T D) (b34 D) D.lookAt.m (g40 T D) (b40 D)
theorem g25 (T : Txt K mg C) (D : Defs K mg C) : FnOk P w K mg base CX0 6 D.next.f D.next.d ["self"] (spNext C) := ok_next D.next.F T D.dueTo.m (g38 T D) (b38 D) D.entryOf.m (g30 T D) (b30 D) D.keepTold.m (g39 T D) (b39 D) (g9 T D) D.tdNums.F.kp (b9 D) D.tdNums.m
theorem g26 (T : Txt K mg C) (D : Defs K mg C) : FnOk P w K mg base CX0 5 D.best.f D.best.d ["self", "net", "bits"] (spBest C) := ok_best D.best.F T (g6 T D) D.isNet.F.kp (b6 D) D.isNet.m D.entryOf.m (g30 T D) (b30 D) D.enBest.m (g18 T D) (b18 D) (g8 T D) D.rtNums.F.kp (b8 D) D.rtNums.m
theorem g27 (T : Txt K mg C) (D : Defs K mg C) : FnOk P w K mg base CX0 5 D.send.f D.send.d ["self", "address"] (spSend C) := ok_send D.send.F T (g5 T D) D.first.F.kp (b5 D) D.first.m D.entryOf.m (g30 T D) (b30 D) D.enBest.m (g18 T D) (b18 D)
theorem g10 (T : Txt K mg C) (D : Defs K mg C) : FnOk P w K mg base CX0 7 D.ansTell.f D.ansTell.d ["router", "numbers"] (spAnsTell C) := ok_ansTell D.ansTell.F T D.tell.m (g23 T D) (b23 D)
theorem g11 (T : Txt K mg C) (D : Defs K mg C) : FnOk P w K mg base CX0 8 D.ansOne.f D.ansOne.d ["router", "call", "numbers"] (spAnsOne C) := ok_ansOne D.ansOne.F T D.begin_.m (g20 T D) (b20 D) D.up.m (g21 T D) (b21 D) D.down.m (g22 T D) (b22 D) (g10 T D) D.ansTell.F.kp (b10 D) D.ansTell.m D.back.m (g24 T D) (b24 D) D.send.m (g27 T D) (b27 D) D.count.m (g28 T D) (b28 D)
theorem g12 (T : Txt K mg C) (D : Defs K mg C) : FnOk P w K mg base CX0 9 D.answer.f D.answer.d ["router", "call", "numbers"] (spAnswer C) := ok_answer D.answer.F T D.next.m (g25 T D) (b25 D) D.best.m (g26 T D) (b26 D) (g11 T D) D.ansOne.F.kp (b11 D) D.ansOne.m
end
theorem all_mk {P : Program} {w : World} {K : PySem.W.Frag} {mg : Str → Option Value} {C : Cl} {fa aW : Addr} {oW : Obj} (T : Txt K mg C) (D : Defs K mg C) (hfa : mg "answers" = some (.ref fa)) (mW : mg "WIDTHS" = some (.ref aW)) (lW : K.lookup aW = some oW) (tW : tblO oW widths = true) :
    ∃ fd : FuncData, (∀ (s : Shared) (us : List Value), us.length = (["calls"] : List Str).length → BindsTo s fd ⟨us, []⟩ ((["calls"] : List Str).zip us)) ∧ ∀ base : Heap, K.In base → base.Ns mainGlobals mg → FnOk P w K mg base CX0 10 fa fd ["calls"] (spAnswers K) := by
  have e := hfa.symm.trans D.answers.m
  have e' : fa = D.answers.f := by injection e with e; injection e with e
  subst e'
  refine ⟨D.answers.d, ?_, fun base _ _ => ?_⟩
  · obtain ⟨oc, od, kV, doc, pm, an, cdv, ct, osl, e, lk, hcd⟩ := D.answers.F.ex
    rw [e]
    intro s us hu
    obtain ⟨a0, rfl⟩ := us1 hu
    exact .of_eq rfl
  exact ok_answers D.answers.F T D.init.m (g19 T D) (b19 D) (g12 T D) D.answer.F.kp (b12 D) D.answer.m mW lW tW
end R46
end
section
set_option linter.all false
set_option Elab.async false
set_option maxRecDepth 100000
set_option maxHeartbeats 2000000
namespace R46
open PySem PySem.Spec PyProof.Rows L2
noncomputable def vS (t : Tok) (x : Str) : Value := .str x t
noncomputable def vI (i : Int) (t : Tok) : Value := .int i t
noncomputable def vR (a : Addr) : Value := .ref a
noncomputable def ks (P : Params) (t : Tok) (x : Str) (v : Value) : DictEntry := ⟨PyData.keyHash P x, .str x t, v⟩
noncomputable def kn (i : Int) (t : Tok) (v : Value) : DictEntry := ⟨i, .int i t, v⟩
noncomputable def cG (vs : Array Value) : Obj := { cls := .type "code", data := .fields vs }
noncomputable def dO (es : List DictEntry) (n : Nat) : Obj := { cls := .type "dict", data := .dict es.toArray n }
noncomputable def d3_0 (P : Params) : List DictEntry := [ks P (nat_lit 165) "__name__" (vS (nat_lit 654) "pathrouter.router"), ks P (nat_lit 166) "__doc__" (.none), ks P (nat_lit 167) "__package__" (.none), ks P (nat_lit 168) "__loader__" (.builtin "__main__.__loader__#opaque"), ks P (nat_lit 169) "__spec__" (.none), ks P (nat_lit 170) "__annotations__" (vR (nat_lit 6)), ks P (nat_lit 171) "__builtins__" (vR (nat_lit 4)), ks P (nat_lit 173) "__file__" (vS (nat_lit 172) "/claim/cut.py")]
noncomputable def d3_1 (P : Params) : List DictEntry := [ks P (nat_lit 174) "__cached__" (.none), ks P (nat_lit 190) "LONGEST_PASSED_ON" (vI 15 (nat_lit 189)), ks P (nat_lit 223) "Neighbour" (vR (nat_lit 31)), ks P (nat_lit 260) "Route" (vR (nat_lit 52)), ks P (nat_lit 267) "teller_rank" (vR (nat_lit 63)), ks P (nat_lit 275) "is_better" (vR (nat_lit 70)), ks P (nat_lit 284) "best_of" (vR (nat_lit 77)), ks P (nat_lit 293) "should_be_told" (vR (nat_lit 84))]
noncomputable def d3_2 (P : Params) : List DictEntry := [ks P (nat_lit 297) "NEIGHBOURS" (vI 8 (nat_lit 296)), ks P (nat_lit 299) "ADDRESS_BITS" (vI 32 (nat_lit 298)), ks P (nat_lit 301) "LONGEST_PATH" (vI 16 (nat_lit 300)), ks P (nat_lit 303) "GREATEST_ORIGIN" (vI 2 (nat_lit 302)), ks P (nat_lit 305) "TOO_MANY_NETWORKS" (vI 4096 (nat_lit 304)), ks P (nat_lit 307) "DONE" (vI 0 (nat_lit 306)), ks P (nat_lit 310) "REFUSED" (vI (-1) (nat_lit 309)), ks P (nat_lit 313) "FULL" (vI (-2) (nat_lit 312))]
noncomputable def d3_3 (P : Params) : List DictEntry := [ks P (nat_lit 315) "NOBODY" (vI 8 (nat_lit 314)), ks P (nat_lit 323) "first_bits" (vR (nat_lit 91)), ks P (nat_lit 331) "is_network" (vR (nat_lit 98)), ks P (nat_lit 341) "is_route" (vR (nat_lit 105)), ks P (nat_lit 353) "route_numbers" (vR (nat_lit 112)), ks P (nat_lit 361) "told_numbers" (vR (nat_lit 119)), ks P (nat_lit 403) "Entry" (vR (nat_lit 148)), ks P (nat_lit 653) "Router" (vR (nat_lit 321))]
noncomputable def d3_4 (P : Params) : List DictEntry := [ks P (nat_lit 657) "BEGIN" (vI 1 (nat_lit 656)), ks P (nat_lit 659) "UP" (vI 2 (nat_lit 658)), ks P (nat_lit 661) "DOWN" (vI 3 (nat_lit 660)), ks P (nat_lit 663) "TELL" (vI 4 (nat_lit 662)), ks P (nat_lit 665) "BACK" (vI 5 (nat_lit 664)), ks P (nat_lit 667) "NEXT" (vI 6 (nat_lit 666)), ks P (nat_lit 669) "BEST" (vI 7 (nat_lit 668)), ks P (nat_lit 671) "SEND" (vI 8 (nat_lit 670))]
noncomputable def d3_5 (P : Params) : List DictEntry := [ks P (nat_lit 699) "WIDTHS" (vR (nat_lit 326)), ks P (nat_lit 714) "answer_tell" (vR (nat_lit 333)), ks P (nat_lit 723) "answer_one" (vR (nat_lit 340)), ks P (nat_lit 732) "answer" (vR (nat_lit 347)), ks P (nat_lit 744) "answers" (vR (nat_lit 354))]
noncomputable def d30_0 (P : Params) : List DictEntry := [ks P (nat_lit 198) "__module__" (vS (nat_lit 187) "pathrouter.routes"), ks P (nat_lit 202) "__firstlineno__" (vI 3 (nat_lit 201)), ks P (nat_lit 212) "__init__" (vR (nat_lit 28)), ks P (nat_lit 216) "__static_attributes__" (vR (nat_lit 29)), ks P (nat_lit 218) "__dict__" (vR (nat_lit 32)), ks P (nat_lit 220) "__weakref__" (vR (nat_lit 33)), ks P (nat_lit 221) "__doc__" (.none)]
noncomputable def o31 : Obj := { cls := .type "type", data := .cls { name := "Neighbour", bases := [.type "object"], mro := [vR (nat_lit 31), .type "object"], ns := 30, qualname := "Neighbour" }, slots := #[none, none, some (vS (nat_lit 191) "Neighbour"), some (vS (nat_lit 199) "Neighbour"), some (.builtin "object.__new__"), some (.bool true)] }
noncomputable def d51_0 (P : Params) : List DictEntry := [ks P (nat_lit 231) "__module__" (vS (nat_lit 187) "pathrouter.routes"), ks P (nat_lit 235) "__firstlineno__" (vI 9 (nat_lit 234)), ks P (nat_lit 247) "__init__" (vR (nat_lit 49)), ks P (nat_lit 253) "__static_attributes__" (vR (nat_lit 50)), ks P (nat_lit 255) "__dict__" (vR (nat_lit 53)), ks P (nat_lit 257) "__weakref__" (vR (nat_lit 54)), ks P (nat_lit 258) "__doc__" (.none)]
noncomputable def o52 : Obj := { cls := .type "type", data := .cls { name := "Route", bases := [.type "object"], mro := [vR (nat_lit 52), .type "object"], ns := 51, qualname := "Route" }, slots := #[none, none, some (vS (nat_lit 224) "Route"), some (vS (nat_lit 232) "Route"), some (.builtin "object.__new__"), some (.bool true)] }
noncomputable def o144 : Obj := cG #[vS (nat_lit 388) "best_route", vS (nat_lit 389) "Entry.best_route", vS (nat_lit 390) "/claim/cut.py", vI 75 (nat_lit 0), vI 1 (nat_lit 0), vI 0 (nat_lit 0), vI 0 (nat_lit 0), vI 3 (nat_lit 0), vR (nat_lit 141), .bool true, vI 181 (nat_lit 0), vR (nat_lit 142), .none, .none, .none, vR (nat_lit 143), vI 391 (nat_lit 0), vI 75 (nat_lit 0), vS (nat_lit 392) "/claim/cut.py"]
noncomputable def d147_0 (P : Params) : List DictEntry := [ks P (nat_lit 369) "__module__" (vS (nat_lit 294) "pathrouter.core"), ks P (nat_lit 373) "__firstlineno__" (vI 66 (nat_lit 372)), ks P (nat_lit 380) "__init__" (vR (nat_lit 133)), ks P (nat_lit 387) "is_empty" (vR (nat_lit 140)), ks P (nat_lit 393) "best_route" (vR (nat_lit 145)), ks P (nat_lit 396) "__static_attributes__" (vR (nat_lit 146)), ks P (nat_lit 398) "__dict__" (vR (nat_lit 149)), ks P (nat_lit 400) "__weakref__" (vR (nat_lit 150))]
noncomputable def d147_1 (P : Params) : List DictEntry := [ks P (nat_lit 401) "__doc__" (.none)]
noncomputable def o148 : Obj := { cls := .type "type", data := .cls { name := "Entry", bases := [.type "object"], mro := [vR (nat_lit 148), .type "object"], ns := 147, qualname := "Entry" }, slots := #[none, none, some (vS (nat_lit 362) "Entry"), some (vS (nat_lit 370) "Entry"), some (.builtin "object.__new__"), some (.bool true)] }
noncomputable def o247 : Obj := cG #[vS (nat_lit 534) "networks_with_route", vS (nat_lit 535) "Router.networks_with_route", vS (nat_lit 536) "/claim/cut.py", vI 167 (nat_lit 0), vI 1 (nat_lit 0), vI 0 (nat_lit 0), vI 0 (nat_lit 0), vI 3 (nat_lit 0), vR (nat_lit 244), .bool true, vI 181 (nat_lit 0), vR (nat_lit 245), .none, .none, .none, vR (nat_lit 246), vI 537 (nat_lit 0), vI 167 (nat_lit 0), vS (nat_lit 538) "/claim/cut.py"]
noncomputable def d320_0 (P : Params) : List DictEntry := [ks P (nat_lit 411) "__module__" (vS (nat_lit 294) "pathrouter.core"), ks P (nat_lit 415) "__firstlineno__" (vI 77 (nat_lit 414)), ks P (nat_lit 422) "__init__" (vR (nat_lit 166)), ks P (nat_lit 430) "begin" (vR (nat_lit 173)), ks P (nat_lit 441) "up" (vR (nat_lit 180)), ks P (nat_lit 450) "down" (vR (nat_lit 187)), ks P (nat_lit 467) "tell" (vR (nat_lit 194)), ks P (nat_lit 478) "back" (vR (nat_lit 201))]
noncomputable def d320_1 (P : Params) : List DictEntry := [ks P (nat_lit 489) "next_told" (vR (nat_lit 208)), ks P (nat_lit 500) "best" (vR (nat_lit 215)), ks P (nat_lit 510) "send" (vR (nat_lit 222)), ks P (nat_lit 517) "count_networks" (vR (nat_lit 229)), ks P (nat_lit 525) "is_up" (vR (nat_lit 236)), ks P (nat_lit 533) "entry_of" (vR (nat_lit 243)), ks P (nat_lit 539) "networks_with_route" (vR (nat_lit 248)), ks P (nat_lit 548) "has_room_for" (vR (nat_lit 255))]
noncomputable def d320_2 (P : Params) : List DictEntry := [ks P (nat_lit 559) "hold" (vR (nat_lit 262)), ks P (nat_lit 568) "forget" (vR (nat_lit 269)), ks P (nat_lit 580) "forget_all" (vR (nat_lit 276)), ks P (nat_lit 588) "drop_if_empty" (vR (nat_lit 283)), ks P (nat_lit 597) "forget_pairs" (vR (nat_lit 290)), ks P (nat_lit 607) "due_to" (vR (nat_lit 297)), ks P (nat_lit 618) "keep_told" (vR (nat_lit 304)), ks P (nat_lit 631) "look_at" (vR (nat_lit 311))]
noncomputable def d320_3 (P : Params) : List DictEntry := [ks P (nat_lit 641) "wait_if_due" (vR (nat_lit 318)), ks P (nat_lit 646) "__static_attributes__" (vR (nat_lit 319)), ks P (nat_lit 648) "__dict__" (vR (nat_lit 322)), ks P (nat_lit 650) "__weakref__" (vR (nat_lit 323)), ks P (nat_lit 651) "__doc__" (.none)]
noncomputable def o321 : Obj := { cls := .type "type", data := .cls { name := "Router", bases := [.type "object"], mro := [vR (nat_lit 321), .type "object"], ns := 320, qualname := "Router" }, slots := #[none, none, some (vS (nat_lit 404) "Router"), some (vS (nat_lit 412) "Router"), some (.builtin "object.__new__"), some (.bool true)] }
noncomputable def d326_0 (P : Params) : List DictEntry := [kn 1 (nat_lit 672) (vI 2 (nat_lit 673)), kn 2 (nat_lit 674) (vI 4 (nat_lit 675)), kn 3 (nat_lit 676) (vI 2 (nat_lit 677)), kn 4 (nat_lit 678) (vI 25 (nat_lit 679)), kn 5 (nat_lit 680) (vI 4 (nat_lit 681)), kn 6 (nat_lit 682) (vI 1 (nat_lit 683)), kn 7 (nat_lit 684) (vI 3 (nat_lit 685)), kn 8 (nat_lit 686) (vI 2 (nat_lit 687))]
noncomputable def d326_1 (P : Params) : List DictEntry := [kn 9 (nat_lit 688) (vI 1 (nat_lit 689))]
noncomputable def pq0 : List (Str × Str) := [("__init__", "Neighbour.__init__"), ("__init__", "Route.__init__"), ("teller_rank", "teller_rank"), ("is_better", "is_better"), ("best_of", "best_of"), ("should_be_told", "should_be_told"), ("first_bits", "first_bits"), ("is_network", "is_network")]
noncomputable def pq1 : List (Str × Str) := [("is_route", "is_route"), ("route_numbers", "route_numbers"), ("told_numbers", "told_numbers"), ("__init__", "Entry.__init__"), ("is_empty", "Entry.is_empty"), ("best_route", "Entry.best_route"), ("__init__", "Router.__init__"), ("begin", "Router.begin")]
noncomputable def pq2 : List (Str × Str) := [("up", "Router.up"), ("down", "Router.down"), ("tell", "Router.tell"), ("back", "Router.back"), ("next_told", "Router.next_told"), ("best", "Router.best"), ("send", "Router.send"), ("count_networks", "Router.count_networks")]
noncomputable def pq3 : List (Str × Str) := [("is_up", "Router.is_up"), ("entry_of", "Router.entry_of"), ("networks_with_route", "Router.networks_with_route"), ("has_room_for", "Router.has_room_for"), ("hold", "Router.hold"), ("forget", "Router.forget"), ("forget_all", "Router.forget_all"), ("drop_if_empty", "Router.drop_if_empty")]
noncomputable def pq4 : List (Str × Str) := [("forget_pairs", "Router.forget_pairs"), ("due_to", "Router.due_to"), ("keep_told", "Router.keep_told"), ("look_at", "Router.look_at"), ("wait_if_due", "Router.wait_if_due"), ("answer_tell", "answer_tell"), ("answer_one", "answer_one"), ("answer", "answer")]
noncomputable def pq5 : List (Str × Str) := [("answers", "answers")]
noncomputable def st0 : List Stmt := [sNbInit, sRtInit, sRank, sBetter, sBestOf, sShould, sFirst, sIsNet]
noncomputable def st1 : List Stmt := [sIsRt, sRtNums, sTdNums, sEnInit, sEnEmpty, sEnBest, sInit, sBegin]
noncomputable def st2 : List Stmt := [sUp, sDown, sTell, sBack, sNext, sBest, sSend, sCount]
noncomputable def st3 : List Stmt := [sIsUp, sEntryOf, sWithRt, sRoom, sHold, sForget, sForgetAll, sDrop]
noncomputable def st4 : List Stmt := [sForgetPairs, sDueTo, sKeepTold, sLookAt, sWaitIf, sAnsTell, sAnsOne, sAnswer]
noncomputable def st5 : List Stmt := [sAnswers]
noncomputable def pq (i : Nat) : Str × Str := (pq0 ++ pq1 ++ pq2 ++ pq3 ++ pq4 ++ pq5).getD i ("", "")
noncomputable def stA (i : Nat) : Stmt := (st0 ++ st1 ++ st2 ++ st3 ++ st4 ++ st5).getD i (.Pass ⟨0, 0, 0, 0⟩)
noncomputable def mdA (i : Nat) : Str := (["pathrouter.routes", "pathrouter.core", "pathrouter.router"] : List Str).getD i ""
noncomputable def cO (t l n r u i : Nat) : Obj := { cls := .type "code", data := .fields #[.str (pq i).1 t, .str (pq i).2 (t + 1), .str "/claim/cut.py" (t + 2), .int l 0, .int n 0, .int 0 0, .int 0 0, .int 3 0, .ref r, .bool true, .int 181 0, .ref (r + 1), .none, .ref (r + 2), .ref (r + 3), .ref (r + 4), .int u 0, .int l 0, .str "/claim/cut.py" (u + 1)] }
noncomputable def fO (t c j i : Nat) : Obj := { cls := .type "function", data := .func (PySem.W.fnOf (pq i).1 (pq i).2 (defArgs (stA i)) (defBody (stA i)) (defScope (stA i)) .none .none .none (.str (mdA j) t) none (.ref c) .none) }
noncomputable def kF : Params → PySem.W.Frag := fun P =>
  (nat_lit 3, dO (d3_0 P ++ d3_1 P ++ d3_2 P ++ d3_3 P ++ d3_4 P ++ d3_5 P) (nat_lit 45)) ::
  (nat_lit 27, cO (nat_lit 203) (nat_lit 5) (nat_lit 4) (nat_lit 22) (nat_lit 210) (nat_lit 0)) ::
  (nat_lit 28, fO (nat_lit 187) (nat_lit 27) (nat_lit 0) (nat_lit 0)) ::
  (nat_lit 30, dO (d30_0 P) (nat_lit 4)) ::
  (nat_lit 31, o31) ::
  (nat_lit 48, cO (nat_lit 236) (nat_lit 11) (nat_lit 6) (nat_lit 43) (nat_lit 245) (nat_lit 1)) ::
  (nat_lit 49, fO (nat_lit 187) (nat_lit 48) (nat_lit 0) (nat_lit 1)) ::
  (nat_lit 51, dO (d51_0 P) (nat_lit 4)) ::
  (nat_lit 52, o52) ::
  (nat_lit 62, cO (nat_lit 261) (nat_lit 17) (nat_lit 1) (nat_lit 57) (nat_lit 265) (nat_lit 2)) ::
  (nat_lit 63, fO (nat_lit 187) (nat_lit 62) (nat_lit 0) (nat_lit 2)) ::
  (nat_lit 69, cO (nat_lit 268) (nat_lit 19) (nat_lit 2) (nat_lit 64) (nat_lit 273) (nat_lit 3)) ::
  (nat_lit 70, fO (nat_lit 187) (nat_lit 69) (nat_lit 0) (nat_lit 3)) ::
  (nat_lit 76, cO (nat_lit 276) (nat_lit 29) (nat_lit 1) (nat_lit 71) (nat_lit 282) (nat_lit 4)) ::
  (nat_lit 77, fO (nat_lit 187) (nat_lit 76) (nat_lit 0) (nat_lit 4)) ::
  (nat_lit 83, cO (nat_lit 285) (nat_lit 35) (nat_lit 3) (nat_lit 78) (nat_lit 291) (nat_lit 5)) ::
  (nat_lit 84, fO (nat_lit 187) (nat_lit 83) (nat_lit 0) (nat_lit 5)) ::
  (nat_lit 90, cO (nat_lit 316) (nat_lit 51) (nat_lit 2) (nat_lit 85) (nat_lit 321) (nat_lit 6)) ::
  (nat_lit 91, fO (nat_lit 294) (nat_lit 90) (nat_lit 1) (nat_lit 6)) ::
  (nat_lit 97, cO (nat_lit 324) (nat_lit 53) (nat_lit 2) (nat_lit 92) (nat_lit 329) (nat_lit 7)) ::
  (nat_lit 98, fO (nat_lit 294) (nat_lit 97) (nat_lit 1) (nat_lit 7)) ::
  (nat_lit 104, cO (nat_lit 332) (nat_lit 55) (nat_lit 4) (nat_lit 99) (nat_lit 339) (nat_lit 8)) ::
  (nat_lit 105, fO (nat_lit 294) (nat_lit 104) (nat_lit 1) (nat_lit 8)) ::
  (nat_lit 111, cO (nat_lit 342) (nat_lit 59) (nat_lit 5) (nat_lit 106) (nat_lit 351) (nat_lit 9)) ::
  (nat_lit 112, fO (nat_lit 294) (nat_lit 111) (nat_lit 1) (nat_lit 9)) ::
  (nat_lit 118, cO (nat_lit 354) (nat_lit 62) (nat_lit 2) (nat_lit 113) (nat_lit 359) (nat_lit 10)) ::
  (nat_lit 119, fO (nat_lit 294) (nat_lit 118) (nat_lit 1) (nat_lit 10)) ::
  (nat_lit 132, cO (nat_lit 374) (nat_lit 68) (nat_lit 1) (nat_lit 127) (nat_lit 378) (nat_lit 11)) ::
  (nat_lit 133, fO (nat_lit 294) (nat_lit 132) (nat_lit 1) (nat_lit 11)) ::
  (nat_lit 139, cO (nat_lit 381) (nat_lit 72) (nat_lit 1) (nat_lit 134) (nat_lit 385) (nat_lit 12)) ::
  (nat_lit 140, fO (nat_lit 294) (nat_lit 139) (nat_lit 1) (nat_lit 12)) ::
  (nat_lit 144, o144) ::
  (nat_lit 145, fO (nat_lit 294) (nat_lit 144) (nat_lit 1) (nat_lit 13)) ::
  (nat_lit 147, dO (d147_0 P ++ d147_1 P) (nat_lit 4)) ::
  (nat_lit 148, o148) ::
  (nat_lit 165, cO (nat_lit 416) (nat_lit 79) (nat_lit 1) (nat_lit 160) (nat_lit 420) (nat_lit 14)) ::
  (nat_lit 166, fO (nat_lit 294) (nat_lit 165) (nat_lit 1) (nat_lit 14)) ::
  (nat_lit 172, cO (nat_lit 423) (nat_lit 82) (nat_lit 2) (nat_lit 167) (nat_lit 428) (nat_lit 15)) ::
  (nat_lit 173, fO (nat_lit 294) (nat_lit 172) (nat_lit 1) (nat_lit 15)) ::
  (nat_lit 179, cO (nat_lit 431) (nat_lit 89) (nat_lit 4) (nat_lit 174) (nat_lit 439) (nat_lit 16)) ::
  (nat_lit 180, fO (nat_lit 294) (nat_lit 179) (nat_lit 1) (nat_lit 16)) ::
  (nat_lit 186, cO (nat_lit 442) (nat_lit 97) (nat_lit 2) (nat_lit 181) (nat_lit 448) (nat_lit 17)) ::
  (nat_lit 187, fO (nat_lit 294) (nat_lit 186) (nat_lit 1) (nat_lit 17)) ::
  (nat_lit 193, cO (nat_lit 451) (nat_lit 106) (nat_lit 9) (nat_lit 188) (nat_lit 465) (nat_lit 18)) ::
  (nat_lit 194, fO (nat_lit 294) (nat_lit 193) (nat_lit 1) (nat_lit 18)) ::
  (nat_lit 200, cO (nat_lit 468) (nat_lit 120) (nat_lit 4) (nat_lit 195) (nat_lit 476) (nat_lit 19)) ::
  (nat_lit 201, fO (nat_lit 294) (nat_lit 200) (nat_lit 1) (nat_lit 19)) ::
  (nat_lit 207, cO (nat_lit 479) (nat_lit 129) (nat_lit 1) (nat_lit 202) (nat_lit 487) (nat_lit 20)) ::
  (nat_lit 208, fO (nat_lit 294) (nat_lit 207) (nat_lit 1) (nat_lit 20)) ::
  (nat_lit 214, cO (nat_lit 490) (nat_lit 140) (nat_lit 3) (nat_lit 209) (nat_lit 498) (nat_lit 21)) ::
  (nat_lit 215, fO (nat_lit 294) (nat_lit 214) (nat_lit 1) (nat_lit 21)) ::
  (nat_lit 221, cO (nat_lit 501) (nat_lit 149) (nat_lit 2) (nat_lit 216) (nat_lit 508) (nat_lit 22)) ::
  (nat_lit 222, fO (nat_lit 294) (nat_lit 221) (nat_lit 1) (nat_lit 22)) ::
  (nat_lit 228, cO (nat_lit 511) (nat_lit 156) (nat_lit 1) (nat_lit 223) (nat_lit 515) (nat_lit 23)) ::
  (nat_lit 229, fO (nat_lit 294) (nat_lit 228) (nat_lit 1) (nat_lit 23)) ::
  (nat_lit 235, cO (nat_lit 518) (nat_lit 159) (nat_lit 2) (nat_lit 230) (nat_lit 523) (nat_lit 24)) ::
  (nat_lit 236, fO (nat_lit 294) (nat_lit 235) (nat_lit 1) (nat_lit 24)) ::
  (nat_lit 242, cO (nat_lit 526) (nat_lit 162) (nat_lit 2) (nat_lit 237) (nat_lit 531) (nat_lit 25)) ::
  (nat_lit 243, fO (nat_lit 294) (nat_lit 242) (nat_lit 1) (nat_lit 25)) ::
  (nat_lit 247, o247) ::
  (nat_lit 248, fO (nat_lit 294) (nat_lit 247) (nat_lit 1) (nat_lit 26)) ::
  (nat_lit 254, cO (nat_lit 540) (nat_lit 170) (nat_lit 2) (nat_lit 249) (nat_lit 546) (nat_lit 27)) ::
  (nat_lit 255, fO (nat_lit 294) (nat_lit 254) (nat_lit 1) (nat_lit 27)) ::
  (nat_lit 261, cO (nat_lit 549) (nat_lit 176) (nat_lit 4) (nat_lit 256) (nat_lit 557) (nat_lit 28)) ::
  (nat_lit 262, fO (nat_lit 294) (nat_lit 261) (nat_lit 1) (nat_lit 28)) ::
  (nat_lit 268, cO (nat_lit 560) (nat_lit 181) (nat_lit 3) (nat_lit 263) (nat_lit 566) (nat_lit 29)) ::
  (nat_lit 269, fO (nat_lit 294) (nat_lit 268) (nat_lit 1) (nat_lit 29)) ::
  (nat_lit 275, cO (nat_lit 569) (nat_lit 185) (nat_lit 2) (nat_lit 270) (nat_lit 578) (nat_lit 30)) ::
  (nat_lit 276, fO (nat_lit 294) (nat_lit 275) (nat_lit 1) (nat_lit 30)) ::
  (nat_lit 282, cO (nat_lit 581) (nat_lit 196) (nat_lit 2) (nat_lit 277) (nat_lit 586) (nat_lit 31)) ::
  (nat_lit 283, fO (nat_lit 294) (nat_lit 282) (nat_lit 1) (nat_lit 31)) ::
  (nat_lit 289, cO (nat_lit 589) (nat_lit 200) (nat_lit 2) (nat_lit 284) (nat_lit 595) (nat_lit 32)) ::
  (nat_lit 290, fO (nat_lit 294) (nat_lit 289) (nat_lit 1) (nat_lit 32)) ::
  (nat_lit 296, cO (nat_lit 598) (nat_lit 205) (nat_lit 3) (nat_lit 291) (nat_lit 605) (nat_lit 33)) ::
  (nat_lit 297, fO (nat_lit 294) (nat_lit 296) (nat_lit 1) (nat_lit 33)) ::
  (nat_lit 303, cO (nat_lit 608) (nat_lit 209) (nat_lit 4) (nat_lit 298) (nat_lit 616) (nat_lit 34)) ::
  (nat_lit 304, fO (nat_lit 294) (nat_lit 303) (nat_lit 1) (nat_lit 34)) ::
  (nat_lit 310, cO (nat_lit 619) (nat_lit 217) (nat_lit 2) (nat_lit 305) (nat_lit 629) (nat_lit 35)) ::
  (nat_lit 311, fO (nat_lit 294) (nat_lit 310) (nat_lit 1) (nat_lit 35)) ::
  (nat_lit 317, cO (nat_lit 632) (nat_lit 225) (nat_lit 4) (nat_lit 312) (nat_lit 639) (nat_lit 36)) ::
  (nat_lit 318, fO (nat_lit 294) (nat_lit 317) (nat_lit 1) (nat_lit 36)) ::
  (nat_lit 320, dO (d320_0 P ++ d320_1 P ++ d320_2 P ++ d320_3 P) (nat_lit 4)) ::
  (nat_lit 321, o321) ::
  (nat_lit 326, dO (d326_0 P ++ d326_1 P) (nat_lit 9)) ::
  (nat_lit 332, cO (nat_lit 700) (nat_lit 240) (nat_lit 2) (nat_lit 327) (nat_lit 712) (nat_lit 37)) ::
  (nat_lit 333, fO (nat_lit 654) (nat_lit 332) (nat_lit 2) (nat_lit 37)) ::
  (nat_lit 339, cO (nat_lit 715) (nat_lit 249) (nat_lit 3) (nat_lit 334) (nat_lit 721) (nat_lit 38)) ::
  (nat_lit 340, fO (nat_lit 654) (nat_lit 339) (nat_lit 2) (nat_lit 38)) ::
  (nat_lit 346, cO (nat_lit 724) (nat_lit 263) (nat_lit 3) (nat_lit 341) (nat_lit 730) (nat_lit 39)) ::
  (nat_lit 347, fO (nat_lit 654) (nat_lit 346) (nat_lit 2) (nat_lit 39)) ::
  (nat_lit 353, cO (nat_lit 733) (nat_lit 269) (nat_lit 1) (nat_lit 348) (nat_lit 742) (nat_lit 40)) ::
  (nat_lit 354, fO (nat_lit 654) (nat_lit 353) (nat_lit 2) (nat_lit 40)) :: []
noncomputable def kA : List Addr := nat_lit 3 :: nat_lit 27 :: nat_lit 28 :: nat_lit 30 :: nat_lit 31 :: nat_lit 48 :: nat_lit 49 :: nat_lit 51 :: nat_lit 52 :: nat_lit 62 :: nat_lit 63 :: nat_lit 69 :: nat_lit 70 :: nat_lit 76 :: nat_lit 77 :: nat_lit 83 :: nat_lit 84 :: nat_lit 90 :: nat_lit 91 :: nat_lit 97 :: nat_lit 98 :: nat_lit 104 :: nat_lit 105 :: nat_lit 111 :: nat_lit 112 :: nat_lit 118 :: nat_lit 119 :: nat_lit 132 :: nat_lit 133 :: nat_lit 139 :: nat_lit 140 :: nat_lit 144 :: nat_lit 145 :: nat_lit 147 :: nat_lit 148 :: nat_lit 165 :: nat_lit 166 :: nat_lit 172 :: nat_lit 173 :: nat_lit 179 :: nat_lit 180 :: nat_lit 186 :: nat_lit 187 :: nat_lit 193 :: nat_lit 194 :: nat_lit 200 :: nat_lit 201 :: nat_lit 207 :: nat_lit 208 :: nat_lit 214 :: nat_lit 215 :: nat_lit 221 :: nat_lit 222 :: nat_lit 228 :: nat_lit 229 :: nat_lit 235 :: nat_lit 236 :: nat_lit 242 :: nat_lit 243 :: nat_lit 247 :: nat_lit 248 :: nat_lit 254 :: nat_lit 255 :: nat_lit 261 :: nat_lit 262 :: nat_lit 268 :: nat_lit 269 :: nat_lit 275 :: nat_lit 276 :: nat_lit 282 :: nat_lit 283 :: nat_lit 289 :: nat_lit 290 :: nat_lit 296 :: nat_lit 297 :: nat_lit 303 :: nat_lit 304 :: nat_lit 310 :: nat_lit 311 :: nat_lit 317 :: nat_lit 318 :: nat_lit 320 :: nat_lit 321 :: nat_lit 326 :: nat_lit 332 :: nat_lit 333 :: nat_lit 339 :: nat_lit 340 :: nat_lit 346 :: nat_lit 347 :: nat_lit 353 :: nat_lit 354 :: []
end R46
end
section
set_option linter.all false
set_option Elab.async false
set_option maxRecDepth 100000
set_option maxHeartbeats 2000000
namespace R46
open PySem PySem.Spec PyProof.Rows L2
open PySem.W (WData Codec OpenSpec Well WellAll ReadsW ReadsAllW)
theorem reads_ints {R : PySem.W.WRecords} {cl : Str → Option Addr} {h : Heap} : ∀ {ns : List Int} {us : List Value}, Vals (ns.map V.int) us → ∃ as, ReadsAllW R cl h us (ns.map WData.int) as
  | [], _, r => by
    cases r
    exact ⟨_, ReadsAllW.nil⟩
  | n :: ns, _, r => by
    cases r with
    | cons r1 r2 =>
      obtain ⟨t, rfl⟩ := r1
      obtain ⟨as, q⟩ := reads_ints r2
      exact ⟨_, ReadsAllW.cons (ReadsW.int n t) q⟩
theorem reads_list {P : Program} {w : World} {R : PySem.W.WRecords} {cl : Str → Option Addr} {H : Hp} {h : Heap} (hok : HOk P w H h) {p : Addr} {ns : List Int} (hp : H p = some (.lst (ns.map V.int))) : ∃ as, ReadsW R cl h (.ref p) (.list (ns.map WData.int)) as := by
  obtain ⟨_, its, n, hv, e⟩ := (show ObjOk P w H h p (.lst (ns.map V.int)) from hok p _ hp)
  obtain ⟨as, q⟩ := reads_ints hv
  exact ⟨_, ReadsW.list e rfl rfl q⟩
theorem ints_well {P : Params} {h : Heap} : ∀ {ns : List Int} {us : List Value}, WellAll P h us (ns.map WData.int) → IntsAre us ns
  | [], _, x => by
    cases x
    exact .nil
  | n :: ns, _, x => by
    cases x with
    | cons a b =>
      cases a
      exact .cons n _ (ints_well b)
theorem arg_well {P : Params} {h : Heap} {us : List Value} {ns : List Int} (x : WellAll P h us [.list (ns.map WData.int)]) : ∃ (a : Addr) (vs : List Value), us = [.ref a] ∧ h.get? a = some { cls := .type "list", data := .seq vs.toArray } ∧ IntsAre vs ns := by
  cases x with
  | cons y z =>
    cases z
    cases y with
    | list ho hall => exact ⟨_, _, rfl, ho, ints_well hall⟩
theorem call46 {P : Program} {w : World} {K : PySem.W.Frag} {mg mb : Str → Option Value} {k : Nat} {fa a : Addr} {fd : FuncData} {x : Str} {sp : Sp} {s₁ : Shared} {vs : List Value} {ns out : List Int} {R : PySem.W.WRecords} {cl : Str → Option Addr}
    (KX : K.In s₁.heap) (hns : s₁.heap.Ns mainGlobals mg) (hb : s₁.heap.Ns builtinsNs mb) (hbb : ∀ x : Str, x ≠ "__name__" → mb x = bootBuiltins x) (hlim : s₁.heap.NoLimit) (hg : s₁.gens = #[])
    (ha : s₁.heap.get? a = some { cls := .type "list", data := .seq vs.toArray }) (hi : IntsAre vs ns) (hl : ns.length ≤ sizeLine) (hr : Room k callerA)
    (F : ∀ base : Heap, K.In base → base.Ns mainGlobals mg → FnOk P w K mg base CX0 k fa fd [x] sp) (hbind : ∀ (s : Shared) (u : Value), BindsTo s fd ⟨[u], []⟩ [(x, u)])
    (hsp : ∀ H : Hp, SqL K H a (ns.map V.int) → sp [.ref a] H (fun v H' => ∃ p, v = .ref p ∧ H' p = some (.lst (out.map V.int))) fun _ _ _ => False) :
    codeAny (model P w) callerA (.call (.ref fa) ⟨[.ref a], []⟩) (fun r s' => ∃ u as, r = .ok (.ret u) ∧ ReadsW R cl s'.heap u (.list (out.map WData.int)) as ∧ OldK s₁.heap s'.heap ∧ s'.os = s₁.os ∧ AllBare s'.gens) s₁ := by
  have rv := vals_ints hi
  have lenV := hi.length
  have core : ∀ H : Hp, Only H → SqL K H a (ns.map V.int) → HOk P w H s₁.heap → (∀ b, H b ≠ none → b = a) → (H a ≠ none → K.lookup a = none) →
      codeAny (model P w) callerA (.call (.ref fa) ⟨[.ref a], []⟩) (fun r s' => ∃ u as, r = .ok (.ret u) ∧ ReadsW R cl s'.heap u (.list (out.map WData.int)) as ∧ OldK s₁.heap s'.heap ∧ s'.os = s₁.os ∧ AllBare s'.gens) s₁ := by
    intro H hO hS hok hA hK
    have base_of : ∀ {b : Addr} {o : Obj}, s₁.heap.get? b = some o → H b = none → (hidT s₁.heap H).get? b = some o := fun e n => hidT_get e n
    have noA : ∀ {b : Addr} {o : Obj} {es : Array DictEntry} {ep : Nat}, s₁.heap.get? b = some o → o.data = .dict es ep → H b = none := fun {b o es ep} e d => by
      cases q : H b with
      | none => rfl
      | some u =>
        have e' : b = a := hA b (by rw [q]; simp)
        subst e'
        rw [ha] at e; cases e
        have d' : Data.seq vs.toArray _ = Data.dict es ep := d
        cases d'
    have nsK : ∀ {b : Addr} {m : Str → Option Value}, s₁.heap.Ns b m → (hidT s₁.heap H).Ns b m := fun {b m} z => by
      obtain ⟨o, es, ep, e, d, r⟩ := z
      exact ⟨o, es, ep, base_of e (noA e d), d, r⟩
    have hKb : K.In (hidT s₁.heap H) := fun b o e => base_of (KX b o e) (by
      cases q : H b with
      | none => rfl
      | some u =>
        have e' : b = a := hA b (by rw [q]; simp)
        subst e'
        rw [hK (by rw [q]; simp)] at e; cases e)
    have hM : Mod K mg (hidT s₁.heap H) := ⟨hKb, nsK hns, ⟨mb, nsK hb, hbb⟩, by obtain ⟨mc, h1, h2⟩ := hlim; exact ⟨mc, nsK h1, h2⟩⟩
    have e0 : Env0 P w K mg (hidT s₁.heap H) callerA [] s₁ H := ⟨rfl, hM, fun b o e => of_hidT e, Nat.le_of_eq (hidT_size _ _), trivial, fun b hb => absurd (show b ∈ ([] : List Addr) from hb) (by simp), hok, .of_eq hg⟩
    refine codeAny_mono ((F _ hKb (nsK hns)).run callerA [] s₁ H ⟨[.ref a], []⟩ [.ref a] [.ref a] _ _ hr e0 (hbind s₁ (.ref a)) (.cons rfl .nil) (hsp H hS)) fun r s' h => ?_
    cases r with
    | error e => exact False.elim h
    | ok fl =>
      cases fl with
      | next => exact False.elim h
      | brk => exact False.elim h
      | cont => exact False.elim h
      | ret u =>
        obtain ⟨v, H', os, bare, un, hok', r', q⟩ := h
        obtain ⟨p, rfl, hp⟩ := (show ∃ p, v = .ref p ∧ H' p = some (.lst (out.map V.int)) from q)
        obtain rfl : u = Value.ref p := r'
        obtain ⟨as, hrd⟩ := reads_list (R := R) (cl := cl) hok' hp
        refine ⟨_, as, rfl, hrd, OldK.of_keep fun b o e => ?_, os, bare⟩
        cases q : H b with
        | none => exact un.keep b o e q (by intro z; exact absurd (show b ∈ ([] : List Addr) from z) (by simp)) (by simp)
        | some u =>
          rcases hO b with z | ⟨ob, xs, z⟩
          · rw [q] at z; cases z
          · have z2 := un.frzs b ob _ z
            obtain ⟨e1, _⟩ := hok b _ z
            obtain ⟨e2, _⟩ := hok' b _ z2
            rw [e] at e1; cases e1
            exact e2
  cases hk : K.lookup a with
  | some o =>
    have e := KX a o hk
    rw [ha] at e
    cases e
    refine core (fun _ => none) (fun _ => .inl rfl) (.inr ⟨_, vs.toArray, _, hk, rfl, rfl, rfl, by rw [List.size_toArray, lenV]; exact hl, by simpa using rv⟩) (fun b u z => by have z' : (none : Option HO) = some u := z; cases z') (fun b z => absurd rfl z) fun z => absurd rfl z
  | none =>
    refine core (fun b => if b = a then some (.frz { cls := .type "list", data := .seq vs.toArray } (.lst (ns.map V.int))) else none) (fun b => ?_) (.inl (.inr ⟨{ cls := .type "list", data := .seq vs.toArray }, if_pos rfl⟩)) (fun b u z => ?_) (fun b z => ?_) fun _ => hk
    · by_cases hb : b = a
      · exact .inr ⟨_, _, if_pos hb⟩
      · exact .inl (if_neg hb)
    · by_cases hb : b = a
      · have z' := (if_pos hb).symm.trans z
        cases z'
        subst hb
        exact ⟨ha, by rw [List.length_map]; exact hl, vs, _, rv, ha⟩
      · have z' := (if_neg hb).symm.trans z
        cases z'
    · by_cases hb : b = a
      · exact hb
      · exact absurd (if_neg hb) z
theorem walk46 {q : Program} {loose : List Str} {XP : (Str → Option Value) → Heap → Prop} {YP : World → Heap → Prop} {d : DefRec} {K : Params → PySem.W.Frag}
    (hwell : PySem.Challenge.rw_pathrouter_s01_answers.wellSaid = true) (hY : ∀ (w : World) (h : Heap), YP w h → (K w.params).In h)
    (F : ∀ (w : World) (mg : Str → Option Value) (fa : Addr) (h : Heap), YP w h → (K w.params).In h → h.Ns mainGlobals mg → mg d.name = some (.ref fa) →
      ∃ fd : FuncData, (∀ (s : Shared) (us : List Value), us.length = (["calls"] : List Str).length → BindsTo s fd ⟨us, []⟩ ((["calls"] : List Str).zip us)) ∧
        ∀ base : Heap, (K w.params).In base → base.Ns mainGlobals mg → FnOk PySem.Challenge.rw_pathrouter_s01_answers.prog w (K w.params) mg base CX0 10 fa fd ["calls"] (spAnswers (K w.params))) :
    PySem.W.WalkOS q loose XP YP PySem.Challenge.rw_pathrouter_s01_answers d [] (fun f vs => PySem.call f vs) := by
  intro w s_0 s₁ mg mb G Y fa o pm cd doc dV kV ho hd hcd hD hmg hg args vals as hpre hlay hrd hwl hlo
  obtain ⟨a, e1, e2⟩ := PySem.W.os_pre_some hpre
  obtain ⟨e3, hwi⟩ := Codec.encAll_of_decAll PySem.Challenge.rw_pathrouter_s01_answers.args args a e1
  subst e3
  have KX := hY w _ Y
  obtain ⟨fd, hb, hF⟩ := F w mg fa _ Y KX G.T.g hmg
  obtain ⟨aa, vs, rfl, hobj, hints⟩ := arg_well (ns := a.1) (show WellAll w.params s₁.heap vals [.list (a.1.map WData.int)] from hwl)
  have hlen : a.1.length ≤ 30000 := by
    have z : ((Codec.inLen 0 30000 a.1 && a.1.all (Codec.inInt (-2147483648) 4294967295)) && true) = true := hwi
    rw [Bool.and_eq_true, Bool.and_eq_true] at z
    exact (Codec.inNat_iff.mp z.1.1).2
  refine PySem.W.enter_call (codeAny_mono (call46 (R := []) (cl := classAt s_0.heap) (ns := a.1) (out := PySf46.answers a.1) KX G.T.g G.T.b G.T.builtins G.T.nolimit hg hobj hints (Nat.le_trans hlen (by rw [sizeLine_eq]; decide)) ⟨rfl, by decide, by decide⟩ hF (fun s u => hb s [u] rfl)
    (fun H hS => ⟨aa, a.1, rfl, hS, e2, fun H' p hp => ⟨p, rfl, hp⟩⟩)) fun r' s' hq => ?_)
  obtain ⟨u, as', rfl, h1, h2, h3, h4⟩ := hq
  exact ⟨.inl ⟨u, _, as', rfl, fun _ => rfl, h1, (OpenSpec.post_iff hwell hwi _ _).mpr rfl, fun z => Bool.noConfusion (show false = true from z)⟩, h2, h3, h4⟩
end R46
end
set_option linter.all false
set_option Elab.async false
set_option maxRecDepth 100000
noncomputable def PySem.W.Fast.tw12258778202527564734 : PySem.Program := PySem.Challenge.pw_pathrouter_s01_answers
theorem PySem.W.Fast.te12258778202527564734 : PySem.Challenge.pw_pathrouter_s01_answers = PySem.W.Fast.tw12258778202527564734 := rfl
noncomputable def PySem.W.Fast.tw18359028929153906917 : PySem.Params → PySem.W.Frag := R46.kF
theorem PySem.W.Fast.te18359028929153906917 : R46.kF = PySem.W.Fast.tw18359028929153906917 := rfl
namespace R46
open PySem PySem.Spec PyProof.Rows L2
theorem head_mk {P : Program} {w : World} {K : PySem.W.Frag} {h : Heap} {mg : Str → Option Value} {fa nb rt en ro aW : Addr} {oW : Obj} (X : K.In h) (G : h.Ns mainGlobals mg) (hfa : mg "answers" = some (.ref fa))
    (aNb : PySem.W.nsIn K mainGlobals "Neighbour" = some (some (.ref nb))) (aRt : PySem.W.nsIn K mainGlobals "Route" = some (some (.ref rt))) (aEn : PySem.W.nsIn K mainGlobals "Entry" = some (some (.ref en))) (aRo : PySem.W.nsIn K mainGlobals "Router" = some (some (.ref ro)))
    (aWd : PySem.W.nsIn K mainGlobals "WIDTHS" = some (some (.ref aW))) (lW : K.lookup aW = some oW) (tW : tblO oW widths = true)
    (c1 : Cls K nb) (c2 : Cls K rt) (c3 : Cls K en) (c4 : Cls K ro)
    (n1 : NoAttr K nb "number") (n2 : NoAttr K nb "as_number") (n3 : NoAttr K nb "ident")
    (r1 : NoAttr K rt "teller") (r2 : NoAttr K rt "path") (r3 : NoAttr K rt "pref") (r4 : NoAttr K rt "origin") (r5 : NoAttr K rt "med")
    (e1 : NoAttr K en "routes") (e2 : NoAttr K en "told")
    (o1 : NoAttr K ro "self_number") (o2 : NoAttr K ro "neighbours") (o3 : NoAttr K ro "networks") (o4 : NoAttr K ro "waiting")
    (d1 : ro ≠ nb) (d2 : ro ≠ rt)
    (b1 : PySem.W.nsIn K mainGlobals "len" = some none) (b2 : PySem.W.nsIn K mainGlobals "sorted" = some none) (b3 : PySem.W.nsIn K mainGlobals "enumerate" = some none) (b4 : PySem.W.nsIn K mainGlobals "list" = some none) (b5 : PySem.W.nsIn K mainGlobals "tuple" = some none) (b6 : PySem.W.nsIn K mainGlobals "range" = some none)
    (k1 : ∃ t, mg "LONGEST_PASSED_ON" = some (.int 15 t)) (k2 : ∃ t, mg "NEIGHBOURS" = some (.int 8 t)) (k3 : ∃ t, mg "ADDRESS_BITS" = some (.int 32 t)) (k4 : ∃ t, mg "LONGEST_PATH" = some (.int 16 t)) (k5 : ∃ t, mg "GREATEST_ORIGIN" = some (.int 2 t)) (k6 : ∃ t, mg "TOO_MANY_NETWORKS" = some (.int 4096 t))
    (k7 : ∃ t, mg "DONE" = some (.int 0 t)) (k8 : ∃ t, mg "REFUSED" = some (.int (-1) t)) (k9 : ∃ t, mg "FULL" = some (.int (-2) t)) (k10 : ∃ t, mg "NOBODY" = some (.int 8 t))
    (k11 : ∃ t, mg "BEGIN" = some (.int 1 t)) (k12 : ∃ t, mg "UP" = some (.int 2 t)) (k13 : ∃ t, mg "DOWN" = some (.int 3 t)) (k14 : ∃ t, mg "TELL" = some (.int 4 t)) (k15 : ∃ t, mg "BACK" = some (.int 5 t)) (k16 : ∃ t, mg "NEXT" = some (.int 6 t)) (k17 : ∃ t, mg "BEST" = some (.int 7 t)) (k18 : ∃ t, mg "SEND" = some (.int 8 t))
    (D : Defs K mg ⟨nb, rt, en, ro⟩) :
    ∃ fd : FuncData, (∀ (s : Shared) (us : List Value), us.length = (["calls"] : List Str).length → BindsTo s fd ⟨us, []⟩ ((["calls"] : List Str).zip us)) ∧ ∀ base : Heap, K.In base → base.Ns mainGlobals mg → FnOk P w K mg base CX0 10 fa fd ["calls"] (spAnswers K) := by
  have T : Txt K mg ⟨nb, rt, en, ro⟩ := ⟨c1, c2, ⟨n1, n2, n3⟩, ⟨r1, r2, r3, r4, r5⟩, c3, c4, ⟨e1, e2⟩, ⟨o1, o2, o3, o4⟩, ⟨d1, d2⟩, PySem.W.mg_of X G aNb, PySem.W.mg_of X G aRt, PySem.W.mg_of X G aEn, PySem.W.mg_of X G aRo,
    PySem.W.mg_none_of X G b1, PySem.W.mg_none_of X G b2, PySem.W.mg_none_of X G b3, PySem.W.mg_none_of X G b4, PySem.W.mg_none_of X G b5, k1, k2, k3, k4, k5, k6, k7, k8, k9, k10, PySem.W.mg_none_of X G b6, k11, k12, k13, k14, k15, k16, k17, k18⟩
  exact all_mk T D hfa (PySem.W.mg_of X G aWd) lW tW
end R46
open PySem PySem.W PyProof.Rows
set_option maxRecDepth 100000 in
set_option maxHeartbeats 0 in
theorem PySem.Challenge.cw_pathrouter_s01_answers_holds : PySem.Challenge.rw_pathrouter_s01_answers.Holds := by
  w_on; o_headS (PySem.W.kHook R46.kF R46.kA (fun _ => rfl)); (case hw => exact ⟨[.list [.int 1, .int 0]], by decide +kernel, by decide +kernel⟩)
  k_fillS
  refine R46.walk46 (by decide +kernel) (fun w h Y => PySem.W.kIn_of Y) ?F
  case F =>
    intro w mg fa h Y KX G hmg
    refine' R46.head_mk KX G hmg ?aNb ?aRt ?aEn ?aRo ?aWd ?lW ?tW ?c1 ?c2 ?c3 ?c4 ?n1 ?n2 ?n3 ?r1 ?r2 ?r3 ?r4 ?r5 ?e1 ?e2 ?o1 ?o2 ?o3 ?o4 ?d1 ?d2 ?b1 ?b2 ?b3 ?b4 ?b5 ?b6 ?k1 ?k2 ?k3 ?k4 ?k5 ?k6 ?k7 ?k8 ?k9 ?k10 ?k11 ?k12 ?k13 ?k14 ?k15 ?k16 ?k17 ?k18 ?D
    (case aNb => k_is); (case aRt => k_is); (case aEn => k_is); (case aRo => k_is); (case aWd => k_is); (case lW => k_is); (case tW => rfl)
    (case c1 => refine' R46.cls_mk ?zp1 ?zp2 ?zp3 ?zp4; (case zp1 => k_is); (case zp2 => k_is); (case zp3 => k_is); (case zp4 => k_is))
    (case c2 => refine' R46.cls_mk ?zp1 ?zp2 ?zp3 ?zp4; (case zp1 => k_is); (case zp2 => k_is); (case zp3 => k_is); (case zp4 => k_is))
    (case c3 => refine' R46.cls_mk ?zp1 ?zp2 ?zp3 ?zp4; (case zp1 => k_is); (case zp2 => k_is); (case zp3 => k_is); (case zp4 => k_is))
    (case c4 => refine' R46.cls_mk ?zp1 ?zp2 ?zp3 ?zp4; (case zp1 => k_is); (case zp2 => k_is); (case zp3 => k_is); (case zp4 => k_is))
    (case n1 => unfold L2.NoAttr; k_is); (case n2 => unfold L2.NoAttr; k_is); (case n3 => unfold L2.NoAttr; k_is)
    (case r1 => unfold L2.NoAttr; k_is); (case r2 => unfold L2.NoAttr; k_is); (case r3 => unfold L2.NoAttr; k_is); (case r4 => unfold L2.NoAttr; k_is); (case r5 => unfold L2.NoAttr; k_is)
    (case e1 => unfold L2.NoAttr; k_is); (case e2 => unfold L2.NoAttr; k_is)
    (case o1 => unfold L2.NoAttr; k_is); (case o2 => unfold L2.NoAttr; k_is); (case o3 => unfold L2.NoAttr; k_is); (case o4 => unfold L2.NoAttr; k_is)
    (case d1 => decide); (case d2 => decide)
    (case b1 => k_is); (case b2 => k_is); (case b3 => k_is); (case b4 => k_is); (case b5 => k_is); (case b6 => k_is)
    (case k1 => refine' R46.con_mk KX G ?zp; (case zp => k_is)); (case k2 => refine' R46.con_mk KX G ?zp; (case zp => k_is)); (case k3 => refine' R46.con_mk KX G ?zp; (case zp => k_is))
    (case k4 => refine' R46.con_mk KX G ?zp; (case zp => k_is)); (case k5 => refine' R46.con_mk KX G ?zp; (case zp => k_is)); (case k6 => refine' R46.con_mk KX G ?zp; (case zp => k_is))
    (case k7 => refine' R46.con_mk KX G ?zp; (case zp => k_is)); (case k8 => refine' R46.con_mk KX G ?zp; (case zp => k_is)); (case k9 => refine' R46.con_mk KX G ?zp; (case zp => k_is))
    (case k10 => refine' R46.con_mk KX G ?zp; (case zp => k_is)); (case k11 => refine' R46.con_mk KX G ?zp; (case zp => k_is)); (case k12 => refine' R46.con_mk KX G ?zp; (case zp => k_is))
    (case k13 => refine' R46.con_mk KX G ?zp; (case zp => k_is)); (case k14 => refine' R46.con_mk KX G ?zp; (case zp => k_is)); (case k15 => refine' R46.con_mk KX G ?zp; (case zp => k_is))
    (case k16 => refine' R46.con_mk KX G ?zp; (case zp => k_is)); (case k17 => refine' R46.con_mk KX G ?zp; (case zp => k_is)); (case k18 => refine' R46.con_mk KX G ?zp; (case zp => k_is))
    case D =>
      constructor
      all_goals first
        | (refine' R46.top_mk KX G ?za ?zl ?zc ?zk; (case za => k_is); (case zl => k_is); (case zc => k_is); (case zk => k_is))
        | (refine' R46.meth_mk ?za ?zi ?zl ?zc ?zk; (case za => k_is); (case zi => k_is); (case zl => k_is); (case zc => k_is); (case zk => k_is))
        | (refine' R46.init_mk ?zm ?zkc ?za ?zi ?zl ?zc ?zk; (case zm => k_is); (case zkc => k_is); (case za => k_is); (case zi => k_is); (case zl => k_is); (case zc => k_is); (case zk => k_is))
