import PyProof.Rows.All
import Wide.All
import OpenK.AllK
import Wide.FinOn
import PyProof.EqAt
import PyProof.EqKinds
import PyProof.TupleCall
import KE.BitLaws
import Open.SpecLaws
import KE.OsHead
import KE.OsGo
import KE.IntBitsLaws
import PyProof.Rows.SumAny
import PySem.Challenge.RW_hullafloat_s01_answers
set_option Elab.async false
set_option linter.all false
set_option maxRecDepth 100000
namespace L2
open PySem PySem.Spec PyProof.Rows
abbrev Key := Sum Int Str
def keyIs : Key → Value → Bool
  | .inl k, v => Value.isInt k v
  | .inr x, v => Value.isStrOf x v
def keyH (w : World) : Key → Int
  | .inl k => hashInt k
  | .inr x => hashStr w x
theorem keyIs_shape : ∀ {k : Key} {v : Value}, keyIs k v = true → (∃ i t, k = Sum.inl i ∧ v = Value.int i t) ∨ (∃ x t, k = Sum.inr x ∧ v = Value.str x t)
  | .inl i, v, h => by
    obtain ⟨t, e⟩ := Value.isInt_shape (k := i) (v := v) h
    exact .inl ⟨i, t, rfl, e⟩
  | .inr x, v, h => by
    obtain ⟨t, e⟩ := Value.isStrOf_shape (x := x) (v := v) h
    exact .inr ⟨x, t, rfl, e⟩
theorem keyIs_int (i : Int) (t : Tok) : keyIs (.inl i) (.int i t) = true := by simp [keyIs, Value.isInt]
theorem keyIs_str (x : Str) (t : Tok) : keyIs (.inr x) (.str x t) = true := by simp [keyIs, Value.isStrOf]
theorem key_ll (a b : Int) : decide ((Sum.inl a : Key) = Sum.inl b) = (a == b) := by
  by_cases e : a = b
  · subst e; simp
  · have h : ¬ (Sum.inl a : Key) = Sum.inl b := fun q => e (Sum.inl.inj q)
    rw [decide_eq_false h]
    exact (beq_eq_false_iff_ne.mpr e).symm
theorem key_rr (a b : Str) : decide ((Sum.inr a : Key) = Sum.inr b) = decide (a = b) := by
  by_cases e : a = b
  · subst e; simp
  · have h : ¬ (Sum.inr a : Key) = Sum.inr b := fun q => e (Sum.inr.inj q)
    rw [decide_eq_false h, decide_eq_false e]
theorem key_lr (a : Int) (b : Str) : decide ((Sum.inl a : Key) = Sum.inr b) = false := decide_eq_false (fun q => nomatch q)
theorem key_rl (a : Str) (b : Int) : decide ((Sum.inr a : Key) = Sum.inl b) = false := decide_eq_false (fun q => nomatch q)
def mixKind (prog : Program) (w : World) : PySem.KeyKind prog w Key where
  is := keyIs
  hash := keyH w
  inj := fun v a b ha hb => by
    rcases keyIs_shape ha with ⟨i, t, rfl, rfl⟩ | ⟨x, t, rfl, rfl⟩
    · rcases keyIs_shape hb with ⟨j, u, rfl, e⟩ | ⟨y, u, rfl, e⟩
      · injection e with e1 _; rw [e1]
      · exact nomatch e
    · rcases keyIs_shape hb with ⟨j, u, rfl, e⟩ | ⟨y, u, rfl, e⟩
      · exact nomatch e
      · injection e with e1 _; rw [e1]
  byValue := fun k v h => by
    rcases keyIs_shape h with ⟨i, t, rfl, rfl⟩ | ⟨x, t, rfl, rfl⟩ <;> rfl
  pyHash := fun hv h => by
    rcases keyIs_shape hv with ⟨i, t, rfl, rfl⟩ | ⟨x, t, rfl, rfl⟩
    · exact wpAny_pyHash_int h
    · exact wpAny_pyHash_str h
  eqBool := fun hu hv h => by
    rcases keyIs_shape hu with ⟨i, t, rfl, rfl⟩ | ⟨x, t, rfl, rfl⟩
    · rcases keyIs_shape hv with ⟨j, u, rfl, rfl⟩ | ⟨y, u, rfl, rfl⟩
      · rw [key_ll] at h; exact wpAny_eqBool_int h
      · rw [key_lr] at h; exact SeqAt.EqAt.int_str i t y u _ _ _ _ h
    · rcases keyIs_shape hv with ⟨j, u, rfl, rfl⟩ | ⟨y, u, rfl, rfl⟩
      · rw [key_rl] at h; exact SeqAt.EqAt.str_int x t j u _ _ _ _ h
      · rw [key_rr] at h; exact wpAny_eqBool_str h
  «strs» := fun k x t v h => by
    rcases keyIs_shape h with ⟨i, u, rfl, e⟩ | ⟨y, u, rfl, e⟩
    · exact nomatch e
    · injection e with e1 _
      subst e1
      cases v <;> rfl
theorem mixKind_int (prog : Program) (w : World) (i : Int) (t : Tok) : (mixKind prog w).is (.inl i) (.int i t) = true := keyIs_int i t
theorem mixKind_str (prog : Program) (w : World) (x : Str) (t : Tok) : (mixKind prog w).is (.inr x) (.str x t) = true := keyIs_str x t
end L2
namespace L2
open PySem PySem.Spec PyProof.Rows
inductive V where
  | non | bl (b : Bool) | int (i : Int) | str (x : Str) | byt (b : Array UInt8) | flt (b : UInt64) | ref (a : Addr) | ty (n : String)
  deriving DecidableEq
def RelV : V → Value → Prop
  | .non, u => u = Value.none
  | .bl b, u => u = Value.bool b
  | .int i, u => ∃ t, u = Value.int i t
  | .str x, u => ∃ t, u = Value.str x t
  | .byt b, u => ∃ t, u = Value.bytes b t
  | .flt b, u => ∃ t, u = Value.float b t
  | .ref a, u => u = Value.ref a
  | .ty n, u => u = Value.type n
abbrev Vals : List V → List Value → Prop := Paired RelV
theorem Vals.length {xs : List V} {us : List Value} (r : Vals xs us) : xs.length = us.length := Paired.length r
theorem Vals.get : ∀ {xs : List V} {us : List Value} {i : Nat} {x : V}, Vals xs us → xs[i]? = some x → ∃ u, us[i]? = some u ∧ RelV x u
  | _, _, _, _, .nil, e => by simp at e
  | _, _, 0, _, .cons r _, e => by simp at e; subst e; exact ⟨_, rfl, r⟩
  | _, _, i + 1, x, .cons _ t, e => by
    obtain ⟨u, h1, h2⟩ := Vals.get (i := i) (x := x) t (by simpa using e)
    exact ⟨u, by simpa using h1, h2⟩
theorem Vals.set {x : V} {u : Value} (r : RelV x u) : ∀ {xs : List V} {us : List Value} (i : Nat), Vals xs us → Vals (xs.set i x) (us.set i u)
  | _, _, _, .nil => .nil
  | _, _, 0, .cons _ t => .cons r t
  | _, _, i + 1, .cons q t => .cons q (Vals.set r i t)
theorem Vals.append : ∀ {xs ys : List V} {us ws : List Value}, Vals xs us → Vals ys ws → Vals (xs ++ ys) (us ++ ws)
  | _, _, _, _, .nil, s => s
  | _, _, _, _, .cons r t, s => .cons r (Vals.append t s)
theorem Vals.take : ∀ {xs : List V} {us : List Value} (n : Nat), Vals xs us → Vals (xs.take n) (us.take n)
  | _, _, 0, _ => .nil
  | _, _, _ + 1, .nil => .nil
  | _, _, n + 1, .cons r t => .cons r (Vals.take n t)
theorem Vals.drop : ∀ {xs : List V} {us : List Value} (n : Nat), Vals xs us → Vals (xs.drop n) (us.drop n)
  | _, _, 0, r => r
  | _, _, _ + 1, .nil => .nil
  | _, _, n + 1, .cons _ t => Vals.drop n t
def RelO : Option V → Option Value → Prop
  | some v, some u => RelV v u
  | none, none => True
  | _, _ => False
def KV {κ : Type} : List (κ × V) → List (κ × Value) → Prop := Paired fun (p : κ × V) (q : κ × Value) => p.1 = q.1 ∧ RelV p.2 q.2
def kV : Key → V
  | .inl i => .int i
  | .inr x => .str x
inductive HO where
  | lst (xs : List V)
  | tup (xs : List V)
  | dK (kvs : List (Key × V)) | dT (kvs : List (List Key × V))
  | set (S : Int → Bool) (n : Nat)
  | ins (C dx : Addr) (fs : List (Str × V))
  | own (x : Addr)
  | xd (fs : List (Str × V))
  | met (f x : Addr)
  | rng (lo hi : Int)
  | frz (o : Obj) (u : HO)
  | tbl (ps : Array Value)
  | ext (φ : Heap → Prop)
abbrev Hp := Addr → Option HO
def upd (H : Hp) (a : Addr) (o : HO) : Hp := fun b => if b = a then some o else H b
theorem upd_same {H : Hp} {a : Addr} {o : HO} : upd H a o a = some o := by unfold upd; rw [if_pos rfl]
theorem upd_ne {H : Hp} {a b : Addr} {o : HO} (h : b ≠ a) : upd H a o b = H b := by unfold upd; rw [if_neg h]
theorem ne_of_none {H : Hp} {a b : Addr} {o : HO} (h : H a = some o) (h' : H b = none) : a ≠ b := by
  intro e; subst e; rw [h] at h'; cases h'
section
variable (P : Program) (w : World)
def ObjOk (H : Hp) (h : Heap) (a : Addr) : HO → Prop
  | .lst xs => xs.length ≤ sizeLine ∧ ∃ (its : List Value) (n : Nat), Vals xs its ∧ h.get? a = some { cls := .type "list", data := .seq its.toArray n }
  | .tup xs => xs.length ≤ sizeLine ∧ ∃ its : List Value, Vals xs its ∧ IsTup h a its.toArray
  | .dK kvs => kvs.length ≤ sizeLine ∧ (a == sysModules) = false ∧ ∃ vs, KV kvs vs ∧ h.DictOf (mixKind P w) a vs
  | .dT kvs => kvs.length ≤ sizeLine ∧ (a == sysModules) = false ∧ ∃ xs : List (List Key × Addr × Value),
      Paired (fun (p : List Key × V) (q : List Key × Addr × Value) => p.1 = q.1 ∧ H q.2.1 = some (.tup (p.1.map kV)) ∧ RelV p.2 q.2.2) kvs xs ∧
      ∃ o es ep, h.get? a = some o ∧ o.ExactDict ∧ o.data = .dict es ep ∧ es.toList = xs.map (entryOfKey (tupleKind (mixKind P w))) ∧ (xs.map (·.1)).Nodup
  | .set S n => h.SetOf (intKind P w) a S n
  | .ins C dx fs => H dx = some (.own a) ∧ fs.length ≤ 1000 ∧ dx ≠ a ∧ h.get? a = some (PySem.W.instObj C dx) ∧
      ∃ mA, h.Ns1 dx mA ∧ (∀ f, RelO (fs.lookup f) (mA f)) ∧ PySem.Within mA (fs.map (·.1))
  | .own _ => ∃ o, h.get? a = some o
  | .xd fs => ∃ mA, h.Ns1 a mA ∧ ∀ f, RelO (fs.lookup f) (mA f)
  | .rng lo hi => ∃ t u v, h.get? a = some { cls := .type "range", data := .fields #[.int lo t, .int hi u, .int 1 v] }
  | .frz o u => h.get? a = some o ∧ ObjOk H h a u
  | .tbl ps => h.get? a = some { cls := .none, data := .fields ps }
  | .met f x => h.get? a = some (PySem.W.methodObj (.ref f) (.ref x))
  | .ext φ => φ h ∧ (∃ o, h.get? a = some o) ∧ ∀ h1 h2 : Heap, φ h1 → (∀ o, h1.get? a = some o → h2.get? a = some o) → φ h2
def HOk (H : Hp) (h : Heap) : Prop := ∀ a o, H a = some o → ObjOk P w H h a o
end
section
variable {P : Program} {w : World} {H H' : Hp} {h h' : Heap} {a : Addr} {o : HO}
theorem ObjOk.lt (x : ObjOk P w H h a o) : a < h.objs.size := by
  cases o with
  | lst xs => obtain ⟨_, _, _, _, e⟩ := x; exact Heap.lt_size e
  | tup xs => obtain ⟨_, _, _, p⟩ := x; exact p.lt
  | dK kvs => obtain ⟨_, _, _, _, o, _, _, e, _⟩ := x; exact Heap.lt_size e
  | dT kvs => obtain ⟨_, _, _, _, o, _, _, e, _⟩ := x; exact Heap.lt_size e
  | set S n => obtain ⟨o, _, _, _, e, _⟩ := x; exact Heap.lt_size e
  | ins C dx fs => obtain ⟨_, _, _, e, _⟩ := x; exact Heap.lt_size e
  | own y => obtain ⟨_, e⟩ := x; exact Heap.lt_size e
  | xd fs => obtain ⟨_, ⟨_, _, _, e, _⟩, _⟩ := x; exact Heap.lt_size e
  | rng lo hi => obtain ⟨_, _, _, e⟩ := x; exact Heap.lt_size e
  | frz ob u => obtain ⟨e, _⟩ := x; exact Heap.lt_size e
  | tbl ps => exact Heap.lt_size (show h.get? a = some _ from x)
  | met f y => exact Heap.lt_size (show h.get? a = some _ from x)
  | ext φ => obtain ⟨_, ⟨_, e⟩, _⟩ := x; exact Heap.lt_size e
theorem Paired.mapP {α β : Type} {F G : α → β → Prop} : ∀ {l₁ : List α} {l₂ : List β}, Paired F l₁ l₂ → (∀ a b, F a b → G a b) → Paired G l₁ l₂
  | _, _, .nil, _ => .nil
  | _, _, .cons r t, f => .cons (f _ _ r) (Paired.mapP t f)
theorem ObjOk.stay (x : ObjOk P w H h a o) (k : ∀ b u, (b = a ∨ H b = some (.own a)) → h.get? b = some u → h'.get? b = some u)
    (ho : ∀ b, H b = some (.own a) → H' b = some (.own a)) (ht : ∀ b xs, H b = some (.tup xs) → H' b = some (.tup xs)) : ObjOk P w H' h' a o := by
  induction o with
  | lst xs => obtain ⟨z, its, n, r, e⟩ := x; exact ⟨z, its, n, r, k _ _ (.inl rfl) e⟩
  | tup xs => obtain ⟨z, its, r, ob, e, c⟩ := x; exact ⟨z, its, r, ob, k _ _ (.inl rfl) e, c⟩
  | dK kvs => obtain ⟨z, y, vs, r, ob, es, ep, e, c⟩ := x; exact ⟨z, y, vs, r, ob, es, ep, k _ _ (.inl rfl) e, c⟩
  | dT kvs =>
    obtain ⟨z, y, xs, r, ob, es, ep, e, c⟩ := x
    exact ⟨z, y, xs, Paired.mapP r fun p q z => ⟨z.1, ht _ _ z.2.1, z.2.2⟩, ob, es, ep, k _ _ (.inl rfl) e, c⟩
  | set S n => obtain ⟨ob, es, ep, t, e, c⟩ := x; exact ⟨ob, es, ep, t, k _ _ (.inl rfl) e, c⟩
  | ins C dx fs =>
    obtain ⟨d, z, ne, e, mA, ⟨od, es, ep, e2, c⟩, r⟩ := x
    exact ⟨ho _ d, z, ne, k _ _ (.inl rfl) e, mA, ⟨od, es, ep, k _ _ (.inr d) e2, c⟩, r⟩
  | own y => obtain ⟨ob, e⟩ := x; exact ⟨ob, k _ _ (.inl rfl) e⟩
  | xd fs => obtain ⟨mA, ⟨od, es, ep, e, c⟩, r⟩ := x; exact ⟨mA, ⟨od, es, ep, k _ _ (.inl rfl) e, c⟩, r⟩
  | rng lo hi => obtain ⟨t, u, v, e⟩ := x; exact ⟨t, u, v, k _ _ (.inl rfl) e⟩
  | frz ob u ih => obtain ⟨e, q⟩ := x; exact ⟨k _ _ (.inl rfl) e, ih q⟩
  | tbl ps =>
    have e : h.get? a = some { cls := .none, data := .fields ps } := x
    show h'.get? a = some { cls := .none, data := .fields ps }
    exact k a _ (.inl rfl) e
  | met f y =>
    have e : h.get? a = some (PySem.W.methodObj (.ref f) (.ref y)) := x
    show h'.get? a = some (PySem.W.methodObj (.ref f) (.ref y))
    exact k a _ (.inl rfl) e
  | ext φ => obtain ⟨p, ⟨o, e⟩, st⟩ := x; exact ⟨st _ _ p fun o q => k _ _ (.inl rfl) q, ⟨o, k _ _ (.inl rfl) e⟩, st⟩
theorem HOk.lt (x : HOk P w H h) (e : H a = some o) : a < h.objs.size := (x a o e).lt
theorem HOk.fresh (x : HOk P w H h) (e : h.objs.size ≤ a) : H a = none := by
  cases q : H a with
  | none => rfl
  | some u => exact absurd (Nat.lt_of_lt_of_le (x.lt q) e) (Nat.lt_irrefl _)
theorem HOk.kept (x : HOk P w H h) (k : ∀ b u, h.get? b = some u → h'.get? b = some u) : HOk P w H h' := fun a o e =>
  (x a o e).stay (fun b u _ q => k b u q) (fun _ q => q) fun _ _ q => q
theorem HOk.laid (x : HOk P w H h) (k : ∀ b u, h.get? b = some u → h'.get? b = some u) (hp : h.objs.size ≤ a) (new : ObjOk P w (upd H a o) h' a o) : HOk P w (upd H a o) h' := fun b u e => by
  have hn := x.fresh hp
  by_cases hb : b = a
  · subst hb; rw [upd_same] at e; cases e; exact new
  · rw [upd_ne hb] at e
    exact (x b u e).stay (fun c v _ q => k c v q) (fun c q => by rw [upd_ne (ne_of_none q hn)]; exact q) fun c xs q => by rw [upd_ne (ne_of_none q hn)]; exact q
end
def Rd (H : Hp) (a : Addr) (u : HO) : Prop := H a = some u ∨ ∃ o, H a = some (.frz o u)
theorem Rd.ok {P : Program} {w : World} {H : Hp} {h : Heap} {a : Addr} {u : HO} (r : Rd H a u) (x : HOk P w H h) : ObjOk P w H h a u := by
  rcases r with r | ⟨o, r⟩
  · exact x a u r
  · obtain ⟨_, q⟩ := x a _ r
    exact q
def Mut : Option HO → Prop
  | some (.lst _) => True
  | some (.dK _) => True
  | some (.dT _) => True
  | some (.set _ _) => True
  | some (.ins _ _ _) => True
  | some (.ext _) => True
  | _ => False
section
variable {P : Program} {w : World} {H : Hp} {h h' : Heap} {x e : Addr} {o' : HO}
theorem HOk.write (ok : HOk P w H h) (mu : Mut (H x)) (he : e = x ∨ H e = some (.own x)) (k : ∀ b u, b ≠ e → h.get? b = some u → h'.get? b = some u) (heo : ∃ u, h'.get? e = some u)
    (new : ObjOk P w (upd H x o') h' x o') : HOk P w (upd H x o') h' := fun b u q => by
  have nown : ∀ c y, H c = some (.own y) → c ≠ x := fun c y r z => by subst z; rw [r] at mu; exact mu
  have ntup : ∀ c xs, H c = some (.tup xs) → c ≠ x := fun c xs r z => by subst z; rw [r] at mu; exact mu
  by_cases hb : b = x
  · subst hb; rw [upd_same] at q; cases q; exact new
  · rw [upd_ne hb] at q
    by_cases hbe : b = e
    · have q' : H b = some (.own x) := by
        rcases he with z | z
        · exact absurd (hbe.trans z) hb
        · rw [hbe]; exact z
      rw [q] at q'; cases q'
      obtain ⟨v, hv⟩ := heo
      exact ⟨v, by rw [hbe]; exact hv⟩
    · refine (ok b u q).stay (fun c v hc r => k c v ?_ r) (fun c r => by rw [upd_ne (nown c b r)]; exact r) fun c xs r => by rw [upd_ne (ntup c xs r)]; exact r
      rcases hc with rfl | hc
      · exact hbe
      · rintro rfl
        rcases he with z | z
        · exact nown c b hc z
        · rw [hc] at z; cases z; exact hb rfl
end
structure Un (fs ex : List Addr) (H H' : Hp) (h h' : Heap) : Prop where
  keep : ∀ b o, h.get? b = some o → H b = none → b ∉ fs → b ∉ ex → h'.get? b = some o
  slot : ∀ b o, h.get? b = some o → H b = none → b ∈ fs → b ∉ ex → ∃ sl, h'.get? b = some { o with slots := sl }
  free : ∀ b o, h.get? b = some o → H b = none → b ∉ ex → H' b = none
  there : ∀ b o, h.get? b = some o → b ∉ ex → ∃ o', h'.get? b = some o'
  tups : ∀ b xs, H b = some (.tup xs) → H' b = some (.tup xs)
  frzs : ∀ b o u, H b = some (.frz o u) → H' b = some (.frz o u)
  tbls : ∀ b ps, H b = some (.tbl ps) → ∃ more, H' b = some (.tbl (ps ++ more))
section
variable {fs fs' ex ex' : List Addr} {H H1 H2 : Hp} {h h1 h2 h' : Heap} {a x e : Addr} {o : HO}
theorem Un.any (u : Un fs ex H H1 h h1) {b : Addr} {ob : Obj} (q : h.get? b = some ob) (n : H b = none) (hx : b ∉ ex) : ∃ sl, h1.get? b = some { ob with slots := sl } := by
  by_cases hb : b ∈ fs
  · exact u.slot b ob q n hb hx
  · exact ⟨ob.slots, u.keep b ob q n hb hx⟩
theorem Un.kept (k : ∀ b u, h.get? b = some u → h'.get? b = some u) : Un fs ex H H h h' :=
  ⟨fun b ob q _ _ _ => k b ob q, fun b ob q _ _ _ => ⟨ob.slots, k b ob q⟩, fun _ _ _ n _ => n, fun b ob q _ => ⟨ob, k b ob q⟩, fun _ _ q => q, fun _ _ _ q => q, fun _ ps q => ⟨#[], by rw [q]; simp⟩⟩
theorem Un.refl : Un fs ex H H h h := Un.kept fun _ _ q => q
theorem Un.laid (k : ∀ b u, h.get? b = some u → h'.get? b = some u) (hp : h.objs.size ≤ a) (hn : H a = none) : Un fs ex H (upd H a o) h h' where
  keep := fun b u q _ _ _ => k b u q
  slot := fun b u q _ _ _ => ⟨u.slots, k b u q⟩
  free := fun b u q n _ => by rw [upd_ne (Nat.ne_of_lt (Nat.lt_of_lt_of_le (Heap.lt_size q) hp))]; exact n
  there := fun b u q _ => ⟨u, k b u q⟩
  tups := fun b xs q => by rw [upd_ne (ne_of_none q hn)]; exact q
  frzs := fun b u xs q => by rw [upd_ne (ne_of_none q hn)]; exact q
  tbls := fun b ps q => ⟨#[], by rw [upd_ne (ne_of_none q hn), q]; simp⟩
theorem Un.write (mu : Mut (H x)) (he : e = x ∨ H e = some (.own x)) (k : ∀ b u, b ≠ e → h.get? b = some u → h'.get? b = some u) (heo : ∃ u, h'.get? e = some u) : Un fs ex H (upd H x o) h h' := by
  have hx : ∀ b, H b = none → b ≠ x := fun b n z => by subst z; rw [n] at mu; exact mu
  have hb : ∀ b, H b = none → b ≠ e := fun b n z => by
    subst z
    rcases he with r | r
    · exact hx b n r
    · rw [n] at r; cases r
  have hm : ∀ b u, H b = some u → ¬ Mut (some u) → b ≠ x := fun b u q nm z => by subst z; rw [q] at mu; exact nm mu
  refine ⟨fun b u q n _ _ => k b u (hb b n) q, fun b u q n _ _ => ⟨u.slots, k b u (hb b n) q⟩, fun b u q n _ => by rw [upd_ne (hx b n)]; exact n, fun b u q _ => ?_,
    fun b xs q => by rw [upd_ne (hm b _ q fun z => z)]; exact q, fun b u xs q => by rw [upd_ne (hm b _ q fun z => z)]; exact q, fun b ps q => ⟨#[], by rw [upd_ne (hm b _ q fun z => z), q]; simp⟩⟩
  by_cases hbe : b = e
  · subst hbe; exact heo
  · exact ⟨u, k b u hbe q⟩
end
def trk (h : Heap) (H : Hp) : List Addr := (List.range h.objs.size).filter fun a => (H a).isSome
def hidT (h : Heap) (H : Hp) : Heap := PySem.W.hideAll h (trk h H)
theorem hidT_size (h : Heap) (H : Hp) : (hidT h H).objs.size = h.objs.size := PySem.W.hideAll_size _ _
theorem hidT_get {h : Heap} {H : Hp} {b : Addr} {o : Obj} (e : h.get? b = some o) (n : H b = none) : (hidT h H).get? b = some o :=
  PySem.W.hideAll_get _ e fun hm => by
    have q : (H b).isSome = true := (List.mem_filter.mp hm).2
    rw [n] at q; simp at q
theorem of_hidT {h : Heap} {H : Hp} {b : Addr} {o : Obj} (e : (hidT h H).get? b = some o) : h.get? b = some o ∧ H b = none := by
  have e' : h.get? b = some o := PySem.W.of_hideAll (trk h H) e
  refine ⟨e', ?_⟩
  cases q : H b with
  | none => rfl
  | some x =>
    have hm : b ∈ trk h H := List.mem_filter.mpr ⟨List.mem_range.mpr (Heap.lt_size e'), by simp [q]⟩
    have z : (hidT h H).get? b = none := PySem.W.hideAll_none (trk h H) hm
    rw [z] at e; cases e
end L2
namespace L2
open PySem PySem.Spec PyProof.Rows
structure Mod (K : PySem.W.Frag) (mg : Str → Option Value) (base : Heap) : Prop where
  kin : K.In base
  glob : base.Ns mainGlobals mg
  blt : ∃ mb, base.Ns builtinsNs mb ∧ ∀ x : Str, x ≠ "__name__" → mb x = bootBuiltins x
  nolimit : base.NoLimit
structure Cx where
  prog : Program
  w : World
  K : PySem.W.Frag
  mg : Str → Option Value
  base : Heap
  A : Around
  N : List Str
  s_0 : Shared
  H_0 : Hp
  env : Env
  outer : List Env
  stack : List Env
  ex : List Addr
  fn : Str → Bool
  calm : Bool
  pn : List (Addr × Obj)
  xe : Value → Shared → Prop
def frs (l : List Env) : List Addr := l.filterMap (·.frame)
abbrev Cx.fs (X : Cx) : List Addr := frs X.outer
def Vis (sc : Scope) (x : Str) : Prop := sc.names.lookup x = some .local ∨ sc.names.lookup x = some .cell ∨ sc.names.lookup x = some .free
def Loc (sc : Scope) (x : Str) : Prop := sc.names.lookup x = some .local ∨ sc.names.lookup x = some .cell
def Look (env : Env) (h : Heap) (m : Str → Option Value) (x : Str) (u : Value) : Prop :=
  (env.kindOf x = some .local ∧ m x = some u) ∨ ((env.kindOf x = some .cell ∨ env.kindOf x = some .free) ∧ ∃ c, env.cells.lookup x = some c ∧ h.IsCell c (some u))
structure Cx.Ok (X : Cx) : Prop where
  mod : Mod X.K X.mg X.base
  kind : X.env.scope.kind = .function
  glob : X.env.globals = mainGlobals
  blt : X.env.builtins = builtinsNs
  above : X.s_0.heap.objs.size ≤ X.env.locals
  inj : ∀ x y c, X.env.cells.lookup x = some c → X.env.cells.lookup y = some c → x = y
  has : ∀ x, (X.env.kindOf x = some .cell ∨ X.env.kindOf x = some .free) → ∃ c, X.env.cells.lookup x = some c
  cab : ∀ x c, X.fn x = true → X.env.cells.lookup x = some c → X.s_0.heap.objs.size ≤ c
  hd : X.calm = true → X.A.handled = none
  frames : X.A.frames = some X.stack
  stk : X.stack = X.outer ∨ (X.stack = X.env :: X.outer ∧ X.env.frame = some X.env.locals)
  exf : ∀ b ∈ X.ex, b ≠ X.env.locals ∧ ∀ x c, X.env.cells.lookup x = some c → c ≠ b
  bs : ∀ b o, X.base.get? b = some o → X.s_0.heap.get? b = some o ∧ X.H_0 b = none
  bsz : X.base.objs.size ≤ X.s_0.heap.objs.size
  noex : ∀ b o, X.base.get? b = some o → b ∉ X.ex
  exfs : ∀ b ∈ X.ex, b ∉ X.fs
  funs : X.s_0.heap.FunFrames X.base X.outer
  frf : ∀ b ∈ X.fs, X.H_0 b = none
structure Inv (X : Cx) (pins : List (Addr × Obj)) (σ : List (Option V)) (H : Hp) (s : Shared) : Prop where
  ok : X.Ok
  os : s.os = X.s_0.os
  bare : AllBare s.gens
  base : Un X.fs X.ex X.H_0 H X.s_0.heap s.heap
  loc : ∃ m, s.heap.Ns X.env.locals m ∧ ∀ (i : Nat) (x : Str) (v : V), X.N[i]? = some x → σ[i]? = some (some v) → Vis X.env.scope x → ∃ u, RelV v u ∧ Look X.env s.heap m x u
  cell : ∀ x c, X.env.cells.lookup x = some c → ∃ v, s.heap.IsCell c v
  free : H X.env.locals = none
  freeC : ∀ x c, X.env.cells.lookup x = some c → H c = none
  pin : ∀ p ∈ X.pn ++ pins, s.heap.get? p.1 = some p.2 ∧ H p.1 = none ∧ p.1 ≠ X.env.locals ∧ p.1 ∉ X.fs ∧ ∀ v, p.2.data ≠ .cell v
  hok : HOk X.prog X.w H s.heap
  len : σ.length = X.N.length
section
variable {X : Cx} {pins : List (Addr × Obj)} {σ : List (Option V)} {H H' : Hp} {s : Shared} {h' : Heap}
theorem Cx.Ok.nofr (ok : X.Ok) {b : Addr} {o : Obj} (e : X.base.get? b = some o) : b ∉ X.fs := fun hb => by
  have := (ok.funs.mem hb).1
  rw [e] at this; cases this
theorem Inv.bs (I : Inv X pins σ H s) : ∀ b o, X.base.get? b = some o → s.heap.get? b = some o ∧ H b = none := fun b o e =>
  ⟨I.base.keep b o (I.ok.bs b o e).1 (I.ok.bs b o e).2 (I.ok.nofr e) (I.ok.noex b o e), I.base.free b o (I.ok.bs b o e).1 (I.ok.bs b o e).2 (I.ok.noex b o e)⟩
theorem Inv.bk (I : Inv X pins σ H s) : ∀ b o, X.base.get? b = some o → s.heap.get? b = some o := fun b o e => (I.bs b o e).1
theorem Inv.mod (I : Inv X pins σ H s) : Mod X.K X.mg X.base := I.ok.mod
theorem Inv.kIn (I : Inv X pins σ H s) : X.K.In s.heap := I.ok.mod.kin.keeps I.bk
theorem Inv.lt (I : Inv X pins σ H s) : X.env.locals < s.heap.objs.size := let ⟨_, hn, _⟩ := I.loc; hn.lt
theorem Inv.sz (I : Inv X pins σ H s) : X.s_0.heap.objs.size ≤ s.heap.objs.size := Nat.le_trans I.ok.above (Nat.le_of_lt I.lt)
theorem Inv.nofs (I : Inv X pins σ H s) {a : Addr} (h : s.heap.objs.size ≤ a) : a ∉ X.fs := fun hb => by
  obtain ⟨_, o, ho, _⟩ := I.ok.funs.mem hb
  exact absurd (Nat.lt_of_lt_of_le (Heap.lt_size ho) (Nat.le_trans I.sz h)) (Nat.lt_irrefl _)
theorem Inv.cne (I : Inv X pins σ H s) : ∀ x c, X.env.cells.lookup x = some c → c ≠ X.env.locals := fun x c e z => by
  obtain ⟨v, o, ho, hd⟩ := I.cell x c e
  obtain ⟨m, ⟨o', es, ep, ho', hd', _⟩, _⟩ := I.loc
  rw [z, ho'] at ho; cases ho; rw [hd'] at hd; cases hd
theorem Inv.funs (I : Inv X pins σ H s) : s.heap.FunFrames X.base X.outer := by
  have all : ∀ (l : List Env), (∀ b ∈ frs l, b ∈ X.fs) → X.s_0.heap.FunFrames X.base l → s.heap.FunFrames X.base l := by
    intro l
    induction l with
    | nil => intro _ _; trivial
    | cons env r ih =>
      intro hs hl
      obtain ⟨hk, ⟨L, o, hf, hn, ho, hd⟩, hr⟩ := hl
      have hL : L ∈ X.fs := hs L (by unfold frs; rw [List.filterMap_cons, hf]; exact List.mem_cons_self)
      obtain ⟨sl, e⟩ := I.base.slot L o ho (I.ok.frf L hL) hL fun z => I.ok.exfs L z hL
      exact ⟨hk, ⟨L, _, hf, hn, e, hd⟩, ih (fun b hb => hs b (by unfold frs; rw [List.filterMap_cons, hf]; exact List.mem_cons_of_mem _ hb)) hr⟩
  exact all X.outer (fun _ hb => hb) I.ok.funs
theorem Inv.stack (I : Inv X pins σ H s) : s.heap.FunFrames X.base X.stack := by
  rcases I.ok.stk with e | ⟨e, hf⟩
  · rw [e]; exact I.funs
  · rw [e]
    obtain ⟨m, hn, _⟩ := I.loc
    refine .cons (by rw [I.ok.kind]; decide) hf hn ?_ I.funs
    exact Heap.get?_none_of_le (Nat.le_trans I.ok.bsz I.ok.above)
theorem Inv.stkSub (I : Inv X pins σ H s) : ∀ b ∈ frs X.stack, b ∈ X.env.locals :: X.fs := fun b hb => by
  rcases I.ok.stk with e | ⟨e, hf⟩
  · rw [e] at hb; exact List.mem_cons_of_mem _ hb
  · rw [e] at hb
    unfold frs at hb
    rw [List.filterMap_cons, hf] at hb
    exact hb
theorem Inv.stkFree (I : Inv X pins σ H s) : ∀ b ∈ frs X.stack, H b = none := fun b hb => by
  rcases List.mem_cons.mp (I.stkSub b hb) with e | hb
  · rw [e]; exact I.free
  · obtain ⟨_, o, ho, _⟩ := I.ok.funs.mem hb
    exact I.base.free b o ho (I.ok.frf b hb) fun z => I.ok.exfs b z hb
theorem Inv.step {g' : Array GenState} {t' : Nat} {d' : Drawn} {ch : List Addr} (I : Inv X pins σ H s)
    (hch : ∀ b ∈ ch, (b ∈ X.ex ∨ X.s_0.heap.objs.size ≤ b) ∧ b ≠ X.env.locals ∧ (∀ x c, X.env.cells.lookup x = some c → c ≠ b) ∧ ∀ p ∈ X.pn ++ pins, p.1 ≠ b)
    (keep : ∀ b o, b ≠ X.env.locals → b ∉ X.fs → b ∉ ch → s.heap.get? b = some o → H b = none → h'.get? b = some o)
    (slot : ∀ b o, b ≠ X.env.locals → b ∈ X.fs → b ∉ ch → s.heap.get? b = some o → H b = none → ∃ sl, h'.get? b = some { o with slots := sl }) (free : ∀ b o, b ∉ ch → s.heap.get? b = some o → H b = none → H' b = none)
    (there : ∀ b o, b ∉ ch → s.heap.get? b = some o → ∃ o', h'.get? b = some o')
    (tups : ∀ b xs, H b = some (.tup xs) → H' b = some (.tup xs)) (frzs : ∀ b o u, H b = some (.frz o u) → H' b = some (.frz o u)) (tbls : ∀ b ps, H b = some (.tbl ps) → ∃ more, H' b = some (.tbl (ps ++ more)))
    (ns : ∀ m, s.heap.Ns X.env.locals m → h'.Ns X.env.locals m) (hok : HOk X.prog X.w H' h') (hg : AllBare g') :
    Inv X pins σ H' { s with heap := h', gens := g', drawn := d', toks := t' } := by
  have neL : ∀ b o, X.s_0.heap.get? b = some o → b ≠ X.env.locals := fun b o e => Nat.ne_of_lt (Nat.lt_of_lt_of_le (Heap.lt_size e) I.ok.above)
  have neC : ∀ b o, X.s_0.heap.get? b = some o → b ∉ X.ex → b ∉ ch := fun b o e hx hb => by
    rcases (hch b hb).1 with z | z
    · exact hx z
    · exact absurd (Nat.lt_of_lt_of_le (Heap.lt_size e) z) (Nat.lt_irrefl _)
  have cellK : ∀ x c, X.env.cells.lookup x = some c → ∀ v, s.heap.IsCell c v → h'.IsCell c v := fun x c e v ⟨o, ho, hd⟩ => by
    have nch : c ∉ ch := fun z => (hch c z).2.2.1 x c e rfl
    by_cases hc : c ∈ X.fs
    · obtain ⟨sl, q⟩ := slot c o (I.cne x c e) hc nch ho (I.freeC x c e)
      exact ⟨_, q, hd⟩
    · exact ⟨o, keep c o (I.cne x c e) hc nch ho (I.freeC x c e), hd⟩
  refine ⟨I.ok, I.os, hg, ⟨fun b o e n hb hx => ?_, fun b o e n hb hx => ?_, fun b o e n hx => ?_, fun b o e hx => ?_, fun b xs e => tups b xs (I.base.tups b xs e), fun b o xs e => frzs b o xs (I.base.frzs b o xs e), fun b ps e => ?_⟩, ?_, fun x c e => ?_, ?_, fun x c e => ?_, fun p hp => ?_, hok, I.len⟩
  · exact keep b o (neL b o e) hb (neC b o e hx) (I.base.keep b o e n hb hx) (I.base.free b o e n hx)
  · obtain ⟨sl, e1⟩ := I.base.slot b o e n hb hx
    obtain ⟨sl', e2⟩ := slot b _ (neL b o e) hb (neC b o e hx) e1 (I.base.free b o e n hx)
    exact ⟨sl', e2⟩
  · obtain ⟨o', e1⟩ := I.base.there b o e hx
    exact free b o' (neC b o e hx) e1 (I.base.free b o e n hx)
  · obtain ⟨o', e1⟩ := I.base.there b o e hx
    exact there b o' (neC b o e hx) e1
  · obtain ⟨m1, e1⟩ := I.base.tbls b ps e
    obtain ⟨m2, e2⟩ := tbls b _ e1
    exact ⟨m1 ++ m2, by rw [e2, Array.append_assoc]⟩
  · obtain ⟨m, hn, hl⟩ := I.loc
    refine ⟨m, ns m hn, fun i x v e1 e2 e3 => ?_⟩
    obtain ⟨u, r, l⟩ := hl i x v e1 e2 e3
    refine ⟨u, r, ?_⟩
    rcases l with l | ⟨k, c, e, z⟩
    · exact .inl l
    · exact .inr ⟨k, c, e, cellK x c e _ z⟩
  · obtain ⟨v, z⟩ := I.cell x c e
    exact ⟨v, cellK x c e v z⟩
  · obtain ⟨m, ⟨o, _, _, ho, _⟩, _⟩ := I.loc
    exact free _ o (fun z => (hch _ z).2.1 rfl) ho I.free
  · obtain ⟨v, o, ho, hd⟩ := I.cell x c e
    exact free c o (fun z => (hch c z).2.2.1 x c e rfl) ho (I.freeC x c e)
  · obtain ⟨e, n, ne, nf, d⟩ := I.pin p hp
    have nch : p.1 ∉ ch := fun z => (hch p.1 z).2.2.2 p hp rfl
    exact ⟨keep p.1 p.2 ne nf nch e n, free p.1 p.2 nch e n, ne, nf, d⟩
theorem Inv.un {t' : Nat} (I : Inv X pins σ H s) (u : Un X.fs [] H H' s.heap h') (hok : HOk X.prog X.w H' h') : Inv X pins σ H' { s with heap := h', toks := t' } := by
  obtain ⟨m, ⟨o, es, ep, ho, r⟩, _⟩ := id I.loc
  obtain ⟨sl, hL⟩ := u.any ho I.free (by simp)
  exact I.step (g' := s.gens) (d' := s.drawn) (ch := []) (fun _ z => nomatch z) (fun b o _ hb _ e n => u.keep b o e n hb (by simp)) (fun b o _ hb _ e n => u.slot b o e n hb (by simp)) (fun b o _ e n => u.free b o e n (by simp)) (fun b o _ e => u.there b o e (by simp)) u.tups u.frzs u.tbls (fun m' hm => by
    obtain ⟨o', es', ep', ho', r'⟩ := hm
    rw [ho] at ho'; cases ho'
    exact ⟨_, es', ep', hL, r'⟩) hok I.bare
theorem Inv.call {g' : Array GenState} {t' : Nat} {d' : Drawn} {ch : List Addr} (I : Inv X pins σ H s) (u : Un (frs X.stack) ch H H' s.heap h') (hok : HOk X.prog X.w H' h') (hg : AllBare g')
    (hch : ∀ b ∈ ch, (b ∈ X.ex ∨ X.s_0.heap.objs.size ≤ b) ∧ b ≠ X.env.locals ∧ (∀ x c, X.env.cells.lookup x = some c → c ≠ b) ∧ ∀ p ∈ X.pn ++ pins, p.1 ≠ b) :
    Inv X pins σ H' { s with heap := h', gens := g', drawn := d', toks := t' } := by
  obtain ⟨m, ⟨o, es, ep, ho, r⟩, _⟩ := id I.loc
  obtain ⟨sl, hL⟩ := u.any ho I.free fun z => (hch _ z).2.1 rfl
  exact I.step (ch := ch) hch (fun b o hL hb hc e n => u.keep b o e n (fun z => (List.mem_cons.mp (I.stkSub b z)).elim hL hb) hc) (fun b o _ _ hc e n => u.any e n hc) (fun b o hc e n => u.free b o e n hc) (fun b o hc e => u.there b o e hc) u.tups u.frzs u.tbls (fun m' hm => by
    obtain ⟨o', es', ep', ho', r'⟩ := hm
    rw [ho] at ho'; cases ho'
    exact ⟨_, es', ep', hL, r'⟩) hok hg
theorem Inv.turned {t' : Nat} {it : Addr} (I : Inv X pins σ H s) (k : ∀ b o, b ≠ it → s.heap.get? b = some o → h'.get? b = some o) (hn : H it = none) (hL : it ≠ X.env.locals)
    (h1 : it ∈ X.ex ∨ X.s_0.heap.objs.size ≤ it) (h2 : ∀ x c, X.env.cells.lookup x = some c → c ≠ it) (h3 : ∀ p ∈ X.pn ++ pins, p.1 ≠ it) : Inv X pins σ H { s with heap := h', toks := t' } := by
  have nit : ∀ b u, H b = some u → b ≠ it := fun b u e z => by rw [z, hn] at e; cases e
  refine I.step (g' := s.gens) (d' := s.drawn) (ch := [it]) (fun b hb => ?_) (fun b o _ _ hc e _ => k b o (fun z => hc (by simp [z])) e) (fun b o _ _ hc e _ => ⟨o.slots, k b o (fun z => hc (by simp [z])) e⟩) (fun _ _ _ _ n => n)
    (fun b o hc e => ⟨o, k b o (fun z => hc (by simp [z])) e⟩) (fun _ _ e => e) (fun _ _ _ e => e) (fun b ps e => ⟨#[], by rw [e]; simp⟩) (fun m hm => ?_) (fun b u e => ?_) I.bare
  · have e : b = it := by simpa using hb
    subst e
    exact ⟨h1, hL, h2, h3⟩
  · obtain ⟨o, es, ep, ho, r⟩ := hm
    exact ⟨o, es, ep, k _ o (Ne.symm hL) ho, r⟩
  · refine (I.hok b u e).stay (fun c v hc q => k c v ?_ q) (fun _ q => q) fun _ _ q => q
    rcases hc with z | z
    · rw [z]; exact nit b u e
    · exact nit c _ z
theorem Inv.tok (I : Inv X pins σ H s) (t : Nat) : Inv X pins σ H { s with toks := t } := I.un (h' := s.heap) (t' := t) Un.refl I.hok
theorem Inv.kept {t' : Nat} (I : Inv X pins σ H s) (k : ∀ b u, s.heap.get? b = some u → h'.get? b = some u) : Inv X pins σ H { s with heap := h', toks := t' } := I.un (Un.kept k) (I.hok.kept k)
theorem Inv.laid {a : Addr} {o : HO} {t' : Nat} (I : Inv X pins σ H s) (k : ∀ b u, s.heap.get? b = some u → h'.get? b = some u) (hp : s.heap.objs.size ≤ a) (new : ObjOk X.prog X.w (upd H a o) h' a o) :
    Inv X pins σ (upd H a o) { s with heap := h', toks := t' } := I.un (Un.laid k hp (I.hok.fresh hp)) (I.hok.laid k hp new)
theorem Inv.write {x e : Addr} {o : HO} {t' : Nat} (I : Inv X pins σ H s) (mu : Mut (H x)) (he : e = x ∨ H e = some (.own x)) (k : ∀ b u, b ≠ e → s.heap.get? b = some u → h'.get? b = some u) (heo : ∃ u, h'.get? e = some u)
    (new : ObjOk X.prog X.w (upd H x o) h' x o) : Inv X pins σ (upd H x o) { s with heap := h', toks := t' } := I.un (Un.write mu he k heo) (I.hok.write mu he k heo new)
theorem Inv.weak {σ' : List (Option V)} (I : Inv X pins σ H s) (hl : σ'.length = σ.length) (w : ∀ (i : Nat) v, σ'[i]? = some (some v) → σ[i]? = some (some v)) : Inv X pins σ' H s :=
  ⟨I.ok, I.os, I.bare, I.base, let ⟨m, hn, hl'⟩ := I.loc; ⟨m, hn, fun i x v e1 e2 e3 => hl' i x v e1 (w i v e2) e3⟩, I.cell, I.free, I.freeC, I.pin, I.hok, hl.trans I.len⟩
theorem Inv.pins_of {pins' : List (Addr × Obj)} (I : Inv X pins σ H s) (h : ∀ p ∈ pins', s.heap.get? p.1 = some p.2 ∧ H p.1 = none ∧ p.1 ≠ X.env.locals ∧ p.1 ∉ X.fs ∧ ∀ v, p.2.data ≠ .cell v) : Inv X pins' σ H s :=
  ⟨I.ok, I.os, I.bare, I.base, I.loc, I.cell, I.free, I.freeC, fun p hp => (List.mem_append.mp hp).elim (fun z => I.pin p (List.mem_append_left _ z)) (h p), I.hok, I.len⟩
theorem nodup_ix {N : List Str} (hN : N.Nodup) {i j : Nat} {x : Str} (a : N[i]? = some x) (b : N[j]? = some x) : i = j := by
  obtain ⟨h1, e1⟩ := List.getElem?_eq_some_iff.mp a
  obtain ⟨h2, e2⟩ := List.getElem?_eq_some_iff.mp b
  exact (List.getElem_inj hN).mp (e1.trans e2.symm)
theorem store_ok2 {M : Model} {A : Around} {E : Value → Shared → Prop} {i : Nat} {x : Str} {v : V} {u : Value} {Q : Unit → Shared → Prop} (I : Inv X pins σ H s) (hN : X.N.Nodup) (hi : X.N[i]? = some x) (hx : Loc X.env.scope x) (r : RelV v u)
    (h : ∀ s', Inv X pins (σ.set i (some v)) H s' → (∃ a, Heap.SameBut a s.heap s'.heap ∧ (a = X.env.locals ∨ X.env.cells.lookup x = some a)) → Q () s') (hf : X.fn x = true ∨ X.env.scope.names.lookup x = some .local := by first | exact .inl rfl | exact .inr rfl | assumption) : wpAny M A (storeName X.env x u) Q E s := by
  obtain ⟨m, hn, hl⟩ := id I.loc
  have hcls : (X.env.scope.kind == .class || (X.env.scope.kind == .module && X.env.locals != X.env.globals)) = false := by rw [I.ok.kind]; rfl
  have hiσ : i < σ.length := by rw [I.len]; exact (List.getElem?_eq_some_iff.mp hi).1
  have cne := I.cne
  have tracked : ∀ {a : Addr} {h' : Heap}, (∃ o, s.heap.get? a = some o ∧ H a = none) → Heap.SameBut a s.heap h' → HOk X.prog X.w H h' := fun {a h'} ha hs b ob e => by
    obtain ⟨_, _, hfree⟩ := ha
    refine (I.hok b ob e).stay (fun c w' hc q => (hs.2 c ?_).trans q) (fun _ q => q) fun _ _ q => q
    rintro rfl
    rcases hc with rfl | hc
    · rw [hfree] at e; cases e
    · rw [hfree] at hc; cases hc
  rcases hx with hk | hk
  · refine wpAny_storeName_local hk hn (fun h' hn' hs => ?_) hcls
    obtain ⟨oL, _, _, hoL, _⟩ := id hn
    refine h _ ⟨I.ok, I.os, I.bare, ⟨fun b o e n hb hx => ?_, fun b o e n hb hx => ?_, I.base.free, fun b o e hx => ?_, I.base.tups, I.base.frzs, I.base.tbls⟩, ⟨_, hn', fun j y v' e1 e2 e3 => ?_⟩, fun y c e => ?_, I.free, I.freeC, fun p hp => ?_, tracked ⟨oL, hoL, I.free⟩ hs, by simpa using I.len⟩ ⟨_, hs, .inl rfl⟩
    · exact (hs.2 b (Nat.ne_of_lt (Nat.lt_of_lt_of_le (Heap.lt_size e) I.ok.above))).trans (I.base.keep b o e n hb hx)
    · obtain ⟨sl, e1⟩ := I.base.slot b o e n hb hx
      exact ⟨sl, (hs.2 b (Nat.ne_of_lt (Nat.lt_of_lt_of_le (Heap.lt_size e) I.ok.above))).trans e1⟩
    · obtain ⟨o', e1⟩ := I.base.there b o e hx
      exact ⟨o', (hs.2 b (Nat.ne_of_lt (Nat.lt_of_lt_of_le (Heap.lt_size e) I.ok.above))).trans e1⟩
    · by_cases hj : j = i
      · subst hj
        rw [hi] at e1; cases e1
        rw [List.getElem?_set_self hiσ] at e2
        cases e2
        exact ⟨u, r, .inl ⟨hk, by simp⟩⟩
      · rw [List.getElem?_set_ne (Ne.symm hj)] at e2
        obtain ⟨u', r', q⟩ := hl j y v' e1 e2 e3
        refine ⟨u', r', ?_⟩
        rcases q with ⟨k, e⟩ | ⟨k, c, e, z⟩
        · refine .inl ⟨k, ?_⟩
          have : y ≠ x := fun e => hj (nodup_ix hN e1 (e ▸ hi))
          simp [this, e]
        · exact .inr ⟨k, c, e, z.sameBut hs (cne y c e)⟩
    · obtain ⟨w', z⟩ := I.cell y c e
      exact ⟨w', z.sameBut hs (cne y c e)⟩
    · obtain ⟨e, n, ne, nf, d⟩ := I.pin p hp
      exact ⟨(hs.2 p.1 ne).trans e, n, ne, nf, d⟩
  · have hfn : X.fn x = true := by
      rcases hf with z | z
      · exact z
      · rw [z] at hk; cases hk
    obtain ⟨c, hc⟩ := I.ok.has x (.inl hk)
    obtain ⟨w', z⟩ := I.cell x c hc
    refine wpAny_storeName_cell I.ok.kind hk hc z (fun h' hc' hs => ?_)
    obtain ⟨oc, hoc, hocd⟩ := id z
    refine h { s with heap := h' } ⟨I.ok, I.os, I.bare, ⟨fun b o e n hb hx => ?_, fun b o e n hb hx => ?_, I.base.free, fun b o e hx => ?_, I.base.tups, I.base.frzs, I.base.tbls⟩, ⟨m, hn.sameBut hs (Ne.symm (cne x c hc)), fun j y v' e1 e2 e3 => ?_⟩, fun y c' e => ?_, I.free, I.freeC, fun p hp => ?_, tracked ⟨oc, hoc, I.freeC x c hc⟩ hs, by simpa using I.len⟩ ⟨c, hs, .inr hc⟩
    · exact (hs.2 b (Nat.ne_of_lt (Nat.lt_of_lt_of_le (Heap.lt_size e) (I.ok.cab x c hfn hc)))).trans (I.base.keep b o e n hb hx)
    · obtain ⟨sl, e1⟩ := I.base.slot b o e n hb hx
      exact ⟨sl, (hs.2 b (Nat.ne_of_lt (Nat.lt_of_lt_of_le (Heap.lt_size e) (I.ok.cab x c hfn hc)))).trans e1⟩
    · obtain ⟨o', e1⟩ := I.base.there b o e hx
      exact ⟨o', (hs.2 b (Nat.ne_of_lt (Nat.lt_of_lt_of_le (Heap.lt_size e) (I.ok.cab x c hfn hc)))).trans e1⟩
    · by_cases hj : j = i
      · subst hj
        rw [hi] at e1; cases e1
        rw [List.getElem?_set_self hiσ] at e2
        cases e2
        exact ⟨u, r, .inr ⟨.inl hk, c, hc, hc'⟩⟩
      · rw [List.getElem?_set_ne (Ne.symm hj)] at e2
        obtain ⟨u', r', q⟩ := hl j y v' e1 e2 e3
        refine ⟨u', r', ?_⟩
        rcases q with q | ⟨k, c', e, z'⟩
        · exact .inl q
        · refine .inr ⟨k, c', e, z'.sameBut hs ?_⟩
          rintro rfl
          exact hj (nodup_ix hN e1 (I.ok.inj _ _ _ e hc ▸ hi))
    · by_cases hcc : c' = c
      · subst hcc; exact ⟨_, hc'⟩
      · obtain ⟨w2, z2⟩ := I.cell y c' e
        exact ⟨w2, z2.sameBut hs hcc⟩
    · obtain ⟨e, n, ne, nf, d⟩ := I.pin p hp
      refine ⟨(hs.2 p.1 ?_).trans e, n, ne, nf, d⟩
      intro q
      rw [q, hoc] at e
      have q' : oc = p.2 := Option.some.inj e
      exact d w' (by rw [← q']; exact hocd)
theorem store_ok {M : Model} {A : Around} {E : Value → Shared → Prop} {i : Nat} {x : Str} {v : V} {u : Value} {Q : Unit → Shared → Prop} (I : Inv X pins σ H s) (hN : X.N.Nodup) (hi : X.N[i]? = some x) (hx : Loc X.env.scope x) (r : RelV v u)
    (h : ∀ s', Inv X pins (σ.set i (some v)) H s' → Q () s') (hf : X.fn x = true ∨ X.env.scope.names.lookup x = some .local := by first | exact .inl rfl | exact .inr rfl | assumption) : wpAny M A (storeName X.env x u) Q E s :=
  store_ok2 I hN hi hx r (fun s' I' _ => h s' I') hf
theorem Inv.call' {s' : Shared} {ch : List Addr} (I : Inv X pins σ H s) (ho : s'.os = s.os) (u : Un (frs X.stack) ch H H' s.heap s'.heap) (hok : HOk X.prog X.w H' s'.heap) (hg : AllBare s'.gens)
    (hch : ∀ b ∈ ch, (b ∈ X.ex ∨ X.s_0.heap.objs.size ≤ b) ∧ b ≠ X.env.locals ∧ (∀ x c, X.env.cells.lookup x = some c → c ≠ b) ∧ ∀ p ∈ X.pn ++ pins, p.1 ≠ b) : Inv X pins σ H' s' := by
  obtain ⟨h', g', d', t', o'⟩ := s'
  have e : o' = s.os := ho
  subst e
  exact I.call (g' := g') (t' := t') (d' := d') u hok hg hch
end
abbrev XK := Value → Option Addr → Hp → Prop
abbrev St := List (Option V)
abbrev VK := V → Hp → Prop
abbrev TE := St → Hp → VK → Prop
abbrev TT := St → Hp → (Bool → Hp → Prop) → Prop
abbrev TA := St → Hp → (List V → Hp → Prop) → Prop
structure Ends where
  nx : St → Hp → Prop
  rt : VK
  bk : St → Hp → Prop := fun _ _ => False
  ct : St → Hp → Prop := fun _ _ => False
abbrev TS := Ends → St → Hp → Prop
def EP (X : Cx) (pins : List (Addr × Obj)) (σ : St) (Q : VK) (u : Value) (s' : Shared) : Prop := ∃ v H', Inv X pins σ H' s' ∧ RelV v u ∧ Q v H'
def TP (X : Cx) (pins : List (Addr × Obj)) (σ : St) (Q : Bool → Hp → Prop) (b : Bool) (s' : Shared) : Prop := ∃ H', Inv X pins σ H' s' ∧ Q b H'
def AP (X : Cx) (pins : List (Addr × Obj)) (σ : St) (Q : List V → Hp → Prop) (us : List Value) (s' : Shared) : Prop := ∃ vs H', Inv X pins σ H' s' ∧ Vals vs us ∧ Q vs H'
def SP (X : Cx) (pins : List (Addr × Obj)) (D : Ends) (f : Flow) (s' : Shared) : Prop :=
  match f with
  | .next => ∃ σ' H', Inv X pins σ' H' s' ∧ D.nx σ' H'
  | .brk => ∃ σ' H', Inv X pins σ' H' s' ∧ D.bk σ' H'
  | .cont => ∃ σ' H', Inv X pins σ' H' s' ∧ D.ct σ' H'
  | .ret u => ∃ v σ' H', Inv X pins σ' H' s' ∧ RelV v u ∧ D.rt v H'
def PE (X : Cx) (e : Expr) (t : TE) : Prop :=
  ∀ (pins : List (Addr × Obj)) (s : Shared) (σ : St) (H : Hp) (Q : VK), Inv X pins σ H s → t σ H Q → wpAny (model X.prog X.w) X.A (eval e X.env) (EP X pins σ Q) X.xe s
def PT (X : Cx) (e : Expr) (t : TT) : Prop :=
  ∀ (pins : List (Addr × Obj)) (s : Shared) (σ : St) (H : Hp) (Q : Bool → Hp → Prop), Inv X pins σ H s → t σ H Q → wpAny (model X.prog X.w) X.A (isTrue e X.env (eval e X.env)) (TP X pins σ Q) X.xe s
def PW (X : Cx) (e : Expr) (t : TT) : Prop :=
  ∀ (whole : Sem Value) (pins : List (Addr × Obj)) (s : Shared) (σ : St) (H : Hp) (Q : Bool → Hp → Prop), Inv X pins σ H s → t σ H Q → wpAny (model X.prog X.w) X.A (isTrue e X.env whole) (TP X pins σ Q) X.xe s
theorem PW.pt {X : Cx} {e : Expr} {t : TT} (h : PW X e t) : PT X e t := h _
def PA (X : Cx) (es : List Expr) (t : TA) : Prop :=
  ∀ (pos : Pos) (pins : List (Addr × Obj)) (s : Shared) (σ : St) (H : Hp) (Q : List V → Hp → Prop), Inv X pins σ H s → t σ H Q → wpAny (model X.prog X.w) X.A (spliced (backTo pos (starEach es X.env))) (AP X pins σ Q) X.xe s
def PS (X : Cx) (st : Stmt) (t : TS) : Prop :=
  ∀ (pins : List (Addr × Obj)) (s : Shared) (σ : St) (H : Hp) (D : Ends), Inv X pins σ H s → t D σ H → wpAny (model X.prog X.w) X.A (exec st X.env) (SP X pins D) X.xe s
def PSs (X : Cx) (st : List Stmt) (t : TS) : Prop :=
  ∀ (pins : List (Addr × Obj)) (s : Shared) (σ : St) (H : Hp) (D : Ends), Inv X pins σ H s → t D σ H → wpAny (model X.prog X.w) X.A (execs st X.env) (SP X pins D) X.xe s
theorem thn {α : Type} {t : Sem α} {Q Q' : α → Shared → Prop} {M : Model} {A : Around} {E : Value → Shared → Prop} {s : Shared} (h : wpAny M A t Q E s) (hQ : ∀ a s, Q a s → Q' a s) : wpAny M A t Q' E s := wpAny_mono h hQ fun _ _ x => x
end L2
namespace L2
open PySem PySem.Spec PyProof.Rows
section
variable {X : Cx}
def tVar (i : Nat) : TE := fun σ H Q => ∃ v, σ[i]? = some (some v) ∧ Q v H
def tC (v : V) : TE := fun _ H Q => Q v H
theorem pe_var {i : Nat} {x : Str} {pos : Pos} (hN : X.N[i]? = some x) (hv : Vis X.env.scope x) (hd : (x == ("__debug__" : Str)) = false := by decide) (hcd : (x == ("__classdict__" : Str)) = false := by decide) : PE X (.Name x pos) (tVar i) := by
  intro pins s σ H Q I h
  obtain ⟨v, e, h⟩ := h
  obtain ⟨m, hn, hl⟩ := I.loc
  obtain ⟨u, r, l⟩ := hl i x v hN e hv
  have fin : EP X pins σ Q u s := ⟨v, H, I, r, h⟩
  rcases l with ⟨hk, hm⟩ | ⟨hk, c, hc, hcell⟩
  · exact wpAny_Name (wpAny_loadName_local I.ok.kind hk hn hm fin) hd
  · rcases hk with hk | hk
    · exact wpAny_Name (wpAny_loadName_cell I.ok.kind hk hc hcell fin) hd
    · exact wpAny_Name (wpAny_loadName_free I.ok.kind hk hc hcell fin hcd) hd
theorem pe_int {i j pos} : PE X (.Constant (.int i) j pos) (tC (.int i)) := fun _ _ _ H _ I h => wpAny_Constant_int ⟨.int i, H, I.tok _, ⟨_, rfl⟩, h⟩
theorem pe_bl {b j pos} : PE X (.Constant (.bool b) j pos) (tC (.bl b)) := fun _ _ _ H _ I h => Constant_bool ⟨.bl b, H, I, rfl, h⟩
theorem pe_non {j pos} : PE X (.Constant .none j pos) (tC .non) := fun _ _ _ H _ I h => Constant_none ⟨.non, H, I, rfl, h⟩
def Gl (X : Cx) (x : Str) : Prop := X.env.kindOf x = some .globalImplicit
theorem ld_glob {E : Value → Shared → Prop} {pins : List (Addr × Obj)} {s : Shared} {σ : St} {H : Hp} {x : Str} {u : Value} {pos : Pos} {Q : Value → Shared → Prop} (I : Inv X pins σ H s) (hg : Gl X x) (hm : X.mg x = some u) (h : Q u s)
    (hd : (x == ("__debug__" : Str)) = false := by decide) : wpAny (model X.prog X.w) X.A (eval (.Name x pos) X.env) Q E s :=
  Calls.Name_function_global I.ok.kind hg (Calls.loadGlobal_global (by rw [I.ok.glob]; exact I.mod.glob.keeps I.bk) hm h) hd
theorem ld_blt {E : Value → Shared → Prop} {pins : List (Addr × Obj)} {s : Shared} {σ : St} {H : Hp} {x : Str} {u : Value} {pos : Pos} {Q : Value → Shared → Prop} (I : Inv X pins σ H s) (hg : Gl X x) (hm : X.mg x = none) (hv : bootBuiltins x = some u) (h : Q u s)
    (hn : x ≠ "__name__" := by decide) (hd : (x == ("__debug__" : Str)) = false := by decide) : wpAny (model X.prog X.w) X.A (eval (.Name x pos) X.env) Q E s := by
  obtain ⟨mb, h1, h2⟩ := I.mod.blt
  exact Calls.Name_function_global I.ok.kind hg (Calls.loadGlobal_builtin (by rw [I.ok.glob]; exact I.mod.glob.keeps I.bk) hm (by rw [I.ok.blt]; exact h1.keeps I.bk) ((h2 x hn).trans hv) h) hd
theorem pe_glob {x : Str} {v : V} {u : Value} {pos : Pos} (hg : Gl X x) (hm : X.mg x = some u) (r : RelV v u) (hd : (x == ("__debug__" : Str)) = false := by decide) : PE X (.Name x pos) (tC v) :=
  fun _ _ _ H _ I h => ld_glob I hg hm ⟨v, H, I, r, h⟩ hd
variable {a b : Expr} {ta tb : TE} {pos : Pos}
def tB (t : TE) : TT := fun σ H Q => t σ H fun x H1 => ∃ c, x = .bl c ∧ Q c H1
theorem pt_val {e : Expr} {t : TE} (h : PE X e t) (he : ∀ whole, isTrue e X.env whole = (do let v ← whole; standAt e.pos; holding [v] (truthy v)) := by intro _; rfl) : PT X e (tB t) := by
  intro pins s σ H Q I hw
  refine isTrue_plain (thn (h pins s σ H _ I hw) fun v s1 ⟨x, H1, I1, r1, q1⟩ => ?_) (he _)
  obtain ⟨d, rfl, q⟩ := q1
  cases r1
  exact wpAny_truthy_bool ⟨H1, I1, q⟩
variable {tA tB' : TT} {rest : List Expr}
def tAnd (t u : TT) : TT := fun σ H Q => t σ H fun c H1 => if c = true then u σ H1 Q else Q false H1
def tOr (t u : TT) : TT := fun σ H Q => t σ H fun c H1 => if c = true then Q true H1 else u σ H1 Q
def tNot (t : TT) : TT := fun σ H Q => t σ H fun c H1 => Q (!c) H1
theorem pw_and1 (ha : PT X a tA) : PW X (.BoolOp .And [a] pos) tA := by
  intro wh pins s σ H Q I h
  refine isTrue_and (thn (ha pins s σ H Q I h) fun c s1 e => ?_)
  cases c with
  | true => exact isTrue_and_nil e
  | false => exact e
theorem pw_or1 (ha : PT X a tA) : PW X (.BoolOp .Or [a] pos) tA := by
  intro wh pins s σ H Q I h
  refine isTrue_or (thn (ha pins s σ H Q I h) fun c s1 e => ?_)
  cases c with
  | false => exact isTrue_or_nil e
  | true => exact e
theorem pw_and (ha : PT X a tA) (hb : PW X (.BoolOp .And (b :: rest) pos) tB') : PW X (.BoolOp .And (a :: b :: rest) pos) (tAnd tA tB') := by
  intro wh pins s σ H Q I h
  refine isTrue_and (thn (ha pins s σ H _ I h) fun c s1 ⟨H1, I1, q1⟩ => ?_)
  cases c with
  | true => exact hb wh pins s1 σ H1 Q I1 q1
  | false => exact ⟨H1, I1, q1⟩
theorem pw_or (ha : PT X a tA) (hb : PW X (.BoolOp .Or (b :: rest) pos) tB') : PW X (.BoolOp .Or (a :: b :: rest) pos) (tOr tA tB') := by
  intro wh pins s σ H Q I h
  refine isTrue_or (thn (ha pins s σ H _ I h) fun c s1 ⟨H1, I1, q1⟩ => ?_)
  cases c with
  | true => exact ⟨H1, I1, q1⟩
  | false => exact hb wh pins s1 σ H1 Q I1 q1
theorem pt_not (ha : PT X a tA) : PT X (.UnaryOp .Not a pos) (tNot tA) := by
  intro pins s σ H Q I h
  exact isTrue_not (ha pins s σ H (fun c H1 => Q (!c) H1) I h)
def tAndV (ta tb : TE) : TE := fun σ H Q => ta σ H fun x H1 => ∃ c, x = .bl c ∧ if c = true then tb σ H1 Q else Q (.bl false) H1
theorem pe_one {op} {t : TE} (h : PE X a t) : PE X (.BoolOp op [a] pos) t := fun pins s σ H Q I hw => BoolOp_one (h pins s σ H Q I hw)
theorem pe_and (ha : PE X a ta) (hb : PE X (.BoolOp .And (b :: rest) pos) tb) : PE X (.BoolOp .And (a :: b :: rest) pos) (tAndV ta tb) := by
  intro pins s σ H Q I h
  refine BoolOp_and (thn (ha pins s σ H _ I h) fun v s1 ⟨x, H1, I1, r1, q1⟩ => ?_)
  obtain ⟨c, rfl, q1⟩ := q1
  cases r1
  refine wpAny_truthy_bool ?_
  cases c with
  | true => exact hb pins s1 σ H1 Q I1 q1
  | false => exact ⟨.bl false, H1, I1, rfl, q1⟩
end
end L2
namespace L2
open PySem PySem.Spec PyProof.Rows
def SqL (K : PySem.W.Frag) (H : Hp) (a : Addr) (xs : List V) : Prop :=
  Rd H a (.lst xs) ∨
    ∃ (o : Obj) (its : Array Value) (n : Nat), K.lookup a = some o ∧ o.cls = .type "list" ∧ o.dict = none ∧ o.data = .seq its n ∧ its.size ≤ sizeLine ∧ Vals xs its.toList
def SqT (K : PySem.W.Frag) (H : Hp) (a : Addr) (xs : List V) : Prop :=
  Rd H a (.tup xs) ∨
    ∃ (o : Obj) (its : Array Value) (n : Nat), K.lookup a = some o ∧ o.cls = .type "tuple" ∧ o.data = .seq its n ∧ its.size ≤ sizeLine ∧ Vals xs its.toList
def absV : Value → Option V
  | .none => some .non
  | .bool b => some (.bl b)
  | .int i _ => some (.int i)
  | .str x _ => some (.str x)
  | .bytes b _ => some (.byt b)
  | .float b _ => some (.flt b)
  | .ref a => some (.ref a)
  | .type n => some (.ty n)
  | _ => none
theorem RelV.abs {x : V} {u : Value} (r : RelV x u) : absV u = some x := by
  cases x with
  | non => cases r; rfl
  | bl _ => cases r; rfl
  | int _ => obtain ⟨t, rfl⟩ := r; rfl
  | str _ => obtain ⟨t, rfl⟩ := r; rfl
  | byt _ => obtain ⟨t, rfl⟩ := r; rfl
  | flt _ => obtain ⟨t, rfl⟩ := r; rfl
  | ref _ => cases r; rfl
  | ty _ => cases r; rfl
theorem RelV.inj {x y : V} {u : Value} (r : RelV x u) (q : RelV y u) : x = y := Option.some.inj (r.abs.symm.trans q.abs)
theorem Vals.inj : ∀ {xs ys : List V} {us : List Value}, Vals xs us → Vals ys us → xs = ys
  | _, _, _, .nil, .nil => rfl
  | _, _, _, .cons r t, .cons r' t' => by rw [r.inj r', Vals.inj t t']
section
variable {X : Cx} {pins : List (Addr × Obj)} {σ : St} {H : Hp} {s : Shared} {a : Addr} {xs ys : List V}
theorem SqL.of {K : PySem.W.Frag} (h : H a = some (.lst xs)) : SqL K H a xs := .inl (.inl h)
theorem SqT.of {K : PySem.W.Frag} (h : H a = some (.tup xs)) : SqT K H a xs := .inl (.inl h)
theorem Inv.list (I : Inv X pins σ H s) (h : SqL X.K H a xs) : ∃ its : List Value, Vals xs its ∧ PlainL s.heap a its.toArray ∧ xs.length ≤ sizeLine := by
  rcases h with h | ⟨o, its, n, hk, hc, hd, hs, hz, r⟩
  · obtain ⟨z, its, n, r, e⟩ := h.ok I.hok
    exact ⟨its, r, ⟨_, n, e, rfl, rfl, rfl⟩, z⟩
  · refine ⟨its.toList, r, ⟨o, n, I.kIn a o hk, hc, hd, by simpa using hs⟩, ?_⟩
    have e := r.length
    simp only [Array.length_toList] at e
    omega
theorem Inv.tuple (I : Inv X pins σ H s) (h : SqT X.K H a xs) : ∃ its : List Value, Vals xs its ∧ IsTup s.heap a its.toArray ∧ xs.length ≤ sizeLine := by
  rcases h with h | ⟨o, its, n, hk, hc, hs, hz, r⟩
  · obtain ⟨z, its, r, p⟩ := h.ok I.hok
    exact ⟨its, r, p, z⟩
  · refine ⟨its.toList, r, ⟨o, I.kIn a o hk, hc, n, by simpa using hs⟩, ?_⟩
    have e := r.length
    simp only [Array.length_toList] at e
    omega
theorem Inv.list_inj (I : Inv X pins σ H s) (h : SqL X.K H a xs) (h' : SqL X.K H a ys) : xs = ys := by
  obtain ⟨its, r, ⟨o, n, e, _, _, d⟩, _⟩ := I.list h
  obtain ⟨its', r', ⟨o', n', e', _, _, d'⟩, _⟩ := I.list h'
  rw [e] at e'; cases e'
  rw [d] at d'
  injection d' with d1 _
  have : its = its' := by simpa using congrArg Array.toList d1
  subst this
  exact r.inj r'
end
abbrev Cx.wish (X : Cx) (E : Value → Shared → Prop) : Cx := { X with xe := E }
abbrev Cx.nox (X : Cx) : Cx := X.wish fun _ _ => False
theorem Cx.Ok.wish {X : Cx} (ok : X.Ok) (E : Value → Shared → Prop) : (X.wish E).Ok :=
  ⟨ok.mod, ok.kind, ok.glob, ok.blt, ok.above, ok.inj, ok.has, ok.cab, ok.hd, ok.frames, ok.stk, ok.exf, ok.bs, ok.bsz, ok.noex, ok.exfs, ok.funs, ok.frf⟩
theorem Cx.Ok.unwish {X : Cx} {E : Value → Shared → Prop} (ok : (X.wish E).Ok) : X.Ok :=
  ⟨ok.mod, ok.kind, ok.glob, ok.blt, ok.above, ok.inj, ok.has, ok.cab, ok.hd, ok.frames, ok.stk, ok.exf, ok.bs, ok.bsz, ok.noex, ok.exfs, ok.funs, ok.frf⟩
section
variable {X : Cx} {pins : List (Addr × Obj)} {σ : St} {H : Hp} {s : Shared} {E : Value → Shared → Prop}
theorem Inv.wish (I : Inv X pins σ H s) (E : Value → Shared → Prop) : Inv (X.wish E) pins σ H s := ⟨I.ok.wish E, I.os, I.bare, I.base, I.loc, I.cell, I.free, I.freeC, I.pin, I.hok, I.len⟩
theorem Inv.unwish (I : Inv (X.wish E) pins σ H s) : Inv X pins σ H s := ⟨I.ok.unwish, I.os, I.bare, I.base, I.loc, I.cell, I.free, I.freeC, I.pin, I.hok, I.len⟩
theorem SP.unwish {D : Ends} {f : Flow} {s' : Shared} (h : SP (X.wish E) pins D f s') : SP X pins D f s' := by
  cases f with
  | next => obtain ⟨σ', H', I, q⟩ := h; exact ⟨σ', H', I.unwish, q⟩
  | brk => obtain ⟨σ', H', I, q⟩ := h; exact ⟨σ', H', I.unwish, q⟩
  | cont => obtain ⟨σ', H', I, q⟩ := h; exact ⟨σ', H', I.unwish, q⟩
  | ret u => obtain ⟨v, σ', H', I, r, q⟩ := h; exact ⟨v, σ', H', I.unwish, r, q⟩
theorem PSs.nox {st : List Stmt} {t : TS} (h : PSs X.nox st t) : PSs X st t := fun pins s σ H D I hw =>
  wpAny_mono (h pins s σ H D (I.wish _) hw) (fun _ _ q => q.unwish) fun _ _ z => False.elim z
end
section
variable {X : Cx} {st : Stmt} {rest : List Stmt} {t u : TS} {e : Expr} {te : TE} {pos : Pos}
def tNext : TS := fun D σ H => D.nx σ H
def tSeq (t u : TS) : TS := fun D σ H => t { D with nx := u D } σ H
theorem pss_nil : PSs X [] tNext := fun _ _ σ H _ I h => wpAny_execs_nil ⟨σ, H, I, h⟩
theorem pss_cons (h1 : PS X st t) (h2 : PSs X rest u) : PSs X (st :: rest) (tSeq t u) := by
  intro pins s σ H D I h
  refine wpAny_execs_cons (thn (h1 pins s σ H { D with nx := u D } I h) fun f s1 q => ?_)
  cases f with
  | next =>
    obtain ⟨σ', H', I', q⟩ := q
    exact h2 pins s1 σ' H' D I' q
  | ret v => exact q
  | brk => exact q
  | cont => exact q
theorem pss_one (h1 : PS X st t) : PSs X [st] t := by
  intro pins s σ H D I h
  refine wpAny_execs_cons (thn (h1 pins s σ H D I h) fun f s1 q => ?_)
  cases f with
  | next => exact wpAny_execs_nil q
  | ret v => exact q
  | brk => exact q
  | cont => exact q
theorem Inv.quiet {pins : List (Addr × Obj)} {σ : St} {H : Hp} {s : Shared} (I : Inv X pins σ H s) : interactive X.env = false := by simp [interactive, I.ok.kind]
def tDrop (te : TE) : TS := fun D σ H => te σ H fun _ H1 => D.nx σ H1
theorem ps_expr (he : PE X e te) (hs : swapsWith e none pos.line X.env = pure false := by rfl) : PS X (.Expr e pos) (tDrop te) := by
  intro pins s σ H D I h
  exact wpAny_Expr_any (thn (he pins s σ H _ I h) fun v s1 ⟨x, H1, I1, r1, q1⟩ => ⟨σ, H1, I1, q1⟩) I.quiet hs
def tRet (te : TE) : TS := fun D σ H => te σ H D.rt
theorem ps_ret (he : PE X e te) : PS X (.Return (some e) pos) (tRet te) := by
  intro pins s σ H D I h
  exact wpAny_Return_some (thn (he pins s σ H _ I h) fun v s1 ⟨x, H1, I1, r1, q1⟩ => ⟨x, σ, H1, I1, r1, q1⟩)
def tIfS (c : TT) (t u : TS) : TS := fun D σ H => c σ H fun b H1 => if b = true then t D σ H1 else u D σ H1
theorem ps_if {c : Expr} {a b : List Stmt} {tc : TT} (hc : PT X c tc) (ha : PSs X a t) (hb : PSs X b u) : PS X (.If c a b pos) (tIfS tc t u) := by
  intro pins s σ H D I h
  refine wpAny_If (thn (hc pins s σ H _ I h) fun d s1 ⟨H1, I1, q1⟩ => ?_)
  cases d with
  | true => exact ha pins s1 σ H1 D I1 q1
  | false => exact hb pins s1 σ H1 D I1 q1
end
abbrev TG := V → St → Hp → (St → Hp → Prop) → Prop
def PG (X : Cx) (target : Expr) (t : TG) : Prop :=
  ∀ (pins : List (Addr × Obj)) (s : Shared) (σ : St) (H : Hp) (v : V) (u : Value) (Q : St → Hp → Prop), Inv X pins σ H s → RelV v u → t v σ H Q →
    wpAny (model X.prog X.w) X.A (assign target X.env u) (fun _ s' => ∃ σ' H', Inv X pins σ' H' s' ∧ Q σ' H') X.xe s
abbrev TSet := V → V → V → Hp → (Hp → Prop) → Prop
def PSet (X : Cx) (t : TSet) : Prop :=
  ∀ (pins : List (Addr × Obj)) (s : Shared) (σ : St) (H : Hp) (o i v : V) (ov iv u : Value) (Q : Hp → Prop), Inv X pins σ H s → RelV o ov → RelV i iv → RelV v u → t o i v H Q →
    wpAny (model X.prog X.w) X.A (setItem ov iv u) (fun _ s' => ∃ H', Inv X pins σ H' s' ∧ Q H') X.xe s
abbrev TIp := V → V → Hp → VK → Prop
def PIp (X : Cx) (op : Operator) (t : TIp) : Prop :=
  ∀ (pins : List (Addr × Obj)) (s : Shared) (σ : St) (H : Hp) (x y : V) (v u : Value) (Q : VK), Inv X pins σ H s → RelV x v → RelV y u → t x y H Q →
    wpAny (model X.prog X.w) X.A (inplaceOp op v u) (EP X pins σ Q) X.xe s
section
variable {X : Cx} {pos : Pos}
def gName (i : Nat) : TG := fun v σ H Q => Q (σ.set i (some v)) H
theorem pg_name {i : Nat} {x : Str} (hN : X.N.Nodup) (hi : X.N[i]? = some x) (hx : Loc X.env.scope x) (hf : X.fn x = true ∨ X.env.scope.names.lookup x = some .local := by first | exact .inl rfl | exact .inr rfl | assumption) : PG X (.Name x pos) (gName i) := by
  intro pins s σ H v u Q I r h
  exact wpAny_assign_Name (store_ok I hN hi hx r (fun s' I' => ⟨_, H, I', h⟩) hf)
def gSub (to ti : TE) (t : TSet) : TG := fun v σ H Q => to σ H fun o H1 => ti σ H1 fun i H2 => t o i v H2 fun H3 => Q σ H3
theorem pg_sub {o i : Expr} {to ti : TE} {t : TSet} (ho : PE X o to) (hi : PE X i ti) (hs : PSet X t)
    (ha : ∀ v, assign (.Subscript o i pos) X.env v = (do
      let ov ← holding [v] (eval o X.env)
      let iv ← holding [v, ov] (eval i X.env)
      standAt pos
      holding [v, ov, iv] (setItem ov iv v)
      release [v, ov, iv] []) := by intro _; rfl) : PG X (.Subscript o i pos) (gSub to ti t) := by
  intro pins s σ H v u Q I r h
  rw [ha]
  refine wpAny_bind (wpAny_holding (thn (ho pins s σ H _ I h) fun ov s1 ⟨x, H1, I1, r1, q1⟩ => ?_))
  refine wpAny_bind (wpAny_holding (thn (hi pins s1 σ H1 _ I1 q1) fun iv s2 ⟨y, H2, I2, r2, q2⟩ => ?_))
  refine wpAny_bind (wpAny_standAt (wpAny_bind (wpAny_holding (thn (hs pins s2 σ H2 x y v ov iv u _ I2 r1 r2 r q2) fun _ s3 ⟨H3, I3, q3⟩ => ?_))))
  exact wpAny_release ⟨σ, H3, I3, q3⟩
def tAsg (te : TE) (g : TG) : TS := fun D σ H => te σ H fun x H1 => g x σ H1 D.nx
theorem ps_asg {tg e : Expr} {te : TE} {g : TG} (he : PE X e te) (hg : PG X tg g) (hs : swapsWithSole [tg] e pos.line X.env = pure false := by rfl) (hw : swappedStores [tg] e X.env = pure none := by rfl)
    (h1 : (assignEach [tg] X.env).map (·.2) = [assign tg X.env] := by rfl) : PS X (.Assign [tg] e pos) (tAsg te g) := by
  intro pins s σ H D I h
  refine wpAny_Assign_stores (thn (he pins s σ H _ I h) fun v s1 ⟨x, H1, I1, r1, q1⟩ => ?_) hs hw
  rw [h1]
  exact thn (hg pins s1 σ H1 x v _ I1 r1 q1) fun _ s2 q => q
theorem ps_set {i : Nat} {x : Str} {e : Expr} {te : TE} {pos' : Pos} (hN : X.N.Nodup) (hi : X.N[i]? = some x) (hx : Loc X.env.scope x) (he : PE X e te) (hs : swapsWith e (some (.Name x pos')) pos.line X.env = pure false := by rfl) (hf : X.fn x = true ∨ X.env.scope.names.lookup x = some .local := by first | exact .inl rfl | exact .inr rfl | assumption) :
    PS X (.Assign [.Name x pos'] e pos) (tAsg te (gName i)) := by
  intro pins s σ H D I h
  refine wpAny_Assign_Name (thn (he pins s σ H _ I h) fun v s1 ⟨y, H1, I1, r1, q1⟩ => ?_) hs
  exact store_ok I1 hN hi hx r1 (fun s2 I2 => ⟨_, H1, I2, q1⟩) hf
def tAug (i : Nat) (te : TE) (ti : TIp) : TS := fun D σ H => ∃ x, σ[i]? = some (some x) ∧ te σ H fun y H1 => ti x y H1 fun z H2 => D.nx (σ.set i (some z)) H2
theorem ps_aug {i : Nat} {x : Str} {e : Expr} {te : TE} {op : Operator} {ti : TIp} {pos' : Pos} (hN : X.N.Nodup) (hi : X.N[i]? = some x) (hx : Loc X.env.scope x) (he : PE X e te) (ho : PIp X op ti) (hf : X.fn x = true ∨ X.env.scope.names.lookup x = some .local := by first | exact .inl rfl | exact .inr rfl | assumption) :
    PS X (.AugAssign (.Name x pos') op e pos) (tAug i te ti) := by
  intro pins s σ H D I h
  obtain ⟨v, e1, h⟩ := h
  obtain ⟨m, hn, hl⟩ := I.loc
  have vis : Vis X.env.scope x := by rcases hx with k | k; exact .inl k; exact .inr (.inl k)
  obtain ⟨u, r, l⟩ := hl i x v hi e1 vis
  refine wpAny_AugAssign_Name ?_
  have go : wpAny (model X.prog X.w) X.A (eval e X.env) (fun w s₂ => wpAny (model X.prog X.w) X.A (inplaceOp op u w) (fun r s₃ => wpAny (model X.prog X.w) X.A (storeName X.env x r) (fun _ => SP X pins D .next) X.xe s₃) X.xe s₂) X.xe s := by
    refine thn (he pins s σ H _ I h) fun w s1 ⟨y, H1, I1, r1, q1⟩ => ?_
    refine thn (ho pins s1 σ H1 v y u w _ I1 r r1 q1) fun z s2 ⟨zv, H2, I2, r2, q2⟩ => ?_
    exact store_ok I2 hN hi hx r2 (fun s3 I3 => ⟨_, H2, I3, q2⟩) hf
  rcases l with ⟨hk, hm⟩ | ⟨hk, c, hc, hcell⟩
  · exact wpAny_loadName_local I.ok.kind hk hn hm go
  · rcases hk with hk | hk
    · exact wpAny_loadName_cell I.ok.kind hk hc hcell go
    · rcases hx with k | k
      · have : X.env.scope.names.lookup x = some .free := hk
        rw [k] at this; cases this
      · have : X.env.scope.names.lookup x = some .free := hk
        rw [k] at this; cases this
def tAugS (to ti te : TE) (tget : V → V → Hp → VK → Prop) (tip : TIp) (tset : TSet) : TS := fun D σ H => to σ H fun o H1 => ti σ H1 fun i H2 => tget o i H2 fun x H3 => te σ H3 fun y H4 => tip x y H4 fun z H5 => tset o i z H5 fun H6 => D.nx σ H6
def PGet (X : Cx) (t : V → V → Hp → VK → Prop) : Prop :=
  ∀ (pins : List (Addr × Obj)) (s : Shared) (σ : St) (H : Hp) (o i : V) (ov iv : Value) (Q : VK), Inv X pins σ H s → RelV o ov → RelV i iv → t o i H Q →
    wpAny (model X.prog X.w) X.A (getItem ov iv) (EP X pins σ Q) X.xe s
theorem ps_augS {o i e : Expr} {to ti te : TE} {tget : V → V → Hp → VK → Prop} {tip : TIp} {tset : TSet} {op : Operator} {tpos : Pos} (ho : PE X o to) (hi : PE X i ti) (hg : PGet X tget) (he : PE X e te) (hp : PIp X op tip) (hs : PSet X tset)
    (ha : ∀ ov iv new, augStore i ov iv new = (do holding [new, ov, iv] (setItem ov iv new); release [new, ov, iv] []; pure .next) := by intros; rfl) : PS X (.AugAssign (.Subscript o i tpos) op e pos) (tAugS to ti te tget tip tset) := by
  intro pins s σ H D I h
  refine wpAny_AugAssign_SubscriptAny (thn (ho pins s σ H _ I h) fun ov s1 ⟨x1, H1, I1, r1, q1⟩ => ?_) ha
  refine thn (hi pins s1 σ H1 _ I1 q1) fun iv s2 ⟨x2, H2, I2, r2, q2⟩ => ?_
  refine thn (hg pins s2 σ H2 x1 x2 ov iv _ I2 r1 r2 q2) fun old s3 ⟨x3, H3, I3, r3, q3⟩ => ?_
  refine thn (he pins s3 σ H3 _ I3 q3) fun v s4 ⟨x4, H4, I4, r4, q4⟩ => ?_
  refine thn (hp pins s4 σ H4 x3 x4 old v _ I4 r3 r4 q4) fun new s5 ⟨x5, H5, I5, r5, q5⟩ => ?_
  exact thn (hs pins s5 σ H5 x1 x2 x5 ov iv new _ I5 r1 r2 r5 q5) fun _ s6 ⟨H6, I6, q6⟩ => ⟨σ, H6, I6, q6⟩
def ipI (f : Int → Int → Int) : TIp := fun x y H Q => ∃ i j, x = .int i ∧ y = .int j ∧ Q (.int (f i j)) H
theorem ip_add : PIp X .Add (ipI fun i j => i + j) := by
  intro pins s σ H x y v u Q I r1 r2 h
  obtain ⟨i, j, e1, e2, q⟩ := h
  subst e1; subst e2
  obtain ⟨t, rfl⟩ := r1
  obtain ⟨t', rfl⟩ := r2
  exact iadd_int ⟨.int _, H, I.tok _, ⟨_, rfl⟩, q⟩
end
section
variable {X : Cx} {pos : Pos}
def tWhile (c : TT) (tb : TS) : TS := fun D σ H => ∃ W : Nat → St → Hp → Prop, (∃ m, W m σ H) ∧ ∀ m σ H, W m σ H →
  c σ H fun b H1 => if b = true then ∃ N : St → Hp → Prop, (∀ σ' H', N σ' H' → ∃ m', m' < m ∧ W m' σ' H') ∧ tb { D with nx := N, ct := N, bk := D.nx } σ H1 else D.nx σ H1
theorem ps_while {c : Expr} {body : List Stmt} {tc : TT} {tb : TS} (hp : PassesOwn (model X.prog X.w) X.A X.env X.xe) (hc : PT X c tc) (hb : PSs X body tb) : PS X (.While c body [] pos) (tWhile tc tb) := by
  intro pins s σ H D I h
  obtain ⟨W, ⟨m0, w0⟩, turn⟩ := h
  refine wpAny_While (codeAny_whileLoop (fun n s' => ∃ σ' H', Inv X pins σ' H' s' ∧ W n σ' H') ?_ m0 ⟨σ, H, I, w0⟩)
  rintro n s1 ⟨σ1, H1, I1, w1⟩
  refine wpAny_passesOwn hp (thn (hc pins s1 σ1 H1 _ I1 (turn n σ1 H1 w1)) fun b s2 ⟨H2, I2, q2⟩ => ?_)
  cases b with
  | true =>
    obtain ⟨N, hN, q2⟩ := q2
    rw [if_pos rfl]
    refine wpAny_passesOwn hp (thn (hb pins s2 σ1 H2 _ I2 q2) fun f s3 q3 => ?_)
    cases f with
    | next =>
      obtain ⟨σ3, H3, I3, n3⟩ := q3
      obtain ⟨m', hm, w3⟩ := hN σ3 H3 n3
      exact ⟨m', hm, σ3, H3, I3, w3⟩
    | cont =>
      obtain ⟨σ3, H3, I3, n3⟩ := q3
      obtain ⟨m', hm, w3⟩ := hN σ3 H3 n3
      exact ⟨m', hm, σ3, H3, I3, w3⟩
    | brk => exact q3
    | ret v => exact q3
  | false =>
    rw [if_neg Bool.false_ne_true]
    exact wpAny_execs_nil ⟨σ1, H2, I2, q2⟩
end
structure It where
  go : Nat → Hp → Prop
  yld : Nat → Hp → V → Hp → Prop
  stop : Nat → Hp → Prop
def FpOk (X : Cx) (pins : List (Addr × Obj)) (H : Hp) (b : Addr) : Prop :=
  H b = none ∧ b ≠ X.env.locals ∧ b ∉ X.fs ∧ (b ∈ X.ex ∨ X.s_0.heap.objs.size ≤ b) ∧ (∀ x c, X.env.cells.lookup x = some c → c ≠ b) ∧ ∀ p ∈ X.pn ++ pins, p.1 ≠ b
theorem Inv.fpOk {X : Cx} {pins : List (Addr × Obj)} {σ : St} {H H' : Hp} {s : Shared} {b : Addr} (I : Inv X pins σ H s) (hb : s.heap.objs.size ≤ b) (hn : H' b = none) : FpOk X pins H' b := by
  refine ⟨hn, Nat.ne_of_gt (Nat.lt_of_lt_of_le I.lt hb), I.nofs hb, .inr (Nat.le_trans I.sz hb), fun x c e z => ?_, fun p hp z => ?_⟩
  · obtain ⟨v, q⟩ := I.cell x c e
    exact absurd (Nat.lt_of_lt_of_le q.lt (by rw [z]; exact hb)) (Nat.lt_irrefl _)
  · exact absurd (Nat.lt_of_lt_of_le (Heap.lt_size (I.pin p hp).1) (by rw [z]; exact hb)) (Nat.lt_irrefl _)
structure Turn (P : Program) (w : World) (K : PySem.W.Frag) (tg : Expr) (J : It) (fp : List Addr) (it : Addr) (tn : Nat → Heap → Prop) : Prop where
  mem : it ∈ fp
  obj : ∀ i h, tn i h → ∀ b ∈ fp, ∃ o, h.get? b = some o ∧ ∀ v, o.data ≠ .cell v
  keep : ∀ i h h', tn i h → (∀ b ∈ fp, ∀ o, h.get? b = some o → h'.get? b = some o) → tn i h'
  item : ∀ (X : Cx), X.prog = P → X.w = w → X.K = K → X.calm = true → ∀ (i : Nat) (pins : List (Addr × Obj)) (s : Shared) (σ : St) (H : Hp) (E : Value → Shared → Prop), Inv X pins σ H s → (∀ b ∈ fp, FpOk X pins H b) → tn i s.heap → J.go i H →
    wpAny (model P w) X.A (pyNext (.ref it)) (fun r s1 => ∃ u, r = some u ∧
      wpAny (model P w) X.A (letOwnedTupleGo tg (.ref it) u) (fun _ s2 => ∃ x H', Inv X pins σ H' s2 ∧ RelV x u ∧ J.yld i H x H' ∧ tn (i + 1) s2.heap ∧ ∀ b ∈ fp, H' b = none) E s1) E s
  done : ∀ (X : Cx), X.prog = P → X.w = w → X.K = K → X.calm = true → ∀ (i : Nat) (pins : List (Addr × Obj)) (s : Shared) (σ : St) (H : Hp) (E : Value → Shared → Prop), Inv X pins σ H s → (∀ b ∈ fp, FpOk X pins H b) → tn i s.heap → J.stop i H →
    wpAny (model P w) X.A (pyNext (.ref it)) (fun r s1 => r = none ∧ Inv X pins σ H s1) E s
  self : ∀ (A : Around) (i : Nat) (s : Shared) (Q : Value → Shared → Prop) (E : Value → Shared → Prop), tn i s.heap → Q (.ref it) s → wpAny (model P w) A (pyIter (.ref it)) Q E s
abbrev TI := St → Hp → (It → Hp → Prop) → Prop
def PIE (X : Cx) (pins : List (Addr × Obj)) (σ : St) (tg : Expr) (R : It → Hp → Prop) (itv : Value) (s2 : Shared) : Prop :=
  ∃ (it : Addr) (fp : List Addr) (tn : Nat → Heap → Prop) (J : It) (H' : Hp), itv = .ref it ∧ Inv X pins σ H' s2 ∧ Turn X.prog X.w X.K tg J fp it tn ∧ tn 0 s2.heap ∧ (∀ b ∈ fp, FpOk X pins H' b) ∧ R J H'
def PI (X : Cx) (tg iter : Expr) (wi : TI) : Prop :=
  ∀ (pins : List (Addr × Obj)) (s : Shared) (σ : St) (H : Hp) (R : It → Hp → Prop), Inv X pins σ H s → wi σ H R →
    wpAny (model X.prog X.w) X.A (eval iter X.env) (fun v s1 => wpAny (model X.prog X.w) X.A (pyIter v) (PIE X pins σ tg R) X.xe s1) X.xe s
theorem go_of {M : Model} {A : Around} {E : Value → Shared → Prop} {s : Shared} {tg : Expr} {it : Addr} {u : Value} {o : Obj} {n : String} {vs : Array Value} {Q : Unit → Shared → Prop} (ho : s.heap.get? it = some o) (hc : o.cls = .type n) (hd : o.data = .fields vs)
    (hn : ["enumerate", "zip", "dict_itemiterator", "dict_reverseitemiterator", "odict_iterator", "itertools.zip_longest", "itertools.pairwise"].contains n = false) (hQ : Q () s) : wpAny M A (letOwnedTupleGo tg (.ref it) u) Q E s := by
  unfold letOwnedTupleGo
  cases tg <;> first
    | exact wpAny_pure hQ
    | (cases u <;> first
        | exact wpAny_pure hQ
        | (refine wpAny_bind (wpAny_load ho ?_)
           rw [hc, hd]
           show wpAny M A (if (["enumerate", "zip", "dict_itemiterator", "dict_reverseitemiterator", "odict_iterator", "itertools.zip_longest", "itertools.pairwise"].contains n && vs[0]? == some (rawInt _)) = true then _ else _) Q E s
           rw [if_neg (by intro h; rw [hn, Bool.false_and] at h; cases h)]
           exact wpAny_pure hQ))
def Itl (K : PySem.W.Frag) (a : Addr) : It :=
  ⟨fun i H => ∃ xs x, SqL K H a xs ∧ xs[i]? = some x, fun i H x H' => H' = H ∧ ∀ xs, SqL K H a xs → xs[i]? = some x, fun i H => ∃ xs, SqL K H a xs ∧ xs.length ≤ i⟩
def Itr (lo : Int) (n : Nat) : It := ⟨fun i _ => i < n, fun i H x H' => H' = H ∧ x = .int (lo + i), fun i _ => n ≤ i⟩
theorem turn_list {P : Program} {w : World} {K : PySem.W.Frag} {tg : Expr} (a it : Addr) : Turn P w K tg (Itl K a) [it] it (fun i h => h.IsListIter it a i) where
  mem := by simp
  obj := fun i h st b hb => by
    have e : b = it := by simpa using hb
    subst e
    obtain ⟨o, e, c, d⟩ := st
    exact ⟨o, e, fun v z => by rw [d] at z; cases z⟩
  keep := fun i h h' st k => st.at fun o e => k it (by simp) o e
  item := by
    intro X hP hw hK hc i pins s σ H E I hf st hg
    subst hP hw hK
    obtain ⟨xs, x, hq, hx⟩ := hg
    obtain ⟨its, rv, p, hz⟩ := I.list hq
    obtain ⟨u, hu, ru⟩ := rv.get hx
    obtain ⟨f0, f1, f2, f3, f4, f5⟩ := hf it (by simp)
    refine wpAny_pyNext_list_item st p.isList (x := u) (by simpa using hu) fun h' st' sb => ?_
    have I1 : Inv X pins σ H { s with heap := h' } := I.turned (t' := s.toks) (fun b o hb e => (sb.2 b hb).trans e) f0 f1 f3 f4 f5
    obtain ⟨o, e, c, d⟩ := id st'
    exact ⟨u, rfl, go_of (s := { s with heap := h' }) e c d (by decide) ⟨x, H, I1, ru, ⟨rfl, fun ys hy => by rw [I.list_inj hy hq]; exact hx⟩, st', fun b hb => (hf b hb).1⟩⟩
  done := by
    intro X hP hw hK hc i pins s σ H E I hf st hg
    subst hP hw hK
    obtain ⟨xs, hq, hx⟩ := hg
    obtain ⟨its, rv, p, hz⟩ := I.list hq
    obtain ⟨f0, f1, f2, f3, f4, f5⟩ := hf it (by simp)
    have hl := rv.length
    exact wpAny_pyNext_list_end (I.ok.hd hc) st p.isList (by simp; omega) fun h' eb => ⟨rfl, I.turned (t' := s.toks) (fun b o hb e => eb b o hb e) f0 f1 f3 f4 f5⟩
  self := fun _ _ _ _ _ st h => wpAny_pyIter_listiter st h
theorem turn_range {P : Program} {w : World} {K : PySem.W.Frag} {tg : Expr} (it : Addr) (lo : Int) (n : Nat) : Turn P w K tg (Itr lo n) [it] it (fun i h => IsRangeIter h it (lo + (i : Nat) * 1) ((n : Int) - (i : Nat)) 1) where
  mem := by simp
  obj := fun i h st b hb => by
    have e : b = it := by simpa using hb
    subst e
    exact ⟨_, st, fun v z => by
      have z' : Data.fields _ = Data.cell v := z
      cases z'⟩
  keep := fun i h h' st k => k it (by simp) _ st
  item := by
    intro X hP hw hK hc i pins s σ H E I hf st hg
    subst hP hw hK
    obtain ⟨f0, f1, f2, f3, f4, f5⟩ := hf it (by simp)
    have W := Walks.range (prog := X.prog) (w := X.w) (I.ok.hd hc) it lo 1 n
    refine W.item i s _ _ hg st fun v h' tk hv st' kk => ?_
    obtain ⟨t, rfl⟩ := hv
    have I1 : Inv X pins σ H { s with heap := h', toks := tk } := I.turned (fun b o hb e => kk b o (by simpa using hb) e) f0 f1 f3 f4 f5
    refine ⟨_, rfl, go_of (s := { s with heap := h', toks := tk }) (n := "range_iterator") st' rfl rfl (by decide) ⟨.int (lo + i), H, I1, ⟨t, ?_⟩, ⟨rfl, rfl⟩, st', fun b hb => (hf b hb).1⟩⟩
    rw [Int.mul_one]
  done := by
    intro X hP hw hK hc i pins s σ H E I hf st hg
    subst hP hw hK
    obtain ⟨f0, f1, f2, f3, f4, f5⟩ := hf it (by simp)
    exact wpAny_pyNext_range_end (I.ok.hd hc) st (by have : n ≤ i := hg; omega) fun h' eb => ⟨rfl, I.turned (t' := s.toks) (fun b o hb e => eb b o hb e) f0 f1 f3 f4 f5⟩
  self := fun _ _ _ _ _ st h => wpAny_pyIter_rangeiter st h
end L2
namespace L2
open PySem PySem.Spec PyProof.Rows
section
variable {X : Cx} {tg : Expr}
def iList (K : PySem.W.Frag) (tl : TE) : TI := fun σ H R => tl σ H fun x H1 => ∃ a, x = .ref a ∧ (∃ xs, SqL K H1 a xs) ∧ R (Itl K a) H1
theorem pi_list {l : Expr} {tl : TE} (hl : PE X l tl) : PI X tg l (iList X.K tl) := by
  intro pins s σ H R I h
  refine thn (hl pins s σ H _ I h) fun v s1 ⟨x, H1, I1, r1, q1⟩ => ?_
  obtain ⟨a, e, ⟨xs, hq⟩, q⟩ := q1
  subst e
  cases r1
  obtain ⟨its, rv, p, hz⟩ := I1.list hq
  refine wpAny_pyIter_list p.isList ?_
  refine ⟨s1.heap.objs.size, [s1.heap.objs.size], _, _, H1, rfl, I1.kept (t' := s1.toks) fun b o e => Heap.get?_push_of_some _ e, turn_list a _, ⟨_, Heap.get?_push_size _ rfl, rfl, rfl⟩, fun b hb => ?_, q⟩
  have e : b = s1.heap.objs.size := by simpa using hb
  subst e
  exact I1.fpOk (Nat.le_refl _) (I1.hok.fresh (Nat.le_refl _))
theorem range_it {pins : List (Addr × Obj)} {σ : St} {H : Hp} {s : Shared} {R : It → Hp → Prop} {E : Value → Shared → Prop} {lo hi : Int} {t u v : Tok} {tk : Nat} (I : Inv X pins σ H s) (h1 : -(2 ^ 62) ≤ lo) (h2 : lo < 2 ^ 62) (h3 : -(2 ^ 62) ≤ hi) (h4 : hi < 2 ^ 62)
    (q : R (Itr lo (hi - lo).toNat) H) : wpAny (model X.prog X.w) X.A (pyIter (.ref s.heap.objs.size)) (PIE X pins σ tg R) E { s with heap := s.heap.push { cls := .type "range", data := .fields #[.int lo t, .int hi u, .int 1 v] }, toks := tk } := by
  refine wpAny_pyIter_range (IsRange.new ..) (small_one h1 h2 h3 h4) ?_
  have I1 : Inv X pins σ H { s with heap := s.heap.push { cls := .type "range", data := .fields #[.int lo t, .int hi u, .int 1 v] }, toks := tk } := I.kept fun b o e => Heap.get?_push_of_some _ e
  refine ⟨(s.heap.push { cls := .type "range", data := .fields #[.int lo t, .int hi u, .int 1 v] }).objs.size, [(s.heap.push { cls := .type "range", data := .fields #[.int lo t, .int hi u, .int 1 v] }).objs.size], _, _, H, rfl,
    I1.kept (t' := tk) fun b o e => Heap.get?_push_of_some _ e, turn_range _ lo (hi - lo).toNat, ?_, fun b hb => ?_, q⟩
  · have e1 : lo + ((0 : Nat) : Int) * 1 = lo := by simp
    have e2 : (((hi - lo).toNat : Nat) : Int) - ((0 : Nat) : Int) = Builtin.Range.rangeSize lo hi 1 := by rw [rangeSize_one]; split <;> omega
    show IsRangeIter _ _ (lo + ((0 : Nat) : Int) * 1) ((((hi - lo).toNat : Nat) : Int) - ((0 : Nat) : Int)) 1
    rw [e1, e2]
    exact Heap.get?_push_size _ rfl
  · have e : b = (s.heap.push { cls := .type "range", data := .fields #[.int lo t, .int hi u, .int 1 v] }).objs.size := by simpa using hb
    subst e
    exact I1.fpOk (Nat.le_refl _) (I1.hok.fresh (Nat.le_refl _))
def iRng1 (ta : TA) : TI := fun σ H R => ta σ H fun vs H1 => ∃ j : Int, vs = [.int j] ∧ -(2 ^ 62) ≤ j ∧ j < 2 ^ 62 ∧ R (Itr 0 j.toNat) H1
def iRng2 (ta : TA) : TI := fun σ H R => ta σ H fun vs H1 => ∃ i j : Int, vs = [.int i, .int j] ∧ (-(2 ^ 62) ≤ i ∧ i < 2 ^ 62 ∧ -(2 ^ 62) ≤ j ∧ j < 2 ^ 62) ∧ R (Itr i (j - i).toNat) H1
theorem pi_range1 {a : Expr} {ta : TA} {p pos : Pos} (hg : Gl X "range") (hm : X.mg "range" = none) (ha : PA X [a] ta) (hs : starEach [a] X.env = [(false, eval a X.env)] := by rfl) : PI X tg (.Call (.Name "range" p) [a] [] pos) (iRng1 ta) := by
  intro pins s σ H R I h
  refine Call_ (ld_blt I hg hm boot_range (PyProof.Rows.callWith_type1 (thn (ha pos pins s σ H _ I h) fun us s1 ⟨vs, H1, I1, r1, q1⟩ => ?_) hs rfl))
  obtain ⟨j, e, q1, q2, q⟩ := q1
  subst e
  cases r1 with
  | cons r rr =>
    cases rr
    obtain ⟨t, rfl⟩ := r
    exact call_range_1 (range_it I1 (by omega) (by omega) q1 q2 (by simpa using q))
theorem pi_range2 {a b : Expr} {ta : TA} {p pos : Pos} (hg : Gl X "range") (hm : X.mg "range" = none) (ha : PA X [a, b] ta) (hs : starEach [a, b] X.env = [(false, eval a X.env), (false, eval b X.env)] := by rfl) (hs2 : starEach [b] X.env = [(false, eval b X.env)] := by rfl) :
    PI X tg (.Call (.Name "range" p) [a, b] [] pos) (iRng2 ta) := by
  intro pins s σ H R I h
  refine Call_ (ld_blt I hg hm boot_range (PyProof.Rows.callWith_type1 (thn (ha pos pins s σ H _ I h) fun us s1 ⟨vs, H1, I1, r1, q1⟩ => ?_) (by rw [hs, hs2]) (by rw [hs2]; rfl)))
  obtain ⟨i, j, e, ⟨q1, q2, q3, q4⟩, q⟩ := q1
  subst e
  cases r1 with
  | cons r rr =>
    cases rr with
    | cons r' rr =>
      cases rr
      obtain ⟨t, rfl⟩ := r
      obtain ⟨t', rfl⟩ := r'
      exact call_range_2 (range_it I1 q1 q2 q3 q4 q)
def tFor (wi : TI) (g : TG) (tb : TS) : TS := fun D σ H => wi σ H fun J H1 => ∃ W : Nat → Nat → St → Hp → Prop, (∃ m, W 0 m σ H1) ∧ ∀ i m σ H, W i m σ H →
  (J.stop i H ∧ D.nx σ H) ∨ (J.go i H ∧ ∃ N : St → Hp → Prop, (∀ σ' H', N σ' H' → ∃ m', m' < m ∧ W (i + 1) m' σ' H') ∧ ∀ x H', J.yld i H x H' → g x σ H' fun σ2 H2 => tb { D with nx := N, ct := N, bk := D.nx } σ2 H2)
def pinsAt (fp : List Addr) (h : Heap) : List (Addr × Obj) := fp.filterMap fun b => (h.get? b).map fun o => (b, o)
theorem mem_pinsAt {fp : List Addr} {h : Heap} {b : Addr} {o : Obj} (hb : b ∈ fp) (e : h.get? b = some o) : (b, o) ∈ pinsAt fp h := List.mem_filterMap.mpr ⟨b, hb, by rw [e]; rfl⟩
theorem of_pinsAt {fp : List Addr} {h : Heap} {p : Addr × Obj} (hp : p ∈ pinsAt fp h) : p.1 ∈ fp ∧ h.get? p.1 = some p.2 := by
  obtain ⟨b, hb, e⟩ := List.mem_filterMap.mp hp
  cases q : h.get? b with
  | none => rw [q] at e; cases e
  | some o =>
    rw [q] at e
    have e' : (b, o) = p := Option.some.inj e
    subst e'
    exact ⟨hb, q⟩
theorem Inv.pinned {pins : List (Addr × Obj)} {σ : St} {H : Hp} {s : Shared} {fp : List Addr} (I : Inv X pins σ H s) (hf : ∀ b ∈ fp, FpOk X pins H b) (ho : ∀ b ∈ fp, ∃ o, s.heap.get? b = some o ∧ ∀ v, o.data ≠ .cell v) : Inv X (pins ++ pinsAt fp s.heap) σ H s :=
  I.pins_of fun p hp => (List.mem_append.mp hp).elim (fun z => I.pin p (List.mem_append_right _ z)) fun z => by
    obtain ⟨hb, e⟩ := of_pinsAt z
    obtain ⟨f0, f1, f2, _⟩ := hf p.1 hb
    obtain ⟨o, e', d⟩ := ho p.1 hb
    rw [e] at e'; cases e'
    exact ⟨e, f0, f1, f2, d⟩
theorem Inv.unpinned {pins pl : List (Addr × Obj)} {σ : St} {H : Hp} {s : Shared} (I : Inv X (pins ++ pl) σ H s) : Inv X pins σ H s := I.pins_of fun p hp => I.pin p (List.mem_append_right _ (List.mem_append_left _ hp))
theorem ps_for {iter : Expr} {body : List Stmt} {wi : TI} {g : TG} {tb : TS} {pos : Pos} (hp : PassesOwn (model X.prog X.w) X.A X.env X.xe) (hc : X.calm = true) (hi : PI X tg iter wi) (hg : PG X tg g) (hb : PSs X body tb)
    (hs : ∀ x, foldedSetIterable iter X.env x = pure x := by intro _; rfl) : PS X (.For tg iter body [] pos) (tFor wi g tb) := by
  intro pins s σ H D I h
  refine wpAny_For (thn (hi pins s σ H _ I h) fun v s1 h1 => thn h1 fun itv s2 h2 => ?_) hs
  obtain ⟨it, fp, tn, J, H2, e, I2, T, st2, f2, W, ⟨m0, w0⟩, turn⟩ := h2
  subst e
  have stat : ∀ {H' : Hp}, (∀ b ∈ fp, H' b = none) → ∀ b ∈ fp, FpOk X pins H' b := fun hn b hb => ⟨hn b hb, (f2 b hb).2⟩
  refine codeAny_forLoop_any (fun n s' => ∃ i σ' H', Inv X pins σ' H' s' ∧ tn i s'.heap ∧ (∀ b ∈ fp, H' b = none) ∧ W i n σ' H') ?_ m0 ⟨0, σ, H2, I2, st2, fun b hb => (f2 b hb).1, w0⟩
  rintro n s3 ⟨i, σ3, H3, I3, st3, fr3, w3⟩
  rcases turn i n σ3 H3 w3 with ⟨stop, qn⟩ | ⟨go, N, hN, step⟩
  · refine wpAny_passesOwn hp (thn (T.done X rfl rfl rfl hc i pins s3 σ3 H3 X.xe I3 (stat fr3) st3 stop) fun r s4 ⟨hr, I4⟩ => ?_)
    subst hr
    exact wpAny_execs_nil ⟨σ3, H3, I4, qn⟩
  · refine wpAny_passesOwn hp (thn (T.item X rfl rfl rfl hc i pins s3 σ3 H3 X.xe I3 (stat fr3) st3 go) fun r s4 ⟨u, hr, h4⟩ => ?_)
    subst hr
    refine wpAny_passesOwn hp (thn h4 fun _ s5 ⟨x, H5, I5, r5, y5, st5, fr5⟩ => ?_)
    have I5' := I5.pinned (stat fr5) (T.obj _ _ st5)
    refine wpAny_passesOwn hp (thn (hg _ s5 σ3 H5 x u _ I5' r5 (step x H5 y5)) fun _ s6 ⟨σ6, H6, I6, q6⟩ => ?_)
    refine wpAny_passesOwn hp (thn (hb _ s6 σ6 H6 _ I6 q6) fun f s7 q7 => ?_)
    have again : ∀ {σ7 : St} {H7 : Hp}, Inv X (pins ++ pinsAt fp s5.heap) σ7 H7 s7 → N σ7 H7 → ∃ m, m < n ∧ ∃ i σ' H', Inv X pins σ' H' s7 ∧ tn i s7.heap ∧ (∀ b ∈ fp, H' b = none) ∧ W i m σ' H' := fun {σ7 H7} I7 n7 => by
      obtain ⟨m', hm, w7⟩ := hN σ7 H7 n7
      refine ⟨m', hm, i + 1, σ7, H7, I7.unpinned, T.keep _ _ _ st5 fun b hb o e => (I7.pin (b, o) (List.mem_append_right _ (List.mem_append_right _ (mem_pinsAt hb e)))).1, fun b hb => ?_, w7⟩
      obtain ⟨o, e, d⟩ := T.obj _ _ st5 b hb
      exact (I7.pin (b, o) (List.mem_append_right _ (List.mem_append_right _ (mem_pinsAt hb e)))).2.1
    cases f with
    | next => obtain ⟨σ7, H7, I7, n7⟩ := q7; exact again I7 n7
    | cont => obtain ⟨σ7, H7, I7, n7⟩ := q7; exact again I7 n7
    | brk => obtain ⟨σ7, H7, I7, q7⟩ := q7; exact ⟨σ7, H7, I7.unpinned, q7⟩
    | ret v => obtain ⟨x7, σ7, H7, I7, r7, q7⟩ := q7; exact ⟨x7, σ7, H7, I7.unpinned, r7, q7⟩
end
theorem for_list {K : PySem.W.Frag} {a : Addr} {xs : List V} {g : TG} {tb : TS} {D : Ends} {σ : St} {H : Hp} (Pv : Nat → St → Hp → Prop) (h0 : Pv 0 σ H) (hl : ∀ i σ H, i ≤ xs.length → Pv i σ H → SqL K H a xs)
    (hs : ∀ i x σ H, xs[i]? = some x → Pv i σ H → g x σ H fun σ2 H2 => tb { D with nx := Pv (i + 1), ct := Pv (i + 1), bk := D.nx } σ2 H2) (hd : ∀ σ H, Pv xs.length σ H → D.nx σ H) :
    ∃ W : Nat → Nat → St → Hp → Prop, (∃ m, W 0 m σ H) ∧ ∀ i m σ H, W i m σ H →
      ((Itl K a).stop i H ∧ D.nx σ H) ∨ ((Itl K a).go i H ∧ ∃ N : St → Hp → Prop, (∀ σ' H', N σ' H' → ∃ m', m' < m ∧ W (i + 1) m' σ' H') ∧ ∀ x H', (Itl K a).yld i H x H' → g x σ H' fun σ2 H2 => tb { D with nx := N, ct := N, bk := D.nx } σ2 H2) := by
  refine ⟨fun i m σ H => m = xs.length - i ∧ i ≤ xs.length ∧ Pv i σ H, ⟨xs.length, by simp, Nat.zero_le _, h0⟩, ?_⟩
  rintro i m σ H ⟨rfl, hi, p⟩
  have q := hl i σ H hi p
  by_cases hlt : i < xs.length
  · refine .inr ⟨⟨xs, xs[i], q, by simp [hlt]⟩, Pv (i + 1), fun σ' H' p' => ⟨xs.length - (i + 1), by omega, rfl, hlt, p'⟩, fun x H' y => ?_⟩
    obtain ⟨e, y⟩ := y
    subst e
    exact hs i x σ _ (y xs q) p
  · have e : i = xs.length := by omega
    subst e
    exact .inl ⟨⟨xs, q, Nat.le_refl _⟩, hd σ H p⟩
theorem for_range {lo : Int} {n : Nat} {g : TG} {tb : TS} {D : Ends} {σ : St} {H : Hp} (Pv : Nat → St → Hp → Prop) (h0 : Pv 0 σ H)
    (hs : ∀ i σ H, i < n → Pv i σ H → g (.int (lo + i)) σ H fun σ2 H2 => tb { D with nx := Pv (i + 1), ct := Pv (i + 1), bk := D.nx } σ2 H2) (hd : ∀ σ H, Pv n σ H → D.nx σ H) :
    ∃ W : Nat → Nat → St → Hp → Prop, (∃ m, W 0 m σ H) ∧ ∀ i m σ H, W i m σ H →
      ((Itr lo n).stop i H ∧ D.nx σ H) ∨ ((Itr lo n).go i H ∧ ∃ N : St → Hp → Prop, (∀ σ' H', N σ' H' → ∃ m', m' < m ∧ W (i + 1) m' σ' H') ∧ ∀ x H', (Itr lo n).yld i H x H' → g x σ H' fun σ2 H2 => tb { D with nx := N, ct := N, bk := D.nx } σ2 H2) := by
  refine ⟨fun i m σ H => m = n - i ∧ i ≤ n ∧ Pv i σ H, ⟨n, by simp, Nat.zero_le _, h0⟩, ?_⟩
  rintro i m σ H ⟨rfl, hi, p⟩
  by_cases hlt : i < n
  · refine .inr ⟨hlt, Pv (i + 1), fun σ' H' p' => ⟨n - (i + 1), by omega, rfl, hlt, p'⟩, fun x H' y => ?_⟩
    obtain ⟨e, y⟩ := y
    subst e y
    exact hs i σ _ hlt p
  · have e : i = n := by omega
    subst e
    exact .inl ⟨Nat.le_refl _, hd σ H p⟩
end L2
namespace L2
open PySem PySem.Spec PyProof.Rows
abbrev R2 := V → V → Hp → VK → Prop
def OpR (X : Cx) (f : Value → Value → Sem Value) (r : R2) : Prop :=
  ∀ (pins : List (Addr × Obj)) (s : Shared) (σ : St) (H : Hp) (x y : V) (v u : Value) (Q : VK), Inv X pins σ H s → RelV x v → RelV y u → r x y H Q →
    wpAny (model X.prog X.w) X.A (f v u) (EP X pins σ Q) X.xe s
def UnR (X : Cx) (f : Value → Sem Value) (r : V → Hp → VK → Prop) : Prop :=
  ∀ (pins : List (Addr × Obj)) (s : Shared) (σ : St) (H : Hp) (x : V) (v : Value) (Q : VK), Inv X pins σ H s → RelV x v → r x H Q →
    wpAny (model X.prog X.w) X.A (f v) (EP X pins σ Q) X.xe s
def CallR (X : Cx) (f : Value) (r : List V → Hp → VK → Prop) : Prop :=
  ∀ (pins : List (Addr × Obj)) (s : Shared) (σ : St) (H : Hp) (xs : List V) (us : List Value) (Q : VK), Inv X pins σ H s → Vals xs us → r xs H Q →
    wpAny (model X.prog X.w) X.A (call f us) (EP X pins σ Q) X.xe s
def tOp (r : R2) (ta tb : TE) : TE := fun σ H Q => ta σ H fun x H1 => tb σ H1 fun y H2 => r x y H2 Q
def tUn (r : V → Hp → VK → Prop) (ta : TE) : TE := fun σ H Q => ta σ H fun x H1 => r x H1 Q
def rI (C : Int → Int → Prop) (g : Int → Int → V) : R2 := fun x y H Q => ∃ i j, x = .int i ∧ y = .int j ∧ C i j ∧ Q (g i j) H
def rI0 (g : Int → Int → V) : R2 := fun x y H Q => ∃ i j, x = .int i ∧ y = .int j ∧ Q (g i j) H
def rU (g : Int → V) : V → Hp → VK → Prop := fun x H Q => ∃ i, x = .int i ∧ Q (g i) H
section
variable {X : Cx} {a b c : Expr} {ta tb tc : TE} {pos : Pos}
theorem binT (ha : PE X a ta) (hb : PE X b tb) {pins : List (Addr × Obj)} {s : Shared} {σ : St} {H : Hp} {R : V → V → Hp → Prop} (I : Inv X pins σ H s)
    (h : ta σ H fun x H1 => tb σ H1 fun y H2 => R x y H2) {Q : Value → Shared → Prop} {f : Value → Value → Sem Value}
    (hf : ∀ v u s2 x y H2, Inv X pins σ H2 s2 → RelV x v → RelV y u → R x y H2 → wpAny (model X.prog X.w) X.A (f v u) Q X.xe s2) :
    wpAny (model X.prog X.w) X.A (eval a X.env) (fun v s₁ => wpAny (model X.prog X.w) X.A (eval b X.env) (fun u s₂ => wpAny (model X.prog X.w) X.A (f v u) Q X.xe s₂) X.xe s₁) X.xe s := by
  refine thn (ha pins s σ H _ I h) fun v s1 ⟨x, H1, I1, r1, q1⟩ => ?_
  refine thn (hb pins s1 σ H1 _ I1 q1) fun u s2 ⟨y, H2, I2, r2, q2⟩ => ?_
  exact hf v u s2 x y H2 I2 r1 r2 q2
theorem pe_op {op : Operator} {r : R2} (ho : OpR X (binaryOp op) r) (ha : PE X a ta) (hb : PE X b tb) : PE X (.BinOp a op b pos) (tOp r ta tb) := by
  intro pins s σ H Q I h
  exact wpAny_BinOp (binT ha hb I h fun v u s2 x y H2 I2 rx ry q => ho pins s2 σ H2 x y v u Q I2 rx ry q)
theorem pe_un {op : UnaryOp} {r : V → Hp → VK → Prop} (ho : UnR X (unaryOp op) r) (ha : PE X a ta) : PE X (.UnaryOp op a pos) (tUn r ta) := by
  intro pins s σ H Q I h
  exact UnaryOp_ (thn (ha pins s σ H _ I h) fun v s1 ⟨x, H1, I1, r1, q1⟩ => ho pins s1 σ H1 x v Q I1 r1 q1)
theorem opI {f : Value → Value → Sem Value} {C : Int → Int → Prop} {g : Int → Int → Int}
    (rule : ∀ (i j : Int) (t u : Tok) (s : Shared) (Q : Value → Shared → Prop) (E : Value → Shared → Prop), C i j → Q (.int (g i j) s.toks) { s with toks := s.toks + 1 } → wpAny (model X.prog X.w) X.A (f (.int i t) (.int j u)) Q E s) :
    OpR X f (rI C fun i j => .int (g i j)) := by
  intro pins s σ H x y v u Q I rx ry h
  obtain ⟨i, j, rfl, rfl, hc, q⟩ := h
  obtain ⟨t, rfl⟩ := rx
  obtain ⟨t', rfl⟩ := ry
  exact rule i j t t' s _ _ hc ⟨.int (g i j), H, I.tok _, ⟨_, rfl⟩, q⟩
theorem opI0 {f : Value → Value → Sem Value} {g : Int → Int → Int}
    (rule : ∀ (i j : Int) (t u : Tok) (s : Shared) (Q : Value → Shared → Prop) (E : Value → Shared → Prop), Q (.int (g i j) s.toks) { s with toks := s.toks + 1 } → wpAny (model X.prog X.w) X.A (f (.int i t) (.int j u)) Q E s) :
    OpR X f (rI0 fun i j => .int (g i j)) := by
  intro pins s σ H x y v u Q I rx ry h
  obtain ⟨i, j, rfl, rfl, q⟩ := h
  obtain ⟨t, rfl⟩ := rx
  obtain ⟨t', rfl⟩ := ry
  exact rule i j t t' s _ _ ⟨.int (g i j), H, I.tok _, ⟨_, rfl⟩, q⟩
theorem opB0 {f : Value → Value → Sem Value} {g : Int → Int → Bool}
    (rule : ∀ (i j : Int) (t u : Tok) (s : Shared) (Q : Value → Shared → Prop) (E : Value → Shared → Prop), Q (.bool (g i j)) s → wpAny (model X.prog X.w) X.A (f (.int i t) (.int j u)) Q E s) :
    OpR X f (rI0 fun i j => .bl (g i j)) := by
  intro pins s σ H x y v u Q I rx ry h
  obtain ⟨i, j, rfl, rfl, q⟩ := h
  obtain ⟨t, rfl⟩ := rx
  obtain ⟨t', rfl⟩ := ry
  exact rule i j t t' s _ _ ⟨.bl (g i j), H, I, rfl, q⟩
theorem op_add : OpR X (binaryOp .Add) (rI0 fun i j => .int (i + j)) := opI0 fun _ _ _ _ _ _ _ q => add_int q
theorem op_sub : OpR X (binaryOp .Sub) (rI0 fun i j => .int (i - j)) := opI0 fun _ _ _ _ _ _ _ q => sub_int q
theorem op_mod : OpR X (binaryOp .Mod) (rI (fun _ j => 0 < j) fun i j => .int (i % j)) := opI fun i j _ _ _ _ _ hc q => by
  have h1 : (0 : Int) < j := hc
  exact mod_int' (by omega) (by rw [Int.fmod_eq_emod_of_nonneg i (by omega)]; exact q)
theorem unI {f : Value → Sem Value} {g : Int → Int}
    (rule : ∀ (i : Int) (t : Tok) (s : Shared) (Q : Value → Shared → Prop) (E : Value → Shared → Prop), Q (.int (g i) s.toks) { s with toks := s.toks + 1 } → wpAny (model X.prog X.w) X.A (f (.int i t)) Q E s) :
    UnR X f (rU fun i => .int (g i)) := by
  intro pins s σ H x v Q I rx h
  obtain ⟨i, rfl, q⟩ := h
  obtain ⟨t, rfl⟩ := rx
  exact rule i t s _ _ ⟨.int (g i), H, I.tok _, ⟨_, rfl⟩, q⟩
theorem un_neg : UnR X (unaryOp .USub) (rU fun i => .int (-i)) := unI fun _ _ _ _ _ q => neg_int q
end
def scal : V → V → Bool
  | .non, .non => true | .non, .int _ => true | .int _, .non => true | .non, .bl _ => true | .bl _, .non => true | .non, .str _ => true | .str _, .non => true
  | .int _, .int _ => true | .bl _, .bl _ => true | .str _, .str _ => true | .byt _, .byt _ => true
  | .int _, .str _ => true | .str _, .int _ => true | .bl _, .str _ => true | .str _, .bl _ => true
  | _, _ => false
def rEq : R2 := fun x y H Q => scal x y = true ∧ Q (.bl (decide (x = y))) H
def rNe : R2 := fun x y H Q => scal x y = true ∧ Q (.bl (!decide (x = y))) H
theorem dec_int {i j : Int} : decide (V.int i = V.int j) = (i == j) := by
  rw [Bool.eq_iff_iff]
  simp
theorem dec_bl {i j : Bool} : decide (V.bl i = V.bl j) = (i == j) := by
  rw [Bool.eq_iff_iff]
  simp
theorem dec_str {i j : Str} : decide (V.str i = V.str j) = (i == j) := by
  rw [Bool.eq_iff_iff]
  simp
theorem dec_byt {i j : Array UInt8} : decide (V.byt i = V.byt j) = (i.toList == j.toList) := by
  rw [Bool.eq_iff_iff]
  cases i
  cases j
  simp
section
variable {X : Cx} {a b c : Expr} {ta tb tc : TE} {pos : Pos}
theorem fin_bl {pins : List (Addr × Obj)} {σ : St} {H : Hp} {s : Shared} {Q : VK} {k k' : Bool} (I : Inv X pins σ H s) (q : Q (.bl k) H) (e : k = k') : EP X pins σ Q (.bool k') s := by
  subst e
  exact ⟨.bl k, H, I, rfl, q⟩
theorem op_eq : OpR X (compareOp .Eq) rEq := by
  intro pins s σ H x y v u Q I rx ry h
  obtain ⟨hs, q⟩ := h
  cases x with
  | non =>
    cases rx
    cases y with
    | non => cases ry; exact PySem.EqNone.eq_none_none (fin_bl I q (by simp))
    | bl j => cases ry; exact PySem.EqNone.eq_none_bool (fin_bl I q (by simp))
    | int j => obtain ⟨t', rfl⟩ := ry; exact PySem.EqNone.eq_none_int (fin_bl I q (by simp))
    | str j => obtain ⟨t', rfl⟩ := ry; exact PySem.EqNone.eq_none_str (fin_bl I q (by simp))
    | _ => exact absurd (show false = true from hs) Bool.false_ne_true
  | bl i =>
    cases rx
    cases y with
    | non => cases ry; exact PySem.EqNone.eq_bool_none (fin_bl I q (by simp))
    | bl j => cases ry; exact eq_bool (fin_bl I q dec_bl)
    | str j => obtain ⟨t', rfl⟩ := ry; exact PySem.EqMixed.eq_bool_str (fin_bl I q (by simp))
    | _ => exact absurd (show false = true from hs) Bool.false_ne_true
  | int i =>
    obtain ⟨t, rfl⟩ := rx
    cases y with
    | non => cases ry; exact PySem.EqNone.eq_int_none (fin_bl I q (by simp))
    | int j => obtain ⟨t', rfl⟩ := ry; exact eq_int (fin_bl I q dec_int)
    | str j => obtain ⟨t', rfl⟩ := ry; exact PySem.EqMixed.eq_int_str (fin_bl I q (by simp))
    | _ => exact absurd (show false = true from hs) Bool.false_ne_true
  | str i =>
    obtain ⟨t, rfl⟩ := rx
    cases y with
    | non => cases ry; exact PySem.EqNone.eq_str_none (fin_bl I q (by simp))
    | bl j => cases ry; exact PySem.EqMixed.eq_str_bool (fin_bl I q (by simp))
    | int j => obtain ⟨t', rfl⟩ := ry; exact PySem.EqMixed.eq_str_int (fin_bl I q (by simp))
    | str j => obtain ⟨t', rfl⟩ := ry; exact eq_str (fin_bl I q dec_str)
    | _ => exact absurd (show false = true from hs) Bool.false_ne_true
  | byt i =>
    obtain ⟨t, rfl⟩ := rx
    cases y with
    | byt j => obtain ⟨t', rfl⟩ := ry; exact PySem.W.eq_bytes (fin_bl I q dec_byt)
    | _ => exact absurd (show false = true from hs) Bool.false_ne_true
  | _ => cases y <;> exact absurd (show false = true from hs) Bool.false_ne_true
theorem op_ne : OpR X (compareOp .NotEq) rNe := by
  intro pins s σ H x y v u Q I rx ry h
  obtain ⟨hs, q⟩ := h
  cases x with
  | non =>
    cases rx
    cases y with
    | non => cases ry; exact PySem.EqNone.ne_none_none (fin_bl I q (by simp))
    | bl j => cases ry; exact PySem.EqNone.ne_none_bool (fin_bl I q (by simp))
    | int j => obtain ⟨t', rfl⟩ := ry; exact PySem.EqNone.ne_none_int (fin_bl I q (by simp))
    | str j => obtain ⟨t', rfl⟩ := ry; exact PySem.EqNone.ne_none_str (fin_bl I q (by simp))
    | _ => exact absurd (show false = true from hs) Bool.false_ne_true
  | bl i =>
    cases rx
    cases y with
    | non => cases ry; exact PySem.EqNone.ne_bool_none (fin_bl I q (by simp))
    | bl j => cases ry; exact ne_bool (fin_bl I q (congrArg not dec_bl))
    | str j => obtain ⟨t', rfl⟩ := ry; exact PySem.EqMixed.ne_bool_str (fin_bl I q (by simp))
    | _ => exact absurd (show false = true from hs) Bool.false_ne_true
  | int i =>
    obtain ⟨t, rfl⟩ := rx
    cases y with
    | non => cases ry; exact PySem.EqNone.ne_int_none (fin_bl I q (by simp))
    | int j => obtain ⟨t', rfl⟩ := ry; exact ne_int (fin_bl I q (congrArg not dec_int))
    | str j => obtain ⟨t', rfl⟩ := ry; exact PySem.EqMixed.ne_int_str (fin_bl I q (by simp))
    | _ => exact absurd (show false = true from hs) Bool.false_ne_true
  | str i =>
    obtain ⟨t, rfl⟩ := rx
    cases y with
    | non => cases ry; exact PySem.EqNone.ne_str_none (fin_bl I q (by simp))
    | bl j => cases ry; exact PySem.EqMixed.ne_str_bool (fin_bl I q (by simp))
    | int j => obtain ⟨t', rfl⟩ := ry; exact PySem.EqMixed.ne_str_int (fin_bl I q (by simp))
    | str j => obtain ⟨t', rfl⟩ := ry; exact ne_str (fin_bl I q (congrArg not dec_str))
    | _ => exact absurd (show false = true from hs) Bool.false_ne_true
  | byt i =>
    obtain ⟨t, rfl⟩ := rx
    cases y with
    | byt j => obtain ⟨t', rfl⟩ := ry; exact PySem.W.ne_bytes (fin_bl I q (congrArg not dec_byt))
    | _ => exact absurd (show false = true from hs) Bool.false_ne_true
  | _ => cases y <;> exact absurd (show false = true from hs) Bool.false_ne_true
theorem op_lt : OpR X (compareOp .Lt) (rI0 fun i j => .bl (decide (i < j))) := opB0 fun _ _ _ _ _ _ _ q => lt_int q
theorem op_le : OpR X (compareOp .LtE) (rI0 fun i j => .bl (decide (i ≤ j))) := opB0 fun _ _ _ _ _ _ _ q => le_int q
theorem op_gt : OpR X (compareOp .Gt) (rI0 fun i j => .bl (decide (j < i))) := opB0 fun _ _ _ _ _ _ _ q => gt_int q
theorem op_ge : OpR X (compareOp .GtE) (rI0 fun i j => .bl (decide (j ≤ i))) := opB0 fun _ _ _ _ _ _ _ q => ge_int q
theorem op_isN : OpR X (compareOp .Is) (fun x y H Q => y = .non ∧ Q (.bl (decide (x = .non))) H) := by
  intro pins s σ H x y v u Q I rx ry h
  obtain ⟨rfl, q⟩ := h
  cases ry
  refine is_none_gen (fin_bl I q ?_)
  cases x <;> first
    | (cases rx; rfl)
    | (obtain ⟨t, rfl⟩ := rx; rfl)
theorem op_notN : OpR X (compareOp .IsNot) (fun x y H Q => y = .non ∧ Q (.bl (!decide (x = .non))) H) := by
  intro pins s σ H x y v u Q I rx ry h
  obtain ⟨rfl, q⟩ := h
  cases ry
  refine isnot_none_gen (fin_bl I q ?_)
  cases x <;> first
    | (cases rx; rfl)
    | (obtain ⟨t, rfl⟩ := rx; rfl)
theorem nomark (b : Expr) {op : CmpOp} (h : op ≠ .In := by decide) (h2 : op ≠ .NotIn := by decide) : behindInMarks op b = false := by
  have e1 : (op == CmpOp.In) = false := by cases op <;> first | rfl | exact absurd rfl h
  have e2 : (op == CmpOp.NotIn) = false := by cases op <;> first | rfl | exact absurd rfl h2
  cases b <;> simp [behindInMarks, e1, e2]
theorem pe_cmpR {op : CmpOp} {r : R2} (ho : OpR X (compareOp op) r) (ha : PE X a ta) (hb : PE X b tb) (hm : behindInMarks op b = false) : PE X (.Compare a [op] [b] pos) (tOp r ta tb) := by
  intro pins s σ H Q I h
  exact wpAny_Compare1 (binT ha hb I h fun v u s2 x y H2 I2 rx ry q => ho pins s2 σ H2 x y v u Q I2 rx ry q) hm
def tTest (t : TE) : TT := fun σ H Q => t σ H fun x H' => ∃ k, x = .bl k ∧ Q k H'
theorem pt_cmpR {op : CmpOp} {r : R2} (ho : OpR X (compareOp op) r) (ha : PE X a ta) (hb : PE X b tb) (hm : behindInMarks op b = false) : PT X (.Compare a [op] [b] pos) (tTest (tOp r ta tb)) := by
  intro pins s σ H Q I h
  refine wpAny_isTrue_Compare1 (thn (ha pins s σ H _ I h) fun v s1 ⟨x, H1, I1, r1, q1⟩ => thn (hb pins s1 σ H1 _ I1 q1) fun u s2 ⟨y, H2, I2, r2, q2⟩ =>
    thn (ho pins s2 σ H2 x y v u _ I2 r1 r2 q2) fun c s3 ⟨z, H3, I3, r3, k, e, q3⟩ => ?_) hm
  subst e
  cases r3
  exact wpAny_truthy_bool ⟨H3, I3, q3⟩
theorem line63 : (sizeLine : Nat) < 2 ^ 63 := by rw [sizeLine_eq]; decide
theorem vals1 {x : V} {us : List Value} (r : Vals [x] us) : ∃ u, us = [u] ∧ RelV x u := by
  cases r with
  | cons r1 r2 => cases r2; exact ⟨_, rfl, r1⟩
theorem vals2 {x y : V} {us : List Value} (r : Vals [x, y] us) : ∃ u w', us = [u, w'] ∧ RelV x u ∧ RelV y w' := by
  cases r with
  | cons r1 r2 =>
    cases r2 with
    | cons r3 r4 => cases r4; exact ⟨_, _, rfl, r1, r3⟩
theorem call_abs : CallR X (.builtin "abs") (fun xs H Q => ∃ i, xs = [.int i] ∧ Q (.int (if i < 0 then -i else i)) H) := by
  intro pins s σ H xs us Q I r h
  obtain ⟨i, rfl, q⟩ := h
  obtain ⟨u, rfl, t, rfl⟩ := vals1 r
  exact call_abs_int fun u tk => ⟨.int (if i < 0 then -i else i), H, I.tok _, ⟨_, rfl⟩, q⟩
theorem call_min2 (hc : X.calm = true) : CallR X (.builtin "min") (fun xs H Q => ∃ i j, xs = [.int i, .int j] ∧ Q (.int (if j < i then j else i)) H) := by
  intro pins s σ H xs us Q I r h
  obtain ⟨i, j, rfl, q⟩ := h
  obtain ⟨u, w', rfl, ⟨t, rfl⟩, ⟨t', rfl⟩⟩ := vals2 r
  refine min_two_ints (I.ok.hd hc) fun h' tk k => ⟨_, H, I.kept k, ?_, q⟩
  by_cases hj : j < i
  · rw [if_pos hj, if_pos hj]; exact ⟨_, rfl⟩
  · rw [if_neg hj, if_neg hj]; exact ⟨_, rfl⟩
end
end L2
namespace L2
open PySem PySem.Spec PyProof.Rows
structure ObjM (h : Heap) (x dx C : Addr) (mA : Str → Option Value) : Prop where
  obj : h.get? x = some (PySem.W.instObj C dx)
  ns : h.Ns1 dx mA
  ne : dx ≠ x
theorem lookIn_ns {h : Heap} {dx : Addr} {mA : Str → Option Value} (n : h.Ns1 dx mA) : ∃ od, h.get? dx = some od ∧ ∀ name, PySem.W.lookIn name od = some (mA name) := by
  obtain ⟨o, es, ep, ho, hd, hk, _, hm⟩ := n
  refine ⟨o, ho, fun name => ?_⟩
  have e := hm name
  unfold nsFind findBy at e
  rw [← Array.find?_toList] at e
  unfold PySem.W.lookIn
  rw [hd]
  dsimp only
  split
  · rename_i y q
    rw [q] at e
    exact congrArg some e
  · rename_i q
    rw [q] at e
    have a : es.toList.any (·.refKey) = false := by
      rw [List.any_eq_false]
      intro y hy
      obtain ⟨z, t, hkey⟩ := hk y (Array.mem_toList_iff.mp hy)
      simp [DictEntry.refKey, hkey]
    have a' : ¬ es.toList.any (·.refKey) = true := by rw [a]; exact Bool.false_ne_true
    rw [if_neg a']
    exact congrArg some e
theorem ObjM.look {h : Heap} {x dx C : Addr} {mA : Str → Option Value} (I : ObjM h x dx C mA) : ∃ od, PySem.W.InstAt h x (PySem.W.instObj C dx) C (some od) ∧ ∀ name, PySem.W.lookIn name od = some (mA name) :=
  let ⟨od, ho, hl⟩ := lookIn_ns I.ns
  ⟨od, ⟨I.obj, rfl, rfl, ho⟩, hl⟩
section
variable {prog : Program} {w : World} {A : Around} {E : Value → Shared → Prop} {s : Shared} {K : PySem.W.Frag} {x dx C f : Addr} {mA : Str → Option Value} {name : Str} {v : Value}
theorem get_map {expr : Bool} {Q : Value → Shared → Prop} (X : K.In s.heap) (I : ObjM s.heap x dx C mA) (hg : PySem.W.plainGet K C name = true) (hh : PySem.W.hasDictIn K C = true)
    (ha : PySem.W.findIn K (.ref C) name = some none) (hv : mA name = some v) (hv' : PySem.W.handedIn v = true) (h : Q v { s with toks := s.toks + 1 }) :
    wpAny (model prog w) A (getAttr (.ref x) name expr) Q E s := by
  obtain ⟨od, J, hl⟩ := I.look
  exact PySem.W.get_value X J (PySem.W.plainGet_of hg).1 (PySem.W.findObj_own hh ha rfl (by rw [hl, hv])) hv' h
theorem get_meth {pl : Sem Bool} {Q : Value × List Value → Shared → Prop} (X : K.In s.heap) (I : ObjM s.heap x dx C mA) (hg : PySem.W.plainGet K C name = true)
    (hf : PySem.W.findIn K (.ref C) name = some (some (.ref f))) (ht : PySem.W.isFn K (.ref f) = true) (hv : mA name = none) (h : Q (.ref f, [.ref x]) s) :
    wpAny (model prog w) A (getMethod (.ref x) name pl) Q E s := by
  obtain ⟨od, J, hl⟩ := I.look
  exact PySem.W.method_fn X J (PySem.W.plainGet_of hg).1 (PySem.W.plainGet_of hg).2 hf (beq_iff_eq.mp ht) (by show (PySem.W.lookIn name od).map (·.isSome) = some false; rw [hl, hv]; rfl) h
theorem set_map {ns : List Str} {Q : Unit → Shared → Prop} (X : K.In s.heap) (I : ObjM s.heap x dx C mA)
    (hs : PySem.W.findIn K (.ref C) "__setattr__" = some (some (.builtin "object.__setattr__"))) (hp : PySem.W.plainOver K C = true) (ht : PySem.W.takerIn K C name = some none) (hh : PySem.W.hasDictIn K C = true)
    (hw : PySem.Within mA ns) (hsz : ns.length ≤ sizeLine)
    (h : ∀ h', ObjM h' x dx C (fun y => if y = name then some v else mA y) → Heap.SameBut dx s.heap h' → Q () { s with heap := h', toks := s.toks + 2 }) :
    wpAny (model prog w) A (setAttr (.ref x) name v) Q E s := by
  obtain ⟨od, J, hl⟩ := I.look
  refine PySem.W.set_plain X J hs (PySem.W.osa_open (s := { s with toks := s.toks + 1 }) (r := none) X J hp ht fun b => ?_)
  obtain ⟨cd, hc, hd'⟩ := PySem.W.any_some hh
  have hx : s.heap.get? x = some ⟨.ref C, some dx, .plain, #[]⟩ := I.obj
  refine wpAny_bind (wpAny_pure (wpAny_bind (wpAny_bind (wpAny_loadPart hx (wpAny_bind (PySem.W.Looks.here (s := { s with toks := s.toks + 1 }) (PySem.W.looks_clsIn X hc) ?_))))))
  rw [hd']
  refine wpAny_pure (a := some dx) (wpAny_bind (wpAny_pure (wpAny_bind ?_)))
  refine wpAny_nsSet1 (s := { s with toks := s.toks + 1 }) I.ns fun h' hn2 hs2 => ?_
  obtain ⟨oD, esD, epD, hoD, hdD, hcD⟩ := hn2.count (PySem.Within.cons name v hw)
  refine wpAny_bind (wpAny_lookBehind hoD (by rw [hdD]; exact pastItsLine_dict (Nat.le_trans hcD (by rw [List.length_cons]; omega))) ?_)
  exact wpAny_pure (h _ ⟨(hs2.2 _ (Ne.symm I.ne)).trans I.obj, hn2, I.ne⟩ hs2)
theorem make_map {R : Result → Shared → Prop} {vs : List Value} {kw : List (Str × Value)} (X : K.In s.heap) (hm : PySem.W.makesIn K C = true)
    (hi : PySem.W.findIn K (.ref C) "__init__" = some (some (.ref f))) (hf : PySem.W.typeIn K (.ref f) = some (.type "function"))
    (h : codeAny (model prog w) (A.under (.builtin "type.__call__" ⟨.ref C :: vs, kw⟩)) (.call (.ref f) ⟨.ref (s.heap.objs.size + 1) :: vs, kw⟩) (PySem.W.InitBack (s.heap.objs.size + 1) R)
      { s with heap := (s.heap.push PySem.W.emptyDict).push (PySem.W.instObj C s.heap.objs.size) }) :
    codeAny (model prog w) A (.call (.ref C) ⟨vs, kw⟩) R s := by
  obtain ⟨hh, g, d, t, os⟩ := s
  exact PySem.W.make_core (PySem.W.makes_of X hm) (PySem.W.looks_findIn X hi) (fun self => PySem.W.bind_fn X self hf) (.inl rfl) h
end
def putF (f : Str) (v : V) : List (Str × V) → List (Str × V)
  | [] => [(f, v)]
  | (g, x) :: r => if g = f then (g, v) :: r else (g, x) :: putF f v r
theorem lookup_putF (f g : Str) (v : V) : ∀ fs : List (Str × V), (putF f v fs).lookup g = if g = f then some v else fs.lookup g
  | [] => by
    show List.lookup g [(f, v)] = _
    by_cases h : g = f
    · have hb : (g == f) = true := beq_iff_eq.mpr h
      simp only [List.lookup, hb, if_pos h]
    · have hb : (g == f) = false := beq_eq_false_iff_ne.mpr h
      simp only [List.lookup, hb, if_neg h]
  | (k, x) :: r => by
    have ih := lookup_putF f g v r
    rw [show putF f v ((k, x) :: r) = (if k = f then (k, v) :: r else (k, x) :: putF f v r) from rfl]
    by_cases hk : k = f
    · rw [if_pos hk]
      by_cases h : g = k
      · have hb : (g == k) = true := beq_iff_eq.mpr h
        simp only [List.lookup, hb, if_pos (h.trans hk)]
      · have hb : (g == k) = false := beq_eq_false_iff_ne.mpr h
        simp only [List.lookup, hb, if_neg (fun e : g = f => h (e.trans hk.symm))]
    · rw [if_neg hk]
      by_cases h : g = k
      · have hb : (g == k) = true := beq_iff_eq.mpr h
        simp only [List.lookup, hb, if_neg (fun e : g = f => hk (h.symm.trans e))]
      · have hb : (g == k) = false := beq_eq_false_iff_ne.mpr h
        simp only [List.lookup, hb]
        exact ih
theorem keys_putF (f : Str) (v : V) : ∀ fs : List (Str × V), f ∈ (putF f v fs).map (·.1) ∧ ∀ g, g ∈ fs.map (·.1) → g ∈ (putF f v fs).map (·.1)
  | [] => ⟨by simp [putF], fun g h => by simp at h⟩
  | (k, x) :: r => by
    obtain ⟨i1, i2⟩ := keys_putF f v r
    rw [show putF f v ((k, x) :: r) = (if k = f then (k, v) :: r else (k, x) :: putF f v r) from rfl]
    by_cases hk : k = f
    · rw [if_pos hk]
      subst hk
      exact ⟨by simp, fun g h => by simpa using h⟩
    · rw [if_neg hk]
      refine ⟨?_, fun g h => ?_⟩
      · rw [List.map_cons]
        exact List.mem_cons_of_mem _ i1
      · rw [List.map_cons] at h ⊢
        rcases List.mem_cons.mp h with e | e
        · exact List.mem_cons.mpr (.inl e)
        · exact List.mem_cons_of_mem _ (i2 g e)
theorem length_putF (f : Str) (v : V) : ∀ fs : List (Str × V), (putF f v fs).length ≤ fs.length + 1
  | [] => by simp [putF]
  | (k, x) :: r => by
    have ih := length_putF f v r
    rw [show putF f v ((k, x) :: r) = (if k = f then (k, v) :: r else (k, x) :: putF f v r) from rfl]
    by_cases hk : k = f
    · rw [if_pos hk, List.length_cons, List.length_cons]; omega
    · rw [if_neg hk, List.length_cons, List.length_cons]; omega
theorem RelO.some_of {v : V} {o : Option Value} (r : RelO (some v) o) : ∃ u, o = some u ∧ RelV v u := by
  cases o with
  | none => exact (show False from r).elim
  | some u => exact ⟨u, rfl, r⟩
theorem RelO.none_of {o : Option Value} (r : RelO none o) : o = none := by
  cases o with
  | none => rfl
  | some u => exact (show False from r).elim
theorem handed_of {v : V} {u : Value} (r : RelV v u) : PySem.W.handedIn u = true := by
  cases v with
  | non => cases (show u = Value.none from r); rfl
  | bl b => cases (show u = Value.bool b from r); rfl
  | int i => obtain ⟨t, e⟩ := (show ∃ t, u = Value.int i t from r); cases e; rfl
  | str x => obtain ⟨t, e⟩ := (show ∃ t, u = Value.str x t from r); cases e; rfl
  | byt b => obtain ⟨t, e⟩ := (show ∃ t, u = Value.bytes b t from r); cases e; rfl
  | flt b => obtain ⟨t, e⟩ := (show ∃ t, u = Value.float b t from r); cases e; rfl
  | ref a => cases (show u = Value.ref a from r); rfl
  | ty n => cases (show u = Value.type n from r); rfl
section
variable {P : Program} {w : World} {H H' : Hp} {h h' : Heap} {a C dx : Addr} {fs fs' : List (Str × V)}
theorem ins_get (hok : HOk P w H h) (e : H a = some (.ins C dx fs)) : ∃ mA, ObjM h a dx C mA ∧ (∀ f, RelO (fs.lookup f) (mA f)) ∧ PySem.Within mA (fs.map (·.1)) ∧ fs.length ≤ 1000 ∧ H dx = some (.own a) := by
  obtain ⟨d, z, ne, ob, mA, n, r, q⟩ := (show ObjOk P w H h a (.ins C dx fs) from hok a _ e)
  exact ⟨mA, ⟨ob, n, ne⟩, r, q, z, d⟩
end
structure Cls (K : PySem.W.Frag) (C : Addr) : Prop where
  pg : PySem.W.plainGet K C Str.empty = true
  hd : PySem.W.hasDictIn K C = true
  po : PySem.W.plainOver K C = true
  sa : PySem.W.findIn K (.ref C) "__setattr__" = some (some (.builtin "object.__setattr__"))
theorem Cls.get {K : PySem.W.Frag} {C : Addr} (c : Cls K C) (f : Str) : PySem.W.plainGet K C f = true := c.pg
def NoAttr (K : PySem.W.Frag) (C : Addr) (f : Str) : Prop := PySem.W.findIn K (.ref C) f = some none
theorem NoAttr.taker {K : PySem.W.Frag} {C : Addr} {f : Str} (n : NoAttr K C f) : PySem.W.takerIn K C f = some none := by
  unfold PySem.W.takerIn
  rw [show PySem.W.findIn K (.ref C) f = some none from n]
  rfl
structure Meth (K : PySem.W.Frag) (C : Addr) (m : Str) (f : Addr) : Prop where
  at_ : PySem.W.findIn K (.ref C) m = some (some (.ref f))
  fn : PySem.W.isFn K (.ref f) = true
  kp : PySem.W.keepIn K (.ref f) = true
section
variable {X : Cx} {pins : List (Addr × Obj)} {σ : St} {H : Hp} {s : Shared} {a C dx : Addr} {fs : List (Str × V)} {f : Str} {v : V} {A : Around} {E : Value → Shared → Prop}
theorem getattr_ok {b : Bool} {Q : Value → Shared → Prop} (I : Inv X pins σ H s) (e : H a = some (.ins C dx fs)) (c : Cls X.K C) (n : NoAttr X.K C f) (l : fs.lookup f = some v)
    (h : ∀ u s', Inv X pins σ H s' → RelV v u → Q u s') : wpAny (model X.prog X.w) A (getAttr (.ref a) f b) Q E s := by
  obtain ⟨mA, O, r, _, _, _⟩ := ins_get I.hok e
  obtain ⟨u, hu, ru⟩ := RelO.some_of (v := v) (o := mA f) (by rw [← l]; exact r f)
  exact get_map I.kIn O (c.get f) c.hd n hu (handed_of ru) (h u _ (I.tok _) ru)
theorem getmeth_ok {m : Str} {g : Addr} {pl : Sem Bool} {Q : Value × List Value → Shared → Prop} (I : Inv X pins σ H s) (e : H a = some (.ins C dx fs)) (c : Cls X.K C) (k : Meth X.K C m g) (l : fs.lookup m = none)
    (h : Q (.ref g, [.ref a]) s) : wpAny (model X.prog X.w) A (getMethod (.ref a) m pl) Q E s := by
  obtain ⟨mA, O, r, _, _, _⟩ := ins_get I.hok e
  have hn : mA m = none := RelO.none_of (by rw [← l]; exact r m)
  exact get_meth I.kIn O (c.get m) k.at_ k.fn hn h
theorem setattr_ok {y : V} {u : Value} {Q : Unit → Shared → Prop} (I : Inv X pins σ H s) (e : H a = some (.ins C dx fs)) (c : Cls X.K C) (n : NoAttr X.K C f) (hl : fs.length < 1000) (ry : RelV y u)
    (h : ∀ s', Inv X pins σ (upd H a (.ins C dx (putF f y fs))) s' → Q () s') : wpAny (model X.prog X.w) A (setAttr (.ref a) f u) Q E s := by
  obtain ⟨mA, O, r, wi, _, ho⟩ := ins_get I.hok e
  have hz : (fs.map (·.1)).length ≤ sizeLine := by rw [List.length_map, sizeLine_eq]; omega
  refine set_map I.kIn O c.sa c.po n.taker c.hd wi hz fun h' O' sb => h _ ?_
  have hd : ∃ o, h'.get? dx = some o := let ⟨o, _, _, e', _⟩ := O'.ns; ⟨o, e'⟩
  refine I.write (x := a) (e := dx) (by rw [e]; exact True.intro) (.inr ho) (fun b q hb z => (sb.2 b hb).trans z) hd ?_
  refine ⟨by rw [upd_ne O.ne]; exact ho, ?_, O.ne, O'.obj, _, O'.ns, fun g => ?_, fun g hg => ?_⟩
  · have := length_putF f y fs; omega
  · show RelO ((putF f y fs).lookup g) (if g = f then some u else mA g)
    rw [lookup_putF]
    by_cases q : g = f
    · rw [if_pos q, if_pos q]; exact ry
    · rw [if_neg q, if_neg q]; exact r g
  · by_cases q : g = f
    · rw [q]; exact (keys_putF f y fs).1
    · refine (keys_putF f y fs).2 g (wi g fun z => hg ?_)
      show (if g = f then some u else mA g) = none
      rw [if_neg q]; exact z
theorem Inv.made (I : Inv X pins σ H s) : Inv X pins σ (upd (upd H s.heap.objs.size (.own (s.heap.objs.size + 1))) (s.heap.objs.size + 1) (.ins C s.heap.objs.size []))
    { s with heap := (s.heap.push PySem.W.emptyDict).push (PySem.W.instObj C s.heap.objs.size) } := by
  have e1 : (s.heap.push PySem.W.emptyDict).get? s.heap.objs.size = some PySem.W.emptyDict := Heap.get?_push_size s.heap rfl
  have e2 : ((s.heap.push PySem.W.emptyDict).push (PySem.W.instObj C s.heap.objs.size)).get? (s.heap.objs.size + 1) = some (PySem.W.instObj C s.heap.objs.size) := by
    have := Heap.get?_push_size (s.heap.push PySem.W.emptyDict) (o := PySem.W.instObj C s.heap.objs.size) rfl
    rwa [Heap.size_push] at this
  have e3 : (s.heap.push PySem.W.emptyDict).Ns s.heap.objs.size (fun _ => none) := ⟨PySem.W.emptyDict, #[], _, e1, rfl, (fun e he => absurd he (by simp)), fun _ => rfl⟩
  have I1 := I.laid (a := s.heap.objs.size) (o := .own (s.heap.objs.size + 1)) (h' := s.heap.push PySem.W.emptyDict) (t' := s.toks) (fun b u q => Heap.get?_push_of_some _ q) (Nat.le_refl _) ⟨_, e1⟩
  refine I1.laid (a := s.heap.objs.size + 1) (o := .ins C s.heap.objs.size []) (t' := s.toks) (fun b u q => Heap.get?_push_of_some _ q) (Nat.le_of_eq (Heap.size_push _ _)) ?_
  have ne : s.heap.objs.size ≠ s.heap.objs.size + 1 := Nat.ne_of_lt (Nat.lt_succ_self _)
  refine ⟨by rw [upd_ne ne, upd_same], Nat.zero_le _, ne, e2, fun _ => none, (Heap.Ns1.of_empty e3).at fun o q => Heap.get?_push_of_some _ q, fun _ => True.intro, fun y hy => absurd rfl hy⟩
theorem attr_of {prog : Program} {w : World} {env : Env} {e : Expr} {f : Str} {pos : Pos} {s : Shared} {Q : Value → Shared → Prop} (hb : attributeBase e f env (eval e env) = eval e env)
    (h : wpAny (model prog w) A (eval e env) (fun o s₁ => wpAny (model prog w) A (getAttr o f true) Q E s₁) E s) : wpAny (model prog w) A (eval (.Attribute e f pos) env) Q E s :=
  Attribute_any_ h (by rw [arm_eval_Attribute, hb])
end
def tFld (K : PySem.W.Frag) (ta : TE) (f : Str) : TE := fun σ H Q => ta σ H fun x H1 => ∃ a C dx fs v, x = .ref a ∧ H1 a = some (.ins C dx fs) ∧ Cls K C ∧ NoAttr K C f ∧ fs.lookup f = some v ∧ Q v H1
def sFld (K : PySem.W.Frag) (ta tv : TE) (f : Str) : TS := fun D σ H => tv σ H fun y H1 => ta σ H1 fun x H2 => ∃ a C dx fs, x = .ref a ∧ H2 a = some (.ins C dx fs) ∧ Cls K C ∧ NoAttr K C f ∧ fs.length < 1000 ∧
  D.nx σ (upd H2 a (.ins C dx (putF f y fs)))
section
variable {X : Cx} {o e value : Expr} {f : Str} {pos pos' tpos : Pos} {ta tv : TE}
theorem pe_fld (he : PE X e ta) (hb : attributeBase e f X.env (eval e X.env) = eval e X.env) : PE X (.Attribute e f pos) (tFld X.K ta f) := by
  intro pins s σ H Q I h
  refine attr_of hb (thn (he pins s σ H _ I h) fun u s1 ⟨x, H1, I1, rx, a, C, dx, fs, v, ex, ea, c, n, l, q⟩ => ?_)
  subst ex
  obtain rfl : u = Value.ref a := rx
  exact getattr_ok I1 ea c n l fun u' s2 I2 ru => ⟨v, H1, I2, ru, q⟩
theorem ps_fld (ha : PE X o ta) (hv : PE X value tv) (hs : swapsWith value (some (.Attribute o f pos')) pos.line X.env = pure false) : PS X (.Assign [.Attribute o f pos'] value pos) (sFld X.K ta tv f) := by
  intro pins s σ H D I h
  refine plainObj_wpAny_Assign_Attribute (thn (hv pins s σ H _ I h) fun u s1 ⟨y, H1, I1, ry, q⟩ => thn (ha pins s1 σ H1 _ I1 q) fun ov s2 ⟨x, H2, I2, rx, a, C, dx, fs, ex, ea, c, n, l, q2⟩ => ?_) hs
  subst ex
  obtain rfl : ov = Value.ref a := rx
  exact setattr_ok I2 ea c n l ry fun s3 I3 => ⟨σ, _, I3, q2⟩
end
section
variable {X : Cx} {pins : List (Addr × Obj)} {σ : St} {H : Hp} {s : Shared} {A : Around} {E : Value → Shared → Prop} {Q : Value → Shared → Prop} {c : Value} {b : Bool}
end
end L2
namespace L2
open PySem PySem.Spec PyProof.Rows
structure Room (k : Nat) (A : Around) : Prop where
  hd : A.handled = none
  dp : A.depth + 3 * k + 5 < recursionLimit
  un : A.units + 16 * k + 200 < cLine
theorem Room.mono {j k : Nat} {A : Around} (r : Room k A) (h : j ≤ k) : Room j A := ⟨r.hd, by have := r.dp; omega, by have := r.un; omega⟩
theorem Room.deeper {k : Nat} {A : Around} (r : Room (k + 1) A) (env : Env) : Room k (A.deeper env) :=
  ⟨r.hd, by have := r.dp; show A.depth + 1 + 3 * k + 5 < _; omega, by have := r.un; show A.units + 3 + 16 * k + 200 < _; omega⟩
theorem make_depth {A : Around} {C : Addr} {us : List Value} {kw : List (Str × Value)} : (A.under (.builtin "type.__call__" ⟨.ref C :: us, kw⟩)).depth = A.depth + 1 := by
  first | rfl | simp [Around.under, Code.weight, Code.isCreation, Code.isGuard, Code.isCaller, Code.frames, Code.isFrame, guardIds]
theorem make_units {A : Around} {C : Addr} {us : List Value} {kw : List (Str × Value)} : (A.under (.builtin "type.__call__" ⟨.ref C :: us, kw⟩)).units = A.units + 1 := by
  first | rfl | simp [Around.under, Code.cUnits, Code.frames, Code.isFrame]
theorem Room.make {k : Nat} {A : Around} (r : Room (k + 1) A) (C : Addr) (us : List Value) (kw : List (Str × Value)) : Room k (A.under (.builtin "type.__call__" ⟨.ref C :: us, kw⟩)) :=
  ⟨r.hd, by have := r.dp; rw [make_depth]; omega, by have := r.un; rw [make_units]; omega⟩
theorem Room.depth {k : Nat} {A : Around} (r : Room k A) : A.depth < recursionLimit := by have := r.dp; omega
theorem Room.units {k : Nat} {A : Around} (r : Room k A) : A.units + 64 < cLine := by have := r.un; omega
def tNil : TA := fun _ H Q => Q [] H
def tCons (ta : TE) (tr : TA) : TA := fun σ H Q => ta σ H fun x H1 => tr σ H1 fun xs H2 => Q (x :: xs) H2
section
variable {X : Cx} {e : Expr} {es : List Expr} {te : TE} {t : TA} {pos : Pos}
theorem pa_nil : PA X [] tNil := fun _ _ _ _ H Q I h => Calls.spliced_nil ⟨[], H, I, .nil, h⟩
theorem pa_cons (ha : PE X e te) (hr : PA X es t) (hs : starEach (e :: es) X.env = (false, eval e X.env) :: starEach es X.env := by rfl) : PA X (e :: es) (tCons te t) := by
  intro pos pins s σ H Q I h
  rw [hs]
  show wpAny _ _ (spliced ((false, eval e X.env) :: backTo pos (starEach es X.env))) _ _ s
  refine Calls.spliced_cons (thn (ha pins s σ H _ I h) fun u s1 ⟨x, H1, I1, r1, q1⟩ => ?_)
  exact thn (hr pos pins s1 σ H1 _ I1 q1) fun us s2 ⟨xs, H2, I2, r2, q2⟩ => ⟨x :: xs, H2, I2, .cons r1 r2, q2⟩
def tTup (t : TA) : TE := fun σ H Q => t σ H fun xs H1 => xs.length ≤ sizeLine ∧ ∀ p, H1 p = none → Q (.ref p) (upd H1 p (.tup xs))
def tLst (t : TA) : TE := fun σ H Q => t σ H fun xs H1 => xs.length ≤ sizeLine ∧ ∀ p, H1 p = none → Q (.ref p) (upd H1 p (.lst xs))
theorem pe_tup {x1} (h : PA X es t) : PE X (.Tuple es x1 pos) (tTup t) := by
  intro pins s σ H Q I hq
  refine wpAny_Tuple_spliced (thn (h pos pins s σ H _ I hq) fun us s1 ⟨xs, H1, I1, r, z, q⟩ => ⟨by rw [← r.length]; exact z, ?_⟩)
  have hf : H1 s1.heap.objs.size = none := I1.hok.fresh (Nat.le_refl _)
  refine ⟨.ref s1.heap.objs.size, upd H1 s1.heap.objs.size (.tup xs), I1.laid (t' := s1.toks) (fun b u e => Heap.get?_push_of_some _ e) (Nat.le_refl _) ?_, rfl, q _ hf⟩
  exact ⟨z, us, r, ⟨_, Heap.get?_push_size _ rfl, rfl, _, rfl⟩⟩
theorem pe_lst (h : PA X es t) : PE X (.List es pos) (tLst t) := by
  intro pins s σ H Q I hq
  refine wpAny_List_spliced (thn (h pos pins s σ H _ I hq) fun us s1 ⟨xs, H1, I1, r, z, q⟩ => ⟨by rw [← r.length]; exact z, ?_⟩)
  have hf : H1 s1.heap.objs.size = none := I1.hok.fresh (Nat.le_refl _)
  refine ⟨.ref s1.heap.objs.size, upd H1 s1.heap.objs.size (.lst xs), I1.laid (t' := s1.toks) (fun b u e => Heap.get?_push_of_some _ e) (Nat.le_refl _) ?_, rfl, q _ hf⟩
  exact ⟨z, us, 0, r, Heap.get?_push_size _ rfl⟩
end
abbrev Sp := List V → Hp → VK → XK → Prop
abbrev CXT := List Env → Hp → Shared → XK → Value → Shared → Prop
structure Env0 (P : Program) (w : World) (K : PySem.W.Frag) (mg : Str → Option Value) (base : Heap) (A : Around) (outer : List Env) (s : Shared) (H : Hp) : Prop where
  frames : A.frames = some outer
  mod : Mod K mg base
  bs : ∀ b o, base.get? b = some o → s.heap.get? b = some o ∧ H b = none
  bsz : base.objs.size ≤ s.heap.objs.size
  funs : s.heap.FunFrames base outer
  frf : ∀ b ∈ frs outer, H b = none
  hok : HOk P w H s.heap
  bare : AllBare s.gens
def CE (outer : List Env) (P : Program) (w : World) (H : Hp) (s : Shared) (Q : VK) (u : Value) (s' : Shared) : Prop :=
  ∃ v H', s'.os = s.os ∧ AllBare s'.gens ∧ Un (frs outer) [] H H' s.heap s'.heap ∧ HOk P w H' s'.heap ∧ RelV v u ∧ Q v H'
def CR (CX : CXT) (outer : List Env) (P : Program) (w : World) (H : Hp) (s : Shared) (Q : VK) (E : XK) (r : Result) (s' : Shared) : Prop :=
  match r with
  | .ok (.ret u) => CE outer P w H s Q u s'
  | .ok _ => False
  | .error e => CX outer H s E e s'
structure FnOk (P : Program) (w : World) (K : PySem.W.Frag) (mg : Str → Option Value) (base : Heap) (CX : CXT) (k : Nat) (f : Addr) (fd : FuncData) (ps : List Str) (sp : Sp) : Prop where
  len : ∀ vs H Q E, sp vs H Q E → vs.length = ps.length
  run : ∀ (A : Around) (outer : List Env) (s : Shared) (H : Hp) (args : Args) (us : List Value) (vs : List V) (Q : VK) (E : XK), Room k A → Env0 P w K mg base A outer s H → BindsTo s fd args (ps.zip us) → Vals vs us → sp vs H Q E →
    codeAny (model P w) A (.call (.ref f) args) (CR CX outer P w H s Q E) s
theorem Env0.make {P : Program} {w : World} {K : PySem.W.Frag} {mg : Str → Option Value} {base : Heap} {A : Around} {outer : List Env} {s : Shared} {H : Hp} (e : Env0 P w K mg base A outer s H) (C : Addr) (us : List Value) (kw : List (Str × Value)) :
    Env0 P w K mg base (A.under (.builtin "type.__call__" ⟨.ref C :: us, kw⟩)) outer s H := ⟨by first | exact e.frames | (simpa [Around.under, Code.envs, Code.isFrame, pushEnvs] using e.frames), e.mod, e.bs, e.bsz, e.funs, e.frf, e.hok, e.bare⟩
section
variable {X : Cx} {pins : List (Addr × Obj)} {σ : St} {H : Hp} {s s' : Shared}
theorem Inv.env0 (I : Inv X pins σ H s) : Env0 X.prog X.w X.K X.mg X.base X.A X.stack s H :=
  ⟨I.ok.frames, I.ok.mod, I.bs, Nat.le_trans I.ok.bsz I.sz, I.stack, I.stkFree, I.hok, I.bare⟩
theorem Inv.after {Q : VK} {u : Value} (I : Inv X pins σ H s) (h : CE X.stack X.prog X.w H s Q u s') : EP X pins σ Q u s' := by
  obtain ⟨v, H', os, bare, un, hok, r, q⟩ := h
  obtain ⟨hh, g, d, t, os'⟩ := s'
  obtain rfl : os' = s.os := os
  exact ⟨v, H', I.call (h' := hh) (g' := g) (d' := d) (t' := t) (ch := []) un hok bare (fun b z => absurd z (by simp)), r, q⟩
end
def tCall (sp : Sp) (dvs : List V) (E : XK) (t : TA) : TE := fun σ H Q => t σ H fun vs H1 => sp (vs ++ dvs) H1 Q E
def tMeth (C : Addr) (m : Str) (sp : Sp) (dvs : List V) (E : XK) (ta : TE) (t : TA) : TE := fun σ H Q => ta σ H fun x H1 => ∃ a dx fs, x = .ref a ∧ H1 a = some (.ins C dx fs) ∧ fs.lookup m = none ∧
  t σ H1 fun vs H2 => sp (x :: (vs ++ dvs)) H2 Q E
def tMake (C : Addr) (sp : Sp) (dvs : List V) (E : XK) (t : TA) : TE := fun σ H Q => t σ H fun vs H1 => ∀ x dx, H1 x = none → H1 dx = none → dx ≠ x →
  sp (.ref x :: (vs ++ dvs)) (upd (upd H1 dx (.own x)) x (.ins C dx [])) (fun v H2 => v = .non ∧ Q (.ref x) H2) E
def Binds (K : PySem.W.Frag) (fd : FuncData) (ps : List Str) (ds : List Value) : Prop :=
  ∀ (s : Shared) (us : List Value), K.In s.heap → (us ++ ds).length = ps.length → BindsTo s fd ⟨us, []⟩ (ps.zip (us ++ ds))
theorem Binds.all {K : PySem.W.Frag} {fd : FuncData} {ps : List Str} (h : ∀ us : List Value, us.length = ps.length → bindArgs fd ⟨us, []⟩ = pure (ps.zip us)) : Binds K fd ps [] := fun s us _ hl => by
  rw [List.append_nil] at hl ⊢
  exact .of_eq (h us hl)
def Passes (CX : CXT) (X : Cx) (E : XK) : Prop := ∀ (pins : List (Addr × Obj)) (σ : St) (H : Hp) (s : Shared) (e : Value) (s' : Shared), Inv X pins σ H s → CX X.stack H s E e s' → X.xe e s'
section
variable {X : Cx} {CX : CXT} {k : Nat} {f C : Addr} {fd : FuncData} {ps : List Str} {sp : Sp} {dvs : List V} {ds : List Value} {E : XK} {x m : Str} {p pos apos : Pos} {e o : Expr} {es : List Expr} {ta : TE} {t : TA}
theorem run_fn {pins : List (Addr × Obj)} {σ : St} {H : Hp} {s : Shared} {Q : VK} {us : List Value} {vs : List V} (F : FnOk X.prog X.w X.K X.mg X.base CX k f fd ps sp) (hr : Room k X.A) (hb : Binds X.K fd ps ds) (hd : Vals dvs ds) (hx : Passes CX X E)
    (I : Inv X pins σ H s) (r : Vals vs us) (h : sp (vs ++ dvs) H Q E) : wpAny (model X.prog X.w) X.A (call (.ref f) us) (EP X pins σ Q) X.xe s := by
  have r2 : Vals (vs ++ dvs) (us ++ ds) := r.append hd
  have hl : (us ++ ds).length = ps.length := by rw [← r2.length]; exact F.len _ _ _ _ h
  refine wpAny_call (codeAny_mono (F.run X.A X.stack s H ⟨us, []⟩ (us ++ ds) (vs ++ dvs) Q E hr I.env0 (hb s us I.kIn hl) r2 h) fun r s' hq => ?_)
  cases r with
  | error e => exact hx pins σ H s e s' I hq
  | ok fl =>
    cases fl with
    | ret u => exact I.after hq
    | next => exact False.elim hq
    | brk => exact False.elim hq
    | cont => exact False.elim hq
theorem pe_call (F : FnOk X.prog X.w X.K X.mg X.base CX k f fd ps sp) (hr : Room k X.A) (hg : Gl X x) (hm : X.mg x = some (.ref f)) (hk : PySem.W.keepIn X.K (.ref f) = true) (hb : Binds X.K fd ps ds) (hd : Vals dvs ds) (hx : Passes CX X E)
    (ha : PA X (e :: es) t) (hdb : (x == ("__debug__" : Str)) = false := by decide) (he : starEach (e :: es) X.env = (false, eval e X.env) :: starEach es X.env := by rfl) (hpl : (backTo pos (starEach es X.env)).any (·.1) = false := by rfl) :
    PE X (.Call (.Name x p) (e :: es) [] pos) (tCall sp dvs E t) := by
  intro pins s σ H Q I h
  refine wpAny_Call_Name_kw (ld_glob I hg hm ?_ hdb)
  refine PySem.W.callWith_K (h₀ := X.base) I.ok.mod.kin hk (thn (ha pos pins s σ H _ I h) fun us s1 ⟨vs, H1, I1, r, q⟩ => ⟨I1.kIn, ?_⟩) he hpl
  exact run_fn F hr hb hd hx I1 r q
theorem pe_meth {pl : Sem Bool} (he : PE X o ta) (c : Cls X.K C) (hm : Meth X.K C m f) (F : FnOk X.prog X.w X.K X.mg X.base CX k f fd ps sp) (hr : Room k X.A) (hb : Binds X.K fd ps ds) (hd : Vals dvs ds) (hx : Passes CX X E) (ha : PA X (e :: es) t)
    (hst : starEach (e :: es) X.env = (false, eval e X.env) :: starEach es X.env := by rfl) (hpl : (backTo pos (starEach es X.env)).any (·.1) = false := by rfl)
    (ht : eval (.Call (.Attribute o m apos) (e :: es) [] pos) X.env = (do
      let ov ← eval o X.env
      standAt apos.atName
      let (f, first) ← holding [ov] (getMethod ov m pl)
      callWith pos f first (backTo pos (starEach (e :: es) X.env)) (backToKw pos (keywordEach [] X.env))) := by rfl) :
    PE X (.Call (.Attribute o m apos) (e :: es) [] pos) (tMeth C m sp dvs E ta t) := by
  intro pins s σ H Q I h
  refine PySem.W.methodCall_KW (pl := pl) (thn (he pins s σ H _ I h) fun u s1 ⟨x, H1, I1, rx, a, dx, fs, ex, ea, l, q⟩ => ?_) ht
  subst ex
  obtain rfl : u = Value.ref a := rx
  refine getmeth_ok I1 ea c hm l ?_
  refine PySem.W.callWith_K (first := [.ref a]) (h₀ := X.base) I.ok.mod.kin hm.kp (thn (ha pos pins s1 σ H1 _ I1 q) fun us s2 ⟨vs, H2, I2, r, q2⟩ => ⟨I2.kIn, ?_⟩) hst hpl
  exact run_fn (us := .ref a :: us) (vs := .ref a :: vs) F hr hb hd hx I2 (.cons rfl r) q2
theorem pe_meth0 {pl : Sem Bool} (he : PE X o ta) (c : Cls X.K C) (hm : Meth X.K C m f) (F : FnOk X.prog X.w X.K X.mg X.base CX k f fd ps sp) (hr : Room k X.A) (hb : Binds X.K fd ps ds) (hd : Vals dvs ds) (hx : Passes CX X E)
    (ht : eval (.Call (.Attribute o m apos) [] [] pos) X.env = (do
      let ov ← eval o X.env
      standAt apos.atName
      let (f, first) ← holding [ov] (getMethod ov m pl)
      callWith pos f first (backTo pos (starEach [] X.env)) (backToKw pos (keywordEach [] X.env))) := by rfl) :
    PE X (.Call (.Attribute o m apos) [] [] pos) (tMeth C m sp dvs E ta tNil) := by
  intro pins s σ H Q I h
  refine PySem.W.methodCall_KW (pl := pl) (thn (he pins s σ H _ I h) fun u s1 ⟨x, H1, I1, rx, a, dx, fs, ex, ea, l, q⟩ => ?_) ht
  subst ex
  obtain rfl : u = Value.ref a := rx
  refine getmeth_ok I1 ea c hm l ?_
  exact PySem.W.callWith_K0 (first := [.ref a]) I1.kIn hm.kp (run_fn (us := [.ref a]) (vs := [.ref a]) F hr hb hd hx I1 (.cons rfl .nil) q)
structure Mk (K : PySem.W.Frag) (C f : Addr) : Prop where
  makes : PySem.W.makesIn K C = true
  init : PySem.W.findIn K (.ref C) "__init__" = some (some (.ref f))
  fn : PySem.W.isFn K (.ref f) = true
  kp : PySem.W.keepIn K (.ref C) = true
theorem run_make {pins : List (Addr × Obj)} {σ : St} {H : Hp} {s : Shared} {Q : VK} {us : List Value} {vs : List V} (M : Mk X.K C f) (F : FnOk X.prog X.w X.K X.mg X.base CX k f fd ps sp) (hr : Room (k + 1) X.A) (hb : Binds X.K fd ps ds) (hd : Vals dvs ds)
    (hx : Passes CX X E) (I : Inv X pins σ H s) (r : Vals vs us)
    (h : ∀ x dx, H x = none → H dx = none → dx ≠ x → sp (.ref x :: (vs ++ dvs)) (upd (upd H dx (.own x)) x (.ins C dx [])) (fun v H2 => v = .non ∧ Q (.ref x) H2) E) :
    wpAny (model X.prog X.w) X.A (call (.ref C) us) (EP X pins σ Q) X.xe s := by
  have hq := h (s.heap.objs.size + 1) s.heap.objs.size (I.hok.fresh (Nat.le_succ _)) (I.hok.fresh (Nat.le_refl _)) (Nat.ne_of_lt (Nat.lt_succ_self _))
  have I2 := Inv.made (C := C) I
  have r2 : Vals (V.ref (s.heap.objs.size + 1) :: (vs ++ dvs)) (Value.ref (s.heap.objs.size + 1) :: (us ++ ds)) := .cons rfl (r.append hd)
  have hl : (Value.ref (s.heap.objs.size + 1) :: us ++ ds).length = ps.length := by
    have e := r2.length
    rw [F.len _ _ _ _ hq] at e
    exact e.symm
  refine wpAny_call (make_map (f := f) I.kIn M.makes M.init (beq_iff_eq.mp M.fn) (codeAny_mono (F.run _ X.stack _ _ ⟨Value.ref (s.heap.objs.size + 1) :: us, []⟩ (Value.ref (s.heap.objs.size + 1) :: (us ++ ds)) _ _ E (hr.make C us [])
    (I2.env0.make C us []) (hb _ (Value.ref (s.heap.objs.size + 1) :: us) I2.kIn hl) r2 hq) fun r s' hq' => ?_))
  cases r with
  | error e => exact hx pins σ _ _ e s' I2 hq'
  | ok fl =>
    cases fl with
    | ret u =>
      obtain ⟨v, H', I3, rv, ev, q3⟩ := I2.after hq'
      subst ev
      exact ⟨rv, ⟨V.ref (s.heap.objs.size + 1), H', I3, rfl, q3⟩⟩
    | next => exact False.elim hq'
    | brk => exact False.elim hq'
    | cont => exact False.elim hq'
theorem pe_make (M : Mk X.K C f) (F : FnOk X.prog X.w X.K X.mg X.base CX k f fd ps sp) (hr : Room (k + 1) X.A) (hg : Gl X x) (hm : X.mg x = some (.ref C)) (hb : Binds X.K fd ps ds) (hd : Vals dvs ds) (hx : Passes CX X E)
    (ha : PA X (e :: es) t) (hdb : (x == ("__debug__" : Str)) = false := by decide) (he : starEach (e :: es) X.env = (false, eval e X.env) :: starEach es X.env := by rfl) (hpl : (backTo pos (starEach es X.env)).any (·.1) = false := by rfl) :
    PE X (.Call (.Name x p) (e :: es) [] pos) (tMake C sp dvs E t) := by
  intro pins s σ H Q I h
  refine wpAny_Call_Name_kw (ld_glob I hg hm ?_ hdb)
  refine PySem.W.callWith_K (h₀ := X.base) I.ok.mod.kin M.kp (thn (ha pos pins s σ H _ I h) fun us s1 ⟨vs, H1, I1, r, q⟩ => ⟨I1.kIn, ?_⟩) he hpl
  exact run_make M F hr hb hd hx I1 r q
theorem pe_make0 (M : Mk X.K C f) (F : FnOk X.prog X.w X.K X.mg X.base CX k f fd ps sp) (hr : Room (k + 1) X.A) (hg : Gl X x) (hm : X.mg x = some (.ref C)) (hb : Binds X.K fd ps ds) (hd : Vals dvs ds) (hx : Passes CX X E)
    (hdb : (x == ("__debug__" : Str)) = false := by decide) : PE X (.Call (.Name x p) [] [] pos) (tMake C sp dvs E tNil) := by
  intro pins s σ H Q I h
  refine wpAny_Call_Name_kw (ld_glob I hg hm ?_ hdb)
  exact PySem.W.callWith_K0 I.kIn M.kp (run_make (us := []) M F hr hb hd hx I .nil h)
end
section
variable {X : Cx} {CX : CXT} {k : Nat} {f C : Addr} {fd : FuncData} {ps ks : List Str} {sp : Sp} {E : XK} {x m : Str} {p pos apos kpos : Pos} {e o : Expr} {es : List Expr} {kws : List Keyword} {te ta : TE} {t tk : TA} {nm : Option Str}
variable {g : List Value → List Value → List Value} {gV : List V → List V → List V}
end
structure FnScope (N P : List Str) (sc : Scope) : Prop where
  kind : sc.kind = .function
  co : sc.isCoroutine = false
  gen : sc.isGenerator = false
  nd : N.Nodup
  pre : N.take P.length = P
  par : ∀ x ∈ P, sc.names.lookup x = some .local ∨ sc.names.lookup x = some .cell
  nofree : ∀ y ∈ sc.names, y.2 ≠ .free
theorem bindL_out {kindOf : Str → Option NameKind} {x : Str} : ∀ {binds : List (Str × Value)} {m : Str → Option Value}, (∀ v, (x, v) ∉ binds) → bindL kindOf binds m x = m x
  | [], _, _ => rfl
  | (n, v) :: r, m, h => by
    unfold bindL
    rw [bindL_out fun w hw => h w (List.mem_cons_of_mem _ hw)]
    split
    · have : x ≠ n := by rintro rfl; exact h v List.mem_cons_self
      simp [this]
    · rfl
theorem bindC_out {kindOf : Str → Option NameKind} {x : Str} : ∀ {binds : List (Str × Value)} {m : Str → Option Value}, (∀ v, (x, v) ∉ binds) → bindC kindOf binds m x = m x
  | [], _, _ => rfl
  | (n, v) :: r, m, h => by
    unfold bindC
    rw [bindC_out fun w hw => h w (List.mem_cons_of_mem _ hw)]
    split
    · rfl
    · have : x ≠ n := by rintro rfl; exact h v List.mem_cons_self
      simp [this]
theorem bindL_get {kindOf : Str → Option NameKind} {x : Str} {v : Value} : ∀ {P : List Str} {vs : List Value} {i : Nat} {m : Str → Option Value}, P.Nodup → P[i]? = some x → vs[i]? = some v → kindOf x = some .local →
    bindL kindOf (P.zip vs) m x = some v
  | [], _, _, _, _, h, _, _ => by simp at h
  | _ :: _, [], _, _, _, _, h, _ => by simp at h
  | p :: P, w :: vs, 0, m, nd, h1, h2, hk => by
    simp at h1 h2; subst h1; subst h2
    show bindL kindOf ((p, w) :: P.zip vs) m p = _
    unfold bindL
    rw [bindL_out fun v hv => (List.nodup_cons.mp nd).1 (List.of_mem_zip hv).1, if_pos hk]
    simp
  | p :: P, w :: vs, i + 1, m, nd, h1, h2, hk => by
    show bindL kindOf ((p, w) :: P.zip vs) m x = _
    unfold bindL
    exact bindL_get (i := i) (List.nodup_cons.mp nd).2 (by simpa using h1) (by simpa using h2) hk
theorem bindC_get {kindOf : Str → Option NameKind} {x : Str} {v : Value} : ∀ {P : List Str} {vs : List Value} {i : Nat} {m : Str → Option Value}, P.Nodup → P[i]? = some x → vs[i]? = some v → kindOf x ≠ some .local →
    bindC kindOf (P.zip vs) m x = some v
  | [], _, _, _, _, h, _, _ => by simp at h
  | _ :: _, [], _, _, _, _, h, _ => by simp at h
  | p :: P, w :: vs, 0, m, nd, h1, h2, hk => by
    simp at h1 h2; subst h1; subst h2
    show bindC kindOf ((p, w) :: P.zip vs) m p = _
    unfold bindC
    rw [bindC_out fun v hv => (List.nodup_cons.mp nd).1 (List.of_mem_zip hv).1, if_neg hk]
    simp
  | p :: P, w :: vs, i + 1, m, nd, h1, h2, hk => by
    show bindC kindOf ((p, w) :: P.zip vs) m x = _
    unfold bindC
    exact bindC_get (i := i) (List.nodup_cons.mp nd).2 (by simpa using h1) (by simpa using h2) hk
def start (N : List Str) (vs : List V) : St := vs.map some ++ List.replicate (N.length - vs.length) none
def cxOf (CX : CXT) (P : Program) (w : World) (K : PySem.W.Frag) (mg : Str → Option Value) (base : Heap) (N : List Str) (qual : Str) (scope : Scope) (f : Addr) (cd : Value) (A : Around) (outer : List Env) (s : Shared) (H : Hp) (E : XK) : Cx where
  prog := P
  w := w
  K := K
  mg := mg
  base := base
  A := A.deeper (envOfC qual scope s.heap.objs.size f cd)
  N := N
  s_0 := s
  H_0 := H
  env := envOfC qual scope s.heap.objs.size f cd
  outer := outer
  stack := envOfC qual scope s.heap.objs.size f cd :: outer
  ex := []
  calm := true
  fn := fun _ => true
  pn := []
  xe := fun e s' => wpAny (model P w) (A.deeper (envOfC qual scope s.heap.objs.size f cd)) (leaving (envOfC qual scope s.heap.objs.size f cd) e) (fun _ s'' => CX outer H s E e s'') (fun e' s'' => CX outer H s E e' s'') s'
theorem cell_has {sc : Scope} {n : Nat} {x : Str} (h : sc.names.lookup x = some .cell) : ∃ c, (cellsFrom n sc.names []).lookup x = some c := by
  have q := PySem.W.cellsFrom_some sc.names n [] (.inl h)
  exact Option.isSome_iff_exists.mp q
theorem inv_start {CX : CXT} {P : Program} {w : World} {K : PySem.W.Frag} {mg : Str → Option Value} {base : Heap} {N ps : List Str} {qual : Str} {scope : Scope} {f : Addr} {cd : Value} {A : Around} {outer : List Env} {s s1 : Shared} {H : Hp} {E : XK} {us : List Value} {vs : List V}
    (S : FnScope N ps scope) (hd : A.handled = none) (e0 : Env0 P w K mg base A outer s H) (hl : vs.length = ps.length) (r : Vals vs us)
    (x : InCallC s s.heap.objs.size (bindL (envOfC qual scope s.heap.objs.size f cd).kindOf (ps.zip us) fun _ => none) (cellsFrom (s.heap.objs.size + 1) scope.names []) (bindC (envOfC qual scope s.heap.objs.size f cd).kindOf (ps.zip us) fun _ => none) s1) :
    Inv (cxOf CX P w K mg base N qual scope f cd A outer s H E) [] (start N vs) H s1 := by
  have hpl : ps.length ≤ N.length := by have := congrArg List.length S.pre; rw [List.length_take] at this; omega
  obtain ⟨h1, tk, rfl, hk⟩ := x.done
  have noA : ∀ b : Addr, b ∉ (cxOf CX P w K mg base N qual scope f cd A outer s H E).ex := fun b z => absurd (show b ∈ ([] : List Addr) from z) (by simp)
  refine ⟨⟨e0.mod, S.kind, rfl, rfl, Nat.le_refl _, fun y z c h1 h2 => ?_, fun y hy => ?_, fun y c _ h => ?_, fun _ => hd, Around.frames_deeper e0.frames, .inr ⟨rfl, rfl⟩, fun b z => absurd z (noA b), e0.bs, e0.bsz, fun b _ _ => noA b, fun b z => absurd z (noA b), e0.funs, e0.frf⟩,
    rfl, e0.bare, Un.kept hk, ⟨_, x.toInCall.ns, fun i y v h1 h2 h3 => ?_⟩, fun y c h => ⟨_, x.cell y c h⟩, e0.hok.fresh (Nat.le_refl _), fun y c h => ?_, fun p hp => absurd (show p ∈ ([] : List (Addr × Obj)) from hp) (by simp), e0.hok.kept hk, ?_⟩
  · exact name_of_addr x.apart (PySem.mem_of_lookup h1) (PySem.mem_of_lookup h2)
  · have hy : scope.names.lookup y = some .cell ∨ scope.names.lookup y = some .free := hy
    rcases hy with hy | hy
    · exact cell_has hy
    · exact absurd rfl (S.nofree _ (PySem.mem_of_lookup hy))
  · exact Nat.le_of_lt (x.above y c (PySem.mem_of_lookup h))
  · have hi : i < vs.length := by
      unfold start at h2
      by_cases hi : i < vs.length
      · exact hi
      · rw [List.getElem?_append_right (by simpa using hi)] at h2
        rw [List.getElem?_replicate] at h2
        split at h2 <;> cases h2
    have ha : vs[i]? = some v := by
      unfold start at h2
      rw [List.getElem?_append_left (by simpa using hi), List.getElem?_map] at h2
      cases e : vs[i]? with
      | none => rw [e] at h2; cases h2
      | some a => rw [e] at h2; cases h2; rfl
    obtain ⟨u, hu, rv⟩ := r.get ha
    have hp : ps[i]? = some y := by
      rw [← S.pre, List.getElem?_take_of_lt (by omega)]; exact h1
    have ndP : ps.Nodup := by rw [← S.pre]; exact S.nd.sublist (List.take_sublist _ _)
    refine ⟨u, rv, ?_⟩
    rcases S.par y (List.mem_of_getElem? hp) with k | k
    · exact .inl ⟨k, bindL_get ndP hp hu k⟩
    · obtain ⟨c, e⟩ := cell_has (n := s.heap.objs.size + 1) k
      refine .inr ⟨.inl k, c, e, ?_⟩
      have q := x.cell y c e
      rw [bindC_get ndP hp hu (by show scope.names.lookup y ≠ _; rw [k]; decide)] at q
      exact q
  · exact e0.hok.fresh (Nat.le_of_lt (x.above y c (PySem.mem_of_lookup h)))
  · unfold start
    show _ = N.length
    rw [List.length_append, List.length_map, List.length_replicate]
    omega
theorem fn_of {CX : CXT} {P : Program} {w : World} {K : PySem.W.Frag} {mg : Str → Option Value} {base : Heap} {k : Nat} {f : Addr} {name qual : Str} {params : Arguments} {body : List Stmt} {scope : Scope} {dV kV doc pm cdv ct oc : Value} {an od : Option Addr}
    {osl : Array (Option Value)} {N ps : List Str} {sp : Sp} (lk : K.lookup f = some ⟨oc, od, .func (PySem.W.fnOf name qual params body scope dV kV doc pm an cdv ct), osl⟩) (hcd : PySem.W.codeIn K cdv qual = true) (S : FnScope N ps scope)
    (len : ∀ vs H Q E, sp vs H Q E → vs.length = ps.length)
    (hbody : ∀ (A : Around) (outer : List Env) (s : Shared) (H : Hp) (vs : List V) (Q : VK) (E : XK), Room k (A.deeper (envOfC qual scope s.heap.objs.size f cdv)) → sp vs H Q E →
      ∃ t, PSs (cxOf CX P w K mg base N qual scope f cdv A outer s H E) body t ∧ t { nx := fun _ H' => Q .non H', rt := Q } (start N vs) H) :
    FnOk P w K mg base CX (k + 1) f (PySem.W.fnOf name qual params body scope dV kV doc pm an cdv ct) ps sp := by
  refine ⟨len, fun A outer s H args us vs Q E hr e0 hb r hsp => ?_⟩
  have hl := len _ _ _ _ hsp
  have KX : K.In s.heap := e0.mod.kin.keeps fun b o e => (e0.bs b o e).1
  have lim : s.heap.NoLimit := e0.mod.nolimit.keeps fun b o e => (e0.bs b o e).1
  have hkind : ∀ y ∈ ps.zip us, scope.names.lookup y.1 = some .local ∨ (scope.names.lookup y.1 = some .cell ∧ ((cellsFrom (s.heap.objs.size + 1) scope.names []).lookup y.1).isSome = true) := fun ⟨n, v⟩ hy => by
    rcases S.par n (List.of_mem_zip hy).1 with q | q
    · exact .inl q
    · exact .inr ⟨q, PySem.W.cellsFrom_some _ _ _ (.inl q)⟩
  refine codeAny_call_function hr.depth (KX _ _ lk) rfl S.co S.gen rfl (PySem.W.codeRec_of KX hcd) (hb _ _ _ _ ?_)
  refine wpAny_newFunctionEnv_cells S.kind hkind fun env he s1 x => ?_
  subst he
  refine ⟨lim.keeps x.toInCall.keep, codeAny_func ?_⟩
  obtain ⟨t, ht, hq⟩ := hbody A outer s H vs Q E (hr.deeper _) hsp
  have I : Inv (cxOf CX P w K mg base N qual scope f cdv A outer s H E) [] (start N vs) H s1 := inv_start S hr.hd e0 hl r x
  refine wpAny_mono (ht [] s1 (start N vs) H _ I hq) (fun fl s' hs => ?_) fun e s' hs => hs
  have fin : ∀ {σ' : St} {H' : Hp} {v : V} {u : Value}, Inv (cxOf CX P w K mg base N qual scope f cdv A outer s H E) [] σ' H' s' → RelV v u → Q v H' → CE outer P w H s Q u s' :=
    fun {σ' H' v u} J rv q => ⟨v, H', J.os, J.bare, J.base, J.hok, rv, q⟩
  cases fl with
  | ret u =>
    obtain ⟨v, σ', H', J, rv, q⟩ := hs
    exact fin J rv q
  | next =>
    obtain ⟨σ', H', J, q⟩ := hs
    exact fin (v := V.non) (u := Value.none) J rfl q
  | brk =>
    obtain ⟨_, _, _, q⟩ := hs
    exact False.elim q
  | cont =>
    obtain ⟨_, _, _, q⟩ := hs
    exact False.elim q
end L2
namespace L2
open PySem PySem.Spec PyProof.Rows
section
variable {X : Cx} {x : Str} {p pos : Pos} {e : Expr} {es : List Expr} {t : TA} {id T : String} {r : List V → Hp → VK → Prop}
def tCB (r : List V → Hp → VK → Prop) (t : TA) : TE := fun σ H Q => t σ H fun vs H1 => r vs H1 Q
theorem pe_callB (hc : CallR X (.builtin id) r) (hg : Gl X x) (hm : X.mg x = none) (hv : bootBuiltins x = some (.builtin id)) (ha : PA X (e :: es) t) (hn : x ≠ "__name__" := by decide) (hdb : (x == ("__debug__" : Str)) = false := by decide)
    (he : starEach (e :: es) X.env = (false, eval e X.env) :: starEach es X.env := by rfl) (hpl : (backTo pos (starEach es X.env)).any (·.1) = false := by rfl) : PE X (.Call (.Name x p) (e :: es) [] pos) (tCB r t) := by
  intro pins s σ H Q I h
  refine wpAny_Call_Name_kw (ld_blt I hg hm hv ?_ hn hdb)
  exact PyProof.Rows.callWith_builtin1 (thn (ha pos pins s σ H _ I h) fun us s1 ⟨vs, H1, I1, r1, q1⟩ => hc pins s1 σ H1 vs us Q I1 r1 q1) he hpl
theorem pe_callTy (hc : CallR X (.type T) r) (hg : Gl X x) (hm : X.mg x = none) (hv : bootBuiltins x = some (.type T)) (ha : PA X (e :: es) t) (hn : x ≠ "__name__" := by decide) (hdb : (x == ("__debug__" : Str)) = false := by decide)
    (he : starEach (e :: es) X.env = (false, eval e X.env) :: starEach es X.env := by rfl) (hpl : (backTo pos (starEach es X.env)).any (·.1) = false := by rfl) : PE X (.Call (.Name x p) (e :: es) [] pos) (tCB r t) := by
  intro pins s σ H Q I h
  refine wpAny_Call_Name_kw (ld_blt I hg hm hv ?_ hn hdb)
  exact PyProof.Rows.callWith_type1 (thn (ha pos pins s σ H _ I h) fun us s1 ⟨vs, H1, I1, r1, q1⟩ => hc pins s1 σ H1 vs us Q I1 r1 q1) he hpl
end
end L2
namespace HT
open PySem PyProof.Rows
section
open PySem.SeqAt
open PySem.AutoSeq1 (wpAny_loadPart')
open PySem.MeetsSeq PySem.MeetsSeq2 PySem.MeetsSeq3
end
section
variable {prog : Program} {w : World} {A : Around} {E : Value → Shared → Prop} {s : Shared}
def sIx (n d : Nat) : Option Int → Nat
  | none => d
  | some v => if v < 0 then (v + (n : Int)).toNat else min v.toNat n
end
end HT
namespace L2
open PySem PySem.Spec PyProof.Rows
abbrev TO := St → Hp → (Option Int → Hp → Prop) → Prop
def PO (X : Cx) (e : Option Expr) (t : TO) : Prop :=
  ∀ (pins : List (Addr × Obj)) (s : Shared) (σ : St) (H : Hp) (Q : Option Int → Hp → Prop), Inv X pins σ H s → t σ H Q →
    wpAny (model X.prog X.w) X.A (evalPart e X.env) (fun u s' => ∃ o H', Inv X pins σ H' s' ∧ IsPart u o ∧ Q o H') X.xe s
def tPart (t : TE) : TO := fun σ H Q => t σ H fun x H1 => ∃ i, x = .int i ∧ Q (some i) H1
theorem intsAre_of {ns : List Int} : ∀ {us : List Value}, Vals (ns.map V.int) us → IntsAre us ns := by
  induction ns with
  | nil => intro us r; rw [List.map_nil] at r; cases r; exact .nil
  | cons n ns ih =>
    intro us r
    rw [List.map_cons] at r
    cases r with
    | cons r1 r2 =>
      obtain ⟨t, e⟩ := r1
      subst e
      exact .cons n t (ih r2)
section
variable {X : Cx} {e : Expr} {te : TE} {lo hi : Option Expr} {tl th : TO} {pos p2 : Pos}
theorem po_some (h : PE X e te) : PO X (some e) (tPart te) := by
  intro pins s σ H Q I hw
  rw [evalPart_some]
  refine thn (h pins s σ H _ I hw) fun u s1 ⟨x, H1, I1, r1, q1⟩ => ?_
  obtain ⟨i, rfl, q⟩ := q1
  obtain ⟨t, rfl⟩ := r1
  exact ⟨some i, H1, I1, .int i t, q⟩
def SlR (X : Cx) (r : V → Option Int → Option Int → Hp → VK → Prop) : Prop :=
  ∀ (pins : List (Addr × Obj)) (s : Shared) (σ : St) (H : Hp) (x : V) (v vl vu : Value) (lo hi : Option Int) (sl : Addr) (Q : VK), Inv X pins σ H s → RelV x v → s.heap.IsSliceOf sl vl vu .none → IsPart vl lo → IsPart vu hi → r x lo hi H Q →
    ∃ T id, typeLookup (.type T) "__getitem__" = pure (some (.builtin id)) ∧ s.TypeIs v T ∧ wpAny (model X.prog X.w) X.A (getItem v (.ref sl)) (EP X pins σ Q) X.xe s
def tSl (r : V → Option Int → Option Int → Hp → VK → Prop) (te : TE) (tl th : TO) : TE := fun σ H Q => te σ H fun x H1 => tl σ H1 fun l H2 => th σ H2 fun u H3 => r x l u H3 Q
theorem pe_slice {r : V → Option Int → Option Int → Hp → VK → Prop} (hr : SlR X r) (he : PE X e te) (hl : PO X lo tl) (hu : PO X hi th) : PE X (.Subscript e (.Slice lo hi none p2) pos) (tSl r te tl th) := by
  intro pins s σ H Q I h
  refine Subscript_ (thn (he pins s σ H _ I h) fun v s1 ⟨x, H1, I1, r1, q1⟩ => ?_)
  refine wpAny_Slice (thn (hl pins s1 σ H1 _ I1 q1) fun vl s2 ⟨l, H2, I2, pl, q2⟩ => thn (hu pins s2 σ H2 _ I2 q2) fun vu s3 ⟨u, H3, I3, pu, q3⟩ => ?_)
  rw [evalPart_none]
  refine wpAny_pure ?_
  have I4 : Inv X pins σ H3 { s3 with heap := s3.heap.push { cls := .type "slice", data := .fields #[vl, vu, .none] } } := I3.kept (t' := s3.toks) fun b ob q => Heap.get?_push_of_some _ q
  obtain ⟨T, id, hT, ht, hg⟩ := hr pins { s3 with heap := s3.heap.push { cls := .type "slice", data := .fields #[vl, vu, .none] } } σ H3 x v vl vu l u s3.heap.objs.size Q I4 r1 (Heap.IsSliceOf.new ..) pl pu q3
  show wpAny (model X.prog X.w) X.A (subscriptTail e (.Slice lo hi none p2) v (.ref s3.heap.objs.size)) (EP X pins σ Q) X.xe { s3 with heap := s3.heap.push { cls := .type "slice", data := .fields #[vl, vu, .none] } }
  exact tail_any (ops := [.ref s3.heap.objs.size, v]) ht hT hg (by with_unfolding_all rfl)
def cutV (xs : List V) (lo hi : Option Int) : List V := (xs.drop (HT.sIx xs.length 0 lo)).take (HT.sIx xs.length xs.length hi - HT.sIx xs.length 0 lo)
theorem cutV_length (xs : List V) (lo hi : Option Int) : (cutV xs lo hi).length ≤ xs.length := by
  unfold cutV
  rw [List.length_take, List.length_drop]
  omega
end
end L2
namespace L2
open PySem PySem.Spec PyProof.Rows
def ixN (n : Nat) (i : Int) : Option Nat := if 0 ≤ i then (if i < n then some i.toNat else none) else if -(n : Int) ≤ i then some (i + n).toNat else none
def atI {α : Type} (xs : List α) (i : Int) : Option α := (ixN xs.length i).bind fun j => xs[j]?
theorem ixN_seq {n : Nat} {i : Int} {j : Nat} (h : ixN n i = some j) : seqIndex? i n = some j ∧ j < n ∧ -(n : Int) ≤ i ∧ i < n := by
  unfold ixN at h
  by_cases h0 : 0 ≤ i
  · rw [if_pos h0] at h
    by_cases h1 : i < n
    · rw [if_pos h1] at h
      have e : i.toNat = j := Option.some.inj h
      exact ⟨by rw [seqIndex_of h0 h1, e], by omega, by omega, h1⟩
    · rw [if_neg h1] at h; cases h
  · rw [if_neg h0] at h
    by_cases h1 : -(n : Int) ≤ i
    · rw [if_pos h1] at h
      have e : (i + n).toNat = j := Option.some.inj h
      exact ⟨by rw [seqIndex_neg (by omega) h1, e], by omega, h1, by omega⟩
    · rw [if_neg h1] at h; cases h
theorem atI_get {α : Type} {xs : List α} {i : Int} {v : α} (h : atI xs i = some v) : ∃ j, seqIndex? i xs.length = some j ∧ xs[j]? = some v ∧ j < xs.length ∧ -(xs.length : Int) ≤ i ∧ i < xs.length := by
  unfold atI at h
  cases e : ixN xs.length i with
  | none => rw [e] at h; cases h
  | some j =>
    rw [e] at h
    obtain ⟨h1, h2, h3, h4⟩ := ixN_seq e
    exact ⟨j, h1, h, h2, h3, h4⟩
theorem atI_nat {α : Type} {xs : List α} {j : Nat} {v : α} (h : xs[j]? = some v) : atI xs (j : Int) = some v := by
  have hj : j < xs.length := (List.getElem?_eq_some_iff.mp h).1
  have e : ixN xs.length (j : Int) = some j := by
    unfold ixN
    rw [if_pos (by omega), if_pos (by omega)]; simp
  unfold atI; rw [e]; exact h
def PlainIx (b : Expr) : Prop := ∀ o i, subscripted b false o i = operate [o, i] (getItem o i)
def IxR (X : Cx) (r : R2) : Prop :=
  ∀ (value slice : Expr) (pins : List (Addr × Obj)) (s : Shared) (σ : St) (H : Hp) (x y : V) (v u : Value) (Q : VK), Inv X pins σ H s → RelV x v → RelV y u → r x y H Q →
    subscripted slice false v u = operate [v, u] (getItem v u) → wpAny (model X.prog X.w) X.A (subscriptTail value slice v u) (EP X pins σ Q) X.xe s
def MtR (X : Cx) (id : String) (r : V → List V → Hp → VK → Prop) : Prop :=
  ∀ (pins : List (Addr × Obj)) (s : Shared) (σ : St) (H : Hp) (x : V) (xs : List V) (v : Value) (us : List Value) (Q : VK), Inv X pins σ H s → RelV x v → Vals xs us → r x xs H Q →
    wpAny (model X.prog X.w) X.A (call (.builtin id) (v :: us)) (EP X pins σ Q) X.xe s
section
variable {X : Cx} {a b : Expr} {ta tb : TE} {pos : Pos}
theorem pe_ix {r : R2} (hr : IxR X r) (ha : PE X a ta) (hb : PE X b tb) (hs : PlainIx b) : PE X (.Subscript a b pos) (tOp r ta tb) := by
  intro pins s σ H Q I h
  exact Subscript_ (binT ha hb I h fun v u s2 x y H2 I2 rx ry q => hr a b pins s2 σ H2 x y v u Q I2 rx ry q (hs _ _))
def rIxL (K : PySem.W.Frag) : R2 := fun x y H Q => ∃ p xs i v, x = .ref p ∧ y = .int i ∧ SqL K H p xs ∧ atI xs i = some v ∧ Q v H
def rIxT (K : PySem.W.Frag) : R2 := fun x y H Q => ∃ p xs i v, x = .ref p ∧ y = .int i ∧ SqT K H p xs ∧ atI xs i = some v ∧ Q v H
theorem ix_list : IxR X (rIxL X.K) := by
  intro value slice pins s σ H x y v u Q I rx ry h hs
  obtain ⟨p, xs, i, z, rfl, rfl, hq, he, q⟩ := h
  cases rx
  obtain ⟨t, rfl⟩ := ry
  obtain ⟨its, r, pl, hz⟩ := I.list hq
  obtain ⟨j, h1, h2, h3, h4, h5⟩ := atI_get he
  obtain ⟨w, ew, rw'⟩ := r.get h2
  have hl := r.length
  have hn := line63
  have fin : EP X pins σ Q w s := ⟨z, H, I, rw', q⟩
  by_cases h0 : 0 ≤ i
  · have hj : i.toNat = j := by
      rw [seqIndex_of h0 h5] at h1
      exact Option.some.inj h1
    exact item_listR pl.isList h0 (by omega) (by rw [hj]; simpa using ew) fin hs
  · have hj : (i + (its.toArray.size : Int)).toNat = j := by
      rw [seqIndex_neg (by omega) h4] at h1
      rw [List.size_toArray, ← hl]
      exact Option.some.inj h1
    exact subscriptTail_builtinR (x := w) pl.isList.typeIs slot_list_getitem.lookup
      (wpAny_getItem_list_neg (Q := fun r s' => r = w ∧ EP X pins σ Q r s') pl.isList (by omega) (by rw [List.size_toArray] <;> omega) (by omega) (by rw [hj]; simpa using ew) ⟨rfl, fin⟩) hs
theorem ix_tup : IxR X (rIxT X.K) := by
  intro value slice pins s σ H x y v u Q I rx ry h hs
  obtain ⟨p, xs, i, z, rfl, rfl, hq, he, q⟩ := h
  cases rx
  obtain ⟨t, rfl⟩ := ry
  obtain ⟨its, r, pl, hz⟩ := I.tuple hq
  obtain ⟨j, h1, h2, h3, h4, h5⟩ := atI_get he
  obtain ⟨w, ew, rw'⟩ := r.get h2
  have hl := r.length
  have hn := line63
  have fin : EP X pins σ Q w s := ⟨z, H, I, rw', q⟩
  exact subscriptTail_builtinR (x := w) pl.typeIs slot_tuple_getitem.lookup
    (getItem_tuple (j := j) (Q := fun r s' => r = w ∧ EP X pins σ Q r s') pl (by omega) (by omega) (by rw [List.size_toArray, ← hl]; exact h1) (by simpa using ew) ⟨rfl, fin⟩) hs
theorem mapSeq_set (its : List Value) (n j : Nat) (u : Value) : Obj.mapSeq (·.setIfInBounds j u) { cls := .type "list", data := .seq its.toArray n } = { cls := .type "list", data := .seq (its.set j u).toArray n } := by
  simp [Obj.mapSeq]
theorem Inv.lst {pins : List (Addr × Obj)} {σ : St} {H : Hp} {s : Shared} {p : Addr} {xs : List V} (I : Inv X pins σ H s) (h : H p = some (.lst xs)) :
    ∃ (its : List Value) (n : Nat), Vals xs its ∧ s.heap.get? p = some { cls := .type "list", data := .seq its.toArray n } ∧ xs.length ≤ sizeLine := by
  obtain ⟨z, its, n, r, e⟩ := I.hok p _ h
  exact ⟨its, n, r, e, z⟩
theorem Inv.lstUpd {pins : List (Addr × Obj)} {σ : St} {H : Hp} {s : Shared} {p : Addr} {xs ys : List V} {its its' : List Value} {n n' : Nat} {f : Obj → Obj} (I : Inv X pins σ H s) (h : H p = some (.lst xs))
    (ho : s.heap.get? p = some { cls := .type "list", data := .seq its.toArray n }) (hf : f { cls := .type "list", data := .seq its.toArray n } = { cls := .type "list", data := .seq its'.toArray n' }) (r : Vals ys its') (hz : ys.length ≤ sizeLine) (t : Nat) :
    Inv X pins σ (upd H p (.lst ys)) { s with heap := s.heap.update p f, toks := t } := by
  have e : (s.heap.update p f).get? p = some { cls := .type "list", data := .seq its'.toArray n' } := by
    rw [Heap.get?_update_self f ho (by rw [hf] <;> rfl), hf]
  refine I.write (x := p) (e := p) (by rw [h]; trivial) (.inl rfl) (fun b u hb q => (Heap.get?_update_other _ _ (Ne.symm hb)).trans q) ⟨_, e⟩ ?_
  exact ⟨hz, its', n', r, e⟩
def rSetL : V → V → V → Hp → (Hp → Prop) → Prop := fun o i v H Q => ∃ p xs k j, o = .ref p ∧ i = .int k ∧ H p = some (.lst xs) ∧ ixN xs.length k = some j ∧ Q (upd H p (.lst (xs.set j v)))
theorem set_list : PSet X rSetL := by
  intro pins s σ H o i v ov iv u Q I ro ri rv h
  obtain ⟨p, xs, k, j, rfl, rfl, hp, hj, q⟩ := h
  cases ro
  obtain ⟨t, rfl⟩ := ri
  obtain ⟨its, n, r, ho, hz⟩ := I.lst hp
  obtain ⟨h1, h2, h3, h4⟩ := ixN_seq hj
  have hl := r.length
  have hn := line63
  have I' : Inv X pins σ (upd H p (.lst (xs.set j v))) { s with heap := s.heap.update p (Obj.mapSeq (·.setIfInBounds j u)) } :=
    I.lstUpd hp ho (mapSeq_set its n j u) (r.set rv j) (by rw [List.length_set]; exact hz) s.toks
  by_cases h0 : 0 ≤ k
  · have hk : k.toNat = j := by
      rw [seqIndex_of h0 h4] at h1
      exact Option.some.inj h1
    exact PySem.W.ki_setAt ho h0 (by omega) (by rw [List.size_toArray, ← hl]; exact h4) (by rw [hk]; exact ⟨_, I', q⟩)
  · have hk : (k + (its.toArray.size : Int)).toNat = j := by
      rw [seqIndex_neg (by omega) h3] at h1
      rw [List.size_toArray, ← hl]
      exact Option.some.inj h1
    exact PySem.W.ki_setBack ho (by omega) (by rw [List.size_toArray, ← hl]; exact h3) (by omega) (by rw [hk]; exact ⟨_, I', q⟩)
theorem slice_bounds (lo hi : Option Int) (n : Nat) : (sliceBounds lo hi none n).1 = ((HT.sIx n 0 lo : Nat) : Int) ∧ (sliceBounds lo hi none n).2.1 = ((HT.sIx n n hi : Nat) : Int) ∧ (sliceBounds lo hi none n).2.2 = 1 := by
  refine ⟨?_, ?_, rfl⟩
  · cases lo with
    | none => simp [sliceBounds, HT.sIx]
    | some i =>
      simp only [sliceBounds, HT.sIx, Option.getD_none, show (1 : Int) > 0 by decide, if_true]
      by_cases h : i < 0
      · simp only [h, if_true] <;> omega
      · simp only [h, if_false] <;> omega
  · cases hi with
    | none => simp [sliceBounds, HT.sIx]
    | some i =>
      simp only [sliceBounds, HT.sIx, Option.getD_none, show (1 : Int) > 0 by decide, if_true]
      by_cases h : i < 0
      · simp only [h, if_true] <;> omega
      · simp only [h, if_false] <;> omega
theorem slicePick_cut (its : List Value) (lo hi : Option Int) : slicePick its.toArray lo hi none = ((its.drop (HT.sIx its.length 0 lo)).take (HT.sIx its.length its.length hi - HT.sIx its.length 0 lo)).toArray := by
  obtain ⟨h1, h2, h3⟩ := slice_bounds lo hi its.toArray.size
  unfold slicePick
  rw [h1, h2, h3]
  simp only [sliceRange_one, pick_run, List.size_toArray] <;> rfl
def rSlL (K : PySem.W.Frag) : V → Option Int → Option Int → Hp → VK → Prop := fun x lo hi H Q => ∃ a xs, x = .ref a ∧ SqL K H a xs ∧ ∀ p, H p = none → Q (.ref p) (upd H p (.lst (cutV xs lo hi)))
theorem sl_list : SlR X (rSlL X.K) := by
  intro pins s σ H x v vl vu lo hi sl Q I rx hs pl pu h
  obtain ⟨a, xs, rfl, hx, q⟩ := h
  cases rx
  obtain ⟨its, r, ht, hz⟩ := I.list hx
  have hlen := r.length
  refine ⟨"list", _, slot_list_getitem.lookup, ht.isList.typeIs, ?_⟩
  refine wpAny_getItem_list_slice ht.isList hs pl pu .none (by simp) ?_ (by rw [List.size_toArray] <;> omega)
  rw [slicePick_cut, ← hlen]
  refine ⟨.ref s.heap.objs.size, _, I.laid (t' := s.toks) (o := .lst (cutV xs lo hi)) (fun b ob q => Heap.get?_push_of_some _ q) (Nat.le_refl _) ?_, rfl, q _ (I.hok.fresh (Nat.le_refl _))⟩
  exact ⟨Nat.le_trans (cutV_length xs lo hi) hz, _, 0, (r.drop (HT.sIx xs.length 0 lo)).take (HT.sIx xs.length xs.length hi - HT.sIx xs.length 0 lo), Heap.get?_push_size _ rfl⟩
def flatV : V → Bool
  | .non => true
  | .bl _ => true
  | .int _ => true
  | .str _ => true
  | _ => false
def eqV : V → V → Bool
  | .non, .non => true
  | .bl a, .bl b => a == b
  | .bl a, .int b => (if a then 1 else 0) == b
  | .int a, .bl b => a == (if b then 1 else 0)
  | .int a, .int b => a == b
  | .str a, .str b => a == b
  | _, _ => false
theorem eqAt_V {A : Around} {s : Shared} {y x : V} {u v : Value} (ry : RelV y u) (rx : RelV x v) (fy : flatV y = true) (fx : flatV x = true) : SeqAt.EqAt A s u v (eqV y x) := by
  cases y with
  | non =>
    cases ry
    cases x with
    | non => cases rx; exact SeqAt.EqAt.same _
    | bl b => cases rx; exact SeqAt.EqAt.none_bool b
    | int b => obtain ⟨t, rfl⟩ := rx; exact SeqAt.EqAt.none_int b t
    | str b => obtain ⟨t, rfl⟩ := rx; exact SeqAt.EqAt.none_str b t
    | _ => exact absurd (show false = true from fx) Bool.false_ne_true
  | bl a =>
    cases ry
    cases x with
    | non => cases rx; exact SeqAt.EqAt.bool_none a
    | bl b => cases rx; exact SeqAt.EqAt.bool_bool a b
    | int b => obtain ⟨t, rfl⟩ := rx; exact SeqAt.EqAt.bool_int a b t
    | str b => obtain ⟨t, rfl⟩ := rx; exact SeqAt.EqAt.bool_str a b t
    | _ => exact absurd (show false = true from fx) Bool.false_ne_true
  | int a =>
    obtain ⟨t', rfl⟩ := ry
    cases x with
    | non => cases rx; exact SeqAt.EqAt.int_none a t'
    | bl b => cases rx; exact SeqAt.EqAt.int_bool a t' b
    | int b => obtain ⟨t, rfl⟩ := rx; exact SeqAt.EqAt.int_int a t' b t
    | str b => obtain ⟨t, rfl⟩ := rx; exact SeqAt.EqAt.int_str a t' b t
    | _ => exact absurd (show false = true from fx) Bool.false_ne_true
  | str a =>
    obtain ⟨t', rfl⟩ := ry
    cases x with
    | non => cases rx; exact SeqAt.EqAt.str_none a t'
    | bl b => cases rx; exact SeqAt.EqAt.str_bool a t' b
    | int b => obtain ⟨t, rfl⟩ := rx; exact SeqAt.EqAt.str_int a t' b t
    | str b => obtain ⟨t, rfl⟩ := rx; exact SeqAt.EqAt.str_str a t' b t
    | _ => exact absurd (show false = true from fx) Bool.false_ne_true
  | _ => exact absurd (show false = true from fy) Bool.false_ne_true
def eqU (x : V) (u : Value) : Bool := match u with
  | .none => eqV .non x
  | .bool b => eqV (.bl b) x
  | .int i _ => eqV (.int i) x
  | .str z _ => eqV (.str z) x
  | _ => false
theorem eqU_of {x y : V} {u : Value} (r : RelV y u) (f : flatV y = true) : eqU x u = eqV y x := by
  cases y with
  | non => cases r; rfl
  | bl b => cases r; rfl
  | int i => obtain ⟨t, rfl⟩ := r; rfl
  | str z => obtain ⟨t, rfl⟩ := r; rfl
  | _ => exact absurd (show false = true from f) Bool.false_ne_true
theorem any_eqU {x : V} : ∀ {xs : List V} {us : List Value}, Vals xs us → xs.all flatV = true → us.any (eqU x) = xs.any fun y => eqV y x
  | _, _, .nil, _ => rfl
  | y :: xs, u :: us, .cons r t, f => by
    rw [List.all_cons, Bool.and_eq_true] at f
    rw [List.any_cons, List.any_cons, eqU_of r f.1, any_eqU t f.2]
theorem mem_eqAt {A : Around} {s : Shared} {x : V} {v : Value} (rx : RelV x v) (fx : flatV x = true) : ∀ {xs : List V} {us : List Value}, Vals xs us → xs.all flatV = true → ∀ u ∈ us, SeqAt.EqAt A s u v (eqU x u)
  | _, _, .nil, _ => fun u hu => by cases hu
  | y :: xs, u :: us, .cons r t, f => fun u' hu => by
    rw [List.all_cons, Bool.and_eq_true] at f
    rcases List.mem_cons.mp hu with rfl | hu
    · rw [eqU_of r f.1]; exact eqAt_V r rx f.1 fx
    · exact mem_eqAt rx fx t f.2 u' hu
def inV (x : V) (xs : List V) : Bool := xs.any fun y => eqV y x
def rIn (K : PySem.W.Frag) (neg : Bool) : R2 := fun x y H Q => ∃ p xs, y = .ref p ∧ (SqL K H p xs ∨ SqT K H p xs) ∧ flatV x = true ∧ xs.all flatV = true ∧ Q (.bl (if neg then !inV x xs else inV x xs)) H
theorem op_in_seq : OpR X (compareOp .In) (rIn X.K false) := by
  intro pins s σ H x y v u Q I rx ry h
  obtain ⟨p, xs, rfl, hq, fx, fs, q⟩ := h
  cases ry
  rcases hq with hq | hq
  · obtain ⟨its, r, pl, hz⟩ := I.list hq
    refine SeqAt.in_listAt (eqU x) pl.isList (fun w hw => mem_eqAt rx fx r fs w (by simpa using hw)) ⟨.bl _, H, I, rfl, ?_⟩
    rw [show its.toArray.any (eqU x) = its.any (eqU x) by simp, any_eqU r fs]
    exact q
  · obtain ⟨its, r, pl, hz⟩ := I.tuple hq
    refine SeqAt.in_tupleAt (eqU x) pl (fun w hw => mem_eqAt rx fx r fs w (by simpa using hw)) ⟨.bl _, H, I, rfl, ?_⟩
    rw [show its.toArray.any (eqU x) = its.any (eqU x) by simp, any_eqU r fs]
    exact q
theorem call_len_seq : CallR X (.builtin "len") (fun xs H Q => ∃ p ys, xs = [.ref p] ∧ (SqL X.K H p ys ∨ SqT X.K H p ys) ∧ Q (.int ys.length) H) := by
  intro pins s σ H xs us Q I r h
  obtain ⟨p, ys, rfl, hq, q⟩ := h
  obtain ⟨u, rfl, rx⟩ := vals1 r
  cases rx
  have hn := line63
  rcases hq with hq | hq
  · obtain ⟨its, r', pl, hz⟩ := I.list hq
    have hlen := r'.length
    exact Calls.call_len_list pl.isList (by simp only [List.size_toArray] <;> omega) ⟨.int ys.length, H, I.tok _, ⟨s.toks + 1, by rw [List.size_toArray, hlen]⟩, q⟩
  · obtain ⟨its, r', pl, hz⟩ := I.tuple hq
    have hlen := r'.length
    exact len_tuple pl (by simp only [List.size_toArray] <;> omega) ⟨.int ys.length, H, I.tok _, ⟨s.toks + 1, by rw [List.size_toArray, hlen]⟩, q⟩
theorem call_list_of : CallR X (.type "list") (fun xs H Q => ∃ p ys, xs = [.ref p] ∧ (SqL X.K H p ys ∨ SqT X.K H p ys) ∧ ∀ l, H l = none → Q (.ref l) (upd H l (.lst ys))) := by
  intro pins s σ H xs us Q I r h
  obtain ⟨p, ys, rfl, hq, q⟩ := h
  obtain ⟨u, rfl, rx⟩ := vals1 r
  cases rx
  have fin : ∀ (its : List Value), Vals ys its → ys.length ≤ sizeLine → ∀ (h' : Heap) (c' : Nat), (∀ b o', s.heap.get? b = some o' → h'.get? b = some o') →
      h'.get? s.heap.objs.size = some { cls := .type "list", dict := none, data := .seq its.toArray c', slots := #[] } → EP X pins σ Q (.ref s.heap.objs.size) { s with heap := h' } := fun its r' hz h' c' kp e =>
    ⟨.ref s.heap.objs.size, _, I.laid (t' := s.toks) kp (Nat.le_refl _) (show ObjOk X.prog X.w _ h' _ (.lst ys) from ⟨hz, its, c', r', e⟩), rfl, q _ (I.hok.fresh (Nat.le_refl _))⟩
  rcases hq with hq | hq
  · obtain ⟨its, r', pl, hz⟩ := I.list hq
    have hlen := r'.length
    obtain ⟨o, ho, hc, n, hd⟩ := pl.isList
    exact call_list_seq p (.inl rfl) ho hc hd (fun h' c' kp e => fin its r' hz h' c' kp e) (by simp only [List.size_toArray] <;> omega)
  · obtain ⟨its, r', pl, hz⟩ := I.tuple hq
    have hlen := r'.length
    obtain ⟨o, ho, hc, n, hd⟩ := pl
    exact call_list_seq p (.inr rfl) ho hc hd (fun h' c' kp e => fin its r' hz h' c' kp e) (by simp only [List.size_toArray] <;> omega)
def tyV (K : PySem.W.Frag) (T : String) (x : V) (H : Hp) : Prop := match x with
  | .str _ => T = "str"
  | .int _ => T = "int"
  | .ref p => (T = "list" ∧ ∃ xs, SqL K H p xs) ∨ (T = "tuple" ∧ ∃ o, K.lookup p = some o ∧ o.cls = .type "tuple" ∧ o.dict = none) ∨
      (T = "dict" ∧ ((∃ kvs, H p = some (.dK kvs)) ∨ ∃ kvs, H p = some (.dT kvs))) ∨ (T = "set" ∧ ∃ S n, H p = some (.set S n))
  | _ => False
theorem tyV_is {pins : List (Addr × Obj)} {σ : St} {H : Hp} {s : Shared} {T : String} {x : V} {v : Value} (I : Inv X pins σ H s) (r : RelV x v) (ty : tyV X.K T x H) :
    s.TypeIs v T ∧ ∀ a, v = .ref a → ∃ ob, s.heap.get? a = some ob ∧ ob.dict = none := by
  cases x with
  | str z =>
    obtain ⟨t, rfl⟩ := r
    cases (show T = "str" from ty)
    exact ⟨typeIs_str s z t, fun _ e => nomatch e⟩
  | int i =>
    obtain ⟨t, rfl⟩ := r
    cases (show T = "int" from ty)
    exact ⟨typeIs_int s i t, fun _ e => nomatch e⟩
  | ref p =>
    cases r
    rcases ty with ⟨rfl, xs, hq⟩ | ⟨rfl, o, hk, hc, hd⟩ | ⟨rfl, hk⟩ | ⟨rfl, S, n, hk⟩
    · obtain ⟨its, _, pl, _⟩ := I.list hq
      refine ⟨pl.isList.typeIs, fun a e => ?_⟩
      cases e
      obtain ⟨o, n, e, c, hd, _⟩ := pl
      exact ⟨o, e, hd⟩
    · refine ⟨⟨o, I.kIn p o hk, hc⟩, fun a e => ?_⟩
      cases e
      exact ⟨o, I.kIn _ o hk, hd⟩
    · have z : ∃ o, s.heap.get? p = some o ∧ o.ExactDict := by
        rcases hk with ⟨kvs, hk⟩ | ⟨kvs, hk⟩
        · obtain ⟨_, _, _, _, o, _, _, e, ex, _⟩ := I.hok p _ hk
          exact ⟨o, e, ex⟩
        · obtain ⟨_, _, _, _, o, _, _, e, ex, _⟩ := I.hok p _ hk
          exact ⟨o, e, ex⟩
      obtain ⟨o, e, ex⟩ := z
      refine ⟨⟨o, e, ex.1⟩, fun a e2 => ?_⟩
      cases e2
      exact ⟨o, e, ex.2.1⟩
    · obtain ⟨o, _, _, _, e, ex, _⟩ := I.hok p _ hk
      refine ⟨⟨o, e, ex.1⟩, fun a e2 => ?_⟩
      cases e2
      exact ⟨o, e, ex.2.1⟩
  | _ => exact False.elim ty
def tBM (K : PySem.W.Frag) (T : String) (r : V → List V → Hp → VK → Prop) (to : TE) (t : TA) : TE := fun σ H Q => to σ H fun x H1 => tyV K T x H1 ∧ t σ H1 fun xs H2 => r x xs H2 Q
variable {o e : Expr} {es : List Expr} {to : TE} {t : TA} {name : Str} {apos cpos : Pos} {T id : String} {r : V → List V → Hp → VK → Prop}
theorem pe_bm (pa : PlainAttrs T) (slot : Slot T name id) (hty : typeOf (.builtin id) = pure (.type "method_descriptor")) (hm : MtR X id r) (ho : PE X o to) (ha : PA X (e :: es) t)
    (hbase : attributeBase o name X.env (eval o X.env) = eval o X.env := by rfl)
    (hfew : ((backTo cpos (starEach (e :: es) X.env)).all (fun x => !x.1) && (backToKw cpos (keywordEach [] X.env)).all (fun x => x.1.isSome)
      && decide ((e :: es).length + ([] : List Keyword).length + (if ([] : List Keyword).isEmpty then 0 else 1) < 30)) = true := by rfl)
    (hline : (apos.endLine == cpos.line) = true := by rfl) (hs : starEach (e :: es) X.env = (false, eval e X.env) :: starEach es X.env := by rfl) (hplain : (backTo cpos (starEach es X.env)).any (·.1) = false := by rfl) :
    PE X (.Call (.Attribute o name apos) (e :: es) [] cpos) (tBM X.K T r to t) := by
  intro pins s σ H Q I h
  refine wpAny_Call_method_late hbase hfew hline rfl (thn (ho pins s σ H _ I h) fun v s1 ⟨x, H1, I1, r1, ty, q1⟩ => ?_)
  obtain ⟨h1, h2⟩ := tyV_is I1 r1 ty
  refine ⟨T, id, pa, slot, hty, h1, h2, ?_⟩
  have hA := ha cpos pins s1 σ H1 _ I1 q1
  rw [hs] at hA ⊢
  refine Calls.callWith_builtin (by show (false || (backTo cpos (starEach es X.env)).any (·.1)) = false; rw [hplain] <;> rfl) (Calls.evalArgs_plain ?_)
  exact thn hA fun us s2 ⟨vs, H2, I2, r2, q2⟩ => hm pins s2 σ H2 x vs v us Q I2 r1 r2 q2
end
end L2
namespace L2
open PySem PySem.Spec PyProof.Rows
def MtM (X : Cx) (id : String) (r : V → List V → Hp → VK → Prop) : Prop :=
  ∀ (pins : List (Addr × Obj)) (s : Shared) (σ : St) (H : Hp) (x : V) (xs : List V) (v : Value) (us : List Value) (Q : VK), Inv X pins σ H s → RelV x v → Vals xs us → r x xs H Q →
    wpAny (model X.prog X.w) X.A (call (.builtin id) (v :: us)) (EP X pins σ Q) X.xe s
theorem Vals.one : ∀ {x : V} {us : List Value}, Vals [x] us → ∃ u, us = [u] ∧ RelV x u
  | _, _, .cons r .nil => ⟨_, rfl, r⟩
theorem Vals.rep {xs : List V} {us : List Value} (h : Vals xs us) : ∀ k : Nat, Vals (List.replicate k xs).flatten (List.replicate k us).flatten
  | 0 => .nil
  | k + 1 => by
    rw [List.replicate_succ, List.replicate_succ, List.flatten_cons, List.flatten_cons]
    exact Vals.append h (Vals.rep h k)
theorem foldl_rep (its : List Value) : ∀ (k : Nat) (acc : List Value),
    List.foldl (fun x1 x2 => x1 ++ x2) acc.toArray (List.replicate k its.toArray) = (acc ++ (List.replicate k its).flatten).toArray
  | 0, acc => by simp
  | k + 1, acc => by
    have e : acc.toArray ++ its.toArray = (acc ++ its).toArray := by simp
    have e2 : (acc ++ its) ++ (List.replicate k its).flatten = acc ++ (List.replicate (k + 1) its).flatten := by
      rw [List.replicate_succ, List.flatten_cons, List.append_assoc]
    rw [← e2, ← foldl_rep its k (acc ++ its), ← e, List.replicate_succ, List.foldl_cons]
section
variable {X : Cx} {pins : List (Addr × Obj)} {σ : St} {H : Hp} {s : Shared} {l b : Addr} {xs ys zs : List V}
theorem Inv.lset {its its' : List Value} {n : Nat} {f : Array Value → Array Value} {t' : Nat} (I : Inv X pins σ H s) (hH : H l = some (.lst xs))
    (e : s.heap.get? l = some { cls := .type "list", data := .seq its.toArray n }) (hf : f its.toArray = its'.toArray) (hv : Vals ys its') (hz : ys.length ≤ sizeLine) :
    Inv X pins σ (upd H l (.lst ys)) { s with heap := s.heap.update l (Obj.mapSeq f), toks := t' } := by
  have q := PySem.IsL.update e f
  rw [hf] at q
  refine I.write (x := l) (e := l) (by rw [hH]; exact trivial) (.inl rfl) (fun b' u hb hu => (Heap.get?_update_other s.heap (Obj.mapSeq f) (Ne.symm hb)).trans hu) ⟨_, q⟩ ?_
  exact ⟨hz, its', _, hv, q⟩
theorem Inv.lnew {its : List Value} {t' : Nat} (I : Inv X pins σ H s) (hv : Vals ys its) (hz : ys.length ≤ sizeLine) :
    Inv X pins σ (upd H s.heap.objs.size (.lst ys)) { s with heap := s.heap.push { cls := .type "list", data := .seq its.toArray }, toks := t' } :=
  I.laid (fun _ _ q => Heap.get?_push_of_some _ q) (Nat.le_refl _) ⟨hz, its, 0, hv, Heap.get?_push_size _ rfl⟩
theorem Inv.fresh (I : Inv X pins σ H s) : H s.heap.objs.size = none := I.hok.fresh (Nat.le_refl _)
theorem Inv.lstM (I : Inv X pins σ H s) (hH : H l = some (.lst xs)) : xs.length ≤ sizeLine ∧ ∃ (its : List Value) (n : Nat), Vals xs its ∧ xs.length = its.length ∧ s.heap.get? l = some { cls := .type "list", data := .seq its.toArray n } := by
  obtain ⟨z, its, n, r, e⟩ := I.hok l _ hH
  exact ⟨z, its, n, r, r.length, e⟩
theorem notLongL {n : Nat} (h : n ≤ sizeLine) : Builtin.List.listTooLong n = false := by
  unfold Builtin.List.listTooLong
  exact decide_eq_false (by omega)
end
section
variable {X : Cx}
def rAppend : V → List V → Hp → VK → Prop := fun x vs H Q => ∃ l xs y, x = .ref l ∧ vs = [y] ∧ H l = some (.lst xs) ∧ xs.length < sizeLine ∧ Q .non (upd H l (.lst (xs ++ [y])))
theorem mt_append : MtM X "list.append" rAppend := by
  intro pins s σ H x vs v us Q I rx rv h
  obtain ⟨l, xs, y, rfl, rfl, hH, hz, q⟩ := h
  cases rx
  obtain ⟨u, rfl, ru⟩ := rv.one
  obtain ⟨z, its, n, r, hl, e⟩ := I.lstM hH
  refine call_meets F.slot_list_append ⟨_, e, rfl⟩ F.entry_list_append (F.args_list_append_2 _ _) (PySem.list_append l its.toArray n u (by rw [List.size_toArray]; omega)) ⟨e, ?_⟩
  refine ⟨.non, _, I.lset (its' := its ++ [u]) hH e (by simp) (r.append (.cons ru .nil)) ?_, rfl, q⟩
  rw [List.length_append, List.length_singleton]
  omega
def rExtend : V → List V → Hp → VK → Prop := fun x vs H Q => ∃ l b xs zs, x = .ref l ∧ vs = [.ref b] ∧ H l = some (.lst xs) ∧ H b = some (.lst zs) ∧ xs.length + zs.length ≤ sizeLine ∧ Q .non (upd H l (.lst (xs ++ zs)))
theorem mt_extend : MtM X "list.extend" rExtend := by
  intro pins s σ H x vs v us Q I rx rv h
  obtain ⟨l, b, xs, zs, rfl, rfl, hH, hB, hz, q⟩ := h
  cases rx
  obtain ⟨u, rfl, ru⟩ := rv.one
  cases ru
  obtain ⟨z, its, n, r, hl, e⟩ := I.lstM hH
  obtain ⟨z2, its2, n2, r2, hl2, e2⟩ := I.lstM hB
  have hsz : its.toArray.size + its2.toArray.size ≤ sizeLine := by rw [List.size_toArray, List.size_toArray]; omega
  have hlong : ¬ (!its.toArray.isEmpty && Builtin.List.listTooLong (its.toArray.size + its2.toArray.size)) = true := by
    rw [notLongL hsz, Bool.and_false]
    exact Bool.false_ne_true
  refine call_meets F.slot_list_extend ⟨_, e, rfl⟩ F.entry_list_extend (F.args_list_extend_2 _ _)
    (AutoSeq1.list_extend_list_list_0 l its.toArray n b its2.toArray n2 hlong (by rw [List.size_toArray]; omega) (by omega)) ⟨e, e2, ?_⟩
  refine ⟨.non, _, I.lset (its' := its ++ its2) hH e (by simp) (r.append r2) ?_, rfl, q⟩
  rw [List.length_append]
  omega
def rCat : R2 := fun x y H Q => ∃ l b xs zs, x = .ref l ∧ y = .ref b ∧ H l = some (.lst xs) ∧ H b = some (.lst zs) ∧ xs.length + zs.length ≤ sizeLine ∧ ∀ p, H p = none → Q (.ref p) (upd H p (.lst (xs ++ zs)))
theorem op_cat : OpR X (binaryOp .Add) rCat := by
  intro pins s σ H x y v u Q I rx ry h
  obtain ⟨l, b, xs, zs, rfl, rfl, hH, hB, hz, q⟩ := h
  cases rx
  cases ry
  obtain ⟨z, its, n, r, hl, e⟩ := I.lstM hH
  obtain ⟨z2, its2, n2, r2, hl2, e2⟩ := I.lstM hB
  refine PySem.P.add_list e e2 ?_ (by rw [List.size_toArray, List.size_toArray]; omega)
  have ea : its.toArray ++ its2.toArray = (its ++ its2).toArray := by simp
  rw [ea]
  exact ⟨.ref _, _, I.lnew (t' := s.toks) (r.append r2) (by rw [List.length_append]; omega), rfl, q _ I.fresh⟩
def rRep : R2 := fun x y H Q => ∃ l k xs, x = .ref l ∧ y = .int k ∧ H l = some (.lst xs) ∧ -(2 ^ 63) ≤ k ∧ k < 2 ^ 63 ∧ xs.length * k.toNat ≤ sizeLine ∧
  ∀ p, H p = none → Q (.ref p) (upd H p (.lst (List.replicate k.toNat xs).flatten))
theorem len_rep {α : Type} (xs : List α) (k : Nat) : (List.replicate k xs).flatten.length = k * xs.length := by
  induction k with
  | zero => simp
  | succ k ih => rw [List.replicate_succ, List.flatten_cons, List.length_append, ih, Nat.succ_mul, Nat.add_comm]
theorem op_rep : OpR X (binaryOp .Mult) rRep := by
  intro pins s σ H x y v u Q I rx ry h
  obtain ⟨l, k, xs, rfl, rfl, hH, h1, h2, hz, q⟩ := h
  cases rx
  obtain ⟨t, rfl⟩ := ry
  obtain ⟨z, its, n, r, hl, e⟩ := I.lstM hH
  have hlen : its.toArray.size * k.toNat ≤ sizeLine := by rw [List.size_toArray, ← hl]; exact hz
  have hcap : ¬ its.toArray.size * k.toNat > (2 ^ 63 - 1) / 8 := by
    have : (sizeLine : Nat) ≤ (2 ^ 63 - 1) / 8 := by decide
    omega
  have hfit : ¬ (!Builtin.List.listFitsIndex k) = true := by
    rw [fitsIndex_both h1 h2]
    exact Bool.false_ne_true
  have hlong : ¬ Builtin.List.listTooLong (its.toArray.size * k.toNat) = true := by
    rw [notLongL hlen]
    exact Bool.false_ne_true
  have hnew : List.foldl (fun x1 x2 => x1 ++ x2) #[] (List.replicate (if its.toArray.isEmpty = true then 0 else k.toNat) its.toArray) = (List.replicate k.toNat its).flatten.toArray := by
    have f0 : ∀ m : Nat, List.foldl (fun x1 x2 => x1 ++ x2) #[] (List.replicate m its.toArray) = (List.replicate m its).flatten.toArray := fun m => by
      have := foldl_rep its m []
      rw [List.nil_append] at this
      exact this
    rw [f0]
    cases its with
    | nil => simp
    | cons a r' => rw [if_neg (by simp)]
  refine wpAny_binaryOp_repeat_ref (T := "list") (U := "int") (by decide) ⟨_, e, rfl⟩ (fun s' => typeIs_int s' k t) noFill_list_mul F.fills_int_mul F.slot_int_rmul repeat_list F.slot_int_index.lookup
    (call_meets F.slot_int_rmul (typeIs_int s k t) F.entry_int_rmul (F.args_int_rmul_2 _ _) (int___rmul___int_list k t l its.toArray n)
      ⟨e, rfl, ⟨_, e, rfl⟩, call_meets F.slot_list_mul ⟨_, e, rfl⟩ F.entry_list_mul (F.args_list_mul_2 _ _) (AutoListH.list___mul___list_int_3 l its.toArray n k t hfit hcap hlong) ⟨e, ?_⟩⟩)
  rw [hnew]
  exact ⟨.ref _, _, I.lnew (t' := s.toks) (r.rep k.toNat) (by rw [len_rep, Nat.mul_comm]; exact hz), rfl, q _ I.fresh⟩
end
section
variable {prog : Program} {w : World} {A : Around} {E : Value → Shared → Prop} {s : Shared}
set_option maxRecDepth 100000 in
end
section
variable {X : Cx}
end
end L2
namespace L2
open PySem PySem.Spec PyProof.Rows
theorem Vals.bls : ∀ {bs : List Bool} {us : List Value}, Vals (bs.map V.bl) us → us = bs.map Value.bool
  | [], us, h => by
    rw [List.map_nil] at h
    cases h
    rfl
  | b :: bs, us, h => by
    rw [List.map_cons] at h
    cases h with
    | cons r t =>
      cases r
      rw [Vals.bls t, List.map_cons]
theorem Vals.ref1 {a : Addr} {us : List Value} (r : Vals [V.ref a] us) : us = [Value.ref a] := by
  cases r with
  | cons r t =>
    cases t
    cases r
    rfl
section
variable {prog : Program} {w : World} {A : Around} {E : Value → Shared → Prop} {s : Shared} {l : Addr} {its : List Value} {ns : List Int} {Q : Value → Shared → Prop}
end
section
variable {X : Cx}
end
section
variable {X : Cx}
end
section
variable {X : Cx}
end
theorem iter_any {prog : Program} {w : World} {A : Around} {E : Value → Shared → Prop} {s : Shared} {l : Addr} {items : Array Value} {Q : Value → Shared → Prop} (hl : s.heap.IsList l items)
    (h : ∀ s₂ : Shared, s₂ = { s with heap := s.heap.push { cls := .type "list_iterator", data := .fields #[.ref l, .int 0 0] } } →
      (s₂.heap.IsListIter s.heap.objs.size l 0 ∧ s₂.heap.IsList l items) → l ≠ s.heap.objs.size → Q (.ref s.heap.objs.size) s₂) : wpAny (model prog w) A (pyIter (.ref l)) Q E s := by
  have hlt : l < s.heap.objs.size := by obtain ⟨_, e, _⟩ := hl; exact Heap.lt_size e
  exact wpAny_pyIter_list hl (h _ rfl ⟨⟨_, Heap.get?_push_size _ rfl, rfl, rfl⟩, hl.push _⟩ (Nat.ne_of_lt hlt))
theorem truth_bools {prog : Program} {w : World} {A : Around} {bs : List Bool} {its : List Value} (e : its = bs.map Value.bool) :
    TruthOf prog w A (fun i v => its.toArray[i]? = some v) (fun i => bs.getD i false) := fun i v s Q E hv hq => by
  have hv' : its[i]? = some v := by simpa using hv
  rw [e, List.getElem?_map] at hv'
  obtain ⟨b, hb, rfl⟩ := Option.map_eq_some_iff.mp hv'
  have hg : bs.getD i false = b := by rw [List.getD_eq_getElem?_getD, hb] <;> rfl
  have hq' : Q (bs.getD i false) s := hq
  rw [hg] at hq'
  exact wpAny_truthy_bool hq'
theorem all_range : ∀ bs : List Bool, (List.range bs.length).all (fun i => bs.getD i false) = bs.all id
  | [] => rfl
  | b :: bs => by
    rw [List.length_cons, List.range_succ_eq_map, List.all_cons, List.all_map, List.all_cons, ← all_range bs]
    all_goals rfl
section
variable {X : Cx}
def rAll (K : PySem.W.Frag) : List V → Hp → VK → Prop := fun vs H Q => ∃ (a : Addr) (bs : List Bool), vs = [V.ref a] ∧ SqL K H a (bs.map V.bl) ∧ Q (.bl (bs.all id)) H
theorem cr_all (hc : X.calm = true) : CallR X (.builtin "all") (rAll X.K) := by
  intro pins s σ H vs us Q I r h
  obtain ⟨a, bs, rfl, hs, q⟩ := h
  obtain ⟨its, rv, hl, _⟩ := I.list hs
  rw [Vals.ref1 r]
  have hb := rv.bls
  refine call_all_walk (iter_any hl.isList fun s₂ e2 st hne => ?_)
  subst e2
  refine ⟨_, _, _, _, _, _, _, rfl, Walks.list (A := X.A.in1) (I.ok.hd hc) _ a hne its.toArray, st, truth_bools hb, fun h' tk hk => ?_⟩
  refine ⟨.bl _, H, I.kept fun b o eo => hk b o (fun hmem => ?_) (Heap.get?_push_of_some _ eo), ?_, q⟩
  · rcases List.mem_cons.mp hmem with e1 | hmem
    · exact absurd (e1 ▸ Heap.lt_size eo) (Nat.lt_irrefl _)
    · cases hmem
  · show Value.bool _ = Value.bool _
    rw [← all_range, hb, List.size_toArray, List.length_map]
end
mutual
inductive Dp (K : PySem.W.Frag) (H : Hp) : V → PyData → Prop
  | non : Dp K H .non .none
  | bl (b : Bool) : Dp K H (.bl b) (.bool b)
  | int (i : Int) : Dp K H (.int i) (.int i)
  | str (x : Str) : Dp K H (.str x) (.str x)
  | lst {a : Addr} {xs : List V} {ds : List PyData} : SqL K H a xs → DpAll K H xs ds → Dp K H (.ref a) (.list ds)
  | tup {a : Addr} {xs : List V} {ds : List PyData} : SqT K H a xs → DpAll K H xs ds → Dp K H (.ref a) (.tuple ds)
inductive DpAll (K : PySem.W.Frag) (H : Hp) : List V → List PyData → Prop
  | nil : DpAll K H [] []
  | cons {v : V} {vs : List V} {d : PyData} {ds : List PyData} : Dp K H v d → DpAll K H vs ds → DpAll K H (v :: vs) (d :: ds)
end
section
variable {X : Cx} {pins : List (Addr × Obj)} {σ : St} {H : Hp} {s : Shared}
mutual
theorem Dp.reads (I : Inv X pins σ H s) : ∀ (d : PyData) (v : V) (u : Value), Dp X.K H v d → RelV v u → ∃ as, Reads s.heap u d as
  | .none, _, _, h, r => by
    cases h
    cases r
    exact ⟨_, Reads.none⟩
  | .bool b, _, _, h, r => by
    cases h
    cases r
    exact ⟨_, Reads.bool b⟩
  | .int i, _, _, h, r => by
    cases h
    obtain ⟨t, rfl⟩ := r
    exact ⟨_, Reads.int i t⟩
  | .str x, _, _, h, r => by
    cases h
    obtain ⟨t, rfl⟩ := r
    exact ⟨_, Reads.str x t⟩
  | .list ds, _, _, h, r => by
    cases h with
    | lst hs ha =>
      cases r
      obtain ⟨its, rv, ⟨o, n, ho, hc, _, hd⟩, _⟩ := I.list hs
      obtain ⟨as, hr⟩ := Dp.readsAll I ds _ its ha rv
      exact ⟨_, Reads.list ho hc hd hr⟩
  | .tuple ds, _, _, h, r => by
    cases h with
    | tup hs ha =>
      cases r
      obtain ⟨its, rv, ⟨o, ho, hc, n, hd⟩, _⟩ := I.tuple hs
      obtain ⟨as, hr⟩ := Dp.readsAll I ds _ its ha rv
      exact ⟨_, Reads.tuple ho hc hd hr⟩
  | .dict _, _, _, h, _ => by cases h
theorem Dp.readsAll (I : Inv X pins σ H s) : ∀ (ds : List PyData) (vs : List V) (us : List Value), DpAll X.K H vs ds → Vals vs us → ∃ as, ReadsAll s.heap us ds as
  | [], _, _, h, r => by
    cases h
    cases r
    exact ⟨_, ReadsAll.nil⟩
  | d :: ds, _, _, h, r => by
    cases h with
    | cons h1 h2 =>
      cases r with
      | cons r1 r2 =>
        obtain ⟨as, q1⟩ := Dp.reads I d _ _ h1 r1
        obtain ⟨bs, q2⟩ := Dp.readsAll I ds _ _ h2 r2
        exact ⟨_, ReadsAll.cons q1 q2⟩
end
end
section
variable {X : Cx}
def rEqD (K : PySem.W.Frag) : R2 := fun x y H Q => ∃ d e, Dp K H x d ∧ Dp K H y e ∧ SeqAt.shaped d = true ∧ SeqAt.shaped e = true ∧ Q (.bl (PyData.eqv d e)) H
theorem op_eqD (hu : X.A.units + 64 < cLine) : OpR X (compareOp .Eq) (rEqD X.K) := by
  intro pins s σ H x y v u Q I rx ry h
  obtain ⟨d, e, hd, he, sd, se, q⟩ := h
  obtain ⟨as, r1⟩ := Dp.reads I d x v hd rx
  obtain ⟨bs, r2⟩ := Dp.reads I e y u he ry
  exact SeqAt.compareEq_shaped r1 r2 sd se hu ⟨.bl _, H, I, rfl, q⟩
end
end L2
namespace L2
open PySem PySem.Spec PyProof.Rows
abbrev CellAt (h : Heap) (c : Addr) (v : Option Value) : Prop := h.IsCell c v
def relS (scope sc : Scope) : Scope :=
  { scope with names := scope.names.map fun (n, k) => if (k == .free && sc.kind == .function && sc.names.lookup n == some .cell) then (n, .cell) else (n, k) }
def cloFrom (cells : List (Str × Addr)) : List (Str × NameKind) → List (Str × Addr) → List (Str × Addr)
  | [], acc => acc
  | (n, k) :: r, acc => if k == .free then cloFrom cells r ((n, (cells.lookup n).getD 0) :: acc) else cloFrom cells r acc
theorem closure_loop (env : Env) (f : Str × NameKind → List (Str × Addr) → Sem (ForInStep (List (Str × Addr))))
    (hf : ∀ n k c, f (n, k) c = if k == .free then (do let a ← cellOf env n; pure (.yield ((n, a) :: c))) else pure (.yield c)) :
    ∀ (names : List (Str × NameKind)) (acc : List (Str × Addr)), (∀ y ∈ names, y.2 = .free → ∃ c, env.cells.lookup y.1 = some c) → forIn names acc f = pure (cloFrom env.cells names acc)
  | [], acc, _ => by rw [List.forIn_nil]; rfl
  | (n, k) :: r, acc, h => by
    rw [List.forIn_cons, hf]
    have ih := fun acc => closure_loop env f hf r acc fun y hy => h y (List.mem_cons_of_mem _ hy)
    unfold cloFrom
    by_cases hk : (k == NameKind.free) = true
    · rw [if_pos hk, if_pos hk]
      obtain ⟨c, hc⟩ := h (n, k) List.mem_cons_self (by simpa using hk)
      have e : cellOf env n = pure c := by unfold cellOf; rw [hc]
      rw [e]
      have e2 : (env.cells.lookup n).getD 0 = c := by rw [hc]; rfl
      rw [e2]
      exact ih _
    · rw [if_neg hk, if_neg hk]
      exact ih _
theorem closure_ok {scope : Scope} {env : Env} (h : ∀ y ∈ scope.names, y.2 = .free → ∃ c, env.cells.lookup y.1 = some c) : closureFor scope env = pure (cloFrom env.cells scope.names []) := by
  simp only [closureFor]
  rw [closure_loop env _ (fun n k c => rfl) scope.names [] h]
  rfl
theorem mem_lookup {α : Type} : ∀ {l : List (Str × α)} {n : Str} {c : α}, (n, c) ∈ l → ∃ c', l.lookup n = some c'
  | (k, v) :: r, n, c, h => by
    rw [List.lookup_cons]
    cases hb : n == k with
    | true => exact ⟨_, rfl⟩
    | false =>
      rcases List.mem_cons.mp h with e | h
      · cases e; simp at hb
      · exact mem_lookup h
theorem cloFrom_mem {cells : List (Str × Addr)} : ∀ {names : List (Str × NameKind)} {acc : List (Str × Addr)} {n : Str} {c : Addr}, (n, c) ∈ cloFrom cells names acc → (n, c) ∈ acc ∨ ((n, .free) ∈ names ∧ c = (cells.lookup n).getD 0)
  | [], _, _, _, h => .inl h
  | (m, k) :: r, acc, n, c, h => by
    unfold cloFrom at h
    split at h
    · rename_i hk
      have hk : k = .free := by simpa using hk
      rcases cloFrom_mem h with h | ⟨h1, h2⟩
      · rcases List.mem_cons.mp h with e | h
        · cases e; exact .inr ⟨hk ▸ List.mem_cons_self, rfl⟩
        · exact .inl h
      · exact .inr ⟨List.mem_cons_of_mem _ h1, h2⟩
    · rcases cloFrom_mem h with h | ⟨h1, h2⟩
      · exact .inl h
      · exact .inr ⟨List.mem_cons_of_mem _ h1, h2⟩
theorem cloFrom_acc {cells : List (Str × Addr)} : ∀ {names : List (Str × NameKind)} {acc : List (Str × Addr)} {p : Str × Addr}, p ∈ acc → p ∈ cloFrom cells names acc
  | [], _, _, h => h
  | (m, k) :: r, acc, p, h => by
    unfold cloFrom
    split
    · exact cloFrom_acc (List.mem_cons_of_mem _ h)
    · exact cloFrom_acc h
theorem cloFrom_has {cells : List (Str × Addr)} : ∀ {names : List (Str × NameKind)} {acc : List (Str × Addr)} {n : Str}, (n, .free) ∈ names → (n, (cells.lookup n).getD 0) ∈ cloFrom cells names acc
  | (m, k) :: r, acc, n, h => by
    unfold cloFrom
    rcases List.mem_cons.mp h with e | h
    · cases e
      exact cloFrom_acc List.mem_cons_self
    · split
      · exact cloFrom_has h
      · exact cloFrom_has h
theorem cells_mem : ∀ {names : List (Str × NameKind)} {h : Heap} {acc : List (Str × Addr)} {x : Str} {c : Addr}, (x, c) ∈ cellsFrom h.objs.size names acc →
    (x, c) ∈ acc ∨ ((x, .cell) ∈ names ∧ h.objs.size ≤ c ∧ CellAt (pushCells h names) c none)
  | [], _, _, _, _, h => .inl h
  | (n, k) :: r, h, acc, x, c, hm => by
    unfold cellsFrom at hm
    unfold pushCells
    split at hm
    · rename_i hk
      rw [if_pos hk]
      have hk : k = .cell := by simpa using hk
      rw [← Heap.size_push h { cls := .type "cell", data := .cell none }] at hm
      rcases cells_mem hm with hm | ⟨h1, h2, h3⟩
      · rcases List.mem_cons.mp hm with e | hm
        · cases e
          exact .inr ⟨hk ▸ List.mem_cons_self, Nat.le_refl _, _, pushCells_keeps r _ _ _ (Heap.get?_push_size _ rfl), rfl⟩
        · exact .inl hm
      · rw [Heap.size_push] at h2
        exact .inr ⟨List.mem_cons_of_mem _ h1, Nat.le_of_succ_le h2, h3⟩
    · rename_i hk
      rw [if_neg hk]
      rcases cells_mem hm with hm | ⟨h1, h2, h3⟩
      · exact .inl hm
      · exact .inr ⟨List.mem_cons_of_mem _ h1, h2, h3⟩
theorem cells_acc : ∀ {names : List (Str × NameKind)} {n : Nat} {acc : List (Str × Addr)} {p : Str × Addr}, p ∈ acc → p ∈ cellsFrom n names acc
  | [], _, _, _, h => h
  | (m, k) :: r, n, acc, p, h => by
    unfold cellsFrom
    split
    · exact cells_acc (List.mem_cons_of_mem _ h)
    · exact cells_acc h
theorem cells_has : ∀ {names : List (Str × NameKind)} {n : Nat} {acc : List (Str × Addr)} {x : Str}, (x, .cell) ∈ names → ∃ c, (x, c) ∈ cellsFrom n names acc
  | (m, k) :: r, n, acc, x, h => by
    unfold cellsFrom
    rcases List.mem_cons.mp h with e | h
    · cases e
      exact ⟨n, cells_acc List.mem_cons_self⟩
    · split
      · exact cells_has h
      · exact cells_has h
theorem cells_inj : ∀ {names : List (Str × NameKind)} {h : Heap} {acc : List (Str × Addr)} {x y : Str} {c : Addr}, (∀ p ∈ acc, p.2 < h.objs.size) → (∀ x y c, (x, c) ∈ acc → (y, c) ∈ acc → x = y) →
    (x, c) ∈ cellsFrom h.objs.size names acc → (y, c) ∈ cellsFrom h.objs.size names acc → x = y
  | [], _, _, _, _, _, _, hi, h1, h2 => hi _ _ _ h1 h2
  | (n, k) :: r, h, acc, x, y, c, hl, hi, h1, h2 => by
    unfold cellsFrom at h1 h2
    split at h1
    · rename_i hk
      rw [if_pos hk] at h2
      rw [← Heap.size_push h { cls := .type "cell", data := .cell none }] at h1 h2
      refine cells_inj (h := h.push _) (fun p hp => ?_) (fun x y c a b => ?_) h1 h2
      · rw [Heap.size_push]
        rcases List.mem_cons.mp hp with rfl | hp
        · exact Nat.lt_succ_self _
        · exact Nat.lt_succ_of_lt (hl p hp)
      · rcases List.mem_cons.mp a with e | a <;> rcases List.mem_cons.mp b with e' | b
        · cases e; cases e'; rfl
        · cases e; exact absurd (hl _ b) (Nat.lt_irrefl _)
        · cases e'; exact absurd (hl _ a) (Nat.lt_irrefl _)
        · exact hi _ _ _ a b
    · rename_i hk
      rw [if_neg hk] at h2
      exact cells_inj hl hi h1 h2
theorem newEnv_comp {M : Model} {A : Around} {E : Value → Shared → Prop} {s : Shared} {scope : Scope} {globals : Addr} {closure : List (Str × Addr)} {qual : Str} {func : Option Addr} {code : Value} {around : Env} {builtins : Addr} {Q : Env → Shared → Prop}
    (h : Q (newEnv scope s.heap.objs.size globals (cellsFrom (s.heap.objs.size + 1) scope.names closure) qual func code (some around) builtins)
      { s with heap := pushCells (s.heap.push { cls := .type "dict", data := .dict #[] }) scope.names }) :
    wpAny M A (newFunctionEnv scope globals closure [] qual func code (some around) builtins) Q E s := by
  simp only [newFunctionEnv, Option.isSome_some, if_true]
  refine wpAny_bind (wpAny_alloc ?_)
  refine wpAny_bind (wpAny_layCells _ (fun n k c => rfl) scope.names closure _ _ ?_)
  rw [show ({ s with heap := s.heap.push { cls := .type "dict", data := .dict #[] } } : Shared).heap.objs.size = s.heap.objs.size + 1 from Heap.size_push ..]
  rw [List.forIn_nil]
  exact wpAny_bind (wpAny_pure (wpAny_pure h))
theorem lookup_relS {sc : Scope} : ∀ {names : List (Str × NameKind)} {x : Str} {k : NameKind},
    (names.map fun (n, k) => if (k == NameKind.free && sc.kind == .function && sc.names.lookup n == some .cell) then (n, NameKind.cell) else (n, k)).lookup x = some k →
    ∃ k', names.lookup x = some k' ∧ (k = k' ∨ (k' = .free ∧ k = .cell))
  | [], _, _, h => by simp at h
  | (n, k₀) :: r, x, k, h => by
    have ih := @lookup_relS sc r x k
    have h' : List.lookup x ((if (k₀ == NameKind.free && sc.kind == .function && sc.names.lookup n == some .cell) = true then (n, NameKind.cell) else (n, k₀)) :: (r.map _)) = some k := h
    cases hx : x == n with
    | true =>
      simp only [List.lookup_cons, hx]
      by_cases hc : (k₀ == NameKind.free && sc.kind == .function && sc.names.lookup n == some .cell) = true
      · rw [if_pos hc] at h'
        simp only [List.lookup_cons, hx] at h'
        cases h'
        simp only [Bool.and_eq_true, beq_iff_eq] at hc
        exact ⟨k₀, rfl, .inr ⟨hc.1.1, rfl⟩⟩
      · rw [if_neg hc] at h'
        simp only [List.lookup_cons, hx] at h'
        cases h'
        exact ⟨_, rfl, .inl rfl⟩
    | false =>
      simp only [List.lookup_cons, hx]
      by_cases hc : (k₀ == NameKind.free && sc.kind == .function && sc.names.lookup n == some .cell) = true
      · rw [if_pos hc] at h'
        simp only [List.lookup_cons, hx] at h'
        exact ih h'
      · rw [if_neg hc] at h'
        simp only [List.lookup_cons, hx] at h'
        exact ih h'
structure BlkOk (N : List Str) (sc scope : Scope) (own : List (Str × Nat)) : Prop where
  kind : scope.kind = .function
  uniq : ∀ y ∈ scope.names, scope.names.lookup y.1 = some y.2
  ix : ∀ p ∈ own, N[p.2]? = some p.1
  free : ∀ y ∈ scope.names, y.2 = .free → sc.names.lookup y.1 = some .cell ∨ sc.names.lookup y.1 = some .free
  own : ∀ y ∈ scope.names, y.2 = .local ∨ y.2 = .cell → y.1 ∈ own.map (·.1) ∨ y.1 ∉ N
def wipe (σ : St) : List Nat → St
  | [] => σ
  | v :: vs => (wipe σ vs).set v none
theorem wipe_length (σ : St) : ∀ vs : List Nat, (wipe σ vs).length = σ.length
  | [] => rfl
  | v :: vs => by unfold wipe; rw [List.length_set, wipe_length σ vs]
theorem wipe_some {σ : St} {i : Nat} {x : V} : ∀ {vs : List Nat}, (wipe σ vs)[i]? = some (some x) → σ[i]? = some (some x) ∧ i ∉ vs
  | [], h => ⟨h, by simp⟩
  | v :: vs, h => by
    unfold wipe at h
    by_cases hi : v = i
    · subst hi
      by_cases hv : v < (wipe σ vs).length
      · rw [List.getElem?_set_self hv] at h; cases h
      · rw [List.getElem?_eq_none (by simpa using hv)] at h; cases h
    · rw [List.getElem?_set_ne hi] at h
      obtain ⟨h1, h2⟩ := wipe_some h
      exact ⟨h1, by simp only [List.mem_cons, not_or]; exact ⟨fun e => hi e.symm, h2⟩⟩
abbrev Cx.blk (X : Cx) (s : Shared) (H : Hp) (scope : Scope) (cenv : Env) (fp : List Addr) : Cx := { X with s_0 := s, H_0 := H, env := cenv, outer := X.stack, ex := fp, fn := fun x => scope.names.lookup x == some .cell, pn := [], xe := fun _ _ => False }
section
variable {X : Cx} {pins : List (Addr × Obj)} {σ : St} {H : Hp} {s : Shared}
theorem block_start {scope : Scope} {own : List (Str × Nat)} {fp : List Addr} (I : Inv X pins σ H s) (ok : BlkOk X.N X.env.scope scope own) (hN : X.N.Nodup) (hfp : ∀ b ∈ fp, FpOk X pins H b ∧ b < s.heap.objs.size) :
    Inv (X.blk s H scope (compEnvC scope (cellsFrom (s.heap.objs.size + 1) scope.names (cloFrom X.env.cells scope.names [])) s.heap.objs.size X.env) fp) [] (wipe σ (own.map (·.2))) H { s with heap := pushCells (s.heap.push { cls := .type "dict", data := .dict #[] }) scope.names } := by
  have hfree : ∀ y ∈ scope.names, y.2 = .free → ∃ c, X.env.cells.lookup y.1 = some c := fun y hy e => by
    rcases ok.free y hy e with k | k
    · exact I.ok.has _ (.inl k)
    · exact I.ok.has _ (.inr k)
  generalize hcenv : compEnvC scope (cellsFrom (s.heap.objs.size + 1) scope.names (cloFrom X.env.cells scope.names [])) s.heap.objs.size X.env = cenv
  have kp : ∀ b o, s.heap.get? b = some o → (pushCells (s.heap.push { cls := .type "dict", data := .dict #[] }) scope.names).get? b = some o := fun b o e => pushCells_keeps _ _ _ _ (Heap.get?_push_of_some _ e)
  have hL : cenv.locals = s.heap.objs.size := by rw [← hcenv]; rfl
  have hcl : cenv.cells = cellsFrom (s.heap.objs.size + 1) scope.names (cloFrom X.env.cells scope.names []) := by rw [← hcenv]; rfl
  have hsc : cenv.scope = relS scope X.env.scope := by rw [← hcenv]; rfl
  rw [← Heap.size_push s.heap { cls := .type "dict", data := .dict #[] }] at hcl
  have cm : ∀ {y c}, (y, c) ∈ cloFrom X.env.cells scope.names [] → X.env.cells.lookup y = some c ∧ c < s.heap.objs.size := fun {y c} hm => by
    rcases cloFrom_mem hm with hm | ⟨h1, rfl⟩
    · cases hm
    · obtain ⟨c, hc⟩ := hfree _ h1 rfl
      rw [hc]
      obtain ⟨w, z⟩ := I.cell _ _ hc
      exact ⟨rfl, z.lt⟩
  have mem : ∀ {y c}, cenv.cells.lookup y = some c → (X.env.cells.lookup y = some c ∧ c < s.heap.objs.size) ∨ (s.heap.objs.size + 1 ≤ c ∧ CellAt (pushCells (s.heap.push { cls := .type "dict", data := .dict #[] }) scope.names) c none) := fun {y c} e => by
    rw [hcl] at e
    rcases cells_mem (PySem.mem_of_lookup e) with hm | ⟨_, h2, h3⟩
    · exact .inl (cm hm)
    · rw [Heap.size_push] at h2; exact .inr ⟨h2, h3⟩
  have look : ∀ {y}, scope.names.lookup y = some .free → ∃ c, cenv.cells.lookup y = some c ∧ X.env.cells.lookup y = some c := fun {y} hl => by
    have hy : (y, NameKind.free) ∈ scope.names := PySem.mem_of_lookup hl
    obtain ⟨c', e'⟩ := mem_lookup (cells_acc (names := scope.names) (n := (s.heap.push { cls := .type "dict", data := .dict #[] }).objs.size) (cloFrom_has (cells := X.env.cells) (acc := []) hy))
    rw [← hcl] at e'
    refine ⟨c', e', ?_⟩
    rw [hcl] at e'
    rcases cells_mem (PySem.mem_of_lookup e') with hm | ⟨h1, _, _⟩
    · exact (cm hm).1
    · have := ok.uniq _ h1
      rw [hl] at this; cases this
  have okB : (X.blk s H scope cenv fp).Ok := by
    refine ⟨I.ok.mod, by show cenv.scope.kind = _; rw [hsc]; exact ok.kind, by show cenv.globals = _; rw [← hcenv]; exact I.ok.glob, by show cenv.builtins = _; rw [← hcenv]; exact I.ok.blt, by show s.heap.objs.size ≤ cenv.locals; rw [hL]; exact Nat.le_refl _,
      fun y z c e1 e2 => ?_, fun y hy => ?_, fun y c z e => ?_, I.ok.hd, I.ok.frames, .inl rfl, fun b hb => ⟨?_, fun y c e z => ?_⟩, I.bs, Nat.le_trans I.ok.bsz I.sz, fun b o e hb => ?_, fun b hb z => ?_, I.stack, I.stkFree⟩
    · have e1 : cenv.cells.lookup y = some c := e1
      have e2 : cenv.cells.lookup z = some c := e2
      rw [hcl] at e1 e2
      refine cells_inj (fun p hp => ?_) (fun y z c a b => I.ok.inj y z c (cm a).1 (cm b).1) (PySem.mem_of_lookup e1) (PySem.mem_of_lookup e2)
      rw [Heap.size_push]
      exact Nat.lt_succ_of_lt (cm (y := p.1) (c := p.2) hp).2
    · show ∃ c, cenv.cells.lookup y = some c
      have key : ∀ k, cenv.kindOf y = some k → (k = .cell ∨ k = .free) → ∃ c, cenv.cells.lookup y = some c := fun k hk hk' => by
        unfold Env.kindOf at hk
        rw [hsc] at hk
        obtain ⟨k', e, r⟩ := lookup_relS hk
        have : k' = .cell ∨ k' = .free := by
          rcases r with rfl | ⟨rfl, _⟩
          · exact hk'
          · exact .inr rfl
        rcases this with rfl | rfl
        · obtain ⟨c, hm⟩ := cells_has (n := (s.heap.push { cls := .type "dict", data := .dict #[] }).objs.size) (acc := cloFrom X.env.cells scope.names []) (PySem.mem_of_lookup e)
          obtain ⟨c', e'⟩ := mem_lookup hm
          exact ⟨c', by rw [hcl]; exact e'⟩
        · obtain ⟨c, h1, _⟩ := look e
          exact ⟨c, h1⟩
      rcases hy with hy | hy
      · exact key _ hy (.inl rfl)
      · exact key _ hy (.inr rfl)
    · have z : (scope.names.lookup y == some NameKind.cell) = true := z
      have z : scope.names.lookup y = some .cell := by simpa using z
      have e : cenv.cells.lookup y = some c := e
      rw [hcl] at e
      rcases cells_mem (PySem.mem_of_lookup e) with hm | ⟨_, h2, _⟩
      · rcases cloFrom_mem hm with hm | ⟨h1, _⟩
        · cases hm
        · have q := ok.uniq _ h1
          rw [z] at q; cases q
      · rw [Heap.size_push] at h2
        exact Nat.le_of_succ_le h2
    · show b ≠ cenv.locals
      rw [hL]; exact Nat.ne_of_lt (hfp b hb).2
    · have e : cenv.cells.lookup y = some c := e
      rcases mem e with ⟨h1, _⟩ | ⟨h1, _⟩
      · exact (hfp b hb).1.2.2.2.2.1 y c h1 z
      · have h2 : s.heap.objs.size + 1 ≤ b := by rw [← z]; exact h1
        exact absurd (Nat.lt_of_lt_of_le (hfp b hb).2 (Nat.le_of_succ_le h2)) (Nat.lt_irrefl _)
    · rcases (hfp b hb).1.2.2.2.1 with z | z
      · exact I.ok.noex b o e z
      · exact absurd (Nat.lt_of_lt_of_le (Heap.lt_size e) (Nat.le_trans I.ok.bsz z)) (Nat.lt_irrefl _)
    · rcases List.mem_cons.mp (I.stkSub b z) with z | z
      · exact (hfp b hb).1.2.1 z
      · exact (hfp b hb).1.2.2.1 z
  refine ⟨okB, rfl, I.bare, Un.kept kp, ⟨fun _ => none, ?_, fun i y av e1 e2 e3 => ?_⟩, fun y c e => ?_, ?_, fun y c e => ?_, fun p hp => ?_, I.hok.kept kp, by rw [wipe_length]; exact I.len⟩
  · show Heap.Ns _ cenv.locals _
    rw [hL]
    exact Heap.Ns.keeps (Heap.Ns.new ..) fun b o e => pushCells_keeps _ _ _ _ e
  · obtain ⟨e2, hne⟩ := wipe_some e2
    have hfr : scope.names.lookup y = some .free ∧ (cenv.kindOf y = some .cell ∨ cenv.kindOf y = some .free) := by
      have key : ∀ k, cenv.scope.names.lookup y = some k → k = .local ∨ k = .cell ∨ k = .free → scope.names.lookup y = some .free ∧ (cenv.kindOf y = some .cell ∨ cenv.kindOf y = some .free) := fun k hk hk' => by
        have hk0 := hk
        rw [hsc] at hk
        obtain ⟨k', e, r⟩ := lookup_relS hk
        have no : ¬ (k' = .local ∨ k' = .cell) := fun hh => by
          rcases ok.own _ (PySem.mem_of_lookup e) hh with e' | e'
          · obtain ⟨p, hp, hpy⟩ := List.mem_map.mp e'
            have e3 := ok.ix p hp
            have : p.1 = y := hpy
            rw [this] at e3
            exact hne (List.mem_map.mpr ⟨p, hp, nodup_ix hN e3 e1⟩)
          · exact e' (List.mem_of_getElem? e1)
        rcases r with rfl | ⟨rfl, rfl⟩
        · rcases hk' with rfl | rfl | rfl
          · exact absurd (.inl rfl) no
          · exact absurd (.inr rfl) no
          · exact ⟨e, .inr hk0⟩
        · exact ⟨e, .inl hk0⟩
      have e3 : Vis cenv.scope y := e3
      rcases e3 with e3 | e3 | e3
      · exact key _ e3 (.inl rfl)
      · exact key _ e3 (.inr (.inl rfl))
      · exact key _ e3 (.inr (.inr rfl))
    obtain ⟨m, hn, hl⟩ := I.loc
    have hvis : Vis X.env.scope y := (ok.free _ (PySem.mem_of_lookup hfr.1) rfl).elim (fun k => .inr (.inl k)) (fun k => .inr (.inr k))
    obtain ⟨w, r, q⟩ := hl i y av e1 e2 hvis
    refine ⟨w, r, .inr ⟨hfr.2, ?_⟩⟩
    obtain ⟨c, h1, h2⟩ := look hfr.1
    rcases q with ⟨k, _⟩ | ⟨_, c', e', z⟩
    · have k : X.env.scope.names.lookup y = some .local := k
      rcases ok.free _ (PySem.mem_of_lookup hfr.1) rfl with k' | k' <;> rw [show X.env.scope.names.lookup y = _ from k'] at k <;> cases k
    · rw [h2] at e'; cases e'
      exact ⟨c, h1, z.keeps kp⟩
  · have e : cenv.cells.lookup y = some c := e
    rcases mem e with ⟨h1, _⟩ | ⟨_, z⟩
    · obtain ⟨w, z⟩ := I.cell y c h1
      exact ⟨w, z.keeps kp⟩
    · exact ⟨_, z⟩
  · show H cenv.locals = none
    rw [hL]; exact I.hok.fresh (Nat.le_refl _)
  · have e : cenv.cells.lookup y = some c := e
    rcases mem e with ⟨h1, _⟩ | ⟨h1, _⟩
    · exact I.freeC y c h1
    · exact I.hok.fresh (Nat.le_of_succ_le h1)
  · exact absurd (show p ∈ ([] : List (Addr × Obj)) ++ [] from hp) (by simp)
theorem app_ok {E : Value → Shared → Prop} {D : Addr} {xs : List V} {y : V} {v : Value} {Q : Value → Shared → Prop} (I : Inv X pins σ H s) (hD : H D = some (.lst xs)) (hz : xs.length < sizeLine) (r : RelV y v)
    (h : ∀ s', Inv X pins σ (upd H D (.lst (xs ++ [y]))) s' → Q .none s') : wpAny (model X.prog X.w) X.A (call (.builtin "list.append") [.ref D, v]) Q E s := by
  obtain ⟨hz', its, n, ri, e⟩ := I.hok D _ hD
  have hl := ri.length
  refine append_at (hsz := by rw [List.size_toArray]; omega) e fun h' sb ho' => ?_
  refine h { s with heap := h' } (I.write (t' := s.toks) (by rw [hD]; trivial) (.inl rfl) (fun b u hb q => (sb.2 b hb).trans q) ⟨_, ho'⟩ ⟨by rw [List.length_append]; exact hz, its ++ [v], n + 1, ri.append (.cons r .nil), ?_⟩)
  rw [ho']
  simp
def PTs (X : Cx) (ifs : List Expr) (t : TT) : Prop :=
  ∀ (pins : List (Addr × Obj)) (s : Shared) (σ : St) (H : Hp) (Q : Bool → Hp → Prop), Inv X pins σ H s → t σ H Q →
    wpAny (model X.prog X.w) X.A (forIn ifs true fun c r => if r = true then do let ok ← isTrue c X.env (eval c X.env); pure (ForInStep.yield ok) else pure (ForInStep.yield r)) (TP X pins σ Q) X.xe s
def tYes : TT := fun _ H Q => Q true H
theorem pts_nil : PTs X [] tYes := fun _ _ _ H _ I h => wpAny_tests_nil ⟨H, I, h⟩
end
theorem thnF {α : Type} {t : Sem α} {Q Q' : α → Shared → Prop} {M : Model} {A : Around} {E : Value → Shared → Prop} {s : Shared} (h : wpAny M A t Q (fun _ _ => False) s) (hQ : ∀ a s, Q a s → Q' a s) : wpAny M A t Q' E s := wpAny_mono h hQ fun _ _ z => False.elim z
theorem compLoop_any {prog : Program} {w : World} {A : Around} {R : Result → Shared → Prop} {s : Shared} {elt target iter : Expr} {ifs : List Expr} {scope : Scope} {pos : Pos} {it acc : Value} {env : Env} (I : Nat → Shared → Prop)
    (turn : ∀ n s, I n s → wpAny (model prog w) A (pyNext it) (fun r s₁ => match r with
      | none => R (.ok .next) s₁
      | some v => wpAny (model prog w) A (letOwnedTupleGo target it v) (fun _ s₁' => wpAny (model prog w) A (assign target env v) (fun _ s₂ =>
          wpAny (model prog w) A (forIn ifs true fun c r => if r = true then do let ok ← isTrue c env (eval c env); pure (ForInStep.yield ok) else pure (ForInStep.yield r)) (fun ok s₃ =>
            if ok = true then wpAny (model prog w) A (eval elt env) (fun x s₄ =>
              wpAny (model prog w) A (call (.builtin "list.append") [acc, x]) (fun _ s₅ => ∃ m, m < n ∧ I m s₅) (notedBy (model prog w) A env fun e s' => R (.error e) s') s₄) (notedBy (model prog w) A env fun e s' => R (.error e) s') s₃
            else ∃ m, m < n ∧ I m s₃) (notedBy (model prog w) A env fun e s' => R (.error e) s') s₂) (notedBy (model prog w) A env fun e s' => R (.error e) s') s₁') (notedBy (model prog w) A env fun e s' => R (.error e) s') s₁) (notedBy (model prog w) A env fun e s' => R (.error e) s') s)
    (n : Nat) (h : I n s) :
    codeAny (model prog w) A (.compLoop (.ListComp elt [⟨target, iter, ifs, 0⟩] scope pos) 0 it acc env) R s := by
  refine codeAny_loop rfl I (fun n s hI => ?_) n h
  show wpAny _ A ((compTurn (.ListComp elt [⟨target, iter, ifs, 0⟩] scope pos) 0 it acc env).onRaise (fun x => do noteFrame x env; theTreesLotGoes x)) _ _ s
  refine wpAny_noted ?_
  rw [compTurn_list]
  refine wpAny_bind (wpAny_standAt (wpAny_bind (wpAny_mono (turn n s hI) (fun r s₁ h₁ => ?_) fun _ _ h' => h')))
  cases r with
  | none => exact wpAny_pure h₁
  | some v =>
    refine wpAny_bind (wpAny_mono h₁ (fun _ s₁' h₁' => ?_) fun _ _ h' => h')
    refine wpAny_bind (wpAny_mono h₁' (fun _ s₂ h₂ => wpAny_bind (wpAny_mono h₂ (fun ok s₃ h₃ => ?_) fun _ _ h' => h')) fun _ _ h' => h')
    cases ok with
    | false => exact wpAny_pure ⟨rfl, h₃⟩
    | true =>
      exact wpAny_bind (wpAny_bind (wpAny_mono h₃ (fun x s₄ h₄ => wpAny_bind (wpAny_mono h₄ (fun _ s₅ h₅ => wpAny_pure (wpAny_pure ⟨rfl, h₅⟩)) fun _ _ h' => h')) fun _ _ h' => h'))
section
variable {X : Cx}
def tLc (wi : TI) (g : TG) (tt : TT) (te : TE) (vs : List Nat) : TE := fun σ H Q => wi σ H fun J H1 => ∀ D, H1 D = none → ∃ W : Nat → Nat → Hp → Prop, (∃ m, W 0 m (upd H1 D (.lst []))) ∧ ∀ i m H, W i m H →
  (J.stop i H ∧ Q (.ref D) H) ∨ (J.go i H ∧ ∃ Nx : Hp → Prop, (∀ H', Nx H' → ∃ m', m' < m ∧ W (i + 1) m' H') ∧ ∀ x H', J.yld i H x H' → g x (wipe σ vs) H' fun σ2 H2 => wipe σ2 vs = wipe σ vs ∧ tt σ2 H2 fun b H3 =>
    if b = true then te σ2 H3 fun y H4 => ∃ acc, H4 D = some (.lst acc) ∧ acc.length < sizeLine ∧ Nx (upd H4 D (.lst (acc ++ [y]))) else Nx H3)
theorem lc_core {pins : List (Addr × Obj)} {s : Shared} {σ : St} {H : Hp} {Q : VK} {elt tg iter : Expr} {ifs : List Expr} {scope : Scope} {own : List (Str × Nat)} {pos pos' : Pos} {wi : TI} {g : TG} {tt : TT} {te : TE} {use : Option (Value → Sem Unit)} {Qf : Value → Shared → Prop}
    (hc : X.calm = true) (hN : X.N.Nodup) (I : Inv X pins σ H s) (hi : PI X tg iter wi) (ok : BlkOk X.N X.env.scope scope own)
    (hg : ∀ (s : Shared) (H : Hp) (C : Addr) (cl : List (Str × Addr)) (fp : List Addr), PG (X.blk s H scope (compEnvC scope cl C X.env) fp) tg g) (ht : ∀ (s : Shared) (H : Hp) (C : Addr) (cl : List (Str × Addr)) (fp : List Addr), PTs (X.blk s H scope (compEnvC scope cl C X.env) fp) ifs tt)
    (he : ∀ (s : Shared) (H : Hp) (C : Addr) (cl : List (Str × Addr)) (fp : List Addr), PE (X.blk s H scope (compEnvC scope cl C X.env) fp) elt te) (hs : ∀ x, foldedSetIterable iter X.env x = pure x)
    (h : tLc wi g tt te (own.map (·.2)) σ H Q)
    (hRR : ∀ D C s' m H', Inv X pins σ H' s' → Q (.ref D) H' → s'.heap.Ns C m → FpOk X pins H' C → compPost (model X.prog X.w) X.A X.xe use Qf (.ref D) C (.ok .next) s') :
    wpAny (model X.prog X.w) X.A (comprehension (.ListComp elt [⟨tg, iter, ifs, 0⟩] scope pos) scope X.env pos' (newList []) false (eval iter X.env) use) Qf X.xe s := by
  have hfree : ∀ y ∈ scope.names, y.2 = .free → ∃ c, X.env.cells.lookup y.1 = some c := fun y hy e => by
    rcases ok.free y hy e with k | k
    · exact I.ok.has _ (.inl k)
    · exact I.ok.has _ (.inr k)
  refine wpAny_comprehension_free (use := use) rfl hs (closure_ok hfree) ok.kind (fun y hy e => by rw [ok.uniq y hy, e])
    (thn (hi pins s σ H _ I h) fun xv s1 hx => thn hx fun itv s2 h2 => ?_)
  obtain ⟨it, fp, tn, J, H2, e, I2, T, st2, f2, q⟩ := h2
  subst e
  refine wpAny_newObj_type (newEnv_comp ?_) (by show 0 ≤ sizeLine; decide)
  generalize hD : s2.heap.objs.size = D
  have hDn : H2 D = none := I2.hok.fresh (Nat.le_of_eq hD)
  obtain ⟨W, ⟨m0, w0⟩, turn⟩ := q D hDn
  generalize hs3 : ({ s2 with heap := s2.heap.push { cls := .type "list", data := .seq ([] : List Value).toArray } } : Shared) = s3
  have I3 : Inv X pins σ (upd H2 D (.lst [])) s3 := by
    rw [← hs3]
    refine I2.laid (t' := s2.toks) (fun b o e => Heap.get?_push_of_some _ e) (Nat.le_of_eq hD) ⟨Nat.zero_le _, [], 0, .nil, ?_⟩
    rw [← hD]
    exact Heap.get?_push_size _ rfl
  have h3 : s3.heap = s2.heap.push { cls := .type "list", data := .seq ([] : List Value).toArray } := by rw [← hs3]
  have sz : ∀ b ∈ fp, b < s2.heap.objs.size := fun b hb => by
    obtain ⟨o, e, _⟩ := T.obj _ _ st2 b hb
    exact Heap.lt_size e
  have f3 : ∀ b ∈ fp, FpOk X pins (upd H2 D (.lst [])) b ∧ b < s3.heap.objs.size := fun b hb => by
    have hlt := sz b hb
    refine ⟨⟨?_, (f2 b hb).2⟩, by rw [h3, Heap.size_push]; exact Nat.lt_succ_of_lt hlt⟩
    rw [upd_ne (by rw [← hD]; exact Nat.ne_of_lt hlt)]
    exact (f2 b hb).1
  have st3 : tn 0 s3.heap := T.keep _ _ _ st2 fun b _ o e => by rw [h3]; exact Heap.get?_push_of_some _ e
  have I4 := block_start I3 ok hN f3
  have pg := hg s3 (upd H2 D (.lst [])) s3.heap.objs.size (cellsFrom (s3.heap.objs.size + 1) scope.names (cloFrom X.env.cells scope.names [])) fp
  have pt := ht s3 (upd H2 D (.lst [])) s3.heap.objs.size (cellsFrom (s3.heap.objs.size + 1) scope.names (cloFrom X.env.cells scope.names [])) fp
  have pe := he s3 (upd H2 D (.lst [])) s3.heap.objs.size (cellsFrom (s3.heap.objs.size + 1) scope.names (cloFrom X.env.cells scope.names [])) fp
  show codeAny _ _ (.compStart (.ListComp elt [⟨tg, iter, ifs, 0⟩] scope pos) 0 (.ref it) (.ref D) (compEnvC scope (cellsFrom (s3.heap.objs.size + 1) scope.names (cloFrom X.env.cells scope.names [])) s3.heap.objs.size X.env)) (compPost (model X.prog X.w) X.A X.xe use Qf (.ref D) s3.heap.objs.size) { s3 with heap := pushCells (s3.heap.push { cls := .type "dict", data := .dict #[] }) scope.names }
  have nfp : ∀ b ∈ fp, (upd H2 D (.lst [])) b = none := fun b hb => (f3 b hb).1.1
  generalize hce : compEnvC scope (cellsFrom (s3.heap.objs.size + 1) scope.names (cloFrom X.env.cells scope.names [])) s3.heap.objs.size X.env = ce at I4 pg pt pe ⊢
  have cL : ce.locals = s3.heap.objs.size := by subst hce; rfl
  generalize hH3 : upd H2 D (.lst []) = H3 at I3 I4 pg pt pe w0 nfp f3
  generalize hs4 : ({ s3 with heap := pushCells (s3.heap.push { cls := .type "dict", data := .dict #[] }) scope.names } : Shared) = s4 at I4 ⊢
  have st4 : tn 0 s4.heap := T.keep _ _ _ st3 fun b _ o e => by rw [← hs4]; exact pushCells_keeps _ _ _ _ (Heap.get?_push_of_some _ e)
  have stat : ∀ {σ' : St} {H' : Hp} {s' : Shared}, Inv (X.blk s3 H3 scope ce fp) [] σ' H' s' → (∀ b ∈ fp, H' b = none) → ∀ b ∈ fp, FpOk (X.blk s3 H3 scope ce fp) [] H' b := fun {σ' H' s'} I' hn b hb =>
    ⟨hn b hb, (I'.ok.exf b hb).1, I'.ok.exfs b hb, .inl hb, fun x c e => (I'.ok.exf b hb).2 x c e, fun p hp => absurd (show p ∈ ([] : List (Addr × Obj)) ++ [] from hp) (by simp)⟩
  have loop : codeAny (model X.prog X.w) X.A (.compLoop (.ListComp elt [⟨tg, iter, ifs, 0⟩] scope pos) 0 (.ref it) (.ref D) ce) (compPost (model X.prog X.w) X.A X.xe use Qf (.ref D) s3.heap.objs.size) s4 := by
    refine compLoop_any (fun n s' => ∃ i H', Inv (X.blk s3 H3 scope ce fp) [] (wipe σ (own.map (·.2))) H' s' ∧ tn i s'.heap ∧ (∀ b ∈ fp, H' b = none) ∧ W i n H') ?_ m0 ⟨0, H3, I4, st4, nfp, w0⟩
    rintro n s5 ⟨i, H5, I5, st5, n5, w5⟩
    rcases turn i n H5 w5 with ⟨stop, qq⟩ | ⟨go, Nx, hNx, step⟩
    · have td := T.done (X.blk s3 H3 scope ce fp) rfl rfl rfl hc i [] s5 _ H5 (fun _ _ => False) I5 (stat I5 n5) st5 stop
      refine thnF td fun r s6 ⟨hr, I6⟩ => ?_
      subst hr
      have I7 : Inv X pins σ H5 s6 := I3.call' (ch := fp) I6.os I6.base I6.hok I6.bare fun b hb => ⟨(f3 b hb).1.2.2.2.1, (f3 b hb).1.2.1, (f3 b hb).1.2.2.2.2.1, (f3 b hb).1.2.2.2.2.2⟩
      have nC : H5 s3.heap.objs.size = none := by
        have z : H5 ce.locals = none := I6.free
        rw [cL] at z
        exact z
      obtain ⟨m, hn, _⟩ := I6.loc
      have hn : s6.heap.Ns ce.locals m := hn
      rw [cL] at hn
      exact hRR D s3.heap.objs.size s6 m H5 I7 qq hn (I3.fpOk (Nat.le_refl _) nC)
    · have ti := T.item (X.blk s3 H3 scope ce fp) rfl rfl rfl hc i [] s5 _ H5 (fun _ _ => False) I5 (stat I5 n5) st5 go
      refine thnF ti fun r s6 ⟨u, hr, h6⟩ => ?_
      subst hr
      refine thnF h6 fun _ s7 ⟨x, H7, I7, r7, y7, st7, n7⟩ => ?_
      have I7' := I7.pinned (stat I7 n7) (T.obj _ _ st7)
      refine thnF (pg _ s7 _ H7 x u _ I7' r7 (step x H7 y7)) fun _ s8 ⟨σ8, H8, I8, hw8, q8⟩ => ?_
      refine thnF (pt _ s8 σ8 H8 _ I8 q8) fun b s9 ⟨H9, I9, q9⟩ => ?_
      have fin : ∀ {s' : Shared} {H' : Hp}, Inv (X.blk s3 H3 scope ce fp) ([] ++ pinsAt fp s7.heap) σ8 H' s' → Nx H' → ∃ m, m < n ∧ ∃ i H', Inv (X.blk s3 H3 scope ce fp) [] (wipe σ (own.map (·.2))) H' s' ∧ tn i s'.heap ∧ (∀ b ∈ fp, H' b = none) ∧ W i m H' := fun {s' H'} I' nx => by
        obtain ⟨m', hm, w'⟩ := hNx H' nx
        have pin' : ∀ b ∈ fp, ∀ o, s7.heap.get? b = some o → s'.heap.get? b = some o ∧ H' b = none := fun b hb o e =>
          let z := I'.pin (b, o) (List.mem_append_right _ (List.mem_append_right _ (mem_pinsAt hb e)))
          ⟨z.1, z.2.1⟩
        have hl : (wipe σ (own.map (·.2))).length = σ8.length := by rw [← hw8, wipe_length]
        refine ⟨m', hm, i + 1, H', (I'.unpinned (pins := [])).weak hl (fun j v e => ?_), T.keep _ _ _ st7 fun b hb o e => (pin' b hb o e).1, fun b hb => ?_, w'⟩
        · rw [← hw8] at e
          exact (wipe_some e).1
        · obtain ⟨o, e, _⟩ := T.obj _ _ st7 b hb
          exact (pin' b hb o e).2
      cases b with
      | false =>
        simp only [Bool.false_eq_true, if_false] at q9 ⊢
        exact fin I9 q9
      | true =>
        simp only [if_true] at q9 ⊢
        refine thnF (pe _ s9 σ8 H9 _ I9 q9) fun z s10 ⟨yv, H10, I10, r10, acc, hD10, hz10, nx⟩ => ?_
        exact app_ok (X := X.blk s3 H3 scope ce fp) I10 hD10 hz10 r10 fun s11 I11 => fin I11 nx
  exact codeAny_compStart_list loop (T.self X.A 0 _ _ _ st4 loop)
theorem pe_lc {elt tg iter : Expr} {ifs : List Expr} {scope : Scope} {own : List (Str × Nat)} {pos : Pos} {wi : TI} {g : TG} {tt : TT} {te : TE} (hc : X.calm = true) (hN : X.N.Nodup) (hi : PI X tg iter wi) (ok : BlkOk X.N X.env.scope scope own)
    (hg : ∀ (s : Shared) (H : Hp) (C : Addr) (cl : List (Str × Addr)) (fp : List Addr), PG (X.blk s H scope (compEnvC scope cl C X.env) fp) tg g) (ht : ∀ (s : Shared) (H : Hp) (C : Addr) (cl : List (Str × Addr)) (fp : List Addr), PTs (X.blk s H scope (compEnvC scope cl C X.env) fp) ifs tt)
    (he : ∀ (s : Shared) (H : Hp) (C : Addr) (cl : List (Str × Addr)) (fp : List Addr), PE (X.blk s H scope (compEnvC scope cl C X.env) fp) elt te) (hs : ∀ x, foldedSetIterable iter X.env x = pure x := by intro _; rfl) :
    PE X (.ListComp elt [⟨tg, iter, ifs, 0⟩] scope pos) (tLc wi g tt te (own.map (·.2))) := by
  intro pins s σ H Q I h
  rw [eval_ListComp]
  refine lc_core hc hN I hi ok hg ht he hs h fun D C s' m H' I' q hn f => ⟨m, hn, fun h'' sb => ?_⟩
  obtain ⟨f0, f1, f2, f3, f4, f5⟩ := f
  exact ⟨.ref D, H', I'.turned (t' := s'.toks) (fun b o hb e => (sb.2 b hb).trans e) f0 f1 f3 f4 f5, rfl, q⟩
theorem ps_setLc {i : Nat} {y : Str} {py : Pos} {elt tg iter : Expr} {ifs : List Expr} {scope : Scope} {own : List (Str × Nat)} {pos spos : Pos} {wi : TI} {g : TG} {tt : TT} {te : TE} (hc : X.calm = true) (hN : X.N.Nodup) (hy : X.N[i]? = some y) (hyl : X.env.scope.names.lookup y = some .local)
    (hsw : swapsWith (.ListComp elt [⟨tg, iter, ifs, 0⟩] scope pos) (some (.Name y py)) spos.line X.env = pure true) (hi : PI X tg iter wi) (ok : BlkOk X.N X.env.scope scope own)
    (hg : ∀ (s : Shared) (H : Hp) (C : Addr) (cl : List (Str × Addr)) (fp : List Addr), PG (X.blk s H scope (compEnvC scope cl C X.env) fp) tg g) (ht : ∀ (s : Shared) (H : Hp) (C : Addr) (cl : List (Str × Addr)) (fp : List Addr), PTs (X.blk s H scope (compEnvC scope cl C X.env) fp) ifs tt)
    (he : ∀ (s : Shared) (H : Hp) (C : Addr) (cl : List (Str × Addr)) (fp : List Addr), PE (X.blk s H scope (compEnvC scope cl C X.env) fp) elt te) (hs : ∀ x, foldedSetIterable iter X.env x = pure x := by intro _; rfl) :
    PS X (.Assign [.Name y py] (.ListComp elt [⟨tg, iter, ifs, 0⟩] scope pos) spos) (tAsg (tLc wi g tt te (own.map (·.2))) (gName i)) := by
  intro pins s σ H D I h
  rw [exec_Assign_Name_used _ _ _ _ hsw]
  refine wpAny_bind (wpAny_standAt (wpAny_bind ?_))
  show wpAny _ X.A (do let _ ← comprehension (.ListComp elt [⟨tg, iter, ifs, 0⟩] scope pos) scope X.env (firstIterPos [⟨tg, iter, ifs, 0⟩] pos) (newList []) false (eval iter X.env) (some (assign (.Name y py) X.env))) _ _ s
  have h : tLc wi g tt te (own.map (·.2)) σ H (fun x H1 => gName i x σ H1 D.nx) := h
  refine wpAny_bind (thn (lc_core (Qf := fun _ s' => SP X pins D .next s') hc hN I hi ok hg ht he hs h fun L C s' m H' I' q hn f => ?_) fun _ s' hq => wpAny_pure (wpAny_pure hq))
  show wpAny _ _ (assign (.Name y py) X.env (.ref L)) _ _ _
  refine wpAny_assign_Name (store_ok2 (v := V.ref L) I' hN hy (.inl hyl) rfl (fun s2 I2 ⟨a, sb, ha⟩ => ?_) (.inr hyl))
  obtain ⟨f0, f1, f2, f3, f4, f5⟩ := f
  have haC : C ≠ a := by
    rcases ha with z | z
    · rw [z]; exact f1
    · exact fun e => f4 y a z e.symm
  refine ⟨m, hn.sameBut sb haC, fun h3 sb3 => ?_⟩
  exact ⟨_, H', I2.turned (t' := s2.toks) (fun b o hb e => (sb3.2 b hb).trans e) f0 f1 f3 f4 f5, q⟩
end
end L2
namespace L2
open PySem PySem.Spec PyProof.Rows
section
variable {prog : Program} {w : World} {A : Around} {R : Result → Shared → Prop} {s : Shared} {elt t0 i0 t1 i1 : Expr} {ifs0 ifs1 : List Expr} {scope : Scope} {pos : Pos} {it acc : Value} {env : Env}
end
section
variable {X : Cx}
end
end L2
namespace L2
open PySem PySem.Spec PyProof.Rows
section
variable {κ : Type} [DecidableEq κ]
def valV (kvs : List (κ × V)) (k : κ) : Option V := (kvs.find? fun kv => decide (kv.1 = k)).map (·.2)
theorem valV_pos {p : κ × V} {r : List (κ × V)} {k : κ} (e : p.1 = k) : valV (p :: r) k = some p.2 := by simp [valV, List.find?_cons, e]
theorem valV_neg {p : κ × V} {r : List (κ × V)} {k : κ} (e : ¬ p.1 = k) : valV (p :: r) k = valV r k := by simp [valV, List.find?_cons, e]
theorem KV.val {kvs : List (κ × V)} {vs : List (κ × Value)} (r : KV kvs vs) (k : κ) : RelO (valV kvs k) (valueAt vs k) := by
  unfold KV at r
  induction r with
  | nil => exact True.intro
  | @cons p q ps qs h t ih =>
    obtain ⟨h1, h2⟩ := h
    by_cases e : p.1 = k
    · have e' : q.1 = k := h1.symm.trans e
      have b : valueAt (q :: qs) k = some q.2 := by simp [valueAt, List.find?_cons, e']
      rw [valV_pos e, b]; exact h2
    · have e' : ¬ q.1 = k := fun z => e (h1.trans z)
      have b : valueAt (q :: qs) k = valueAt qs k := by simp [valueAt, List.find?_cons, e']
      rw [valV_neg e, b]; exact ih
end
theorem kV_is {P : Program} {w : World} {k : Key} {u : Value} (r : RelV (kV k) u) : (mixKind P w).is k u = true := by
  cases k with
  | inl i => obtain ⟨t, e⟩ := (show ∃ t, u = Value.int i t from r); subst e; exact mixKind_int P w i t
  | inr x => obtain ⟨t, e⟩ := (show ∃ t, u = Value.str x t from r); subst e; exact mixKind_str P w x t
section
variable {P : Program} {w : World} {H : Hp} {h : Heap} {a : Addr}
end
section
variable {X : Cx} {pins : List (Addr × Obj)} {σ : St} {H : Hp} {s : Shared} {a : Addr} {y v : V} {u r : Value} {o : Option V} {A : Around} {E : Value → Shared → Prop}
end
section
variable {X : Cx} {pins : List (Addr × Obj)} {σ : St} {H : Hp} {s : Shared} {a : Addr} {kvs : List (Key × V)} {k : Key} {u : Value} {A : Around} {E : Value → Shared → Prop}
end
def NoSl (i : Expr) : Prop := ∀ ov iv, subscripted i false ov iv = operate [ov, iv] (getItem ov iv)
theorem subD_of {prog : Program} {w : World} {A : Around} {E : Value → Shared → Prop} {s : Shared} {env : Env} {value slice : Expr} {pos : Pos} {T id : String} {Q : Value → Shared → Prop}
    (hl : typeLookup (.type T) "__getitem__" = pure (some (.builtin id))) (hs : NoSl slice)
    (h : wpAny (model prog w) A (eval value env) (fun o s₁ => wpAny (model prog w) A (eval slice env) (fun i s₂ => s₂.TypeIs o T ∧ wpAny (model prog w) A (getItem o i) Q E s₂) E s₁) E s) :
    wpAny (model prog w) A (eval (.Subscript value slice pos) env) Q E s := by
  refine Subscript_ (wpAny_mono h (fun o s₁ h₁ => wpAny_mono h₁ (fun i s₂ h₂ => ?_) fun _ _ x => x) fun _ _ x => x)
  obtain ⟨hT, h₂⟩ := h₂
  unfold subscriptTail
  refine wpAny_bind ?_
  rw [getitemInPython_of_ne hT.not_modules]
  refine wpAny_bind (wpAny_specialOf hT hl ?_)
  have fin : wpAny (model prog w) A (subscripted slice false o i) (fun r s₃ => wpAny (model prog w) A (letTemporaryGo value o r >>= fun _ => pure r) Q E s₃) E s₂ := by
    rw [hs o i]
    exact wpAny_operating (wpAny_mono h₂ (fun r s₃ h₃ => wpAny_bind (wpAny_letTemporaryGo (wpAny_pure h₃))) fun _ _ x => x)
  first
    | exact wpAny_pure (wpAny_bind fin)
    | exact wpAny_bind (wpAny_pure (wpAny_bind fin))
    | exact wpAny_bind fin
section
variable {X : Cx} {o i e value : Expr} {pos pos' tpos : Pos} {td ty tv : TE}
end
section
variable {X : Cx} {pos : Pos}
end
section
variable {X : Cx} {pins : List (Addr × Obj)} {σ : St} {H : Hp} {s : Shared} {a : Addr} {y d : V} {u r : Value} {o : Option V} {A : Around} {E : Value → Shared → Prop}
end
section
variable {X : Cx} {o e f : Expr} {apos cpos : Pos} {td ty tx : TE}
end
section
variable {X : Cx} {pins : List (Addr × Obj)} {σ : St} {H : Hp} {s : Shared} {a : Addr} {kvs : List (Key × V)} {A : Around} {E : Value → Shared → Prop}
end
section
variable {X : Cx} {pins : List (Addr × Obj)} {σ : St} {H : Hp} {s : Shared} {a : Addr} {y : V} {u : Value} {A : Around} {E : Value → Shared → Prop}
end
end L2
namespace L2
open PySem PySem.Spec PyProof.Rows
section
variable {prog : Program} {w : World} {A : Around} {E : Value → Shared → Prop}
end
section
variable {X : Cx}
end
end L2
namespace L2
open PySem PySem.Spec PyProof.Rows
theorem boot_reversed5 : bootBuiltins "reversed" = some (.type "reversed") := by decide +kernel
section
variable {X : Cx} {pins : List (Addr × Obj)} {σ : St} {H : Hp} {s : Shared} {h' : Heap}
end
section
variable {X : Cx}
theorem pi_one {tg : Expr} {pins : List (Addr × Obj)} {σ : St} {H : Hp} {s : Shared} {R : It → Hp → Prop} {J : It} {tn : Nat → Heap → Prop} {tk : Nat} (I : Inv X pins σ H s) (o : Obj)
    (T : Turn X.prog X.w X.K tg J [s.heap.objs.size] s.heap.objs.size tn) (st : tn 0 (s.heap.push o)) (q : R J H) : PIE X pins σ tg R (.ref s.heap.objs.size) { s with heap := s.heap.push o, toks := tk } := by
  refine ⟨s.heap.objs.size, [s.heap.objs.size], tn, J, H, rfl, I.kept fun b ob e => Heap.get?_push_of_some _ e, T, st, fun b hb => ?_, q⟩
  have e : b = s.heap.objs.size := by simpa using hb
  subst e
  exact I.fpOk (Nat.le_refl _) (I.hok.fresh (Nat.le_refl _))
end
def Itc (lo c : Int) (n : Nat) : It := ⟨fun i _ => i < n, fun i H x H' => H' = H ∧ x = .int (lo + (i : Nat) * c), fun i _ => n ≤ i⟩
theorem turn_rangeC {P : Program} {w : World} {K : PySem.W.Frag} {tg : Expr} (it : Addr) (lo c : Int) (n : Nat) : Turn P w K tg (Itc lo c n) [it] it (fun i h => IsRangeIter h it (lo + (i : Nat) * c) ((n : Int) - (i : Nat)) c) where
  mem := by simp
  obj := fun i h st b hb => by
    have e : b = it := by simpa using hb
    subst e
    exact ⟨_, st, fun v z => nomatch z⟩
  keep := fun i h h' st k => k it (by simp) _ st
  item := by
    intro X hP hw hK hc i pins s σ H E I hf st hg
    subst hP hw hK
    obtain ⟨f0, f1, f2, f3, f4, f5⟩ := hf it (by simp)
    have W := Walks.range (prog := X.prog) (w := X.w) (I.ok.hd hc) it lo c n
    refine W.item i s _ _ hg st fun v h' tk hv st' kk => ?_
    obtain ⟨t, rfl⟩ := hv
    have I1 : Inv X pins σ H { s with heap := h', toks := tk } := I.turned (fun b o hb e => kk b o (by simpa using hb) e) f0 f1 f3 f4 f5
    exact ⟨_, rfl, go_of (s := { s with heap := h', toks := tk }) (n := "range_iterator") st' rfl rfl (by decide) ⟨.int (lo + (i : Nat) * c), H, I1, ⟨t, rfl⟩, ⟨rfl, rfl⟩, st', fun b hb => (hf b hb).1⟩⟩
  done := by
    intro X hP hw hK hc i pins s σ H E I hf st hg
    subst hP hw hK
    obtain ⟨f0, f1, f2, f3, f4, f5⟩ := hf it (by simp)
    exact wpAny_pyNext_range_end (I.ok.hd hc) st (by have : n ≤ i := hg; omega) fun h' eb => ⟨rfl, I.turned (t' := s.toks) (fun b o hb e => eb b o hb e) f0 f1 f3 f4 f5⟩
  self := fun A i s Q E st h => wpAny_pyIter_rangeiter st h
def RgC (i j c : Int) (n : Nat) : Prop := c ≠ 0 ∧ c.natAbs < 1073741824 ∧ Builtin.Range.small i j c = true ∧ Builtin.Range.rangeSize i j c = n
theorem RgC.neg {i j : Int} (ha : -(2 ^ 62) ≤ i) (ha' : i < 2 ^ 62) (hb : -(2 ^ 62) ≤ j) (hb' : j < 2 ^ 62) : RgC i j (-1) (i - j).toNat :=
  ⟨by decide, by decide, PySem.W.small_down ha ha' hb hb', PySem.W.rangeSize_downNat i j⟩
def iRng3 (ta : TA) : TI := fun σ H R => ta σ H fun vs H1 => ∃ (i j c : Int) (n : Nat), vs = [.int i, .int j, .int c] ∧ RgC i j c n ∧ R (Itc i c n) H1
section
variable {X : Cx} {tg : Expr}
theorem pi_range3 {a b c : Expr} {ta : TA} {p pos : Pos} (hg : Gl X "range") (hm : X.mg "range" = none) (ha : PA X [a, b, c] ta)
    (hs : starEach [a, b, c] X.env = (false, eval a X.env) :: starEach [b, c] X.env := by rfl) (hpl : (backTo pos (starEach [b, c] X.env)).any (·.1) = false := by rfl) :
    PI X tg (.Call (.Name "range" p) [a, b, c] [] pos) (iRng3 ta) := by
  intro pins s σ H R I h
  refine Call_ (ld_blt I hg hm boot_range (PyProof.Rows.callWith_type1 (thn (ha pos pins s σ H _ I h) fun us s1 ⟨vs, H1, I1, r1, q1⟩ => ?_) hs hpl))
  obtain ⟨i, j, k, n, e, ⟨c0, c1, c2, c3⟩, q⟩ := q1
  subst e
  cases r1 with
  | cons r rr =>
    cases rr with
    | cons r' rr =>
      cases rr with
      | cons r'' rr =>
        cases rr
        obtain ⟨t, rfl⟩ := r
        obtain ⟨t', rfl⟩ := r'
        obtain ⟨t'', rfl⟩ := r''
        refine call_range_3 c0 ?_ (.inl (PyProof.noPylong_small c1))
        refine wpAny_pyIter_range (IsRange.new ..) c2 ?_
        have I2 : Inv X pins σ H1 { s1 with heap := s1.heap.push { cls := .type "range", data := .fields #[.int i t, .int j t', .int k t''] } } := I1.kept (t' := s1.toks) fun b o e => Heap.get?_push_of_some _ e
        refine pi_one (tk := s1.toks) I2 _ (turn_rangeC _ i k n) ?_ q
        have e1 : i + ((0 : Nat) : Int) * k = i := by simp
        have e2 : (n : Int) - ((0 : Nat) : Int) = Builtin.Range.rangeSize i j k := by rw [c3]; simp
        show IsRangeIter _ _ (i + ((0 : Nat) : Int) * k) ((n : Int) - ((0 : Nat) : Int)) k
        rw [e1, e2]
        exact Heap.get?_push_size _ rfl
end
theorem for_rangeC {lo c : Int} {n : Nat} {g : TG} {tb : TS} {D : Ends} {σ : St} {H : Hp} (Pv : Nat → St → Hp → Prop) (h0 : Pv 0 σ H)
    (hs : ∀ i σ H, i < n → Pv i σ H → g (.int (lo + (i : Nat) * c)) σ H fun σ2 H2 => tb { D with nx := Pv (i + 1), ct := Pv (i + 1), bk := D.nx } σ2 H2) (hd : ∀ σ H, Pv n σ H → D.nx σ H) :
    ∃ W : Nat → Nat → St → Hp → Prop, (∃ m, W 0 m σ H) ∧ ∀ i m σ H, W i m σ H →
      ((Itc lo c n).stop i H ∧ D.nx σ H) ∨ ((Itc lo c n).go i H ∧ ∃ N : St → Hp → Prop, (∀ σ' H', N σ' H' → ∃ m', m' < m ∧ W (i + 1) m' σ' H') ∧ ∀ x H', (Itc lo c n).yld i H x H' → g x σ H' fun σ2 H2 => tb { D with nx := N, ct := N, bk := D.nx } σ2 H2) := by
  refine ⟨fun i m σ H => m = n - i ∧ i ≤ n ∧ Pv i σ H, ⟨n, by simp, Nat.zero_le _, h0⟩, ?_⟩
  rintro i m σ H ⟨rfl, hi, p⟩
  by_cases hlt : i < n
  · refine .inr ⟨hlt, Pv (i + 1), fun σ' H' p' => ⟨n - (i + 1), by omega, rfl, hlt, p'⟩, fun x H' y => ?_⟩
    obtain ⟨e, y⟩ := y
    subst e y
    exact hs i σ _ hlt p
  · have e : i = n := by omega
    subst e
    exact .inl ⟨Nat.le_refl _, hd σ H p⟩
def Itv (K : PySem.W.Frag) (a : Addr) (n : Nat) : It :=
  ⟨fun i H => i < n ∧ ∃ (xs : List V) (x : V), SqL K H a xs ∧ xs[n - 1 - i]? = some x, fun i H x H' => H' = H ∧ ∀ xs, SqL K H a xs → xs[n - 1 - i]? = some x, fun i _ => n ≤ i⟩
theorem turn_rev {P : Program} {w : World} {K : PySem.W.Frag} {tg : Expr} (a it : Addr) (n : Nat) : Turn P w K tg (Itv K a n) [it] it (fun i h => i ≤ n ∧ h.IsRevIter it a ((n : Int) - 1 - (i : Nat))) where
  mem := by simp
  obj := fun i h st b hb => by
    have e : b = it := by simpa using hb
    subst e
    obtain ⟨_, o, e, c, d⟩ := st
    exact ⟨o, e, fun v z => by rw [d] at z; cases z⟩
  keep := fun i h h' st k => ⟨st.1, st.2.at fun o e => k it (by simp) o e⟩
  item := by
    intro X hP hw hK hc i pins s σ H E I hf st hg
    subst hP hw hK
    obtain ⟨hin, xs, x, hq, hx⟩ := hg
    obtain ⟨its, rv, p, hz⟩ := I.list hq
    obtain ⟨u, hu, ru⟩ := rv.get hx
    obtain ⟨f0, f1, f2, f3, f4, f5⟩ := hf it (by simp)
    obtain ⟨_, hit⟩ := st
    have e1 : (n : Int) - 1 - ((i : Nat) : Int) = ((n - 1 - i : Nat) : Int) := by omega
    rw [e1] at hit
    refine wpAny_pyNext_rev_item hit p.isList (x := u) (by simpa using hu) fun h' st' sb => ?_
    have e2 : ((n - 1 - i : Nat) : Int) - 1 = (n : Int) - 1 - ((i + 1 : Nat) : Int) := by omega
    rw [e2] at st'
    have I1 : Inv X pins σ H { s with heap := h' } := I.turned (t' := s.toks) (fun b o hb e => (sb.2 b hb).trans e) f0 f1 f3 f4 f5
    obtain ⟨o, e, c, d⟩ := id st'
    exact ⟨u, rfl, go_of (s := { s with heap := h' }) e c d (by decide) ⟨x, H, I1, ru, ⟨rfl, fun ys hy => by rw [I.list_inj hy hq]; exact hx⟩, ⟨hin, st'⟩, fun b hb => (hf b hb).1⟩⟩
  done := by
    intro X hP hw hK hc i pins s σ H E I hf st hg
    subst hP hw hK
    obtain ⟨f0, f1, f2, f3, f4, f5⟩ := hf it (by simp)
    obtain ⟨hin, hit⟩ := st
    have hge : n ≤ i := hg
    have e1 : (n : Int) - 1 - ((i : Nat) : Int) = -1 := by omega
    rw [e1] at hit
    exact wpAny_pyNext_rev_end (I.ok.hd hc) hit fun h' eb => ⟨rfl, I.turned (t' := s.toks) (fun b o hb e => eb b o hb e) f0 f1 f3 f4 f5⟩
  self := fun A i s Q E st h => wpAny_pyIter_revIter st.2 h
def iRev (K : PySem.W.Frag) (ta : TA) : TI := fun σ H R => ta σ H fun vs H1 => ∃ (a : Addr) (xs : List V), vs = [.ref a] ∧ SqL K H1 a xs ∧ R (Itv K a xs.length) H1
section
variable {X : Cx} {tg : Expr}
theorem pi_reversed {e : Expr} {ta : TA} {p pos : Pos} (hg : Gl X "reversed") (hm : X.mg "reversed" = none) (ha : PA X [e] ta) (hs : starEach [e] X.env = [(false, eval e X.env)] := by rfl) : PI X tg (.Call (.Name "reversed" p) [e] [] pos) (iRev X.K ta) := by
  intro pins s σ H R I h
  refine Call_ (ld_blt I hg hm boot_reversed5 (PyProof.Rows.callWith_type1 (thn (ha pos pins s σ H _ I h) fun us s1 ⟨vs, H1, I1, r1, q1⟩ => ?_) hs rfl))
  obtain ⟨a, xs, e, hq, q⟩ := q1
  subst e
  cases r1 with
  | cons r rr =>
    cases rr
    cases r
    obtain ⟨its, rv, p', hz⟩ := I1.list hq
    have hl := rv.length
    have e1 : ((its.toArray.size : Nat) : Int) - 1 = (xs.length : Int) - 1 - ((0 : Nat) : Int) := by simp only [List.size_toArray]; omega
    refine call_reversed_list p'.isList (wpAny_pyIter_revIter (l := a) (i := ((its.toArray.size : Nat) : Int) - 1) ⟨_, Heap.get?_push_size _ rfl, rfl, rfl⟩ ?_)
    refine pi_one (tk := s1.toks) I1 _ (turn_rev a _ xs.length) ⟨Nat.zero_le _, ?_⟩ q
    rw [← e1]
    exact ⟨_, Heap.get?_push_size _ rfl, rfl, rfl⟩
end
section
variable {prog : Program} {w : World} {A : Around} {E : Value → Shared → Prop} {s : Shared}
end
section
variable {X : Cx} {pins : List (Addr × Obj)} {σ : St} {H : Hp} {s : Shared} {d : Addr} {o : Obj}
end
section
variable {P : Program} {w : World} {K : PySem.W.Frag} {tg : Expr} {d : Addr} {o : Obj} {es : Array DictEntry} {ep : Nat}
end
section
variable {X : Cx} {tg e : Expr} {td : TE} {apos cpos : Pos}
end
end L2
section 
namespace Bits
open PySem PyProof.Rows
end Bits
end 
section 
namespace TL
open PySem PySem.Builtin PySem.Builtin.Str PySem.StrLaws
end TL
end 
namespace L2
open PySem PySem.Spec PyProof.Rows
section
variable {X : Cx} {pins : List (Addr × Obj)} {σ : St} {H : Hp} {s : Shared} {Q : VK}
end
section
variable {X : Cx}
end
section
variable {X : Cx} {o e : Expr} {to te : TE}
end
end L2
namespace L2
open PySem PySem.Spec PyProof.Rows
section
variable {X : Cx}
end
end L2
namespace Att
open PySem PySem.W PySem.Calls PyProof.Rows
section
variable {prog : Program} {w : World} {A : Around} {E : Value → Shared → Prop} {s : Shared} {K : Frag}
end
end Att
namespace L2
open PySem PySem.Spec PyProof.Rows
end L2
namespace L2
open PySem PySem.Spec PyProof.Rows
end L2
namespace L2
open PySem PySem.Spec PyProof.Rows
def inClass (s : Stmt) (j : Nat) : Stmt := match s with
  | .ClassDef _ _ _ body _ _ _ _ _ _ _ => body.getD j (.Pass ⟨0, 0, 0, 0⟩)
  | _ => .Pass ⟨0, 0, 0, 0⟩
def defArgs (s : Stmt) : Arguments := match s with
  | .FunctionDef _ a _ _ _ _ _ _ _ _ => a
  | _ => { posonlyargs := [], args := [], vararg := none, kwonlyargs := [], kw_defaults := [], kwarg := none, defaults := [] }
def defBody (s : Stmt) : List Stmt := match s with
  | .FunctionDef _ _ b _ _ _ _ _ _ _ => b
  | _ => []
def defScope (s : Stmt) : Scope := match s with
  | .FunctionDef _ _ _ _ _ _ sc _ _ _ => sc
  | _ => { kind := .function, names := [], isGenerator := false, isCoroutine := false }
abbrev CX0 : CXT := fun _ _ _ _ _ _ => False
abbrev E0 : XK := fun _ _ _ => False
theorem pass0 {X : Cx} : Passes CX0 X E0 := fun _ _ _ _ _ _ _ h => h.elim
structure Fun (K : PySem.W.Frag) (x qual : Str) (st : Stmt) (f : Addr) (fd : FuncData) : Prop where
  ex : ∃ (oc : Value) (od : Option Addr) (kV doc pm : Value) (an : Option Addr) (cdv ct : Value) (osl : Array (Option Value)),
    fd = PySem.W.fnOf x qual (defArgs st) (defBody st) (defScope st) .none kV doc pm an cdv ct ∧ K.lookup f = some ⟨oc, od, .func fd, osl⟩ ∧ PySem.W.codeIn K cdv qual = true
  kp : PySem.W.keepIn K (.ref f) = true
section
variable {P : Program} {w : World} {K : PySem.W.Frag} {mg : Str → Option Value} {base : Heap}
theorem Fun.ok {x qual : Str} {st : Stmt} {f : Addr} {fd : FuncData} {N ps : List Str} {k : Nat} {sp : Sp} (F : Fun K x qual st f fd) (S : FnScope N ps (defScope st)) (len : ∀ vs H Q E, sp vs H Q E → vs.length = ps.length)
    (hbody : ∀ (cdv : Value) (A : Around) (outer : List Env) (s : Shared) (H : Hp) (vs : List V) (Q : VK) (E : XK), Room k (A.deeper (envOfC qual (defScope st) s.heap.objs.size f cdv)) → sp vs H Q E →
      ∃ t, PSs (cxOf CX0 P w K mg base N qual (defScope st) f cdv A outer s H E).nox (defBody st) t ∧ t { nx := fun _ H' => Q .non H', rt := Q } (start N vs) H) : FnOk P w K mg base CX0 (k + 1) f fd ps sp := by
  obtain ⟨oc, od, kV, doc, pm, an, cdv, ct, osl, rfl, lk, hcd⟩ := F.ex
  refine fn_of lk hcd S len fun A outer s H vs Q E hr hsp => ?_
  obtain ⟨t, h, q⟩ := hbody cdv A outer s H vs Q E hr hsp
  exact ⟨t, h.nox, q⟩
theorem Fun.binds {x qual : Str} {st : Stmt} {f : Addr} {fd : FuncData} {ps : List Str} (F : Fun K x qual st f fd)
    (h : ∀ (kV doc pm : Value) (an : Option Addr) (cdv ct : Value) (us : List Value), us.length = ps.length → bindArgs (PySem.W.fnOf x qual (defArgs st) (defBody st) (defScope st) .none kV doc pm an cdv ct) ⟨us, []⟩ = pure (ps.zip us)) : Binds K fd ps [] := by
  obtain ⟨oc, od, kV, doc, pm, an, cdv, ct, osl, rfl, lk, hcd⟩ := F.ex
  exact .all (h kV doc pm an cdv ct)
theorem fun_mk {x qual : Str} {st : Stmt} {f : Addr} {oc : Value} {od an : Option Addr} {osl : Array (Option Value)} {kV doc pm cdv ct : Value} (l : K.lookup f = some ⟨oc, od, .func (PySem.W.fnOf x qual (defArgs st) (defBody st) (defScope st) .none kV doc pm an cdv ct), osl⟩)
    (c : PySem.W.codeIn K cdv qual = true) (k : PySem.W.keepIn K (.ref f) = true) : Fun K x qual st f (PySem.W.fnOf x qual (defArgs st) (defBody st) (defScope st) .none kV doc pm an cdv ct) := ⟨⟨oc, od, kV, doc, pm, an, cdv, ct, osl, rfl, l, c⟩, k⟩
end
theorem small1000 {n : Nat} (h : n ≤ 1000) : n < sizeLine := Nat.lt_of_le_of_lt h (by decide)
section
variable {X : Cx}
theorem pv (i : Nat) {x : Str} {pos : Pos} (hN : X.N[i]? = some x := by rfl) (hv : Vis X.env.scope x := by first | exact Or.inl rfl | exact Or.inr (Or.inl rfl) | exact Or.inr (Or.inr rfl)) (hd : (x == ("__debug__" : Str)) = false := by decide)
    (hcd : (x == ("__classdict__" : Str)) = false := by decide) : PE X (.Name x pos) (tVar i) := pe_var hN hv hd hcd
end
theorem iteF {A B : Prop} (h : B) : if false = true then A else B := by
  rw [if_neg Bool.false_ne_true]
  exact h
theorem iteT {A B : Prop} (h : A) : if true = true then A else B := by
  rw [if_pos rfl]
  exact h
theorem iteNS {c A B : Prop} [Decidable c] (hc : c) (h : B) : if (!decide c) = true then A else B := by
  rw [decide_eq_true hc]
  exact iteF h
def Same (H H' : Hp) : Prop := ∀ b o, H b = some o → H' b = some o
theorem Same.refl (H : Hp) : Same H H := fun _ _ h => h
theorem Same.trans {H H1 H2 : Hp} (a : Same H H1) (b : Same H1 H2) : Same H H2 := fun c o h => b c o (a c o h)
theorem Same.free {H H' : Hp} (e : Same H H') {l : Addr} (h : H' l = Option.none) : H l = Option.none := by
  cases q : H l with
  | none => rfl
  | some o =>
    rw [e l o q] at h
    cases h
theorem Same.seq {K : PySem.W.Frag} {H H' : Hp} {a : Addr} {xs : List V} (e : Same H H') (h : SqL K H a xs) : SqL K H' a xs := by
  rcases h with (h | ⟨o, h⟩) | h
  · exact .inl (.inl (e _ _ h))
  · exact .inl (.inr ⟨o, e _ _ h⟩)
  · exact .inr h
section
variable {κ : Type} [DecidableEq κ]
end
theorem at_of {xs : List V} {z : Int} {j : Nat} {v : V} (e : z = (j : Int)) (h : xs[j]? = some v) : atI xs z = some v := by
  rw [e]
  exact atI_nat h
theorem Same.made {H H1 : Hp} {x dx C : Addr} (nx : H x = Option.none) (nd : H dx = Option.none) (k : ∀ b o, (upd (upd H dx (.own x)) x (.ins C dx [])) b = some o → b ≠ x → H1 b = some o) : Same H H1 := fun b o e =>
  k b o (by rw [upd_ne (ne_of_none e nx), upd_ne (ne_of_none e nd)]; exact e) (ne_of_none e nx)
end L2
section
set_option Elab.async false
set_option linter.all false
set_option maxRecDepth 100000
set_option maxHeartbeats 2000000
namespace L2
open PySem PySem.Spec PyProof.Rows
open PySem.W (WData Codec OpenSpec Well WellAll ReadsW ReadsAllW)
mutual
inductive Dw (K : PySem.W.Frag) (H : Hp) : V → WData → Prop
  | non : Dw K H .non .none
  | bl (b : Bool) : Dw K H (.bl b) (.bool b)
  | int (i : Int) : Dw K H (.int i) (.int i)
  | str (x : Str) : Dw K H (.str x) (.str x)
  | byt (b : Array UInt8) : Dw K H (.byt b) (.bytes b.toList)
  | lst {a : Addr} {xs : List V} {ds : List WData} : SqL K H a xs → DwAll K H xs ds → Dw K H (.ref a) (.list ds)
  | tup {a : Addr} {xs : List V} {ds : List WData} : SqT K H a xs → DwAll K H xs ds → Dw K H (.ref a) (.tuple ds)
inductive DwAll (K : PySem.W.Frag) (H : Hp) : List V → List WData → Prop
  | nil : DwAll K H [] []
  | cons {v : V} {vs : List V} {d : WData} {ds : List WData} : Dw K H v d → DwAll K H vs ds → DwAll K H (v :: vs) (d :: ds)
end
theorem dw_ints {K : PySem.W.Frag} {H : Hp} : ∀ ns : List Int, DwAll K H (ns.map V.int) (ns.map WData.int)
  | [] => .nil
  | n :: r => .cons (.int n) (dw_ints r)
theorem ints_dw {K : PySem.W.Frag} {H : Hp} : ∀ (ns : List Int) (xs : List V), DwAll K H xs (ns.map WData.int) → xs = ns.map V.int
  | [], xs, h => by
    cases h
    rfl
  | n :: r, xs, h => by
    cases h with
    | cons h1 h2 =>
      cases h1
      rw [ints_dw r _ h2] <;> rfl
section
variable {P : Program} {w : World} {K : PySem.W.Frag} {H : Hp} {h : Heap} {R : PySem.W.WRecords} {cl : Str → Option Addr}
theorem sqL_at {a : Addr} {xs : List V} (hok : HOk P w H h) (KX : K.In h) (q : SqL K H a xs) : ∃ (its : List Value) (o : Obj) (n : Nat), Vals xs its ∧ h.get? a = some o ∧ o.cls = .type "list" ∧ o.data = .seq its.toArray n := by
  rcases q with q | ⟨o, its, n, e, hc, _, hd, _, hv⟩
  · obtain ⟨_, its, n, hv, e⟩ := (show ObjOk P w H h a (.lst xs) from q.ok hok)
    exact ⟨its, _, n, hv, e, rfl, rfl⟩
  · exact ⟨its.toList, o, n, hv, KX _ _ e, hc, by simp [hd]⟩
theorem sqT_at {a : Addr} {xs : List V} (hok : HOk P w H h) (KX : K.In h) (q : SqT K H a xs) : ∃ (its : List Value) (o : Obj) (n : Nat), Vals xs its ∧ h.get? a = some o ∧ o.cls = .type "tuple" ∧ o.data = .seq its.toArray n := by
  rcases q with q | ⟨o, its, n, e, hc, hd, _, hv⟩
  · obtain ⟨_, its, hv, o, e, hc, n, hd⟩ := (show ObjOk P w H h a (.tup xs) from q.ok hok)
    exact ⟨its, o, n, hv, e, hc, hd⟩
  · exact ⟨its.toList, o, n, hv, KX _ _ e, hc, by simp [hd]⟩
mutual
theorem Dw.reads (hok : HOk P w H h) (KX : K.In h) : ∀ (d : WData) (v : V) (u : Value), Dw K H v d → RelV v u → ∃ as, ReadsW R cl h u d as
  | .none, _, _, x, r => by
    cases x
    cases r
    exact ⟨_, ReadsW.none⟩
  | .bool b, _, _, x, r => by
    cases x
    cases r
    exact ⟨_, ReadsW.bool b⟩
  | .int i, _, _, x, r => by
    cases x
    obtain ⟨t, rfl⟩ := r
    exact ⟨_, ReadsW.int i t⟩
  | .str s, _, _, x, r => by
    cases x
    obtain ⟨t, rfl⟩ := r
    exact ⟨_, ReadsW.str s t⟩
  | .bytes b, _, _, x, r => by
    cases x
    obtain ⟨t, rfl⟩ := r
    exact ⟨_, ReadsW.bytes _ t⟩
  | .list ds, _, _, x, r => by
    cases x with
    | lst hs ha =>
      cases r
      obtain ⟨its, o, n, rv, ho, hc, hd⟩ := sqL_at hok KX hs
      obtain ⟨as, hr⟩ := Dw.readsAll hok KX ds _ its ha rv
      exact ⟨_, ReadsW.list ho hc hd hr⟩
  | .tuple ds, _, _, x, r => by
    cases x with
    | tup hs ha =>
      cases r
      obtain ⟨its, o, n, rv, ho, hc, hd⟩ := sqT_at hok KX hs
      obtain ⟨as, hr⟩ := Dw.readsAll hok KX ds _ its ha rv
      exact ⟨_, ReadsW.tuple ho hc hd hr⟩
  | .float _, _, _, x, _ => by cases x
  | .dict _, _, _, x, _ => by cases x
  | .bytearray _, _, _, x, _ => by cases x
  | .set _, _, _, x, _ => by cases x
  | .frozenset _, _, _, x, _ => by cases x
  | .obj _ _, _, _, x, _ => by cases x
theorem Dw.readsAll (hok : HOk P w H h) (KX : K.In h) : ∀ (ds : List WData) (vs : List V) (us : List Value), DwAll K H vs ds → Vals vs us → ∃ as, ReadsAllW R cl h us ds as
  | [], _, _, x, r => by
    cases x
    cases r
    exact ⟨_, ReadsAllW.nil⟩
  | d :: ds, _, _, x, r => by
    cases x with
    | cons h1 h2 =>
      cases r with
      | cons r1 r2 =>
        obtain ⟨as, q1⟩ := Dw.reads hok KX d _ _ h1 r1
        obtain ⟨bs, q2⟩ := Dw.readsAll hok KX ds _ _ h2 r2
        exact ⟨_, ReadsAllW.cons q1 q2⟩
end
end
mutual
def plW : WData → Bool
  | .none => true
  | .bool _ => true
  | .int _ => true
  | .str _ => true
  | .bytes _ => true
  | .list xs => plWs xs
  | .tuple xs => plWs xs
  | _ => false
def plWs : List WData → Bool
  | [] => true
  | x :: r => plW x && plWs r
end
theorem plWs_map {α : Type} {f : α → WData} (h : ∀ a, plW (f a) = true) : ∀ l : List α, plWs (l.map f) = true
  | [] => rfl
  | x :: r => by
    show (plW (f x) && plWs (r.map f)) = true
    rw [h x, plWs_map h r] <;> rfl
theorem pl_enc : ∀ (c : Codec) (a : c.denote), plW (c.enc a) = true
  | .unit, _ => rfl
  | .bool, _ => rfl
  | .int _ _, _ => rfl
  | .nat _ _, _ => rfl
  | .u8, _ => rfl
  | .bytes _ _, _ => rfl
  | .text _ _ _ _, _ => rfl
  | .list _ _ c, a => plWs_map (fun x => pl_enc c x) a
  | .pair c d, a => by
    show (plW (c.enc a.1) && (plW (d.enc a.2) && true)) = true
    rw [pl_enc c a.1, pl_enc d a.2] <;> rfl
  | .triple c d e, a => by
    show (plW (c.enc a.1) && (plW (d.enc a.2.1) && (plW (e.enc a.2.2) && true))) = true
    rw [pl_enc c a.1, pl_enc d a.2.1, pl_enc e a.2.2] <;> rfl
  | .option c, none => rfl
  | .option c, some x => pl_enc c x
theorem pl_encAll : ∀ (cs : List Codec) (a : Codec.denoteAll cs), plWs (Codec.encAll cs a) = true
  | [], _ => rfl
  | c :: cs, a => by
    show (plW (c.enc a.1) && plWs (Codec.encAll cs a.2)) = true
    rw [pl_enc c a.1, pl_encAll cs a.2] <;> rfl
theorem weight_mem : ∀ {xs : List WData} {d : WData}, d ∈ xs → d.weight ≤ WData.weightAll xs
  | [], d, h => absurd h (by simp)
  | x :: r, d, h => by
    show d.weight ≤ x.weight + 1 + WData.weightAll r
    rcases List.mem_cons.mp h with e | m
    · rw [e]
      omega
    · have z := weight_mem m
      omega
def toV : Value → V
  | .none => .non
  | .bool b => .bl b
  | .int i _ => .int i
  | .str x _ => .str x
  | .bytes b _ => .byt b
  | .ref a => .ref a
  | _ => .non
def OkU (A : List Addr) : Value → Prop
  | .none => True
  | .bool _ => True
  | .int _ _ => True
  | .str _ _ => True
  | .bytes _ _ => True
  | .ref a => a ∈ A
  | _ => False
theorem OkU.mono {A B : List Addr} (h : ∀ a ∈ A, a ∈ B) : ∀ {u : Value}, OkU A u → OkU B u := fun {u} x => by
  cases u with
  | ref a => exact h a x
  | none => trivial
  | bool b => trivial
  | int i t => trivial
  | str s t => trivial
  | bytes b t => trivial
  | _ => exact False.elim x
theorem relV_toV {A : List Addr} {u : Value} (x : OkU A u) : RelV (toV u) u := by
  cases u with
  | ref a => rfl
  | none => rfl
  | bool b => rfl
  | int i t => exact ⟨t, rfl⟩
  | str s t => exact ⟨t, rfl⟩
  | bytes b t => exact ⟨t, rfl⟩
  | _ => exact False.elim x
theorem vals_toV {A : List Addr} : ∀ {vs : List Value}, (∀ u ∈ vs, OkU A u) → Vals (vs.map toV) vs
  | [], _ => .nil
  | u :: r, h => .cons (relV_toV (h u (List.mem_cons_self ..))) (vals_toV fun x hx => h x (List.mem_cons_of_mem _ hx))
def ArgOb (h : Heap) (A : List Addr) (a : Addr) : Prop := ∃ vs : List Value, vs.length ≤ sizeLine ∧ (∀ u ∈ vs, OkU A u) ∧
  (h.get? a = some { cls := .type "list", data := .seq vs.toArray } ∨ h.get? a = some { cls := .type "tuple", data := .seq vs.toArray })
theorem ArgOb.mono {h : Heap} {A B : List Addr} {a : Addr} (k : ∀ a ∈ A, a ∈ B) (x : ArgOb h A a) : ArgOb h B a := by
  obtain ⟨vs, h1, h2, h3⟩ := x
  exact ⟨vs, h1, fun u hu => (h2 u hu).mono k, h3⟩
theorem wellAll_len {P : Params} {h : Heap} : ∀ {vs : List Value} {ds : List WData}, WellAll P h vs ds → vs.length = ds.length
  | _, _, .nil => rfl
  | _, _, .cons _ b => by
    show _ + 1 = _ + 1
    rw [wellAll_len b]
theorem well_list {P : Params} {h : Heap} {v : Value} {ds : List WData} (x : Well P h v (.list ds)) : ∃ (a : Addr) (vs : List Value), v = .ref a ∧ h.get? a = some { cls := .type "list", data := .seq vs.toArray } ∧ WellAll P h vs ds := by
  cases x with
  | list ho hall => exact ⟨_, _, rfl, ho, hall⟩
theorem well_tuple {P : Params} {h : Heap} {v : Value} {ds : List WData} (x : Well P h v (.tuple ds)) : ∃ (a : Addr) (vs : List Value), v = .ref a ∧ h.get? a = some { cls := .type "tuple", data := .seq vs.toArray } ∧ WellAll P h vs ds := by
  cases x with
  | tuple ho hall => exact ⟨_, _, rfl, ho, hall⟩
theorem well_cons {P : Params} {h : Heap} {us : List Value} {d : WData} {ds : List WData} (x : WellAll P h us (d :: ds)) : ∃ (v : Value) (vs : List Value), us = v :: vs ∧ Well P h v d ∧ WellAll P h vs ds := by
  cases x with
  | cons a b => exact ⟨_, _, rfl, a, b⟩
theorem line_of {n : Nat} (h : n ≤ 1048576) : n ≤ sizeLine := Nat.le_trans h (by decide)
section
variable {P : Params} {h : Heap}
mutual
theorem area_one : ∀ (d : WData) (v : Value), Well P h v d → plW d = true → d.weight ≤ 1048576 → ∃ A : List Addr, OkU A v ∧ ∀ a ∈ A, ArgOb h A a
  | .none, _, x, _, _ => by
    cases x
    exact ⟨[], trivial, fun a m => absurd m (by simp)⟩
  | .bool b, _, x, _, _ => by
    cases x
    exact ⟨[], trivial, fun a m => absurd m (by simp)⟩
  | .int i, _, x, _, _ => by
    cases x
    exact ⟨[], trivial, fun a m => absurd m (by simp)⟩
  | .str s, _, x, _, _ => by
    cases x
    exact ⟨[], trivial, fun a m => absurd m (by simp)⟩
  | .bytes b, _, x, _, _ => by
    cases x
    exact ⟨[], trivial, fun a m => absurd m (by simp)⟩
  | .list ds, _, x, p, z => by
    obtain ⟨a, vs, rfl, ho, hall⟩ := well_list x
    have z2 : WData.weightAll ds ≤ 1048576 := z
    obtain ⟨A, h1, h2⟩ := area_all ds _ hall p fun d hd => Nat.le_trans (weight_mem hd) z2
    have k : ∀ b ∈ A, b ∈ a :: A := fun b hb => List.mem_cons_of_mem _ hb
    refine ⟨a :: A, List.mem_cons_self .., fun b hb => ?_⟩
    rcases List.mem_cons.mp hb with e | m
    · rw [e]
      exact ⟨vs, line_of (by rw [wellAll_len hall]; exact Nat.le_trans (PySem.W.length_le_weightAllW ds) z2), fun u hu => (h1 u hu).mono k, .inl ho⟩
    · exact (h2 b m).mono k
  | .tuple ds, _, x, p, z => by
    obtain ⟨a, vs, rfl, ho, hall⟩ := well_tuple x
    have z2 : WData.weightAll ds ≤ 1048576 := z
    obtain ⟨A, h1, h2⟩ := area_all ds _ hall p fun d hd => Nat.le_trans (weight_mem hd) z2
    have k : ∀ b ∈ A, b ∈ a :: A := fun b hb => List.mem_cons_of_mem _ hb
    refine ⟨a :: A, List.mem_cons_self .., fun b hb => ?_⟩
    rcases List.mem_cons.mp hb with e | m
    · rw [e]
      exact ⟨vs, line_of (by rw [wellAll_len hall]; exact Nat.le_trans (PySem.W.length_le_weightAllW ds) z2), fun u hu => (h1 u hu).mono k, .inr ho⟩
    · exact (h2 b m).mono k
  | .float _, _, _, p, _ => Bool.noConfusion (show false = true from p)
  | .dict _, _, _, p, _ => Bool.noConfusion (show false = true from p)
  | .bytearray _, _, _, p, _ => Bool.noConfusion (show false = true from p)
  | .set _, _, _, p, _ => Bool.noConfusion (show false = true from p)
  | .frozenset _, _, _, p, _ => Bool.noConfusion (show false = true from p)
  | .obj _ _, _, _, p, _ => Bool.noConfusion (show false = true from p)
theorem area_all : ∀ (ds : List WData) (vs : List Value), WellAll P h vs ds → plWs ds = true → (∀ d ∈ ds, d.weight ≤ 1048576) → ∃ A : List Addr, (∀ u ∈ vs, OkU A u) ∧ ∀ a ∈ A, ArgOb h A a
  | [], _, x, _, _ => by
    cases x
    exact ⟨[], fun u m => absurd m (by simp), fun a m => absurd m (by simp)⟩
  | d :: ds, _, x, p, z => by
    obtain ⟨v, vs, rfl, x1, x2⟩ := well_cons x
    have q : plW d = true ∧ plWs ds = true := Bool.and_eq_true_iff.mp p
    obtain ⟨A, a1, a2⟩ := area_one d v x1 q.1 (z d (List.mem_cons_self ..))
    obtain ⟨B, b1, b2⟩ := area_all ds vs x2 q.2 fun e he => z e (List.mem_cons_of_mem _ he)
    have kA : ∀ b ∈ A, b ∈ A ++ B := fun b hb => List.mem_append.mpr (.inl hb)
    have kB : ∀ b ∈ B, b ∈ A ++ B := fun b hb => List.mem_append.mpr (.inr hb)
    refine ⟨A ++ B, fun u hu => ?_, fun b hb => ?_⟩
    · rcases List.mem_cons.mp hu with e | m
      · rw [e]
        exact a1.mono kA
      · exact (b1 u m).mono kB
    · rcases List.mem_append.mp hb with m | m
      · exact (a2 b m).mono kA
      · exact (b2 b m).mono kB
end
end
def hoOf (o : Obj) : Option HO := match o.data with
  | .seq vs _ => if (o.cls == Value.type "list") = true then some (.frz o (.lst (vs.toList.map toV))) else some (.frz o (.tup (vs.toList.map toV)))
  | _ => none
def argH (K : PySem.W.Frag) (h : Heap) (A : List Addr) : Hp := fun b => if b ∈ A then (if (K.lookup b).isNone = true then (h.get? b).bind hoOf else none) else none
def OnlyF (H : Hp) : Prop := ∀ b, H b = none ∨ ∃ o u, H b = some (.frz o u)
theorem hoOf_lst (vs : List Value) : hoOf { cls := .type "list", data := .seq vs.toArray } = some (.frz { cls := .type "list", data := .seq vs.toArray } (.lst (vs.map toV))) := by
  show (if (Value.type "list" == Value.type "list") = true then some (HO.frz { cls := .type "list", data := .seq vs.toArray } (.lst (vs.toArray.toList.map toV))) else some (HO.frz { cls := .type "list", data := .seq vs.toArray } (.tup (vs.toArray.toList.map toV)))) = _
  rw [if_pos (beq_self_eq_true _)]
theorem hoOf_tup (vs : List Value) : hoOf { cls := .type "tuple", data := .seq vs.toArray } = some (.frz { cls := .type "tuple", data := .seq vs.toArray } (.tup (vs.map toV))) := by
  show (if (Value.type "tuple" == Value.type "list") = true then some (HO.frz { cls := .type "tuple", data := .seq vs.toArray } (.lst (vs.toArray.toList.map toV))) else some (HO.frz { cls := .type "tuple", data := .seq vs.toArray } (.tup (vs.toArray.toList.map toV)))) = _
  rw [if_neg (by decide)]
section
variable {P : Program} {w : World} {K : PySem.W.Frag} {h : Heap} {A : List Addr}
theorem argH_at {b : Addr} {o : Obj} (hb : b ∈ A) (hk : K.lookup b = none) (e : h.get? b = some o) : argH K h A b = hoOf o := by
  unfold argH
  rw [if_pos hb, hk, if_pos (show (none : Option Obj).isNone = true from rfl), e] <;> rfl
theorem of_argH {b : Addr} {u : HO} (q : argH K h A b = some u) : b ∈ A ∧ K.lookup b = none := by
  unfold argH at q
  by_cases hb : b ∈ A
  · rw [if_pos hb] at q
    cases hk : K.lookup b with
    | none => exact ⟨hb, rfl⟩
    | some o =>
      rw [hk, if_neg (by simp)] at q
      cases q
  · rw [if_neg hb] at q
    cases q
theorem argH_is (ar : ∀ a ∈ A, ArgOb h A a) {b : Addr} {u : HO} (q : argH K h A b = some u) : K.lookup b = none ∧ ∃ vs : List Value, vs.length ≤ sizeLine ∧ (∀ u ∈ vs, OkU A u) ∧
    ((h.get? b = some { cls := .type "list", data := .seq vs.toArray } ∧ u = .frz { cls := .type "list", data := .seq vs.toArray } (.lst (vs.map toV))) ∨
     (h.get? b = some { cls := .type "tuple", data := .seq vs.toArray } ∧ u = .frz { cls := .type "tuple", data := .seq vs.toArray } (.tup (vs.map toV)))) := by
  obtain ⟨hb, hk⟩ := of_argH q
  obtain ⟨vs, h1, h2, h3⟩ := ar b hb
  refine ⟨hk, vs, h1, h2, ?_⟩
  rcases h3 with e | e
  · rw [argH_at hb hk e, hoOf_lst] at q
    exact .inl ⟨e, (Option.some.inj q).symm⟩
  · rw [argH_at hb hk e, hoOf_tup] at q
    exact .inr ⟨e, (Option.some.inj q).symm⟩
theorem argH_only (ar : ∀ a ∈ A, ArgOb h A a) : OnlyF (argH K h A) := fun b => by
  cases q : argH K h A b with
  | none => exact .inl rfl
  | some u =>
    obtain ⟨_, vs, _, _, ⟨_, e⟩ | ⟨_, e⟩⟩ := argH_is ar q
    · exact .inr ⟨_, _, by rw [e]⟩
    · exact .inr ⟨_, _, by rw [e]⟩
theorem argH_ok (ar : ∀ a ∈ A, ArgOb h A a) : HOk P w (argH K h A) h := fun b u q => by
  obtain ⟨_, vs, h1, h2, ⟨e, rfl⟩ | ⟨e, rfl⟩⟩ := argH_is ar q
  · exact ⟨e, by rw [List.length_map]; exact h1, vs, _, vals_toV h2, e⟩
  · exact ⟨e, by rw [List.length_map]; exact h1, vs, vals_toV h2, _, e, rfl, _, rfl⟩
theorem seq_inj {c c' : Value} {vs us : List Value} (e : (some { cls := c, data := .seq vs.toArray } : Option Obj) = some { cls := c', data := .seq us.toArray }) : c = c' ∧ vs = us := by
  have e1 := Option.some.inj e
  have e2 : c = c' := congrArg Obj.cls e1
  have e3 : Data.seq vs.toArray = Data.seq us.toArray := congrArg Obj.data e1
  injection e3 with e4
  refine ⟨e2, ?_⟩
  have e5 := congrArg Array.toList e4
  simpa using e5
theorem argL (KX : K.In h) (ar : ∀ a ∈ A, ArgOb h A a) {a : Addr} {vs : List Value} (ha : a ∈ A) (e : h.get? a = some { cls := .type "list", data := .seq vs.toArray }) : (∀ u ∈ vs, OkU A u) ∧ SqL K (argH K h A) a (vs.map toV) := by
  obtain ⟨us, h1, h2, h3⟩ := ar a ha
  have hu : us = vs := by
    rcases h3 with q | q
    · rw [e] at q
      exact (seq_inj q).2.symm
    · rw [e] at q
      exact absurd (Value.type.inj (seq_inj q).1) (by decide)
  subst hu
  refine ⟨h2, ?_⟩
  cases hk : K.lookup a with
  | none => exact .inl (.inr ⟨_, by rw [argH_at ha hk e, hoOf_lst]⟩)
  | some o =>
    have e2 := KX a o hk
    rw [e] at e2
    obtain rfl := Option.some.inj e2
    exact .inr ⟨_, us.toArray, _, hk, rfl, rfl, rfl, by rw [List.size_toArray]; exact h1, by simpa using vals_toV h2⟩
theorem argT (KX : K.In h) (ar : ∀ a ∈ A, ArgOb h A a) {a : Addr} {vs : List Value} (ha : a ∈ A) (e : h.get? a = some { cls := .type "tuple", data := .seq vs.toArray }) : (∀ u ∈ vs, OkU A u) ∧ SqT K (argH K h A) a (vs.map toV) := by
  obtain ⟨us, h1, h2, h3⟩ := ar a ha
  have hu : us = vs := by
    rcases h3 with q | q
    · rw [e] at q
      exact absurd (Value.type.inj (seq_inj q).1) (by decide)
    · rw [e] at q
      exact (seq_inj q).2.symm
  subst hu
  refine ⟨h2, ?_⟩
  cases hk : K.lookup a with
  | none => exact .inl (.inr ⟨_, by rw [argH_at ha hk e, hoOf_tup]⟩)
  | some o =>
    have e2 := KX a o hk
    rw [e] at e2
    obtain rfl := Option.some.inj e2
    exact .inr ⟨_, us.toArray, _, hk, rfl, rfl, by rw [List.size_toArray]; exact h1, by simpa using vals_toV h2⟩
mutual
theorem dw_one {Pm : Params} (KX : K.In h) (ar : ∀ a ∈ A, ArgOb h A a) : ∀ (d : WData) (v : Value), Well Pm h v d → plW d = true → OkU A v → Dw K (argH K h A) (toV v) d
  | .none, _, x, _, _ => by
    cases x
    exact .non
  | .bool b, _, x, _, _ => by
    cases x
    exact .bl b
  | .int i, _, x, _, _ => by
    cases x
    exact .int i
  | .str s, _, x, _, _ => by
    cases x
    exact .str s
  | .bytes b, _, x, _, _ => by
    cases x
    have z := Dw.byt (K := K) (H := argH K h A) b.toArray
    exact z
  | .list ds, _, x, p, hu => by
    obtain ⟨a, vs, rfl, ho, hall⟩ := well_list x
    obtain ⟨h2, hs⟩ := argL KX ar hu ho
    exact .lst hs (dw_all KX ar ds _ hall p h2)
  | .tuple ds, _, x, p, hu => by
    obtain ⟨a, vs, rfl, ho, hall⟩ := well_tuple x
    obtain ⟨h2, hs⟩ := argT KX ar hu ho
    exact .tup hs (dw_all KX ar ds _ hall p h2)
  | .float _, _, _, p, _ => Bool.noConfusion (show false = true from p)
  | .dict _, _, _, p, _ => Bool.noConfusion (show false = true from p)
  | .bytearray _, _, _, p, _ => Bool.noConfusion (show false = true from p)
  | .set _, _, _, p, _ => Bool.noConfusion (show false = true from p)
  | .frozenset _, _, _, p, _ => Bool.noConfusion (show false = true from p)
  | .obj _ _, _, _, p, _ => Bool.noConfusion (show false = true from p)
theorem dw_all {Pm : Params} (KX : K.In h) (ar : ∀ a ∈ A, ArgOb h A a) : ∀ (ds : List WData) (vs : List Value), WellAll Pm h vs ds → plWs ds = true → (∀ u ∈ vs, OkU A u) → DwAll K (argH K h A) (vs.map toV) ds
  | [], _, x, _, _ => by
    cases x
    exact .nil
  | d :: ds, _, x, p, hu => by
    obtain ⟨v, vs, rfl, x1, x2⟩ := well_cons x
    have q : plW d = true ∧ plWs ds = true := Bool.and_eq_true_iff.mp p
    exact .cons (dw_one KX ar d v x1 q.1 (hu _ (List.mem_cons_self ..))) (dw_all KX ar ds vs x2 q.2 fun u m => hu u (List.mem_cons_of_mem _ m))
end
end
theorem spec_call {P : Program} {w : World} {K : PySem.W.Frag} {mg mb : Str → Option Value} {CX : CXT} {k : Nat} {fa : Addr} {fd : FuncData} {ps : List Str} {sp : Sp} {s₁ : Shared} {vals : List Value} {ds : List WData} {R : PySem.W.WRecords} {cl : Str → Option Addr} {d0 : WData}
    (KX : K.In s₁.heap) (hns : s₁.heap.Ns mainGlobals mg) (hb : s₁.heap.Ns builtinsNs mb) (hbb : ∀ x : Str, x ≠ "__name__" → mb x = bootBuiltins x) (hlim : s₁.heap.NoLimit) (hg : s₁.gens = #[])
    (hwl : WellAll w.params s₁.heap vals ds) (hpl : plWs ds = true) (hwt : ∀ d ∈ ds, d.weight ≤ 1048576) (hr : Room k callerA)
    (F : ∀ base : Heap, K.In base → base.Ns mainGlobals mg → FnOk P w K mg base CX k fa fd ps sp) (hbind : ∀ (s : Shared) (us : List Value), us.length = ps.length → BindsTo s fd ⟨us, []⟩ (ps.zip us)) (hlen : ds.length = ps.length)
    (hsp : ∀ (H : Hp) (xs : List V), OnlyF H → DwAll K H xs ds → sp xs H (fun v H' => Dw K H' v d0) fun _ _ _ => False)
    (hCX : ∀ H e s', CX [] H s₁ (fun _ _ _ => False) e s' → False) :
    codeAny (model P w) callerA (.call (.ref fa) ⟨vals, []⟩) (fun r s' => ∃ u as, r = .ok (.ret u) ∧ ReadsW R cl s'.heap u d0 as ∧ OldK s₁.heap s'.heap ∧ s'.os = s₁.os ∧ AllBare s'.gens) s₁ := by
  obtain ⟨A, ho, ar⟩ := area_all ds vals hwl hpl hwt
  have hO : OnlyF (argH K s₁.heap A) := argH_only ar
  have hok : HOk P w (argH K s₁.heap A) s₁.heap := argH_ok ar
  have hS := dw_all KX ar ds vals hwl hpl ho
  have hV := vals_toV ho
  have hK : ∀ b u, argH K s₁.heap A b = some u → K.lookup b = none := fun b u q => (argH_is ar q).1
  have noA : ∀ {b : Addr} {o : Obj} {es : Array DictEntry} {ep : Nat}, s₁.heap.get? b = some o → o.data = .dict es ep → argH K s₁.heap A b = none := fun {b o es ep} e d => by
    cases q : argH K s₁.heap A b with
    | none => rfl
    | some u =>
      obtain ⟨_, vs, _, _, ⟨e2, _⟩ | ⟨e2, _⟩⟩ := argH_is ar q
      · rw [e2] at e
        cases e
        have d' : Data.seq vs.toArray _ = Data.dict es ep := d
        cases d'
      · rw [e2] at e
        cases e
        have d' : Data.seq vs.toArray _ = Data.dict es ep := d
        cases d'
  generalize argH K s₁.heap A = H at hO hok hS hK noA
  have base_of : ∀ {b : Addr} {o : Obj}, s₁.heap.get? b = some o → H b = none → (hidT s₁.heap H).get? b = some o := fun e n => hidT_get e n
  have nsK : ∀ {b : Addr} {m : Str → Option Value}, s₁.heap.Ns b m → (hidT s₁.heap H).Ns b m := fun {b m} ⟨o, es, ep, e, d, r⟩ => ⟨o, es, ep, base_of e (noA e d), d, r⟩
  have nK : ∀ b o, K.lookup b = some o → H b = none := fun b o e => by
    cases q : H b with
    | none => rfl
    | some u =>
      rw [hK b u q] at e
      cases e
  have hKb : K.In (hidT s₁.heap H) := fun b o e => base_of (KX b o e) (nK b o e)
  have hM : Mod K mg (hidT s₁.heap H) := ⟨hKb, nsK hns, ⟨mb, nsK hb, hbb⟩, let ⟨mc, h1, h2⟩ := hlim; ⟨mc, nsK h1, h2⟩⟩
  have e0 : Env0 P w K mg (hidT s₁.heap H) callerA [] s₁ H := ⟨rfl, hM, fun b o e => of_hidT e, Nat.le_of_eq (hidT_size _ _), trivial, fun b hb => absurd (show b ∈ ([] : List Addr) from hb) (by simp), hok, .of_eq hg⟩
  have hl : vals.length = ps.length := by rw [wellAll_len hwl]; exact hlen
  refine codeAny_mono ((F _ hKb (nsK hns)).run callerA [] s₁ H ⟨vals, []⟩ vals (vals.map toV) _ _ hr e0 (hbind s₁ vals hl) hV (hsp H _ hO hS)) fun r s' x => ?_
  cases r with
  | error e => exact (hCX H e s' x).elim
  | ok fl =>
    cases fl with
    | next => exact False.elim x
    | brk => exact False.elim x
    | cont => exact False.elim x
    | ret u =>
      obtain ⟨v, H', os, bare, un, hok', r', q⟩ := x
      have kept : ∀ b o, s₁.heap.get? b = some o → s'.heap.get? b = some o := fun b o e => by
        cases q2 : H b with
        | none => exact un.keep b o e q2 (by intro z; exact absurd (show b ∈ ([] : List Addr) from z) (by simp)) (by simp)
        | some u2 =>
          rcases hO b with z | ⟨ob, u3, z⟩
          · rw [q2] at z
            cases z
          · have z2 := un.frzs b ob _ z
            obtain ⟨e1, _⟩ := hok b _ z
            obtain ⟨e2, _⟩ := hok' b _ z2
            rw [e] at e1
            cases e1
            exact e2
      have KX' : K.In s'.heap := fun b o e => kept b o (KX b o e)
      obtain ⟨as, hrd⟩ := Dw.reads (R := R) (cl := cl) hok' KX' d0 v u q r'
      exact ⟨u, as, rfl, hrd, OldK.of_keep kept, os, bare⟩
theorem layable_weight {ds : List WData} (h : WData.layableAll ds = true) : ∀ d ∈ ds, d.weight ≤ 1048576 := fun d hd =>
  (PySem.W.layableW_iff.mp (List.all_eq_true.mp h d hd)).2.2
theorem encAll_len : ∀ (cs : List Codec) (a : Codec.denoteAll cs), (Codec.encAll cs a).length = cs.length
  | [], _ => rfl
  | c :: cs, a => by
    show (Codec.encAll cs a.2).length + 1 = cs.length + 1
    rw [encAll_len cs a.2]
theorem walk_spec {r : OpenSpec} {k : Nat} {q : Program} {loose : List Str} {XP : (Str → Option Value) → Heap → Prop} {YP : World → Heap → Prop} {d : DefRec} {K : Params → PySem.W.Frag} {CX : World → CXT} {ps : List Str} {sp : World → Sp}
    (hwell : r.wellSaid = true) (hdf : d.params.defaults = []) (hlen : r.args.length = ps.length) (hr : Room k callerA)
    (hY : ∀ (w : World) (h : Heap), YP w h → (K w.params).In h)
    (F : ∀ (w : World) (mg : Str → Option Value) (fa : Addr) (h : Heap), YP w h → (K w.params).In h → h.Ns mainGlobals mg → mg d.name = some (.ref fa) →
      ∃ fd : FuncData, (∀ (s : Shared) (us : List Value), us.length = ps.length → BindsTo s fd ⟨us, []⟩ (ps.zip us)) ∧
        ∀ base : Heap, (K w.params).In base → base.Ns mainGlobals mg → FnOk r.prog w (K w.params) mg base (CX w) k fa fd ps (sp w))
    (hsp : ∀ (w : World) (H : Hp) (xs : List V) (a : Codec.denoteAll r.args), OnlyF H → Codec.withinAll r.args a = true → Codec.app r.args r.asked a = true → DwAll (K w.params) H xs (Codec.encAll r.args a) →
      sp w xs H (fun v H' => Dw (K w.params) H' v (r.ret.enc (Codec.app r.args r.f a))) fun _ _ _ => False)
    (hCX : ∀ (w : World) (H : Hp) (s : Shared) (e : Value) (s' : Shared), CX w [] H s (fun _ _ _ => False) e s' → False) :
    PySem.W.WalkOS q loose XP YP r d [] (fun f vs => PySem.call f vs) := by
  intro w s_0 s₁ mg mb G Y fa o pm cd doc dV kV ho hd hcd hD hmg hg args vals as hpre hlay hrd hwl hlo
  obtain ⟨a, e1, e2⟩ := PySem.W.os_pre_some hpre
  obtain ⟨e3, hwi⟩ := Codec.encAll_of_decAll r.args args a e1
  subst e3
  have KX := hY w _ Y
  obtain ⟨fd, hb, hF⟩ := F w mg fa _ Y KX G.T.g hmg
  refine PySem.W.enter_call (codeAny_mono (spec_call (R := []) (cl := classAt s_0.heap) (d0 := r.ret.enc (Codec.app r.args r.f a)) KX G.T.g G.T.b G.T.builtins G.T.nolimit hg hwl (pl_encAll _ _) (layable_weight hlay) hr hF hb (by rw [encAll_len]; exact hlen)
    (fun H xs hO hS => hsp w H xs a hO hwi e2 hS) fun H e s' => hCX w H s₁ e s') fun r' s' hq => ?_)
  obtain ⟨u, as', rfl, h1, h2, h3, h4⟩ := hq
  exact ⟨.inl ⟨u, _, as', rfl, fun _ => rfl, h1, (OpenSpec.post_iff hwell hwi _ _).mpr rfl, fun z => Bool.noConfusion (show false = true from z)⟩, h2, h3, h4⟩
theorem walk_specK {r : OpenSpec} {k : Nat} {q : Program} {loose : List Str} {XP : (Str → Option Value) → Heap → Prop} {YP : World → Heap → Prop} {d : DefRec} {K : Params → PySem.W.Frag} {CX : CXT} {ps : List Str} {sp : PySem.W.Frag → Sp}
    (hwell : r.wellSaid = true) (hdf : d.params.defaults = []) (hlen : r.args.length = ps.length) (hr : Room k callerA)
    (hY : ∀ (w : World) (h : Heap), YP w h → (K w.params).In h)
    (F : ∀ (w : World) (mg : Str → Option Value) (fa : Addr) (h : Heap), YP w h → (K w.params).In h → h.Ns mainGlobals mg → mg d.name = some (.ref fa) →
      ∃ fd : FuncData, (∀ (s : Shared) (us : List Value), us.length = ps.length → BindsTo s fd ⟨us, []⟩ (ps.zip us)) ∧
        ∀ base : Heap, (K w.params).In base → base.Ns mainGlobals mg → FnOk r.prog w (K w.params) mg base CX k fa fd ps (sp (K w.params)))
    (hsp : ∀ (K : PySem.W.Frag) (H : Hp) (xs : List V) (a : Codec.denoteAll r.args), OnlyF H → Codec.withinAll r.args a = true → Codec.app r.args r.asked a = true → DwAll K H xs (Codec.encAll r.args a) →
      sp K xs H (fun v H' => Dw K H' v (r.ret.enc (Codec.app r.args r.f a))) fun _ _ _ => False)
    (hCX : ∀ (H : Hp) (s : Shared) (e : Value) (s' : Shared), CX [] H s (fun _ _ _ => False) e s' → False) :
    PySem.W.WalkOS q loose XP YP r d [] (fun f vs => PySem.call f vs) :=
  walk_spec (K := K) (CX := fun _ => CX) (sp := fun w => sp (K w.params)) hwell hdf hlen hr hY F (fun w H xs a h1 h2 h3 h4 => hsp (K w.params) H xs a h1 h2 h3 h4) fun _ H s e s' => hCX H s e s'
end L2
-- rests on (row put in by the clerk, for the bench that shows a file only what it spells): KE.SpHead KE.OsShapes
end
set_option linter.all false
namespace Hull
open Loft
def DD (g : Nat → Int) : Nat → Int × Int
  | 0 => (1, 0)
  | k + 1 => (2 * (g k + g (k + 1)) * (DD g k).1 - g k * g k * (DD g k).2, (DD g k).1)
def Dt (g : Nat → Int) (k : Nat) : Int := (DD g k).1
def Dq (g : Nat → Int) (k : Nat) : Int := (DD g k).2
theorem Dt_zero (g : Nat → Int) : Dt g 0 = 1 := rfl
theorem Dq_zero (g : Nat → Int) : Dq g 0 = 0 := rfl
theorem Dt_succ (g : Nat → Int) (k : Nat) : Dt g (k + 1) = 2 * (g k + g (k + 1)) * Dt g k - g k * g k * Dq g k := rfl
theorem Dq_succ (g : Nat → Int) (k : Nat) : Dq g (k + 1) = Dt g k := rfl
def Rd (g t : Nat → Int) : Nat → Int
  | 0 => 0
  | k + 1 => Dt g k * t (k + 1) - g k * Rd g t k
def Bk (g t : Nat → Int) (N : Nat) : Nat → Int
  | 0 => 0
  | j + 1 => (Dt g N * Rd g t (N - j) - Dq g (N - j) * g (N - j) * Bk g t N j) / Dt g (N - j)
def Bn (g t : Nat → Int) (N i : Nat) : Int := Bk g t N (N + 1 - i)
theorem Dt_pos {g : Nat → Int} : ∀ {k : Nat}, (∀ j, j ≤ k → 0 < g j) → 0 < Dt g k ∧ 0 ≤ Dq g k ∧ g k * Dq g k ≤ Dt g k
  | 0, h => by simp [Dt_zero, Dq_zero]
  | k + 1, h => by
    obtain ⟨h1, h2, h3⟩ := Dt_pos (g := g) (k := k) fun j hj => h j (Nat.le_succ_of_le hj)
    have ga : 0 < g k := h k (Nat.le_succ k)
    have gb : 0 < g (k + 1) := h (k + 1) (Nat.le_refl _)
    have m1 : g k * (g k * Dq g k) ≤ g k * Dt g k := Int.mul_le_mul_of_nonneg_left h3 (Int.le_of_lt ga)
    have m2 : 0 < g (k + 1) * Dt g k := Int.mul_pos gb h1
    have m3 : 0 < g k * Dt g k := Int.mul_pos ga h1
    have e : Dt g (k + 1) = 2 * (g k * Dt g k) + 2 * (g (k + 1) * Dt g k) - g k * (g k * Dq g k) := by rw [Dt_succ]; grind
    rw [Dq_succ]
    refine ⟨?_, Int.le_of_lt h1, ?_⟩ <;> rw [e] <;> omega
theorem Bn_top (g t : Nat → Int) (N : Nat) : Bn g t N (N + 1) = 0 := by
  unfold Bn
  rw [Nat.sub_self]
  rfl
theorem Bn_step (g t : Nat → Int) {N i : Nat} (h : i ≤ N) : Bn g t N i = (Dt g N * Rd g t i - Dq g i * g i * Bn g t N (i + 1)) / Dt g i := by
  unfold Bn
  have e1 : N + 1 - i = (N - i) + 1 := by omega
  have e2 : N + 1 - (i + 1) = N - i := by omega
  have e3 : N - (N - i) = i := by omega
  rw [e1, e2]
  show (_ : Int) / _ = _
  rw [e3]
theorem Bn_main {g t : Nat → Int} {N : Nat} (hg : ∀ j, j ≤ N → 0 < g j) : ∀ {j : Nat}, j ≤ N →
    ∃ E E' S : Int, Dt g N = Dt g (N - j) * E - Dq g (N - j) * g (N - j) * g (N - j) * E' ∧ Bn g t N (N - j) = E * Rd g t (N - j) - Dq g (N - j) * g (N - j) * S ∧
      Dt g (N - j) * Bn g t N (N - j) = Dt g N * Rd g t (N - j) - Dq g (N - j) * g (N - j) * Bn g t N (N - j + 1)
  | 0, _ => by
    have p := (Dt_pos (g := g) (k := N) hg).1
    have e : Bn g t N N = Rd g t N := by
      rw [Bn_step g t (Nat.le_refl _), Bn_top, Int.mul_zero, Int.sub_zero]
      exact Int.mul_ediv_cancel_left _ (by omega)
    refine ⟨1, 0, 0, ?_, ?_, ?_⟩
    · simp
    · simp [e]
    · simp [e, Bn_top]
  | j + 1, hj => by
    obtain ⟨E, E', S, h1, h2, h3⟩ := Bn_main (t := t) hg (j := j) (by omega)
    obtain ⟨i, hi⟩ : ∃ i, i = N - (j + 1) := ⟨_, rfl⟩
    have ei : N - j = i + 1 := by omega
    rw [ei] at h1 h2 h3
    rw [← hi]
    have p := (Dt_pos (g := g) (k := i) fun q hq => hg q (by omega)).1
    rw [Dq_succ] at h1 h2 h3
    have r : Rd g t (i + 1) = Dt g i * t (i + 1) - g i * Rd g t i := rfl
    have key : Dt g i * ((2 * (g i + g (i + 1)) * E - g (i + 1) * g (i + 1) * E') * Rd g t i - Dq g i * g i * (E * t (i + 1) - g (i + 1) * S)) = Dt g N * Rd g t i - Dq g i * g i * Bn g t N (i + 1) := by
      rw [h1, h2, r, Dt_succ]
      grind
    have eb : Bn g t N i = (2 * (g i + g (i + 1)) * E - g (i + 1) * g (i + 1) * E') * Rd g t i - Dq g i * g i * (E * t (i + 1) - g (i + 1) * S) := by
      rw [Bn_step g t (by omega), ← key]
      exact Int.mul_ediv_cancel_left _ (by omega)
    refine ⟨_, E, _, ?_, eb, ?_⟩
    · rw [h1, Dt_succ]
      grind
    · rw [eb]
      exact key
theorem Bn_exact {g t : Nat → Int} {N i : Nat} (hg : ∀ j, j ≤ N → 0 < g j) (hi : i ≤ N) : Dt g i * Bn g t N i = Dt g N * Rd g t i - Dq g i * g i * Bn g t N (i + 1) := by
  obtain ⟨_, _, _, _, _, h⟩ := Bn_main (t := t) hg (j := N - i) (by omega)
  have e : N - (N - i) = i := by omega
  rw [e] at h
  exact h
theorem Bn_zero {g t : Nat → Int} {N : Nat} (hg : ∀ j, j ≤ N → 0 < g j) : Bn g t N 0 = 0 := by
  rw [Bn_step g t (Nat.zero_le _)]
  simp [Rd, Dq_zero]
end Hull
set_option linter.all false
namespace Hull
open Loft
theorem zdiv (a : Rat) : 0 / a = 0 := by rw [Rat.div_def, Rat.zero_mul]
theorem alg_be {a b M s z r u : Rat} (ha : a ≠ 0) (hb : b ≠ 0) (hM : M ≠ 0) (hs : s ≠ 0) : (3 * z - u * (3 * r / (M * s * a))) / (b / a) = 3 * (a * (M * s * z) - u * r) / (M * s * b) := by
  simp only [Rat.div_def, Rat.inv_mul_rev, Rat.inv_inv]
  have h1 := Rat.mul_inv_cancel a ha
  have h2 := Rat.mul_inv_cancel b hb
  have h3 := Rat.mul_inv_cancel M hM
  have h4 := Rat.mul_inv_cancel s hs
  generalize a⁻¹ = a' at *
  generalize b⁻¹ = b' at *
  generalize M⁻¹ = M' at *
  generalize s⁻¹ = s' at *
  grind
theorem alg_c {a b M s r u v w q : Rat} (ha : a ≠ 0) (hb : b ≠ 0) (hM : M ≠ 0) (hs : s ≠ 0) (e : a * v = b * r - q * u * w) : -u * q / a * (3 * w / (M * s * b)) + 3 * r / (M * s * a) = 3 * v / (M * s * b) := by
  simp only [Rat.div_def, Rat.inv_mul_rev]
  have h1 := Rat.mul_inv_cancel a ha
  have h2 := Rat.mul_inv_cancel b hb
  generalize a⁻¹ = a' at *
  generalize b⁻¹ = b' at *
  generalize M⁻¹ = M' at *
  generalize s⁻¹ = s' at *
  have e1 : v = a' * (b * r - q * u * w) := by rw [← e]; grind
  have e2 : r = b' * (b * r) := by grind
  grind
theorem ratne {z : Int} (h : z ≠ 0) : (z : Rat) ≠ 0 := fun e => h (by exact_mod_cast e)
section
variable {g t : Nat → Int} {X Y : Nat → Rat} {M s : Rat} {N : Nat}
def Al (g : Nat → Int) (i : Nat) : Rat := -(g i : Rat) * (Dq g i : Rat) / (Dt g i : Rat)
def Be (g t : Nat → Int) (M s : Rat) (i : Nat) : Rat := 3 * (Rd g t i : Rat) / (M * s * (Dt g i : Rat))
def Cc (g t : Nat → Int) (N : Nat) (M s : Rat) (i : Nat) : Rat := 3 * (Bn g t N i : Rat) / (M * s * (Dt g N : Rat))
structure Tied (g t : Nat → Int) (X Y : Nat → Rat) (M s : Rat) (N : Nat) : Prop where
  pos : ∀ j, j ≤ N → 0 < g j
  gap : ∀ k, k ≤ N → X (k + 1) - X k = (g k : Rat)
  M0 : M ≠ 0
  s0 : s ≠ 0
  turn : ∀ k, k + 1 ≤ N → (t (k + 1) : Rat) = M * s * ((Y (k + 2) - Y (k + 1)) / (g (k + 1) : Rat) - (Y (k + 1) - Y k) / (g k : Rat))
theorem Tied.dne (T : Tied g t X Y M s N) {k : Nat} (h : k ≤ N) : (Dt g k : Rat) ≠ 0 := ratne (by
  have := (Dt_pos (g := g) (k := k) fun j hj => T.pos j (by omega)).1
  omega)
theorem Al_zero : Al g 0 = 0 := by simp [Al, Dq_zero, zdiv]
theorem Be_zero : Be g t M s 0 = 0 := by simp [Be, Rd, zdiv]
theorem Cc_top : Cc g t N M s (N + 1) = 0 := by simp [Cc, Bn_top, zdiv]
theorem kk (T : Tied g t X Y M s N) {i : Nat} (h : i + 1 ≤ N) : 2 * ((g i : Rat) + g (i + 1)) + (g i : Rat) * Al g i = (Dt g (i + 1) : Rat) / Dt g i := by
  have d0 := T.dne (k := i) (by omega)
  have e : (Dt g (i + 1) : Rat) = 2 * ((g i : Rat) + g (i + 1)) * Dt g i - (g i : Rat) * g i * Dq g i := by rw [Dt_succ]; push_cast; rfl
  rw [e]
  unfold Al
  grind
theorem al_next (T : Tied g t X Y M s N) {i : Nat} (h : i + 1 ≤ N) : -(g (i + 1) : Rat) / ((Dt g (i + 1) : Rat) / Dt g i) = Al g (i + 1) := by
  have d0 := T.dne (k := i) (by omega)
  have d1 := T.dne (k := i + 1) (by omega)
  unfold Al
  rw [Dq_succ]
  grind
theorem be_next (T : Tied g t X Y M s N) {i : Nat} (h : i + 1 ≤ N) :
    (3 * ((Y (i + 2) - Y (i + 1)) / (g (i + 1) : Rat) - (Y (i + 1) - Y i) / (g i : Rat)) - (g i : Rat) * Be g t M s i) / ((Dt g (i + 1) : Rat) / Dt g i) = Be g t M s (i + 1) := by
  have d0 := T.dne (k := i) (by omega)
  have d1 := T.dne (k := i + 1) (by omega)
  have hm := T.M0
  have hs := T.s0
  have ht := T.turn i h
  have e : (Rd g t (i + 1) : Rat) = (Dt g i : Rat) * t (i + 1) - (g i : Rat) * Rd g t i := by
    show ((Dt g i * t (i + 1) - g i * Rd g t i : Int) : Rat) = _
    push_cast
    rfl
  unfold Be
  rw [e, ht]
  exact alg_be d0 d1 hm hs
theorem c_step (T : Tied g t X Y M s N) {i : Nat} (h : i ≤ N) : Al g i * Cc g t N M s (i + 1) + Be g t M s i = Cc g t N M s i := by
  have d0 := T.dne (k := i) h
  have d1 := T.dne (k := N) (Nat.le_refl _)
  have hm := T.M0
  have hs := T.s0
  have e : (Dt g i : Rat) * Bn g t N i = (Dt g N : Rat) * Rd g t i - (Dq g i : Rat) * g i * Bn g t N (i + 1) := by exact_mod_cast Bn_exact (t := t) T.pos h
  unfold Al Be Cc
  exact alg_c d0 d1 hm hs e
theorem halves_eq (T : Tied g t X Y M s N) : ∀ (m i : Nat), i + m = N → halves (Al g i) (Be g t M s i) ((List.range' i (m + 2)).map fun k => (X k, Y k)) = (List.range' i (m + 2)).map (Cc g t N M s)
  | 0, i, h => by
    have e : i = N := by omega
    subst e
    have c := c_step T (i := i) (Nat.le_refl _)
    rw [Cc_top, Rat.mul_zero, Rat.zero_add] at c
    show [Be g t M s i, 0] = [Cc g t i M s i, Cc g t i M s (i + 1)]
    rw [Cc_top, c]
  | m + 1, i, h => by
    have ih := halves_eq T m (i + 1) (by omega)
    have e1 : (List.range' i (m + 1 + 2)).map (fun k => (X k, Y k)) = (X i, Y i) :: (X (i + 1), Y (i + 1)) :: (X (i + 2), Y (i + 2)) :: (List.range' (i + 3) m).map fun k => (X k, Y k) := rfl
    have e2 : (List.range' (i + 1) (m + 2)).map (fun k => (X k, Y k)) = (X (i + 1), Y (i + 1)) :: (X (i + 2), Y (i + 2)) :: (List.range' (i + 3) m).map fun k => (X k, Y k) := rfl
    rw [e1]
    rw [e2] at ih
    have g0 := T.gap i (by omega)
    have g1 := T.gap (i + 1) (by omega)
    have g1 : X (i + 2) - X (i + 1) = (g (i + 1) : Rat) := g1
    show (Al g i * (halves _ _ _).headD 0 + Be g t M s i) :: halves _ _ _ = _
    rw [g0, g1, kk T (by omega), al_next T (by omega), be_next T (by omega), ih]
    show (Al g i * Cc g t N M s (i + 1) + Be g t M s i) :: (List.range' (i + 1) (m + 2)).map (Cc g t N M s) = Cc g t N M s i :: (List.range' (i + 1) (m + 2)).map (Cc g t N M s)
    rw [c_step T (by omega)]
def Pc (g : Nat → Int) (X Y C : Nat → Rat) (k : Nat) : Piece := ⟨X k, (g k : Rat), Y k, (Y (k + 1) - Y k) / (g k : Rat) - (g k : Rat) * (2 * C k + C (k + 1)) / 3, C k, (C (k + 1) - C k) / (3 * (g k : Rat))⟩
theorem pieces_eq {C : Nat → Rat} (hg : ∀ k, k ≤ N → X (k + 1) - X k = (g k : Rat)) : ∀ (m i : Nat), i + m ≤ N + 1 → pieces ((List.range' i (m + 1)).map fun k => (X k, Y k)) ((List.range' i (m + 1)).map C) = (List.range' i m).map (Pc g X Y C)
  | 0, i, _ => rfl
  | m + 1, i, h => by
    have ih := pieces_eq (C := C) hg m (i + 1) (by omega)
    show (⟨X i, X (i + 1) - X i, Y i, (Y (i + 1) - Y i) / (X (i + 1) - X i) - (X (i + 1) - X i) * (2 * C i + C (i + 1)) / 3, C i, (C (i + 1) - C i) / (3 * (X (i + 1) - X i))⟩ : Piece) :: pieces ((List.range' (i + 1) (m + 1)).map fun k => (X k, Y k)) ((List.range' (i + 1) (m + 1)).map C) = Pc g X Y C i :: (List.range' (i + 1) m).map (Pc g X Y C)
    rw [ih, hg i (by omega)]
    rfl
theorem batten_eq (T : Tied g t X Y M s N) : batten ((List.range (N + 2)).map fun k => (X k, Y k)) = (List.range (N + 1)).map (Pc g X Y (Cc g t N M s)) := by
  have h := halves_eq T N 0 (by omega)
  rw [Al_zero, Be_zero] at h
  unfold batten
  rw [List.range_eq_range', h]
  have q := pieces_eq (Y := Y) (C := Cc g t N M s) T.gap (N + 1) 0 (by omega)
  rw [List.range_eq_range']
  exact q
end
end Hull
set_option linter.all false
namespace Hull
def Sz (n : Nat) (z : Int) : Prop := z.natAbs < 2 ^ n
theorem Sz.mono {m n : Nat} {z : Int} (h : Sz m z) (hmn : m ≤ n) : Sz n z := Nat.lt_of_lt_of_le h (Nat.pow_le_pow_right (by decide) hmn)
theorem Sz.zero {n : Nat} : Sz n 0 := Nat.two_pow_pos n
theorem Sz.of {n : Nat} {z : Int} (h1 : -(2 ^ n) < z) (h2 : z < 2 ^ n) : Sz n z := by
  unfold Sz
  have e : ((2 ^ n : Nat) : Int) = 2 ^ n := by simp
  omega
theorem Sz.le {n : Nat} {a b : Int} (h : Sz n b) (h2 : a.natAbs ≤ b.natAbs) : Sz n a := Nat.lt_of_le_of_lt h2 h
theorem Sz.mul {m n : Nat} {a b : Int} (ha : Sz m a) (hb : Sz n b) : Sz (m + n) (a * b) := by
  unfold Sz at *
  rw [Int.natAbs_mul, Nat.pow_add]
  exact Nat.mul_lt_mul'' ha hb
theorem Sz.mul' {m n k : Nat} {a b : Int} (ha : Sz m a) (hb : Sz n b) (h : m + n ≤ k) : Sz k (a * b) := (ha.mul hb).mono h
theorem Sz.add {m : Nat} {a b : Int} (ha : Sz m a) (hb : Sz m b) : Sz (m + 1) (a + b) := by
  unfold Sz at *
  rw [Nat.pow_succ]
  omega
theorem Sz.sub {m : Nat} {a b : Int} (ha : Sz m a) (hb : Sz m b) : Sz (m + 1) (a - b) := by
  unfold Sz at *
  rw [Nat.pow_succ]
  omega
theorem Sz.add' {m n k : Nat} {a b : Int} (ha : Sz m a) (hb : Sz n b) (h1 : m + 1 ≤ k) (h2 : n + 1 ≤ k) : Sz k (a + b) := by
  obtain ⟨j, rfl⟩ : ∃ j, k = j + 1 := ⟨k - 1, by omega⟩
  exact (ha.mono (by omega)).add (hb.mono (by omega))
theorem Sz.sub' {m n k : Nat} {a b : Int} (ha : Sz m a) (hb : Sz n b) (h1 : m + 1 ≤ k) (h2 : n + 1 ≤ k) : Sz k (a - b) := by
  obtain ⟨j, rfl⟩ : ∃ j, k = j + 1 := ⟨k - 1, by omega⟩
  exact (ha.mono (by omega)).sub (hb.mono (by omega))
theorem Sz.div {m : Nat} {a b : Int} (ha : Sz m a) : Sz m (a / b) := ha.le (Int.natAbs_ediv_le_natAbs a b)
theorem Sz.one : Sz 1 1 := by unfold Sz; decide
theorem Sz.two : Sz 2 2 := by unfold Sz; decide
theorem Sz.three : Sz 2 3 := by unfold Sz; decide
theorem Sz.parts : Sz 12 2520 := by unfold Sz; decide
theorem Sz.log {n : Nat} {z : Int} (h : Sz n z) (h0 : z ≠ 0) : z.natAbs.log2 < n := (Nat.log2_lt (by omega)).mpr h
end Hull
set_option linter.all false
namespace Hull
open Loft
def Lm (g : Nat → Int) : Nat → Int
  | 0 => 1
  | k + 1 => Lm g k / ((Int.gcd (Lm g k) (g k) : Nat) : Int) * g k
theorem gcd_pos {a b : Int} (h : 0 < b) : (0 : Int) < ((Int.gcd a b : Nat) : Int) := by
  have : 0 < Int.gcd a b := Int.gcd_pos_of_ne_zero_right a (by omega)
  omega
theorem Lm_pos {g : Nat → Int} : ∀ {k : Nat}, (∀ j, j < k → 0 < g j) → 0 < Lm g k
  | 0, _ => Int.one_pos
  | k + 1, h => by
    have ih := Lm_pos (g := g) (k := k) fun j hj => h j (by omega)
    have hg := h k (by omega)
    have hp := gcd_pos (a := Lm g k) hg
    have hd : ((Int.gcd (Lm g k) (g k) : Nat) : Int) ∣ Lm g k := Int.gcd_dvd_left ..
    exact Int.mul_pos (Int.ediv_pos_of_pos_of_dvd ih (by omega) hd) hg
theorem Lm_step_dvd {g : Nat → Int} (k : Nat) : Lm g k ∣ Lm g (k + 1) := by
  obtain ⟨q, hq⟩ : ((Int.gcd (Lm g k) (g k) : Nat) : Int) ∣ g k := Int.gcd_dvd_right ..
  refine ⟨q, ?_⟩
  have hd : ((Int.gcd (Lm g k) (g k) : Nat) : Int) ∣ Lm g k := Int.gcd_dvd_left ..
  show Lm g k / ((Int.gcd (Lm g k) (g k) : Nat) : Int) * g k = Lm g k * q
  generalize ((Int.gcd (Lm g k) (g k) : Nat) : Int) = d at *
  rw [hq, ← Int.mul_assoc, Int.ediv_mul_cancel hd]
theorem Lm_dvd {g : Nat → Int} : ∀ {k j : Nat}, j < k → g j ∣ Lm g k
  | 0, j, h => by omega
  | k + 1, j, h => by
    by_cases e : j = k
    · subst e
      exact Int.dvd_mul_left ..
    · exact Int.dvd_trans (Lm_dvd (k := k) (by omega)) (Lm_step_dvd k)
theorem Lm_sz {g : Nat → Int} : ∀ {k : Nat}, (∀ j, j < k → Sz 21 (g j)) → Sz (21 * k + 1) (Lm g k)
  | 0, _ => Sz.one
  | k + 1, h => (Sz.div (Lm_sz (k := k) fun j hj => h j (by omega))).mul' (h k (by omega)) (by omega)
theorem Dt_sz {g : Nat → Int} : ∀ {k : Nat}, (∀ j, j ≤ k → Sz 21 (g j)) → Sz (25 * k + 1) (Dt g k) ∧ Sz (25 * k - 24) (Dq g k)
  | 0, _ => ⟨Sz.one, Sz.zero⟩
  | 1, h => by
    have a := h 0 (by omega)
    have b := h 1 (by omega)
    have e : Dt g 1 = 2 * (g 0 + g 1) := by rw [Dt_succ, Dt_zero, Dq_zero, Int.mul_one, Int.mul_zero, Int.sub_zero]
    rw [e]
    exact ⟨Sz.two.mul' (a.add b) (by omega), Sz.one⟩
  | k + 2, h => by
    obtain ⟨h1, h2⟩ := Dt_sz (g := g) (k := k + 1) fun j hj => h j (by omega)
    have a := h (k + 1) (by omega)
    have b := h (k + 2) (by omega)
    rw [Dt_succ, Dq_succ]
    exact ⟨((Sz.two.mul (a.add b)).mul h1).sub' ((a.mul a).mul (h2)) (by omega) (by omega), h1.mono (by omega)⟩
theorem Dq_sz {g : Nat → Int} {k : Nat} (h : ∀ j, j ≤ k → Sz 21 (g j)) : Sz (25 * k - 24) (Dq g k) := (Dt_sz h).2
def Sl (g y : Nat → Int) (M : Int) (k : Nat) : Int := (y (k + 1) - y k) * (M / g k)
def Tn (g y : Nat → Int) (M : Int) : Nat → Int
  | 0 => 0
  | k + 1 => Sl g y M (k + 1) - Sl g y M k
section
variable {g y : Nat → Int} {n Y : Nat} {M : Int}
theorem Sl_sz {m : Nat} (hy : ∀ j, j ≤ n → Sz Y (y j)) (hM : Sz m M) {k : Nat} (h : k < n) : Sz (Y + 1 + m) (Sl g y M k) := ((hy (k + 1) (by omega)).sub (hy k (by omega))).mul (Sz.div hM)
theorem Tn_sz {m : Nat} (hy : ∀ j, j ≤ n → Sz Y (y j)) (hM : Sz m M) : ∀ {k : Nat}, k < n → Sz (Y + 2 + m) (Tn g y M k)
  | 0, _ => Sz.zero
  | k + 1, h => (Sl_sz hy hM h).sub' (Sl_sz hy hM (by omega)) (by omega) (by omega)
theorem Rd_sz {t : Nat → Int} {N B : Nat} (hg : ∀ j, j ≤ N → Sz 21 (g j)) (ht : ∀ j, j ≤ N → Sz B (t j)) : ∀ {k : Nat}, k ≤ N → Sz (B + 25 * k) (Rd g t k)
  | 0, _ => Sz.zero
  | k + 1, h => by
    have ih := Rd_sz hg ht (k := k) (by omega)
    have a := hg k (by omega)
    have d := (Dt_sz (g := g) (k := k) fun j hj => hg j (by omega)).1
    exact (d.mul (ht (k + 1) h)).sub' (a.mul ih) (by omega) (by omega)
theorem Bn_sz {t : Nat → Int} {N B : Nat} (hp : ∀ j, j ≤ N → 0 < g j) (hg : ∀ j, j ≤ N → Sz 21 (g j)) (ht : ∀ j, j ≤ N → Sz B (t j)) {i : Nat} (hi : i ≤ N + 1) : Sz (B + 25 * N + 3) (Bn g t N i) := by
  by_cases e : i = N + 1
  · subst e
    rw [Bn_top]
    exact Sz.zero
  have key : ∀ {j : Nat}, j ≤ N → ∃ E E' S : Int, Dt g N = Dt g (N - j) * E - Dq g (N - j) * g (N - j) * g (N - j) * E' ∧ Bn g t N (N - j) = E * Rd g t (N - j) - Dq g (N - j) * g (N - j) * S ∧
      Sz (25 * j + 1) E ∧ (j = 0 ∧ E' = 0 ∨ 0 < j ∧ Sz (25 * j - 24) E') ∧ Sz (B + 25 * j) S := by
    intro j
    induction j with
    | zero =>
      intro _
      have p := (Dt_pos (g := g) (k := N) hp).1
      have e : Bn g t N N = Rd g t N := by
        rw [Bn_step g t (Nat.le_refl _), Bn_top, Int.mul_zero, Int.sub_zero]
        exact Int.mul_ediv_cancel_left _ (by omega)
      exact ⟨1, 0, 0, by simp, by simp [e], Sz.one, .inl ⟨rfl, rfl⟩, Sz.zero⟩
    | succ j ih =>
      intro hj
      obtain ⟨E, E', S, h1, h2, z1, z2, z3⟩ := ih (by omega)
      obtain ⟨i, hi⟩ : ∃ i, i = N - (j + 1) := ⟨_, rfl⟩
      have ei : N - j = i + 1 := by omega
      rw [ei] at h1 h2
      rw [← hi]
      have p := (Dt_pos (g := g) (k := i) fun q hq => hp q (by omega)).1
      rw [Dq_succ] at h1 h2
      have r : Rd g t (i + 1) = Dt g i * t (i + 1) - g i * Rd g t i := rfl
      have key : Dt g i * ((2 * (g i + g (i + 1)) * E - g (i + 1) * g (i + 1) * E') * Rd g t i - Dq g i * g i * (E * t (i + 1) - g (i + 1) * S)) = Dt g N * Rd g t i - Dq g i * g i * Bn g t N (i + 1) := by
        rw [h1, h2, r, Dt_succ]
        grind
      have eb : Bn g t N i = (2 * (g i + g (i + 1)) * E - g (i + 1) * g (i + 1) * E') * Rd g t i - Dq g i * g i * (E * t (i + 1) - g (i + 1) * S) := by
        rw [Bn_step g t (by omega), ← key]
        exact Int.mul_ediv_cancel_left _ (by omega)
      have a := hg i (by omega)
      have b := hg (i + 1) (by omega)
      refine ⟨_, E, _, ?_, eb, ?_, .inr ⟨by omega, z1.mono (by omega)⟩, ?_⟩
      · rw [h1, Dt_succ]
        grind
      · rcases z2 with ⟨j0, e0⟩ | ⟨j0, z2⟩
        · rw [e0, Int.mul_zero, Int.sub_zero]
          exact (Sz.two.mul (a.add b)).mul' z1 (by omega)
        · exact ((Sz.two.mul (a.add b)).mul z1).sub' ((b.mul b).mul z2) (by omega) (by omega)
      · exact (z1.mul (ht (i + 1) (by omega))).sub' (b.mul z3) (by omega) (by omega)
  obtain ⟨E, E', S, _, h2, z1, _, z3⟩ := key (j := N - i) (by omega)
  have ei : N - (N - i) = i := by omega
  rw [ei] at h2
  rw [h2]
  have q := Dq_sz (g := g) (k := i) fun j hj => hg j (by omega)
  have r := Rd_sz hg ht (k := i) (by omega)
  have a := hg i (by omega)
  by_cases i0 : i = 0
  · subst i0
    have e0 : Dq g 0 = 0 := rfl
    have r0 : Rd g t 0 = 0 := rfl
    rw [e0, r0]
    simp
    exact Sz.zero
  · exact (z1.mul r).sub' ((q.mul a).mul z3) (by omega) (by omega)
end
def gp (x : Nat → Int) (k : Nat) : Int := x (k + 1) - x k
def Sc (g : Nat → Int) (n : Nat) : Int := Dt g (n - 1) * Lm g n * Lm g n
def Bd (g y : Nat → Int) (n i : Nat) : Int := Bn g (Tn g y (Lm g n)) (n - 1) i
def Cf (g y : Nat → Int) (n k : Nat) : Nat → Int
  | 0 => y k * Sc g n
  | 1 => (y (k + 1) - y k) * (Sc g n / g k) - g k * Lm g n * (2 * Bd g y n k + Bd g y n (k + 1))
  | 2 => 3 * Lm g n * Bd g y n k
  | 3 => (Bd g y n (k + 1) - Bd g y n k) * (Lm g n / g k)
  | _ => 0
structure Gaps (g : Nat → Int) (n : Nat) : Prop where
  n0 : 0 < n
  n23 : n ≤ 23
  pos : ∀ j, j < n → 0 < g j
  sz : ∀ j, j < n → Sz 21 (g j)
section
variable {g y : Nat → Int} {n Y : Nat}
theorem Gaps.lm (G : Gaps g n) : Sz 484 (Lm g n) := (Lm_sz G.sz).mono (by have := G.n23; omega)
theorem Gaps.lm0 (G : Gaps g n) : 0 < Lm g n := Lm_pos G.pos
theorem Gaps.dt (G : Gaps g n) {k : Nat} (h : k < n) : Sz 551 (Dt g k) := ((Dt_sz (g := g) (k := k) fun j hj => G.sz j (by omega)).1).mono (by have := G.n23; omega)
theorem Gaps.dt0 (G : Gaps g n) {k : Nat} (h : k < n) : 0 < Dt g k := (Dt_pos (g := g) (k := k) fun j hj => G.pos j (by omega)).1
theorem Gaps.sc (G : Gaps g n) : Sz 1519 (Sc g n) := (((G.dt (k := n - 1) (by have := G.n0; omega)).mul G.lm).mul' G.lm (by omega))
theorem Gaps.sc0 (G : Gaps g n) : 0 < Sc g n := Int.mul_pos (Int.mul_pos (G.dt0 (by have := G.n0; omega)) G.lm0) G.lm0
theorem Gaps.tn (G : Gaps g n) (hy : ∀ j, j ≤ n → Sz Y (y j)) {k : Nat} (h : k < n) : Sz (Y + 486) (Tn g y (Lm g n) k) := Tn_sz hy G.lm h
theorem Gaps.rd (G : Gaps g n) (hy : ∀ j, j ≤ n → Sz Y (y j)) {k : Nat} (h : k < n) : Sz (Y + 1036) (Rd g (Tn g y (Lm g n)) k) :=
  (Rd_sz (N := n - 1) (B := Y + 486) (fun j hj => G.sz j (by have := G.n0; omega)) (fun j hj => G.tn hy (by have := G.n0; omega)) (by omega)).mono (by have := G.n23; omega)
theorem Gaps.bd (G : Gaps g n) (hy : ∀ j, j ≤ n → Sz Y (y j)) {k : Nat} (h : k ≤ n) : Sz (Y + 1039) (Bd g y n k) :=
  (Bn_sz (N := n - 1) (B := Y + 486) (fun j hj => G.pos j (by have := G.n0; omega)) (fun j hj => G.sz j (by have := G.n0; omega)) (fun j hj => G.tn hy (by have := G.n0; omega)) (by have := G.n0; omega)).mono (by have := G.n23; omega)
theorem Gaps.cf (G : Gaps g n) (hy : ∀ j, j ≤ n → Sz Y (y j)) {k : Nat} (h : k < n) : ∀ (j : Nat), Sz (Y + 1549) (Cf g y n k j)
  | 0 => (hy k (by omega)).mul' G.sc (by omega)
  | 1 => (((hy (k + 1) h).sub (hy k (by omega))).mul (Sz.div G.sc)).sub' (((G.sz k h).mul G.lm).mul ((Sz.two.mul (G.bd hy (k := k) (by omega))).add ((G.bd hy (k := k + 1) h).mono (by omega)))) (by omega) (by omega)
  | 2 => (Sz.three.mul G.lm).mul' (G.bd hy (by omega)) (by omega)
  | 3 => ((G.bd hy (k := k + 1) h).sub (G.bd hy (k := k) (by omega))).mul' (Sz.div G.lm) (by omega)
  | _ + 4 => Sz.zero
end
end Hull
set_option linter.all false
namespace Hull
open Loft
def Pw (r : Int) : Nat → Int
  | 0 => r
  | k + 1 => Pw r k * r
def Pi (q : Nat → Int) (r : Int) : Nat → Int
  | 0 => 0
  | k + 1 => Pi q r k + q k * Pw r k * (2520 / ((k : Int) + 1))
theorem Pw_sz {r : Int} {R : Nat} (h : Sz R r) : ∀ k, Sz (R * (k + 1)) (Pw r k)
  | 0 => h.mono (by omega)
  | k + 1 => (Pw_sz h k).mul' h (by rw [Nat.mul_add R (k + 1) 1]; omega)
theorem Pi_sz {q : Nat → Int} {r : Int} {A m : Nat} (hq : ∀ k, k < m → Sz A (q k)) (hr : Sz 22 r) (hm : m ≤ 5) : ∀ k, k ≤ m → Sz (A + 122 + k) (Pi q r k)
  | 0, _ => Sz.zero
  | k + 1, h => by
    refine (Pi_sz hq hr hm k (by omega)).add' (((hq k (by omega)).mul (Pw_sz hr k)).mul (Sz.div Sz.parts)) (by omega) ?_
    have : 22 * (k + 1) ≤ 110 := by omega
    omega
def Sw (q : Nat → Nat → Int) (m : Nat) (a : Nat → Int) (x : Int) : Nat → Int
  | 0 => 0
  | k + 1 => Sw q m a x k + if a k < x then Pi (q k) ((if a (k + 1) < x then a (k + 1) else x) - a k) m else 0
theorem Sw_sz {q : Nat → Nat → Int} {a : Nat → Int} {x : Int} {A m n : Nat} (hq : ∀ k j, k < n → j < m → Sz A (q k j)) (hm : m ≤ 5) (hr : ∀ k, k < n → a k < x → Sz 22 ((if a (k + 1) < x then a (k + 1) else x) - a k)) : ∀ k, k ≤ n → Sz (A + 128 + k) (Sw q m a x k)
  | 0, _ => Sz.zero
  | k + 1, h => by
    refine (Sw_sz hq hm hr k (by omega)).add' (m := A + 128 + k) (n := A + 127) ?_ (by omega) (by omega)
    split
    · rename_i hx
      exact (Pi_sz (hq k · (by omega)) (hr k (by omega) hx) hm m (Nat.le_refl _)).mono (by omega)
    · exact Sz.zero
def Lv (q : Nat → Int) (m : Nat) (z : Int) : Nat → Int
  | 0 => z * q 0
  | k + 1 => if k + 1 < m then z * q (k + 1) + q k else q k
theorem Lv_sz {q : Nat → Int} {m A : Nat} {z : Int} (hm : 0 < m) (hq : ∀ k, k < m → Sz A (q k)) (hz : Sz 21 z) : ∀ k, k < m + 1 → Sz (A + 22) (Lv q m z k)
  | 0, _ => hz.mul' (hq 0 hm) (by omega)
  | k + 1, h => by
    show Sz _ (if k + 1 < m then _ else _)
    split
    · exact (hz.mul (hq (k + 1) (by omega))).add' (hq k (by omega)) (by omega) (by omega)
    · exact (hq k (by omega)).mono (by omega)
def Hr (q : Nat → Int) (m : Nat) (t : Int) : Nat → Int
  | 0 => 0
  | j + 1 => Hr q m t j * t + q (m - 1 - j)
theorem Hr_sz {q : Nat → Int} {m A : Nat} {t : Int} (hq : ∀ k, k < m → Sz A (q k)) (ht : Sz 22 t) : ∀ j, j ≤ m → Sz (A + 23 * j) (Hr q m t j)
  | 0, _ => Sz.zero
  | j + 1, h => ((Hr_sz hq ht j (by omega)).mul ht).add' (hq (m - 1 - j) (by omega)) (by omega) (by omega)
end Hull
set_option linter.all false
namespace Hull
open Loft
theorem cast_div {a b : Int} (h : b ∣ a) (hb : b ≠ 0) : ((a / b : Int) : Rat) = (a : Rat) / (b : Rat) := by
  obtain ⟨c, rfl⟩ := h
  have e : b * c / b = c := Int.mul_ediv_cancel_left c hb
  have hb' : (b : Rat) ≠ 0 := ratne hb
  rw [e]
  push_cast
  grind
theorem number_eq {a b : Int} (hb : 0 < b) : LoftFloatSeed.number ((a : Rat) / (b : Rat)) = [a / ((Int.gcd a b : Nat) : Int), b / ((Int.gcd a b : Nat) : Int)] := by
  obtain ⟨n, rfl⟩ := Int.eq_ofNat_of_zero_le (Int.le_of_lt hb)
  have hn : n ≠ 0 := by omega
  have e : ((a : Rat) / ((n : Int) : Rat)) = mkRat a n := by
    rw [Rat.mkRat_eq_div]
    rfl
  unfold LoftFloatSeed.number
  have eg : n.gcd a.natAbs = Int.gcd a (n : Int) := by
    show _ = Nat.gcd a.natAbs n
    exact Nat.gcd_comm ..
  rw [e, Rat.num_mkRat, Rat.den_mkRat, if_neg hn, if_neg hn, eg]
  simp
section
variable {x y : Nat → Int} {n : Nat} {s : Rat}
theorem tied (G : Gaps (gp x) n) (hs : s ≠ 0) : Tied (gp x) (Tn (gp x) y (Lm (gp x) n)) (fun k => (x k : Rat)) (fun k => (y k : Rat) / s) ((Lm (gp x) n : Int) : Rat) s (n - 1) where
  pos := fun j hj => G.pos j (by have := G.n0; omega)
  gap := fun k hk => by
    show (x (k + 1) : Rat) - (x k : Rat) = ((x (k + 1) - x k : Int) : Rat)
    push_cast
    rfl
  M0 := ratne (by have := G.lm0; omega)
  s0 := hs
  turn := fun k hk => by
    have n0 := G.n0
    have g1 := G.pos (k + 1) (by omega)
    have g0 := G.pos k (by omega)
    have d1 : gp x (k + 1) ∣ Lm (gp x) n := Lm_dvd (by omega)
    have d0 : gp x k ∣ Lm (gp x) n := Lm_dvd (by omega)
    show ((Sl (gp x) y (Lm (gp x) n) (k + 1) - Sl (gp x) y (Lm (gp x) n) k : Int) : Rat) = _
    unfold Sl
    push_cast
    rw [cast_div d1 (by omega), cast_div d0 (by omega)]
    have h1 := ratne (show gp x (k + 1) ≠ 0 by omega)
    have h0 := ratne (show gp x k ≠ 0 by omega)
    generalize ((gp x (k + 1) : Int) : Rat) = u at *
    generalize ((gp x k : Int) : Rat) = v at *
    generalize ((Lm (gp x) n : Int) : Rat) = M
    generalize ((y (k + 1) : Int) : Rat) = y1
    generalize ((y (k + 1 + 1) : Int) : Rat) = y2
    generalize ((y k : Int) : Rat) = y0
    simp only [Rat.div_def]
    have hs1 := Rat.mul_inv_cancel s hs
    generalize s⁻¹ = s' at *
    generalize u⁻¹ = u'
    generalize v⁻¹ = v'
    grind
def Qc (x y : Nat → Int) (n : Nat) (s : Rat) (k : Nat) : Piece :=
  ⟨(x k : Rat), ((gp x k : Int) : Rat), (Cf (gp x) y n k 0 : Rat) / ((Sc (gp x) n : Rat) * s), (Cf (gp x) y n k 1 : Rat) / ((Sc (gp x) n : Rat) * s), (Cf (gp x) y n k 2 : Rat) / ((Sc (gp x) n : Rat) * s), (Cf (gp x) y n k 3 : Rat) / ((Sc (gp x) n : Rat) * s)⟩
theorem Pc_eq (G : Gaps (gp x) n) (hs : s ≠ 0) {k : Nat} (hk : k < n) : Pc (gp x) (fun k => (x k : Rat)) (fun k => (y k : Rat) / s) (Cc (gp x) (Tn (gp x) y (Lm (gp x) n)) (n - 1) ((Lm (gp x) n : Int) : Rat) s) k = Qc x y n s k := by
  have n0 := G.n0
  have g0 := G.pos k hk
  have d0 : gp x k ∣ Lm (gp x) n := Lm_dvd hk
  have d1 : gp x k ∣ Sc (gp x) n := Int.dvd_trans d0 (Int.dvd_mul_left ..)
  have hM := ratne (show Lm (gp x) n ≠ 0 by have := G.lm0; omega)
  have hD := ratne (show Dt (gp x) (n - 1) ≠ 0 by have := G.dt0 (k := n - 1) (by omega); omega)
  have hg := ratne (show gp x k ≠ 0 by omega)
  have eS : ((Sc (gp x) n : Int) : Rat) = (Dt (gp x) (n - 1) : Rat) * (Lm (gp x) n : Rat) * (Lm (gp x) n : Rat) := by unfold Sc; push_cast; rfl
  have eb : ∀ i, Bn (gp x) (Tn (gp x) y (Lm (gp x) n)) (n - 1) i = Bd (gp x) y n i := fun i => rfl
  unfold Pc Qc Cc
  simp only [eb]
  have f0 : ((Cf (gp x) y n k 0 : Int) : Rat) = (y k : Rat) * (Sc (gp x) n : Rat) := by show ((y k * Sc (gp x) n : Int) : Rat) = _; push_cast; rfl
  have f1 : ((Cf (gp x) y n k 1 : Int) : Rat) = ((y (k + 1) : Rat) - (y k : Rat)) * ((Sc (gp x) n : Rat) / (gp x k : Rat)) - (gp x k : Rat) * (Lm (gp x) n : Rat) * (2 * (Bd (gp x) y n k : Rat) + (Bd (gp x) y n (k + 1) : Rat)) := by
    show (((y (k + 1) - y k) * (Sc (gp x) n / gp x k) - gp x k * Lm (gp x) n * (2 * Bd (gp x) y n k + Bd (gp x) y n (k + 1)) : Int) : Rat) = _
    rw [← cast_div d1 (by omega)]
    push_cast
    rfl
  have f2 : ((Cf (gp x) y n k 2 : Int) : Rat) = 3 * (Lm (gp x) n : Rat) * (Bd (gp x) y n k : Rat) := by show ((3 * Lm (gp x) n * Bd (gp x) y n k : Int) : Rat) = _; push_cast; rfl
  have f3 : ((Cf (gp x) y n k 3 : Int) : Rat) = ((Bd (gp x) y n (k + 1) : Rat) - (Bd (gp x) y n k : Rat)) * ((Lm (gp x) n : Rat) / (gp x k : Rat)) := by
    show (((Bd (gp x) y n (k + 1) - Bd (gp x) y n k) * (Lm (gp x) n / gp x k) : Int) : Rat) = _
    rw [← cast_div d0 (by omega)]
    push_cast
    rfl
  rw [f0, f1, f2, f3, eS]
  generalize ((gp x k : Int) : Rat) = g at *
  generalize ((Lm (gp x) n : Int) : Rat) = M at *
  generalize ((Dt (gp x) (n - 1) : Int) : Rat) = D at *
  generalize ((Bd (gp x) y n k : Int) : Rat) = b0 at *
  generalize ((Bd (gp x) y n (k + 1) : Int) : Rat) = b1 at *
  generalize ((y k : Int) : Rat) = y0 at *
  generalize ((y (k + 1) : Int) : Rat) = y1 at *
  simp only [Rat.div_def, Rat.inv_mul_rev]
  have hs1 := Rat.mul_inv_cancel s hs
  have hg1 := Rat.mul_inv_cancel g hg
  have hM1 := Rat.mul_inv_cancel M hM
  have hD1 := Rat.mul_inv_cancel D hD
  generalize s⁻¹ = s' at *
  generalize g⁻¹ = g' at *
  generalize M⁻¹ = M' at *
  generalize D⁻¹ = D' at *
  clear f0 f1 f2 f3 eS eb
  have h3 : (3 : Rat) * 3⁻¹ = 1 := by decide +kernel
  generalize (3 : Rat)⁻¹ = t' at *
  congr 1 <;> grind
theorem batten_is (G : Gaps (gp x) n) (hs : s ≠ 0) : batten ((List.range (n + 1)).map fun k => ((x k : Rat), (y k : Rat) / s)) = (List.range n).map (Qc x y n s) := by
  have n0 := G.n0
  have h := batten_eq (tied (y := y) G hs)
  have e1 : n - 1 + 2 = n + 1 := by omega
  have e2 : n - 1 + 1 = n := by omega
  rw [e1, e2] at h
  rw [h]
  exact List.map_congr_left fun k hk => Pc_eq G hs (List.mem_range.mp hk)
end
end Hull
set_option linter.all false
namespace Hull
open Loft
theorem mulne {a b : Rat} (ha : a ≠ 0) (hb : b ≠ 0) : a * b ≠ 0 := by grind
theorem sumQ_snoc (l : List Rat) (a : Rat) : sumQ (l ++ [a]) = sumQ l + a := by
  unfold sumQ
  induction l with
  | nil => simp [Rat.add_zero, Rat.zero_add]
  | cons b l ih =>
    rw [List.cons_append, List.foldr_cons, ih, List.foldr_cons, Rat.add_assoc]
theorem integral_snoc (p : Poly) (a t : Rat) : integral (p ++ [a]) t = integral p t + a * t ^ (p.length + 1) / ((p.length + 1 : Nat) : Rat) := by
  unfold integral
  rw [List.zipIdx_append, List.map_append]
  show sumQ (_ ++ [_]) = _
  rw [sumQ_snoc]
  simp
theorem Pw_cast (r : Int) : ∀ k : Nat, ((Pw r k : Int) : Rat) = (r : Rat) ^ (k + 1)
  | 0 => by rw [Rat.pow_succ, Rat.pow_zero, Rat.one_mul]; rfl
  | k + 1 => by
    show ((Pw r k * r : Int) : Rat) = _
    rw [Rat.intCast_mul, Pw_cast r k, Rat.pow_succ (r : Rat) (k + 1)]
theorem parts_dvd {m : Nat} (h : m < 10) : ((m : Int) + 1) ∣ 2520 := by
  have : m = 0 ∨ m = 1 ∨ m = 2 ∨ m = 3 ∨ m = 4 ∨ m = 5 ∨ m = 6 ∨ m = 7 ∨ m = 8 ∨ m = 9 := by omega
  rcases this with rfl | rfl | rfl | rfl | rfl | rfl | rfl | rfl | rfl | rfl <;> decide
theorem integral_is {q : Nat → Int} {r : Int} {den : Rat} (hd : den ≠ 0) : ∀ (m : Nat), m ≤ 10 → integral ((List.range m).map fun j => (q j : Rat) / den) (r : Rat) = (Pi q r m : Rat) / (2520 * den)
  | 0, _ => by
    show (0 : Rat) = ((0 : Int) : Rat) / _
    rw [Rat.intCast_zero, zdiv]
  | m + 1, h => by
    rw [List.range_succ, List.map_append]
    show integral (_ ++ [_]) _ = _
    rw [integral_snoc, integral_is hd m (by omega)]
    show _ = ((Pi q r m + q m * Pw r m * (2520 / ((m : Int) + 1)) : Int) : Rat) / _
    have e : (((2520 : Int) / ((m : Int) + 1) : Int) : Rat) = 2520 / ((m : Rat) + 1) := by
      rw [cast_div (parts_dvd (by omega)) (by omega)]
      push_cast
      rfl
    have hm : ((m : Rat) + 1) ≠ 0 := by
      have := ratne (show ((m : Int) + 1) ≠ 0 by omega)
      push_cast at this
      exact this
    rw [Rat.intCast_add, Rat.intCast_mul, Rat.intCast_mul, Pw_cast, e, List.length_map, List.length_range]
    have e2 : ((m + 1 : Nat) : Rat) = (m : Rat) + 1 := by push_cast; rfl
    rw [e2]
    generalize (r : Rat) ^ (m + 1) = t
    generalize (m : Rat) + 1 = u at *
    simp only [Rat.div_def, Rat.inv_mul_rev]
    have h2520 : (2520 : Rat) * 2520⁻¹ = 1 := by decide +kernel
    generalize (2520 : Rat)⁻¹ = v at *
    generalize den⁻¹ = w
    generalize u⁻¹ = u'
    grind
section
variable {x y : Nat → Int} {n : Nat} {s : Rat}
theorem poly_is (k : Nat) : (Qc x y n s k).poly = (List.range 4).map fun j => (Cf (gp x) y n k j : Rat) / ((Sc (gp x) n : Rat) * s) := rfl
theorem placed_is (k : Nat) : (Qc x y n s k).placed = (List.range 5).map fun j => (Lv (Cf (gp x) y n k) 4 (x k) j : Rat) / ((Sc (gp x) n : Rat) * s) := by
  have c0 : ∀ (a b c d z : Rat), mulP [z, 1] [a, b, c, d] = [z * a + 0, z * b + (1 * a + 0), z * c + 1 * b, z * d + 1 * c, 1 * d] := fun a b c d z => rfl
  unfold Piece.placed
  show mulP [(x k : Rat), 1] [_, _, _, _] = _
  rw [c0]
  show _ = [((x k * Cf (gp x) y n k 0 : Int) : Rat) / _, ((x k * Cf (gp x) y n k 1 + Cf (gp x) y n k 0 : Int) : Rat) / _, ((x k * Cf (gp x) y n k 2 + Cf (gp x) y n k 1 : Int) : Rat) / _, ((x k * Cf (gp x) y n k 3 + Cf (gp x) y n k 2 : Int) : Rat) / _, ((Cf (gp x) y n k 3 : Int) : Rat) / _]
  simp only [Rat.intCast_add, Rat.intCast_mul, Rat.div_def, Qc]
  generalize ((Sc (gp x) n : Rat) * s)⁻¹ = w
  congr 1
  · grind
  congr 1
  · grind
  congr 1
  · grind
  congr 1
  · grind
  congr 1
  · grind
theorem reach_is {z : Int} {k : Nat} (hg : 0 < gp x k) : max 0 (min (Qc x y n s k).h ((z : Rat) - (Qc x y n s k).at_)) = (((if x k < z then (if x (k + 1) < z then x (k + 1) else z) - x k else 0 : Int)) : Rat) := by
  show max 0 (min ((gp x k : Int) : Rat) ((z : Rat) - (x k : Rat))) = _
  have e : (z : Rat) - (x k : Rat) = ((z - x k : Int) : Rat) := by push_cast; rfl
  have hgp : gp x k = x (k + 1) - x k := rfl
  have mn : min ((gp x k : Int) : Rat) ((z - x k : Int) : Rat) = ((min (gp x k) (z - x k) : Int) : Rat) := by
    by_cases h : gp x k ≤ z - x k
    · rw [Int.min_eq_left h, Rat.min_def, if_pos (by exact_mod_cast h)]
    · rw [Int.min_eq_right (by omega), Rat.min_def, if_neg (by exact_mod_cast h)]
  have mx : ∀ u : Int, max (0 : Rat) (u : Rat) = ((max 0 u : Int) : Rat) := fun u => by
    by_cases h : 0 ≤ u
    · rw [Int.max_eq_right h, Rat.max_def, if_pos (by exact_mod_cast h)]
    · rw [Int.max_eq_left (by omega), Rat.max_def, if_neg (by exact_mod_cast h)]
      rfl
  rw [e, mn, mx]
  congr 1
  split
  · split
    · omega
    · omega
  · omega
theorem upTo_gen {f : Piece → Poly} {q : Nat → Nat → Int} {m : Nat} {den : Rat} {z : Int} (hd : den ≠ 0) (hm : m ≤ 5) (hf : ∀ k, k < n → f (Qc x y n s k) = (List.range m).map fun j => (q k j : Rat) / den) (hg : ∀ k, k < n → 0 < gp x k) :
    ∀ i, i ≤ n → sumQ (((List.range i).map (Qc x y n s)).map fun p => integral (f p) (max 0 (min p.h ((z : Rat) - p.at_)))) = (Sw q m x z i : Rat) / (2520 * den)
  | 0, _ => by
    show (0 : Rat) = ((0 : Int) : Rat) / _
    rw [Rat.intCast_zero, zdiv]
  | i + 1, h => by
    rw [List.range_succ, List.map_append, List.map_append]
    show sumQ (_ ++ [_]) = _
    rw [sumQ_snoc, upTo_gen hd hm hf hg i (by omega)]
    show _ + integral (f (Qc x y n s i)) (max 0 (min (Qc x y n s i).h ((z : Rat) - (Qc x y n s i).at_))) = _
    rw [reach_is (hg i (by omega)), hf i (by omega), integral_is hd m (by omega)]
    show _ = ((Sw q m x z i + (if x i < z then Pi (q i) ((if x (i + 1) < z then x (i + 1) else z) - x i) m else 0) : Int) : Rat) / _
    have e0 : ∀ (q : Nat → Int) (m : Nat), Pi q 0 m = 0 := fun q m => by
      have pw : ∀ k, Pw 0 k = 0 := fun k => by cases k <;> simp [Pw]
      induction m with
      | zero => rfl
      | succ m ih =>
        show Pi q 0 m + q m * Pw 0 m * _ = 0
        rw [ih, pw]
        simp
    rw [Rat.intCast_add]
    by_cases hx : x i < z
    · rw [if_pos hx, if_pos hx]
      grind
    · rw [if_neg hx, if_neg hx, e0]
      grind
theorem upTo_poly (G : Gaps (gp x) n) (hs : s ≠ 0) {z : Int} : upTo Piece.poly ((List.range n).map (Qc x y n s)) (z : Rat) = (Sw (Cf (gp x) y n) 4 x z n : Rat) / (2520 * ((Sc (gp x) n : Rat) * s)) :=
  upTo_gen (mulne (ratne (by have := G.sc0; omega)) hs) (by decide) (fun k _ => poly_is k) G.pos n (Nat.le_refl _)
theorem upTo_placed (G : Gaps (gp x) n) (hs : s ≠ 0) {z : Int} : upTo Piece.placed ((List.range n).map (Qc x y n s)) (z : Rat) = (Sw (fun k => Lv (Cf (gp x) y n k) 4 (x k)) 5 x z n : Rat) / (2520 * ((Sc (gp x) n : Rat) * s)) :=
  upTo_gen (mulne (ratne (by have := G.sc0; omega)) hs) (by decide) (fun k _ => placed_is k) G.pos n (Nat.le_refl _)
theorem rise (G : Gaps (gp x) n) : ∀ {i j : Nat}, i ≤ j → j ≤ n → x i ≤ x j
  | i, 0, h1, h2 => by
    have : i = 0 := by omega
    rw [this]
    exact Int.le_refl _
  | i, j + 1, h1, h2 => by
    by_cases e : i = j + 1
    · rw [e]
      exact Int.le_refl _
    · have h := rise G (i := i) (j := j) (by omega) (by omega)
      have g : 0 < x (j + 1) - x j := G.pos j (by omega)
      omega
theorem rise' (G : Gaps (gp x) n) {i j : Nat} (h1 : i < j) (h2 : j ≤ n) : x i < x j := by
  have g : 0 < x (i + 1) - x i := G.pos i (by omega)
  have := rise G (i := i + 1) (j := j) (by omega) h2
  omega
theorem overAll_is {f : Piece → Poly} (G : Gaps (gp x) n) : overAll f ((List.range n).map (Qc x y n s)) = upTo f ((List.range n).map (Qc x y n s)) ((x n : Int) : Rat) := by
  unfold overAll upTo
  congr 1
  rw [List.map_map, List.map_map]
  refine List.map_congr_left fun k hk => ?_
  have hk := List.mem_range.mp hk
  show integral _ _ = integral _ _
  rw [reach_is (G.pos k hk), if_pos (rise' G hk (Nat.le_refl _))]
  have : (if x (k + 1) < x n then x (k + 1) else x n) = x (k + 1) := by
    split
    · rfl
    · have := rise G (i := k + 1) (j := n) (by omega) (Nat.le_refl _)
      omega
  rw [this]
  rfl
theorem value_end (G : Gaps (gp x) n) (hs : s ≠ 0) {k : Nat} (hk : k < n) : (Qc x y n s k).value ((gp x k : Int) : Rat) = (y (k + 1) : Rat) / s := by
  rw [← Pc_eq G hs hk]
  have hg := ratne (show gp x k ≠ 0 by have := G.pos k hk; omega)
  show (y k : Rat) / s + _ * (((y (k + 1) : Rat) / s - (y k : Rat) / s) / _ - _ * (2 * Cc _ _ _ _ _ k + Cc _ _ _ _ _ (k + 1)) / 3 + _ * (Cc _ _ _ _ _ k + _ * ((Cc _ _ _ _ _ (k + 1) - Cc _ _ _ _ _ k) / (3 * _)))) = _
  generalize Cc (gp x) (Tn (gp x) y (Lm (gp x) n)) (n - 1) ((Lm (gp x) n : Int) : Rat) s k = c0
  generalize Cc (gp x) (Tn (gp x) y (Lm (gp x) n)) (n - 1) ((Lm (gp x) n : Int) : Rat) s (k + 1) = c1
  generalize (y k : Rat) / s = y0
  generalize (y (k + 1) : Rat) / s = y1
  generalize ((gp x k : Int) : Rat) = g at *
  grind
theorem value_is {k : Nat} {t : Int} : (Qc x y n s k).value (t : Rat) = (Hr (Cf (gp x) y n k) 4 t 4 : Rat) / ((Sc (gp x) n : Rat) * s) := by
  show _ = (((((0 * t + Cf (gp x) y n k 3) * t + Cf (gp x) y n k 2) * t + Cf (gp x) y n k 1) * t + Cf (gp x) y n k 0 : Int) : Rat) / _
  unfold Piece.value Qc
  push_cast
  generalize ((Cf (gp x) y n k 0 : Int) : Rat) = a
  generalize ((Cf (gp x) y n k 1 : Int) : Rat) = b
  generalize ((Cf (gp x) y n k 2 : Int) : Rat) = c
  generalize ((Cf (gp x) y n k 3 : Int) : Rat) = d
  simp only [Rat.div_def]
  generalize ((Sc (gp x) n : Rat) * s)⁻¹ = w
  grind
theorem told_is (G : Gaps (gp x) n) (hs : s ≠ 0) {z : Int} {k : Nat} (hk : k < n) (h1 : ∀ j, 0 < j → j ≤ k → x j ≤ z) (h2 : k + 1 = n ∨ z < x (k + 1)) (hz : z ≤ x n) :
    told ((List.range n).map (Qc x y n s)) (z : Rat) 0 = (Hr (Cf (gp x) y n k) 4 (z - x k) 4 : Rat) / ((Sc (gp x) n : Rat) * s) := by
  have pk : ∀ j, decide ((z : Rat) ≤ (Qc x y n s j).at_ + (Qc x y n s j).h) = decide (z ≤ x (j + 1)) := fun j => by
    have e : (Qc x y n s j).at_ + (Qc x y n s j).h = ((x (j + 1) : Int) : Rat) := by
      show (x j : Rat) + ((x (j + 1) - x j : Int) : Rat) = _
      push_cast
      grind
    rw [e]
    exact decide_eq_decide.mpr (by exact_mod_cast Iff.rfl)
  have find : ∀ j, j < n → z ≤ x (j + 1) → (∀ i, i < j → x (i + 1) < z) → told ((List.range n).map (Qc x y n s)) (z : Rat) 0 = (Qc x y n s j).value ((z : Rat) - (x j : Rat)) := fun j hj hp hn => by
    have e : pieceAt ((List.range n).map (Qc x y n s)) (z : Rat) = some (Qc x y n s j) := by
      unfold pieceAt
      rw [List.find?_map]
      have : (List.range n).find? ((fun p : Piece => decide ((z : Rat) ≤ p.at_ + p.h)) ∘ Qc x y n s) = some j := by
        rw [List.find?_range_eq_some]
        refine ⟨?_, List.mem_range.mpr hj, fun i hi => ?_⟩
        · show decide _ = true
          rw [pk]
          exact decide_eq_true hp
        · show (!decide _) = true
          rw [pk, decide_eq_false (by have := hn i hi; omega)]
          rfl
      rw [this]
      rfl
    unfold told
    rw [e]
    rfl
  have hle : z ≤ x (k + 1) := by
    rcases h2 with h2 | h2
    · rw [h2]
      exact hz
    · omega
  have ec : (z : Rat) - (x k : Rat) = ((z - x k : Int) : Rat) := by push_cast; rfl
  by_cases hc : k = 0 ∨ x k < z
  · rw [find k hk hle fun i hi => ?_, ec, value_is]
    have := rise G (i := i + 1) (j := k) (by omega) (by omega)
    rcases hc with hc | hc
    · omega
    · omega
  · have k0 : 0 < k := by omega
    have ez : z = x k := by
      have := h1 k k0 (Nat.le_refl _)
      omega
    obtain ⟨i, rfl⟩ : ∃ i, k = i + 1 := ⟨k - 1, by omega⟩
    rw [find i (by omega) (by omega) fun j hj => ?_]
    · have e1 : (z : Rat) - (x i : Rat) = ((gp x i : Int) : Rat) := by
        rw [ez]
        show _ = ((x (i + 1) - x i : Int) : Rat)
        push_cast
        rfl
      rw [e1, value_end G hs (by omega)]
      have e2 : z - x (i + 1) = 0 := by omega
      rw [e2]
      have e3 : Hr (Cf (gp x) y n (i + 1)) 4 0 4 = y (i + 1) * Sc (gp x) n := by
        show (((0 * 0 + Cf (gp x) y n (i + 1) 3) * 0 + Cf (gp x) y n (i + 1) 2) * 0 + Cf (gp x) y n (i + 1) 1) * 0 + Cf (gp x) y n (i + 1) 0 = _
        rw [Int.mul_zero, Int.zero_add]
        rfl
      rw [e3, Rat.intCast_mul]
      have hS := ratne (show Sc (gp x) n ≠ 0 by have := G.sc0; omega)
      generalize ((Sc (gp x) n : Int) : Rat) = S at *
      grind
    · have := rise' G (i := j + 1) (j := i + 1) (by omega) (by omega)
      omega
end
end Hull
set_option linter.all false
namespace Hull
open Loft
theorem map_getD {α β : Type} (l : List α) (d : α) (f : α → β) : l.map f = (List.range l.length).map fun k => f (l.getD k d) := by
  refine List.ext_getElem? fun i => ?_
  by_cases h : i < l.length
  · rw [List.getElem?_map, List.getElem?_map, List.getElem?_range h, List.getElem?_eq_getElem h]
    simp [List.getElem?_eq_getElem h]
  · rw [List.getElem?_eq_none (by simpa using h), List.getElem?_eq_none (by simpa using h)]
structure Tab (T : Table) (n m : Nat) (x u : Nat → Int) (v : Nat → Nat → Int) : Prop where
  gx : Gaps (gp x) n
  gu : Gaps (gp u) m
  xs : T.xs = (List.range (n + 1)).map x
  zs : T.zs = (List.range (m + 1)).map u
  ys : T.ys = (List.range (m + 1)).map fun k => (List.range (n + 1)).map (v k)
section
variable {T : Table} {n m : Nat} {x u : Nat → Int} {v : Nat → Nat → Int}
def Ar (x : Nat → Int) (v : Nat → Nat → Int) (n k : Nat) : Int := 2 * Sw (Cf (gp x) (v k) n) 4 x (x n) n
def Lr (x : Nat → Int) (v : Nat → Nat → Int) (n k : Nat) : Int := 2 * Sw (fun j => Lv (Cf (gp x) (v k) n j) 4 (x j)) 5 x (x n) n
def Sh (x : Nat → Int) (n : Nat) : Int := 2520 * Sc (gp x) n
theorem Tab.sh0 (B : Tab T n m x u v) : 0 < Sh x n := Int.mul_pos (by decide) B.gx.sc0
theorem Tab.line0 (B : Tab T n m x u v) {k : Nat} (hk : k < m + 1) : T.line 0 k = (List.range (n + 1)).map fun j => ((x j : Rat), (v k j : Rat) / 1) := by
  unfold Table.line
  rw [if_pos rfl, B.xs, B.ys]
  have e : ((List.range (m + 1)).map fun k => (List.range (n + 1)).map (v k)).getD k [] = (List.range (n + 1)).map (v k) := by simp [hk]
  rw [e, List.zip_map', List.map_map]
  refine List.map_congr_left fun j _ => ?_
  show ((x j : Rat), (v k j : Rat)) = _
  rw [Rat.div_def]
  congr 1
  grind
theorem Tab.batten0 (B : Tab T n m x u v) {k : Nat} (hk : k < m + 1) : batten (T.line 0 k) = (List.range n).map (Qc x (v k) n 1) := by
  rw [B.line0 hk]
  exact batten_is B.gx (by decide)
theorem Tab.battens0 (B : Tab T n m x u v) : T.battens 0 = (List.range (m + 1)).map fun k => (List.range n).map (Qc x (v k) n 1) := by
  unfold Table.battens Table.lines
  rw [if_pos rfl, B.zs, List.length_map, List.length_range]
  exact List.map_congr_left fun k hk => B.batten0 (List.mem_range.mp hk)
theorem Tab.area0 (B : Tab T n m x u v) (k : Nat) : 2 * overAll Piece.poly ((List.range n).map (Qc x (v k) n 1)) = (Ar x v n k : Rat) / (Sh x n : Rat) := by
  rw [overAll_is B.gx, upTo_poly B.gx (by decide)]
  unfold Ar Sh
  push_cast
  have hS := ratne (show Sc (gp x) n ≠ 0 by have := B.gx.sc0; omega)
  generalize ((Sc (gp x) n : Int) : Rat) = S at *
  grind
theorem Tab.lever0 (B : Tab T n m x u v) (k : Nat) : 2 * overAll Piece.placed ((List.range n).map (Qc x (v k) n 1)) = (Lr x v n k : Rat) / (Sh x n : Rat) := by
  rw [overAll_is B.gx, upTo_placed B.gx (by decide)]
  unfold Lr Sh
  push_cast
  have hS := ratne (show Sc (gp x) n ≠ 0 by have := B.gx.sc0; omega)
  generalize ((Sc (gp x) n : Int) : Rat) = S at *
  grind
theorem Tab.areas_gen (B : Tab T n m x u v) {f : Piece → Poly} {a : Nat → Int} (hf : ∀ k, 2 * overAll f ((List.range n).map (Qc x (v k) n 1)) = (a k : Rat) / (Sh x n : Rat)) : T.areas f = (List.range m).map (Qc u a m (Sh x n)) := by
  have hs := ratne (show Sh x n ≠ 0 by have := B.sh0; omega)
  rw [← batten_is B.gu hs]
  unfold Table.areas nails
  rw [B.battens0, B.zs, List.map_map, List.zip_map', List.map_map]
  congr 1
  refine List.map_congr_left fun k _ => ?_
  show ((u k : Rat), 2 * overAll f _) = _
  rw [hf]
theorem Tab.areas (B : Tab T n m x u v) : T.areas Piece.poly = (List.range m).map (Qc u (Ar x v n) m (Sh x n)) := B.areas_gen B.area0
theorem Tab.levers (B : Tab T n m x u v) : T.areas Piece.placed = (List.range m).map (Qc u (Lr x v n) m (Sh x n)) := B.areas_gen B.lever0
def Wh (x u : Nat → Int) (n m : Nat) : Int := Sc (gp u) m * Sh x n
theorem Tab.wh0 (B : Tab T n m x u v) : 0 < Wh x u n m := Int.mul_pos B.gu.sc0 B.sh0
def Vo (x u : Nat → Int) (v : Nat → Nat → Int) (n m : Nat) (z : Int) : Int := Sw (Cf (gp u) (Ar x v n) m) 4 u z m
def Lo (x u : Nat → Int) (v : Nat → Nat → Int) (n m : Nat) (z : Int) : Int := Sw (Cf (gp u) (Lr x v n) m) 4 u z m
def Mo (x u : Nat → Int) (v : Nat → Nat → Int) (n m : Nat) (z : Int) : Int := Sw (fun k => Lv (Cf (gp u) (Ar x v n) m k) 4 (u k)) 5 u z m
theorem Tab.area (B : Tab T n m x u v) {z : Int} {k : Nat} (hk : k < m) (h1 : ∀ j, 0 < j → j ≤ k → u j ≤ z) (h2 : k + 1 = m ∨ z < u (k + 1)) (hz : z ≤ u m) : T.area (z : Rat) = (Hr (Cf (gp u) (Ar x v n) m k) 4 (z - u k) 4 : Rat) / (Wh x u n m : Rat) := by
  have hs := ratne (show Sh x n ≠ 0 by have := B.sh0; omega)
  unfold Table.area
  rw [B.areas, told_is B.gu hs hk h1 h2 hz]
  unfold Wh
  rw [Rat.intCast_mul]
theorem Tab.volume (B : Tab T n m x u v) (z : Int) : T.volume (z : Rat) = (Vo x u v n m z : Rat) / ((2520 * Wh x u n m : Int) : Rat) := by
  have hs := ratne (show Sh x n ≠ 0 by have := B.sh0; omega)
  unfold Table.volume volumeBy
  rw [B.areas, upTo_poly B.gu hs]
  unfold Wh Vo
  push_cast
  rfl
theorem Tab.along (B : Tab T n m x u v) (z : Int) : upTo Piece.poly (T.areas Piece.placed) (z : Rat) = (Lo x u v n m z : Rat) / ((2520 * Wh x u n m : Int) : Rat) := by
  have hs := ratne (show Sh x n ≠ 0 by have := B.sh0; omega)
  rw [B.levers, upTo_poly B.gu hs]
  unfold Wh Lo
  push_cast
  rfl
theorem Tab.up (B : Tab T n m x u v) (z : Int) : upTo Piece.placed (T.areas Piece.poly) (z : Rat) = (Mo x u v n m z : Rat) / ((2520 * Wh x u n m : Int) : Rat) := by
  have hs := ratne (show Sh x n ≠ 0 by have := B.sh0; omega)
  rw [B.areas, upTo_placed B.gu hs]
  unfold Wh Mo
  push_cast
  rfl
theorem Tab.wP (B : Tab T n m x u v) : ((2520 * Wh x u n m : Int) : Rat) ≠ 0 := ratne (by have := B.wh0; omega)
theorem div_div_same {a b w : Rat} (hw : w ≠ 0) : (a / w) / (b / w) = a / b := by
  simp only [Rat.div_def, Rat.inv_mul_rev, Rat.inv_inv]
  have h := Rat.mul_inv_cancel w hw
  generalize w⁻¹ = w' at *
  grind
theorem Tab.centre (B : Tab T n m x u v) (z : Int) : T.centre (z : Rat) = ((Lo x u v n m z : Rat) / (Vo x u v n m z : Rat), (Mo x u v n m z : Rat) / (Vo x u v n m z : Rat)) := by
  unfold Table.centre
  rw [B.volume, B.along, B.up]
  show ((_ : Rat), (_ : Rat)) = _
  rw [div_div_same B.wP, div_div_same B.wP]
theorem castpos {a : Int} (h : 0 < a) : (0 : Rat) < (a : Rat) := by exact_mod_cast h
theorem castle {a b : Int} : (a : Rat) ≤ (b : Rat) ↔ a ≤ b := by exact_mod_cast Iff.rfl
theorem Tab.volume_pos (B : Tab T n m x u v) (z : Int) : T.volume (z : Rat) ≤ 0 ↔ Vo x u v n m z ≤ 0 := by
  rw [B.volume]
  have w := B.wh0
  have hw : (0 : Rat) < ((2520 * Wh x u n m : Int) : Rat) := castpos (show (0 : Int) < 2520 * Wh x u n m by omega)
  rw [← Rat.not_lt, Rat.lt_div_iff hw, Rat.zero_mul, Rat.not_lt]
  exact_mod_cast Iff.rfl
theorem Tab.carries (B : Tab T n m x u v) (z : Int) (W : Nat) : (W : Rat) ≤ T.volume (z : Rat) ↔ (W : Int) * (2520 * Wh x u n m) ≤ Vo x u v n m z := by
  rw [B.volume]
  have w := B.wh0
  have hw : (0 : Rat) < ((2520 * Wh x u n m : Int) : Rat) := castpos (show (0 : Int) < 2520 * Wh x u n m by omega)
  have e : ((W : Nat) : Rat) = (((W : Nat) : Int) : Rat) := rfl
  rw [← Rat.not_lt, Rat.div_lt_iff hw, e, ← Rat.intCast_mul, Rat.not_lt]
  exact castle
theorem head_range (f : Nat → Int) (m : Nat) : ((List.range (m + 1)).map f).head? = some (f 0) := by
  rw [List.head?_map, List.range_succ_eq_map]
  rfl
theorem last_range (f : Nat → Int) (m : Nat) : ((List.range (m + 1)).map f).getLast? = some (f m) := by
  rw [List.range_succ, List.map_append]
  simp
theorem Tab.hasZ (B : Tab T n m x u v) (z : Int) : T.hasZ z = (decide (u 0 ≤ z) && decide (z ≤ u m)) := by
  unfold Table.hasZ
  rw [B.zs, head_range, last_range]
  rfl
end
end Hull
set_option linter.all false
set_option maxRecDepth 100000
set_option maxHeartbeats 4000000
set_option Elab.async false
namespace Hull
open Loft
def Pr (f g : Nat → Int) (b : Nat) : Nat → Nat → Int
  | 0, _ => 0
  | a + 1, j => Pr f g b a j + if a ≤ j ∧ j - a < b then f a * g (j - a) else 0
def two_ (z : Int) : Nat → Int
  | 0 => z
  | _ => 1
theorem Pr_place (q : Nat → Int) (z : Int) : ∀ j, j < 5 → Pr q (two_ z) 2 4 j = Lv q 4 z j
  | 0, _ => by simp [Pr, Lv, two_, Int.mul_comm]
  | 1, _ => by simp [Pr, Lv, two_, Int.mul_comm, Int.add_comm]
  | 2, _ => by simp [Pr, Lv, two_, Int.mul_comm, Int.add_comm]
  | 3, _ => by simp [Pr, Lv, two_, Int.mul_comm, Int.add_comm]
  | 4, _ => by simp [Pr, Lv, two_, Int.mul_comm, Int.add_comm]
  | j + 5, h => by omega
def Pg (g : Int) : Nat → Int
  | 0 => 1
  | k + 1 => Pg g k * g
theorem Pg_sz {g : Int} (h : Sz 21 g) : ∀ k, Sz (21 * k + 1) (Pg g k)
  | 0 => Sz.one
  | k + 1 => (Pg_sz h k).mul' h (by omega)
def St (q : Nat → Int) (g : Int) (k : Nat) : Int := q k * Pg g k
def Sq (q : Nat → Int) (g : Int) (j : Nat) : Int := Pr (St q g) (St q g) 4 4 j
def Sn (q : Nat → Int) (g : Int) (k n : Nat) : Int := Sq q g n * (2520 / ((n : Int) + (k : Int) + 1))
def Ct (q : Nat → Int) (g : Int) : Nat → Int
  | 0 => 0
  | k + 1 => Ct q g k + St q g k * ((List.range 7).map (Sn q g k)).sum
def Ci (q : Nat → Int) (g : Int) : Int := Ct q g 4 * g
def Cu (q : Nat → Nat → Int) (g : Nat → Int) (n : Nat) : Int := ((List.range n).map fun k => Ci (q k) (g k)).sum
theorem sum_sz {A : Nat} : ∀ (l : List Int), (∀ z ∈ l, Sz A z) → Sz (A + l.length) l.sum
  | [], _ => Sz.zero
  | a :: l, h => by
    rw [List.sum_cons]
    exact (h a List.mem_cons_self).add' (sum_sz l fun z hz => h z (List.mem_cons_of_mem _ hz)) (by simp) (by simp; omega)
theorem St_sz {q : Nat → Int} {g : Int} {A : Nat} (hq : ∀ k, Sz A (q k)) (hg : Sz 21 g) {k : Nat} (hk : k < 4) : Sz (A + 64) (St q g k) := (hq k).mul' (Pg_sz hg k) (by omega)
theorem Pr_sz' {f g : Nat → Int} {A B b : Nat} : ∀ (a j : Nat), (∀ k, k < a → Sz A (f k)) → (∀ k, k < b → Sz B (g k)) → Sz (A + B + a) (Pr f g b a j)
  | 0, _, _, _ => Sz.zero
  | a + 1, j, hf, hg => by
    refine (Pr_sz' a j (fun k hk => hf k (by omega)) hg).add' (m := A + B + a) (n := A + B) ?_ (by omega) (by omega)
    split
    · rename_i h
      exact (hf a (by omega)).mul (hg _ h.2)
    · exact Sz.zero
theorem Sq_sz {q : Nat → Int} {g : Int} {A : Nat} (hq : ∀ k, Sz A (q k)) (hg : Sz 21 g) (j : Nat) : Sz (2 * A + 132) (Sq q g j) := (Pr_sz' (A := A + 64) (B := A + 64) 4 j (fun k hk => St_sz hq hg hk) (fun k hk => St_sz hq hg hk)).mono (by omega)
theorem Sn_sz {q : Nat → Int} {g : Int} {A : Nat} (hq : ∀ k, Sz A (q k)) (hg : Sz 21 g) (k n : Nat) : Sz (2 * A + 144) (Sn q g k n) := (Sq_sz hq hg n).mul' (Sz.div Sz.parts) (by omega)
theorem Ss_sz {q : Nat → Int} {g : Int} {A : Nat} (hq : ∀ k, Sz A (q k)) (hg : Sz 21 g) (k : Nat) : Sz (2 * A + 151) ((List.range 7).map (Sn q g k)).sum := by
  refine (sum_sz (A := 2 * A + 144) _ fun z hz => ?_).mono (by simp)
  obtain ⟨n, _, rfl⟩ := List.mem_map.mp hz
  exact Sn_sz hq hg k n
theorem Ct_sz {q : Nat → Int} {g : Int} {A : Nat} (hq : ∀ k, Sz A (q k)) (hg : Sz 21 g) : ∀ k, k ≤ 4 → Sz (3 * A + 216 + k) (Ct q g k)
  | 0, _ => Sz.zero
  | k + 1, h => (Ct_sz hq hg k (by omega)).add' ((St_sz hq hg (k := k) (by omega)).mul (Ss_sz hq hg k)) (by omega) (by omega)
theorem Ci_sz {q : Nat → Int} {g : Int} {A : Nat} (hq : ∀ k, Sz A (q k)) (hg : Sz 21 g) : Sz (3 * A + 242) (Ci q g) := (Ct_sz hq hg 4 (by omega)).mul' hg (by omega)
theorem Cu_sz {q : Nat → Nat → Int} {g : Nat → Int} {A n : Nat} (hq : ∀ k j, k < n → Sz A (q k j)) (hg : ∀ k, k < n → Sz 21 (g k)) : Sz (3 * A + 242 + n) (Cu q g n) := by
  refine (sum_sz (A := 3 * A + 242) _ fun z hz => ?_).mono (by simp)
  obtain ⟨k, hk, rfl⟩ := List.mem_map.mp hz
  have hk := List.mem_range.mp hk
  exact Ci_sz (fun j => hq k j hk) (hg k hk)
theorem cube_alg (a b c d t : Rat) : 2520 * integral (mulP [a, b, c, d] (mulP [a, b, c, d] [a, b, c, d])) t =
    2520 * (a * a * a) * t + 1260 * (3 * (a * a * b)) * t ^ 2 + 840 * (3 * (a * a * c) + 3 * (a * b * b)) * t ^ 3 + 630 * (3 * (a * a * d) + 6 * (a * b * c) + b * b * b) * t ^ 4 +
    504 * (6 * (a * b * d) + 3 * (a * c * c) + 3 * (b * b * c)) * t ^ 5 + 420 * (6 * (a * c * d) + 3 * (b * b * d) + 3 * (b * c * c)) * t ^ 6 + 360 * (3 * (a * d * d) + 6 * (b * c * d) + c * c * c) * t ^ 7 +
    315 * (3 * (b * d * d) + 3 * (c * c * d)) * t ^ 8 + 280 * (3 * (c * d * d)) * t ^ 9 + 252 * (d * d * d) * t ^ 10 := by
  simp [mulP, addP, integral, sumQ, List.zipIdx]
  grind
theorem Ci_alg (q : Nat → Int) (g : Int) : Ci q g =
    2520 * (q 0 * q 0 * q 0) * g + 1260 * (3 * (q 0 * q 0 * q 1)) * g ^ 2 + 840 * (3 * (q 0 * q 0 * q 2) + 3 * (q 0 * q 1 * q 1)) * g ^ 3 + 630 * (3 * (q 0 * q 0 * q 3) + 6 * (q 0 * q 1 * q 2) + q 1 * q 1 * q 1) * g ^ 4 +
    504 * (6 * (q 0 * q 1 * q 3) + 3 * (q 0 * q 2 * q 2) + 3 * (q 1 * q 1 * q 2)) * g ^ 5 + 420 * (6 * (q 0 * q 2 * q 3) + 3 * (q 1 * q 1 * q 3) + 3 * (q 1 * q 2 * q 2)) * g ^ 6 + 360 * (3 * (q 0 * q 3 * q 3) + 6 * (q 1 * q 2 * q 3) + q 2 * q 2 * q 2) * g ^ 7 +
    315 * (3 * (q 1 * q 3 * q 3) + 3 * (q 2 * q 2 * q 3)) * g ^ 8 + 280 * (3 * (q 2 * q 3 * q 3)) * g ^ 9 + 252 * (q 3 * q 3 * q 3) * g ^ 10 := by
  simp [Ci, Ct, Sn, Sq, Pr, St, Pg, List.range_succ]
  grind
end Hull
set_option linter.all false
set_option maxRecDepth 100000
set_option maxHeartbeats 4000000
set_option Elab.async false
namespace Hull
open Loft
theorem r2520 : (2520 : Rat) * (2520 : Rat)⁻¹ = 1 := by decide +kernel
section
variable {x y : Nat → Int} {n : Nat} {s : Rat}
theorem cube_is {k : Nat} : integral (Qc x y n s k).cube ((gp x k : Int) : Rat) = (Ci (Cf (gp x) y n k) (gp x k) : Rat) / (2520 * (((Sc (gp x) n : Rat) * s) * ((Sc (gp x) n : Rat) * s) * ((Sc (gp x) n : Rat) * s))) := by
  have h := cube_alg ((Cf (gp x) y n k 0 : Rat) / ((Sc (gp x) n : Rat) * s)) ((Cf (gp x) y n k 1 : Rat) / ((Sc (gp x) n : Rat) * s)) ((Cf (gp x) y n k 2 : Rat) / ((Sc (gp x) n : Rat) * s)) ((Cf (gp x) y n k 3 : Rat) / ((Sc (gp x) n : Rat) * s)) ((gp x k : Int) : Rat)
  have e : integral (Qc x y n s k).cube ((gp x k : Int) : Rat) = integral (mulP [(Cf (gp x) y n k 0 : Rat) / ((Sc (gp x) n : Rat) * s), (Cf (gp x) y n k 1 : Rat) / ((Sc (gp x) n : Rat) * s), (Cf (gp x) y n k 2 : Rat) / ((Sc (gp x) n : Rat) * s), (Cf (gp x) y n k 3 : Rat) / ((Sc (gp x) n : Rat) * s)] (mulP [(Cf (gp x) y n k 0 : Rat) / ((Sc (gp x) n : Rat) * s), (Cf (gp x) y n k 1 : Rat) / ((Sc (gp x) n : Rat) * s), (Cf (gp x) y n k 2 : Rat) / ((Sc (gp x) n : Rat) * s), (Cf (gp x) y n k 3 : Rat) / ((Sc (gp x) n : Rat) * s)] [(Cf (gp x) y n k 0 : Rat) / ((Sc (gp x) n : Rat) * s), (Cf (gp x) y n k 1 : Rat) / ((Sc (gp x) n : Rat) * s), (Cf (gp x) y n k 2 : Rat) / ((Sc (gp x) n : Rat) * s), (Cf (gp x) y n k 3 : Rat) / ((Sc (gp x) n : Rat) * s)])) ((gp x k : Int) : Rat) := rfl
  rw [← e] at h
  have hc := congrArg (fun z : Int => (z : Rat)) (Ci_alg (Cf (gp x) y n k) (gp x k))
  simp only [Rat.intCast_add, Rat.intCast_mul, Rat.intCast_pow, Rat.intCast_ofNat] at hc
  rw [hc]
  generalize integral (Qc x y n s k).cube ((gp x k : Int) : Rat) = I at *
  generalize ((Cf (gp x) y n k 0 : Int) : Rat) = a at *
  generalize ((Cf (gp x) y n k 1 : Int) : Rat) = b at *
  generalize ((Cf (gp x) y n k 2 : Int) : Rat) = c at *
  generalize ((Cf (gp x) y n k 3 : Int) : Rat) = d at *
  generalize ((gp x k : Int) : Rat) = t at *
  generalize (Sc (gp x) n : Rat) * s = den at *
  clear hc e
  simp only [Rat.div_def, Rat.inv_mul_rev] at *
  have r := r2520
  generalize (2520 : Rat)⁻¹ = v at *
  generalize den⁻¹ = w at *
  have hi : I = v * (2520 * I) := by grind
  rw [hi, h]
  clear h hi r
  grind
theorem sumQ_map (f : Nat → Rat) (g : Nat → Int) (c : Rat) : ∀ (m : Nat), (∀ k, k < m → f k = (g k : Rat) / c) → sumQ ((List.range m).map f) = (((List.range m).map g).sum : Rat) / c
  | 0, _ => by
    show (0 : Rat) = ((0 : Int) : Rat) / c
    rw [Rat.intCast_zero, zdiv]
  | m + 1, h => by
    rw [List.range_succ, List.map_append, List.map_append, List.sum_append]
    show sumQ (_ ++ [_]) = _
    rw [sumQ_snoc, sumQ_map f g c m fun k hk => h k (by omega), h m (by omega)]
    simp only [List.map_cons, List.map_nil, List.sum_cons, List.sum_nil, Int.add_zero, Rat.intCast_add, Rat.div_def]
    grind
theorem cubes_are : overAll Piece.cube ((List.range n).map (Qc x y n s)) = (Cu (Cf (gp x) y n) (gp x) n : Rat) / (2520 * (((Sc (gp x) n : Rat) * s) * ((Sc (gp x) n : Rat) * s) * ((Sc (gp x) n : Rat) * s))) := by
  unfold overAll Cu
  rw [List.map_map]
  exact sumQ_map _ _ _ n fun k _ => cube_is
end
def Gs (f : Nat → Int) (s : Int) : Nat → Int
  | 0 => s
  | k + 1 => ((Int.gcd (Gs f s k) (f k) : Nat) : Int)
theorem Gs_pos {f : Nat → Int} {s : Int} (h : 0 < s) : ∀ k, 0 < Gs f s k
  | 0 => h
  | k + 1 => by
    have := Gs_pos (f := f) h k
    have : 0 < Int.gcd (Gs f s k) (f k) := Int.gcd_pos_of_ne_zero_left (f k) (by omega)
    show (0 : Int) < ((Int.gcd (Gs f s k) (f k) : Nat) : Int)
    omega
theorem Gs_step (f : Nat → Int) (s : Int) (k : Nat) : Gs f s (k + 1) ∣ Gs f s k ∧ Gs f s (k + 1) ∣ f k := ⟨Int.gcd_dvd_left .., Int.gcd_dvd_right ..⟩
theorem Gs_scale (f : Nat → Int) (s : Int) : ∀ k, Gs f s k ∣ s
  | 0 => Int.dvd_refl _
  | k + 1 => Int.dvd_trans (Gs_step f s k).1 (Gs_scale f s k)
theorem Gs_at (f : Nat → Int) (s : Int) : ∀ {k j : Nat}, j < k → Gs f s k ∣ f j
  | 0, j, h => by omega
  | k + 1, j, h => by
    by_cases e : j = k
    · rw [e]
      exact (Gs_step f s k).2
    · exact Int.dvd_trans (Gs_step f s k).1 (Gs_at f s (by omega))
section
variable {T : Table} {n m : Nat} {x u : Nat → Int} {v : Nat → Nat → Int}
def Hb (u : Nat → Int) (v : Nat → Nat → Int) (m k : Nat) (z : Int) (j : Nat) : Int := Hr (Cf (gp u) (fun i => v i j) m k) 4 (z - u k) 4
def Dv (u : Nat → Int) (v : Nat → Nat → Int) (n m k : Nat) (z : Int) : Int := Gs (Hb u v m k z) (Sc (gp u) m) (n + 1)
def Ly (u : Nat → Int) (v : Nat → Nat → Int) (n m k : Nat) (z : Int) (j : Nat) : Int := Hb u v m k z j / Dv u v n m k z
def Ls (u : Nat → Int) (v : Nat → Nat → Int) (n m k : Nat) (z : Int) : Int := Sc (gp u) m / Dv u v n m k z
theorem Tab.line1 (B : Tab T n m x u v) {j : Nat} (hj : j < n + 1) : T.line 1 j = (List.range (m + 1)).map fun i => ((u i : Rat), (v i j : Rat) / 1) := by
  unfold Table.line
  rw [if_neg (by decide), B.zs, B.ys, List.map_map, List.zip_map', List.map_map]
  refine List.map_congr_left fun i _ => ?_
  show ((u i : Rat), ((((List.range (n + 1)).map (v i)).getD j 0 : Int) : Rat)) = _
  have e : ((List.range (n + 1)).map (v i)).getD j 0 = v i j := by simp [hj]
  rw [e, Rat.div_def]
  congr 1
  grind
theorem Tab.battens1 (B : Tab T n m x u v) : T.battens 1 = (List.range (n + 1)).map fun j => (List.range m).map (Qc u (fun i => v i j) m 1) := by
  unfold Table.battens Table.lines
  rw [if_neg (by decide), B.xs, List.length_map, List.length_range]
  refine List.map_congr_left fun j hj => ?_
  rw [B.line1 (List.mem_range.mp hj)]
  exact batten_is (y := fun i => v i j) B.gu (by decide)
theorem Tab.dv0 (B : Tab T n m x u v) (k : Nat) (z : Int) : 0 < Dv u v n m k z := Gs_pos B.gu.sc0 _
theorem Tab.ls0 (B : Tab T n m x u v) (k : Nat) (z : Int) : 0 < Ls u v n m k z := Int.ediv_pos_of_pos_of_dvd B.gu.sc0 (by have := B.dv0 k z; omega) (Gs_scale _ _ _)
theorem Tab.lineAt (B : Tab T n m x u v) {z : Int} {k : Nat} (hk : k < m) (h1 : ∀ j, 0 < j → j ≤ k → u j ≤ z) (h2 : k + 1 = m ∨ z < u (k + 1)) (hz : z ≤ u m) :
    T.lineAt (z : Rat) = (List.range n).map (Qc x (Ly u v n m k z) n (Ls u v n m k z : Rat)) := by
  have hs := ratne (show Ls u v n m k z ≠ 0 by have := B.ls0 k z; omega)
  rw [← batten_is B.gx hs]
  unfold Table.lineAt nails
  rw [B.battens1, B.xs, List.map_map, List.zip_map', List.map_map]
  congr 1
  refine List.map_congr_left fun j hj => ?_
  have hj := List.mem_range.mp hj
  show ((x j : Rat), told ((List.range m).map (Qc u (fun i => v i j) m 1)) (z : Rat) 0) = _
  rw [told_is (y := fun i => v i j) B.gu (by decide) hk h1 h2 hz]
  show ((x j : Rat), (Hb u v m k z j : Rat) / ((Sc (gp u) m : Rat) * 1)) = ((x j : Rat), (Ly u v n m k z j : Rat) / (Ls u v n m k z : Rat))
  congr 1
  have d0 := B.dv0 k z
  have a1 : Dv u v n m k z ∣ Hb u v m k z j := Gs_at _ _ hj
  have a2 : Dv u v n m k z ∣ Sc (gp u) m := Gs_scale _ _ _
  unfold Ly Ls
  rw [cast_div a1 (by omega), cast_div a2 (by omega), Rat.mul_one]
  exact (div_div_same (ratne (by omega))).symm
def S0 (x u : Nat → Int) (v : Nat → Nat → Int) (n m k : Nat) (z : Int) : Int := 2 * Cu (Cf (gp x) (Ly u v n m k z) n) (gp x) n
def S1 (x u : Nat → Int) (v : Nat → Nat → Int) (n m k : Nat) (z : Int) : Int := 3 * 2520 * (Sc (gp x) n * Ls u v n m k z) ^ 3
def Ma (x u : Nat → Int) (v : Nat → Nat → Int) (n m k : Nat) (z : Int) : Int := Mo x u v n m z * S1 x u v n m k z + S0 x u v n m k z * (2520 * Sc (gp u) m * Sh x n)
def Mb (x u : Nat → Int) (v : Nat → Nat → Int) (n m k : Nat) (z : Int) : Int := Vo x u v n m z * S1 x u v n m k z
theorem Tab.s10 (B : Tab T n m x u v) (k : Nat) (z : Int) : 0 < S1 x u v n m k z := Int.mul_pos (by decide) (Int.pow_pos (Int.mul_pos B.gx.sc0 (B.ls0 k z)))
theorem meta_alg {M V S C w q : Rat} (hV : V ≠ 0) (hw : w ≠ 0) (hq : q ≠ 0) : M / V + 2 / 3 * (C / (2520 * (q * q * q))) / (V / w) = (M * (3 * 2520 * q ^ 3) + 2 * C * w) / (V * (3 * 2520 * q ^ 3)) := by
  simp only [Rat.div_def, Rat.inv_mul_rev, Rat.inv_inv]
  have e : q ^ 3 = q * q * q := by grind
  rw [e]
  have h1 := Rat.mul_inv_cancel V hV
  have h2 := Rat.mul_inv_cancel w hw
  have h3 := Rat.mul_inv_cancel q hq
  have h4 := r2520
  have h5 : (3 : Rat) * (3 : Rat)⁻¹ = 1 := by decide +kernel
  simp only [Rat.inv_mul_rev]
  generalize (2520 : Rat)⁻¹ = c at *
  generalize (3 : Rat)⁻¹ = t at *
  generalize V⁻¹ = V' at *
  generalize w⁻¹ = w' at *
  generalize q⁻¹ = q' at *
  generalize (2520 : Rat) = P at *
  generalize (3 : Rat) = Q at *
  have g1 : q * q * q * (q' * q' * q') = 1 := by grind
  have g2 : (Q * P) * (c * t) = 1 := by grind
  generalize q' * q' * q' = r' at *
  generalize q * q * q = r at *
  grind
theorem Tab.meta (B : Tab T n m x u v) {z : Int} {k : Nat} (hk : k < m) (h1 : ∀ j, 0 < j → j ≤ k → u j ≤ z) (h2 : k + 1 = m ∨ z < u (k + 1)) (hz : z ≤ u m) (hV : 0 < Vo x u v n m z) :
    T.meta_ (z : Rat) = (Ma x u v n m k z : Rat) / (Mb x u v n m k z : Rat) := by
  unfold Table.meta_
  rw [B.centre, B.lineAt hk h1 h2 hz, cubes_are, B.volume]
  have hs := ratne (show Ls u v n m k z ≠ 0 by have := B.ls0 k z; omega)
  have hx := ratne (show Sc (gp x) n ≠ 0 by have := B.gx.sc0; omega)
  have e1 : ((Ma x u v n m k z : Int) : Rat) = (Mo x u v n m z : Rat) * (3 * 2520 * ((Sc (gp x) n : Rat) * (Ls u v n m k z : Rat)) ^ 3) + 2 * (Cu (Cf (gp x) (Ly u v n m k z) n) (gp x) n : Rat) * ((2520 * Wh x u n m : Int) : Rat) := by
    unfold Ma S1 S0 Wh
    rw [Int.mul_assoc 2520]
    simp only [Rat.intCast_add, Rat.intCast_mul, Rat.intCast_pow, Rat.intCast_ofNat]
  have e2 : ((Mb x u v n m k z : Int) : Rat) = (Vo x u v n m z : Rat) * (3 * 2520 * ((Sc (gp x) n : Rat) * (Ls u v n m k z : Rat)) ^ 3) := by
    unfold Mb S1
    simp only [Rat.intCast_add, Rat.intCast_mul, Rat.intCast_pow, Rat.intCast_ofNat]
  rw [e1, e2]
  exact meta_alg (S := 0) (ratne (by omega)) B.wP (mulne hx hs)
theorem stand_alg {A B L W : Rat} (hB : B ≠ 0) (hW : W ≠ 0) : A / B - L / W = (A * W - L * B) / (B * W) := by
  simp only [Rat.div_def, Rat.inv_mul_rev]
  have h1 := Rat.mul_inv_cancel B hB
  have h2 := Rat.mul_inv_cancel W hW
  generalize B⁻¹ = B' at *
  generalize W⁻¹ = W' at *
  grind
end
end Hull
set_option linter.all false
set_option maxRecDepth 100000
set_option maxHeartbeats 4000000
set_option Elab.async false
namespace Hull
open Loft
def Bl (q : Nat → Nat → Int) (g : Nat → Int) : Nat → Int
  | 0 => 0
  | k + 1 => Bl q g k + Pi (q k) (g k) 4
section
variable {q : Nat → Nat → Int} {u : Nat → Int} {m : Nat}
theorem Sw_first (G : Gaps (gp u) m) : ∀ i, i ≤ m → Sw q 4 u (u 0) i = 0
  | 0, _ => rfl
  | i + 1, h => by
    show Sw q 4 u (u 0) i + (if u i < u 0 then _ else 0) = 0
    have := rise G (i := 0) (j := i) (by omega) (by omega)
    rw [Sw_first G i (by omega), if_neg (by omega)]
    rfl
theorem Sw_below (G : Gaps (gp u) m) {k : Nat} {z : Int} (hk : k < m) (h1 : u k < z) : ∀ i, i ≤ k → Sw q 4 u z i = Bl q (gp u) i
  | 0, _ => rfl
  | i + 1, h => by
    show Sw q 4 u z i + (if u i < z then _ else 0) = Bl q (gp u) i + _
    have a := rise G (i := i + 1) (j := k) (by omega) (by omega)
    have b := rise G (i := i) (j := k) (by omega) (by omega)
    rw [Sw_below G hk h1 i (by omega), if_pos (by omega), if_pos (by omega)]
    rfl
theorem Sw_in (G : Gaps (gp u) m) {k : Nat} {z : Int} (hk : k < m) (h1 : u k < z) (h2 : z ≤ u (k + 1)) : ∀ i, k < i → i ≤ m → Sw q 4 u z i = Bl q (gp u) k + Pi (q k) (z - u k) 4
  | 0, h, _ => by omega
  | i + 1, h, hm => by
    by_cases e : i = k
    · rw [e]
      show Sw q 4 u z k + (if u k < z then Pi (q k) ((if u (k + 1) < z then u (k + 1) else z) - u k) 4 else 0) = _
      rw [Sw_below G hk h1 k (Nat.le_refl _), if_pos h1, if_neg (by omega)]
    · show Sw q 4 u z i + (if u i < z then _ else 0) = _
      have a := rise G (i := k + 1) (j := i) (by omega) (by omega)
      rw [Sw_in G hk h1 h2 i (by omega) (by omega), if_neg (by omega)]
      exact Int.add_zero _
end
structure Rec (V : Nat → Int) (c : Int) (t : Nat) (rs : List (Int × Int)) (gr : Int) : Prop where
  gr0 : 0 ≤ gr
  top : ∀ r ∈ rs, r.2 ≤ gr
  is : gr = 0 ∨ ∃ r ∈ rs, r.2 = gr
  all : ∀ i, i ≤ t → V i ≤ gr
  inc : rs.Pairwise fun a b => a.2 < b.2
  fnd : ∀ goal : Int, 0 < goal → (rs.find? fun r => decide (goal ≤ r.2)).map (·.1) = ((List.range (t + 1)).find? fun (i : Nat) => decide (goal ≤ V i)).map fun (i : Nat) => c + (i : Int)
  len : rs.length ≤ t
theorem Rec.start {V : Nat → Int} {c : Int} (h : V 0 = 0) : Rec V c 0 [] 0 where
  gr0 := Int.le_refl _
  top := fun r hr => by cases hr
  is := .inl rfl
  all := fun i hi => by
    have : i = 0 := by omega
    rw [this, h]
    exact Int.le_refl _
  inc := List.Pairwise.nil
  fnd := fun goal hg => by
    have : (List.range (0 + 1)).find? (fun i => decide (goal ≤ V i)) = none := by
      show List.find? _ [0] = none
      simp [h]
      omega
    rw [this]
    rfl
  len := Nat.le_refl _
theorem find_snoc {α : Type} (p : α → Bool) (l : List α) (a : α) : (l ++ [a]).find? p = (l.find? p).or (if p a = true then some a else none) := by
  rw [List.find?_append]
  congr 1
  simp [List.find?]
  cases p a <;> rfl
theorem Rec.up {V : Nat → Int} {c : Int} {t : Nat} {rs : List (Int × Int)} {gr : Int} (R : Rec V c t rs gr) (h : gr < V (t + 1)) : Rec V c (t + 1) (rs ++ [(c + ((t + 1 : Nat) : Int), V (t + 1))]) (V (t + 1)) where
  gr0 := by have := R.gr0; omega
  top := fun r hr => by
    rcases List.mem_append.mp hr with hr | hr
    · have := R.top r hr
      omega
    · rw [List.mem_singleton.mp hr]
      exact Int.le_refl _
  is := .inr ⟨_, List.mem_append.mpr (.inr (List.mem_singleton.mpr rfl)), rfl⟩
  all := fun i hi => by
    by_cases e : i = t + 1
    · rw [e]
      exact Int.le_refl _
    · have := R.all i (by omega)
      omega
  inc := by
    rw [List.pairwise_append]
    refine ⟨R.inc, List.pairwise_singleton .., fun a ha b hb => ?_⟩
    rw [List.mem_singleton.mp hb]
    have := R.top a ha
    show a.2 < V (t + 1)
    omega
  fnd := fun goal hg => by
    have ih := R.fnd goal hg
    rw [find_snoc, List.range_succ (n := t + 1), find_snoc]
    cases e : (List.range (t + 1)).find? (fun i => decide (goal ≤ V i)) with
    | some i =>
      rw [e] at ih
      cases e2 : rs.find? (fun r => decide (goal ≤ r.2)) with
      | some r =>
        rw [e2] at ih
        exact ih
      | none =>
        rw [e2] at ih
        cases ih
    | none =>
      rw [e] at ih
      cases e2 : rs.find? (fun r => decide (goal ≤ r.2)) with
      | some r =>
        rw [e2] at ih
        cases ih
      | none =>
        simp only [Option.none_or]
        by_cases q : goal ≤ V (t + 1)
        · rw [if_pos (decide_eq_true q), if_pos (decide_eq_true q)]
          rfl
        · rw [if_neg (by simpa using q), if_neg (by simpa using q)]
          rfl
  len := by
    have := R.len
    rw [List.length_append]
    show rs.length + 1 ≤ t + 1
    omega
theorem Rec.skip {V : Nat → Int} {c : Int} {t : Nat} {rs : List (Int × Int)} {gr : Int} (R : Rec V c t rs gr) (h : V (t + 1) ≤ gr) : Rec V c (t + 1) rs gr where
  gr0 := R.gr0
  top := R.top
  is := R.is
  all := fun i hi => by
    by_cases e : i = t + 1
    · rw [e]
      exact h
    · exact R.all i (by omega)
  inc := R.inc
  fnd := fun goal hg => by
    have ih := R.fnd goal hg
    rw [List.range_succ (n := t + 1), find_snoc]
    cases e : (List.range (t + 1)).find? (fun i => decide (goal ≤ V i)) with
    | some i =>
      rw [e] at ih
      exact ih
    | none =>
      rw [e] at ih
      simp only [Option.none_or]
      have e2 : rs.find? (fun r => decide (goal ≤ r.2)) = none := by
        cases e2 : rs.find? (fun r => decide (goal ≤ r.2)) with
        | none => rfl
        | some r =>
          rw [e2] at ih
          cases ih
      have q : ¬ goal ≤ V (t + 1) := fun q => by
        rcases R.is with g | ⟨r, hr, g⟩
        · omega
        · have := List.find?_eq_none.mp e2 r hr
          exact this (decide_eq_true (by omega))
      rw [if_neg (by simpa using q), e2]
      rfl
  len := by have := R.len; omega
theorem find_at {α : Type} {p : α → Bool} : ∀ (l : List α) (s : Nat), (∀ i r, l[i]? = some r → i < s → p r = false) → (∀ r, l[s]? = some r → p r = true) → l.find? p = l[s]?
  | [], s, _, _ => by simp
  | a :: l, 0, _, h2 => by
    have := h2 a rfl
    simp [List.find?, this]
  | a :: l, s + 1, h1, h2 => by
    have := h1 0 a rfl (by omega)
    rw [List.find?_cons, this]
    exact find_at l s (fun i r h hi => h1 (i + 1) r h (by omega)) fun r h => h2 r h
theorem Rec.mono {V : Nat → Int} {c : Int} {t : Nat} {rs : List (Int × Int)} {gr : Int} (R : Rec V c t rs gr) {i j : Nat} {a b : Int × Int} (h1 : rs[i]? = some a) (h2 : rs[j]? = some b) (h : i ≤ j) : a.2 ≤ b.2 := by
  by_cases e : i = j
  · rw [e, h2] at h1
    cases h1
    exact Int.le_refl _
  · obtain ⟨l1, g1⟩ := List.getElem?_eq_some_iff.mp h1
    obtain ⟨l2, g2⟩ := List.getElem?_eq_some_iff.mp h2
    have := List.pairwise_iff_getElem.mp R.inc i j l1 l2 (by omega)
    rw [g1, g2] at this
    omega
section
variable {T : Table} {n m : Nat} {x u : Nat → Int} {v : Nat → Nat → Int}
theorem Tab.deep (B : Tab T n m x u v) : T.deep = (u m - u 0).toNat := by
  unfold Table.deep
  rw [B.zs, last_range, List.headD_eq_head?_getD, head_range]
  rfl
theorem Tab.floats (B : Tab T n m x u v) (W : Nat) : T.floats W = ((List.range ((u m - u 0).toNat + 1)).find? fun (i : Nat) => decide ((W : Int) * (2520 * Wh x u n m) ≤ Vo x u v n m (u 0 + (i : Int)))).map fun (i : Nat) => u 0 + (i : Int) := by
  unfold Table.floats
  have e0 : T.zs.headD 0 = u 0 := by
    rw [B.zs, List.headD_eq_head?_getD, head_range]
    rfl
  rw [B.deep, e0]
  show Option.map _ (List.find? _ _) = _
  congr 2
  funext i
  exact decide_eq_decide.mpr (B.carries (u 0 + (i : Int)) W)
theorem Tab.piece (B : Tab T n m x u v) {z : Int} (h0 : u 0 ≤ z) (hz : z ≤ u m) : ∃ k, k < m ∧ (∀ j, 0 < j → j ≤ k → u j ≤ z) ∧ (k + 1 = m ∨ z < u (k + 1)) := by
  have n0 := B.gu.n0
  have key : ∀ i, i < m → ∃ k, k < m ∧ (∀ j, 0 < j → j ≤ k → u j ≤ z) ∧ (k = i ∨ (k < i ∧ z < u (k + 1))) := by
    intro i
    induction i with
    | zero => exact fun _ => ⟨0, n0, fun j h1 h2 => by omega, .inl rfl⟩
    | succ i ih =>
      intro hi
      obtain ⟨k, hk, h1, h2⟩ := ih (by omega)
      rcases h2 with h2 | h2
      · subst h2
        by_cases e : u (k + 1) ≤ z
        · refine ⟨k + 1, hi, fun j a b => ?_, .inl rfl⟩
          by_cases ej : j = k + 1
          · rw [ej]
            exact e
          · exact h1 j a (by omega)
        · exact ⟨k, hk, h1, .inr ⟨by omega, by omega⟩⟩
      · exact ⟨k, hk, h1, .inr ⟨by omega, h2.2⟩⟩
  obtain ⟨k, hk, h1, h2⟩ := key (m - 1) (by omega)
  refine ⟨k, hk, h1, ?_⟩
  rcases h2 with h2 | h2
  · exact .inl (by omega)
  · exact .inr h2.2
end
end Hull
set_option linter.all false
set_option maxRecDepth 100000
set_option maxHeartbeats 4000000
set_option Elab.async false
namespace Hull
open Loft
def badR (f : Nat → Int) (least : Int) (i : Nat) : Bool := decide (f i ≤ (if i = 0 then least - 1 else f (i - 1))) || decide (1048575 < f i)
def badO (f : Nat → Int) (i : Nat) : Bool := decide (f i < 0) || decide (1048575 < f i)
def faultOf (a b c : Nat) (f g h : Nat → Int) : Int × Int :=
  if a < 2 ∨ 24 < a then (2, 0) else if b < 2 ∨ 16 < b then (2, 1) else if c ≠ a * b then (1, c) else
    match (List.range a).find? (badR f 0) with
    | some i => (3, i)
    | none => match (List.range b).find? (badR g (-1048575)) with
      | some i => (4, i)
      | none => match (List.range c).find? (badO h) with
        | some i => (5, i)
        | none => (0, 0)
theorem find_range_succ (n : Nat) (p : Nat → Bool) : (List.range (n + 1)).find? p = if p 0 = true then some 0 else ((List.range n).find? fun i => p (i + 1)).map (· + 1) := by
  rw [List.range_succ_eq_map, List.find?_cons]
  cases h : p 0 with
  | true => rfl
  | false =>
    rw [List.find?_map]
    rfl
theorem isM (z : Int) : isMeasure z = false ↔ z < -1048575 ∨ 1048575 < z := by
  unfold isMeasure MOST
  rw [decide_eq_false_iff_not]
  omega
theorem fb_some (b : Bool) : ∀ (l : List Int) (y : Int) (k : Nat), (b = true → -1 ≤ y) → -1048576 ≤ y → firstBad b (some y) l k = ((List.range l.length).find? (badR (fun i => l.getD i 0) (y + 1))).map (· + k)
  | [], y, k, _, _ => rfl
  | z :: r, y, k, hb, hy => by
    rw [List.length_cons, find_range_succ]
    have e0 : badR (fun i => (z :: r).getD i 0) (y + 1) 0 = decide (isMeasure z = false ∨ (b = true ∧ z < 0) ∨ (some y).any (fun (y : Int) => decide (z ≤ y)) = true) := by
      unfold badR
      rw [if_pos rfl]
      show (decide (z ≤ y + 1 - 1) || decide (1048575 < z)) = _
      rw [← Bool.decide_or]
      refine decide_eq_decide.mpr ?_
      rw [isM]
      simp only [Option.any_some, decide_eq_true_eq]
      cases b with
      | true =>
        have := hb rfl
        simp
        omega
      | false =>
        simp
        omega
    rw [e0]
    unfold firstBad
    by_cases c : isMeasure z = false ∨ (b = true ∧ z < 0) ∨ (some y).any (fun (y : Int) => decide (z ≤ y)) = true
    · rw [if_pos c, if_pos (decide_eq_true c)]
      simp
    · rw [if_neg c, if_neg (fun q => c (of_decide_eq_true q))]
      show firstBad b (some z) r (k + 1) = _
      have hz : z > y ∧ -1048575 ≤ z ∧ (b = true → 0 ≤ z) := by
        rw [isM] at c
        simp only [Option.any_some, decide_eq_true_eq] at c
        refine ⟨by omega, by omega, fun q => ?_⟩
        exact Int.not_lt.mp fun w => c (.inr (.inl ⟨q, w⟩))
      rw [fb_some b r z (k + 1) (fun q => by have := hz.2.2 q; omega) (by omega)]
      have e1 : (fun i => badR (fun i => (z :: r).getD i 0) (y + 1) (i + 1)) = badR (fun i => r.getD i 0) (z + 1) := by
        funext i
        unfold badR
        cases i with
        | zero => simp
        | succ i => simp
      rw [e1, Option.map_map]
      congr 1
      funext i
      show i + (k + 1) = i + 1 + k
      omega
theorem fb_true (l : List Int) : firstBad true (some BELOW) l 0 = (List.range l.length).find? (badR (fun i => l.getD i 0) 0) := by
  have h := fb_some true l (-1) 0 (fun _ => by decide) (by decide)
  have e : (fun i : Nat => i + 0) = id := rfl
  rw [e, Option.map_id] at h
  rw [show (-1 : Int) + 1 = 0 from rfl] at h
  show _ = id _
  rw [← h]
  cases l with
  | nil => rfl
  | cons z r =>
    unfold firstBad
    have : (isMeasure z = false ∨ (true = true ∧ z < 0) ∨ (some BELOW).any (fun (y : Int) => decide (z ≤ y)) = true) ↔ (isMeasure z = false ∨ (true = true ∧ z < 0) ∨ (some (-1 : Int)).any (fun (y : Int) => decide (z ≤ y)) = true) := by
      rw [isM]
      simp only [Option.any_some, decide_eq_true_eq, BELOW]
      simp
      omega
    by_cases c : (isMeasure z = false ∨ (true = true ∧ z < 0) ∨ (some BELOW).any (fun (y : Int) => decide (z ≤ y)) = true)
    · rw [if_pos c, if_pos (this.mp c)]
    · rw [if_neg c, if_neg (fun q => c (this.mpr q))]
      rfl
theorem fb_false (l : List Int) : firstBad false (some BELOW) l 0 = (List.range l.length).find? (badR (fun i => l.getD i 0) (-1048575)) := by
  have h := fb_some false l BELOW 0 (fun q => by cases q) (by decide)
  have e : (fun i : Nat => i + 0) = id := rfl
  rw [e, Option.map_id] at h
  exact h
theorem fb_none : ∀ (l : List Int) (k : Nat), firstBad true none l k = ((List.range l.length).find? (badO (fun i => l.getD i 0))).map (· + k)
  | [], k => rfl
  | z :: r, k => by
    rw [List.length_cons, find_range_succ]
    have e0 : badO (fun i => (z :: r).getD i 0) 0 = decide (isMeasure z = false ∨ (true = true ∧ z < 0) ∨ (none : Option Int).any (fun (y : Int) => decide (z ≤ y)) = true) := by
      unfold badO
      show (decide (z < 0) || decide (1048575 < z)) = _
      rw [← Bool.decide_or]
      refine decide_eq_decide.mpr ?_
      rw [isM]
      simp
      omega
    rw [e0]
    unfold firstBad
    by_cases c : isMeasure z = false ∨ (true = true ∧ z < 0) ∨ (none : Option Int).any (fun (y : Int) => decide (z ≤ y)) = true
    · rw [if_pos c, if_pos (decide_eq_true c)]
      simp
    · rw [if_neg c, if_neg (fun q => c (of_decide_eq_true q))]
      show firstBad true none r (k + 1) = _
      rw [fb_none r (k + 1)]
      have e1 : (fun i => badO (fun i => (z :: r).getD i 0) (i + 1)) = badO (fun i => r.getD i 0) := by
        funext i
        unfold badO
        simp
      rw [e1, Option.map_map]
      congr 1
      funext i
      show i + (k + 1) = i + 1 + k
      omega
theorem fb_none0 (l : List Int) : firstBad true none l 0 = (List.range l.length).find? (badO (fun i => l.getD i 0)) := by
  have h := fb_none l 0
  have e : (fun i : Nat => i + 0) = id := rfl
  rw [e, Option.map_id] at h
  exact h
abbrev faultL (xs zs ys : List Int) : Int × Int := faultOf xs.length zs.length ys.length (fun i => xs.getD i 0) (fun i => zs.getD i 0) (fun i => ys.getD i 0)
def tabOf (xs zs ys : List Int) : Table := ⟨xs, zs, (List.range zs.length).map fun (j : Nat) => (ys.drop (j * xs.length)).take xs.length⟩
theorem judge_is (xs zs ys : List Int) : (faultL xs zs ys = (0, 0) ∧ judge xs zs ys = .ok (tabOf xs zs ys)) ∨ (faultL xs zs ys ≠ (0, 0) ∧ ∃ f : Fault, judge xs zs ys = .error f ∧ ((f.1 : Int), (f.2 : Int)) = faultL xs zs ys) := by
  unfold faultL faultOf judge STATIONS LEVELS
  by_cases c1 : xs.length < 2 ∨ 24 < xs.length
  · rw [if_pos c1, if_pos c1]
    exact .inr ⟨by decide, _, rfl, rfl⟩
  rw [if_neg c1, if_neg c1]
  by_cases c2 : zs.length < 2 ∨ 16 < zs.length
  · rw [if_pos c2, if_pos c2]
    exact .inr ⟨by decide, _, rfl, rfl⟩
  rw [if_neg c2, if_neg c2]
  by_cases c3 : ys.length ≠ xs.length * zs.length
  · rw [if_pos c3, if_pos c3]
    exact .inr ⟨(fun q => by injection q with q; cases q), _, rfl, rfl⟩
  rw [if_neg c3, if_neg c3, fb_true, fb_false, fb_none0]
  cases (List.range xs.length).find? (badR (fun i => xs.getD i 0) 0) with
  | some i => exact .inr ⟨(fun q => by injection q with q; cases q), _, rfl, rfl⟩
  | none =>
    cases (List.range zs.length).find? (badR (fun i => zs.getD i 0) (-1048575)) with
    | some i => exact .inr ⟨(fun q => by injection q with q; cases q), _, rfl, rfl⟩
    | none =>
      cases (List.range ys.length).find? (badO (fun i => ys.getD i 0)) with
      | some i => exact .inr ⟨(fun q => by injection q with q; cases q), _, rfl, rfl⟩
      | none => exact .inl ⟨rfl, rfl⟩
structure Good (a b c : Nat) (f g h : Nat → Int) : Prop where
  a2 : 2 ≤ a
  a24 : a ≤ 24
  b2 : 2 ≤ b
  b16 : b ≤ 16
  ce : c = a * b
  gx : Gaps (gp f) (a - 1)
  gu : Gaps (gp g) (b - 1)
  fx : ∀ j, j < a → 0 ≤ f j ∧ f j ≤ 1048575
  gz : ∀ j, j < b → -1048575 ≤ g j ∧ g j ≤ 1048575
  hy : ∀ j, j < c → 0 ≤ h j ∧ h j ≤ 1048575
theorem rising {f : Nat → Int} {least : Int} {n : Nat} (h : (List.range n).find? (badR f least) = none) : (∀ j, j < n → least ≤ f j ∧ f j ≤ 1048575) ∧ ∀ j, j + 1 < n → f j < f (j + 1) := by
  have k : ∀ j, j < n → ¬ f j ≤ (if j = 0 then least - 1 else f (j - 1)) ∧ ¬ 1048575 < f j := fun j hj => by
    have := List.find?_eq_none.mp h j (List.mem_range.mpr hj)
    unfold badR at this
    rw [Bool.or_eq_true, decide_eq_true_eq, decide_eq_true_eq] at this
    exact ⟨fun q => this (.inl q), fun q => this (.inr q)⟩
  have up : ∀ j, j + 1 < n → f j < f (j + 1) := fun j hj => by
    have := (k (j + 1) hj).1
    rw [if_neg (by omega)] at this
    exact Int.not_le.mp this
  refine ⟨fun j hj => ⟨?_, Int.not_lt.mp (k j hj).2⟩, up⟩
  induction j with
  | zero =>
    have := (k 0 hj).1
    rw [if_pos rfl] at this
    omega
  | succ j ih =>
    have := ih (by omega)
    have := up j hj
    omega
theorem good_of {a b c : Nat} {f g h : Nat → Int} (e : faultOf a b c f g h = (0, 0)) : Good a b c f g h := by
  unfold faultOf at e
  by_cases c1 : a < 2 ∨ 24 < a
  · rw [if_pos c1] at e
    exact absurd e (by decide)
  rw [if_neg c1] at e
  by_cases c2 : b < 2 ∨ 16 < b
  · rw [if_pos c2] at e
    exact absurd e (by decide)
  rw [if_neg c2] at e
  by_cases c3 : c ≠ a * b
  · rw [if_pos c3] at e
    injection e with e
    cases e
  rw [if_neg c3] at e
  have c3 : c = a * b := by omega
  cases e1 : (List.range a).find? (badR f 0) with
  | some i =>
    rw [e1] at e
    injection e with e
    cases e
  | none =>
    rw [e1] at e
    cases e2 : (List.range b).find? (badR g (-1048575)) with
    | some i =>
      rw [e2] at e
      injection e with e
      cases e
    | none =>
      rw [e2] at e
      cases e3 : (List.range c).find? (badO h) with
      | some i =>
        rw [e3] at e
        injection e with e
        cases e
      | none =>
        obtain ⟨p1, p2⟩ := rising e1
        obtain ⟨q1, q2⟩ := rising e2
        refine ⟨by omega, by omega, by omega, by omega, c3, ⟨by omega, by omega, fun j hj => ?_, fun j hj => ?_⟩, ⟨by omega, by omega, fun j hj => ?_, fun j hj => ?_⟩, p1, q1, fun j hj => ?_⟩
        · have := p2 j (by omega)
          show 0 < f (j + 1) - f j
          omega
        · have := p1 j (by omega)
          have := p1 (j + 1) (by omega)
          show Sz 21 (f (j + 1) - f j)
          exact Sz.of (by omega) (by omega)
        · have := q2 j (by omega)
          show 0 < g (j + 1) - g j
          omega
        · have := q1 j (by omega)
          have := q1 (j + 1) (by omega)
          show Sz 21 (g (j + 1) - g j)
          exact Sz.of (by omega) (by omega)
        · have := List.find?_eq_none.mp e3 j (List.mem_range.mpr hj)
          unfold badO at this
          rw [Bool.or_eq_true, decide_eq_true_eq, decide_eq_true_eq] at this
          constructor
          · exact Int.not_lt.mp fun q => this (.inl q)
          · exact Int.not_lt.mp fun q => this (.inr q)
theorem self_map (l : List Int) : l = (List.range l.length).map fun i => l.getD i 0 := by
  have := map_getD l 0 id
  rw [List.map_id] at this
  exact this
theorem tab_of {xs zs ys : List Int} (G : Good xs.length zs.length ys.length (fun i => xs.getD i 0) (fun i => zs.getD i 0) (fun i => ys.getD i 0)) :
    Tab (tabOf xs zs ys) (xs.length - 1) (zs.length - 1) (fun i => xs.getD i 0) (fun i => zs.getD i 0) (fun k j => ys.getD (k * xs.length + j) 0) where
  gx := G.gx
  gu := G.gu
  xs := by
    have := G.a2
    have e : xs.length - 1 + 1 = xs.length := by omega
    rw [e]
    exact self_map xs
  zs := by
    have := G.b2
    have e : zs.length - 1 + 1 = zs.length := by omega
    rw [e]
    exact self_map zs
  ys := by
    have h1 := G.a2
    have h2 := G.b2
    have e : xs.length - 1 + 1 = xs.length := by omega
    have e' : zs.length - 1 + 1 = zs.length := by omega
    rw [e, e']
    refine List.map_congr_left fun k hk => ?_
    have hk := List.mem_range.mp hk
    have hl : k * xs.length + xs.length ≤ ys.length := by
      rw [G.ce, ← Nat.succ_mul, Nat.mul_comm]
      exact Nat.mul_le_mul_left _ hk
    refine List.ext_getElem? fun i => ?_
    by_cases h : i < xs.length
    · rw [List.getElem?_take_of_lt h, List.getElem?_drop, List.getElem?_map, List.getElem?_range h, List.getElem?_eq_getElem (by omega)]
      simp
      rw [List.getElem?_eq_getElem (by omega)]
      rfl
    · rw [List.getElem?_eq_none (by simp; omega), List.getElem?_eq_none (by simp; omega)]
end Hull
set_option linter.all false
set_option maxRecDepth 100000
set_option maxHeartbeats 4000000
set_option Elab.async false
namespace Hull
open Loft
theorem drop_cons {l : List Int} {p : Nat} {a : Int} {r : List Int} (h : l.drop p = a :: r) : p < l.length ∧ l.getD p 0 = a ∧ r = l.drop (p + 1) := by
  have hp : p < l.length := by
    rcases Nat.lt_or_ge p l.length with h1 | h1
    · exact h1
    · rw [List.drop_eq_nil_of_le h1] at h
      cases h
  rw [List.drop_eq_getElem_cons hp] at h
  injection h with h1 h2
  refine ⟨hp, ?_, h2.symm⟩
  rw [List.getD_eq_getElem?_getD, List.getElem?_eq_getElem hp]
  exact h1
theorem rows_at {l : List Int} {p k : Nat} {ys : List (List Int)} {t : List Int} (h : PyFlat.rows (k + 1) (l.drop p) = some (ys, t)) :
    ∃ (j : Nat) (xs : List (List Int)), p < l.length ∧ l.getD p 0 = (j : Int) ∧ p + 1 + j ≤ l.length ∧ PyFlat.rows k (l.drop (p + 1 + j)) = some (xs, t) ∧ ys = (l.drop (p + 1)).take j :: xs := by
  unfold PyFlat.rows at h
  cases e : l.drop p with
  | nil =>
    rw [e] at h
    cases h
  | cons a r =>
    rw [e] at h
    obtain ⟨hp, ha, hr⟩ := drop_cons e
    unfold PyFlat.row at h
    by_cases c : 0 ≤ a ∧ a.toNat ≤ r.length
    · simp only [if_pos c] at h
      cases e2 : PyFlat.rows k (r.drop a.toNat) with
      | none =>
        rw [e2] at h
        cases h
      | some y =>
        obtain ⟨xs, t'⟩ := y
        rw [e2] at h
        simp only [Option.some.injEq, Prod.mk.injEq] at h
        have hlen : r.length = l.length - (p + 1) := by rw [hr, List.length_drop]
        refine ⟨a.toNat, xs, hp, by rw [ha]; omega, by omega, ?_, ?_⟩
        · rw [← h.2, ← e2, hr, List.drop_drop]
        · rw [← h.1, hr]
    · simp only [if_neg c] at h
      cases h
def Sm (xs : List (List Int)) : Nat := (xs.map fun r => 1 + r.length).sum
theorem Sm_cast : ∀ xs : List (List Int), ((xs.map fun r => (1 : Int) + (r.length : Int)).sum) = (Sm xs : Int)
  | [] => rfl
  | a :: xs => by
    have := Sm_cast xs
    unfold Sm at *
    simp only [List.map_cons, List.sum_cons]
    rw [this]
    omega
theorem rows_end {l : List Int} : ∀ (k p : Nat) (xs : List (List Int)) (t : List Int), PyFlat.rows k (l.drop p) = some (xs, t) → p ≤ l.length → t = l.drop (p + Sm xs) ∧ p + Sm xs ≤ l.length ∧ xs.length = k
  | 0, p, xs, t, h, hp => by
    unfold PyFlat.rows at h
    injection h with h
    injection h with h1 h2
    subst h1
    exact ⟨h2.symm, hp, rfl⟩
  | k + 1, p, ys, t, h, hp => by
    obtain ⟨j, xs, h1, h2, h3, h4, h5⟩ := rows_at h
    obtain ⟨q1, q2, q3⟩ := rows_end k _ _ _ h4 h3
    have hl : ((l.drop (p + 1)).take j).length = j := by
      rw [List.length_take, List.length_drop]
      omega
    have e : Sm ys = 1 + j + Sm xs := by
      rw [h5]
      unfold Sm
      rw [List.map_cons, List.sum_cons, hl]
    rw [e]
    refine ⟨?_, by omega, ?_⟩
    · rw [q1]
      congr 1
      omega
    · rw [h5, List.length_cons, q3]
def IsCall (a : Int) (nums : List Int) (xs : List (List Int)) (c : LoftFloatSeed.Call) : Prop :=
  (a = 1 ∧ ∃ r0 r1 r2, xs = [r0, r1, r2] ∧ c = .make r0 r1 r2) ∨ (a = 2 ∧ ∃ z, nums = [z] ∧ c = .area z) ∨ (a = 3 ∧ ∃ z, nums = [z] ∧ c = .volume z) ∨ (a = 4 ∧ ∃ z, nums = [z] ∧ c = .centre z) ∨ (a = 5 ∧ ∃ z, nums = [z] ∧ c = .meta_ z) ∨
  (a = 6 ∧ ∃ r0 r1, xs = [r0, r1] ∧ c = .depth r0 r1) ∨ (a = 7 ∧ ∃ r0 r1, xs = [r0, r1] ∧ c = .stand r0 r1)
theorem len0 {α : Type} {l : List α} (h : l.length = 0) : l = [] := List.eq_nil_of_length_eq_zero h
theorem len1 {α : Type} {l : List α} (h : l.length = 1) : ∃ a, l = [a] := List.length_eq_one_iff.mp h
theorem len2 {α : Type} {l : List α} (h : l.length = 2) : ∃ a b, l = [a, b] := match l, h with | [a, b], _ => ⟨a, b, rfl⟩
theorem len3 {α : Type} {l : List α} (h : l.length = 3) : ∃ a b c, l = [a, b, c] := match l, h with | [a, b, c], _ => ⟨a, b, c, rfl⟩
theorem call_at {l : List Int} {p : Nat} {c : List (List Int)} {t : List Int} (h : PyFlat.call PyWqlftf.shape (l.drop p) = some (c, t)) :
    ∃ (a : Int) (nn k : Nat) (xs : List (List Int)) (c' : LoftFloatSeed.Call), p < l.length ∧ l.getD p 0 = a ∧ PyWqlftf.shape a = some (nn, k) ∧ p + 1 + nn ≤ l.length ∧ PyFlat.rows k (l.drop (p + 1 + nn)) = some (xs, t) ∧
      IsCall a ((l.drop (p + 1)).take nn) xs c' ∧ ∀ s, FloatNeutral.step s (PyWqlftf.whole c) = LoftFloatSeed.step s c' := by
  unfold PyFlat.call at h
  cases e : l.drop p with
  | nil =>
    rw [e] at h
    cases h
  | cons a r =>
    rw [e] at h
    obtain ⟨hp, ha, hr⟩ := drop_cons e
    simp only at h
    cases es : PyWqlftf.shape a with
    | none =>
      rw [es] at h
      cases h
    | some y =>
      obtain ⟨nn, k⟩ := y
      rw [es] at h
      have es' := es
      simp only at h
      by_cases c1 : r.length < nn
      · rw [if_pos c1] at h
        cases h
      rw [if_neg c1] at h
      cases er : PyFlat.rows k (r.drop nn) with
      | none =>
        rw [er] at h
        cases h
      | some y =>
        obtain ⟨xs, t'⟩ := y
        rw [er] at h
        simp only [Option.some.injEq, Prod.mk.injEq] at h
        obtain ⟨hc, ht⟩ := h
        subst ht
        have hlen : r.length = l.length - (p + 1) := by rw [hr, List.length_drop]
        have hrow : PyFlat.rows k (l.drop (p + 1 + nn)) = some (xs, t') := by rw [← er, hr, List.drop_drop]
        have hk := (rows_end k _ _ _ hrow (by omega)).2.2
        have hn : (r.take nn).length = nn := by
          rw [List.length_take]
          omega
        have hcall : ∃ c' : LoftFloatSeed.Call, IsCall a (r.take nn) xs c' ∧ ∀ s, FloatNeutral.step s (PyWqlftf.whole ((a :: r.take nn) :: xs)) = LoftFloatSeed.step s c' := by
          unfold PyWqlftf.shape at es
          by_cases a1 : a = 1
          · rw [if_pos a1] at es
            injection es with es
            injection es with e1 e2
            subst e1 e2
            obtain ⟨r0, r1, r2, rfl⟩ := len3 hk
            rw [len0 hn, a1]
            exact ⟨_, .inl ⟨rfl, r0, r1, r2, rfl, rfl⟩, fun s => rfl⟩
          rw [if_neg a1] at es
          by_cases a2 : a = 2
          · rw [if_pos a2] at es
            injection es with es
            injection es with e1 e2
            subst e1 e2
            obtain ⟨z, hz⟩ := len1 hn
            rw [len0 hk, hz, a2]
            exact ⟨_, .inr (.inl ⟨rfl, z, rfl, rfl⟩), fun s => rfl⟩
          rw [if_neg a2] at es
          by_cases a3 : a = 3
          · rw [if_pos a3] at es
            injection es with es
            injection es with e1 e2
            subst e1 e2
            obtain ⟨z, hz⟩ := len1 hn
            rw [len0 hk, hz, a3]
            exact ⟨_, .inr (.inr (.inl ⟨rfl, z, rfl, rfl⟩)), fun s => rfl⟩
          rw [if_neg a3] at es
          by_cases a4 : a = 4
          · rw [if_pos a4] at es
            injection es with es
            injection es with e1 e2
            subst e1 e2
            obtain ⟨z, hz⟩ := len1 hn
            rw [len0 hk, hz, a4]
            exact ⟨_, .inr (.inr (.inr (.inl ⟨rfl, z, rfl, rfl⟩))), fun s => rfl⟩
          rw [if_neg a4] at es
          by_cases a5 : a = 5
          · rw [if_pos a5] at es
            injection es with es
            injection es with e1 e2
            subst e1 e2
            obtain ⟨z, hz⟩ := len1 hn
            rw [len0 hk, hz, a5]
            exact ⟨_, .inr (.inr (.inr (.inr (.inl ⟨rfl, z, rfl, rfl⟩)))), fun s => rfl⟩
          rw [if_neg a5] at es
          by_cases a6 : a = 6
          · rw [if_pos a6] at es
            injection es with es
            injection es with e1 e2
            subst e1 e2
            obtain ⟨r0, r1, rfl⟩ := len2 hk
            rw [len0 hn, a6]
            exact ⟨_, .inr (.inr (.inr (.inr (.inr (.inl ⟨rfl, r0, r1, rfl, rfl⟩))))), fun s => rfl⟩
          rw [if_neg a6] at es
          by_cases a7 : a = 7
          · rw [if_pos a7] at es
            injection es with es
            injection es with e1 e2
            subst e1 e2
            obtain ⟨r0, r1, rfl⟩ := len2 hk
            rw [len0 hn, a7]
            exact ⟨_, .inr (.inr (.inr (.inr (.inr (.inr ⟨rfl, r0, r1, rfl, rfl⟩))))), fun s => rfl⟩
          rw [if_neg a7] at es
          cases es
        obtain ⟨c', i1, i2⟩ := hcall
        refine ⟨a, nn, k, xs, c', hp, ha, es', by omega, hrow, ?_, ?_⟩
        · rw [← hr]
          exact i1
        · rw [← hc]
          exact i2
theorem calls_next {l : List Int} {f p : Nat} {cs : List (List (List Int))} (h : PyFlat.calls PyWqlftf.shape f (l.drop p) = some cs) (hp : p < l.length) :
    ∃ (f' : Nat) (c : List (List Int)) (t : List Int) (cs' : List (List (List Int))), PyFlat.call PyWqlftf.shape (l.drop p) = some (c, t) ∧ PyFlat.calls PyWqlftf.shape f' t = some cs' ∧ cs = c :: cs' := by
  rw [List.drop_eq_getElem_cons hp] at h ⊢
  cases f with
  | zero => cases h
  | succ f =>
    unfold PyFlat.calls at h
    cases e : PyFlat.call PyWqlftf.shape (l[p] :: l.drop (p + 1)) with
    | none =>
      rw [e] at h
      cases h
    | some y =>
      obtain ⟨c, t⟩ := y
      rw [e] at h
      simp only at h
      cases e2 : PyFlat.calls PyWqlftf.shape f t with
      | none =>
        rw [e2] at h
        cases h
      | some cs' =>
        rw [e2] at h
        injection h with h
        exact ⟨f, c, t, cs', rfl, e2, h.symm⟩
theorem calls_end {l : List Int} {f p : Nat} {cs : List (List (List Int))} (h : PyFlat.calls PyWqlftf.shape f (l.drop p) = some cs) (hp : l.length ≤ p) : cs = [] := by
  rw [List.drop_eq_nil_of_le hp] at h
  unfold PyFlat.calls at h
  injection h with h
  exact h.symm
structure Loads (ws hs : List Int) : Prop where
  len : ws.length = hs.length
  most : ws.length ≤ 256
  w : ∀ z ∈ ws, 0 ≤ z ∧ z ≤ 18446744073709551615
  h : ∀ z ∈ hs, -1048575 ≤ z ∧ z ≤ 1048575
def Lw (ws hs : List Int) : Int := ((List.range ws.length).map fun k => ws.getD k 0 * hs.getD k 0).sum
def loadsOf (ws hs : List Int) : List Load := (ws.map Int.toNat).zip hs
theorem weight_is : ∀ (ws hs : List Int), ws.length = hs.length → (∀ z ∈ ws, 0 ≤ z) → ((weight (loadsOf ws hs) : Nat) : Int) = ws.sum
  | [], _, _, _ => rfl
  | w :: ws, [], h, _ => by cases h
  | w :: ws, z :: hs, h, p => by
    have ih := weight_is ws hs (by simpa using h) fun q hq => p q (List.mem_cons_of_mem _ hq)
    have hw := p w List.mem_cons_self
    rw [List.sum_cons, ← ih]
    show ((w.toNat + weight (loadsOf ws hs) : Nat) : Int) = _
    omega
theorem lever_is : ∀ (ws hs : List Int), ws.length = hs.length → (∀ z ∈ ws, 0 ≤ z) → (loadsOf ws hs).foldr (fun (u : Load) (n : Int) => (u.1 : Int) * u.2 + n) 0 = Lw ws hs
  | [], _, _, _ => rfl
  | w :: ws, [], h, _ => by cases h
  | w :: ws, z :: hs, h, p => by
    have ih := lever_is ws hs (by simpa using h) fun q hq => p q (List.mem_cons_of_mem _ hq)
    have hw := p w List.mem_cons_self
    show ((w.toNat : Nat) : Int) * z + (loadsOf ws hs).foldr (fun (u : Load) (n : Int) => (u.1 : Int) * u.2 + n) 0 = _
    rw [ih]
    unfold Lw
    rw [List.length_cons, List.range_succ_eq_map, List.map_cons, List.sum_cons, List.map_map]
    have e : (w.toNat : Int) = w := by omega
    rw [e]
    rfl
theorem not_loads {ws hs : List Int} : ¬ Loads ws hs ↔ (ws.length ≠ hs.length ∨ LoftFloatSeed.LOADS < ws.length ∨ (ws.all fun (w : Int) => LoftFloatSeed.within w LoftFloatSeed.HEAVY) = false ∨ hs.all isMeasure = false) := by
  have e1 : (ws.all fun (w : Int) => LoftFloatSeed.within w LoftFloatSeed.HEAVY) = true ↔ ∀ z ∈ ws, 0 ≤ z ∧ z ≤ 18446744073709551615 := by
    rw [List.all_eq_true]
    refine ⟨fun h z hz => ?_, fun h z hz => ?_⟩
    · have := h z hz
      unfold LoftFloatSeed.within LoftFloatSeed.HEAVY at this
      rw [Bool.and_eq_true, decide_eq_true_eq, decide_eq_true_eq] at this
      omega
    · have := h z hz
      unfold LoftFloatSeed.within LoftFloatSeed.HEAVY
      rw [Bool.and_eq_true, decide_eq_true_eq, decide_eq_true_eq]
      omega
  have e2 : hs.all isMeasure = true ↔ ∀ z ∈ hs, -1048575 ≤ z ∧ z ≤ 1048575 := by
    rw [List.all_eq_true]
    refine ⟨fun h z hz => ?_, fun h z hz => ?_⟩
    · have := h z hz
      unfold isMeasure MOST at this
      rw [decide_eq_true_eq] at this
      omega
    · have := h z hz
      unfold isMeasure MOST
      rw [decide_eq_true_eq]
      omega
  have e3 : Loads ws hs ↔ (ws.length = hs.length ∧ ws.length ≤ 256 ∧ (ws.all fun (w : Int) => LoftFloatSeed.within w LoftFloatSeed.HEAVY) = true ∧ hs.all isMeasure = true) := by
    rw [e1, e2]
    exact ⟨fun h => ⟨h.len, h.most, h.w, h.h⟩, fun h => ⟨h.1, h.2.1, h.2.2.1, h.2.2.2⟩⟩
  rw [e3]
  unfold LoftFloatSeed.LOADS
  cases (ws.all fun (w : Int) => LoftFloatSeed.within w LoftFloatSeed.HEAVY) <;> cases hs.all isMeasure <;> simp <;> omega
def Low (a b : Int) : List Int := [a / ((Int.gcd a b : Nat) : Int), b / ((Int.gcd a b : Nat) : Int)]
theorem low_is {a b : Int} (hb : 0 < b) : LoftFloatSeed.number ((a : Rat) / (b : Rat)) = Low a b := number_eq hb
def Un (x u : Nat → Int) (n m : Nat) : Int := 2520 * Sc (gp u) m * Sh x n
theorem Un_is (x u : Nat → Int) (n m : Nat) : Un x u n m = 2520 * Wh x u n m := Int.mul_assoc ..
section
variable {T : Table} {n m : Nat} {x u : Nat → Int} {v : Nat → Nat → Int}
theorem Tab.un0 (B : Tab T n m x u v) : 0 < Un x u n m := by
  rw [Un_is]
  have := B.wh0
  omega
theorem Tab.hasF (B : Tab T n m x u v) {z : Int} (h : ¬ (u 0 ≤ z ∧ z ≤ u m)) : T.hasZ z = false := by
  rw [B.hasZ, ← Bool.decide_and]
  exact decide_eq_false h
theorem Tab.hasT (B : Tab T n m x u v) {z : Int} (h1 : u 0 ≤ z) (h2 : z ≤ u m) : T.hasZ z = true := by
  rw [B.hasZ, ← Bool.decide_and]
  exact decide_eq_true ⟨h1, h2⟩
theorem at_out (B : Tab T n m x u v) {z : Int} {f : Table → LoftFloatSeed.Answer} (h : ¬ (u 0 ≤ z ∧ z ≤ u m)) : LoftFloatSeed.at_ (some T) z f = [-4] := by
  unfold LoftFloatSeed.at_
  simp only [B.hasF h, if_true]
  rfl
theorem at_in (B : Tab T n m x u v) {z : Int} {f : Table → LoftFloatSeed.Answer} (h1 : u 0 ≤ z) (h2 : z ≤ u m) : LoftFloatSeed.at_ (some T) z f = f T := by
  unfold LoftFloatSeed.at_
  simp [B.hasT h1 h2]
theorem ans_area (B : Tab T n m x u v) {z : Int} {k : Nat} (hk : k < m) (h1 : ∀ j, 0 < j → j ≤ k → u j ≤ z) (h2 : k + 1 = m ∨ z < u (k + 1)) (hz : z ≤ u m) : LoftFloatSeed.tells (LoftFloatSeed.number (T.area (z : Rat))) = 0 :: Low (Hr (Cf (gp u) (Ar x v n) m k) 4 (z - u k) 4) (Wh x u n m) := by
  rw [B.area hk h1 h2 hz, low_is B.wh0]
  rfl
theorem ans_volume (B : Tab T n m x u v) (z : Int) : LoftFloatSeed.tells (LoftFloatSeed.number (T.volume (z : Rat))) = 0 :: Low (Vo x u v n m z) (Un x u n m) := by
  rw [B.volume, ← Un_is, low_is B.un0]
  rfl
theorem ans_none (B : Tab T n m x u v) {z : Int} {f : LoftFloatSeed.Answer} (h : ¬ 0 < Vo x u v n m z) : (if T.volume (z : Rat) ≤ 0 then LoftFloatSeed.no 5 else f) = [-5] := by
  rw [if_pos ((B.volume_pos z).mpr (by omega))]
  rfl
theorem ans_some (B : Tab T n m x u v) {z : Int} {f : LoftFloatSeed.Answer} (h : 0 < Vo x u v n m z) : (if T.volume (z : Rat) ≤ 0 then LoftFloatSeed.no 5 else f) = f := by
  rw [if_neg fun q => by have := (B.volume_pos z).mp q; omega]
theorem ans_centre (B : Tab T n m x u v) {z : Int} (h : 0 < Vo x u v n m z) : LoftFloatSeed.tells (LoftFloatSeed.number (T.centre (z : Rat)).1 ++ LoftFloatSeed.number (T.centre (z : Rat)).2) = 0 :: (Low (Lo x u v n m z) (Vo x u v n m z) ++ Low (Mo x u v n m z) (Vo x u v n m z)) := by
  rw [B.centre]
  simp only [low_is h]
  rfl
theorem Tab.mb0 (B : Tab T n m x u v) {z : Int} (k : Nat) (h : 0 < Vo x u v n m z) : 0 < Mb x u v n m k z := Int.mul_pos h (B.s10 k z)
theorem ans_meta (B : Tab T n m x u v) {z : Int} {k : Nat} (hk : k < m) (h1 : ∀ j, 0 < j → j ≤ k → u j ≤ z) (h2 : k + 1 = m ∨ z < u (k + 1)) (hz : z ≤ u m) (h : 0 < Vo x u v n m z) : LoftFloatSeed.tells (LoftFloatSeed.number (T.meta_ (z : Rat))) = 0 :: Low (Ma x u v n m k z) (Mb x u v n m k z) := by
  rw [B.meta hk h1 h2 hz h, low_is (B.mb0 k h)]
  rfl
theorem ans_stand (B : Tab T n m x u v) {z : Int} {k : Nat} (hk : k < m) (h1 : ∀ j, 0 < j → j ≤ k → u j ≤ z) (h2 : k + 1 = m ∨ z < u (k + 1)) (hz : z ≤ u m) (h : 0 < Vo x u v n m z) {ws hs : List Int} (L : Loads ws hs) (hw : 0 < ws.sum) :
    LoftFloatSeed.tells (LoftFloatSeed.number (T.meta_ (z : Rat) - height (loadsOf ws hs))) = 0 :: Low (Ma x u v n m k z * ws.sum - Lw ws hs * Mb x u v n m k z) (Mb x u v n m k z * ws.sum) := by
  have b0 := B.mb0 k h
  rw [B.meta hk h1 h2 hz h]
  unfold height
  rw [lever_is ws hs L.len fun z hz => (L.w z hz).1]
  have ew : ((weight (loadsOf ws hs) : Nat) : Rat) = ((ws.sum : Int) : Rat) := by
    rw [← weight_is ws hs L.len fun z hz => (L.w z hz).1]
    rfl
  rw [ew, stand_alg (ratne (by omega)) (ratne (by omega)), ← Rat.intCast_mul, ← Rat.intCast_mul, ← Rat.intCast_mul, ← Rat.intCast_sub, low_is (Int.mul_pos b0 hw)]
  rfl
theorem laden_no (B : Tab T n m x u v) {ws hs : List Int} {f : Table → List Load → LoftFloatSeed.Answer} (L : ¬ Loads ws hs) : LoftFloatSeed.laden (some T) ws hs f = [-1] := by
  unfold LoftFloatSeed.laden
  simp only
  rw [if_pos (not_loads.mp L)]
  rfl
theorem Tab.high (B : Tab T n m x u v) : LoftFloatSeed.DEEP < T.deep ↔ 2000 < u m - u 0 := by
  rw [B.deep]
  unfold LoftFloatSeed.DEEP
  omega
theorem sum_nonneg : ∀ (ws : List Int), (∀ z ∈ ws, 0 ≤ z) → 0 ≤ ws.sum
  | [], _ => Int.le_refl _
  | w :: ws, h => by
    have := sum_nonneg ws fun z hz => h z (List.mem_cons_of_mem _ hz)
    have := h w List.mem_cons_self
    rw [List.sum_cons]
    omega
theorem laden_deep (B : Tab T n m x u v) {ws hs : List Int} {f : Table → List Load → LoftFloatSeed.Answer} (L : Loads ws hs) (h : ws.sum = 0 ∨ 2000 < u m - u 0) : LoftFloatSeed.laden (some T) ws hs f = [-9] := by
  unfold LoftFloatSeed.laden
  simp only
  rw [if_neg fun q => not_loads.mpr q L, if_pos ?_]
  · rfl
  · rw [B.high]
    have := weight_is ws hs L.len fun z hz => (L.w z hz).1
    unfold loadsOf at this
    omega
theorem laden_at (B : Tab T n m x u v) {ws hs : List Int} {f : Table → List Load → LoftFloatSeed.Answer} (L : Loads ws hs) (h : ¬ (ws.sum = 0 ∨ 2000 < u m - u 0)) : LoftFloatSeed.laden (some T) ws hs f = f T (loadsOf ws hs) := by
  unfold LoftFloatSeed.laden
  simp only
  rw [if_neg fun q => not_loads.mpr q L, if_neg ?_]
  · rfl
  · rw [B.high]
    have := weight_is ws hs L.len fun z hz => (L.w z hz).1
    unfold loadsOf at this
    omega
def Fl (x u : Nat → Int) (v : Nat → Nat → Int) (n m : Nat) (goal : Int) : Option Int := ((List.range ((u m - u 0).toNat + 1)).find? fun (i : Nat) => decide (goal ≤ Vo x u v n m (u 0 + (i : Int)))).map fun (i : Nat) => u 0 + (i : Int)
theorem floats_is (B : Tab T n m x u v) {ws hs : List Int} (L : Loads ws hs) : T.floats (weight (loadsOf ws hs)) = Fl x u v n m (ws.sum * Un x u n m) := by
  rw [B.floats, weight_is ws hs L.len fun z hz => (L.w z hz).1, ← Un_is]
  rfl
theorem Fl_some (B : Tab T n m x u v) {goal z : Int} (h : Fl x u v n m goal = some z) : u 0 ≤ z ∧ z ≤ u m ∧ goal ≤ Vo x u v n m z := by
  unfold Fl at h
  obtain ⟨i, hi, rfl⟩ := Option.map_eq_some_iff.mp h
  have h1 := List.find?_some hi
  have h2 := List.mem_range.mp (List.mem_of_find?_eq_some hi)
  have := rise B.gu (i := 0) (j := m) (Nat.zero_le _) (Nat.le_refl _)
  exact ⟨by omega, by omega, of_decide_eq_true h1⟩
end
end Hull
set_option linter.all false
set_option maxRecDepth 100000
set_option maxHeartbeats 4000000
set_option Elab.async false
namespace Hf
open PySem PySem.Spec PyProof.Rows L2
open PySem.W (Codec)
open Hull (Sz)
def top (i : Nat) : Stmt := PySem.Challenge.pw_hullafloat_s01_answers.main.body.getD i (.Pass ⟨0, 0, 0, 0⟩)
theorem Sz.mulOk {m n : Nat} {a b : Int} (ha : Sz m a) (hb : Sz n b) (h : m + n ≤ 134217728) : IntMulOk a b := IntMulOk.of_le (PySem.intBits_le_iff.mpr ha) (PySem.intBits_le_iff.mpr hb) h
section
variable {X : Cx}
theorem op_mulG : OpR X (binaryOp .Mult) (rI IntMulOk fun i j => .int (i * j)) := opI fun _ _ _ _ _ _ _ hc q => mul_int q hc
theorem noPy {x y : Int} (h : Sz 9000 y ∨ Sz 13500 x) : Builtin.divisionGoesByPylong x y = false := by
  rcases h with h | h
  · by_cases e : y = 0
    · subst e
      exact PyProof.noPylong_small (by decide)
    · exact PyProof.noPylong_of_log2 (h.log e)
  · by_cases hy : y.natAbs.log2 < 9000
    · exact PyProof.noPylong_of_log2 hy
    · have kx : (if x == 0 then 0 else x.natAbs.log2 / 30 + 1) ≤ 450 := by
        by_cases e : x = 0
        · subst e
          decide
        · have := h.log e
          rw [if_neg (by simpa using e)]
          omega
      have ky : 300 < (if y == 0 then 0 else y.natAbs.log2 / 30 + 1) := by
        by_cases e : y = 0
        · subst e
          exact absurd (by decide) hy
        · rw [if_neg (by simpa using e)]
          omega
      show (decide ((if y == 0 then 0 else y.natAbs.log2 / 30 + 1) > 300) && decide ((if x == 0 then 0 else x.natAbs.log2 / 30 + 1) > (if y == 0 then 0 else y.natAbs.log2 / 30 + 1) + 150)) = false
      rw [decide_eq_false (p := (if x == 0 then 0 else x.natAbs.log2 / 30 + 1) > (if y == 0 then 0 else y.natAbs.log2 / 30 + 1) + 150) (by omega), Bool.and_false]
def CDivG (i j : Int) : Prop := 0 < j ∧ (Sz 9000 j ∨ Sz 13500 i)
theorem CDivG.sm {i j : Int} (h : 0 < j) (z : Sz 9000 j) : CDivG i j := ⟨h, .inl z⟩
theorem op_fdivG : OpR X (binaryOp .FloorDiv) (rI CDivG fun i j => .int (i / j)) := opI fun i j _ _ _ _ _ hc q => by
  have h1 : (0 : Int) < j := hc.1
  exact floordiv_int (by omega) (by rw [Int.fdiv_eq_ediv_of_nonneg i (by omega)]; exact q) (.inl (noPy hc.2))
def ipM : TIp := fun x y H Q => ∃ i j, x = .int i ∧ y = .int j ∧ IntMulOk i j ∧ Q (.int (i * j)) H
theorem ip_mul : PIp X .Mult ipM := by
  intro pins s σ H x y v u Q I r1 r2 h
  obtain ⟨i, j, e1, e2, hm, q⟩ := h
  subst e1; subst e2
  obtain ⟨t, rfl⟩ := r1
  obtain ⟨t', rfl⟩ := r2
  exact imul_int ⟨.int _, H, I.tok _, ⟨_, rfl⟩, q⟩ hm
def rGetL (K : PySem.W.Frag) : V → V → Hp → VK → Prop := fun x y H Q => ∃ p xs, ∃ j : Nat, ∃ v, x = .ref p ∧ y = .int j ∧ SqL K H p xs ∧ xs[j]? = some v ∧ Q v H
theorem get_list : PGet X (rGetL X.K) := by
  intro pins s σ H x y v u Q I rx ry h
  obtain ⟨p, xs, j, z, rfl, rfl, hq, he, q⟩ := h
  cases rx
  obtain ⟨t, rfl⟩ := ry
  obtain ⟨its, r, pl, hz⟩ := I.list hq
  obtain ⟨w, ew, rw'⟩ := r.get he
  have hl := r.length
  have hn := line63
  have hj := (List.getElem?_eq_some_iff.mp he).1
  exact wpAny_getItem_list pl.isList (by omega) (by omega) (by simpa using ew) ⟨z, H, I, rw', q⟩
theorem call_sum (hc : X.calm = true) : CallR X (.builtin "sum") (fun xs H Q => ∃ (p : Addr) (ns : List Int), xs = [.ref p] ∧ SqL X.K H p (ns.map V.int) ∧ Q (.int ns.sum) H) := by
  intro pins s σ H xs us Q I r h
  obtain ⟨p, ns, rfl, hq, q⟩ := h
  obtain ⟨u, rfl, ru⟩ := vals1 r
  cases ru
  obtain ⟨its, r, pl, hz⟩ := I.list hq
  have hi : IntsAre its ns := intsAre_of r
  obtain ⟨xs, e⟩ := hi.allInts.items
  have hl : s.heap.IsList p (intItems xs) := e ▸ pl.isList
  refine sum_intListG (I.ok.hd hc) hl fun h' tk t' k => ⟨.int ns.sum, H, I.kept k, ⟨t', ?_⟩, q⟩
  have e2 : numsOf (intItems xs).toList = ns := by rw [← e]; exact hi.numsOf
  rw [nums_intItems] at e2
  rw [preSum_eq, List.take_of_length_le (by simp), e2]
end
section
variable {X : Cx} {K : PySem.W.Frag}
theorem ix_lk (e : X.K = K := by rfl) : IxR X (rIxL K) := e ▸ ix_list
theorem ix_tk (e : X.K = K := by rfl) : IxR X (rIxT K) := e ▸ ix_tup
theorem sl_lk (e : X.K = K := by rfl) : SlR X (rSlL K) := e ▸ sl_list
theorem len_k (e : X.K = K := by rfl) : CallR X (.builtin "len") (fun xs H Q => ∃ p ys, xs = [.ref p] ∧ (SqL K H p ys ∨ SqT K H p ys) ∧ Q (.int ys.length) H) := e ▸ call_len_seq
theorem fld_k {e : Expr} {ta : TE} {f : Str} {pos : Pos} (he : PE X e ta) (hb : attributeBase e f X.env (eval e X.env) = eval e X.env) (hK : X.K = K := by rfl) : PE X (.Attribute e f pos) (tFld K ta f) := hK ▸ pe_fld he hb
theorem pi_lk {tg l : Expr} {tl : TE} (hl : PE X l tl) (e : X.K = K := by rfl) : PI X tg l (iList K tl) := e ▸ pi_list hl
end
def blkOk (N : List Str) (sc scope : Scope) (own : List (Str × Nat)) : Bool :=
  decide (scope.kind = .function) && scope.names.all (fun y => decide (scope.names.lookup y.1 = some y.2)) && own.all (fun p => decide (N[p.2]? = some p.1)) &&
    scope.names.all (fun y => !decide (y.2 = .free) || decide (sc.names.lookup y.1 = some .cell) || decide (sc.names.lookup y.1 = some .free)) &&
    scope.names.all (fun y => !(decide (y.2 = .local) || decide (y.2 = .cell)) || decide (y.1 ∈ own.map (·.1)) || !decide (y.1 ∈ N))
theorem blk_of {N : List Str} {sc scope : Scope} {own : List (Str × Nat)} (h : blkOk N sc scope own = true) : BlkOk N sc scope own := by
  unfold blkOk at h
  simp only [Bool.and_eq_true, List.all_eq_true, decide_eq_true_eq, Bool.or_eq_true, Bool.not_eq_true'] at h
  obtain ⟨⟨⟨⟨h1, h2⟩, h3⟩, h4⟩, h5⟩ := h
  refine ⟨h1, h2, h3, fun y hy e => ?_, fun y hy e => ?_⟩
  · rcases h4 y hy with (q | q) | q
    · exact absurd e (by simpa using q)
    · exact .inl q
    · exact .inr q
  · rcases h5 y hy with (q | q) | q
    · rcases e with e | e <;> simp [e] at q
    · exact .inl q
    · exact .inr (by simpa using q)
def zs_ (n : Nat) (f : Nat → Int) : List V := (List.range n).map fun k => V.int (f k)
theorem zs_len (n : Nat) (f : Nat → Int) : (zs_ n f).length = n := by simp [zs_]
theorem zs_get {n k : Nat} (f : Nat → Int) (h : k < n) : (zs_ n f)[k]? = some (.int (f k)) := by simp [zs_, h]
theorem zs_at {n k : Nat} {z : Int} (f : Nat → Int) (e : z = (k : Int)) (h : k < n) : atI (zs_ n f) z = some (.int (f k)) := at_of e (zs_get f h)
theorem zs_last {n : Nat} (f : Nat → Int) (h : 0 < n) : atI (zs_ n f) (-1) = some (.int (f (n - 1))) := by
  unfold atI ixN
  rw [zs_len, if_neg (by omega), if_pos (by omega)]
  show (zs_ n f)[(-1 + (n : Int)).toNat]? = _
  have : (-1 + (n : Int)).toNat = n - 1 := by omega
  rw [this]
  exact zs_get f (by omega)
theorem zs_snoc (n : Nat) (f : Nat → Int) : zs_ n f ++ [.int (f n)] = zs_ (n + 1) f := by simp [zs_, List.range_succ]
theorem zs_of (l : List Int) : l.map V.int = zs_ l.length (fun k => l.getD k 0) := by
  refine List.ext_getElem? fun i => ?_
  by_cases h : i < l.length
  · rw [zs_get _ h, List.getElem?_map, List.getElem?_eq_getElem h]
    simp [List.getElem?_eq_getElem h]
  · rw [List.getElem?_eq_none (by simpa using h), List.getElem?_eq_none (by simpa [zs_len] using h)]
theorem zs_congr {n : Nat} {f f' : Nat → Int} (h : ∀ k, k < n → f k = f' k) : zs_ n f = zs_ n f' := by
  unfold zs_
  refine List.map_congr_left fun k hk => ?_
  rw [h k (List.mem_range.mp hk)]
def IsInts (H : Hp) (a : Addr) (n : Nat) (f : Nat → Int) : Prop := H a = some (.lst (zs_ n f))
theorem IsInts.sq {K : PySem.W.Frag} {H : Hp} {a : Addr} {n : Nat} {f : Nat → Int} (h : IsInts H a n f) : SqL K H a (zs_ n f) := SqL.of h
theorem _root_.L2.Same.zz {H H' : Hp} {a : Addr} {n : Nat} {f : Nat → Int} (s : Same H H') (h : IsInts H a n f) : IsInts H' a n f := s _ _ h
theorem _root_.L2.Same.new {H H' : Hp} {p : Addr} {o : HO} (s : Same H H') (h : H' p = none) : Same H (upd H' p o) := fun b u e => by
  rw [upd_ne (ne_of_none (s _ _ e) h)]
  exact s _ _ e
theorem _root_.L2.Same.put {H H' : Hp} {p : Addr} {o : HO} (s : Same H H') (h : H p = none) : Same H (upd H' p o) := fun b u e => by
  rw [upd_ne (ne_of_none e h)]
  exact s _ _ e
section
variable (P : Program) (w : World) (K : PySem.W.Frag) (mg : Str → Option Value) (base : Heap)
def Has (k : Nat) (x : Str) (ps : List Str) (sp : Sp) : Prop := ∃ f fd, FnOk P w K mg base CX0 k f fd ps sp ∧ mg x = some (.ref f) ∧ PySem.W.keepIn K (.ref f) = true ∧ Binds K fd ps []
def HasM (C : Addr) (k : Nat) (m : Str) (ps : List Str) (sp : Sp) : Prop := ∃ f fd, FnOk P w K mg base CX0 k f fd ps sp ∧ Meth K C m f ∧ Binds K fd ps []
def HasC (C : Addr) (k : Nat) (x : Str) (ps : List Str) (sp : Sp) : Prop := ∃ f fd, FnOk P w K mg base CX0 k f fd ps sp ∧ Mk K C f ∧ mg x = some (.ref C) ∧ Binds K fd ps []
end
section
variable {X : Cx} {k : Nat} {C : Addr} {ps : List Str} {sp : Sp} {x m : Str} {p pos apos : Pos} {e o : Expr} {es : List Expr} {ta : TE} {t : TA}
theorem pe_has (G : Has X.prog X.w X.K X.mg X.base k x ps sp) (hr : Room k X.A) (ha : PA X (e :: es) t) (hg : Gl X x := by rfl) (hdb : (x == ("__debug__" : Str)) = false := by decide)
    (he : starEach (e :: es) X.env = (false, eval e X.env) :: starEach es X.env := by rfl) (hpl : (backTo pos (starEach es X.env)).any (·.1) = false := by rfl) : PE X (.Call (.Name x p) (e :: es) [] pos) (tCall sp [] E0 t) := by
  obtain ⟨f, fd, F, hm, hk, hb⟩ := G
  exact pe_call F hr hg hm hk hb .nil pass0 ha hdb he hpl
theorem pe_hasM {pl : Sem Bool} (he : PE X o ta) (c : Cls X.K C) (G : HasM X.prog X.w X.K X.mg X.base C k m ps sp) (hr : Room k X.A) (ha : PA X (e :: es) t)
    (hst : starEach (e :: es) X.env = (false, eval e X.env) :: starEach es X.env := by rfl) (hpl : (backTo pos (starEach es X.env)).any (·.1) = false := by rfl)
    (ht : eval (.Call (.Attribute o m apos) (e :: es) [] pos) X.env = (do
      let ov ← eval o X.env
      standAt apos.atName
      let (f, first) ← holding [ov] (getMethod ov m pl)
      callWith pos f first (backTo pos (starEach (e :: es) X.env)) (backToKw pos (keywordEach [] X.env))) := by rfl) :
    PE X (.Call (.Attribute o m apos) (e :: es) [] pos) (tMeth C m sp [] E0 ta t) := by
  obtain ⟨f, fd, F, hm, hb⟩ := G
  exact pe_meth he c hm F hr hb .nil pass0 ha hst hpl ht
theorem pe_hasM0 {pl : Sem Bool} (he : PE X o ta) (c : Cls X.K C) (G : HasM X.prog X.w X.K X.mg X.base C k m ps sp) (hr : Room k X.A)
    (ht : eval (.Call (.Attribute o m apos) [] [] pos) X.env = (do
      let ov ← eval o X.env
      standAt apos.atName
      let (f, first) ← holding [ov] (getMethod ov m pl)
      callWith pos f first (backTo pos (starEach [] X.env)) (backToKw pos (keywordEach [] X.env))) := by rfl) :
    PE X (.Call (.Attribute o m apos) [] [] pos) (tMeth C m sp [] E0 ta tNil) := by
  obtain ⟨f, fd, F, hm, hb⟩ := G
  exact pe_meth0 he c hm F hr hb .nil pass0 ht
theorem pe_hasC (G : HasC X.prog X.w X.K X.mg X.base C k x ps sp) (hr : Room (k + 1) X.A) (ha : PA X (e :: es) t) (hg : Gl X x := by rfl) (hdb : (x == ("__debug__" : Str)) = false := by decide)
    (he : starEach (e :: es) X.env = (false, eval e X.env) :: starEach es X.env := by rfl) (hpl : (backTo pos (starEach es X.env)).any (·.1) = false := by rfl) : PE X (.Call (.Name x p) (e :: es) [] pos) (tMake C sp [] E0 t) := by
  obtain ⟨f, fd, F, M, hm, hb⟩ := G
  exact pe_make M F hr hg hm hb .nil pass0 ha hdb he hpl
theorem pe_hasC0 (G : HasC X.prog X.w X.K X.mg X.base C k x ps sp) (hr : Room (k + 1) X.A) (hg : Gl X x := by rfl) (hdb : (x == ("__debug__" : Str)) = false := by decide) : PE X (.Call (.Name x p) [] [] pos) (tMake C sp [] E0 tNil) := by
  obtain ⟨f, fd, F, M, hm, hb⟩ := G
  exact pe_make0 M F hr hg hm hb .nil pass0 hdb
end
end Hf
set_option linter.all false
set_option maxRecDepth 100000
set_option maxHeartbeats 4000000
set_option Elab.async false
namespace Hf
open PySem PySem.Spec PyProof.Rows L2
open PySem.W (Codec)
open Hull (Sz)
section
variable {X : Cx}
def CPowG (i j : Int) : Prop := 0 ≤ j ∧ (Builtin.Int.intBits i : Int) * j ≤ 2 ^ 27
theorem op_powG : OpR X (binaryOp .Pow) (rI CPowG fun i j => .int (i ^ j.toNat)) := opI fun _ _ _ _ _ _ _ hc q => pow_int hc.1 hc.2 q
theorem CPowG.three {n : Nat} {i : Int} (h : Sz n i) (hn : n ≤ 1000000) : CPowG i 3 := by
  have := PySem.intBits_le_iff.mpr h
  refine ⟨by decide, ?_⟩
  have e : (2 : Int) ^ 27 = 134217728 := by decide
  rw [e]
  omega
theorem all_k {K : PySem.W.Frag} (hc : X.calm = true) (e : X.K = K := by rfl) : CallR X (.builtin "all") (rAll K) := e ▸ cr_all hc
theorem op_eqDk {K : PySem.W.Frag} (hu : X.A.units + 64 < cLine) (e : X.K = K := by rfl) : OpR X (compareOp .Eq) (rEqD K) := e ▸ op_eqD hu
def stepV (xs : List V) (i k : Nat) : List V := (sliceRange (i : Int) (xs.length : Int) (k : Int)).filterMap (xs[·]?)
theorem vals_pick {xs : List V} {us : List Value} (r : Vals xs us) : ∀ (l : List Nat), Vals (l.filterMap (xs[·]?)) (l.filterMap (us.toArray[·]?))
  | [] => .nil
  | j :: l => by
    have ih := vals_pick r l
    rw [List.filterMap_cons, List.filterMap_cons]
    cases e : xs[j]? with
    | none =>
      have e2 : us.toArray[j]? = none := by
        rw [List.getElem?_toArray, List.getElem?_eq_none_iff, ← r.length]
        exact List.getElem?_eq_none_iff.mp e
      rw [e2]
      exact ih
    | some x =>
      obtain ⟨w, hw, rw'⟩ := r.get e
      have e2 : us.toArray[j]? = some w := by
        rw [List.getElem?_toArray]
        exact hw
      rw [e2]
      exact .cons rw' ih
theorem pick_le {α : Type} (xs : List α) : ∀ l : List Nat, (l.filterMap (xs[·]?)).length ≤ l.length := fun l => List.length_filterMap_le ..
variable {e : Expr} {te : TE} {lo : Option Expr} {st : Expr} {tl ts : TO} {pos p2 : Pos}
def tSl3 (K : PySem.W.Frag) (te : TE) (tl ts : TO) : TE := fun σ H Q => te σ H fun x H1 => tl σ H1 fun l H2 => ts σ H2 fun c H3 => ∃ (a : Addr) (xs : List V) (i k : Nat), x = .ref a ∧ l = some (i : Int) ∧ c = some (k : Int) ∧ 0 < k ∧ i ≤ xs.length ∧ SqL K H3 a xs ∧ ∀ p, H3 p = none → Q (.ref p) (upd H3 p (.lst (stepV xs i k)))
theorem pe_slice3 (he : PE X e te) (hl : PO X lo tl) (hs : PO X (some st) ts) : PE X (.Subscript e (.Slice lo none (some st) p2) pos) (tSl3 X.K te tl ts) := by
  intro pins s σ H Q I h
  refine Subscript_ (thn (he pins s σ H _ I h) fun v s1 ⟨x, H1, I1, r1, q1⟩ => ?_)
  refine wpAny_Slice (thn (hl pins s1 σ H1 _ I1 q1) fun vl s2 ⟨l, H2, I2, pl, q2⟩ => ?_)
  rw [evalPart_none]
  refine wpAny_pure (thn (hs pins s2 σ H2 _ I2 q2) fun vs s3 ⟨c, H3, I3, pc, q3⟩ => ?_)
  obtain ⟨a, xs, i, k, rfl, rfl, rfl, k0, hi, hx, q⟩ := q3
  cases r1
  have I4 : Inv X pins σ H3 { s3 with heap := s3.heap.push { cls := .type "slice", data := .fields #[vl, .none, vs] } } := I3.kept (t' := s3.toks) fun b ob q => Heap.get?_push_of_some _ q
  obtain ⟨its, r, ht, hz⟩ := I4.list hx
  have hlen := r.length
  show wpAny (model X.prog X.w) X.A (subscriptTail e (.Slice lo none (some st) p2) (.ref a) (.ref s3.heap.objs.size)) (EP X pins σ Q) X.xe { s3 with heap := s3.heap.push { cls := .type "slice", data := .fields #[vl, .none, vs] } }
  refine tail_any (ops := [.ref a, .ref s3.heap.objs.size]) ht.isList.typeIs slot_list_getitem.lookup ?_ (by with_unfolding_all rfl)
  refine wpAny_getItem_list_slice ht.isList (Heap.IsSliceOf.new ..) pl .none pc (by intro w; injection w with w; omega) ?_ (by rw [List.size_toArray] <;> omega)
  have eb : slicePick its.toArray (some (i : Int)) none (some (k : Int)) = ((sliceRange (i : Int) (xs.length : Int) (k : Int)).filterMap (its.toArray[·]?)).toArray := by
    unfold slicePick
    have b1 : sliceBounds (some (i : Int)) none (some (k : Int)) its.toArray.size = ((i : Int), (xs.length : Int), (k : Int)) := by
      unfold sliceBounds
      have hk : (k : Int) > 0 := by omega
      simp only [Option.getD_some, hk, if_true, List.size_toArray, ← hlen]
      have : ¬ (i : Int) < 0 := by omega
      simp only [this, if_false]
      congr 1
      omega
    rw [b1]
  rw [eb]
  have v := vals_pick r (sliceRange (i : Int) (xs.length : Int) (k : Int))
  refine ⟨.ref _, _, I4.laid (t' := s3.toks) (o := .lst (stepV xs i k)) (fun b ob q => Heap.get?_push_of_some _ q) (Nat.le_refl _) ?_, rfl, q _ (I4.hok.fresh (Nat.le_refl _))⟩
  refine ⟨?_, _, 0, v, Heap.get?_push_size _ rfl⟩
  refine Nat.le_trans (pick_le _ _) (Nat.le_trans (sliceRange_length_le _ _ _ xs.length (fun _ => ⟨by omega, by omega⟩) (fun w => absurd (by omega) w)) hz)
theorem slice3_k {K : PySem.W.Frag} (he : PE X e te) (hl : PO X lo tl) (hs : PO X (some st) ts) (hK : X.K = K := by rfl) : PE X (.Subscript e (.Slice lo none (some st) p2) pos) (tSl3 K te tl ts) := hK ▸ pe_slice3 he hl hs
def DK (P : Program) (w : World) (K : PySem.W.Frag) (a : Addr) (kvs : List (Key × V)) : Prop :=
  ∃ o es ep vs, K.lookup a = some o ∧ o.ExactDict ∧ o.data = .dict es ep ∧ KeysOf (mixKind P w) es ∧ Pairs (mixKind P w) es.toList vs ∧ (vs.map (·.1)).Nodup ∧ KV kvs vs
theorem DK.at_ {pins : List (Addr × Obj)} {σ : L2.St} {H : Hp} {s : Shared} {a : Addr} {kvs : List (Key × V)} (I : Inv X pins σ H s) (h : DK X.prog X.w X.K a kvs) : ∃ vs, KV kvs vs ∧ s.heap.DictOf (mixKind X.prog X.w) a vs := by
  obtain ⟨o, es, ep, vs, hk, h1, h2, h3, h4, h5, h6⟩ := h
  exact ⟨vs, h6, o, es, ep, I.kIn a o hk, h1, h2, h3, h4, h5⟩
def tKGet (a : Addr) (kvs : List (Key × V)) (td ty : TE) : TE := fun σ H Q => td σ H fun x H1 => ty σ H1 fun y H2 => ∃ k v, x = .ref a ∧ y = kV k ∧ valV kvs k = some v ∧ Q v H2
theorem pe_kget {o i : Expr} {td ty : TE} {a : Addr} {kvs : List (Key × V)} (hd : DK X.prog X.w X.K a kvs) (ho : PE X o td) (hi : PE X i ty) (hs : NoSl i) : PE X (.Subscript o i pos) (tKGet a kvs td ty) := by
  intro pins s σ H Q I h
  refine subD_of PySem.F.slot_dict_getitem.lookup hs (thn (ho pins s σ H _ I h) fun u s1 ⟨x, H1, I1, rx, q1⟩ => thn (hi pins s1 σ H1 _ I1 q1) fun iv s2 ⟨y, H2, I2, ry, k, v, ex, ey, l, q2⟩ => ?_)
  subst ex
  subst ey
  obtain rfl : u = Value.ref a := rx
  obtain ⟨vs, rel, dd⟩ := hd.at_ I2
  obtain ⟨w', hw, rw'⟩ := RelO.some_of (v := v) (o := valueAt vs k) (by rw [← l]; exact rel.val k)
  exact ⟨dd.typeIs, wpAny_getItem_of (kV_is ry) dd.mapOf hw ⟨v, H2, I2.tok _, rw', q2⟩⟩
end
theorem zs_step {a b s : Nat} (h : Nat → Int) (hs : s < a) : stepV (zs_ (a * b) h) s a = zs_ b fun j => h (s + a * j) := by
  unfold stepV
  rw [zs_len]
  have ec : sliceRange (s : Int) ((a * b : Nat) : Int) (a : Int) = (List.range b).map fun j => s + a * j := by
    unfold sliceRange
    have a0 : (a : Int) > 0 := by omega
    simp only [a0, if_true]
    have cnt : (if (s : Int) < ((a * b : Nat) : Int) then (((a * b : Nat) : Int) - s + a - 1) / a else 0).toNat = b := by
      cases b with
      | zero =>
        have h0 : ¬ (s : Int) < ((a * 0 : Nat) : Int) := by omega
        rw [if_neg h0]
        rfl
      | succ b =>
        have h1 : (s : Int) < ((a * (b + 1) : Nat) : Int) := by
          have : a * 1 ≤ a * (b + 1) := Nat.mul_le_mul_left _ (by omega)
          omega
        rw [if_pos h1]
        have e : (((a * (b + 1) : Nat) : Int) - s + a - 1) = (a - 1 - s : Int) + (a : Int) * ((b + 1 : Nat) : Int) := by
          rw [Int.natCast_mul]
          omega
        rw [e, Int.add_mul_ediv_left _ _ (by omega), Int.ediv_eq_zero_of_lt (by omega) (by omega)]
        omega
    rw [cnt]
    refine List.map_congr_left fun j _ => ?_
    rw [← Int.natCast_mul, ← Int.natCast_add]
    rfl
  rw [ec, List.filterMap_map]
  have : ∀ l : List Nat, (∀ j ∈ l, j < b) → l.filterMap ((fun x => (zs_ (a * b) h)[x]?) ∘ fun j => s + a * j) = l.map fun j => V.int (h (s + a * j)) := by
    intro l hl
    induction l with
    | nil => rfl
    | cons j l ih =>
      have hj := hl j List.mem_cons_self
      have : s + a * j < a * b := by
        have h1 : a * (j + 1) ≤ a * b := Nat.mul_le_mul_left _ hj
        rw [Nat.mul_add] at h1
        omega
      rw [List.filterMap_cons]
      have e : ((fun x => (zs_ (a * b) h)[x]?) ∘ fun j => s + a * j) j = some (.int (h (s + a * j))) := zs_get h this
      rw [e]
      simp only
      rw [ih fun q hq => hl q (List.mem_cons_of_mem _ hq)]
      rfl
  exact this _ fun j hj => List.mem_range.mp hj
end Hf
set_option linter.all false
set_option maxRecDepth 100000
set_option maxHeartbeats 4000000
set_option Elab.async false
namespace Hf
open PySem PySem.Spec PyProof.Rows L2
open PySem.W (Codec)
section
variable {P : Program} {w : World} {K : PySem.W.Frag} {mg : Str → Option Value} {base : Heap}
theorem gcd_turn {x y : Int} (hx : 0 ≤ x) (hy : 0 ≤ y) : Int.gcd y (x % y) = Int.gcd x y := by
  obtain ⟨m, rfl⟩ := Int.eq_ofNat_of_zero_le hx
  obtain ⟨n, rfl⟩ := Int.eq_ofNat_of_zero_le hy
  show Nat.gcd n (((m : Int) % (n : Int)).natAbs) = Nat.gcd m n
  have : ((m : Int) % (n : Int)).natAbs = m % n := by omega
  rw [this, Nat.gcd_comm n, ← Nat.gcd_rec, Nat.gcd_comm]
abbrev sGcd : Stmt := top 1
def spGcd : Sp := fun vs H Q E => ∃ a b : Int, vs = [.int a, .int b] ∧ 0 ≤ a ∧ 0 ≤ b ∧ Q (.int (Int.gcd a b : Nat)) H
theorem scGcd : FnScope ["first", "second", "rest"] ["first", "second"] (defScope sGcd) := ⟨rfl, rfl, rfl, by decide +kernel, rfl, by decide +kernel, by decide +kernel⟩
theorem ok_gcd {f : Addr} {fd : FuncData} (F : Fun K "greatest_divisor" "greatest_divisor" sGcd f fd) : FnOk P w K mg base CX0 1 f fd ["first", "second"] spGcd := by
  refine F.ok scGcd (fun vs H Q E h => ?_) (fun cdv A outer s H vs Q E hr h => ?_)
  · obtain ⟨a, b, rfl, _⟩ := h
    rfl
  · obtain ⟨a, b, rfl, ha, hb, k⟩ := h
    refine ⟨_, pss_cons (ps_while PassesOwn.never (pt_cmpR op_ne (pv 1) pe_int (nomark _)) (pss_cons (ps_set (i := 2) scGcd.nd rfl (Or.inl rfl) (pe_op op_mod (pv 0) (pv 1))) (pss_cons (ps_set (i := 0) scGcd.nd rfl (Or.inl rfl) (pv 1)) (pss_one (ps_set (i := 1) scGcd.nd rfl (Or.inl rfl) (pv 2))))))
      (pss_one (ps_ret (pv 0))), ?_⟩
    show tWhile _ _ _ _ _
    refine ⟨fun m σ H' => H' = H ∧ ∃ (x y : Int) (v : Option V), σ = [some (.int x), some (.int y), v] ∧ 0 ≤ x ∧ 0 ≤ y ∧ Int.gcd x y = Int.gcd a b ∧ m = y.toNat, ⟨_, rfl, a, b, none, rfl, ha, hb, rfl, rfl⟩, ?_⟩
    rintro m σ H' ⟨rfl, x, y, v, rfl, hx, hy, e, rfl⟩
    refine ⟨_, rfl, rfl, _, rfl, ?_⟩
    by_cases hy0 : y = 0
    · subst hy0
      refine iteNS rfl ?_
      refine ⟨_, rfl, ?_⟩
      have : x = (Int.gcd a b : Nat) := by
        rw [← e, Int.gcd_zero_right]
        omega
      rw [this]
      exact k
    · rw [decide_eq_false (by intro q; injection q with q; exact hy0 q)]
      refine iteT ⟨_, fun _ _ q => q, ?_⟩
      refine ⟨_, rfl, _, rfl, _, _, rfl, rfl, (by show (0 : Int) < y; omega), ?_⟩
      refine ⟨_, rfl, _, rfl, (x % y).toNat, ?_, rfl, y, x % y, _, rfl, hy, Int.emod_nonneg _ hy0, ?_, rfl⟩
      · have := Int.emod_lt_of_pos x (show 0 < y by omega)
        have := Int.emod_nonneg x hy0
        omega
      · rw [← e, gcd_turn hx hy]
end
end Hf
set_option linter.all false
set_option maxRecDepth 100000
set_option maxHeartbeats 4000000
set_option Elab.async false
namespace Hf
open PySem PySem.Spec PyProof.Rows L2
open PySem.W (Codec)
open Hull
structure Txt (K : PySem.W.Frag) (mg : Str → Option Value) where
  n_len : mg "len" = none
  n_range : mg "range" = none
  n_abs : mg "abs" = none
  n_min : mg "min" = none
  n_list : mg "list" = none
  n_reversed : mg "reversed" = none
  n_sum : mg "sum" = none
  n_all : mg "all" = none
  PARTS : Value
  v_PARTS : mg "PARTS" = some PARTS ∧ RelV (.int 2520) PARTS
  GREATEST_RISE : Value
  v_GREATEST_RISE : mg "GREATEST_RISE" = some GREATEST_RISE ∧ RelV (.int 2000) GREATEST_RISE
  GREATEST_MEASURE : Value
  v_GREATEST_MEASURE : mg "GREATEST_MEASURE" = some GREATEST_MEASURE ∧ RelV (.int 1048575) GREATEST_MEASURE
  MOST_LOADS : Value
  v_MOST_LOADS : mg "MOST_LOADS" = some MOST_LOADS ∧ RelV (.int 256) MOST_LOADS
  GREATEST_WEIGHT : Value
  v_GREATEST_WEIGHT : mg "GREATEST_WEIGHT" = some GREATEST_WEIGHT ∧ RelV (.int 18446744073709551615) GREATEST_WEIGHT
  MAKE : Value
  v_MAKE : mg "MAKE" = some MAKE ∧ RelV (.int 1) MAKE
  AREA : Value
  v_AREA : mg "AREA" = some AREA ∧ RelV (.int 2) AREA
  VOLUME : Value
  v_VOLUME : mg "VOLUME" = some VOLUME ∧ RelV (.int 3) VOLUME
  CENTRE : Value
  v_CENTRE : mg "CENTRE" = some CENTRE ∧ RelV (.int 4) CENTRE
  META : Value
  v_META : mg "META" = some META ∧ RelV (.int 5) META
  DEPTH : Value
  v_DEPTH : mg "DEPTH" = some DEPTH ∧ RelV (.int 6) DEPTH
  NO_LOADS : Value
  v_NO_LOADS : mg "NO_LOADS" = some NO_LOADS ∧ RelV (.int (-1)) NO_LOADS
  NO_TABLE : Value
  v_NO_TABLE : mg "NO_TABLE" = some NO_TABLE ∧ RelV (.int (-3)) NO_TABLE
  OUTSIDE_LEVELS : Value
  v_OUTSIDE_LEVELS : mg "OUTSIDE_LEVELS" = some OUTSIDE_LEVELS ∧ RelV (.int (-4)) OUTSIDE_LEVELS
  NO_VOLUME : Value
  v_NO_VOLUME : mg "NO_VOLUME" = some NO_VOLUME ∧ RelV (.int (-5)) NO_VOLUME
  NO_HEIGHT : Value
  v_NO_HEIGHT : mg "NO_HEIGHT" = some NO_HEIGHT ∧ RelV (.int (-5)) NO_HEIGHT
  BEYOND_DEPTHS : Value
  v_BEYOND_DEPTHS : mg "BEYOND_DEPTHS" = some BEYOND_DEPTHS ∧ RelV (.int (-9)) BEYOND_DEPTHS
  NO_FAULT : Addr
  v_NO_FAULT : mg "NO_FAULT" = some (.ref NO_FAULT) ∧ RelV (.ref NO_FAULT) (.ref NO_FAULT)
  q_NO_FAULT : ∀ H, SqT K H NO_FAULT [.int 0, .int 0]
section
variable {P : Program} {w : World} {K : PySem.W.Frag} {mg : Str → Option Value} {base : Heap}
abbrev s_least_multiple : Stmt := top 3
theorem sc_least_multiple : FnScope ["numbers", "multiple", "number"] ["numbers"] (defScope s_least_multiple) := ⟨rfl, rfl, rfl, by decide +kernel, rfl, by decide +kernel, by decide +kernel⟩
def spLcm (K : PySem.W.Frag) : Sp := fun vs H Q E => ∃ (a : Addr) (n : Nat) (g : Nat → Int), vs = [.ref a] ∧ SqL K H a (zs_ n g) ∧ Gaps g n ∧ Q (.int (Lm g n)) H
theorem ok_lcm {f : Addr} {fd : FuncData} (F : Fun K "least_multiple" "least_multiple" s_least_multiple f fd) (T : Txt K mg) (G_greatest_divisor : Has P w K mg base 1 "greatest_divisor" ["first", "second"] spGcd) : FnOk P w K mg base CX0 2 f fd ["numbers"] (spLcm K) := by
  refine F.ok sc_least_multiple (fun vs H Q E h => ?_) (fun cdv A outer s H vs Q E hr h => ?_)
  · obtain ⟨a, n, g, rfl, _⟩ := h
    rfl
  · obtain ⟨a, n, g, rfl, hS, G, k⟩ := h
    refine ⟨_, (pss_cons (ps_set (i := 1) sc_least_multiple.nd rfl (Or.inl rfl) pe_int)
        (pss_cons (ps_for PassesOwn.never rfl (pi_lk (K := K) (pv 0)) (pg_name (i := 2) sc_least_multiple.nd rfl (Or.inl rfl)) (pss_one (ps_set (i := 1) sc_least_multiple.nd rfl (Or.inl rfl) (pe_op op_mulG (pe_op op_fdivG (pv 1) (pe_has G_greatest_divisor (hr.mono (by decide)) (pa_cons (pv 1) (pa_cons (pv 2) pa_nil)))) (pv 2)))))
        (pss_one (ps_ret (pv 1))))), ?_⟩
    refine ⟨_, rfl, a, rfl, ⟨_, hS⟩, for_list (K := K) (a := a) (xs := zs_ n g) (fun i σ H' => H' = H ∧ ∃ v, σ = [some (.ref a), some (.int (Lm g i)), v]) ⟨rfl, none, rfl⟩ (fun i σ H' _ ⟨e, _⟩ => e ▸ hS) ?_ ?_⟩
    · rintro i y σ H' hi ⟨rfl, v, rfl⟩
      have hin : i < n := by
        have := (List.getElem?_eq_some_iff.mp hi).1
        rwa [zs_len] at this
      rw [zs_get g hin] at hi
      cases hi
      have p := Lm_pos (g := g) (k := i) fun j hj => G.pos j (by omega)
      have z := (Lm_sz (g := g) (k := i) fun j hj => G.sz j (by omega)).mono (show 21 * i + 1 ≤ 500 by have := G.n23; omega)
      have hg := G.pos i hin
      have d := gcd_pos (a := Lm g i) hg
      refine ⟨_, rfl, _, rfl, _, rfl, _, _, rfl, by omega, by omega, _, _, rfl, rfl, ⟨d, .inl ?_⟩, _, rfl, _, _, rfl, rfl, Sz.mulOk (Sz.div z) (G.sz i hin) (by decide), rfl, _, rfl⟩
      exact ((G.sz i hin).le (Nat.le_of_dvd (by omega) (by simpa using Int.gcd_dvd_natAbs_right (a := Lm g i) (b := g i)))).mono (by decide)
    · rintro σ H' ⟨rfl, v, rfl⟩
      rw [zs_len]
      exact ⟨_, rfl, k⟩
abbrev s_lowest_terms : Stmt := top 4
theorem sc_lowest_terms : FnScope ["above", "below", "divisor"] ["above", "below"] (defScope s_lowest_terms) := ⟨rfl, rfl, rfl, by decide +kernel, rfl, by decide +kernel, by decide +kernel⟩
def spLow : Sp := fun vs H Q E => ∃ a b : Int, vs = [.int a, .int b] ∧ 0 < b ∧ Sz 13500 a ∧ Sz 13500 b ∧ ∀ p, H p = none → Q (.ref p) (upd H p (.lst ((Low a b).map V.int)))
theorem ok_low {f : Addr} {fd : FuncData} (F : Fun K "lowest_terms" "lowest_terms" s_lowest_terms f fd) (T : Txt K mg) (G_greatest_divisor : Has P w K mg base 1 "greatest_divisor" ["first", "second"] spGcd) : FnOk P w K mg base CX0 2 f fd ["above", "below"] spLow := by
  refine F.ok sc_lowest_terms (fun vs H Q E h => ?_) (fun cdv A outer s H vs Q E hr h => ?_)
  · obtain ⟨a, b, rfl, _⟩ := h
    rfl
  · obtain ⟨a, b, rfl, hb, za, zb, k⟩ := h
    refine ⟨_, (pss_cons (ps_set (i := 2) sc_lowest_terms.nd rfl (Or.inl rfl) (pe_has G_greatest_divisor (hr.mono (by decide)) (pa_cons (pe_callB call_abs (by rfl) T.n_abs PyProof.Rows.boot_abs (pa_cons (pv 0) pa_nil)) (pa_cons (pv 1) pa_nil))))
        (pss_one (ps_ret (pe_lst (pa_cons (pe_op op_fdivG (pv 0) (pv 2)) (pa_cons (pe_op op_fdivG (pv 1) (pv 2)) pa_nil)))))), ?_⟩
    have e : Int.gcd (if a < 0 then -a else a) b = Int.gcd a b := by
      by_cases h : a < 0
      · rw [if_pos h, Int.neg_gcd]
      · rw [if_neg h]
    have d := gcd_pos (a := a) hb
    refine ⟨_, rfl, _, rfl, _, rfl, _, _, rfl, (by split <;> omega), by omega, ?_⟩
    rw [e]
    exact ⟨_, rfl, _, rfl, _, _, rfl, rfl, ⟨d, .inr za⟩, _, rfl, _, rfl, _, _, rfl, rfl, ⟨d, .inr zb⟩, (by show 2 ≤ sizeLine; decide), k⟩
abbrev s_shared_divisor : Stmt := top 2
theorem sc_shared_divisor : FnScope ["numbers", "number", "divisor", "other"] ["numbers", "number"] (defScope s_shared_divisor) := ⟨rfl, rfl, rfl, by decide +kernel, rfl, by decide +kernel, by decide +kernel⟩
def spShared (K : PySem.W.Frag) : Sp := fun vs H Q E => ∃ (a : Addr) (n : Nat) (f : Nat → Int) (z : Int), vs = [.ref a, .int z] ∧ SqL K H a (zs_ n f) ∧ 0 < z ∧ Q (.int (Gs f z n)) H
theorem ok_shared {f : Addr} {fd : FuncData} (F : Fun K "shared_divisor" "shared_divisor" s_shared_divisor f fd) (T : Txt K mg) (G_greatest_divisor : Has P w K mg base 1 "greatest_divisor" ["first", "second"] spGcd) : FnOk P w K mg base CX0 2 f fd ["numbers", "number"] (spShared K) := by
  refine F.ok sc_shared_divisor (fun vs H Q E h => ?_) (fun cdv A outer s H vs Q E hr h => ?_)
  · obtain ⟨a, n, f, z, rfl, _⟩ := h
    rfl
  · obtain ⟨a, n, f, z, rfl, hS, hz, k⟩ := h
    refine ⟨_, (pss_cons (ps_set (i := 2) sc_shared_divisor.nd rfl (Or.inl rfl) (pv 1))
        (pss_cons (ps_for PassesOwn.never rfl (pi_lk (K := K) (pv 0)) (pg_name (i := 3) sc_shared_divisor.nd rfl (Or.inl rfl)) (pss_one (ps_set (i := 2) sc_shared_divisor.nd rfl (Or.inl rfl) (pe_has G_greatest_divisor (hr.mono (by decide)) (pa_cons (pv 2) (pa_cons (pe_callB call_abs (by rfl) T.n_abs PyProof.Rows.boot_abs (pa_cons (pv 3) pa_nil)) pa_nil))))))
        (pss_one (ps_ret (pv 2))))), ?_⟩
    refine ⟨_, rfl, _, rfl, a, rfl, ⟨_, hS⟩, for_list (K := K) (a := a) (xs := zs_ n f) (fun i σ H' => H' = H ∧ ∃ v, σ = [some (.ref a), some (.int z), some (.int (Gs f z i)), v]) ⟨rfl, none, rfl⟩ (fun i σ H' _ ⟨e, _⟩ => e ▸ hS) ?_ ?_⟩
    · rintro i y σ H' hi ⟨rfl, v, rfl⟩
      have hin : i < n := by
        have := (List.getElem?_eq_some_iff.mp hi).1
        rwa [zs_len] at this
      rw [zs_get f hin] at hi
      cases hi
      have p := Gs_pos (f := f) hz i
      have e : Int.gcd (Gs f z i) (if f i < 0 then -f i else f i) = Int.gcd (Gs f z i) (f i) := by
        by_cases h : f i < 0
        · rw [if_pos h, Int.gcd_neg]
        · rw [if_neg h]
      refine ⟨_, rfl, _, rfl, _, rfl, _, _, rfl, by omega, (by split <;> omega), ?_⟩
      rw [e]
      exact ⟨rfl, _, rfl⟩
    · rintro σ H' ⟨rfl, v, rfl⟩
      rw [zs_len]
      exact ⟨_, rfl, k⟩
end
end Hf
set_option linter.all false
set_option maxRecDepth 100000
set_option maxHeartbeats 4000000
set_option Elab.async false
namespace Hf
open PySem PySem.Spec PyProof.Rows L2
open PySem.W (Codec)
open Hull
section
variable {P : Program} {w : World} {K : PySem.W.Frag} {mg : Str → Option Value} {base : Heap}
abbrev s_leading_minors : Stmt := top 8
theorem sc_leading_minors : FnScope ["gaps", "minors", "before", "k", "minor"] ["gaps"] (defScope s_leading_minors) := ⟨rfl, rfl, rfl, by decide +kernel, rfl, by decide +kernel, by decide +kernel⟩
def spMinors (K : PySem.W.Frag) : Sp := fun vs H Q E => ∃ (a : Addr) (n : Nat) (g : Nat → Int), vs = [.ref a] ∧ SqL K H a (zs_ n g) ∧ Gaps g n ∧ ∀ l H', H l = none → Same H H' → IsInts H' l n (Dt g) → Q (.ref l) H'
theorem ok_minors {f : Addr} {fd : FuncData} (F : Fun K "leading_minors" "leading_minors" s_leading_minors f fd) (T : Txt K mg) : FnOk P w K mg base CX0 1 f fd ["gaps"] (spMinors K) := by
  refine F.ok sc_leading_minors (fun vs H Q E h => ?_) (fun cdv A outer s H vs Q E hr h => ?_)
  · obtain ⟨a, n, g, rfl, _⟩ := h
    rfl
  · obtain ⟨a, n, g, rfl, hS, G, k⟩ := h
    have n0 := G.n0
    have n23 := G.n23
    refine ⟨_, (pss_cons (ps_set (i := 1) sc_leading_minors.nd rfl (Or.inl rfl) (pe_lst (pa_cons pe_int pa_nil)))
        (pss_cons (ps_set (i := 2) sc_leading_minors.nd rfl (Or.inl rfl) pe_int)
        (pss_cons (ps_for PassesOwn.never rfl (pi_range2 rfl T.n_range (pa_cons pe_int (pa_cons (pe_callB (len_k (K := K)) (by rfl) T.n_len PySem.boot_len (pa_cons (pv 0) pa_nil)) pa_nil))) (pg_name (i := 3) sc_leading_minors.nd rfl (Or.inl rfl)) (pss_cons (ps_set (i := 4) sc_leading_minors.nd rfl (Or.inl rfl) (pe_op op_sub (pe_op op_mulG (pe_op op_mulG pe_int (pe_op op_add (pe_ix (ix_lk (K := K)) (pv 0) (pe_op op_sub (pv 3) pe_int) (fun _ _ => rfl)) (pe_ix (ix_lk (K := K)) (pv 0) (pv 3) (fun _ _ => rfl)))) (pe_ix (ix_lk (K := K)) (pv 1) (pe_op op_sub (pv 3) pe_int) (fun _ _ => rfl))) (pe_op op_mulG (pe_op op_mulG (pe_ix (ix_lk (K := K)) (pv 0) (pe_op op_sub (pv 3) pe_int) (fun _ _ => rfl)) (pe_ix (ix_lk (K := K)) (pv 0) (pe_op op_sub (pv 3) pe_int) (fun _ _ => rfl))) (pv 2))))
        (pss_cons (ps_set (i := 2) sc_leading_minors.nd rfl (Or.inl rfl) (pe_ix (ix_lk (K := K)) (pv 1) (pe_op op_sub (pv 3) pe_int) (fun _ _ => rfl)))
        (pss_one (ps_expr (pe_bm PySem.F.plainAttrs_list PySem.F.slot_list_append PySem.F.type_list_append mt_append (pv 1) (pa_cons (pv 4) pa_nil)))))))
        (pss_one (ps_ret (pv 1)))))), ?_⟩
    refine ⟨(by show 1 ≤ sizeLine; decide), fun l hl => ?_⟩
    have s0 : Same H (upd H l (.lst [.int 1])) := (Same.refl H).new hl
    refine ⟨_, rfl, a, _, rfl, .inl (s0.seq hS), 1, n, (by rw [zs_len]), ⟨by omega, by omega, by omega, by omega⟩, ?_⟩
    have e : ((n : Int) - 1).toNat = n - 1 := by omega
    rw [e]
    refine for_range (lo := 1) (n := n - 1) (fun i σ H' => ∃ v3 v4, σ = [some (.ref a), some (.ref l), some (.int (Dq g i)), v3, v4] ∧ Same H H' ∧ IsInts H' l (i + 1) (Dt g)) ⟨none, none, rfl, s0, upd_same⟩ ?_ ?_
    · rintro i σ H' hi ⟨v3, v4, rfl, s1, hm⟩
      have hS' := s1.seq hS
      have d1 := G.dt (k := i) (by omega)
      have g1 := G.sz i (by omega)
      have g2 := G.sz (i + 1) (by omega)
      have q1 := (Dq_sz (g := g) (k := i) fun j hj => G.sz j (by omega)).mono (show 25 * i - 24 ≤ 1000 by omega)
      refine ⟨_, rfl, _, rfl, _, _, rfl, rfl, _, _, _, _, rfl, rfl, hS', zs_at g (k := i) (by omega) (by omega), _, rfl, _, rfl, _, _, _, _, rfl, rfl, hS', zs_at g (k := i + 1) (by omega) (by omega), _, _, rfl, rfl, _, _, rfl, rfl, ?_, _, rfl, _, rfl, _, _, rfl, rfl, _, _, _, _, rfl, rfl, hm.sq, zs_at (Dt g) (k := i) (by omega) (by omega), _, _, rfl, rfl, ?_, _, rfl, _, rfl, _, _, rfl, rfl, _, _, _, _, rfl, rfl, hS', zs_at g (k := i) (by omega) (by omega), _, rfl, _, rfl, _, _, rfl, rfl, _, _, _, _, rfl, rfl, hS', zs_at g (k := i) (by omega) (by omega), _, _, rfl, rfl, ?_, _, rfl, _, _, rfl, rfl, ?_, _, _, rfl, rfl, ?_⟩
      · exact Sz.mulOk Sz.two (g1.add g2) (by decide)
      · exact Sz.mulOk (Sz.two.mul (g1.add g2)) d1 (by decide)
      · exact Sz.mulOk g1 g1 (by decide)
      · exact Sz.mulOk (g1.mul g1) q1 (by decide)
      · refine ⟨_, rfl, _, rfl, _, _, rfl, rfl, _, _, _, _, rfl, rfl, hm.sq, zs_at (Dt g) (k := i) (by omega) (by omega), ?_⟩
        refine ⟨_, rfl, .inl ⟨rfl, _, hm.sq⟩, _, rfl, l, _, _, rfl, rfl, hm, (by rw [zs_len]; exact small1000 (by omega)), ?_⟩
        refine ⟨_, _, rfl, s1.put hl, ?_⟩
        show upd H' l _ l = _
        rw [upd_same, ← zs_snoc (i + 1), Dt_succ]
    · rintro σ H' ⟨v3, v4, rfl, s1, hm⟩
      refine ⟨_, rfl, k l H' hl s1 ?_⟩
      have e2 : n - 1 + 1 = n := by omega
      rwa [e2] at hm
end
end Hf
set_option linter.all false
set_option maxRecDepth 100000
set_option maxHeartbeats 4000000
set_option Elab.async false
namespace Hf
open PySem PySem.Spec PyProof.Rows L2
open PySem.W (Codec)
open Hull
theorem lc_rng {lo : Int} {n : Nat} {g : TG} {te : TE} {vs : List Nat} {σ : L2.St} {H1 : Hp} {R : Hp → Prop} {D : Addr} (Pv : Nat → Hp → Prop) (h0 : Pv 0 (upd H1 D (.lst [])))
    (hs : ∀ (i : Nat) H, i < n → Pv i H → g (.int (lo + i)) (wipe σ vs) H fun σ2 H2 => wipe σ2 vs = wipe σ vs ∧ te σ2 H2 fun y H4 => ∃ acc, H4 D = some (.lst acc) ∧ acc.length < sizeLine ∧ Pv (i + 1) (upd H4 D (.lst (acc ++ [y])))) (hd : ∀ H, Pv n H → R H) :
    ∃ W : Nat → Nat → Hp → Prop, (∃ m, W 0 m (upd H1 D (.lst []))) ∧ ∀ i m H, W i m H →
      ((Itr lo n).stop i H ∧ R H) ∨ ((Itr lo n).go i H ∧ ∃ Nx : Hp → Prop, (∀ H', Nx H' → ∃ m', m' < m ∧ W (i + 1) m' H') ∧ ∀ x H', (Itr lo n).yld i H x H' → g x (wipe σ vs) H' fun σ2 H2 => wipe σ2 vs = wipe σ vs ∧ tYes σ2 H2 fun b H3 =>
        if b = true then te σ2 H3 fun y H4 => ∃ acc, H4 D = some (.lst acc) ∧ acc.length < sizeLine ∧ Nx (upd H4 D (.lst (acc ++ [y]))) else Nx H3) := by
  refine ⟨fun i m H => m = n - i ∧ i ≤ n ∧ Pv i H, ⟨n, by simp, Nat.zero_le _, h0⟩, ?_⟩
  rintro i m H ⟨rfl, hi, p⟩
  by_cases hlt : i < n
  · refine .inr ⟨hlt, Pv (i + 1), fun H' p' => ⟨n - (i + 1), by omega, rfl, hlt, p'⟩, fun x H' y => ?_⟩
    obtain ⟨e, y⟩ := y
    subst e y
    exact hs i _ hlt p
  · have e : i = n := by omega
    subst e
    exact .inl ⟨Nat.le_refl _, hd H p⟩
theorem lc_lst {K : PySem.W.Frag} {a : Addr} (xs : List V) {g : TG} {te : TE} {vs : List Nat} {σ : L2.St} {H1 : Hp} {R : Hp → Prop} {D : Addr} (Pv : Nat → Hp → Prop) (h0 : Pv 0 (upd H1 D (.lst [])))
    (hl : ∀ i H, i ≤ xs.length → Pv i H → SqL K H a xs) (hs : ∀ (i : Nat) x H, xs[i]? = some x → Pv i H → g x (wipe σ vs) H fun σ2 H2 => wipe σ2 vs = wipe σ vs ∧ te σ2 H2 fun y H4 => ∃ acc, H4 D = some (.lst acc) ∧ acc.length < sizeLine ∧ Pv (i + 1) (upd H4 D (.lst (acc ++ [y]))))
    (hd : ∀ H, Pv xs.length H → R H) :
    ∃ W : Nat → Nat → Hp → Prop, (∃ m, W 0 m (upd H1 D (.lst []))) ∧ ∀ i m H, W i m H →
      ((Itl K a).stop i H ∧ R H) ∨ ((Itl K a).go i H ∧ ∃ Nx : Hp → Prop, (∀ H', Nx H' → ∃ m', m' < m ∧ W (i + 1) m' H') ∧ ∀ x H', (Itl K a).yld i H x H' → g x (wipe σ vs) H' fun σ2 H2 => wipe σ2 vs = wipe σ vs ∧ tYes σ2 H2 fun b H3 =>
        if b = true then te σ2 H3 fun y H4 => ∃ acc, H4 D = some (.lst acc) ∧ acc.length < sizeLine ∧ Nx (upd H4 D (.lst (acc ++ [y]))) else Nx H3) := by
  refine ⟨fun i m H => m = xs.length - i ∧ i ≤ xs.length ∧ Pv i H, ⟨xs.length, by simp, Nat.zero_le _, h0⟩, ?_⟩
  rintro i m H ⟨rfl, hi, p⟩
  by_cases hlt : i < xs.length
  · refine .inr ⟨⟨xs, xs[i], hl i H hi p, List.getElem?_eq_getElem hlt⟩, Pv (i + 1), fun H' p' => ⟨xs.length - (i + 1), by omega, rfl, hlt, p'⟩, fun x H' y => ?_⟩
    obtain ⟨e, y⟩ := y
    subst e
    exact hs i x _ (y xs (hl i _ hi p)) p
  · have e : i = xs.length := by omega
    subst e
    exact .inl ⟨⟨xs, hl _ H hi p, Nat.le_refl _⟩, hd H p⟩
section
variable {P : Program} {w : World} {K : PySem.W.Frag} {mg : Str → Option Value} {base : Heap}
abbrev s_chord_turns : Stmt := top 9
theorem sc_chord_turns : FnScope ["gaps", "ys", "multiple", "slopes", "turns", "k"] ["gaps", "ys", "multiple"] (defScope s_chord_turns) := ⟨rfl, rfl, rfl, by decide +kernel, rfl, by decide +kernel, by decide +kernel⟩
def spTurns (K : PySem.W.Frag) : Sp := fun vs H Q E => ∃ (a b : Addr) (n Y : Nat) (g y : Nat → Int), vs = [.ref a, .ref b, .int (Lm g n)] ∧ SqL K H a (zs_ n g) ∧ SqL K H b (zs_ (n + 1) y) ∧ Gaps g n ∧ (∀ j, j ≤ n → Sz Y (y j)) ∧ Y ≤ 1000000 ∧
  ∀ l H', H l = none → Same H H' → IsInts H' l n (Tn g y (Lm g n)) → Q (.ref l) H'
theorem ok_turns {f : Addr} {fd : FuncData} (F : Fun K "chord_turns" "chord_turns" s_chord_turns f fd) (T : Txt K mg) : FnOk P w K mg base CX0 1 f fd ["gaps", "ys", "multiple"] (spTurns K) := by
  refine F.ok sc_chord_turns (fun vs H Q E h => ?_) (fun cdv A outer s H vs Q E hr h => ?_)
  · obtain ⟨a, b, n, Y, g, y, rfl, _⟩ := h
    rfl
  · obtain ⟨a, b, n, Y, g, y, rfl, hS, hB, G, hy, hY, k⟩ := h
    have n0 := G.n0
    have n23 := G.n23
    refine ⟨_, (pss_cons (ps_setLc (i := 3) (own := [("k", 5)]) rfl sc_chord_turns.nd rfl rfl rfl (pi_range1 rfl T.n_range (pa_cons (pe_callB (len_k (K := K)) (by rfl) T.n_len PySem.boot_len (pa_cons (pv 0) pa_nil)) pa_nil)) (blk_of (show blkOk ["gaps", "ys", "multiple", "slopes", "turns", "k"] (defScope s_chord_turns) _ [("k", 5)] = true by decide +kernel)) (fun _ _ _ _ _ => pg_name (i := 5) sc_chord_turns.nd rfl (Or.inl rfl)) (fun _ _ _ _ _ => pts_nil) (fun _ _ _ _ _ => (pe_op op_mulG (pe_op op_sub (pe_ix (ix_lk (K := K)) (pv 1) (pe_op op_add (pv 5) pe_int) (fun _ _ => rfl)) (pe_ix (ix_lk (K := K)) (pv 1) (pv 5) (fun _ _ => rfl))) (pe_op op_fdivG (pv 2) (pe_ix (ix_lk (K := K)) (pv 0) (pv 5) (fun _ _ => rfl))))))
        (pss_cons (ps_set (i := 4) sc_chord_turns.nd rfl (Or.inl rfl) (pe_lst (pa_cons pe_int pa_nil)))
        (pss_cons (ps_for PassesOwn.never rfl (pi_range2 rfl T.n_range (pa_cons pe_int (pa_cons (pe_callB (len_k (K := K)) (by rfl) T.n_len PySem.boot_len (pa_cons (pv 0) pa_nil)) pa_nil))) (pg_name (i := 5) sc_chord_turns.nd rfl (Or.inl rfl)) (pss_one (ps_expr (pe_bm PySem.F.plainAttrs_list PySem.F.slot_list_append PySem.F.type_list_append mt_append (pv 4) (pa_cons (pe_op op_sub (pe_ix (ix_lk (K := K)) (pv 3) (pv 5) (fun _ _ => rfl)) (pe_ix (ix_lk (K := K)) (pv 3) (pe_op op_sub (pv 5) pe_int) (fun _ _ => rfl))) pa_nil)))))
        (pss_one (ps_ret (pv 4)))))), ?_⟩
    refine ⟨_, rfl, a, _, rfl, .inl hS, n, (by rw [zs_len]), by omega, by omega, ?_⟩
    intro D hD
    refine lc_rng (fun i H' => Same H H' ∧ IsInts H' D i (Sl g y (Lm g n))) ⟨(Same.refl H).new hD, upd_same⟩ ?_ ?_
    · rintro i H' hi ⟨s1, hd⟩
      have hS' := s1.seq hS
      have hB' := s1.seq hB
      have hg := G.pos i (by omega)
      have hi : i < n := by omega
      refine ⟨rfl, ?_⟩
      refine ⟨_, rfl, _, rfl, _, _, rfl, rfl, _, _, _, _, rfl, rfl, hB', zs_at y (k := i + 1) (by omega) (by omega), _, rfl, _, rfl, _, _, _, _, rfl, rfl, hB', zs_at y (k := i) (by omega) (by omega), _, _, rfl, rfl, _, rfl, _, rfl, _, rfl, _, _, _, _, rfl, rfl, hS', zs_at g (k := i) (by omega) (by omega), _, _, rfl, rfl, ?_, _, _, rfl, rfl, ?_, ?_⟩
      · exact .sm hg ((G.sz i (by omega)).mono (by decide))
      · exact Sz.mulOk ((hy (i + 1) (by omega)).sub (hy i (by omega))) (Sz.div G.lm) (by omega)
      · refine ⟨_, hd, by rw [zs_len]; exact small1000 (by omega), s1.put hD, ?_⟩
        show upd H' D _ D = _
        rw [upd_same, ← zs_snoc]
        rfl
    · rintro H1 ⟨s1, hd⟩
      refine ⟨(by show 1 ≤ sizeLine; decide), fun l hl => ?_⟩
      have hl0 := s1.free hl
      have s2 : Same H1 (upd H1 l (.lst [.int 0])) := (Same.refl H1).new hl
      refine ⟨_, rfl, a, _, rfl, .inl ((s1.trans s2).seq hS), 1, n, (by rw [zs_len]), ⟨by omega, by omega, by omega, by omega⟩, ?_⟩
      have e : ((n : Int) - 1).toNat = n - 1 := by omega
      rw [e]
      refine for_range (lo := 1) (n := n - 1) (fun i σ H' => ∃ v5, σ = [some (.ref a), some (.ref b), some (.int (Lm g n)), some (.ref D), some (.ref l), v5] ∧ Same H1 H' ∧ IsInts H' l (i + 1) (Tn g y (Lm g n))) ⟨none, rfl, s2, upd_same⟩ ?_ ?_
      · rintro i σ H' hi ⟨v5, rfl, s3, hm⟩
        have hD' : IsInts H' D n (Sl g y (Lm g n)) := s3 _ _ hd
        refine ⟨_, rfl, .inl ⟨rfl, _, hm.sq⟩, _, rfl, _, rfl, _, _, _, _, rfl, rfl, hD'.sq, zs_at (Sl g y (Lm g n)) (k := i + 1) (by omega) (by omega), _, rfl, _, rfl, _, _, rfl, rfl, _, _, _, _, rfl, rfl, hD'.sq, zs_at (Sl g y (Lm g n)) (k := i) (by omega) (by omega), _, _, rfl, rfl, l, _, _, rfl, rfl, hm, (by rw [zs_len]; exact small1000 (by omega)), ?_⟩
        refine ⟨_, rfl, s3.put hl, ?_⟩
        show upd H' l _ l = _
        rw [upd_same, ← zs_snoc (i + 1)]
        rfl
      · rintro σ H' ⟨v5, rfl, s3, hm⟩
        refine ⟨_, rfl, k l H' hl0 (s1.trans s3) ?_⟩
        have e2 : n - 1 + 1 = n := by omega
        rwa [e2] at hm
end
end Hf
set_option linter.all false
set_option maxRecDepth 100000
set_option maxHeartbeats 4000000
set_option Elab.async false
namespace Hf
open PySem PySem.Spec PyProof.Rows L2
open PySem.W (Codec)
open Hull
theorem zs_set {n k : Nat} {f f' : Nat → Int} {v : Int} (hv : f' k = v) (ho : ∀ m, m < n → m ≠ k → f' m = f m) : (zs_ n f).set k (.int v) = zs_ n f' := by
  refine List.ext_getElem? fun i => ?_
  by_cases h : i < n
  · rw [zs_get f' h]
    by_cases e : k = i
    · subst e
      rw [List.getElem?_set_self (by rw [zs_len]; exact h), hv]
    · rw [List.getElem?_set_ne e, zs_get f h, ho i h (fun q => e q.symm)]
  · rw [List.getElem?_eq_none (by rw [List.length_set, zs_len]; omega), List.getElem?_eq_none (by rw [zs_len]; omega)]
theorem zs_const (n : Nat) (v : Int) : (List.replicate n [V.int v]).flatten = zs_ n (fun _ => v) := by
  induction n with
  | zero => rfl
  | succ n ih =>
    rw [← zs_snoc, ← ih, List.replicate_succ', List.flatten_append]
    rfl
theorem ixN_nat {n j : Nat} {z : Int} (e : z = (j : Int)) (h : j < n) : ixN n z = some j := by
  unfold ixN
  rw [if_pos (by omega), if_pos (by omega), e]
  rfl
section
variable {P : Program} {w : World} {K : PySem.W.Frag} {mg : Str → Option Value} {base : Heap}
abbrev s_scaled_bends : Stmt := top 10
theorem sc_scaled_bends : FnScope ["gaps", "minors", "turns", "reduced", "k", "bends", "rest"] ["gaps", "minors", "turns"] (defScope s_scaled_bends) := ⟨rfl, rfl, rfl, by decide +kernel, rfl, by decide +kernel, by decide +kernel⟩
def spBends (K : PySem.W.Frag) : Sp := fun vs H Q E => ∃ (a b c : Addr) (n Y : Nat) (g y : Nat → Int), vs = [.ref a, .ref b, .ref c] ∧ SqL K H a (zs_ n g) ∧ SqL K H b (zs_ n (Dt g)) ∧ SqL K H c (zs_ n (Tn g y (Lm g n))) ∧ Gaps g n ∧ (∀ j, j ≤ n → Sz Y (y j)) ∧ Y ≤ 1000000 ∧
  ∀ l H', H l = none → Same H H' → IsInts H' l (n + 1) (Bd g y n) → Q (.ref l) H'
def Bp (g t : Nat → Int) (n i m : Nat) : Int := if n - 1 - i < m then Bn g t (n - 1) m else 0
theorem ok_bends {f : Addr} {fd : FuncData} (F : Fun K "scaled_bends" "scaled_bends" s_scaled_bends f fd) (T : Txt K mg) : FnOk P w K mg base CX0 1 f fd ["gaps", "minors", "turns"] (spBends K) := by
  refine F.ok sc_scaled_bends (fun vs H Q E h => ?_) (fun cdv A outer s H vs Q E hr h => ?_)
  · obtain ⟨a, b, c, n, Y, g, y, rfl, _⟩ := h
    rfl
  · obtain ⟨a, b, c, n, Y, g, y, rfl, hS, hM, hT, G, hy, hY, k⟩ := h
    have n0 := G.n0
    have n23 := G.n23
    refine ⟨_, (pss_cons (ps_set (i := 3) sc_scaled_bends.nd rfl (Or.inl rfl) (pe_lst (pa_cons pe_int pa_nil)))
        (pss_cons (ps_for PassesOwn.never rfl (pi_range2 rfl T.n_range (pa_cons pe_int (pa_cons (pe_callB (len_k (K := K)) (by rfl) T.n_len PySem.boot_len (pa_cons (pv 0) pa_nil)) pa_nil))) (pg_name (i := 4) sc_scaled_bends.nd rfl (Or.inl rfl)) (pss_one (ps_expr (pe_bm PySem.F.plainAttrs_list PySem.F.slot_list_append PySem.F.type_list_append mt_append (pv 3) (pa_cons (pe_op op_sub (pe_op op_mulG (pe_ix (ix_lk (K := K)) (pv 1) (pe_op op_sub (pv 4) pe_int) (fun _ _ => rfl)) (pe_ix (ix_lk (K := K)) (pv 2) (pv 4) (fun _ _ => rfl))) (pe_op op_mulG (pe_ix (ix_lk (K := K)) (pv 0) (pe_op op_sub (pv 4) pe_int) (fun _ _ => rfl)) (pe_ix (ix_lk (K := K)) (pv 3) (pe_op op_sub (pv 4) pe_int) (fun _ _ => rfl)))) pa_nil)))))
        (pss_cons (ps_set (i := 5) sc_scaled_bends.nd rfl (Or.inl rfl) (pe_op op_rep (pe_lst (pa_cons pe_int pa_nil)) (pe_op op_add (pe_callB (len_k (K := K)) (by rfl) T.n_len PySem.boot_len (pa_cons (pv 0) pa_nil)) pe_int)))
        (pss_cons (ps_for PassesOwn.never rfl (pi_range3 rfl T.n_range (pa_cons (pe_op op_sub (pe_callB (len_k (K := K)) (by rfl) T.n_len PySem.boot_len (pa_cons (pv 0) pa_nil)) pe_int) (pa_cons pe_int (pa_cons (pe_un un_neg pe_int) pa_nil)))) (pg_name (i := 4) sc_scaled_bends.nd rfl (Or.inl rfl)) (pss_cons (ps_set (i := 6) sc_scaled_bends.nd rfl (Or.inl rfl) (pe_op op_sub (pe_op op_mulG (pe_ix (ix_lk (K := K)) (pv 1) (pe_un un_neg pe_int) (fun _ _ => rfl)) (pe_ix (ix_lk (K := K)) (pv 3) (pv 4) (fun _ _ => rfl))) (pe_op op_mulG (pe_op op_mulG (pe_ix (ix_lk (K := K)) (pv 1) (pe_op op_sub (pv 4) pe_int) (fun _ _ => rfl)) (pe_ix (ix_lk (K := K)) (pv 0) (pv 4) (fun _ _ => rfl))) (pe_ix (ix_lk (K := K)) (pv 5) (pe_op op_add (pv 4) pe_int) (fun _ _ => rfl)))))
        (pss_one (ps_asg (pe_op op_fdivG (pv 6) (pe_ix (ix_lk (K := K)) (pv 1) (pv 4) (fun _ _ => rfl))) (pg_sub (pv 5) (pv 4) set_list)))))
        (pss_one (ps_ret (pv 5))))))), ?_⟩
    obtain ⟨t, et⟩ : ∃ t, t = Tn g y (Lm g n) := ⟨_, rfl⟩
    rw [← et] at hT
    refine ⟨(by show 1 ≤ sizeLine; decide), fun l hl => ?_⟩
    have s0 : Same H (upd H l (.lst [.int 0])) := (Same.refl H).new hl
    refine ⟨_, rfl, a, _, rfl, .inl (s0.seq hS), 1, n, (by rw [zs_len]), ⟨by omega, by omega, by omega, by omega⟩, ?_⟩
    have e : ((n : Int) - 1).toNat = n - 1 := by omega
    rw [e]
    refine for_range (lo := 1) (n := n - 1) (fun i σ H' => ∃ v4, σ = [some (.ref a), some (.ref b), some (.ref c), some (.ref l), v4, none, none] ∧ Same H H' ∧ IsInts H' l (i + 1) (Rd g t)) ⟨none, rfl, s0, upd_same⟩ ?_ ?_
    · rintro i σ H' hi ⟨v4, rfl, s1, hr1⟩
      have hS' := s1.seq hS
      have hm' := s1.seq hM
      have ht' := s1.seq hT
      refine ⟨_, rfl, .inl ⟨rfl, _, hr1.sq⟩, _, rfl, _, rfl, _, _, rfl, rfl, _, _, _, _, rfl, rfl, hm', zs_at (Dt g) (k := i) (by omega) (by omega), _, rfl, _, rfl, _, _, _, _, rfl, rfl, ht', zs_at t (k := i + 1) (by omega) (by omega), _, _, rfl, rfl, ?_, _, rfl, _, rfl, _, _, rfl, rfl, _, _, _, _, rfl, rfl, hS', zs_at g (k := i) (by omega) (by omega), _, rfl, _, rfl, _, _, rfl, rfl, _, _, _, _, rfl, rfl, hr1.sq, zs_at (Rd g t) (k := i) (by omega) (by omega), _, _, rfl, rfl, ?_, _, _, rfl, rfl, l, _, _, rfl, rfl, hr1, (by rw [zs_len]; exact small1000 (by omega)), ?_⟩
      · rw [et]
        exact Sz.mulOk (G.dt (by omega)) (G.tn hy (by omega)) (by omega)
      · rw [et]
        exact Sz.mulOk (G.sz i (by omega)) (G.rd hy (by omega)) (by omega)
      · refine ⟨_, rfl, s1.put hl, ?_⟩
        show upd H' l _ l = _
        rw [upd_same, ← zs_snoc (i + 1)]
        rfl
    · rintro σ H1 ⟨v4, rfl, s1, hr1⟩
      have e2 : n - 1 + 1 = n := by omega
      rw [e2] at hr1
      refine ⟨(by show 1 ≤ sizeLine; decide), fun z hz => ?_⟩
      have s2 : Same H1 (upd H1 z (.lst [.int 0])) := (Same.refl H1).new hz
      refine ⟨_, rfl, a, _, rfl, .inl ((s1.trans s2).seq hS), _, _, rfl, rfl, z, _, _, rfl, rfl, upd_same, by rw [zs_len]; omega, by rw [zs_len]; omega, by rw [zs_len]; exact Nat.le_of_lt (small1000 (by show 1 * _ ≤ _; omega)), fun q hq => ?_⟩
      have ek : ((((zs_ n g).length : Nat) : Int) + 1).toNat = n + 1 := by rw [zs_len]; omega
      rw [ek, zs_const]
      have hq1 : H1 q = none := s2.free hq
      have hql : l ≠ q := ne_of_none hr1 hq1
      have s3 : Same H1 (upd (upd H1 z (.lst [.int 0])) q (.lst (zs_ (n + 1) fun _ => 0))) := s2.new hq
      refine ⟨_, rfl, a, _, rfl, .inl ((s1.trans s3).seq hS), _, _, rfl, rfl, _, rfl, ((n - 1 : Nat) : Int), 0, -1, n - 1, (by rw [zs_len, Int.natCast_sub (by omega)]; rfl), ?_, ?_⟩
      · have := RgC.neg (i := ((n - 1 : Nat) : Int)) (j := 0) (by omega) (by omega) (by omega) (by omega)
        have e4 : (((n - 1 : Nat) : Int) - 0).toNat = n - 1 := by omega
        rwa [e4] at this
      refine for_rangeC (lo := ((n - 1 : Nat) : Int)) (c := -1) (n := n - 1) (fun i σ H' => ∃ v4 v6, σ = [some (.ref a), some (.ref b), some (.ref c), some (.ref l), v4, some (.ref q), v6] ∧ Same H1 H' ∧ IsInts H' q (n + 1) (Bp g t n i)) ⟨_, none, rfl, s3, ?_⟩ ?_ ?_
      · show upd _ q _ q = _
        rw [upd_same]
        refine congrArg (fun x => some (HO.lst x)) (zs_congr fun m hm => ?_)
        unfold Bp
        split
        · have : m = n - 1 + 1 := by omega
          rw [this, Bn_top]
        · rfl
      · rintro i σ H' hi ⟨v4, v6, rfl, s4, hb1⟩
        obtain ⟨j, hj⟩ : ∃ j, n - 1 - i = j + 1 := ⟨n - 1 - i - 1, by omega⟩
        have ez : ((n - 1 : Nat) : Int) + ((i : Nat) : Int) * (-1) = ((j + 1 : Nat) : Int) := by omega
        rw [ez]
        have hS' := (s1.trans s4).seq hS
        have hm' := (s1.trans s4).seq hM
        have hr2 : IsInts H' l n (Rd g t) := s4 _ _ hr1
        have eb : Bp g t n i (j + 2) = Bn g t (n - 1) (j + 2) := by
          unfold Bp
          rw [if_pos (by omega)]
        have z1 : Sz (Y + 1039) (Bn g t (n - 1) (j + 2)) := by rw [et]; exact G.bd hy (k := j + 2) (by omega)
        have z2 : Sz (Y + 1036) (Rd g t (j + 1)) := by rw [et]; exact G.rd hy (by omega)
        have p1 := G.dt0 (k := j + 1) (by omega)
        refine ⟨_, rfl, _, rfl, _, _, _, _, rfl, rfl, hm', zs_last (Dt g) (by omega), _, rfl, _, rfl, _, _, _, _, rfl, rfl, hr2.sq, zs_at (Rd g t) (k := j + 1) (by omega) (by omega), _, _, rfl, rfl, ?_, _, rfl, _, rfl, _, _, rfl, rfl, _, _, _, _, rfl, rfl, hm', zs_at (Dt g) (k := j) (by omega) (by omega), _, rfl, _, rfl, _, _, _, _, rfl, rfl, hS', zs_at g (k := j + 1) (by omega) (by omega), _, _, rfl, rfl, ?_, _, rfl, _, rfl, _, _, rfl, rfl, _, _, _, _, rfl, rfl, hb1.sq, zs_at (Bp g t n i) (k := j + 2) (by omega) (by omega), _, _, rfl, rfl, ?_, _, _, rfl, rfl, ?_⟩
        · exact Sz.mulOk (G.dt (by omega)) z2 (by omega)
        · exact Sz.mulOk (G.dt (k := j) (by omega)) (G.sz (j + 1) (by omega)) (by omega)
        · rw [eb]
          exact Sz.mulOk ((G.dt (k := j) (by omega)).mul (G.sz (j + 1) (by omega))) z1 (by omega)
        · refine ⟨_, rfl, _, rfl, _, rfl, _, _, _, _, rfl, rfl, hm', zs_at (Dt g) (k := j + 1) (by omega) (by omega), _, _, rfl, rfl, .sm p1 ((G.dt (k := j + 1) (by omega)).mono (by decide)), _, rfl, _, rfl, _, _, _, _, rfl, rfl, hb1, ixN_nat (j := j + 1) rfl (by rw [zs_len]; omega), ?_⟩
          refine ⟨_, _, rfl, s4.put hq1, ?_⟩
          show upd H' q _ q = _
          rw [upd_same]
          refine congrArg (fun x => some (HO.lst x)) (zs_set ?_ fun m hm hne => ?_)
          · unfold Bp
            rw [if_pos (by omega), if_pos (by omega), Bn_step g t (N := n - 1) (i := j + 1) (by omega), Dq_succ]
          · unfold Bp
            by_cases h1 : n - 1 - i < m
            · rw [if_pos h1, if_pos (by omega)]
            · rw [if_neg h1, if_neg (by omega)]
      · rintro σ H' ⟨v4, v6, rfl, s4, hb1⟩
        refine ⟨_, rfl, k q H' (s1.free hq1) (s1.trans s4) ?_⟩
        have e5 : zs_ (n + 1) (Bp g t n (n - 1)) = zs_ (n + 1) (Bd g y n) := zs_congr fun m hm => by
          unfold Bp Bd
          rw [← et]
          split
          · rfl
          · have : m = 0 := by omega
            rw [this, Bn_zero fun j hj => G.pos j (by omega)]
        unfold IsInts at hb1 ⊢
        rw [← e5]
        exact hb1
end
end Hf
set_option linter.all false
set_option maxRecDepth 100000
set_option maxHeartbeats 4000000
set_option Elab.async false
namespace Hf
open PySem PySem.Spec PyProof.Rows L2
open PySem.W (Codec)
open Hull
section
variable {P : Program} {w : World} {K : PySem.W.Frag} {mg : Str → Option Value} {base : Heap}
abbrev s_cubic : Stmt := top 11
theorem sc_cubic : FnScope ["gap", "multiple", "scale", "ys", "bends"] ["gap", "multiple", "scale", "ys", "bends"] (defScope s_cubic) := ⟨rfl, rfl, rfl, by decide +kernel, rfl, by decide +kernel, by decide +kernel⟩
def spCubic (K : PySem.W.Frag) : Sp := fun vs H Q E => ∃ (gk M S y0 y1 b0 b1 : Int) (p q : Addr) (Y : Nat), vs = [.int gk, .int M, .int S, .ref p, .ref q] ∧ H p = some (.lst [.int y0, .int y1]) ∧ H q = some (.lst [.int b0, .int b1]) ∧
  0 < gk ∧ Sz 21 gk ∧ Sz 484 M ∧ Sz 1519 S ∧ Sz Y y0 ∧ Sz Y y1 ∧ Sz (Y + 1039) b0 ∧ Sz (Y + 1039) b1 ∧ Y ≤ 1000000 ∧
  ∀ l, H l = none → Q (.ref l) (upd H l (.lst [.int (y0 * S), .int ((y1 - y0) * (S / gk) - gk * M * (2 * b0 + b1)), .int (3 * M * b0), .int ((b1 - b0) * (M / gk))]))
theorem ok_cubic {f : Addr} {fd : FuncData} (F : Fun K "cubic" "cubic" s_cubic f fd) : FnOk P w K mg base CX0 1 f fd ["gap", "multiple", "scale", "ys", "bends"] (spCubic K) := by
  refine F.ok sc_cubic (fun vs H Q E h => ?_) (fun cdv A outer s H vs Q E hr h => ?_)
  · obtain ⟨gk, M, S, y0, y1, b0, b1, p, q, Y, rfl, _⟩ := h
    rfl
  · obtain ⟨gk, M, S, y0, y1, b0, b1, p, q, Y, rfl, hp, hq, g0, zg, zM, zS, zy0, zy1, zb0, zb1, hY, k⟩ := h
    refine ⟨_, (pss_one (ps_ret (pe_lst (pa_cons (pe_op op_mulG (pe_ix (ix_lk (K := K)) (pv 3) pe_int (fun _ _ => rfl)) (pv 2)) (pa_cons (pe_op op_sub (pe_op op_mulG (pe_op op_sub (pe_ix (ix_lk (K := K)) (pv 3) pe_int (fun _ _ => rfl)) (pe_ix (ix_lk (K := K)) (pv 3) pe_int (fun _ _ => rfl))) (pe_op op_fdivG (pv 2) (pv 0))) (pe_op op_mulG (pe_op op_mulG (pv 0) (pv 1)) (pe_op op_add (pe_op op_mulG pe_int (pe_ix (ix_lk (K := K)) (pv 4) pe_int (fun _ _ => rfl))) (pe_ix (ix_lk (K := K)) (pv 4) pe_int (fun _ _ => rfl))))) (pa_cons (pe_op op_mulG (pe_op op_mulG pe_int (pv 1)) (pe_ix (ix_lk (K := K)) (pv 4) pe_int (fun _ _ => rfl))) (pa_cons (pe_op op_mulG (pe_op op_sub (pe_ix (ix_lk (K := K)) (pv 4) pe_int (fun _ _ => rfl)) (pe_ix (ix_lk (K := K)) (pv 4) pe_int (fun _ _ => rfl))) (pe_op op_fdivG (pv 1) (pv 0))) pa_nil))))))), ?_⟩
    have cg : CDivG S gk := .sm g0 (zg.mono (by decide))
    have cg2 : CDivG M gk := .sm g0 (zg.mono (by decide))
    refine ⟨_, rfl, _, _, _, _, rfl, rfl, (SqL.of hp), at_of (j := 0) rfl rfl, _, rfl, _, _, rfl, rfl, ?_, _, rfl, _, _, _, _, rfl, rfl, (SqL.of hp), at_of (j := 1) rfl rfl, _, rfl, _, _, _, _, rfl, rfl, (SqL.of hp), at_of (j := 0) rfl rfl, _, _, rfl, rfl, _, rfl, _, rfl, _, _, rfl, rfl, cg, _, _, rfl, rfl, ?_, _, rfl, _, rfl, _, _, rfl, rfl, ?_, _, rfl, _, _, _, _, rfl, rfl, (SqL.of hq), at_of (j := 0) rfl rfl, _, _, rfl, rfl, ?_, _, rfl, _, _, _, _, rfl, rfl, (SqL.of hq), at_of (j := 1) rfl rfl, _, _, rfl, rfl, _, _, rfl, rfl, ?_, _, _, rfl, rfl, _, rfl, _, _, rfl, rfl, ?_, _, rfl, _, _, _, _, rfl, rfl, (SqL.of hq), at_of (j := 0) rfl rfl, _, _, rfl, rfl, ?_, _, rfl, _, _, _, _, rfl, rfl, (SqL.of hq), at_of (j := 1) rfl rfl, _, rfl, _, _, _, _, rfl, rfl, (SqL.of hq), at_of (j := 0) rfl rfl, _, _, rfl, rfl, _, rfl, _, rfl, _, _, rfl, rfl, cg2, _, _, rfl, rfl, ?_, (by show 4 ≤ sizeLine; decide), k⟩
    · exact Sz.mulOk zy0 zS (by omega)
    · exact Sz.mulOk (zy1.sub zy0) (Sz.div zS) (by omega)
    · exact Sz.mulOk zg zM (by omega)
    · exact Sz.mulOk Sz.two zb0 (by omega)
    · exact Sz.mulOk (zg.mul zM) ((Sz.two.mul zb0).add (zb1.mono (by omega))) (by omega)
    · exact Sz.mulOk Sz.three zM (by omega)
    · exact Sz.mulOk (Sz.three.mul zM) zb0 (by omega)
    · exact Sz.mulOk (zb1.sub zb0) (Sz.div zM) (by omega)
end
end Hf
set_option linter.all false
set_option maxRecDepth 100000
set_option maxHeartbeats 4000000
set_option Elab.async false
namespace Hf
open PySem PySem.Spec PyProof.Rows L2
open PySem.W (Codec)
open Hull
def bfB (a : Addr) (z : Int) (c : Addr) : List (Str × V) := putF "pieces" (.ref c) (putF "scale" (.int z) (putF "nails" (.ref a) []))
theorem bfB_nails (a : Addr) (z : Int) (c : Addr) : (bfB a z c).lookup ("nails" : Str) = some (.ref a) := by
  unfold bfB
  rw [lookup_putF, if_neg (by decide +kernel), lookup_putF, if_neg (by decide +kernel), lookup_putF, if_pos rfl]
theorem bfB_scale (a : Addr) (z : Int) (c : Addr) : (bfB a z c).lookup ("scale" : Str) = some (.int z) := by
  unfold bfB
  rw [lookup_putF, if_neg (by decide +kernel), lookup_putF, if_pos rfl]
theorem bfB_pieces (a : Addr) (z : Int) (c : Addr) : (bfB a z c).lookup ("pieces" : Str) = some (.ref c) := by
  unfold bfB
  rw [lookup_putF, if_pos rfl]
theorem bfB_no (a : Addr) (z : Int) (c : Addr) {m : Str} (h1 : ¬ m = "pieces") (h2 : ¬ m = "scale") (h3 : ¬ m = "nails") : (bfB a z c).lookup m = none := by
  unfold bfB
  rw [lookup_putF, if_neg h1, lookup_putF, if_neg h2, lookup_putF, if_neg h3]
  rfl
def refs (n : Nat) (pa : Nat → Addr) : List V := (List.range n).map fun k => V.ref (pa k)
theorem refs_len (n : Nat) (pa : Nat → Addr) : (refs n pa).length = n := by simp [refs]
theorem refs_get {n k : Nat} (pa : Nat → Addr) (h : k < n) : (refs n pa)[k]? = some (.ref (pa k)) := by simp [refs, h]
theorem refs_at {n k : Nat} {z : Int} (pa : Nat → Addr) (e : z = (k : Int)) (h : k < n) : atI (refs n pa) z = some (.ref (pa k)) := at_of e (refs_get pa h)
theorem refs_snoc {n : Nat} {pa : Nat → Addr} {l : Addr} : refs n pa ++ [.ref l] = refs (n + 1) (fun k => if k = n then l else pa k) := by
  unfold refs
  rw [List.range_succ, List.map_append]
  congr 1
  · refine List.map_congr_left fun k hk => ?_
    show V.ref (pa k) = V.ref (if k = n then l else pa k)
    rw [if_neg (by have := List.mem_range.mp hk; omega)]
  · simp
structure PiecesAt (H : Hp) (c : Addr) (n m : Nat) (pa : Nat → Addr) (q : Nat → Nat → Int) : Prop where
  lst : H c = some (.lst (refs n pa))
  at_ : ∀ k, k < n → IsInts H (pa k) m (q k)
theorem PiecesAt.same {H H' : Hp} {c : Addr} {n m : Nat} {pa : Nat → Addr} {q : Nat → Nat → Int} (h : PiecesAt H c n m pa q) (s : Same H H') : PiecesAt H' c n m pa q := ⟨s _ _ h.lst, fun k hk => s _ _ (h.at_ k hk)⟩
structure BatAt (C : Addr) (H : Hp) (b : Addr) (n : Nat) (x y : Nat → Int) (dx a c : Addr) (pa : Nat → Addr) : Prop where
  ins : H b = some (.ins C dx (bfB a (Sc (gp x) n) c))
  nails : IsInts H a (n + 1) x
  pcs : PiecesAt H c n 4 pa (Cf (gp x) y n)
def IsBat (C : Addr) (H : Hp) (b : Addr) (n : Nat) (x y : Nat → Int) : Prop := ∃ dx a c pa, BatAt C H b n x y dx a c pa
theorem IsBat.same {C : Addr} {H H' : Hp} {b : Addr} {n : Nat} {x y : Nat → Int} (h : IsBat C H b n x y) (s : Same H H') : IsBat C H' b n x y := by
  obtain ⟨dx, a, c, pa, h⟩ := h
  exact ⟨dx, a, c, pa, s _ _ h.ins, s _ _ h.nails, h.pcs.same s⟩
structure TxtB (K : PySem.W.Frag) (C : Addr) : Prop where
  cl : Cls K C
  nails : NoAttr K C "nails"
  scale : NoAttr K C "scale"
  pieces : NoAttr K C "pieces"
def rm (q : Addr) (H : Hp) : Hp := fun b => if b = q then none else H b
theorem rm_ne {q b : Addr} {H : Hp} (h : b ≠ q) : rm q H b = H b := if_neg h
theorem rm_some {q b : Addr} {H : Hp} {ob : HO} (h : rm q H b = some ob) : b ≠ q ∧ H b = some ob := by
  by_cases e : b = q
  · unfold rm at h
    rw [if_pos e] at h
    cases h
  · rw [rm_ne e] at h
    exact ⟨e, h⟩
theorem rm_same {q : Addr} {H : Hp} : Same (rm q H) H := fun b ob h => (rm_some h).2
theorem _root_.L2.Same.rm {q : Addr} {H H' : Hp} (s : Same H H') : Same (rm q H) (Hf.rm q H') := fun b ob h => by
  obtain ⟨h1, h2⟩ := rm_some h
  rw [rm_ne h1]
  exact s _ _ h2
theorem rm_upd {q D : Addr} {H : Hp} {x : HO} (h : D ≠ q) : rm q (upd H D x) = upd (rm q H) D x := by
  funext b
  by_cases e : b = q
  · subst e
    rw [upd_ne (fun w => h w.symm)]
    unfold rm
    rw [if_pos rfl, if_pos rfl]
  · rw [rm_ne e]
    by_cases e2 : b = D
    · subst e2
      rw [upd_same, upd_same]
    · rw [upd_ne e2, upd_ne e2, rm_ne e]
theorem rm_upd_self {q : Addr} {H : Hp} {x : HO} : rm q (upd H q x) = rm q H := by
  funext b
  by_cases e : b = q
  · subst e
    unfold rm
    rw [if_pos rfl, if_pos rfl]
  · rw [rm_ne e, rm_ne e, upd_ne e]
theorem new_ne {H : Hp} {a q : Addr} (h : H a = none) (hq : H q ≠ none) : a ≠ q := fun e => hq (e ▸ h)
theorem _root_.L2.Same.held {H H' : Hp} (s : Same H H') {q : Addr} (h : H q ≠ none) : H' q ≠ none := by
  cases e : H q with
  | none => exact absurd e h
  | some o => rw [s _ _ e]; exact fun q => by cases q
def But (H : Hp) (x : Addr) (H' : Hp) : Prop := ∀ b o, H b = some o → b ≠ x → H' b = some o
theorem But.held {H H' : Hp} {o : Addr} (s : But H o H') {q : Addr} (h : H q ≠ none) (hn : q ≠ o) : H' q ≠ none := by
  cases e : H q with
  | none => exact absurd e h
  | some ob => rw [s _ _ e hn]; exact fun q => by cases q
theorem But.rm {q o : Addr} {H H' : Hp} (s : But H o H') : But (rm q H) o (Hf.rm q H') := fun b ob h n => by
  obtain ⟨h1, h2⟩ := rm_some h
  rw [rm_ne h1]
  exact s _ _ h2 n
section
variable {P : Program} {w : World} {K : PySem.W.Frag} {mg : Str → Option Value} {base : Heap}
abbrev s_Batten___init__ : Stmt := inClass (top 7) 0
theorem sc_Batten___init__ : FnScope ["self", "xs", "ys", "gaps", "multiple", "minors", "bends", "k"] ["self", "xs", "ys"] (defScope s_Batten___init__) := ⟨rfl, rfl, rfl, by decide +kernel, rfl, by decide +kernel, by decide +kernel⟩
def spBInit (K : PySem.W.Frag) (C : Addr) : Sp := fun vs H Q E => ∃ (o dx a b z : Addr) (n Y : Nat) (x y : Nat → Int), vs = [.ref o, .ref a, .ref b] ∧ H o = some (.ins C dx []) ∧ H z ≠ none ∧ z ≠ o ∧ SqL K H a (zs_ (n + 1) x) ∧ SqL K H b (zs_ (n + 1) y) ∧ Gaps (gp x) n ∧ (∀ j, j ≤ n → Sz Y (y j)) ∧ Y ≤ 1000000 ∧
  ∀ H', But H o H' → IsBat C (rm z H') o n x y → Q .non H'
theorem ok_binit {f C : Addr} {fd : FuncData} (F : Fun K "__init__" "Batten.__init__" s_Batten___init__ f fd) (T : Txt K mg) (B : TxtB K C) (G_least_multiple : Has P w K mg base 2 "least_multiple" ["numbers"] (spLcm K)) (G_leading_minors : Has P w K mg base 1 "leading_minors" ["gaps"] (spMinors K))
    (G_chord_turns : Has P w K mg base 1 "chord_turns" ["gaps", "ys", "multiple"] (spTurns K)) (G_scaled_bends : Has P w K mg base 1 "scaled_bends" ["gaps", "minors", "turns"] (spBends K)) (G_cubic : Has P w K mg base 1 "cubic" ["gap", "multiple", "scale", "ys", "bends"] (spCubic K)) :
    FnOk P w K mg base CX0 3 f fd ["self", "xs", "ys"] (spBInit K C) := by
  refine F.ok sc_Batten___init__ (fun vs H Q E h => ?_) (fun cdv A outer s H vs Q E hr h => ?_)
  · obtain ⟨o, dx, a, b, z, n, Y, x, y, rfl, _⟩ := h
    rfl
  · obtain ⟨o, dx, a, b, z, n, Y, x, y, rfl, hO, hz, hzo, hX, hYs, G, hy, hY, k⟩ := h
    have n0 := G.n0
    have n23 := G.n23
    refine ⟨_, (pss_cons (ps_set (i := 3) sc_Batten___init__.nd rfl (Or.inr rfl) (pe_lc (own := [("k", 7)]) rfl sc_Batten___init__.nd (pi_range1 rfl T.n_range (pa_cons (pe_op op_sub (pe_callB (len_k (K := K)) (by rfl) T.n_len PySem.boot_len (pa_cons (pv 1) pa_nil)) pe_int) pa_nil)) (blk_of (show blkOk ["self", "xs", "ys", "gaps", "multiple", "minors", "bends", "k"] (defScope s_Batten___init__) _ [("k", 7)] = true by decide +kernel)) (fun _ _ _ _ _ => pg_name (i := 7) sc_Batten___init__.nd rfl (Or.inl rfl)) (fun _ _ _ _ _ => pts_nil) (fun _ _ _ _ _ => (pe_op op_sub (pe_ix (ix_lk (K := K)) (pv 1) (pe_op op_add (pv 7) pe_int) (fun _ _ => rfl)) (pe_ix (ix_lk (K := K)) (pv 1) (pv 7) (fun _ _ => rfl))))))
        (pss_cons (ps_set (i := 4) sc_Batten___init__.nd rfl (Or.inr rfl) (pe_has G_least_multiple (hr.mono (by decide)) (pa_cons (pv 3) pa_nil)))
        (pss_cons (ps_set (i := 5) sc_Batten___init__.nd rfl (Or.inl rfl) (pe_has G_leading_minors (hr.mono (by decide)) (pa_cons (pv 3) pa_nil)))
        (pss_cons (ps_set (i := 6) sc_Batten___init__.nd rfl (Or.inr rfl) (pe_has G_scaled_bends (hr.mono (by decide)) (pa_cons (pv 3) (pa_cons (pv 5) (pa_cons (pe_has G_chord_turns (hr.mono (by decide)) (pa_cons (pv 3) (pa_cons (pv 2) (pa_cons (pv 4) pa_nil)))) pa_nil)))))
        (pss_cons (ps_fld (pv 0) (pe_callTy call_list_of (by rfl) T.n_list PyProof.Rows.boot_list (pa_cons (pv 1) pa_nil)) rfl)
        (pss_cons (ps_fld (pv 0) (pe_op op_mulG (pe_op op_mulG (pe_ix (ix_lk (K := K)) (pv 5) (pe_un un_neg pe_int) (fun _ _ => rfl)) (pv 4)) (pv 4)) rfl)
        (pss_one (ps_fld (pv 0) (pe_lc (own := [("k", 7)]) rfl sc_Batten___init__.nd (pi_range1 rfl T.n_range (pa_cons (pe_callB (len_k (K := K)) (by rfl) T.n_len PySem.boot_len (pa_cons (pv 3) pa_nil)) pa_nil)) (blk_of (show blkOk ["self", "xs", "ys", "gaps", "multiple", "minors", "bends", "k"] (defScope s_Batten___init__) _ [("k", 7)] = true by decide +kernel)) (fun _ _ _ _ _ => pg_name (i := 7) sc_Batten___init__.nd rfl (Or.inl rfl)) (fun _ _ _ _ _ => pts_nil) (fun _ _ _ _ _ => (pe_has G_cubic (hr.mono (by decide)) (pa_cons (pe_ix (ix_lk (K := K)) (pv 3) (pv 7) (fun _ _ => rfl)) (pa_cons (pv 4) (pa_cons (fld_k (K := K) (pv 0) rfl) (pa_cons (pe_lst (pa_cons (pe_ix (ix_lk (K := K)) (pv 2) (pv 7) (fun _ _ => rfl)) (pa_cons (pe_ix (ix_lk (K := K)) (pv 2) (pe_op op_add (pv 7) pe_int) (fun _ _ => rfl)) pa_nil))) (pa_cons (pe_lst (pa_cons (pe_ix (ix_lk (K := K)) (pv 6) (pv 7) (fun _ _ => rfl)) (pa_cons (pe_ix (ix_lk (K := K)) (pv 6) (pe_op op_add (pv 7) pe_int) (fun _ _ => rfl)) pa_nil))) pa_nil)))))))) rfl)))))))), ?_⟩
    obtain ⟨g, eg⟩ : ∃ g, g = gp x := ⟨_, rfl⟩
    rw [← eg] at G
    refine ⟨_, rfl, a, _, rfl, .inl hX, _, _, rfl, rfl, n, (by rw [zs_len]; show [V.int _] = [V.int _]; congr 2; omega), by omega, by omega, ?_⟩
    intro D hD
    refine lc_rng (fun i H' => Same H H' ∧ IsInts H' D i g) ⟨(Same.refl H).new hD, upd_same⟩ ?_ ?_
    · rintro i H' hi ⟨s1, hd⟩
      have hX' := s1.seq hX
      have hi : i < n := by omega
      refine ⟨rfl, _, rfl, _, rfl, _, _, rfl, rfl, _, _, _, _, rfl, rfl, hX', zs_at x (k := i + 1) (by omega) (by omega), _, rfl, _, rfl, _, _, _, _, rfl, rfl, hX', zs_at x (k := i) (by omega) (by omega), _, _, rfl, rfl, ?_⟩
      refine ⟨_, hd, by rw [zs_len]; exact small1000 (by omega), s1.put hD, ?_⟩
      show upd H' D _ D = _
      rw [upd_same, ← zs_snoc, eg]
      rfl
    · rintro H1 ⟨s1, hd⟩
      have hd : IsInts H1 D n g := hd
      refine ⟨_, rfl, D, n, g, rfl, hd.sq, G, ?_⟩
      refine ⟨_, rfl, D, n, g, rfl, hd.sq, G, fun m H2 hm s2 hmi => ?_⟩
      have sH2 := s1.trans s2
      refine ⟨_, rfl, _, rfl, _, rfl, _, rfl, _, rfl, D, b, n, Y, g, y, rfl, (s2.zz hd).sq, sH2.seq hYs, G, hy, hY, fun t H3 ht s3 hti => ?_⟩
      have sH3 := sH2.trans s3
      refine ⟨D, m, t, n, Y, g, y, rfl, (s3.zz (s2.zz hd)).sq, (s3.zz hmi).sq, hti.sq, G, hy, hY, fun e H4 he s4 hei => ?_⟩
      have sH4 := sH3.trans s4
      have hO4 := sH4 _ _ hO
      refine ⟨_, rfl, a, _, rfl, .inl (sH4.seq hX), fun u hu => ?_⟩
      have s5 : Same H4 (upd H4 u (.lst (zs_ (n + 1) x))) := (Same.refl H4).new hu
      have hO5 := s5 _ _ hO4
      refine ⟨_, rfl, o, C, dx, _, rfl, hO5, B.cl, B.nails, (by show 0 < 1000; decide), ?_⟩
      have uo : u ≠ o := fun q => by rw [q, hO4] at hu; cases hu
      obtain ⟨H6, e6⟩ : ∃ H6, H6 = upd (upd H4 u (.lst (zs_ (n + 1) x))) o (.ins C dx (putF "nails" (.ref u) [])) := ⟨_, rfl⟩
      have b6 : But H4 o H6 := fun c oc h hne => by
        rw [e6, upd_ne hne]
        exact s5 _ _ h
      have o6 : H6 o = some (.ins C dx (putF "nails" (.ref u) [])) := by rw [e6]; exact upd_same
      have u6 : IsInts H6 u (n + 1) x := by
        show H6 u = _
        rw [e6, upd_ne uo, upd_same]
      have mo : m ≠ o := fun q => by rw [q, s1 _ _ hO] at hm; cases hm
      have m6 : IsInts H6 m n (Dt g) := b6 _ _ (s4 _ _ (s3 _ _ hmi)) mo
      rw [← e6]
      have zM := G.lm
      have zD := G.dt (k := n - 1) (by omega)
      refine ⟨_, rfl, _, rfl, _, _, _, _, rfl, rfl, m6.sq, zs_last (Dt g) (by omega), _, rfl, _, _, rfl, rfl, Sz.mulOk zD zM (by omega), _, rfl, _, _, rfl, rfl, Sz.mulOk (zD.mul zM) zM (by omega), _, rfl, o, C, dx, _, rfl, o6, B.cl, B.scale, (by show 1 < 1000; decide), ?_⟩
      obtain ⟨H7, e7⟩ : ∃ H7, H7 = upd H6 o (.ins C dx (putF "scale" (.int (Dt g (n - 1) * Lm g n * Lm g n)) (putF "nails" (.ref u) []))) := ⟨_, rfl⟩
      rw [← e7]
      have b7 : But H4 o H7 := fun c oc h hne => by
        rw [e7, upd_ne hne]
        exact b6 _ _ h hne
      have o7 : H7 o = some (.ins C dx (putF "scale" (.int (Sc g n)) (putF "nails" (.ref u) []))) := by rw [e7]; exact upd_same
      have u7 : IsInts H7 u (n + 1) x := by
        show H7 u = _
        rw [e7, upd_ne uo]
        exact u6
      have nO : ∀ {c : Addr} {xs : List V}, SqL K H4 c xs → SqL K H7 c xs := fun {c xs} h => by
        rcases h with (h | ⟨oo, h⟩) | h
        · exact .inl (.inl (b7 _ _ h fun q => by rw [q, hO4] at h; cases h))
        · exact .inl (.inr ⟨oo, b7 _ _ h fun q => by rw [q, hO4] at h; cases h⟩)
        · exact .inr h
      have d7 := nO (s4.zz (s3.zz (s2.zz hd))).sq
      have y7 := nO (sH4.seq hYs)
      have e7' := nO hei.sq
      refine ⟨_, rfl, D, _, rfl, .inl d7, n, (by rw [zs_len]), by omega, by omega, ?_⟩
      intro R hR
      have hz7 : H7 z ≠ none := b7.held (sH4.held hz) hzo
      refine lc_rng (fun i H' => Same H7 H' ∧ ∃ pa, PiecesAt H' R i 4 pa (Cf g y n) ∧ ∀ k, k < i → pa k ≠ z) ⟨(Same.refl H7).new hR, fun _ => 0, ⟨upd_same, fun k hk => by omega⟩, fun k hk => by omega⟩ ?_ ?_
      · rintro i H' hi ⟨s8, pa, hp, hpz⟩
        have hi : i < n := by omega
        refine ⟨rfl, _, rfl, _, rfl, _, _, _, _, rfl, rfl, s8.seq d7, zs_at g (k := i) (by omega) (by omega), _, rfl, _, rfl, o, C, dx, _, _, rfl, s8 _ _ o7, B.cl, B.scale, (by rw [lookup_putF, if_pos rfl]), _, rfl, _, rfl, _, _, _, _, rfl, rfl, s8.seq y7, zs_at y (k := i) (by omega) (by omega), _, rfl, _, rfl, _, _, rfl, rfl, _, _, _, _, rfl, rfl, s8.seq y7, zs_at y (k := i + 1) (by omega) (by omega), (by show 2 ≤ sizeLine; decide), fun v1 hv1 => ?_⟩
        have s9 : Same H' (upd H' v1 (.lst [.int (y i), .int (y (i + 1))])) := (Same.refl H').new hv1
        refine ⟨_, rfl, _, rfl, _, _, _, _, rfl, rfl, (s8.trans s9).seq e7', zs_at (Bd g y n) (k := i) (by omega) (by omega), _, rfl, _, rfl, _, _, rfl, rfl, _, _, _, _, rfl, rfl, (s8.trans s9).seq e7', zs_at (Bd g y n) (k := i + 1) (by omega) (by omega), (by show 2 ≤ sizeLine; decide), fun v2 hv2 => ?_⟩
        have s10 := s9.new (o := .lst [.int (Bd g y n i), .int (Bd g y n (i + 1))]) hv2
        have v12 : v1 ≠ v2 := ne_of_none (upd_same (H := H') (a := v1) (o := .lst [.int (y i), .int (y (i + 1))])) hv2
        refine ⟨g i, Lm g n, Sc g n, y i, y (i + 1), Bd g y n i, Bd g y n (i + 1), v1, v2, Y, rfl, (by rw [upd_ne v12, upd_same]), upd_same, G.pos i hi, G.sz i hi, G.lm, G.sc, hy i (by omega), hy (i + 1) (by omega), G.bd hy (by omega), G.bd hy (by omega), hY, fun l hl => ?_⟩
        have s11 := s10.new (o := .lst (zs_ 4 (Cf g y n i))) hl
        refine ⟨_, s11 _ _ hp.lst, by rw [refs_len]; exact small1000 (by omega), ?_, fun k => if k = i then l else pa k, ?_, fun k hk => ?_⟩
        · exact (s8.trans s11).put hR
        rotate_left
        · show (if k = i then l else pa k) ≠ z
          by_cases e : k = i
          · rw [if_pos e]
            exact new_ne hl ((s8.trans s10).held hz7)
          · rw [if_neg e]
            exact hpz k (by omega)
        · rw [refs_snoc]
          have lR : l ≠ R := fun q => by rw [q, s10 _ _ hp.lst] at hl; cases hl
          refine ⟨upd_same, fun j hj => ?_⟩
          by_cases ej : j = i
          · subst ej
            show upd _ R _ (if j = j then l else pa j) = _
            rw [if_pos rfl, upd_ne lR, upd_same]
            rfl
          · show upd _ R _ (if j = i then l else pa j) = _
            rw [if_neg ej]
            have hj' := hp.at_ j (by omega)
            rw [upd_ne (fun q => by
              have h1 := hp.lst
              rw [← q, hj'] at h1
              injection h1 with h1
              injection h1 with h1
              have h2 := congrArg (fun l : List V => l[0]?) h1
              have h3 : (refs i pa)[0]? = some (.ref (pa 0)) := refs_get pa (by omega)
              simp only [h3, zs_get (Cf g y n j) (show 0 < 4 by decide)] at h2
              cases h2)]
            exact s11 _ _ hj'
      · rintro H8 ⟨s8, pa, hp, hpz⟩
        refine ⟨_, rfl, o, C, dx, _, rfl, s8 _ _ o7, B.cl, B.pieces, (by show 2 < 1000; decide), ?_⟩
        have nb : But H4 o (upd H8 o (.ins C dx (bfB u (Sc g n) R))) := fun c oc h hne => by
          rw [upd_ne hne]
          exact s8 _ _ (b7 _ _ h hne)
        have uz : u ≠ z := new_ne hu (sH4.held hz)
        have Rz : R ≠ z := new_ne hR hz7
        refine k _ (fun c oc h hne => nb _ _ (sH4 _ _ h) hne) ⟨dx, u, R, pa, ?_, ?_, ?_⟩
        · rw [← eg, rm_ne (fun e => hzo e.symm)]
          exact upd_same
        · show rm z (upd _ o _) u = _
          rw [rm_ne uz, upd_ne uo]
          exact s8 _ _ u7
        · rw [← eg]
          have ho8 := s8 _ _ o7
          refine ⟨?_, fun j hj => ?_⟩
          · rw [rm_ne Rz, upd_ne (fun q => by rw [← q, hp.lst] at ho8; cases ho8)]
            exact hp.lst
          · show rm z (upd _ o _) (pa j) = _
            have hj' := hp.at_ j hj
            rw [rm_ne (hpz j hj), upd_ne (fun q => by rw [← q, hj'] at ho8; cases ho8)]
            exact hj'
end
end Hf
set_option linter.all false
set_option maxRecDepth 100000
set_option maxHeartbeats 4000000
set_option Elab.async false
namespace Hf
open PySem PySem.Spec PyProof.Rows L2
open PySem.W (Codec)
open Hull
section
variable {P : Program} {w : World} {K : PySem.W.Frag} {mg : Str → Option Value} {base : Heap}
abbrev s_piece_integral : Stmt := top 13
theorem sc_piece_integral : FnScope ["piece", "reach", "total", "power", "k"] ["piece", "reach"] (defScope s_piece_integral) := ⟨rfl, rfl, rfl, by decide +kernel, rfl, by decide +kernel, by decide +kernel⟩
def spPInt (K : PySem.W.Frag) : Sp := fun vs H Q E => ∃ (a : Addr) (m A : Nat) (q : Nat → Int) (r : Int), vs = [.ref a, .int r] ∧ SqL K H a (zs_ m q) ∧ m ≤ 5 ∧ (∀ k, k < m → Sz A (q k)) ∧ A ≤ 10000000 ∧ Sz 22 r ∧ Q (.int (Pi q r m)) H
theorem ok_pint {f : Addr} {fd : FuncData} (F : Fun K "piece_integral" "piece_integral" s_piece_integral f fd) (T : Txt K mg) : FnOk P w K mg base CX0 1 f fd ["piece", "reach"] (spPInt K) := by
  refine F.ok sc_piece_integral (fun vs H Q E h => ?_) (fun cdv A outer s H vs Q E hr h => ?_)
  · obtain ⟨a, m, A, q, r, rfl, _⟩ := h
    rfl
  · obtain ⟨a, m, Aq, q, r, rfl, hS, hm, hq, hA, zr, k⟩ := h
    refine ⟨_, (pss_cons (ps_set (i := 2) sc_piece_integral.nd rfl (Or.inl rfl) pe_int)
        (pss_cons (ps_set (i := 3) sc_piece_integral.nd rfl (Or.inl rfl) (pv 1))
        (pss_cons (ps_for PassesOwn.never rfl (pi_range1 rfl T.n_range (pa_cons (pe_callB (len_k (K := K)) (by rfl) T.n_len PySem.boot_len (pa_cons (pv 0) pa_nil)) pa_nil)) (pg_name (i := 4) sc_piece_integral.nd rfl (Or.inl rfl)) (pss_cons (ps_aug (i := 2) sc_piece_integral.nd rfl (Or.inl rfl) (pe_op op_mulG (pe_op op_mulG (pe_ix (ix_lk (K := K)) (pv 0) (pv 4) (fun _ _ => rfl)) (pv 3)) (pe_op op_fdivG (pe_glob rfl T.v_PARTS.1 T.v_PARTS.2) (pe_op op_add (pv 4) pe_int))) ip_add)
        (pss_one (ps_aug (i := 3) sc_piece_integral.nd rfl (Or.inl rfl) (pv 1) ip_mul))))
        (pss_one (ps_ret (pv 2)))))), ?_⟩
    refine ⟨_, rfl, _, rfl, a, _, rfl, .inl hS, m, (by rw [zs_len]), by omega, by omega, ?_⟩
    refine for_range (lo := 0) (n := m) (fun i σ H' => H' = H ∧ ∃ v, σ = [some (.ref a), some (.int r), some (.int (Pi q r i)), some (.int (Pw r i)), v]) ⟨rfl, none, rfl⟩ ?_ ?_
    · rintro i σ H' hi ⟨rfl, v, rfl⟩
      rw [Int.zero_add]
      have zp := (Pw_sz zr i).mono (show 22 * (i + 1) ≤ 110 by omega)
      refine ⟨_, rfl, _, rfl, _, rfl, _, _, _, _, rfl, rfl, hS, zs_at q (k := i) rfl hi, _, rfl, _, _, rfl, rfl, Sz.mulOk (hq i hi) zp (by omega), _, rfl, _, _, rfl, rfl, _, _, rfl, rfl, ⟨by omega, .inl ?_⟩, _, _, rfl, rfl, Sz.mulOk ((hq i hi).mul zp) (Sz.div Sz.parts) (by omega), _, _, rfl, rfl, ?_⟩
      · exact (Sz.of (n := 10) (by omega) (by omega)).mono (by decide)
      · exact ⟨_, rfl, _, rfl, _, _, rfl, rfl, Sz.mulOk zp zr (by omega), rfl, _, rfl⟩
    · rintro σ H' ⟨rfl, v, rfl⟩
      exact ⟨_, rfl, k⟩
abbrev s_swept : Stmt := top 12
theorem sc_swept : FnScope ["nails", "pieces", "x", "total", "k"] ["nails", "pieces", "x"] (defScope s_swept) := ⟨rfl, rfl, rfl, by decide +kernel, rfl, by decide +kernel, by decide +kernel⟩
def spSwept (K : PySem.W.Frag) : Sp := fun vs H Q E => ∃ (a c : Addr) (pa : Nat → Addr) (n m A : Nat) (x : Nat → Int) (q : Nat → Nat → Int) (z : Int), vs = [.ref a, .ref c, .int z] ∧ IsInts H a (n + 1) x ∧ PiecesAt H c n m pa q ∧ n ≤ 23 ∧ m ≤ 5 ∧ (∀ k j, k < n → j < m → Sz A (q k j)) ∧ A ≤ 10000000 ∧
  (∀ k, k < n → x k < z → Sz 22 ((if x (k + 1) < z then x (k + 1) else z) - x k)) ∧ Q (.int (Sw q m x z n)) H
theorem ok_swept {f : Addr} {fd : FuncData} (F : Fun K "swept" "swept" s_swept f fd) (T : Txt K mg) (G_piece_integral : Has P w K mg base 1 "piece_integral" ["piece", "reach"] (spPInt K)) : FnOk P w K mg base CX0 2 f fd ["nails", "pieces", "x"] (spSwept K) := by
  refine F.ok sc_swept (fun vs H Q E h => ?_) (fun cdv A outer s H vs Q E hr h => ?_)
  · obtain ⟨a, c, pa, n, m, A, x, q, z, rfl, _⟩ := h
    rfl
  · obtain ⟨a, c, pa, n, m, Aq, x, q, z, rfl, hX, hP, hn, hm, hq, hA, hr2, k⟩ := h
    refine ⟨_, (pss_cons (ps_set (i := 3) sc_swept.nd rfl (Or.inl rfl) pe_int)
        (pss_cons (ps_for PassesOwn.never rfl (pi_range1 rfl T.n_range (pa_cons (pe_callB (len_k (K := K)) (by rfl) T.n_len PySem.boot_len (pa_cons (pv 1) pa_nil)) pa_nil)) (pg_name (i := 4) sc_swept.nd rfl (Or.inl rfl)) (pss_one (ps_if (pt_cmpR op_lt (pe_ix (ix_lk (K := K)) (pv 0) (pv 4) (fun _ _ => rfl)) (pv 2) (nomark _)) (pss_one (ps_aug (i := 3) sc_swept.nd rfl (Or.inl rfl) (pe_has G_piece_integral (hr.mono (by decide)) (pa_cons (pe_ix (ix_lk (K := K)) (pv 1) (pv 4) (fun _ _ => rfl)) (pa_cons (pe_op op_sub (pe_callB (call_min2 rfl) (by rfl) T.n_min PyProof.Rows.boot_min (pa_cons (pv 2) (pa_cons (pe_ix (ix_lk (K := K)) (pv 0) (pe_op op_add (pv 4) pe_int) (fun _ _ => rfl)) pa_nil))) (pe_ix (ix_lk (K := K)) (pv 0) (pv 4) (fun _ _ => rfl))) pa_nil))) ip_add)) pss_nil)))
        (pss_one (ps_ret (pv 3))))), ?_⟩
    refine ⟨_, rfl, c, _, rfl, .inl (SqL.of hP.lst), n, (by rw [refs_len]), by omega, by omega, ?_⟩
    refine for_range (lo := 0) (n := n) (fun i σ H' => H' = H ∧ ∃ v, σ = [some (.ref a), some (.ref c), some (.int z), some (.int (Sw q m x z i)), v]) ⟨rfl, none, rfl⟩ ?_ ?_
    · rintro i σ H' hi ⟨rfl, v, rfl⟩
      rw [Int.zero_add]
      refine ⟨_, rfl, _, rfl, _, _, _, _, rfl, rfl, hX.sq, zs_at x (k := i) rfl (by omega), _, rfl, _, _, rfl, rfl, _, rfl, ?_⟩
      by_cases hx : x i < z
      · rw [decide_eq_true hx]
        refine iteT ?_
        refine ⟨_, rfl, _, rfl, _, rfl, _, _, _, _, rfl, rfl, SqL.of hP.lst, refs_at pa (k := i) rfl hi, _, rfl, _, rfl, _, rfl, _, _, rfl, rfl, _, _, _, _, rfl, rfl, hX.sq, zs_at x (k := i + 1) (by omega) (by omega), _, _, rfl, _, rfl, _, rfl, _, _, _, _, rfl, rfl, hX.sq, zs_at x (k := i) rfl (by omega), _, _, rfl, rfl, ?_⟩
        refine ⟨pa i, m, Aq, q i, _, rfl, (hP.at_ i hi).sq, hm, fun j hj => hq i j hi hj, hA, hr2 i hi hx, _, _, rfl, rfl, rfl, some (.int (i : Int)), ?_⟩
        have e : Sw q m x z (i + 1) = Sw q m x z i + Pi (q i) ((if x (i + 1) < z then x (i + 1) else z) - x i) m := by
          show _ + (if x i < z then _ else _) = _
          rw [if_pos hx]
        rw [e]
        rfl
      · rw [decide_eq_false hx]
        refine iteF ⟨rfl, some (.int (i : Int)), ?_⟩
        have e : Sw q m x z (i + 1) = Sw q m x z i := by
          show _ + (if x i < z then _ else _) = _
          rw [if_neg hx, Int.add_zero]
        rw [e]
        rfl
    · rintro σ H' ⟨rfl, v, rfl⟩
      exact ⟨_, rfl, k⟩
theorem zs_ints (n : Nat) (f : Nat → Int) : zs_ n f = ((List.range n).map f).map V.int := by
  unfold zs_
  rw [List.map_map]
  rfl
abbrev s_product : Stmt := top 16
theorem sc_product : FnScope ["first", "second", "coefficients", "k", "n"] ["first", "second"] (defScope s_product) := ⟨rfl, rfl, rfl, by decide +kernel, rfl, by decide +kernel, by decide +kernel⟩
def spProd (K : PySem.W.Frag) : Sp := fun vs H Q E => ∃ (a b : Addr) (m l A B : Nat) (f g : Nat → Int), vs = [.ref a, .ref b] ∧ SqL K H a (zs_ m f) ∧ SqL K H b (zs_ l g) ∧ 0 < m ∧ 0 < l ∧ m ≤ 12 ∧ l ≤ 12 ∧ (∀ k, k < m → Sz A (f k)) ∧ (∀ k, k < l → Sz B (g k)) ∧ A + B ≤ 100000000 ∧
  ∀ p H', H p = none → Same H H' → IsInts H' p (m + l - 1) (Pr f g l m) → Q (.ref p) H'
theorem ok_prod {f : Addr} {fd : FuncData} (F : Fun K "product" "product" s_product f fd) (T : Txt K mg) : FnOk P w K mg base CX0 1 f fd ["first", "second"] (spProd K) := by
  refine F.ok sc_product (fun vs H Q E h => ?_) (fun cdv A outer s H vs Q E hr h => ?_)
  · obtain ⟨a, b, m, l, A, B, f, g, rfl, _⟩ := h
    rfl
  · obtain ⟨a, b, m, l, Af, Bf, f, g, rfl, hF, hG, m0, l0, hm, hl, zf, zg, hAB, k⟩ := h
    refine ⟨_, (pss_cons (ps_set (i := 2) sc_product.nd rfl (Or.inl rfl) (pe_op op_rep (pe_lst (pa_cons pe_int pa_nil)) (pe_op op_sub (pe_op op_add (pe_callB (len_k (K := K)) (by rfl) T.n_len PySem.boot_len (pa_cons (pv 0) pa_nil)) (pe_callB (len_k (K := K)) (by rfl) T.n_len PySem.boot_len (pa_cons (pv 1) pa_nil))) pe_int)))
        (pss_cons (ps_for PassesOwn.never rfl (pi_range1 rfl T.n_range (pa_cons (pe_callB (len_k (K := K)) (by rfl) T.n_len PySem.boot_len (pa_cons (pv 0) pa_nil)) pa_nil)) (pg_name (i := 3) sc_product.nd rfl (Or.inl rfl)) (pss_one (ps_for PassesOwn.never rfl (pi_range1 rfl T.n_range (pa_cons (pe_callB (len_k (K := K)) (by rfl) T.n_len PySem.boot_len (pa_cons (pv 1) pa_nil)) pa_nil)) (pg_name (i := 4) sc_product.nd rfl (Or.inl rfl)) (pss_one (ps_augS (pv 2) (pe_op op_add (pv 3) (pv 4)) get_list (pe_op op_mulG (pe_ix (ix_lk (K := K)) (pv 0) (pv 3) (fun _ _ => rfl)) (pe_ix (ix_lk (K := K)) (pv 1) (pv 4) (fun _ _ => rfl))) ip_add set_list)))))
        (pss_one (ps_ret (pv 2))))), ?_⟩
    refine ⟨(by show 1 ≤ sizeLine; decide), fun z hz => ?_⟩
    have s0 : Same H (upd H z (.lst [.int 0])) := (Same.refl H).new hz
    refine ⟨_, rfl, a, _, rfl, .inl (s0.seq hF), _, rfl, b, _, rfl, .inl (s0.seq hG), _, _, rfl, rfl, _, _, rfl, rfl, z, _, _, rfl, rfl, upd_same, by rw [zs_len, zs_len]; omega, by rw [zs_len, zs_len]; omega, by rw [zs_len, zs_len]; exact Nat.le_of_lt (small1000 (by show 1 * _ ≤ _; omega)), fun q hq => ?_⟩
    have ek : ((((zs_ m f).length : Nat) : Int) + (((zs_ l g).length : Nat) : Int) - 1).toNat = m + l - 1 := by rw [zs_len, zs_len]; omega
    rw [ek, zs_const]
    have hq0 : H q = none := s0.free hq
    have s1 : Same H (upd (upd H z (.lst [.int 0])) q (.lst (zs_ (m + l - 1) fun _ => 0))) := s0.new hq
    refine ⟨_, rfl, a, _, rfl, .inl (s1.seq hF), m, (by rw [zs_len]), by omega, by omega, ?_⟩
    refine for_range (lo := 0) (n := m) (fun i σ H' => ∃ v2 v3, σ = [some (.ref a), some (.ref b), some (.ref q), v2, v3] ∧ Same H H' ∧ IsInts H' q (m + l - 1) (Pr f g l i)) ⟨none, none, rfl, s1, ?_⟩ ?_ ?_
    · show upd _ q _ q = _
      rw [upd_same]
      rfl
    · rintro i σ H' hi ⟨v2, v3, rfl, s2, hc⟩
      rw [Int.zero_add]
      refine ⟨_, rfl, b, _, rfl, .inl (s2.seq hG), l, (by rw [zs_len]), by omega, by omega, ?_⟩
      refine for_range (lo := 0) (n := l) (fun j σ H' => ∃ v3, σ = [some (.ref a), some (.ref b), some (.ref q), some (.int (i : Int)), v3] ∧ Same H H' ∧ IsInts H' q (m + l - 1) (fun t => Pr f g l i t + if i ≤ t ∧ t - i < j then f i * g (t - i) else 0)) ⟨_, rfl, s2, ?_⟩ ?_ ?_
      · show H' q = _
        rw [hc]
        refine congrArg (fun x => some (HO.lst x)) (zs_congr fun t _ => ?_)
        rw [if_neg (by omega), Int.add_zero]
      · rintro j σ H2 hj ⟨v3, rfl, s3, hd⟩
        rw [Int.zero_add]
        have hF' := s3.seq hF
        have hG' := s3.seq hG
        refine ⟨_, rfl, _, rfl, _, rfl, _, _, rfl, rfl, q, _, i + j, _, rfl, rfl, hd.sq, zs_get _ (by omega), _, rfl, _, rfl, _, _, _, _, rfl, rfl, hF', zs_at f (k := i) rfl hi, _, rfl, _, rfl, _, _, _, _, rfl, rfl, hG', zs_at g (k := j) rfl hj, _, _, rfl, rfl, Sz.mulOk (zf i hi) (zg j hj) (by omega), _, _, rfl, rfl, q, _, _, i + j, rfl, rfl, hd, ixN_nat rfl (by rw [zs_len]; omega), _, rfl, s3.put hq0, ?_⟩
        show upd H2 q _ q = _
        rw [upd_same]
        refine congrArg (fun x => some (HO.lst x)) (zs_set ?_ fun t ht hne => ?_)
        · have e : i + j - i = j := by omega
          rw [if_pos (by omega), if_neg (by omega), e, Int.add_zero]
        · by_cases h1 : i ≤ t ∧ t - i < j
          · rw [if_pos h1, if_pos (by omega)]
          · rw [if_neg h1, if_neg (by omega)]
      · rintro σ H2 ⟨v3, rfl, s3, hd⟩
        exact ⟨_, _, rfl, s3, hd⟩
    · rintro σ H' ⟨v2, v3, rfl, s2, hc⟩
      exact ⟨_, rfl, k q H' hq0 s2 hc⟩
abbrev s_in_gaps : Stmt := top 15
theorem sc_in_gaps : FnScope ["piece", "gap", "stretched", "power", "coefficient"] ["piece", "gap"] (defScope s_in_gaps) := ⟨rfl, rfl, rfl, by decide +kernel, rfl, by decide +kernel, by decide +kernel⟩
def spGapsOf (K : PySem.W.Frag) : Sp := fun vs H Q E => ∃ (a : Addr) (m A : Nat) (q : Nat → Int) (g : Int), vs = [.ref a, .int g] ∧ SqL K H a (zs_ m q) ∧ m ≤ 12 ∧ (∀ k, k < m → Sz A (q k)) ∧ A ≤ 10000000 ∧ Sz 21 g ∧ ∀ l H', H l = none → Same H H' → IsInts H' l m (St q g) → Q (.ref l) H'
theorem ok_gapsof {f : Addr} {fd : FuncData} (F : Fun K "in_gaps" "in_gaps" s_in_gaps f fd) (T : Txt K mg) : FnOk P w K mg base CX0 1 f fd ["piece", "gap"] (spGapsOf K) := by
  refine F.ok sc_in_gaps (fun vs H Q E h => ?_) (fun cdv A outer s H vs Q E hr h => ?_)
  · obtain ⟨a, m, A, q, g, rfl, _⟩ := h
    rfl
  · obtain ⟨a, m, Aq, q, g, rfl, hS, hm, hq, hA, zg, k⟩ := h
    refine ⟨_, (pss_cons (ps_set (i := 2) sc_in_gaps.nd rfl (Or.inl rfl) (pe_lst pa_nil))
        (pss_cons (ps_set (i := 3) sc_in_gaps.nd rfl (Or.inl rfl) pe_int)
        (pss_cons (ps_for PassesOwn.never rfl (pi_lk (K := K) (pv 0)) (pg_name (i := 4) sc_in_gaps.nd rfl (Or.inl rfl)) (pss_cons (ps_expr (pe_bm PySem.F.plainAttrs_list PySem.F.slot_list_append PySem.F.type_list_append mt_append (pv 2) (pa_cons (pe_op op_mulG (pv 4) (pv 3)) pa_nil)))
        (pss_one (ps_aug (i := 3) sc_in_gaps.nd rfl (Or.inl rfl) (pv 1) ip_mul))))
        (pss_one (ps_ret (pv 2)))))), ?_⟩
    refine ⟨Nat.zero_le _, fun l hl => ?_⟩
    have s0 : Same H (upd H l (.lst [])) := (Same.refl H).new hl
    refine ⟨_, rfl, a, rfl, ⟨_, s0.seq hS⟩, for_list (K := K) (a := a) (xs := zs_ m q) (fun i σ H' => ∃ v, σ = [some (.ref a), some (.int g), some (.ref l), some (.int (Pg g i)), v] ∧ Same H H' ∧ IsInts H' l i (St q g)) ⟨none, rfl, s0, upd_same⟩ (fun i σ H' _ ⟨_, _, s1, _⟩ => s1.seq hS) ?_ ?_⟩
    · rintro i y σ H' hi ⟨v, rfl, s1, hs⟩
      have hin : i < m := by
        have := (List.getElem?_eq_some_iff.mp hi).1
        rwa [zs_len] at this
      rw [zs_get q hin] at hi
      cases hi
      have zp := (Pg_sz zg i).mono (show 21 * i + 1 ≤ 300 by omega)
      refine ⟨_, rfl, .inl ⟨rfl, _, hs.sq⟩, _, rfl, _, rfl, _, _, rfl, rfl, Sz.mulOk (hq i hin) zp (by omega), l, _, _, rfl, rfl, hs, (by rw [zs_len]; exact small1000 (by omega)), ?_⟩
      refine ⟨_, rfl, _, rfl, _, _, rfl, rfl, Sz.mulOk zp zg (by omega), _, rfl, s1.put hl, ?_⟩
      show upd H' l _ l = _
      rw [upd_same, ← zs_snoc]
      rfl
    · rintro σ H' ⟨v, rfl, s1, hs⟩
      rw [zs_len] at hs
      exact ⟨_, rfl, k l H' hl s1 hs⟩
abbrev s_piece_cube_integral : Stmt := top 14
theorem sc_piece_cube_integral : FnScope ["piece", "gap", "stretched", "squares", "total", "k", "n"] ["piece", "gap"] (defScope s_piece_cube_integral) := ⟨rfl, rfl, rfl, by decide +kernel, rfl, by decide +kernel, by decide +kernel⟩
def spPCube (K : PySem.W.Frag) : Sp := fun vs H Q E => ∃ (a : Addr) (A : Nat) (q : Nat → Int) (g : Int), vs = [.ref a, .int g] ∧ SqL K H a (zs_ 4 q) ∧ (∀ k, Sz A (q k)) ∧ A ≤ 10000000 ∧ Sz 21 g ∧ ∀ H', Same H H' → Q (.int (Ci q g)) H'
theorem ok_pcube {f : Addr} {fd : FuncData} (F : Fun K "piece_cube_integral" "piece_cube_integral" s_piece_cube_integral f fd) (T : Txt K mg) (G_in_gaps : Has P w K mg base 1 "in_gaps" ["piece", "gap"] (spGapsOf K)) (G_product : Has P w K mg base 1 "product" ["first", "second"] (spProd K)) : FnOk P w K mg base CX0 2 f fd ["piece", "gap"] (spPCube K) := by
  refine F.ok sc_piece_cube_integral (fun vs H Q E h => ?_) (fun cdv A outer s H vs Q E hr h => ?_)
  · obtain ⟨a, A, q, g, rfl, _⟩ := h
    rfl
  · obtain ⟨a, Aq, q, g, rfl, hS, hq, hA, zg, k⟩ := h
    refine ⟨_, (pss_cons (ps_set (i := 2) sc_piece_cube_integral.nd rfl (Or.inl rfl) (pe_has G_in_gaps (hr.mono (by decide)) (pa_cons (pv 0) (pa_cons (pv 1) pa_nil))))
        (pss_cons (ps_set (i := 3) sc_piece_cube_integral.nd rfl (Or.inr rfl) (pe_has G_product (hr.mono (by decide)) (pa_cons (pv 2) (pa_cons (pv 2) pa_nil))))
        (pss_cons (ps_set (i := 4) sc_piece_cube_integral.nd rfl (Or.inl rfl) pe_int)
        (pss_cons (ps_for PassesOwn.never rfl (pi_range1 rfl T.n_range (pa_cons (pe_callB (len_k (K := K)) (by rfl) T.n_len PySem.boot_len (pa_cons (pv 2) pa_nil)) pa_nil)) (pg_name (i := 5) sc_piece_cube_integral.nd rfl (Or.inr rfl)) (pss_one (ps_aug (i := 4) sc_piece_cube_integral.nd rfl (Or.inl rfl) (pe_op op_mulG (pe_ix (ix_lk (K := K)) (pv 2) (pv 5) (fun _ _ => rfl)) (pe_callB (call_sum rfl) (by rfl) T.n_sum PyProof.Rows.boot_sum (pa_cons (pe_lc (own := [("n", 6)]) rfl sc_piece_cube_integral.nd (pi_range1 rfl T.n_range (pa_cons (pe_callB (len_k (K := K)) (by rfl) T.n_len PySem.boot_len (pa_cons (pv 3) pa_nil)) pa_nil)) (blk_of (show blkOk ["piece", "gap", "stretched", "squares", "total", "k", "n"] (defScope s_piece_cube_integral) _ [("n", 6)] = true by decide +kernel)) (fun _ _ _ _ _ => pg_name (i := 6) sc_piece_cube_integral.nd rfl (Or.inl rfl)) (fun _ _ _ _ _ => pts_nil) (fun _ _ _ _ _ => (pe_op op_mulG (pe_ix (ix_lk (K := K)) (pv 3) (pv 6) (fun _ _ => rfl)) (pe_op op_fdivG (pe_glob rfl T.v_PARTS.1 T.v_PARTS.2) (pe_op op_add (pe_op op_add (pv 6) (pv 5)) pe_int))))) pa_nil))) ip_add)))
        (pss_one (ps_ret (pe_op op_mulG (pv 4) (pv 1)))))))), ?_⟩
    refine ⟨_, rfl, _, rfl, a, 4, Aq, q, g, rfl, hS, by decide, fun k _ => hq k, by omega, zg, fun t H1 ht s1 hst => ?_⟩
    refine ⟨_, rfl, _, rfl, t, t, 4, 4, Aq + 64, Aq + 64, _, _, rfl, hst.sq, hst.sq, by decide, by decide, by decide, by decide, fun k hk => St_sz hq zg hk, fun k hk => St_sz hq zg hk, by omega, fun r H2 hr2 s2 hsq => ?_⟩
    have hsq : IsInts H2 r 7 (Sq q g) := hsq
    have hst2 := s2.zz hst
    refine ⟨_, rfl, t, _, rfl, .inl hst2.sq, 4, (by rw [zs_len]; rfl), by omega, by omega, ?_⟩
    refine for_range (lo := 0) (n := 4) (fun i σ H' => ∃ v5 v6, σ = [some (.ref a), some (.int g), some (.ref t), some (.ref r), some (.int (Ct q g i)), v5, v6] ∧ Same H2 H') ⟨none, none, rfl, Same.refl _⟩ ?_ ?_
    · rintro i σ H' hi ⟨v5, v6, rfl, s3⟩
      rw [Int.zero_add]
      refine ⟨_, rfl, _, rfl, _, rfl, _, _, _, _, rfl, rfl, (s3.zz hst2).sq, zs_at (St q g) (k := i) rfl hi, _, rfl, r, _, rfl, .inl (s3.zz hsq).sq, 7, (by rw [zs_len]; rfl), by omega, by omega, ?_⟩
      intro D hD
      refine lc_rng (fun n H4 => Same H' H4 ∧ IsInts H4 D n (Sn q g i)) ⟨(Same.refl H').new hD, upd_same⟩ ?_ ?_
      · rintro n H4 hn ⟨s4, hd⟩
        rw [Int.zero_add]
        refine ⟨rfl, _, rfl, _, rfl, _, _, _, _, rfl, rfl, (s4.zz (s3.zz hsq)).sq, zs_at (Sq q g) (k := n) rfl hn, _, rfl, _, rfl, _, _, rfl, rfl, _, _, rfl, rfl, _, _, rfl, rfl, .sm (by omega) ((Sz.of (n := 10) (by omega) (by omega)).mono (by decide)), _, _, rfl, rfl, Sz.mulOk (Sq_sz hq zg n) (Sz.div Sz.parts) (by omega), ?_⟩
        refine ⟨_, hd, by rw [zs_len]; exact small1000 (by omega), s4.put hD, ?_⟩
        show upd H4 D _ D = _
        rw [upd_same, ← zs_snoc]
        rfl
      · rintro H4 ⟨s4, hd⟩
        refine ⟨D, (List.range 7).map (Sn q g i), rfl, ?_, ?_⟩
        · rw [← zs_ints]
          exact hd.sq
        · refine ⟨_, _, rfl, rfl, Sz.mulOk (St_sz hq zg hi) (Ss_sz hq zg i) (by omega), _, _, rfl, rfl, ?_⟩
          exact ⟨_, _, rfl, s3.trans s4⟩
    · rintro σ H' ⟨v5, v6, rfl, s3⟩
      exact ⟨_, rfl, _, rfl, _, _, rfl, rfl, Sz.mulOk (Ct_sz hq zg 4 (by omega)) zg (by omega), k H' ((s1.trans s2).trans s3)⟩
end
end Hf
set_option linter.all false
set_option maxRecDepth 100000
set_option maxHeartbeats 4000000
set_option Elab.async false
namespace Hf
open PySem PySem.Spec PyProof.Rows L2
open PySem.W (Codec)
open Hull
theorem and_read {t u : TT} {σ : L2.St} {H : Hp} {Q : Bool → Hp → Prop} (b1 b2 : Bool) (h1 : ∀ Q' : Bool → Hp → Prop, Q' b1 H → t σ H Q') (h2 : b1 = true → ∀ Q' : Bool → Hp → Prop, Q' b2 H → u σ H Q') (h : Q (b1 && b2) H) : tAnd t u σ H Q := by
  refine h1 _ ?_
  cases b1 with
  | true => exact iteT (h2 rfl _ h)
  | false => exact iteF h
theorem or_read {t u : TT} {σ : L2.St} {H : Hp} {Q : Bool → Hp → Prop} (b1 b2 : Bool) (h1 : ∀ Q' : Bool → Hp → Prop, Q' b1 H → t σ H Q') (h2 : b1 = false → ∀ Q' : Bool → Hp → Prop, Q' b2 H → u σ H Q') (h : Q (b1 || b2) H) : tOr t u σ H Q := by
  refine h1 _ ?_
  cases b1 with
  | true => exact iteT h
  | false => exact iteF (h2 rfl _ h)
theorem for_rev {K : PySem.W.Frag} {a : Addr} {n : Nat} (xs : List V) (hn : n = xs.length) {g : TG} {tb : TS} {D : Ends} {σ : L2.St} {H : Hp} (Pv : Nat → L2.St → Hp → Prop) (h0 : Pv 0 σ H) (hl : ∀ i σ H, i ≤ n → Pv i σ H → SqL K H a xs)
    (hs : ∀ i x σ H, i < n → xs[n - 1 - i]? = some x → Pv i σ H → g x σ H fun σ2 H2 => tb { D with nx := Pv (i + 1), ct := Pv (i + 1), bk := D.nx } σ2 H2) (hd : ∀ σ H, Pv n σ H → D.nx σ H) :
    ∃ W : Nat → Nat → L2.St → Hp → Prop, (∃ m, W 0 m σ H) ∧ ∀ i m σ H, W i m σ H →
      ((Itv K a n).stop i H ∧ D.nx σ H) ∨ ((Itv K a n).go i H ∧ ∃ N : L2.St → Hp → Prop, (∀ σ' H', N σ' H' → ∃ m', m' < m ∧ W (i + 1) m' σ' H') ∧ ∀ x H', (Itv K a n).yld i H x H' → g x σ H' fun σ2 H2 => tb { D with nx := N, ct := N, bk := D.nx } σ2 H2) := by
  refine ⟨fun i m σ H => m = n - i ∧ i ≤ n ∧ Pv i σ H, ⟨n, by simp, Nat.zero_le _, h0⟩, ?_⟩
  rintro i m σ H ⟨rfl, hi, p⟩
  by_cases hlt : i < n
  · have hx : n - 1 - i < xs.length := by omega
    refine .inr ⟨⟨hlt, xs, xs[n - 1 - i], hl i σ H hi p, List.getElem?_eq_getElem hx⟩, Pv (i + 1), fun σ' H' p' => ⟨n - (i + 1), by omega, rfl, hlt, p'⟩, fun x H' y => ?_⟩
    obtain ⟨e, y⟩ := y
    subst e
    exact hs i x σ _ hlt (y xs (hl i σ _ hi p)) p
  · have e : i = n := by omega
    subst e
    exact .inl ⟨Nat.le_refl _, hd σ H p⟩
section
variable {P : Program} {w : World} {K : PySem.W.Frag} {mg : Str → Option Value} {base : Heap}
structure Line (x y : Nat → Int) (n Y : Nat) : Prop where
  gaps : Gaps (gp x) n
  xs : ∀ j, j ≤ n → Sz 21 (x j)
  ys : ∀ j, j ≤ n → Sz Y (y j)
  le : Y ≤ 1000000
theorem Line.cf {x y : Nat → Int} {n Y : Nat} (L : Line x y n Y) {k j : Nat} (h : k < n) : Sz (Y + 1549) (Cf (gp x) y n k j) := L.gaps.cf L.ys h j
theorem Line.reach {x y : Nat → Int} {n Y : Nat} (L : Line x y n Y) {z : Int} (hz : Sz 21 z) {k : Nat} (h : k < n) : Sz 22 ((if x (k + 1) < z then x (k + 1) else z) - x k) := by
  have h1 := L.xs (k + 1) h
  have h0 := L.xs k (by omega)
  split
  · exact h1.sub h0
  · exact hz.sub h0
abbrev s_Batten_value : Stmt := inClass (top 7) 1
theorem sc_Batten_value : FnScope ["self", "x", "k", "total", "coefficient"] ["self", "x"] (defScope s_Batten_value) := ⟨rfl, rfl, rfl, by decide +kernel, rfl, by decide +kernel, by decide +kernel⟩
def spValue (C : Addr) : Sp := fun vs H Q E => ∃ (o : Addr) (n Y : Nat) (x y : Nat → Int) (z : Int), vs = [.ref o, .int z] ∧ IsBat C H o n x y ∧ Line x y n Y ∧ Sz 21 z ∧
  ∀ k, k < n → (∀ j, 0 < j → j ≤ k → x j ≤ z) → (k + 1 = n ∨ z < x (k + 1)) → Q (.int (Hr (Cf (gp x) y n k) 4 (z - x k) 4)) H
theorem ok_value {f C : Addr} {fd : FuncData} (F : Fun K "value" "Batten.value" s_Batten_value f fd) (T : Txt K mg) (B : TxtB K C) : FnOk P w K mg base CX0 1 f fd ["self", "x"] (spValue C) := by
  refine F.ok sc_Batten_value (fun vs H Q E h => ?_) (fun cdv A outer s H vs Q E hr h => ?_)
  · obtain ⟨o, n, Y, x, y, z, rfl, _⟩ := h
    rfl
  · obtain ⟨o, n, Y, x, y, z, rfl, ⟨dx, a, c, pa, hB⟩, L, hz, k⟩ := h
    have n0 := L.gaps.n0
    have n23 := L.gaps.n23
    have hY := L.le
    refine ⟨_, (pss_cons (ps_set (i := 2) sc_Batten_value.nd rfl (Or.inl rfl) pe_int)
        (pss_cons (ps_while PassesOwn.never (PW.pt (pw_and (pt_cmpR op_lt (pe_op op_add (pv 2) pe_int) (pe_callB (len_k (K := K)) (by rfl) T.n_len PySem.boot_len (pa_cons (fld_k (K := K) (pv 0) rfl) pa_nil)) (nomark _)) (pw_and1 (pt_cmpR op_le (pe_ix (ix_lk (K := K)) (fld_k (K := K) (pv 0) rfl) (pe_op op_add (pv 2) pe_int) (fun _ _ => rfl)) (pv 1) (nomark _))))) (pss_one (ps_aug (i := 2) sc_Batten_value.nd rfl (Or.inl rfl) pe_int ip_add)))
        (pss_cons (ps_set (i := 3) sc_Batten_value.nd rfl (Or.inl rfl) pe_int)
        (pss_cons (ps_for PassesOwn.never rfl (pi_reversed rfl T.n_reversed (pa_cons (pe_ix (ix_lk (K := K)) (fld_k (K := K) (pv 0) rfl) (pv 2) (fun _ _ => rfl)) pa_nil)) (pg_name (i := 4) sc_Batten_value.nd rfl (Or.inl rfl)) (pss_one (ps_set (i := 3) sc_Batten_value.nd rfl (Or.inl rfl) (pe_op op_add (pe_op op_mulG (pv 3) (pe_op op_sub (pv 1) (pe_ix (ix_lk (K := K)) (fld_k (K := K) (pv 0) rfl) (pv 2) (fun _ _ => rfl)))) (pv 4)))))
        (pss_one (ps_ret (pv 3))))))), ?_⟩
    show tWhile _ _ _ _ _
    refine ⟨fun m σ H' => H' = H ∧ ∃ kk : Nat, σ = [some (.ref o), some (.int z), some (.int kk), none, none] ∧ kk < n ∧ (∀ j, 0 < j → j ≤ kk → x j ≤ z) ∧ m = n - kk, ⟨_, rfl, 0, rfl, n0, fun j h1 h2 => by omega, rfl⟩, ?_⟩
    rintro m σ H' ⟨rfl, kk, rfl, hk, hle, rfl⟩
    refine and_read (decide ((kk : Int) + 1 < (n : Int))) (decide (x (kk + 1) ≤ z)) (fun Q' q => ?_) (fun h1 Q' q => ?_) ?_
    · refine ⟨_, rfl, _, _, rfl, rfl, _, rfl, o, C, dx, _, _, rfl, hB.ins, B.cl, B.pieces, bfB_pieces _ _ _, c, _, rfl, .inl (SqL.of hB.pcs.lst), _, _, rfl, rfl, _, rfl, ?_⟩
      rw [refs_len]
      exact q
    · have h1 := of_decide_eq_true h1
      exact ⟨_, rfl, o, C, dx, _, _, rfl, hB.ins, B.cl, B.nails, bfB_nails _ _ _, _, rfl, _, _, rfl, rfl, _, _, _, _, rfl, rfl, hB.nails.sq, zs_at x (k := kk + 1) (by omega) (by omega), _, rfl, _, _, rfl, rfl, _, rfl, q⟩
    · by_cases hc : (kk : Int) + 1 < (n : Int) ∧ x (kk + 1) ≤ z
      · rw [decide_eq_true hc.1, decide_eq_true hc.2]
        refine iteT ⟨_, fun _ _ q => q, ?_⟩
        refine ⟨_, rfl, _, _, rfl, rfl, n - (kk + 1), by omega, rfl, kk + 1, by simp, by omega, fun j h1 h2 => ?_, rfl⟩
        by_cases e : j = kk + 1
        · rw [e]
          exact hc.2
        · exact hle j h1 (by omega)
      · have e : (decide ((kk : Int) + 1 < (n : Int)) && decide (x (kk + 1) ≤ z)) = false := by
          rw [Bool.and_eq_false_iff]
          by_cases h1 : (kk : Int) + 1 < (n : Int)
          · exact .inr (decide_eq_false fun h2 => hc ⟨h1, h2⟩)
          · exact .inl (decide_eq_false h1)
        rw [e]
        refine iteF ?_
        have hend : kk + 1 = n ∨ z < x (kk + 1) := by
          by_cases h1 : kk + 1 = n
          · exact .inl h1
          · exact .inr (Int.not_le.mp fun h2 => hc ⟨by omega, h2⟩)
        have zt : Sz 22 (z - x kk) := hz.sub (L.xs kk (by omega))
        refine ⟨_, rfl, o, C, dx, _, _, rfl, hB.ins, B.cl, B.pieces, bfB_pieces _ _ _, _, rfl, _, _, _, _, rfl, rfl, SqL.of hB.pcs.lst, refs_at pa (k := kk) rfl hk, pa kk, _, rfl, (hB.pcs.at_ kk hk).sq, ?_⟩
        have en : (zs_ 4 (Cf (gp x) y n kk)).length = 4 := zs_len _ _
        rw [en]
        refine for_rev (K := K) (a := pa kk) (n := 4) (zs_ 4 (Cf (gp x) y n kk)) en.symm (fun i σ H2 => H2 = H' ∧ ∃ v, σ = [some (.ref o), some (.int z), some (.int kk), some (.int (Hr (Cf (gp x) y n kk) 4 (z - x kk) i)), v]) ⟨rfl, none, rfl⟩ (fun i σ H' _ ⟨e, _⟩ => e ▸ (hB.pcs.at_ kk hk).sq) ?_ ?_
        · rintro i v σ H' hi hv ⟨rfl, v', rfl⟩
          rw [zs_get _ (by omega)] at hv
          cases hv
          have zh := (Hr_sz (m := 4) (fun j _ => L.cf (j := j) hk) zt i (by omega)).mono (show Y + 1549 + 23 * i ≤ Y + 2000 by omega)
          exact ⟨_, rfl, _, rfl, _, rfl, o, C, dx, _, _, rfl, hB.ins, B.cl, B.nails, bfB_nails _ _ _, _, rfl, _, _, _, _, rfl, rfl, hB.nails.sq, zs_at x (k := kk) rfl (by omega), _, _, rfl, rfl, _, _, rfl, rfl, Sz.mulOk zh zt (by omega), _, rfl, _, _, rfl, rfl, rfl, _, rfl⟩
        · rintro σ H' ⟨rfl, v, rfl⟩
          exact ⟨_, rfl, k kk hk hle hend⟩
abbrev s_Batten_integral : Stmt := inClass (top 7) 2
theorem sc_Batten_integral : FnScope ["self", "x"] ["self", "x"] (defScope s_Batten_integral) := ⟨rfl, rfl, rfl, by decide +kernel, rfl, by decide +kernel, by decide +kernel⟩
def spIntegral (C : Addr) : Sp := fun vs H Q E => ∃ (o : Addr) (n Y : Nat) (x y : Nat → Int) (z : Int), vs = [.ref o, .int z] ∧ IsBat C H o n x y ∧ Line x y n Y ∧ Sz 21 z ∧ Q (.int (Sw (Cf (gp x) y n) 4 x z n)) H
theorem ok_integral {f C : Addr} {fd : FuncData} (F : Fun K "integral" "Batten.integral" s_Batten_integral f fd) (B : TxtB K C) (G_swept : Has P w K mg base 2 "swept" ["nails", "pieces", "x"] (spSwept K)) : FnOk P w K mg base CX0 3 f fd ["self", "x"] (spIntegral C) := by
  refine F.ok sc_Batten_integral (fun vs H Q E h => ?_) (fun cdv A outer s H vs Q E hr h => ?_)
  · obtain ⟨o, n, Y, x, y, z, rfl, _⟩ := h
    rfl
  · obtain ⟨o, n, Y, x, y, z, rfl, ⟨dx, a, c, pa, hB⟩, L, hz, k⟩ := h
    have hY := L.le
    refine ⟨_, (pss_one (ps_ret (pe_has G_swept (hr.mono (by decide)) (pa_cons (fld_k (K := K) (pv 0) rfl) (pa_cons (fld_k (K := K) (pv 0) rfl) (pa_cons (pv 1) pa_nil)))))), ?_⟩
    exact ⟨_, rfl, o, C, dx, _, _, rfl, hB.ins, B.cl, B.nails, bfB_nails _ _ _, _, rfl, o, C, dx, _, _, rfl, hB.ins, B.cl, B.pieces, bfB_pieces _ _ _, _, rfl, a, c, pa, n, 4, Y + 1549, x, _, z, rfl, hB.nails, hB.pcs, L.gaps.n23, by decide, fun k j h1 _ => L.cf h1, by omega, fun k h1 _ => L.reach hz h1, k⟩
abbrev s_Batten_moment : Stmt := inClass (top 7) 3
theorem sc_Batten_moment : FnScope ["self", "x", "levered", "k"] ["self", "x"] (defScope s_Batten_moment) := ⟨rfl, rfl, rfl, by decide +kernel, rfl, by decide +kernel, by decide +kernel⟩
def Mq (x y : Nat → Int) (n k : Nat) : Nat → Int := Lv (Cf (gp x) y n k) 4 (x k)
def spMoment (C : Addr) : Sp := fun vs H Q E => ∃ (o : Addr) (n Y : Nat) (x y : Nat → Int) (z : Int), vs = [.ref o, .int z] ∧ IsBat C H o n x y ∧ Line x y n Y ∧ Sz 21 z ∧ ∀ H', Same H H' → Q (.int (Sw (Mq x y n) 5 x z n)) H'
theorem ok_moment {f C : Addr} {fd : FuncData} (F : Fun K "moment" "Batten.moment" s_Batten_moment f fd) (T : Txt K mg) (B : TxtB K C) (G_swept : Has P w K mg base 2 "swept" ["nails", "pieces", "x"] (spSwept K)) (G_product : Has P w K mg base 1 "product" ["first", "second"] (spProd K)) : FnOk P w K mg base CX0 3 f fd ["self", "x"] (spMoment C) := by
  refine F.ok sc_Batten_moment (fun vs H Q E h => ?_) (fun cdv A outer s H vs Q E hr h => ?_)
  · obtain ⟨o, n, Y, x, y, z, rfl, _⟩ := h
    rfl
  · obtain ⟨o, n, Y, x, y, z, rfl, ⟨dx, a, c, pa, hB⟩, L, hz, k⟩ := h
    have hY := L.le
    have n23 := L.gaps.n23
    refine ⟨_, (pss_cons (ps_setLc (i := 2) (own := [("k", 3)]) rfl sc_Batten_moment.nd rfl rfl rfl (pi_range1 rfl T.n_range (pa_cons (pe_callB (len_k (K := K)) (by rfl) T.n_len PySem.boot_len (pa_cons (fld_k (K := K) (pv 0) rfl) pa_nil)) pa_nil)) (blk_of (show blkOk ["self", "x", "levered", "k"] (defScope s_Batten_moment) _ [("k", 3)] = true by decide +kernel)) (fun _ _ _ _ _ => pg_name (i := 3) sc_Batten_moment.nd rfl (Or.inl rfl)) (fun _ _ _ _ _ => pts_nil) (fun _ _ _ _ _ => (pe_has G_product (hr.mono (by decide)) (pa_cons (pe_ix (ix_lk (K := K)) (fld_k (K := K) (pv 0) rfl) (pv 3) (fun _ _ => rfl)) (pa_cons (pe_lst (pa_cons (pe_ix (ix_lk (K := K)) (fld_k (K := K) (pv 0) rfl) (pv 3) (fun _ _ => rfl)) (pa_cons pe_int pa_nil))) pa_nil)))))
        (pss_one (ps_ret (pe_has G_swept (hr.mono (by decide)) (pa_cons (fld_k (K := K) (pv 0) rfl) (pa_cons (pv 2) (pa_cons (pv 1) pa_nil))))))), ?_⟩
    refine ⟨_, rfl, o, C, dx, _, _, rfl, hB.ins, B.cl, B.pieces, bfB_pieces _ _ _, c, _, rfl, .inl (SqL.of hB.pcs.lst), n, (by rw [refs_len]), by omega, by omega, ?_⟩
    intro D hD
    refine lc_rng (fun i H' => Same H H' ∧ ∃ qa, PiecesAt H' D i 5 qa (Mq x y n)) ⟨(Same.refl H).new hD, fun _ => 0, upd_same, fun k hk => by omega⟩ ?_ ?_
    · rintro i H' hi ⟨s1, qa, hq⟩
      have hi : i < n := by omega
      rw [Int.zero_add]
      refine ⟨rfl, _, rfl, o, C, dx, _, _, rfl, s1 _ _ hB.ins, B.cl, B.pieces, bfB_pieces _ _ _, _, rfl, _, _, _, _, rfl, rfl, SqL.of (s1 _ _ hB.pcs.lst), refs_at pa (k := i) rfl hi, _, rfl, o, C, dx, _, _, rfl, s1 _ _ hB.ins, B.cl, B.nails, bfB_nails _ _ _, _, rfl, _, _, _, _, rfl, rfl, (s1.zz hB.nails).sq, zs_at x (k := i) rfl (by omega), ?_⟩
      refine ⟨(by show 2 ≤ sizeLine; decide), fun v1 hv1 => ?_⟩
      have s1' : Same H' (upd H' v1 (.lst [.int (x i), .int 1])) := (Same.refl H').new hv1
      refine ⟨pa i, v1, 4, 2, Y + 1549, 21, Cf (gp x) y n i, two_ (x i), rfl, (s1'.zz (s1.zz (hB.pcs.at_ i hi))).sq, SqL.of upd_same, by decide, by decide, by decide, by decide, fun j _ => L.cf hi, fun j _ => ?_, by omega, fun l H2 hl s2 hli => ?_⟩
      · cases j with
        | zero => exact L.xs i (by omega)
        | succ j => exact Sz.one.mono (by decide)
      have s2 := s1'.trans s2
      have hl : H' l = none := s1'.free hl
      have hli : IsInts H2 l 5 (Mq x y n i) := by
        have e : zs_ 5 (Pr (Cf (gp x) y n i) (two_ (x i)) 2 4) = zs_ 5 (Mq x y n i) := zs_congr fun j hj => Pr_place _ _ j hj
        unfold IsInts
        rw [← e]
        exact hli
      refine ⟨_, s2 _ _ hq.lst, by rw [refs_len]; exact small1000 (by omega), (s1.trans s2).put hD, ?_⟩
      rw [refs_snoc]
      have lD : l ≠ D := fun q => by rw [q, hq.lst] at hl; cases hl
      refine ⟨_, upd_same, fun j hj => ?_⟩
      by_cases ej : j = i
      · subst ej
        show upd _ D _ (if j = j then l else qa j) = _
        rw [if_pos rfl, upd_ne lD]
        exact hli
      · show upd _ D _ (if j = i then l else qa j) = _
        rw [if_neg ej]
        have hj' := hq.at_ j (by omega)
        rw [upd_ne (fun q => by
          have h1 := hq.lst
          rw [← q, hj'] at h1
          injection h1 with h1
          injection h1 with h1
          have h2 := congrArg (fun l : List V => l[0]?) h1
          have h3 : (refs i qa)[0]? = some (.ref (qa 0)) := refs_get qa (by omega)
          simp only [h3, zs_get (Mq x y n j) (show 0 < 5 by decide)] at h2
          cases h2)]
        exact s2 _ _ hj'
    · rintro H1 ⟨s1, qa, hq⟩
      exact ⟨_, rfl, o, C, dx, _, _, rfl, s1 _ _ hB.ins, B.cl, B.nails, bfB_nails _ _ _, _, rfl, _, rfl, a, D, qa, n, 5, Y + 1571, x, _, z, rfl, s1.zz hB.nails, hq, L.gaps.n23, by decide, fun k j h1 h2 => Lv_sz (by decide) (fun j _ => L.cf h1) (L.xs k (by omega)) j (by omega), by omega, fun k h1 _ => L.reach hz h1, k H1 s1⟩
abbrev s_Batten_cube_integral : Stmt := inClass (top 7) 4
theorem sc_Batten_cube_integral : FnScope ["self", "k"] ["self"] (defScope s_Batten_cube_integral) := ⟨rfl, rfl, rfl, by decide +kernel, rfl, by decide +kernel, by decide +kernel⟩
def spCube (C : Addr) : Sp := fun vs H Q E => ∃ (o : Addr) (n Y : Nat) (x y : Nat → Int), vs = [.ref o] ∧ IsBat C H o n x y ∧ Line x y n Y ∧ ∀ H', Same H H' → Q (.int (Cu (Cf (gp x) y n) (gp x) n)) H'
theorem ok_cube {f C : Addr} {fd : FuncData} (F : Fun K "cube_integral" "Batten.cube_integral" s_Batten_cube_integral f fd) (T : Txt K mg) (B : TxtB K C) (G_piece_cube_integral : Has P w K mg base 2 "piece_cube_integral" ["piece", "gap"] (spPCube K)) : FnOk P w K mg base CX0 3 f fd ["self"] (spCube C) := by
  refine F.ok sc_Batten_cube_integral (fun vs H Q E h => ?_) (fun cdv A outer s H vs Q E hr h => ?_)
  · obtain ⟨o, n, Y, x, y, rfl, _⟩ := h
    rfl
  · obtain ⟨o, n, Y, x, y, rfl, ⟨dx, a, c, pa, hB⟩, L, k⟩ := h
    have hY := L.le
    have n23 := L.gaps.n23
    refine ⟨_, (pss_one (ps_ret (pe_callB (call_sum rfl) (by rfl) T.n_sum PyProof.Rows.boot_sum (pa_cons (pe_lc (own := [("k", 1)]) rfl sc_Batten_cube_integral.nd (pi_range1 rfl T.n_range (pa_cons (pe_callB (len_k (K := K)) (by rfl) T.n_len PySem.boot_len (pa_cons (fld_k (K := K) (pv 0) rfl) pa_nil)) pa_nil)) (blk_of (show blkOk ["self", "k"] (defScope s_Batten_cube_integral) _ [("k", 1)] = true by decide +kernel)) (fun _ _ _ _ _ => pg_name (i := 1) sc_Batten_cube_integral.nd rfl (Or.inl rfl)) (fun _ _ _ _ _ => pts_nil) (fun _ _ _ _ _ => (pe_has G_piece_cube_integral (hr.mono (by decide)) (pa_cons (pe_ix (ix_lk (K := K)) (fld_k (K := K) (pv 0) rfl) (pv 1) (fun _ _ => rfl)) (pa_cons (pe_op op_sub (pe_ix (ix_lk (K := K)) (fld_k (K := K) (pv 0) rfl) (pe_op op_add (pv 1) pe_int) (fun _ _ => rfl)) (pe_ix (ix_lk (K := K)) (fld_k (K := K) (pv 0) rfl) (pv 1) (fun _ _ => rfl))) pa_nil))))) pa_nil)))), ?_⟩
    refine ⟨_, rfl, o, C, dx, _, _, rfl, hB.ins, B.cl, B.pieces, bfB_pieces _ _ _, c, _, rfl, .inl (SqL.of hB.pcs.lst), n, (by rw [refs_len]), by omega, by omega, ?_⟩
    intro D hD
    refine lc_rng (fun i H' => Same H H' ∧ IsInts H' D i (fun k => Ci (Cf (gp x) y n k) (gp x k))) ⟨(Same.refl H).new hD, upd_same⟩ ?_ ?_
    · rintro i H' hi ⟨s1, hd⟩
      have hi : i < n := by omega
      rw [Int.zero_add]
      refine ⟨rfl, _, rfl, o, C, dx, _, _, rfl, s1 _ _ hB.ins, B.cl, B.pieces, bfB_pieces _ _ _, _, rfl, _, _, _, _, rfl, rfl, SqL.of (s1 _ _ hB.pcs.lst), refs_at pa (k := i) rfl hi, _, rfl, o, C, dx, _, _, rfl, s1 _ _ hB.ins, B.cl, B.nails, bfB_nails _ _ _, _, rfl, _, _, rfl, rfl, _, _, _, _, rfl, rfl, (s1.zz hB.nails).sq, zs_at x (k := i + 1) (by omega) (by omega), _, rfl, o, C, dx, _, _, rfl, s1 _ _ hB.ins, B.cl, B.nails, bfB_nails _ _ _, _, rfl, _, _, _, _, rfl, rfl, (s1.zz hB.nails).sq, zs_at x (k := i) rfl (by omega), _, _, rfl, rfl, ?_⟩
      refine ⟨pa i, Y + 1549, Cf (gp x) y n i, gp x i, rfl, (s1.zz (hB.pcs.at_ i hi)).sq, fun j => L.cf hi, by omega, L.gaps.sz i hi, fun H2 s2 => ?_⟩
      refine ⟨_, s2.zz hd, by rw [zs_len]; exact small1000 (by omega), (s1.trans s2).put hD, ?_⟩
      show upd H2 D _ D = _
      rw [upd_same, ← zs_snoc]
    · rintro H1 ⟨s1, hd⟩
      refine ⟨D, (List.range n).map fun k => Ci (Cf (gp x) y n k) (gp x k), rfl, ?_, k H1 s1⟩
      rw [← zs_ints]
      exact hd.sq
end
end Hf
set_option linter.all false
set_option maxRecDepth 100000
set_option maxHeartbeats 4000000
set_option Elab.async false
namespace Hf
open PySem PySem.Spec PyProof.Rows L2
open PySem.W (Codec)
open Hull
theorem next_read {D : Ends} {σ : L2.St} {H : Hp} (h : D.nx σ H) : tNext D σ H := h
theorem seq_read {t u : TS} {D : Ends} {σ : L2.St} {H : Hp} (h : t { D with nx := u D } σ H) : tSeq t u D σ H := h
theorem ifs_read {c : TT} {t u : TS} {D : Ends} {σ : L2.St} {H : Hp} (h : c σ H fun b H1 => if b = true then t D σ H1 else u D σ H1) : tIfS c t u D σ H := h
def asV : Option Nat → V
  | some i => .int i
  | none => .non
section
variable {P : Program} {w : World} {K : PySem.W.Frag} {mg : Str → Option Value} {base : Heap}
abbrev s_first_not_rising : Stmt := top 27
theorem sc_first_not_rising : FnScope ["row", "least", "before", "number"] ["row", "least"] (defScope s_first_not_rising) := ⟨rfl, rfl, rfl, by decide +kernel, rfl, by decide +kernel, by decide +kernel⟩
def spRising (K : PySem.W.Frag) : Sp := fun vs H Q E => ∃ (a : Addr) (n : Nat) (f : Nat → Int) (least : Int), vs = [.ref a, .int least] ∧ SqL K H a (zs_ n f) ∧ n ≤ 16777216 ∧ Q (asV ((List.range n).find? (badR f least))) H
theorem ok_rising {f : Addr} {fd : FuncData} (F : Fun K "first_not_rising" "first_not_rising" s_first_not_rising f fd) (T : Txt K mg) : FnOk P w K mg base CX0 1 f fd ["row", "least"] (spRising K) := by
  refine F.ok sc_first_not_rising (fun vs H Q E h => ?_) (fun cdv A outer s H vs Q E hr h => ?_)
  · obtain ⟨a, n, f, least, rfl, _⟩ := h
    rfl
  · obtain ⟨a, n, f, least, rfl, hS, hn, k⟩ := h
    refine ⟨_, (pss_cons (ps_set (i := 2) sc_first_not_rising.nd rfl (Or.inl rfl) (pe_op op_sub (pv 1) pe_int))
        (pss_cons (ps_for PassesOwn.never rfl (pi_range1 rfl T.n_range (pa_cons (pe_callB (len_k (K := K)) (by rfl) T.n_len PySem.boot_len (pa_cons (pv 0) pa_nil)) pa_nil)) (pg_name (i := 3) sc_first_not_rising.nd rfl (Or.inl rfl)) (pss_cons (ps_if (PW.pt (pw_or (pt_cmpR op_le (pe_ix (ix_lk (K := K)) (pv 0) (pv 3) (fun _ _ => rfl)) (pv 2) (nomark _)) (pw_or1 (pt_cmpR op_gt (pe_ix (ix_lk (K := K)) (pv 0) (pv 3) (fun _ _ => rfl)) (pe_glob rfl T.v_GREATEST_MEASURE.1 T.v_GREATEST_MEASURE.2) (nomark _))))) (pss_one (ps_ret (pv 3))) pss_nil)
        (pss_one (ps_set (i := 2) sc_first_not_rising.nd rfl (Or.inl rfl) (pe_ix (ix_lk (K := K)) (pv 0) (pv 3) (fun _ _ => rfl))))))
        (pss_one (ps_ret pe_non)))), ?_⟩
    refine ⟨_, rfl, _, _, rfl, rfl, _, rfl, a, _, rfl, .inl hS, n, (by rw [zs_len]), by omega, by omega, ?_⟩
    refine for_range (lo := 0) (n := n) (fun i σ H' => H' = H ∧ (∀ j, j < i → badR f least j = false) ∧ ∃ v, σ = [some (.ref a), some (.int least), some (.int (if i = 0 then least - 1 else f (i - 1))), v]) ⟨rfl, fun j hj => by omega, none, rfl⟩ ?_ ?_
    · rintro i σ H' hi ⟨rfl, hb, v, rfl⟩
      rw [Int.zero_add]
      refine or_read (decide (f i ≤ (if i = 0 then least - 1 else f (i - 1)))) (decide (1048575 < f i)) (fun Q' q => ⟨_, rfl, _, rfl, _, _, _, _, rfl, rfl, hS, zs_at f (k := i) rfl hi, _, rfl, _, _, rfl, rfl, _, rfl, q⟩) (fun _ Q' q => ⟨_, rfl, _, rfl, _, _, _, _, rfl, rfl, hS, zs_at f (k := i) rfl hi, _, _, rfl, rfl, _, rfl, q⟩) ?_
      show if badR f least i = true then _ else _
      cases e : badR f least i with
      | true =>
        refine iteT ⟨_, rfl, ?_⟩
        have : (List.range n).find? (badR f least) = some i := by
          rw [List.find?_range_eq_some]
          exact ⟨e, List.mem_range.mpr hi, fun j hj => by rw [hb j hj]; rfl⟩
        rw [this] at k
        exact k
      | false =>
        refine iteF ⟨_, rfl, _, rfl, _, _, _, _, rfl, rfl, hS, zs_at f (k := i) rfl hi, rfl, fun j hj => ?_, some (.int (i : Int)), ?_⟩
        · by_cases ej : j = i
          · rw [ej]
            exact e
          · exact hb j (by omega)
        · rfl
    · rintro σ H' ⟨rfl, hb, v, rfl⟩
      have : (List.range n).find? (badR f least) = none := by
        rw [List.find?_eq_none]
        intro j hj
        rw [hb j (List.mem_range.mp hj)]
        exact Bool.false_ne_true
      rw [this] at k
      exact k
abbrev s_first_outside : Stmt := top 28
theorem sc_first_outside : FnScope ["row", "number"] ["row"] (defScope s_first_outside) := ⟨rfl, rfl, rfl, by decide +kernel, rfl, by decide +kernel, by decide +kernel⟩
def spOutside (K : PySem.W.Frag) : Sp := fun vs H Q E => ∃ (a : Addr) (n : Nat) (f : Nat → Int), vs = [.ref a] ∧ SqL K H a (zs_ n f) ∧ n ≤ 16777216 ∧ Q (asV ((List.range n).find? (badO f))) H
theorem ok_outside {f : Addr} {fd : FuncData} (F : Fun K "first_outside" "first_outside" s_first_outside f fd) (T : Txt K mg) : FnOk P w K mg base CX0 1 f fd ["row"] (spOutside K) := by
  refine F.ok sc_first_outside (fun vs H Q E h => ?_) (fun cdv A outer s H vs Q E hr h => ?_)
  · obtain ⟨a, n, f, rfl, _⟩ := h
    rfl
  · obtain ⟨a, n, f, rfl, hS, hn, k⟩ := h
    refine ⟨_, (pss_cons (ps_for PassesOwn.never rfl (pi_range1 rfl T.n_range (pa_cons (pe_callB (len_k (K := K)) (by rfl) T.n_len PySem.boot_len (pa_cons (pv 0) pa_nil)) pa_nil)) (pg_name (i := 1) sc_first_outside.nd rfl (Or.inl rfl)) (pss_one (ps_if (PW.pt (pw_or (pt_cmpR op_lt (pe_ix (ix_lk (K := K)) (pv 0) (pv 1) (fun _ _ => rfl)) pe_int (nomark _)) (pw_or1 (pt_cmpR op_gt (pe_ix (ix_lk (K := K)) (pv 0) (pv 1) (fun _ _ => rfl)) (pe_glob rfl T.v_GREATEST_MEASURE.1 T.v_GREATEST_MEASURE.2) (nomark _))))) (pss_one (ps_ret (pv 1))) pss_nil)))
        (pss_one (ps_ret pe_non))), ?_⟩
    refine ⟨_, rfl, a, _, rfl, .inl hS, n, (by rw [zs_len]), by omega, by omega, ?_⟩
    refine for_range (lo := 0) (n := n) (fun i σ H' => H' = H ∧ (∀ j, j < i → badO f j = false) ∧ ∃ v, σ = [some (.ref a), v]) ⟨rfl, fun j hj => by omega, none, rfl⟩ ?_ ?_
    · rintro i σ H' hi ⟨rfl, hb, v, rfl⟩
      rw [Int.zero_add]
      refine or_read (decide (f i < 0)) (decide (1048575 < f i)) (fun Q' q => ⟨_, rfl, _, rfl, _, _, _, _, rfl, rfl, hS, zs_at f (k := i) rfl hi, _, _, rfl, rfl, _, rfl, q⟩) (fun _ Q' q => ⟨_, rfl, _, rfl, _, _, _, _, rfl, rfl, hS, zs_at f (k := i) rfl hi, _, _, rfl, rfl, _, rfl, q⟩) ?_
      show if badO f i = true then _ else _
      cases e : badO f i with
      | true =>
        refine iteT ⟨_, rfl, ?_⟩
        have : (List.range n).find? (badO f) = some i := by
          rw [List.find?_range_eq_some]
          exact ⟨e, List.mem_range.mpr hi, fun j hj => by rw [hb j hj]; rfl⟩
        rw [this] at k
        exact k
      | false =>
        refine iteF ⟨rfl, fun j hj => ?_, some (.int (i : Int)), rfl⟩
        by_cases ej : j = i
        · rw [ej]
          exact e
        · exact hb j (by omega)
    · rintro σ H' ⟨rfl, hb, v, rfl⟩
      have : (List.range n).find? (badO f) = none := by
        rw [List.find?_eq_none]
        intro j hj
        rw [hb j (List.mem_range.mp hj)]
        exact Bool.false_ne_true
      rw [this] at k
      exact k
abbrev s_first_fault : Stmt := top 26
theorem sc_first_fault : FnScope ["places", "heights", "half_breadths", "wrong_place", "wrong_height", "wrong_breadth"] ["places", "heights", "half_breadths"] (defScope s_first_fault) := ⟨rfl, rfl, rfl, by decide +kernel, rfl, by decide +kernel, by decide +kernel⟩
def spFault (K : PySem.W.Frag) : Sp := fun vs H Q E => ∃ (p q r : Addr) (a b c : Nat) (f g h : Nat → Int), vs = [.ref p, .ref q, .ref r] ∧ SqL K H p (zs_ a f) ∧ SqL K H q (zs_ b g) ∧ SqL K H r (zs_ c h) ∧ a ≤ 100000 ∧ b ≤ 100000 ∧ c ≤ 100000 ∧
  ∀ t H', Same H H' → SqT K H' t [.int (faultOf a b c f g h).1, .int (faultOf a b c f g h).2] → Q (.ref t) H'
theorem ok_fault {f : Addr} {fd : FuncData} (F : Fun K "first_fault" "first_fault" s_first_fault f fd) (T : Txt K mg) (G_first_not_rising : Has P w K mg base 1 "first_not_rising" ["row", "least"] (spRising K)) (G_first_outside : Has P w K mg base 1 "first_outside" ["row"] (spOutside K)) :
    FnOk P w K mg base CX0 2 f fd ["places", "heights", "half_breadths"] (spFault K) := by
  refine F.ok sc_first_fault (fun vs H Q E h => ?_) (fun cdv A outer s H vs Q E hr h => ?_)
  · obtain ⟨p, q, r, a, b, c, f, g, h, rfl, _⟩ := h
    rfl
  · obtain ⟨p, q, r, a, b, c, f, g, h, rfl, hp, hq, hr', ha, hb, hc, k⟩ := h
    refine ⟨_, (pss_cons (ps_if (PW.pt (pw_or (pt_cmpR op_lt (pe_callB (len_k (K := K)) (by rfl) T.n_len PySem.boot_len (pa_cons (pv 0) pa_nil)) pe_int (nomark _)) (pw_or1 (pt_cmpR op_gt (pe_callB (len_k (K := K)) (by rfl) T.n_len PySem.boot_len (pa_cons (pv 0) pa_nil)) pe_int (nomark _))))) (pss_one (ps_ret (pe_tup (pa_cons pe_int (pa_cons pe_int pa_nil))))) pss_nil)
        (pss_cons (ps_if (PW.pt (pw_or (pt_cmpR op_lt (pe_callB (len_k (K := K)) (by rfl) T.n_len PySem.boot_len (pa_cons (pv 1) pa_nil)) pe_int (nomark _)) (pw_or1 (pt_cmpR op_gt (pe_callB (len_k (K := K)) (by rfl) T.n_len PySem.boot_len (pa_cons (pv 1) pa_nil)) pe_int (nomark _))))) (pss_one (ps_ret (pe_tup (pa_cons pe_int (pa_cons pe_int pa_nil))))) pss_nil)
        (pss_cons (ps_if (pt_cmpR op_ne (pe_callB (len_k (K := K)) (by rfl) T.n_len PySem.boot_len (pa_cons (pv 2) pa_nil)) (pe_op op_mulG (pe_callB (len_k (K := K)) (by rfl) T.n_len PySem.boot_len (pa_cons (pv 0) pa_nil)) (pe_callB (len_k (K := K)) (by rfl) T.n_len PySem.boot_len (pa_cons (pv 1) pa_nil))) (nomark _)) (pss_one (ps_ret (pe_tup (pa_cons pe_int (pa_cons (pe_callB (len_k (K := K)) (by rfl) T.n_len PySem.boot_len (pa_cons (pv 2) pa_nil)) pa_nil))))) pss_nil)
        (pss_cons (ps_set (i := 3) sc_first_fault.nd rfl (Or.inl rfl) (pe_has G_first_not_rising (hr.mono (by decide)) (pa_cons (pv 0) (pa_cons pe_int pa_nil))))
        (pss_cons (ps_if (pt_cmpR op_notN (pv 3) pe_non (nomark _)) (pss_one (ps_ret (pe_tup (pa_cons pe_int (pa_cons (pv 3) pa_nil))))) pss_nil)
        (pss_cons (ps_set (i := 4) sc_first_fault.nd rfl (Or.inl rfl) (pe_has G_first_not_rising (hr.mono (by decide)) (pa_cons (pv 1) (pa_cons (pe_un un_neg (pe_glob rfl T.v_GREATEST_MEASURE.1 T.v_GREATEST_MEASURE.2)) pa_nil))))
        (pss_cons (ps_if (pt_cmpR op_notN (pv 4) pe_non (nomark _)) (pss_one (ps_ret (pe_tup (pa_cons pe_int (pa_cons (pv 4) pa_nil))))) pss_nil)
        (pss_cons (ps_set (i := 5) sc_first_fault.nd rfl (Or.inl rfl) (pe_has G_first_outside (hr.mono (by decide)) (pa_cons (pv 2) pa_nil)))
        (pss_cons (ps_if (pt_cmpR op_notN (pv 5) pe_non (nomark _)) (pss_one (ps_ret (pe_tup (pa_cons pe_int (pa_cons (pv 5) pa_nil))))) pss_nil)
        (pss_one (ps_ret (pe_glob rfl T.v_NO_FAULT.1 T.v_NO_FAULT.2)))))))))))), ?_⟩
    have new : ∀ {u v : Int}, (faultOf a b c f g h) = (u, v) → ([V.int u, V.int v] : List V).length ≤ sizeLine ∧ ∀ t, H t = none → Q (.ref t) (upd H t (.tup [.int u, .int v])) := fun {u v} e => ⟨(by show 2 ≤ sizeLine; decide), fun t ht => k t _ ((Same.refl H).new ht) (by rw [e]; exact SqT.of upd_same)⟩
    refine or_read (decide (((zs_ a f).length : Int) < 2)) (decide (24 < ((zs_ a f).length : Int))) (fun Q' q' => ⟨_, rfl, p, _, rfl, .inl hp, _, _, rfl, rfl, _, rfl, q'⟩) (fun _ Q' q' => ⟨_, rfl, p, _, rfl, .inl hp, _, _, rfl, rfl, _, rfl, q'⟩) ?_
    rw [zs_len]
    by_cases c1 : a < 2 ∨ 24 < a
    · have e : (decide ((a : Int) < 2) || decide (24 < (a : Int))) = true := by
        rw [Bool.or_eq_true, decide_eq_true_eq, decide_eq_true_eq]
        omega
      rw [e]
      exact iteT (new (by unfold faultOf; rw [if_pos c1]))
    have e : (decide ((a : Int) < 2) || decide (24 < (a : Int))) = false := by
      rw [Bool.or_eq_false_iff, decide_eq_false_iff_not, decide_eq_false_iff_not]
      omega
    rw [e]
    refine iteF (next_read ?_)
    dsimp only
    refine seq_read ?_
    refine ifs_read ?_
    refine or_read (decide (((zs_ b g).length : Int) < 2)) (decide (16 < ((zs_ b g).length : Int))) (fun Q' q' => ⟨_, rfl, q, _, rfl, .inl hq, _, _, rfl, rfl, _, rfl, q'⟩) (fun _ Q' q' => ⟨_, rfl, q, _, rfl, .inl hq, _, _, rfl, rfl, _, rfl, q'⟩) ?_
    rw [zs_len]
    by_cases c2 : b < 2 ∨ 16 < b
    · have e : (decide ((b : Int) < 2) || decide (16 < (b : Int))) = true := by
        rw [Bool.or_eq_true, decide_eq_true_eq, decide_eq_true_eq]
        omega
      rw [e]
      exact iteT (new (by unfold faultOf; rw [if_neg c1, if_pos c2]))
    have e : (decide ((b : Int) < 2) || decide (16 < (b : Int))) = false := by
      rw [Bool.or_eq_false_iff, decide_eq_false_iff_not, decide_eq_false_iff_not]
      omega
    rw [e]
    refine iteF ?_
    refine ⟨_, rfl, r, _, rfl, .inl hr', _, rfl, p, _, rfl, .inl hp, _, rfl, q, _, rfl, .inl hq, _, _, rfl, rfl, ?_, rfl, _, rfl, ?_⟩
    · rw [zs_len, zs_len]
      exact Sz.mulOk (Sz.of (n := 20) (by omega) (by omega)) (Sz.of (n := 20) (by omega) (by omega)) (by decide)
    rw [zs_len, zs_len, zs_len]
    by_cases c3 : c = a * b
    case neg =>
      rw [decide_eq_false (by intro z; injection z with z; exact c3 (by exact_mod_cast z))]
      refine iteT ⟨_, rfl, r, _, rfl, .inl hr', ?_⟩
      rw [zs_len]
      exact new (by unfold faultOf; rw [if_neg c1, if_neg c2, if_pos c3])
    rw [decide_eq_true (by rw [c3]; push_cast; rfl)]
    refine iteF ?_
    have ef : faultOf a b c f g h = (match (List.range a).find? (badR f 0) with
      | some i => (3, i)
      | none => match (List.range b).find? (badR g (-1048575)) with
        | some i => (4, i)
        | none => match (List.range c).find? (badO h) with
          | some i => (5, i)
          | none => (0, 0)) := by
      unfold faultOf
      rw [if_neg c1, if_neg c2, if_neg (by omega)]
      all_goals rfl
    refine ⟨_, rfl, p, a, f, 0, rfl, hp, by omega, ?_⟩
    cases e1 : (List.range a).find? (badR f 0) with
    | some i =>
      rw [e1] at ef
      refine ⟨_, rfl, rfl, _, rfl, iteT ⟨_, rfl, new ef⟩⟩
    | none =>
      rw [e1] at ef
      refine ⟨_, rfl, rfl, _, rfl, iteF ⟨_, rfl, _, rfl, q, b, g, -1048575, rfl, hq, by omega, ?_⟩⟩
      cases e2 : (List.range b).find? (badR g (-1048575)) with
      | some i =>
        rw [e2] at ef
        refine ⟨_, rfl, rfl, _, rfl, iteT ⟨_, rfl, new ef⟩⟩
      | none =>
        rw [e2] at ef
        refine ⟨_, rfl, rfl, _, rfl, iteF ⟨_, rfl, r, c, h, rfl, hr', by omega, ?_⟩⟩
        cases e3 : (List.range c).find? (badO h) with
        | some i =>
          rw [e3] at ef
          refine ⟨_, rfl, rfl, _, rfl, iteT ⟨_, rfl, new ef⟩⟩
        | none =>
          rw [e3] at ef
          refine ⟨_, rfl, rfl, _, rfl, iteF (k _ H (Same.refl H) ?_)⟩
          rw [ef]
          exact T.q_NO_FAULT H
end
end Hf
set_option linter.all false
set_option maxRecDepth 100000
set_option maxHeartbeats 4000000
set_option Elab.async false
namespace Hf
open PySem PySem.Spec PyProof.Rows L2
open PySem.W (Codec)
open Hull
theorem eand_read {t u : TE} {σ : L2.St} {H : Hp} {Q : VK} (b1 b2 : Bool) (h1 : ∀ Q' : VK, Q' (.bl b1) H → t σ H Q') (h2 : b1 = true → ∀ Q' : VK, Q' (.bl b2) H → u σ H Q') (h : Q (.bl (b1 && b2)) H) : tAndV t u σ H Q := by
  refine h1 _ ⟨b1, rfl, ?_⟩
  cases b1 with
  | true => exact iteT (h2 rfl _ h)
  | false => exact iteF h
theorem take_snoc {α : Type} : ∀ {l : List α} {i : Nat} {x : α}, l[i]? = some x → l.take (i + 1) = l.take i ++ [x]
  | [], i, x, h => by simp at h
  | a :: l, 0, x, h => by
    have e : a = x := Option.some.inj h
    subst e
    rfl
  | a :: l, i + 1, x, h => by
    have ih := take_snoc (l := l) (i := i) (x := x) h
    show a :: l.take (i + 1) = a :: l.take i ++ [x]
    rw [ih]
    rfl
section
variable {P : Program} {w : World} {K : PySem.W.Frag} {mg : Str → Option Value} {base : Heap}
abbrev s_all_within : Stmt := top 33
theorem sc_all_within : FnScope ["row", "least", "greatest", "number"] ["row", "least", "greatest"] (defScope s_all_within) := ⟨rfl, rfl, rfl, by decide +kernel, rfl, by decide +kernel, by decide +kernel⟩
def wth (lo hi : Int) (z : Int) : Bool := decide (lo ≤ z) && decide (z ≤ hi)
def spWithin (K : PySem.W.Frag) : Sp := fun vs H Q E => ∃ (a : Addr) (l : List Int) (lo hi : Int), vs = [.ref a, .int lo, .int hi] ∧ SqL K H a (l.map V.int) ∧ l.length ≤ 100000 ∧ ∀ H', Same H H' → Q (.bl (l.all (wth lo hi))) H'
theorem ok_within {f : Addr} {fd : FuncData} (F : Fun K "all_within" "all_within" s_all_within f fd) (T : Txt K mg) : FnOk P w K mg base CX0 1 f fd ["row", "least", "greatest"] (spWithin K) := by
  refine F.ok sc_all_within (fun vs H Q E h => ?_) (fun cdv A outer s H vs Q E hr h => ?_)
  · obtain ⟨a, l, lo, hi, rfl, _⟩ := h
    rfl
  · obtain ⟨a, l, lo, hi, rfl, hS, hl, k⟩ := h
    refine ⟨_, (pss_one (ps_ret (pe_callB (all_k (K := K) rfl) (by rfl) T.n_all PyProof.Rows.boot_all (pa_cons (pe_lc (own := [("number", 3)]) rfl sc_all_within.nd (pi_lk (K := K) (pv 0)) (blk_of (show blkOk ["row", "least", "greatest", "number"] (defScope s_all_within) _ [("number", 3)] = true by decide +kernel)) (fun _ _ _ _ _ => pg_name (i := 3) sc_all_within.nd rfl (Or.inl rfl)) (fun _ _ _ _ _ => pts_nil) (fun _ _ _ _ _ => (pe_and (pe_cmpR op_le (pv 1) (pv 3) (nomark _)) (pe_one (pe_cmpR op_le (pv 3) (pv 2) (nomark _)))))) pa_nil)))), ?_⟩
    refine ⟨_, rfl, a, rfl, ⟨_, hS⟩, ?_⟩
    intro D hD
    refine lc_lst (l.map V.int) (fun i H' => Same H H' ∧ H' D = some (.lst (((l.take i).map (wth lo hi)).map V.bl))) ⟨(Same.refl H).new hD, upd_same⟩ (fun i H' _ ⟨s1, _⟩ => s1.seq hS) ?_ ?_
    · rintro i v H' hi' ⟨s1, hd⟩
      obtain ⟨z, hz, rfl⟩ : ∃ z, l[i]? = some z ∧ v = V.int z := by
        rw [List.getElem?_map] at hi'
        cases e : l[i]? with
        | none =>
          rw [e] at hi'
          cases hi'
        | some z =>
          rw [e] at hi'
          exact ⟨z, rfl, (Option.some.inj hi').symm⟩
      refine ⟨rfl, ?_⟩
      refine eand_read (decide (lo ≤ z)) (decide (z ≤ hi)) (fun Q' q => ⟨_, rfl, _, rfl, _, _, rfl, rfl, q⟩) (fun _ Q' q => ⟨_, rfl, _, rfl, _, _, rfl, rfl, q⟩) ?_
      refine ⟨_, hd, ?_, s1.put hD, ?_⟩
      · rw [List.length_map, List.length_map, List.length_take]
        exact Nat.lt_of_le_of_lt (Nat.min_le_right _ _) (Nat.lt_of_le_of_lt hl (by decide))
      · show upd H' D _ D = _
        rw [upd_same, take_snoc hz, List.map_append, List.map_append]
        rfl
    · rintro H1 ⟨s1, hd⟩
      rw [List.length_map, List.take_length] at hd
      refine ⟨D, l.map (wth lo hi), rfl, SqL.of hd, ?_⟩
      have e : (l.map (wth lo hi)).all id = l.all (wth lo hi) := by rw [List.all_map]; rfl
      rw [e]
      exact k H1 s1
abbrev s_lever : Stmt := top 34
theorem sc_lever : FnScope ["weights", "heights", "k"] ["weights", "heights"] (defScope s_lever) := ⟨rfl, rfl, rfl, by decide +kernel, rfl, by decide +kernel, by decide +kernel⟩
def spLever (K : PySem.W.Frag) : Sp := fun vs H Q E => ∃ (a b : Addr) (ws hs : List Int), vs = [.ref a, .ref b] ∧ SqL K H a (ws.map V.int) ∧ SqL K H b (hs.map V.int) ∧ ws.length = hs.length ∧ ws.length ≤ 1000 ∧ (∀ j, j < ws.length → Sz 70 (ws.getD j 0)) ∧ (∀ j, j < ws.length → Sz 70 (hs.getD j 0)) ∧ ∀ H', Same H H' → Q (.int (Lw ws hs)) H'
theorem ok_lever {f : Addr} {fd : FuncData} (F : Fun K "lever" "lever" s_lever f fd) (T : Txt K mg) : FnOk P w K mg base CX0 1 f fd ["weights", "heights"] (spLever K) := by
  refine F.ok sc_lever (fun vs H Q E h => ?_) (fun cdv A outer s H vs Q E hr h => ?_)
  · obtain ⟨a, b, ws, hs, rfl, _⟩ := h
    rfl
  · obtain ⟨a, b, ws, hs, rfl, hA, hB, hl, hm, zw, zh, k⟩ := h
    rw [zs_of] at hA hB
    refine ⟨_, (pss_one (ps_ret (pe_callB (call_sum rfl) (by rfl) T.n_sum PyProof.Rows.boot_sum (pa_cons (pe_lc (own := [("k", 2)]) rfl sc_lever.nd (pi_range1 rfl T.n_range (pa_cons (pe_callB (len_k (K := K)) (by rfl) T.n_len PySem.boot_len (pa_cons (pv 0) pa_nil)) pa_nil)) (blk_of (show blkOk ["weights", "heights", "k"] (defScope s_lever) _ [("k", 2)] = true by decide +kernel)) (fun _ _ _ _ _ => pg_name (i := 2) sc_lever.nd rfl (Or.inl rfl)) (fun _ _ _ _ _ => pts_nil) (fun _ _ _ _ _ => (pe_op op_mulG (pe_ix (ix_lk (K := K)) (pv 0) (pv 2) (fun _ _ => rfl)) (pe_ix (ix_lk (K := K)) (pv 1) (pv 2) (fun _ _ => rfl))))) pa_nil)))), ?_⟩
    refine ⟨_, rfl, a, _, rfl, .inl hA, ws.length, (by rw [zs_len]), by omega, by omega, ?_⟩
    intro D hD
    refine lc_rng (fun i H' => Same H H' ∧ IsInts H' D i (fun k => ws.getD k 0 * hs.getD k 0)) ⟨(Same.refl H).new hD, upd_same⟩ ?_ ?_
    · rintro i H' hi ⟨s1, hd⟩
      have hi : i < ws.length := by omega
      rw [Int.zero_add]
      refine ⟨rfl, _, rfl, _, rfl, _, _, _, _, rfl, rfl, s1.seq hA, zs_at (fun k => ws.getD k 0) (k := i) rfl hi, _, rfl, _, rfl, _, _, _, _, rfl, rfl, s1.seq hB, zs_at (fun k => hs.getD k 0) (k := i) rfl (by omega), _, _, rfl, rfl, Sz.mulOk (zw i hi) (zh i hi) (by omega), ?_⟩
      refine ⟨_, hd, by rw [zs_len]; exact small1000 (by omega), s1.put hD, ?_⟩
      show upd H' D _ D = _
      rw [upd_same, ← zs_snoc]
    · rintro H1 ⟨s1, hd⟩
      refine ⟨D, (List.range ws.length).map fun k => ws.getD k 0 * hs.getD k 0, rfl, ?_, k H1 s1⟩
      rw [← zs_ints]
      exact hd.sq
abbrev s_are_loads : Stmt := top 32
theorem sc_are_loads : FnScope ["weights", "heights"] ["weights", "heights"] (defScope s_are_loads) := ⟨rfl, rfl, rfl, by decide +kernel, rfl, by decide +kernel, by decide +kernel⟩
def spLoads (K : PySem.W.Frag) : Sp := fun vs H Q E => ∃ (a b : Addr) (ws hs : List Int), vs = [.ref a, .ref b] ∧ SqL K H a (ws.map V.int) ∧ SqL K H b (hs.map V.int) ∧ ws.length ≤ 100000 ∧ hs.length ≤ 100000 ∧ ∀ (H' : Hp) (c : Bool), Same H H' → (c = true ↔ Loads ws hs) → Q (.bl c) H'
theorem wth_all {l : List Int} {lo hi : Int} : l.all (wth lo hi) = true ↔ ∀ z ∈ l, lo ≤ z ∧ z ≤ hi := by
  rw [List.all_eq_true]
  refine ⟨fun h z hz => ?_, fun h z hz => ?_⟩
  · have := h z hz
    unfold wth at this
    rw [Bool.and_eq_true, decide_eq_true_eq, decide_eq_true_eq] at this
    exact this
  · have := h z hz
    unfold wth
    rw [Bool.and_eq_true, decide_eq_true_eq, decide_eq_true_eq]
    exact this
theorem ok_loads {f : Addr} {fd : FuncData} (F : Fun K "are_loads" "are_loads" s_are_loads f fd) (T : Txt K mg) (G_all_within : Has P w K mg base 1 "all_within" ["row", "least", "greatest"] (spWithin K)) : FnOk P w K mg base CX0 2 f fd ["weights", "heights"] (spLoads K) := by
  refine F.ok sc_are_loads (fun vs H Q E h => ?_) (fun cdv A outer s H vs Q E hr h => ?_)
  · obtain ⟨a, b, ws, hs, rfl, _⟩ := h
    rfl
  · obtain ⟨a, b, ws, hs, rfl, hA, hB, hl, hm, k⟩ := h
    refine ⟨_, (pss_cons (ps_if (PW.pt (pw_or (pt_cmpR op_ne (pe_callB (len_k (K := K)) (by rfl) T.n_len PySem.boot_len (pa_cons (pv 0) pa_nil)) (pe_callB (len_k (K := K)) (by rfl) T.n_len PySem.boot_len (pa_cons (pv 1) pa_nil)) (nomark _)) (pw_or1 (pt_cmpR op_gt (pe_callB (len_k (K := K)) (by rfl) T.n_len PySem.boot_len (pa_cons (pv 0) pa_nil)) (pe_glob rfl T.v_MOST_LOADS.1 T.v_MOST_LOADS.2) (nomark _))))) (pss_one (ps_ret pe_bl)) pss_nil)
        (pss_one (ps_ret (pe_and (pe_has G_all_within (hr.mono (by decide)) (pa_cons (pv 0) (pa_cons pe_int (pa_cons (pe_glob rfl T.v_GREATEST_WEIGHT.1 T.v_GREATEST_WEIGHT.2) pa_nil)))) (pe_one (pe_has G_all_within (hr.mono (by decide)) (pa_cons (pv 1) (pa_cons (pe_un un_neg (pe_glob rfl T.v_GREATEST_MEASURE.1 T.v_GREATEST_MEASURE.2)) (pa_cons (pe_glob rfl T.v_GREATEST_MEASURE.1 T.v_GREATEST_MEASURE.2) pa_nil))))))))), ?_⟩
    refine or_read (!decide (V.int ((ws.map V.int).length : Int) = V.int ((hs.map V.int).length : Int))) (decide (256 < ((ws.map V.int).length : Int))) (fun Q' q' => ⟨_, rfl, a, _, rfl, .inl hA, _, rfl, b, _, rfl, .inl hB, rfl, _, rfl, q'⟩) (fun _ Q' q' => ⟨_, rfl, a, _, rfl, .inl hA, _, _, rfl, rfl, _, rfl, q'⟩) ?_
    rw [List.length_map, List.length_map]
    by_cases c1 : ws.length = hs.length ∧ ws.length ≤ 256
    · have e : (!decide (V.int (ws.length : Int) = V.int (hs.length : Int)) || decide (256 < (ws.length : Int))) = false := by
        rw [Bool.or_eq_false_iff, decide_eq_false_iff_not]
        refine ⟨?_, by omega⟩
        rw [c1.1, decide_eq_true rfl]
        rfl
      rw [e]
      refine iteF ⟨_, rfl, a, ws, 0, _, rfl, hA, hl, fun H1 s1 => ⟨_, rfl, ?_⟩⟩
      cases e1 : ws.all (wth 0 18446744073709551615) with
      | false =>
        refine iteF (k H1 false s1 ⟨fun q => (by cases q), fun L => ?_⟩)
        rw [wth_all.mpr L.w] at e1
        cases e1
      | true =>
        refine iteT ⟨_, rfl, _, rfl, b, hs, _, _, rfl, s1.seq hB, hm, fun H2 s2 => k H2 _ (s1.trans s2) ⟨fun q => ?_, fun L => ?_⟩⟩
        · exact ⟨c1.1, c1.2, wth_all.mp e1, wth_all.mp q⟩
        · exact wth_all.mpr L.h
    · have e : (!decide (V.int (ws.length : Int) = V.int (hs.length : Int)) || decide (256 < (ws.length : Int))) = true := by
        rw [Bool.or_eq_true]
        by_cases q : ws.length = hs.length
        · exact .inr (decide_eq_true (by omega))
        · refine .inl ?_
          rw [decide_eq_false (fun z => by injection z with z; exact q (by exact_mod_cast z))]
          rfl
      rw [e]
      exact iteT (k H false (Same.refl H) ⟨fun q => (by cases q), fun L => absurd ⟨L.len, L.most⟩ c1⟩)
end
end Hf
set_option linter.all false
set_option maxRecDepth 100000
set_option maxHeartbeats 4000000
set_option Elab.async false
namespace Hf
open PySem PySem.Spec PyProof.Rows L2
open PySem.W (Codec)
open Hull
def RecsAt (H : Hp) (p : Addr) (rs : List (Int × Int)) : Prop := ∃ pa : Nat → Addr, H p = some (.lst (refs rs.length pa)) ∧ ∀ k r, rs[k]? = some r → H (pa k) = some (.tup [.int r.1, .int r.2])
theorem RecsAt.same {H H' : Hp} {p : Addr} {rs : List (Int × Int)} (h : RecsAt H p rs) (s : Same H H') : RecsAt H' p rs := by
  obtain ⟨pa, h1, h2⟩ := h
  exact ⟨pa, s _ _ h1, fun k r e => s _ _ (h2 k r e)⟩
def Vi (u y : Nat → Int) (m i : Nat) : Int := Sw (Cf (gp u) y m) 4 u (u 0 + (i : Int)) m
section
variable {P : Program} {w : World} {K : PySem.W.Frag} {mg : Str → Option Value} {base : Heap}
abbrev s_record_volumes : Stmt := top 18
theorem sc_record_volumes : FnScope ["areas", "records", "greatest", "below", "k", "low", "gap", "reach", "volume"] ["areas"] (defScope s_record_volumes) := ⟨rfl, rfl, rfl, by decide +kernel, rfl, by decide +kernel, by decide +kernel⟩
def spRecords (C : Addr) : Sp := fun vs H Q E => ∃ (o z : Addr) (m Y : Nat) (u y : Nat → Int), vs = [.ref o] ∧ H z ≠ none ∧ IsBat C H o m u y ∧ Line u y m Y ∧ u m - u 0 ≤ 2000 ∧
  ∀ (p : Addr) (H' : Hp) (rs : List (Int × Int)) (gr : Int), Same H H' → RecsAt (rm z H') p rs → Rec (Vi u y m) (u 0) (u m - u 0).toNat rs gr → Q (.ref p) H'
theorem ok_records {f C : Addr} {fd : FuncData} (F : Fun K "record_volumes" "record_volumes" s_record_volumes f fd) (T : Txt K mg) (B : TxtB K C) (G_piece_integral : Has P w K mg base 1 "piece_integral" ["piece", "reach"] (spPInt K)) : FnOk P w K mg base CX0 2 f fd ["areas"] (spRecords C) := by
  refine F.ok sc_record_volumes (fun vs H Q E h => ?_) (fun cdv A outer s H vs Q E hr h => ?_)
  · obtain ⟨o, z, m, Y, u, y, rfl, _⟩ := h
    rfl
  · obtain ⟨o, z, m, Y, u, y, rfl, hz, ⟨dx, a, c, pa, hB⟩, L, hd, k⟩ := h
    have hY := L.le
    have n23 := L.gaps.n23
    have G := L.gaps
    refine ⟨_, (pss_cons (ps_set (i := 1) sc_record_volumes.nd rfl (Or.inl rfl) (pe_lst pa_nil))
        (pss_cons (ps_set (i := 2) sc_record_volumes.nd rfl (Or.inl rfl) pe_int)
        (pss_cons (ps_set (i := 3) sc_record_volumes.nd rfl (Or.inl rfl) pe_int)
        (pss_cons (ps_for PassesOwn.never rfl (pi_range1 rfl T.n_range (pa_cons (pe_callB (len_k (K := K)) (by rfl) T.n_len PySem.boot_len (pa_cons (fld_k (K := K) (pv 0) rfl) pa_nil)) pa_nil)) (pg_name (i := 4) sc_record_volumes.nd rfl (Or.inl rfl)) (pss_cons (ps_set (i := 5) sc_record_volumes.nd rfl (Or.inl rfl) (pe_ix (ix_lk (K := K)) (fld_k (K := K) (pv 0) rfl) (pv 4) (fun _ _ => rfl)))
        (pss_cons (ps_set (i := 6) sc_record_volumes.nd rfl (Or.inl rfl) (pe_op op_sub (pe_ix (ix_lk (K := K)) (fld_k (K := K) (pv 0) rfl) (pe_op op_add (pv 4) pe_int) (fun _ _ => rfl)) (pv 5)))
        (pss_cons (ps_for PassesOwn.never rfl (pi_range2 rfl T.n_range (pa_cons pe_int (pa_cons (pe_op op_add (pv 6) pe_int) pa_nil))) (pg_name (i := 7) sc_record_volumes.nd rfl (Or.inl rfl)) (pss_cons (ps_set (i := 8) sc_record_volumes.nd rfl (Or.inl rfl) (pe_op op_add (pv 3) (pe_has G_piece_integral (hr.mono (by decide)) (pa_cons (pe_ix (ix_lk (K := K)) (fld_k (K := K) (pv 0) rfl) (pv 4) (fun _ _ => rfl)) (pa_cons (pv 7) pa_nil)))))
        (pss_one (ps_if (pt_cmpR op_gt (pv 8) (pv 2) (nomark _)) (pss_cons (ps_set (i := 2) sc_record_volumes.nd rfl (Or.inl rfl) (pv 8))
        (pss_one (ps_expr (pe_bm PySem.F.plainAttrs_list PySem.F.slot_list_append PySem.F.type_list_append mt_append (pv 1) (pa_cons (pe_tup (pa_cons (pe_op op_add (pv 5) (pv 7)) (pa_cons (pv 8) pa_nil))) pa_nil))))) pss_nil))))
        (pss_one (ps_aug (i := 3) sc_record_volumes.nd rfl (Or.inl rfl) (pe_has G_piece_integral (hr.mono (by decide)) (pa_cons (pe_ix (ix_lk (K := K)) (fld_k (K := K) (pv 0) rfl) (pv 4) (fun _ _ => rfl)) (pa_cons (pv 6) pa_nil))) ip_add))))))
        (pss_one (ps_ret (pv 1))))))), ?_⟩
    refine ⟨Nat.zero_le _, fun p hp => ?_⟩
    have s0 : Same H (upd H p (.lst [])) := (Same.refl H).new hp
    have pz : p ≠ z := new_ne hp hz
    refine ⟨_, rfl, o, C, dx, _, _, rfl, s0 _ _ hB.ins, B.cl, B.pieces, bfB_pieces _ _ _, c, _, rfl, .inl (SqL.of (s0 _ _ hB.pcs.lst)), m, (by rw [refs_len]), by omega, by omega, ?_⟩
    refine for_range (lo := 0) (n := m) (fun i σ H' => ∃ (rs : List (Int × Int)) (gr : Int) (v4 v5 v6 v7 v8 : Option V), σ = [some (.ref o), some (.ref p), some (.int gr), some (.int (Bl (Cf (gp u) y m) (gp u) i)), v4, v5, v6, v7, v8] ∧ Same H H' ∧ RecsAt (rm z H') p rs ∧ Rec (Vi u y m) (u 0) (u i - u 0).toNat rs gr) ⟨[], 0, none, none, none, none, none, rfl, s0, ⟨fun _ => 0, by rw [rm_ne pz]; exact upd_same, fun k r e => by cases e⟩, ?_⟩ ?_ ?_
    · have e : (u 0 - u 0).toNat = 0 := by omega
      rw [e]
      refine Rec.start ?_
      unfold Vi
      show Sw _ 4 u (u 0 + 0) m = 0
      rw [Int.add_zero]
      exact Sw_first G m (Nat.le_refl _)
    · rintro i σ H' hi ⟨rs, gr, v4, v5, v6, v7, v8, rfl, s1, hR, R⟩
      rw [Int.zero_add]
      have hg : 0 < u (i + 1) - u i := G.pos i hi
      have r0 := rise G (i := 0) (j := i) (by omega) (by omega)
      have r1 := rise G (i := i + 1) (j := m) (by omega) (Nat.le_refl _)
      refine ⟨_, rfl, o, C, dx, _, _, rfl, s1 _ _ hB.ins, B.cl, B.nails, bfB_nails _ _ _, _, rfl, _, _, _, _, rfl, rfl, (s1.zz hB.nails).sq, zs_at u (k := i) rfl (by omega), ?_⟩
      refine ⟨_, rfl, o, C, dx, _, _, rfl, s1 _ _ hB.ins, B.cl, B.nails, bfB_nails _ _ _, _, rfl, _, _, rfl, rfl, _, _, _, _, rfl, rfl, (s1.zz hB.nails).sq, zs_at u (k := i + 1) (by omega) (by omega), _, rfl, _, _, rfl, rfl, ?_⟩
      refine ⟨_, rfl, _, _, rfl, rfl, 1, u (i + 1) - u i + 1, rfl, ⟨by omega, by omega, by omega, by omega⟩, ?_⟩
      obtain ⟨gn, hgn⟩ : ∃ gn : Nat, u (i + 1) - u i = (gn : Int) := ⟨(u (i + 1) - u i).toNat, by omega⟩
      have e : (u (i + 1) - u i + 1 - 1).toNat = gn := by omega
      rw [e]
      refine for_range (lo := 1) (n := gn) (fun j σ H' => ∃ (rs : List (Int × Int)) (gr : Int) (v7 v8 : Option V), σ = [some (.ref o), some (.ref p), some (.int gr), some (.int (Bl (Cf (gp u) y m) (gp u) i)), some (.int (i : Int)), some (.int (u i)), some (.int (u (i + 1) - u i)), v7, v8] ∧ Same H H' ∧ RecsAt (rm z H') p rs ∧ Rec (Vi u y m) (u 0) ((u i - u 0).toNat + j) rs gr) ⟨rs, gr, v7, v8, rfl, s1, hR, R⟩ ?_ ?_
      · rintro j σ H2 hj ⟨rs, gr, v7, v8, rfl, s2, hR, R⟩
        have hv : Bl (Cf (gp u) y m) (gp u) i + Pi (Cf (gp u) y m i) (1 + (j : Int)) 4 = Vi u y m ((u i - u 0).toNat + j + 1) := by
          unfold Vi
          have ez : u 0 + (((u i - u 0).toNat + j + 1 : Nat) : Int) = u i + (1 + (j : Int)) := by omega
          rw [ez, Sw_in G hi (z := u i + (1 + (j : Int))) (by omega) (by omega) m hi (Nat.le_refl _)]
          congr 2
          omega
        refine ⟨_, rfl, _, rfl, o, C, dx, _, _, rfl, s2 _ _ hB.ins, B.cl, B.pieces, bfB_pieces _ _ _, _, rfl, _, _, _, _, rfl, rfl, SqL.of (s2 _ _ hB.pcs.lst), refs_at pa (k := i) rfl hi, _, rfl, ?_⟩
        refine ⟨pa i, 4, Y + 1549, Cf (gp u) y m i, 1 + (j : Int), rfl, (s2.zz (hB.pcs.at_ i hi)).sq, by decide, fun t _ => L.cf hi, by omega, ?_, _, _, rfl, rfl, ?_⟩
        · exact (Sz.of (n := 20) (by omega) (by omega)).mono (by decide)
        dsimp only
        rw [hv]
        refine ⟨_, rfl, _, rfl, _, _, rfl, rfl, _, rfl, ?_⟩
        by_cases hgr : gr < Vi u y m ((u i - u 0).toNat + j + 1)
        · rw [decide_eq_true hgr]
          have R' := R.up hgr
          have hlen := R'.len
          have hl2 : rs.length ≤ 2100 := by
            have := R.len
            omega
          refine iteT ⟨_, rfl, ?_⟩
          obtain ⟨qa, hq1', hq2⟩ := hR
          have hq1 := (rm_some hq1').2
          refine ⟨_, rfl, .inl ⟨rfl, _, SqL.of hq1⟩, _, rfl, _, rfl, _, _, rfl, rfl, _, rfl, (by show 2 ≤ sizeLine; decide), fun t ht => ?_⟩
          have s3 : Same H2 (upd H2 t (.tup [.int (u i + (1 + (j : Int))), .int (Vi u y m ((u i - u 0).toNat + j + 1))])) := (Same.refl H2).new ht
          have tp : t ≠ p := fun q => by rw [q, hq1] at ht; cases ht
          refine ⟨p, _, _, rfl, rfl, s3 _ _ hq1, ?_, ?_⟩
          · rw [refs_len]
            exact Nat.lt_of_le_of_lt hl2 (by decide)
          refine ⟨_, _, _, _, rfl, (s2.trans s3).put hp, ?_, R'⟩
          refine ⟨fun x => if x = rs.length then t else qa x, ?_, fun x r hx => ?_⟩
          · rw [rm_ne pz, upd_same, refs_snoc, List.length_append]
            rfl
          · have hx' : x < rs.length + 1 := by
              have := (List.getElem?_eq_some_iff.mp hx).1
              rwa [List.length_append] at this
            by_cases ex : x = rs.length
            · subst ex
              rw [List.getElem?_append_right (Nat.le_refl _), Nat.sub_self] at hx
              have er := Option.some.inj hx
              show rm z (upd _ p _) (if rs.length = rs.length then t else _) = _
              rw [if_pos rfl, rm_ne (new_ne ht (s2.held hz)), upd_ne tp, upd_same, ← er]
              have ez : u 0 + (((u i - u 0).toNat + j + 1 : Nat) : Int) = u i + (1 + (j : Int)) := by omega
              rw [ez]
            · rw [List.getElem?_append_left (by omega)] at hx
              obtain ⟨h2z, h2⟩ := rm_some (hq2 x r hx)
              show rm z (upd _ p _) (if x = rs.length then t else qa x) = _
              rw [if_neg ex, rm_ne h2z, upd_ne (fun q => by rw [q, hq1] at h2; cases h2)]
              exact s3 _ _ h2
        · rw [decide_eq_false hgr]
          exact iteF ⟨_, _, _, _, rfl, s2, hR, R.skip (by omega)⟩
      · rintro σ H2 ⟨rs, gr, v7, v8, rfl, s2, hR, R⟩
        refine ⟨_, rfl, _, rfl, o, C, dx, _, _, rfl, s2 _ _ hB.ins, B.cl, B.pieces, bfB_pieces _ _ _, _, rfl, _, _, _, _, rfl, rfl, SqL.of (s2 _ _ hB.pcs.lst), refs_at pa (k := i) rfl hi, _, rfl, ?_⟩
        refine ⟨pa i, 4, Y + 1549, Cf (gp u) y m i, u (i + 1) - u i, rfl, (s2.zz (hB.pcs.at_ i hi)).sq, by decide, fun t _ => L.cf hi, by omega, (G.sz i hi).mono (by decide), _, _, rfl, rfl, ?_⟩
        refine ⟨rs, gr, _, _, _, _, _, rfl, s2, hR, ?_⟩
        have e2 : (u i - u 0).toNat + gn = (u (i + 1) - u 0).toNat := by omega
        rw [← e2]
        exact R
    · rintro σ H' ⟨rs, gr, v4, v5, v6, v7, v8, rfl, s1, hR, R⟩
      exact ⟨_, rfl, k p H' rs gr s1 hR R⟩
abbrev s_least_height : Stmt := top 19
theorem sc_least_height : FnScope ["records", "goal", "start", "end", "middle"] ["records", "goal"] (defScope s_least_height) := ⟨rfl, rfl, rfl, by decide +kernel, rfl, by decide +kernel, by decide +kernel⟩
def asZ : Option Int → V
  | some z => .int z
  | none => .non
def spLeast (K : PySem.W.Frag) : Sp := fun vs H Q E => ∃ (p : Addr) (goal : Int) (V : Nat → Int) (c : Int) (t : Nat) (rs : List (Int × Int)) (gr : Int), vs = [.ref p, .int goal] ∧ RecsAt H p rs ∧ Rec V c t rs gr ∧ t ≤ 5000 ∧ Q (asZ ((rs.find? fun r => decide (goal ≤ r.2)).map (·.1))) H
theorem ok_least {f : Addr} {fd : FuncData} (F : Fun K "least_height" "least_height" s_least_height f fd) (T : Txt K mg) : FnOk P w K mg base CX0 1 f fd ["records", "goal"] (spLeast K) := by
  refine F.ok sc_least_height (fun vs H Q E h => ?_) (fun cdv A outer s H vs Q E hr h => ?_)
  · obtain ⟨p, goal, V, c, t, rs, gr, rfl, _⟩ := h
    rfl
  · obtain ⟨p, goal, V, c, t, rs, gr, rfl, ⟨pa, h1, h2⟩, R, ht, k⟩ := h
    have hlen := R.len
    refine ⟨_, (pss_cons (ps_set (i := 2) sc_least_height.nd rfl (Or.inl rfl) pe_int)
        (pss_cons (ps_set (i := 3) sc_least_height.nd rfl (Or.inl rfl) (pe_callB (len_k (K := K)) (by rfl) T.n_len PySem.boot_len (pa_cons (pv 0) pa_nil)))
        (pss_cons (ps_while PassesOwn.never (pt_cmpR op_lt (pv 2) (pv 3) (nomark _)) (pss_cons (ps_set (i := 4) sc_least_height.nd rfl (Or.inl rfl) (pe_op op_fdivG (pe_op op_add (pv 2) (pv 3)) pe_int))
        (pss_one (ps_if (pt_cmpR op_ge (pe_ix (ix_tk (K := K)) (pe_ix (ix_lk (K := K)) (pv 0) (pv 4) (fun _ _ => rfl)) pe_int (fun _ _ => rfl)) (pv 1) (nomark _)) (pss_one (ps_set (i := 3) sc_least_height.nd rfl (Or.inl rfl) (pv 4))) (pss_one (ps_set (i := 2) sc_least_height.nd rfl (Or.inl rfl) (pe_op op_add (pv 4) pe_int)))))))
        (pss_cons (ps_if (pt_cmpR op_eq (pv 2) (pe_callB (len_k (K := K)) (by rfl) T.n_len PySem.boot_len (pa_cons (pv 0) pa_nil)) (nomark _)) (pss_one (ps_ret pe_non)) pss_nil)
        (pss_one (ps_ret (pe_ix (ix_tk (K := K)) (pe_ix (ix_lk (K := K)) (pv 0) (pv 2) (fun _ _ => rfl)) pe_int (fun _ _ => rfl)))))))), ?_⟩
    refine ⟨_, rfl, p, _, rfl, .inl (SqL.of h1), ?_⟩
    rw [refs_len]
    show tWhile _ _ _ _ _
    refine ⟨fun M σ H' => H' = H ∧ ∃ (a b : Nat) (v : Option L2.V), σ = [some (.ref p), some (.int goal), some (.int (a : Int)), some (.int (b : Int)), v] ∧ a ≤ b ∧ b ≤ rs.length ∧ (∀ i r, rs[i]? = some r → i < a → r.2 < goal) ∧ (∀ i r, rs[i]? = some r → b ≤ i → goal ≤ r.2) ∧ M = b - a, ⟨_, rfl, 0, rs.length, none, rfl, by omega, by omega, fun i r _ h => by omega, fun i r hi h => ?_, rfl⟩, ?_⟩
    · have := (List.getElem?_eq_some_iff.mp hi).1
      omega
    rintro M σ H' ⟨rfl, a, b, v, rfl, hab, hb, ha1, hb1, rfl⟩
    refine ⟨_, rfl, _, rfl, _, _, rfl, rfl, _, rfl, ?_⟩
    by_cases hlt : a < b
    · rw [decide_eq_true (by omega)]
      refine iteT ⟨_, fun _ _ q => q, ?_⟩
      obtain ⟨mid, hmid⟩ : ∃ mid : Nat, mid = (a + b) / 2 := ⟨_, rfl⟩
      have em : ((a : Int) + (b : Int)) / 2 = (mid : Int) := by omega
      have hmb : mid < rs.length := by omega
      refine ⟨_, rfl, _, rfl, _, _, rfl, rfl, (a : Int) + (b : Int), 2, rfl, rfl, .sm (by decide) (Sz.two.mono (by decide)), ?_⟩
      dsimp only
      rw [em]
      have hr := h2 mid rs[mid] (List.getElem?_eq_getElem hmb)
      refine ⟨_, rfl, _, rfl, _, _, _, _, rfl, rfl, SqL.of h1, refs_at pa (k := mid) rfl hmb, _, _, _, _, rfl, rfl, SqT.of hr, at_of (j := 1) rfl rfl, _, rfl, _, _, rfl, rfl, _, rfl, ?_⟩
      by_cases hg : goal ≤ rs[mid].2
      · rw [decide_eq_true hg]
        refine iteT ⟨_, rfl, mid - a, by omega, rfl, a, mid, _, rfl, by omega, by omega, ha1, fun i r hi h => ?_, rfl⟩
        have := R.mono (List.getElem?_eq_getElem hmb) hi h
        omega
      · rw [decide_eq_false hg]
        refine iteF ⟨_, rfl, _, _, rfl, rfl, b - (mid + 1), by omega, rfl, mid + 1, b, _, rfl, by omega, hb, fun i r hi h => ?_, hb1, rfl⟩
        have := R.mono hi (List.getElem?_eq_getElem hmb) (by omega)
        omega
    · rw [decide_eq_false (by omega)]
      refine iteF ?_
      have e : a = b := by omega
      subst e
      have hf : rs.find? (fun r => decide (goal ≤ r.2)) = rs[a]? := find_at rs a (fun i r hi h => decide_eq_false (by have := ha1 i r hi h; omega)) fun r hi => decide_eq_true (hb1 a r hi (Nat.le_refl _))
      rw [hf] at k
      refine ⟨_, rfl, _, rfl, p, _, rfl, .inl (SqL.of h1), rfl, _, rfl, ?_⟩
      rw [refs_len]
      by_cases hend : a = rs.length
      · rw [decide_eq_true (by rw [hend])]
        refine iteT ?_
        rw [List.getElem?_eq_none (by omega)] at k
        exact k
      · rw [decide_eq_false (fun z => by injection z with z; omega)]
        have ha : a < rs.length := by omega
        have hr := h2 a rs[a] (List.getElem?_eq_getElem ha)
        rw [List.getElem?_eq_getElem ha] at k
        exact iteF ⟨_, rfl, _, rfl, _, _, _, _, rfl, rfl, SqL.of h1, refs_at pa (k := a) rfl ha, _, _, _, _, rfl, rfl, SqT.of hr, at_of (j := 0) rfl rfl, k⟩
end
end Hf
set_option linter.all false
set_option maxRecDepth 100000
set_option maxHeartbeats 4000000
set_option Elab.async false
namespace Hf
open PySem PySem.Spec PyProof.Rows L2
open PySem.W (Codec)
open Hull
def bfH (sh : Int) (pl : Addr) (lo hi : Int) (ar le st : Addr) (rv : V) : List (Str × V) := putF "records" (rv) (putF "stations" (.ref st) (putF "levers" (.ref le) (putF "areas" (.ref ar) (putF "highest" (.int hi) (putF "lowest" (.int lo) (putF "places" (.ref pl) (putF "share" (.int sh) [])))))))
theorem bfH_share (sh : Int) (pl : Addr) (lo hi : Int) (ar le st : Addr) (rv : V) : (bfH sh pl lo hi ar le st rv).lookup ("share" : Str) = some (.int sh) := by
  unfold bfH
  rw [lookup_putF, if_neg (by decide +kernel), lookup_putF, if_neg (by decide +kernel), lookup_putF, if_neg (by decide +kernel), lookup_putF, if_neg (by decide +kernel), lookup_putF, if_neg (by decide +kernel), lookup_putF, if_neg (by decide +kernel), lookup_putF, if_neg (by decide +kernel), lookup_putF, if_pos rfl]
theorem bfH_places (sh : Int) (pl : Addr) (lo hi : Int) (ar le st : Addr) (rv : V) : (bfH sh pl lo hi ar le st rv).lookup ("places" : Str) = some (.ref pl) := by
  unfold bfH
  rw [lookup_putF, if_neg (by decide +kernel), lookup_putF, if_neg (by decide +kernel), lookup_putF, if_neg (by decide +kernel), lookup_putF, if_neg (by decide +kernel), lookup_putF, if_neg (by decide +kernel), lookup_putF, if_neg (by decide +kernel), lookup_putF, if_pos rfl]
theorem bfH_lowest (sh : Int) (pl : Addr) (lo hi : Int) (ar le st : Addr) (rv : V) : (bfH sh pl lo hi ar le st rv).lookup ("lowest" : Str) = some (.int lo) := by
  unfold bfH
  rw [lookup_putF, if_neg (by decide +kernel), lookup_putF, if_neg (by decide +kernel), lookup_putF, if_neg (by decide +kernel), lookup_putF, if_neg (by decide +kernel), lookup_putF, if_neg (by decide +kernel), lookup_putF, if_pos rfl]
theorem bfH_highest (sh : Int) (pl : Addr) (lo hi : Int) (ar le st : Addr) (rv : V) : (bfH sh pl lo hi ar le st rv).lookup ("highest" : Str) = some (.int hi) := by
  unfold bfH
  rw [lookup_putF, if_neg (by decide +kernel), lookup_putF, if_neg (by decide +kernel), lookup_putF, if_neg (by decide +kernel), lookup_putF, if_neg (by decide +kernel), lookup_putF, if_pos rfl]
theorem bfH_areas (sh : Int) (pl : Addr) (lo hi : Int) (ar le st : Addr) (rv : V) : (bfH sh pl lo hi ar le st rv).lookup ("areas" : Str) = some (.ref ar) := by
  unfold bfH
  rw [lookup_putF, if_neg (by decide +kernel), lookup_putF, if_neg (by decide +kernel), lookup_putF, if_neg (by decide +kernel), lookup_putF, if_pos rfl]
theorem bfH_levers (sh : Int) (pl : Addr) (lo hi : Int) (ar le st : Addr) (rv : V) : (bfH sh pl lo hi ar le st rv).lookup ("levers" : Str) = some (.ref le) := by
  unfold bfH
  rw [lookup_putF, if_neg (by decide +kernel), lookup_putF, if_neg (by decide +kernel), lookup_putF, if_pos rfl]
theorem bfH_stations (sh : Int) (pl : Addr) (lo hi : Int) (ar le st : Addr) (rv : V) : (bfH sh pl lo hi ar le st rv).lookup ("stations" : Str) = some (.ref st) := by
  unfold bfH
  rw [lookup_putF, if_neg (by decide +kernel), lookup_putF, if_pos rfl]
theorem bfH_records (sh : Int) (pl : Addr) (lo hi : Int) (ar le st : Addr) (rv : V) : (bfH sh pl lo hi ar le st rv).lookup ("records" : Str) = some (rv) := by
  unfold bfH
  rw [lookup_putF, if_pos rfl]
theorem bfH_no (sh : Int) (pl : Addr) (lo hi : Int) (ar le st : Addr) (rv : V) {m : Str} (h : ¬ m ∈ (["share", "places", "lowest", "highest", "areas", "levers", "stations", "records"] : List Str)) : (bfH sh pl lo hi ar le st rv).lookup m = none := by
  simp only [List.mem_cons, not_or] at h
  obtain ⟨h0, h1, h2, h3, h4, h5, h6, h7, _⟩ := h
  unfold bfH
  rw [lookup_putF, if_neg h7, lookup_putF, if_neg h6, lookup_putF, if_neg h5, lookup_putF, if_neg h4, lookup_putF, if_neg h3, lookup_putF, if_neg h2, lookup_putF, if_neg h1, lookup_putF, if_neg h0]
  rfl
theorem putF_twice (f : Str) (v w : V) : ∀ l : List (Str × V), putF f v (putF f w l) = putF f v l
  | [] => by
    show (if f = f then _ else _) = _
    rw [if_pos rfl]
    rfl
  | (g, x) :: r => by
    by_cases h : g = f
    · have e1 : putF f w ((g, x) :: r) = (g, w) :: r := if_pos h
      have e2 : putF f v ((g, x) :: r) = (g, v) :: r := if_pos h
      rw [e1, e2]
      exact if_pos h
    · have e1 : putF f w ((g, x) :: r) = (g, x) :: putF f w r := if_neg h
      have e2 : putF f v ((g, x) :: r) = (g, x) :: putF f v r := if_neg h
      rw [e1, e2, ← putF_twice f v w r]
      exact if_neg h
theorem bfH_put (sh : Int) (pl : Addr) (lo hi : Int) (ar le st : Addr) (rv : V) (v : V) : putF "records" v (bfH sh pl lo hi ar le st rv) = bfH sh pl lo hi ar le st v := putF_twice ..
structure TxtH (K : PySem.W.Frag) (C : Addr) : Prop where
  cl : Cls K C
  share : NoAttr K C "share"
  places : NoAttr K C "places"
  lowest : NoAttr K C "lowest"
  highest : NoAttr K C "highest"
  areas : NoAttr K C "areas"
  levers : NoAttr K C "levers"
  stations : NoAttr K C "stations"
  records : NoAttr K C "records"
theorem But.refl {H : Hp} {o : Addr} : But H o H := fun _ _ h _ => h
theorem But.trans {H H1 H2 : Hp} {o : Addr} (a : But H o H1) (b : But H1 o H2) : But H o H2 := fun c oc h n => b _ _ (a _ _ h n) n
theorem But.of {H H1 : Hp} {o : Addr} (a : Same H H1) : But H o H1 := fun c oc h _ => a _ _ h
theorem But.upd {H : Hp} {o : Addr} {x : HO} : But H o (upd H o x) := fun c oc h n => by
  rw [upd_ne n]
  exact h
section
variable {H H' : Hp} {o C dx b : Addr} {fs : List (Str × V)}
theorem But.lst (s : But H o H') (hO : H o = some (.ins C dx fs)) {xs : List V} (h : H b = some (.lst xs)) : H' b = some (.lst xs) := s _ _ h fun q => by rw [q, hO] at h; cases h
theorem But.tup (s : But H o H') (hO : H o = some (.ins C dx fs)) {xs : List V} (h : H b = some (.tup xs)) : H' b = some (.tup xs) := s _ _ h fun q => by rw [q, hO] at h; cases h
theorem But.sq (s : But H o H') (hO : H o = some (.ins C dx fs)) {K : PySem.W.Frag} {xs : List V} (h : SqL K H b xs) : SqL K H' b xs := by
  rcases h with (h | ⟨oo, h⟩) | h
  · exact .inl (.inl (s _ _ h fun q => by rw [q, hO] at h; cases h))
  · exact .inl (.inr ⟨oo, s _ _ h fun q => by rw [q, hO] at h; cases h⟩)
  · exact .inr h
theorem But.bat (s : But H o H') (hO : H o = some (.ins C dx fs)) {CB : Addr} (hc : CB ≠ C) {n : Nat} {x y : Nat → Int} (h : IsBat CB H b n x y) : IsBat CB H' b n x y := by
  obtain ⟨d, a, c, pa, h⟩ := h
  refine ⟨d, a, c, pa, s _ _ h.ins fun q => ?_, s.lst hO h.nails, s.lst hO h.pcs.lst, fun k hk => s.lst hO (h.pcs.at_ k hk)⟩
  have h1 := h.ins
  rw [q, hO] at h1
  injection h1 with h1
  injection h1 with h1
  exact hc h1.symm
theorem But.recs (s : But H o H') (hO : H o = some (.ins C dx fs)) {rs : List (Int × Int)} (h : RecsAt H b rs) : RecsAt H' b rs := by
  obtain ⟨pa, h1, h2⟩ := h
  exact ⟨pa, s.lst hO h1, fun k r e => s.tup hO (h2 k r e)⟩
end
structure HullAt (C CB : Addr) (H : Hp) (o : Addr) (n m : Nat) (x u : Nat → Int) (v : Nat → Nat → Int) (dx pl ar le st : Addr) (sa : Nat → Addr) (rv : V) : Prop where
  ins : H o = some (.ins C dx (bfH (Sh x n) pl (u 0) (u m) ar le st rv))
  pls : IsInts H pl (n + 1) x
  ars : IsBat CB H ar m u (Ar x v n)
  les : IsBat CB H le m u (Lr x v n)
  sts : H st = some (.lst (refs (n + 1) sa))
  sta : ∀ j, j < n + 1 → IsBat CB H (sa j) m u (fun i => v i j)
  recs : rv = .non ∨ ∃ p rs gr, rv = .ref p ∧ RecsAt H p rs ∧ Rec (Vi u (Ar x v n) m) (u 0) (u m - u 0).toNat rs gr
def IsHull (C CB : Addr) (H : Hp) (o : Addr) (n m : Nat) (x u : Nat → Int) (v : Nat → Nat → Int) : Prop := ∃ dx pl ar le st sa rv, HullAt C CB H o n m x u v dx pl ar le st sa rv
theorem HullAt.same {C CB : Addr} {H H' : Hp} {o : Addr} {n m : Nat} {x u : Nat → Int} {v : Nat → Nat → Int} {dx pl ar le st : Addr} {sa : Nat → Addr} {rv : V} (h : HullAt C CB H o n m x u v dx pl ar le st sa rv) (s : Same H H') : HullAt C CB H' o n m x u v dx pl ar le st sa rv :=
  ⟨s _ _ h.ins, s.zz h.pls, h.ars.same s, h.les.same s, s _ _ h.sts, fun j hj => (h.sta j hj).same s, h.recs.imp id fun ⟨p, rs, gr, e, h1, h2⟩ => ⟨p, rs, gr, e, h1.same s, h2⟩⟩
theorem IsHull.same {C CB : Addr} {H H' : Hp} {o : Addr} {n m : Nat} {x u : Nat → Int} {v : Nat → Nat → Int} (h : IsHull C CB H o n m x u v) (s : Same H H') : IsHull C CB H' o n m x u v := by
  obtain ⟨dx, pl, ar, le, st, sa, rv, h⟩ := h
  exact ⟨dx, pl, ar, le, st, sa, rv, h.same s⟩
structure Nums (n m : Nat) (x u : Nat → Int) (v : Nat → Nat → Int) : Prop where
  lx : ∀ k, k ≤ m → Line x (v k) n 21
  lu : Line u (Ar x v n) m 1723
  ll : Line u (Lr x v n) m 1745
  ls : ∀ j, j ≤ n → Line u (fun i => v i j) m 21
theorem nums_of {a b c : Nat} {f g h : Nat → Int} (G : Good a b c f g h) : Nums (a - 1) (b - 1) f g (fun k j => h (k * a + j)) := by
  have a2 := G.a2
  have b2 := G.b2
  have lx : ∀ k, k ≤ b - 1 → Line f (fun j => h (k * a + j)) (a - 1) 21 := fun k hk => by
    refine ⟨G.gx, fun j hj => ?_, fun j hj => ?_, by decide⟩
    · have := G.fx j (by omega)
      exact Sz.of (by omega) (by omega)
    · have hl : k * a + j < c := by
        rw [G.ce]
        have : (k + 1) * a ≤ b * a := Nat.mul_le_mul_right _ (by omega)
        rw [Nat.mul_comm a b]
        rw [Nat.add_mul] at this
        omega
      have := G.hy _ hl
      exact Sz.of (by omega) (by omega)
  have us : ∀ j, j ≤ b - 1 → Sz 21 (g j) := fun j hj => by
    have := G.gz j (by omega)
    exact Sz.of (by omega) (by omega)
  have n23 := G.gx.n23
  refine ⟨lx, ⟨G.gu, us, fun k hk => ?_, by decide⟩, ⟨G.gu, us, fun k hk => ?_, by decide⟩, fun j hj => ⟨G.gu, us, fun i hi => (lx i hi).ys j hj, by decide⟩⟩
  · have L := lx k hk
    have z := Sw_sz (A := 1570) (m := 4) (n := a - 1) (a := f) (x := f (a - 1)) (fun i j hi _ => L.cf (j := j) hi) (by decide) (fun i hi _ => L.reach (L.xs _ (Nat.le_refl _)) hi) (a - 1) (Nat.le_refl _)
    exact Sz.two.mul' z (by omega)
  · have L := lx k hk
    have z := Sw_sz (A := 1592) (m := 5) (n := a - 1) (a := f) (x := f (a - 1)) (q := fun j => Lv (Cf (gp f) (fun j => h (k * a + j)) (a - 1) j) 4 (f j)) (fun i j hi hj => Lv_sz (A := 1570) (by decide) (fun t _ => L.cf (j := t) hi) (L.xs i (by omega)) j hj) (by decide) (fun i hi _ => L.reach (L.xs _ (Nat.le_refl _)) hi) (a - 1) (Nat.le_refl _)
    exact Sz.two.mul' z (by omega)
section
variable {n m : Nat} {x u : Nat → Int} {v : Nat → Nat → Int}
theorem Nums.gx (N : Nums n m x u v) : Gaps (gp x) n := (N.lx 0 (Nat.zero_le _)).gaps
theorem Nums.gu (N : Nums n m x u v) : Gaps (gp u) m := N.lu.gaps
theorem Nums.sh (N : Nums n m x u v) : Sz 1531 (Sh x n) := Sz.parts.mul' N.gx.sc (by decide)
theorem Nums.wh (N : Nums n m x u v) : Sz 3050 (Wh x u n m) := N.gu.sc.mul' N.sh (by decide)
theorem Nums.un (N : Nums n m x u v) : Sz 3062 (Un x u n m) := (Sz.parts.mul N.gu.sc).mul' N.sh (by decide)
theorem Nums.wh0 (N : Nums n m x u v) : 0 < Wh x u n m := Int.mul_pos N.gu.sc0 (Int.mul_pos (by decide) N.gx.sc0)
theorem Nums.un0 (N : Nums n m x u v) : 0 < Un x u n m := Int.mul_pos (Int.mul_pos (by decide) N.gu.sc0) (Int.mul_pos (by decide) N.gx.sc0)
theorem Nums.vo (N : Nums n m x u v) {z : Int} (hz : Sz 21 z) : Sz 3423 (Vo x u v n m z) := (Sw_sz (A := 3272) (m := 4) (n := m) (fun i j hi _ => N.lu.cf (j := j) hi) (by decide) (fun i hi _ => N.lu.reach hz hi) m (Nat.le_refl _)).mono (by have := N.gu.n23; omega)
theorem Nums.lo (N : Nums n m x u v) {z : Int} (hz : Sz 21 z) : Sz 3445 (Lo x u v n m z) := (Sw_sz (A := 3294) (m := 4) (n := m) (fun i j hi _ => N.ll.cf (j := j) hi) (by decide) (fun i hi _ => N.ll.reach hz hi) m (Nat.le_refl _)).mono (by have := N.gu.n23; omega)
theorem Nums.mo (N : Nums n m x u v) {z : Int} (hz : Sz 21 z) : Sz 3445 (Mo x u v n m z) := (Sw_sz (A := 3294) (m := 5) (n := m) (q := fun k => Lv (Cf (gp u) (Ar x v n) m k) 4 (u k)) (fun i j hi hj => Lv_sz (A := 3272) (by decide) (fun t _ => N.lu.cf (j := t) hi) (N.lu.xs i (by omega)) j hj) (by decide) (fun i hi _ => N.lu.reach hz hi) m (Nat.le_refl _)).mono (by have := N.gu.n23; omega)
theorem Nums.hb (N : Nums n m x u v) {z : Int} (hz : Sz 21 z) {k j : Nat} (hk : k < m) (hj : j ≤ n) : Sz 1662 (Hb u v m k z j) := (Hr_sz (A := 1570) (m := 4) (fun t _ => (N.ls j hj).cf (j := t) hk) (hz.sub (N.lu.xs k (by omega))) 4 (Nat.le_refl _)).mono (by decide)
theorem Nums.line (N : Nums n m x u v) {z : Int} (hz : Sz 21 z) {k : Nat} (hk : k < m) : Line x (Ly u v n m k z) n 1662 := ⟨N.gx, (N.lx 0 (Nat.zero_le _)).xs, fun j hj => Sz.div (N.hb hz hk hj), by decide⟩
theorem Nums.dv0 (N : Nums n m x u v) (k : Nat) (z : Int) : 0 < Dv u v n m k z := Gs_pos N.gu.sc0 _
theorem Nums.ls0 (N : Nums n m x u v) (k : Nat) (z : Int) : 0 < Ls u v n m k z := Int.ediv_pos_of_pos_of_dvd N.gu.sc0 (by have := N.dv0 k z; omega) (Gs_scale _ _ _)
theorem Sz.cube {A : Nat} {z : Int} (h : Sz A z) : Sz (3 * A) (z ^ 3) := by
  have e : z ^ 3 = z * z * z := by
    rw [Int.pow_succ, Int.pow_succ, Int.pow_succ, Int.pow_zero, Int.one_mul]
  rw [e]
  exact (h.mul h).mul' h (by omega)
theorem Nums.s1 (N : Nums n m x u v) (k : Nat) (z : Int) : Sz 9128 (S1 x u v n m k z) := (Sz.three.mul Sz.parts).mul' (Sz.cube (N.gx.sc.mul (Sz.div N.gu.sc))) (by decide)
theorem Nums.cu (N : Nums n m x u v) {z : Int} (hz : Sz 21 z) {k : Nat} (hk : k < m) : Sz 9898 (Cu (Cf (gp x) (Ly u v n m k z) n) (gp x) n) := (Cu_sz (A := 3211) (fun i j hi => (N.line hz hk).cf (j := j) hi) (fun i hi => N.gx.sz i hi)).mono (by have := N.gx.n23; omega)
theorem Nums.s0 (N : Nums n m x u v) {z : Int} (hz : Sz 21 z) {k : Nat} (hk : k < m) : Sz 9900 (S0 x u v n m k z) := Sz.two.mul' (N.cu hz hk) (by decide)
theorem Nums.ma (N : Nums n m x u v) {z : Int} (hz : Sz 21 z) {k : Nat} (hk : k < m) : Sz 12963 (Ma x u v n m k z) := ((N.mo hz).mul (N.s1 k z)).add' ((N.s0 hz hk).mul N.un) (by decide) (by decide)
theorem Nums.mb (N : Nums n m x u v) {z : Int} (hz : Sz 21 z) (k : Nat) : Sz 12551 (Mb x u v n m k z) := (N.vo hz).mul' (N.s1 k z) (by decide)
theorem Nums.s10 (N : Nums n m x u v) (k : Nat) (z : Int) : 0 < S1 x u v n m k z := Int.mul_pos (by decide) (Int.pow_pos (Int.mul_pos N.gx.sc0 (N.ls0 k z)))
theorem piece_one (G : Gaps (gp u) m) {z : Int} {k k' : Nat} (hk : k < m) (h1 : ∀ j, 0 < j → j ≤ k → u j ≤ z) (h2 : k + 1 = m ∨ z < u (k + 1)) (hk' : k' < m) (h1' : ∀ j, 0 < j → j ≤ k' → u j ≤ z) (h2' : k' + 1 = m ∨ z < u (k' + 1)) : k' = k := by
  rcases Nat.lt_trichotomy k' k with h | h | h
  · have := h1 (k' + 1) (by omega) (by omega)
    omega
  · exact h
  · have := h1' (k + 1) (by omega) (by omega)
    omega
structure In (u : Nat → Int) (m k : Nat) (z : Int) : Prop where
  lo : u 0 ≤ z
  hi : z ≤ u m
  kl : k < m
  up : ∀ j, 0 < j → j ≤ k → u j ≤ z
  nx : k + 1 = m ∨ z < u (k + 1)
theorem In.sz (N : Nums n m x u v) {k : Nat} {z : Int} (h : In u m k z) : Sz 21 z := by
  have h0 := N.lu.xs 0 (Nat.zero_le _)
  have h1 := N.lu.xs m (Nat.le_refl _)
  have a := h.lo
  have b := h.hi
  unfold Sz at *
  omega
theorem In.one (N : Nums n m x u v) {k k' : Nat} {z : Int} (h : In u m k z) (hk' : k' < m) (h1' : ∀ j, 0 < j → j ≤ k' → u j ≤ z) (h2' : k' + 1 = m ∨ z < u (k' + 1)) : k' = k := piece_one N.gu h.kl h.up h.nx hk' h1' h2'
end
section
variable {P : Program} {w : World} {K : PySem.W.Frag} {mg : Str → Option Value} {base : Heap}
abbrev s_Hull_spans : Stmt := inClass (top 22) 1
theorem sc_Hull_spans : FnScope ["self", "z"] ["self", "z"] (defScope s_Hull_spans) := ⟨rfl, rfl, rfl, by decide +kernel, rfl, by decide +kernel, by decide +kernel⟩
def spSpans (C CB : Addr) : Sp := fun vs H Q E => ∃ (o : Addr) (n m : Nat) (x u : Nat → Int) (v : Nat → Nat → Int) (z : Int), vs = [.ref o, .int z] ∧ IsHull C CB H o n m x u v ∧ Q (.bl (decide (u 0 ≤ z) && decide (z ≤ u m))) H
theorem ok_spans {f C CB : Addr} {fd : FuncData} (F : Fun K "spans" "Hull.spans" s_Hull_spans f fd) (T : Txt K mg) (B_Hull : TxtH K C) (B_Batten : TxtB K CB) : FnOk P w K mg base CX0 1 f fd ["self", "z"] (spSpans C CB) := by
  refine F.ok sc_Hull_spans (fun vs H Q E h => ?_) (fun cdv A outer s H vs Q E hr h => ?_)
  · obtain ⟨o, n, m, x, u, v, z, rfl, _⟩ := h
    rfl
  · obtain ⟨o, n, m, x, u, v, z, rfl, ⟨dx, pl, ar, le, st, sa, rv, hH⟩, k⟩ := h
    refine ⟨_, (pss_one (ps_ret (pe_and (pe_cmpR op_le (fld_k (K := K) (pv 0) rfl) (pv 1) (nomark _)) (pe_one (pe_cmpR op_le (pv 1) (fld_k (K := K) (pv 0) rfl) (nomark _)))))), ?_⟩
    exact eand_read (decide (u 0 ≤ z)) (decide (z ≤ u m)) (fun Q' q => ⟨_, rfl, o, C, dx, _, _, rfl, hH.ins, B_Hull.cl, B_Hull.lowest, bfH_lowest .., _, rfl, _, _, rfl, rfl, q⟩) (fun _ Q' q => ⟨_, rfl, _, rfl, o, C, dx, _, _, rfl, hH.ins, B_Hull.cl, B_Hull.highest, bfH_highest .., _, _, rfl, rfl, q⟩) k
abbrev s_Hull_too_high : Stmt := inClass (top 22) 2
theorem sc_Hull_too_high : FnScope ["self"] ["self"] (defScope s_Hull_too_high) := ⟨rfl, rfl, rfl, by decide +kernel, rfl, by decide +kernel, by decide +kernel⟩
def spHigh (C CB : Addr) : Sp := fun vs H Q E => ∃ (o : Addr) (n m : Nat) (x u : Nat → Int) (v : Nat → Nat → Int), vs = [.ref o] ∧ IsHull C CB H o n m x u v ∧ Q (.bl (decide (2000 < u m - u 0))) H
theorem ok_high {f C CB : Addr} {fd : FuncData} (F : Fun K "too_high" "Hull.too_high" s_Hull_too_high f fd) (T : Txt K mg) (B_Hull : TxtH K C) (B_Batten : TxtB K CB) : FnOk P w K mg base CX0 1 f fd ["self"] (spHigh C CB) := by
  refine F.ok sc_Hull_too_high (fun vs H Q E h => ?_) (fun cdv A outer s H vs Q E hr h => ?_)
  · obtain ⟨o, n, m, x, u, v, rfl, _⟩ := h
    rfl
  · obtain ⟨o, n, m, x, u, v, rfl, ⟨dx, pl, ar, le, st, sa, rv, hH⟩, k⟩ := h
    refine ⟨_, (pss_one (ps_ret (pe_cmpR op_gt (pe_op op_sub (fld_k (K := K) (pv 0) rfl) (fld_k (K := K) (pv 0) rfl)) (pe_glob rfl T.v_GREATEST_RISE.1 T.v_GREATEST_RISE.2) (nomark _)))), ?_⟩
    exact ⟨_, rfl, o, C, dx, _, _, rfl, hH.ins, B_Hull.cl, B_Hull.highest, bfH_highest .., _, rfl, o, C, dx, _, _, rfl, hH.ins, B_Hull.cl, B_Hull.lowest, bfH_lowest .., _, _, rfl, rfl, _, _, rfl, rfl, k⟩
abbrev s_Hull_volume_unit : Stmt := inClass (top 22) 5
theorem sc_Hull_volume_unit : FnScope ["self"] ["self"] (defScope s_Hull_volume_unit) := ⟨rfl, rfl, rfl, by decide +kernel, rfl, by decide +kernel, by decide +kernel⟩
def spUnit (C CB : Addr) : Sp := fun vs H Q E => ∃ (o : Addr) (n m : Nat) (x u : Nat → Int) (v : Nat → Nat → Int), vs = [.ref o] ∧ IsHull C CB H o n m x u v ∧ Nums n m x u v ∧ Q (.int (Un x u n m)) H
theorem ok_unit {f C CB : Addr} {fd : FuncData} (F : Fun K "volume_unit" "Hull.volume_unit" s_Hull_volume_unit f fd) (T : Txt K mg) (B_Hull : TxtH K C) (B_Batten : TxtB K CB) : FnOk P w K mg base CX0 1 f fd ["self"] (spUnit C CB) := by
  refine F.ok sc_Hull_volume_unit (fun vs H Q E h => ?_) (fun cdv A outer s H vs Q E hr h => ?_)
  · obtain ⟨o, n, m, x, u, v, rfl, _⟩ := h
    rfl
  · obtain ⟨o, n, m, x, u, v, rfl, ⟨dx, pl, ar, le, st, sa, rv, hH⟩, N, k⟩ := h
    obtain ⟨dA, aA, cA, paA, hA⟩ := hH.ars
    obtain ⟨dL, aL, cL, paL, hL⟩ := hH.les
    refine ⟨_, (pss_one (ps_ret (pe_op op_mulG (pe_op op_mulG (pe_glob rfl T.v_PARTS.1 T.v_PARTS.2) (fld_k (K := K) (fld_k (K := K) (pv 0) rfl) rfl)) (fld_k (K := K) (pv 0) rfl)))), ?_⟩
    exact ⟨_, rfl, o, C, dx, _, _, rfl, hH.ins, B_Hull.cl, B_Hull.areas, bfH_areas .., ar, CB, dA, _, _, rfl, hA.ins, B_Batten.cl, B_Batten.scale, bfB_scale _ _ _, _, _, rfl, rfl, Sz.mulOk Sz.parts N.gu.sc (by decide), _, rfl, o, C, dx, _, _, rfl, hH.ins, B_Hull.cl, B_Hull.share, bfH_share .., _, _, rfl, rfl, Sz.mulOk (Sz.parts.mul N.gu.sc) N.sh (by decide), k⟩
abbrev s_Hull_area : Stmt := inClass (top 22) 3
theorem sc_Hull_area : FnScope ["self", "z"] ["self", "z"] (defScope s_Hull_area) := ⟨rfl, rfl, rfl, by decide +kernel, rfl, by decide +kernel, by decide +kernel⟩
def spArea (C CB : Addr) : Sp := fun vs H Q E => ∃ (o : Addr) (n m : Nat) (x u : Nat → Int) (v : Nat → Nat → Int) (z : Int) (k : Nat), vs = [.ref o, .int z] ∧ IsHull C CB H o n m x u v ∧ Nums n m x u v ∧ In u m k z ∧ ∀ (p : Addr) (H' : Hp), Same H H' → H' p = some (.lst ((Low (Hr (Cf (gp u) (Ar x v n) m k) 4 (z - u k) 4) (Wh x u n m)).map V.int)) → Q (.ref p) H'
theorem ok_area {f C CB : Addr} {fd : FuncData} (F : Fun K "area" "Hull.area" s_Hull_area f fd) (T : Txt K mg) (B_Hull : TxtH K C) (B_Batten : TxtB K CB) (G_Batten_value : HasM P w K mg base CB 1 "value" ["self", "x"] (spValue CB)) (G_lowest_terms : Has P w K mg base 2 "lowest_terms" ["above", "below"] spLow) : FnOk P w K mg base CX0 3 f fd ["self", "z"] (spArea C CB) := by
  refine F.ok sc_Hull_area (fun vs H Q E h => ?_) (fun cdv A outer s H vs Q E hr h => ?_)
  · obtain ⟨o, n, m, x, u, v, z, kk, rfl, _⟩ := h
    rfl
  · obtain ⟨o, n, m, x, u, v, z, kk, rfl, ⟨dx, pl, ar, le, st, sa, rv, hH⟩, N, I, k⟩ := h
    obtain ⟨dA, aA, cA, paA, hA⟩ := hH.ars
    obtain ⟨dL, aL, cL, paL, hL⟩ := hH.les
    refine ⟨_, (pss_one (ps_ret (pe_has G_lowest_terms (hr.mono (by decide)) (pa_cons (pe_hasM (fld_k (K := K) (pv 0) rfl) B_Batten.cl G_Batten_value (hr.mono (by decide)) (pa_cons (pv 1) pa_nil)) (pa_cons (pe_op op_mulG (fld_k (K := K) (fld_k (K := K) (pv 0) rfl) rfl) (fld_k (K := K) (pv 0) rfl)) pa_nil))))), ?_⟩
    refine ⟨_, rfl, o, C, dx, _, _, rfl, hH.ins, B_Hull.cl, B_Hull.areas, bfH_areas .., _, _, _, rfl, hA.ins, bfB_no _ _ _ (by decide +kernel) (by decide +kernel) (by decide +kernel), _, rfl, ar, m, 1723, u, Ar x v n, z, rfl, hH.ars, N.lu, I.sz N, fun k' q1 q2 q3 => ?_⟩
    rw [I.one N q1 q2 q3]
    refine ⟨_, rfl, o, C, dx, _, _, rfl, hH.ins, B_Hull.cl, B_Hull.areas, bfH_areas .., ar, CB, dA, _, _, rfl, hA.ins, B_Batten.cl, B_Batten.scale, bfB_scale _ _ _, _, rfl, o, C, dx, _, _, rfl, hH.ins, B_Hull.cl, B_Hull.share, bfH_share .., _, _, rfl, rfl, Sz.mulOk N.gu.sc N.sh (by decide), ?_⟩
    refine ⟨_, _, rfl, N.wh0, ?_, N.wh.mono (by decide), fun p hp => k p _ ((Same.refl H).new hp) upd_same⟩
    exact (Hr_sz (A := 3272) (m := 4) (fun t _ => N.lu.cf (j := t) I.kl) ((I.sz N).sub (N.lu.xs kk (by have := I.kl; omega))) 4 (Nat.le_refl _)).mono (by decide)
abbrev s_Hull_volume : Stmt := inClass (top 22) 4
theorem sc_Hull_volume : FnScope ["self", "z"] ["self", "z"] (defScope s_Hull_volume) := ⟨rfl, rfl, rfl, by decide +kernel, rfl, by decide +kernel, by decide +kernel⟩
def spVolume (C CB : Addr) : Sp := fun vs H Q E => ∃ (o : Addr) (n m : Nat) (x u : Nat → Int) (v : Nat → Nat → Int) (z : Int) (k : Nat), vs = [.ref o, .int z] ∧ IsHull C CB H o n m x u v ∧ Nums n m x u v ∧ In u m k z ∧ ∀ (p : Addr) (H' : Hp), Same H H' → H' p = some (.lst ((Low (Vo x u v n m z) (Un x u n m)).map V.int)) → Q (.ref p) H'
theorem ok_volume {f C CB : Addr} {fd : FuncData} (F : Fun K "volume" "Hull.volume" s_Hull_volume f fd) (T : Txt K mg) (B_Hull : TxtH K C) (B_Batten : TxtB K CB) (G_Batten_integral : HasM P w K mg base CB 3 "integral" ["self", "x"] (spIntegral CB)) (G_lowest_terms : Has P w K mg base 2 "lowest_terms" ["above", "below"] spLow) (G_Hull_volume_unit : HasM P w K mg base C 1 "volume_unit" ["self"] (spUnit C CB)) : FnOk P w K mg base CX0 4 f fd ["self", "z"] (spVolume C CB) := by
  refine F.ok sc_Hull_volume (fun vs H Q E h => ?_) (fun cdv A outer s H vs Q E hr h => ?_)
  · obtain ⟨o, n, m, x, u, v, z, kk, rfl, _⟩ := h
    rfl
  · obtain ⟨o, n, m, x, u, v, z, kk, rfl, ⟨dx, pl, ar, le, st, sa, rv, hH⟩, N, I, k⟩ := h
    obtain ⟨dA, aA, cA, paA, hA⟩ := hH.ars
    obtain ⟨dL, aL, cL, paL, hL⟩ := hH.les
    refine ⟨_, (pss_one (ps_ret (pe_has G_lowest_terms (hr.mono (by decide)) (pa_cons (pe_hasM (fld_k (K := K) (pv 0) rfl) B_Batten.cl G_Batten_integral (hr.mono (by decide)) (pa_cons (pv 1) pa_nil)) (pa_cons (pe_hasM0 (pv 0) B_Hull.cl G_Hull_volume_unit (hr.mono (by decide))) pa_nil))))), ?_⟩
    refine ⟨_, rfl, o, C, dx, _, _, rfl, hH.ins, B_Hull.cl, B_Hull.areas, bfH_areas .., _, _, _, rfl, hA.ins, bfB_no _ _ _ (by decide +kernel) (by decide +kernel) (by decide +kernel), _, rfl, ar, m, 1723, u, Ar x v n, z, rfl, hH.ars, N.lu, I.sz N, ?_⟩
    refine ⟨_, rfl, o, dx, _, rfl, hH.ins, bfH_no _ _ _ _ _ _ _ _ (by decide +kernel), o, n, m, x, u, v, rfl, ⟨dx, pl, ar, le, st, sa, rv, hH⟩, N, ?_⟩
    exact ⟨_, _, rfl, N.un0, (N.vo (I.sz N)).mono (by decide), N.un.mono (by decide), fun p hp => k p _ ((Same.refl H).new hp) upd_same⟩
abbrev s_Hull_has_volume : Stmt := inClass (top 22) 6
theorem sc_Hull_has_volume : FnScope ["self", "z"] ["self", "z"] (defScope s_Hull_has_volume) := ⟨rfl, rfl, rfl, by decide +kernel, rfl, by decide +kernel, by decide +kernel⟩
def spHas (C CB : Addr) : Sp := fun vs H Q E => ∃ (o : Addr) (n m : Nat) (x u : Nat → Int) (v : Nat → Nat → Int) (z : Int) (k : Nat), vs = [.ref o, .int z] ∧ IsHull C CB H o n m x u v ∧ Nums n m x u v ∧ In u m k z ∧ Q (.bl (decide (0 < Vo x u v n m z))) H
theorem ok_has {f C CB : Addr} {fd : FuncData} (F : Fun K "has_volume" "Hull.has_volume" s_Hull_has_volume f fd) (T : Txt K mg) (B_Hull : TxtH K C) (B_Batten : TxtB K CB) (G_Batten_integral : HasM P w K mg base CB 3 "integral" ["self", "x"] (spIntegral CB)) : FnOk P w K mg base CX0 4 f fd ["self", "z"] (spHas C CB) := by
  refine F.ok sc_Hull_has_volume (fun vs H Q E h => ?_) (fun cdv A outer s H vs Q E hr h => ?_)
  · obtain ⟨o, n, m, x, u, v, z, kk, rfl, _⟩ := h
    rfl
  · obtain ⟨o, n, m, x, u, v, z, kk, rfl, ⟨dx, pl, ar, le, st, sa, rv, hH⟩, N, I, k⟩ := h
    obtain ⟨dA, aA, cA, paA, hA⟩ := hH.ars
    obtain ⟨dL, aL, cL, paL, hL⟩ := hH.les
    refine ⟨_, (pss_one (ps_ret (pe_cmpR op_gt (pe_hasM (fld_k (K := K) (pv 0) rfl) B_Batten.cl G_Batten_integral (hr.mono (by decide)) (pa_cons (pv 1) pa_nil)) pe_int (nomark _)))), ?_⟩
    exact ⟨_, rfl, o, C, dx, _, _, rfl, hH.ins, B_Hull.cl, B_Hull.areas, bfH_areas .., _, _, _, rfl, hA.ins, bfB_no _ _ _ (by decide +kernel) (by decide +kernel) (by decide +kernel), _, rfl, ar, m, 1723, u, Ar x v n, z, rfl, hH.ars, N.lu, I.sz N, _, _, rfl, rfl, k⟩
abbrev s_Hull_centre : Stmt := inClass (top 22) 7
theorem sc_Hull_centre : FnScope ["self", "z", "volume", "along", "up"] ["self", "z"] (defScope s_Hull_centre) := ⟨rfl, rfl, rfl, by decide +kernel, rfl, by decide +kernel, by decide +kernel⟩
def spCentre (C CB : Addr) : Sp := fun vs H Q E => ∃ (o : Addr) (n m : Nat) (x u : Nat → Int) (v : Nat → Nat → Int) (z : Int) (k : Nat), vs = [.ref o, .int z] ∧ IsHull C CB H o n m x u v ∧ Nums n m x u v ∧ In u m k z ∧ 0 < Vo x u v n m z ∧ ∀ (p : Addr) (H' : Hp), Same H H' → H' p = some (.lst ((Low (Lo x u v n m z) (Vo x u v n m z) ++ Low (Mo x u v n m z) (Vo x u v n m z)).map V.int)) → Q (.ref p) H'
theorem ok_centre {f C CB : Addr} {fd : FuncData} (F : Fun K "centre" "Hull.centre" s_Hull_centre f fd) (T : Txt K mg) (B_Hull : TxtH K C) (B_Batten : TxtB K CB) (G_Batten_integral : HasM P w K mg base CB 3 "integral" ["self", "x"] (spIntegral CB)) (G_Batten_moment : HasM P w K mg base CB 3 "moment" ["self", "x"] (spMoment CB)) (G_lowest_terms : Has P w K mg base 2 "lowest_terms" ["above", "below"] spLow) : FnOk P w K mg base CX0 4 f fd ["self", "z"] (spCentre C CB) := by
  refine F.ok sc_Hull_centre (fun vs H Q E h => ?_) (fun cdv A outer s H vs Q E hr h => ?_)
  · obtain ⟨o, n, m, x, u, v, z, kk, rfl, _⟩ := h
    rfl
  · obtain ⟨o, n, m, x, u, v, z, kk, rfl, ⟨dx, pl, ar, le, st, sa, rv, hH⟩, N, I, hV, k⟩ := h
    obtain ⟨dA, aA, cA, paA, hA⟩ := hH.ars
    obtain ⟨dL, aL, cL, paL, hL⟩ := hH.les
    refine ⟨_, (pss_cons (ps_set (i := 2) sc_Hull_centre.nd rfl (Or.inl rfl) (pe_hasM (fld_k (K := K) (pv 0) rfl) B_Batten.cl G_Batten_integral (hr.mono (by decide)) (pa_cons (pv 1) pa_nil)))
        (pss_cons (ps_set (i := 3) sc_Hull_centre.nd rfl (Or.inl rfl) (pe_has G_lowest_terms (hr.mono (by decide)) (pa_cons (pe_hasM (fld_k (K := K) (pv 0) rfl) B_Batten.cl G_Batten_integral (hr.mono (by decide)) (pa_cons (pv 1) pa_nil)) (pa_cons (pv 2) pa_nil))))
        (pss_cons (ps_set (i := 4) sc_Hull_centre.nd rfl (Or.inl rfl) (pe_has G_lowest_terms (hr.mono (by decide)) (pa_cons (pe_hasM (fld_k (K := K) (pv 0) rfl) B_Batten.cl G_Batten_moment (hr.mono (by decide)) (pa_cons (pv 1) pa_nil)) (pa_cons (pv 2) pa_nil))))
        (pss_one (ps_ret (pe_op op_cat (pv 3) (pv 4))))))), ?_⟩
    have zz := I.sz N
    refine ⟨_, rfl, o, C, dx, _, _, rfl, hH.ins, B_Hull.cl, B_Hull.areas, bfH_areas .., _, _, _, rfl, hA.ins, bfB_no _ _ _ (by decide +kernel) (by decide +kernel) (by decide +kernel), _, rfl, ar, m, 1723, u, Ar x v n, z, rfl, hH.ars, N.lu, zz, ?_⟩
    refine ⟨_, rfl, o, C, dx, _, _, rfl, hH.ins, B_Hull.cl, B_Hull.levers, bfH_levers .., _, _, _, rfl, hL.ins, bfB_no _ _ _ (by decide +kernel) (by decide +kernel) (by decide +kernel), _, rfl, le, m, 1745, u, Lr x v n, z, rfl, hH.les, N.ll, zz, ?_⟩
    refine ⟨_, rfl, _, _, rfl, hV, (N.lo zz).mono (by decide), (N.vo zz).mono (by decide), fun p hp => ?_⟩
    have s1 : Same H (upd H p (.lst ((Low (Lo x u v n m z) (Vo x u v n m z)).map V.int))) := (Same.refl H).new hp
    refine ⟨_, rfl, o, C, dx, _, _, rfl, (s1 _ _ hH.ins), B_Hull.cl, B_Hull.areas, bfH_areas .., _, _, _, rfl, s1 _ _ hA.ins, bfB_no _ _ _ (by decide +kernel) (by decide +kernel) (by decide +kernel), _, rfl, ar, m, 1723, u, Ar x v n, z, rfl, hH.ars.same s1, N.lu, zz, fun H2 s2 => ?_⟩
    refine ⟨_, rfl, _, _, rfl, hV, (N.mo zz).mono (by decide), (N.vo zz).mono (by decide), fun q hq => ?_⟩
    have s3 := s2.new (o := .lst ((Low (Mo x u v n m z) (Vo x u v n m z)).map V.int)) hq
    refine ⟨_, rfl, _, rfl, p, q, _, _, rfl, rfl, s3 _ _ upd_same, upd_same, (by show 4 ≤ sizeLine; decide), fun r hr2 => ?_⟩
    refine k r _ ((s1.trans s3).new hr2) ?_
    rw [List.map_append]
    exact upd_same
end
end Hf
set_option linter.all false
set_option maxRecDepth 100000
set_option maxHeartbeats 4000000
set_option Elab.async false
namespace Hf
open PySem PySem.Spec PyProof.Rows L2
open PySem.W (Codec)
open Hull
section
variable {P : Program} {w : World} {K : PySem.W.Frag} {mg : Str → Option Value} {base : Heap}
abbrev s_Hull_spread_terms : Stmt := inClass (top 22) 11
theorem sc_Hull_spread_terms : FnScope ["self", "z", "scale", "half_breadths", "divisor", "line", "station", "half_breadth"] ["self", "z"] (defScope s_Hull_spread_terms) := ⟨rfl, rfl, rfl, by decide +kernel, rfl, by decide +kernel, by decide +kernel⟩
def spSpread (C CB : Addr) : Sp := fun vs H Q E => ∃ (o : Addr) (n m : Nat) (x u : Nat → Int) (v : Nat → Nat → Int) (z : Int) (k : Nat), vs = [.ref o, .int z] ∧ IsHull C CB H o n m x u v ∧ Nums n m x u v ∧ In u m k z ∧ 0 < Vo x u v n m z ∧ ∀ (p : Addr) (H' : Hp), Same H H' → H' p = some (.lst (([S0 x u v n m k z, S1 x u v n m k z]).map V.int)) → Q (.ref p) H'
theorem ok_spread {f C CB : Addr} {fd : FuncData} (F : Fun K "spread_terms" "Hull.spread_terms" s_Hull_spread_terms f fd) (T : Txt K mg) (B_Hull : TxtH K C) (B_Batten : TxtB K CB) (G_Batten_value : HasM P w K mg base CB 1 "value" ["self", "x"] (spValue CB)) (G_shared_divisor : Has P w K mg base 2 "shared_divisor" ["numbers", "number"] (spShared K)) (G_Batten : HasC P w K mg base CB 3 "Batten" ["self", "xs", "ys"] (spBInit K CB)) (G_Batten_cube_integral : HasM P w K mg base CB 3 "cube_integral" ["self"] (spCube CB)) : FnOk P w K mg base CX0 5 f fd ["self", "z"] (spSpread C CB) := by
  refine F.ok sc_Hull_spread_terms (fun vs H Q E h => ?_) (fun cdv A outer s H vs Q E hr h => ?_)
  · obtain ⟨o, n, m, x, u, v, z, kk, rfl, _⟩ := h
    rfl
  · obtain ⟨o, n, m, x, u, v, z, kk, rfl, ⟨dx, pl, ar, le, st, sa, rv, hH⟩, N, I, hV, k⟩ := h
    refine ⟨_, (pss_cons (ps_set (i := 2) sc_Hull_spread_terms.nd rfl (Or.inl rfl) (fld_k (K := K) (pe_ix (ix_lk (K := K)) (fld_k (K := K) (pv 0) rfl) pe_int (fun _ _ => rfl)) rfl))
        (pss_cons (ps_setLc (i := 3) (own := [("station", 6)]) rfl sc_Hull_spread_terms.nd rfl rfl rfl (pi_lk (K := K) (fld_k (K := K) (pv 0) rfl)) (blk_of (show blkOk ["self", "z", "scale", "half_breadths", "divisor", "line", "station", "half_breadth"] (defScope s_Hull_spread_terms) _ [("station", 6)] = true by decide +kernel)) (fun _ _ _ _ _ => pg_name (i := 6) sc_Hull_spread_terms.nd rfl (Or.inl rfl)) (fun _ _ _ _ _ => pts_nil) (fun _ _ _ _ _ => (pe_hasM (pv 6) B_Batten.cl G_Batten_value (hr.mono (by decide)) (pa_cons (pv 1) pa_nil))))
        (pss_cons (ps_set (i := 4) sc_Hull_spread_terms.nd rfl (Or.inr rfl) (pe_has G_shared_divisor (hr.mono (by decide)) (pa_cons (pv 3) (pa_cons (pv 2) pa_nil))))
        (pss_cons (ps_set (i := 5) sc_Hull_spread_terms.nd rfl (Or.inl rfl) (pe_hasC G_Batten (hr.mono (by decide)) (pa_cons (fld_k (K := K) (pv 0) rfl) (pa_cons (pe_lc (own := [("half_breadth", 7)]) rfl sc_Hull_spread_terms.nd (pi_lk (K := K) (pv 3)) (blk_of (show blkOk ["self", "z", "scale", "half_breadths", "divisor", "line", "station", "half_breadth"] (defScope s_Hull_spread_terms) _ [("half_breadth", 7)] = true by decide +kernel)) (fun _ _ _ _ _ => pg_name (i := 7) sc_Hull_spread_terms.nd rfl (Or.inl rfl)) (fun _ _ _ _ _ => pts_nil) (fun _ _ _ _ _ => (pe_op op_fdivG (pv 7) (pv 4)))) pa_nil))))
        (pss_one (ps_ret (pe_lst (pa_cons (pe_op op_mulG pe_int (pe_hasM0 (pv 5) B_Batten.cl G_Batten_cube_integral (hr.mono (by decide)))) (pa_cons (pe_op op_mulG (pe_op op_mulG pe_int (pe_glob rfl T.v_PARTS.1 T.v_PARTS.2)) (pe_op op_powG (pe_op op_mulG (fld_k (K := K) (pv 5) rfl) (pe_op op_fdivG (pv 2) (pv 4))) pe_int)) pa_nil))))))))), ?_⟩
    have zz := I.sz N
    have n0 := N.gx.n0
    have n23 := N.gx.n23
    have kk0 := I.kl
    obtain ⟨d0, a0, c0, pa0, h0⟩ := hH.sta 0 (by omega)
    refine ⟨_, rfl, o, C, dx, _, _, rfl, hH.ins, B_Hull.cl, B_Hull.stations, bfH_stations .., _, _, _, _, rfl, rfl, SqL.of hH.sts, refs_at sa (k := 0) rfl (by omega), sa 0, CB, d0, _, _, rfl, h0.ins, B_Batten.cl, B_Batten.scale, bfB_scale _ _ _, ?_⟩
    refine ⟨_, rfl, o, C, dx, _, _, rfl, hH.ins, B_Hull.cl, B_Hull.stations, bfH_stations .., st, rfl, ⟨_, SqL.of hH.sts⟩, ?_⟩
    intro D hD
    refine lc_lst (refs (n + 1) sa) (fun i H' => Same H H' ∧ IsInts H' D i (Hb u v m kk z)) ⟨(Same.refl H).new hD, upd_same⟩ (fun i H' _ ⟨s1, _⟩ => SqL.of (s1 _ _ hH.sts)) ?_ ?_
    · rintro i y H' hi ⟨s1, hd⟩
      have hin : i < n + 1 := by
        have := (List.getElem?_eq_some_iff.mp hi).1
        rwa [refs_len] at this
      rw [refs_get sa hin] at hi
      cases hi
      obtain ⟨d1, a1, c1, pa1, h1⟩ := hH.sta i hin
      refine ⟨rfl, _, rfl, sa i, d1, _, rfl, s1 _ _ h1.ins, bfB_no _ _ _ (by decide +kernel) (by decide +kernel) (by decide +kernel), _, rfl, sa i, m, 21, u, (fun t => v t i), z, rfl, (hH.sta i hin).same s1, N.ls i (by omega), zz, fun k' q1 q2 q3 => ?_⟩
      rw [I.one N q1 q2 q3]
      refine ⟨_, hd, by rw [zs_len]; exact small1000 (by omega), s1.put hD, ?_⟩
      show upd H' D _ D = _
      rw [upd_same, ← zs_snoc]
      rfl
    · rintro H1 ⟨s1, hd⟩
      rw [refs_len] at hd
      refine ⟨_, rfl, _, rfl, D, n + 1, Hb u v m kk z, Sc (gp u) m, rfl, hd.sq, N.gu.sc0, ?_⟩
      have dv0 := N.dv0 kk z
      have zdv : Sz 1519 (Dv u v n m kk z) := N.gu.sc.le (Nat.le_of_dvd (by have := N.gu.sc0; omega) (Int.natAbs_dvd_natAbs.mpr (Gs_scale _ _ _)))
      refine ⟨_, rfl, o, C, dx, _, _, rfl, (s1 _ _ hH.ins), B_Hull.cl, B_Hull.places, bfH_places .., _, rfl, D, rfl, ⟨_, hd.sq⟩, ?_⟩
      intro D2 hD2
      refine lc_lst (zs_ (n + 1) (Hb u v m kk z)) (fun i H' => Same H1 H' ∧ IsInts H' D2 i (Ly u v n m kk z)) ⟨(Same.refl H1).new hD2, upd_same⟩ (fun i H' _ ⟨s2, _⟩ => (s2.zz hd).sq) ?_ ?_
      · rintro i y H' hi ⟨s2, hd2⟩
        have hin : i < n + 1 := by
          have := (List.getElem?_eq_some_iff.mp hi).1
          rwa [zs_len] at this
        rw [zs_get _ hin] at hi
        cases hi
        refine ⟨rfl, _, rfl, _, rfl, _, _, rfl, rfl, .sm dv0 (zdv.mono (by decide)), ?_⟩
        refine ⟨_, hd2, by rw [zs_len]; exact small1000 (by omega), s2.put hD2, ?_⟩
        show upd H' D2 _ D2 = _
        rw [upd_same, ← zs_snoc]
        rfl
      · rintro H2 ⟨s2, hd2⟩
        rw [zs_len] at hd2
        intro y dy ny ndy ney
        have s3 : Same H2 (upd (upd H2 dy (.own y)) y (.ins CB dy [])) := ((Same.refl H2).new ndy).new (by rw [upd_ne (fun q => ney q.symm)]; exact ny)
        have ho2 : H2 o ≠ none := by
          rw [s2 _ _ (s1 _ _ hH.ins)]
          exact fun q => by cases q
        refine ⟨y, dy, pl, D2, o, n, 1662, x, Ly u v n m kk z, rfl, upd_same, s3.held ho2, (fun e => new_ne ny ho2 e.symm), (s3.zz (s2.zz (s1.zz hH.pls))).sq, (s3.zz hd2).sq, N.gx, (N.line zz I.kl).ys, by decide, fun H3 b3 hbat => ⟨rfl, ?_⟩⟩
        have s4 : Same H2 H3 := Same.made ny ndy b3
        have hbat := hbat.same rm_same
        obtain ⟨d3, a3, c3, pa3, h3⟩ := id hbat
        refine ⟨_, rfl, y, d3, _, rfl, h3.ins, bfB_no _ _ _ (by decide +kernel) (by decide +kernel) (by decide +kernel), y, n, 1662, x, Ly u v n m kk z, rfl, hbat, N.line zz I.kl, fun H4 s5 => ?_⟩
        refine ⟨_, _, rfl, rfl, Sz.mulOk Sz.two (N.cu zz I.kl) (by decide), _, _, rfl, rfl, Sz.mulOk Sz.three Sz.parts (by decide), _, rfl, y, CB, d3, _, _, rfl, s5 _ _ h3.ins, B_Batten.cl, B_Batten.scale, bfB_scale _ _ _, _, rfl, _, rfl, _, _, rfl, rfl, .sm dv0 (zdv.mono (by decide)), _, _, rfl, rfl, Sz.mulOk N.gx.sc (Sz.div N.gu.sc) (by decide), _, _, rfl, rfl, CPowG.three (N.gx.sc.mul (Sz.div N.gu.sc)) (by decide), _, _, rfl, rfl, Sz.mulOk (Sz.three.mul Sz.parts) (Sz.cube (N.gx.sc.mul (Sz.div N.gu.sc))) (by decide), (by show 2 ≤ sizeLine; decide), fun p hp => ?_⟩
        exact k p _ ((((s1.trans s2).trans s4).trans s5).new hp) upd_same
abbrev s_Hull_metacentre_terms : Stmt := inClass (top 22) 10
theorem sc_Hull_metacentre_terms : FnScope ["self", "z", "volume", "spread", "above"] ["self", "z"] (defScope s_Hull_metacentre_terms) := ⟨rfl, rfl, rfl, by decide +kernel, rfl, by decide +kernel, by decide +kernel⟩
def spTerms (C CB : Addr) : Sp := fun vs H Q E => ∃ (o : Addr) (n m : Nat) (x u : Nat → Int) (v : Nat → Nat → Int) (z : Int) (k : Nat), vs = [.ref o, .int z] ∧ IsHull C CB H o n m x u v ∧ Nums n m x u v ∧ In u m k z ∧ 0 < Vo x u v n m z ∧ ∀ (p : Addr) (H' : Hp), Same H H' → H' p = some (.lst (([Ma x u v n m k z, Mb x u v n m k z]).map V.int)) → Q (.ref p) H'
theorem ok_terms {f C CB : Addr} {fd : FuncData} (F : Fun K "metacentre_terms" "Hull.metacentre_terms" s_Hull_metacentre_terms f fd) (T : Txt K mg) (B_Hull : TxtH K C) (B_Batten : TxtB K CB) (G_Batten_integral : HasM P w K mg base CB 3 "integral" ["self", "x"] (spIntegral CB)) (G_Batten_moment : HasM P w K mg base CB 3 "moment" ["self", "x"] (spMoment CB)) (G_Hull_volume_unit : HasM P w K mg base C 1 "volume_unit" ["self"] (spUnit C CB)) (G_Hull_spread_terms : HasM P w K mg base C 5 "spread_terms" ["self", "z"] (spSpread C CB)) : FnOk P w K mg base CX0 6 f fd ["self", "z"] (spTerms C CB) := by
  refine F.ok sc_Hull_metacentre_terms (fun vs H Q E h => ?_) (fun cdv A outer s H vs Q E hr h => ?_)
  · obtain ⟨o, n, m, x, u, v, z, kk, rfl, _⟩ := h
    rfl
  · obtain ⟨o, n, m, x, u, v, z, kk, rfl, ⟨dx, pl, ar, le, st, sa, rv, hH⟩, N, I, hV, k⟩ := h
    obtain ⟨dA, aA, cA, paA, hA⟩ := hH.ars
    obtain ⟨dL, aL, cL, paL, hL⟩ := hH.les
    refine ⟨_, (pss_cons (ps_set (i := 2) sc_Hull_metacentre_terms.nd rfl (Or.inl rfl) (pe_hasM (fld_k (K := K) (pv 0) rfl) B_Batten.cl G_Batten_integral (hr.mono (by decide)) (pa_cons (pv 1) pa_nil)))
        (pss_cons (ps_set (i := 3) sc_Hull_metacentre_terms.nd rfl (Or.inl rfl) (pe_hasM (pv 0) B_Hull.cl G_Hull_spread_terms (hr.mono (by decide)) (pa_cons (pv 1) pa_nil)))
        (pss_cons (ps_set (i := 4) sc_Hull_metacentre_terms.nd rfl (Or.inl rfl) (pe_op op_add (pe_op op_mulG (pe_hasM (fld_k (K := K) (pv 0) rfl) B_Batten.cl G_Batten_moment (hr.mono (by decide)) (pa_cons (pv 1) pa_nil)) (pe_ix (ix_lk (K := K)) (pv 3) pe_int (fun _ _ => rfl))) (pe_op op_mulG (pe_ix (ix_lk (K := K)) (pv 3) pe_int (fun _ _ => rfl)) (pe_hasM0 (pv 0) B_Hull.cl G_Hull_volume_unit (hr.mono (by decide))))))
        (pss_one (ps_ret (pe_lst (pa_cons (pv 4) (pa_cons (pe_op op_mulG (pv 2) (pe_ix (ix_lk (K := K)) (pv 3) pe_int (fun _ _ => rfl))) pa_nil)))))))), ?_⟩
    have zz := I.sz N
    refine ⟨_, rfl, o, C, dx, _, _, rfl, hH.ins, B_Hull.cl, B_Hull.areas, bfH_areas .., _, _, _, rfl, hA.ins, bfB_no _ _ _ (by decide +kernel) (by decide +kernel) (by decide +kernel), _, rfl, ar, m, 1723, u, Ar x v n, z, rfl, hH.ars, N.lu, zz, ?_⟩
    refine ⟨_, rfl, o, dx, _, rfl, hH.ins, bfH_no _ _ _ _ _ _ _ _ (by decide +kernel), _, rfl, o, n, m, x, u, v, z, kk, rfl, ⟨dx, pl, ar, le, st, sa, rv, hH⟩, N, I, hV, fun p H1 s1 hp => ?_⟩
    refine ⟨_, rfl, o, C, dx, _, _, rfl, (s1 _ _ hH.ins), B_Hull.cl, B_Hull.areas, bfH_areas .., _, _, _, rfl, s1 _ _ hA.ins, bfB_no _ _ _ (by decide +kernel) (by decide +kernel) (by decide +kernel), _, rfl, ar, m, 1723, u, Ar x v n, z, rfl, hH.ars.same s1, N.lu, zz, fun H2 s2 => ?_⟩
    have s12 := s1.trans s2
    refine ⟨_, rfl, _, _, _, _, rfl, rfl, SqL.of (s2 _ _ hp), at_of (j := 1) rfl rfl, _, _, rfl, rfl, Sz.mulOk (N.mo zz) (N.s1 kk z) (by decide), _, rfl, _, _, _, _, rfl, rfl, SqL.of (s2 _ _ hp), at_of (j := 0) rfl rfl, _, rfl, o, dx, _, rfl, s12 _ _ hH.ins, bfH_no _ _ _ _ _ _ _ _ (by decide +kernel), o, n, m, x, u, v, rfl, ⟨dx, pl, ar, le, st, sa, rv, hH.same s12⟩, N, _, _, rfl, rfl, Sz.mulOk (N.s0 zz I.kl) N.un (by decide), _, _, rfl, rfl, ?_⟩
    refine ⟨_, rfl, _, rfl, _, rfl, _, _, _, _, rfl, rfl, SqL.of (s2 _ _ hp), at_of (j := 1) rfl rfl, _, _, rfl, rfl, Sz.mulOk (N.vo zz) (N.s1 kk z) (by decide), (by show 2 ≤ sizeLine; decide), fun q hq => ?_⟩
    exact k q _ (s12.new hq) upd_same
abbrev s_Hull_metacentre : Stmt := inClass (top 22) 8
theorem sc_Hull_metacentre : FnScope ["self", "z", "height"] ["self", "z"] (defScope s_Hull_metacentre) := ⟨rfl, rfl, rfl, by decide +kernel, rfl, by decide +kernel, by decide +kernel⟩
def spMeta (C CB : Addr) : Sp := fun vs H Q E => ∃ (o : Addr) (n m : Nat) (x u : Nat → Int) (v : Nat → Nat → Int) (z : Int) (k : Nat), vs = [.ref o, .int z] ∧ IsHull C CB H o n m x u v ∧ Nums n m x u v ∧ In u m k z ∧ 0 < Vo x u v n m z ∧ ∀ (p : Addr) (H' : Hp), Same H H' → H' p = some (.lst ((Low (Ma x u v n m k z) (Mb x u v n m k z)).map V.int)) → Q (.ref p) H'
theorem ok_meta {f C CB : Addr} {fd : FuncData} (F : Fun K "metacentre" "Hull.metacentre" s_Hull_metacentre f fd) (T : Txt K mg) (B_Hull : TxtH K C) (B_Batten : TxtB K CB) (G_lowest_terms : Has P w K mg base 2 "lowest_terms" ["above", "below"] spLow) (G_Hull_metacentre_terms : HasM P w K mg base C 6 "metacentre_terms" ["self", "z"] (spTerms C CB)) : FnOk P w K mg base CX0 7 f fd ["self", "z"] (spMeta C CB) := by
  refine F.ok sc_Hull_metacentre (fun vs H Q E h => ?_) (fun cdv A outer s H vs Q E hr h => ?_)
  · obtain ⟨o, n, m, x, u, v, z, kk, rfl, _⟩ := h
    rfl
  · obtain ⟨o, n, m, x, u, v, z, kk, rfl, ⟨dx, pl, ar, le, st, sa, rv, hH⟩, N, I, hV, k⟩ := h
    refine ⟨_, (pss_cons (ps_set (i := 2) sc_Hull_metacentre.nd rfl (Or.inl rfl) (pe_hasM (pv 0) B_Hull.cl G_Hull_metacentre_terms (hr.mono (by decide)) (pa_cons (pv 1) pa_nil)))
        (pss_one (ps_ret (pe_has G_lowest_terms (hr.mono (by decide)) (pa_cons (pe_ix (ix_lk (K := K)) (pv 2) pe_int (fun _ _ => rfl)) (pa_cons (pe_ix (ix_lk (K := K)) (pv 2) pe_int (fun _ _ => rfl)) pa_nil)))))), ?_⟩
    have zz := I.sz N
    refine ⟨_, rfl, o, dx, _, rfl, hH.ins, bfH_no _ _ _ _ _ _ _ _ (by decide +kernel), _, rfl, o, n, m, x, u, v, z, kk, rfl, ⟨dx, pl, ar, le, st, sa, rv, hH⟩, N, I, hV, fun p H1 s1 hp => ?_⟩
    refine ⟨_, rfl, _, _, _, _, rfl, rfl, SqL.of hp, at_of (j := 0) rfl rfl, _, rfl, _, _, _, _, rfl, rfl, SqL.of hp, at_of (j := 1) rfl rfl, ?_⟩
    exact ⟨_, _, rfl, Int.mul_pos hV (N.s10 kk z), (N.ma zz I.kl).mono (by decide), (N.mb zz kk).mono (by decide), fun q hq => k q _ (s1.new hq) upd_same⟩
abbrev s_Hull_stand : Stmt := inClass (top 22) 9
theorem sc_Hull_stand : FnScope ["self", "z", "weight", "lever", "height"] ["self", "z", "weight", "lever"] (defScope s_Hull_stand) := ⟨rfl, rfl, rfl, by decide +kernel, rfl, by decide +kernel, by decide +kernel⟩
def spStand (C CB : Addr) : Sp := fun vs H Q E => ∃ (o : Addr) (n m : Nat) (x u : Nat → Int) (v : Nat → Nat → Int) (z : Int) (k : Nat) (W L : Int), vs = [.ref o, .int z, .int W, .int L] ∧ IsHull C CB H o n m x u v ∧ Nums n m x u v ∧ In u m k z ∧ 0 < Vo x u v n m z ∧ 0 < W ∧ Sz 73 W ∧ Sz 93 L ∧ ∀ (p : Addr) (H' : Hp), Same H H' → H' p = some (.lst ((Low (Ma x u v n m k z * W - L * Mb x u v n m k z) (Mb x u v n m k z * W)).map V.int)) → Q (.ref p) H'
theorem ok_stand {f C CB : Addr} {fd : FuncData} (F : Fun K "stand" "Hull.stand" s_Hull_stand f fd) (T : Txt K mg) (B_Hull : TxtH K C) (B_Batten : TxtB K CB) (G_lowest_terms : Has P w K mg base 2 "lowest_terms" ["above", "below"] spLow) (G_Hull_metacentre_terms : HasM P w K mg base C 6 "metacentre_terms" ["self", "z"] (spTerms C CB)) : FnOk P w K mg base CX0 7 f fd ["self", "z", "weight", "lever"] (spStand C CB) := by
  refine F.ok sc_Hull_stand (fun vs H Q E h => ?_) (fun cdv A outer s H vs Q E hr h => ?_)
  · obtain ⟨o, n, m, x, u, v, z, kk, W, L, rfl, _⟩ := h
    rfl
  · obtain ⟨o, n, m, x, u, v, z, kk, W, L, rfl, ⟨dx, pl, ar, le, st, sa, rv, hH⟩, N, I, hV, W0, zW, zL, k⟩ := h
    refine ⟨_, (pss_cons (ps_set (i := 4) sc_Hull_stand.nd rfl (Or.inl rfl) (pe_hasM (pv 0) B_Hull.cl G_Hull_metacentre_terms (hr.mono (by decide)) (pa_cons (pv 1) pa_nil)))
        (pss_one (ps_ret (pe_has G_lowest_terms (hr.mono (by decide)) (pa_cons (pe_op op_sub (pe_op op_mulG (pe_ix (ix_lk (K := K)) (pv 4) pe_int (fun _ _ => rfl)) (pv 2)) (pe_op op_mulG (pv 3) (pe_ix (ix_lk (K := K)) (pv 4) pe_int (fun _ _ => rfl)))) (pa_cons (pe_op op_mulG (pe_ix (ix_lk (K := K)) (pv 4) pe_int (fun _ _ => rfl)) (pv 2)) pa_nil)))))), ?_⟩
    have zz := I.sz N
    have zA := N.ma zz I.kl
    have zB := N.mb zz kk
    refine ⟨_, rfl, o, dx, _, rfl, hH.ins, bfH_no _ _ _ _ _ _ _ _ (by decide +kernel), _, rfl, o, n, m, x, u, v, z, kk, rfl, ⟨dx, pl, ar, le, st, sa, rv, hH⟩, N, I, hV, fun p H1 s1 hp => ?_⟩
    refine ⟨_, rfl, _, _, _, _, rfl, rfl, SqL.of hp, at_of (j := 0) rfl rfl, _, rfl, _, _, rfl, rfl, Sz.mulOk zA zW (by decide), _, rfl, _, rfl, _, _, _, _, rfl, rfl, SqL.of hp, at_of (j := 1) rfl rfl, _, _, rfl, rfl, Sz.mulOk zL zB (by decide), _, _, rfl, rfl, _, rfl, _, _, _, _, rfl, rfl, SqL.of hp, at_of (j := 1) rfl rfl, _, rfl, _, _, rfl, rfl, Sz.mulOk zB zW (by decide), ?_⟩
    exact ⟨_, _, rfl, Int.mul_pos (Int.mul_pos hV (N.s10 kk z)) W0, (zA.mul zW).sub' (zL.mul zB) (by decide) (by decide), (zB.mul' zW (by decide)), fun q hq => k q _ (s1.new hq) upd_same⟩
abbrev s_Hull_floating_height : Stmt := inClass (top 22) 12
theorem sc_Hull_floating_height : FnScope ["self", "weight"] ["self", "weight"] (defScope s_Hull_floating_height) := ⟨rfl, rfl, rfl, by decide +kernel, rfl, by decide +kernel, by decide +kernel⟩
def spFloat (C CB : Addr) : Sp := fun vs H Q E => ∃ (o zq : Addr) (n m : Nat) (x u : Nat → Int) (v : Nat → Nat → Int) (W : Int), vs = [.ref o, .int W] ∧ IsHull C CB (rm zq H) o n m x u v ∧ H zq ≠ none ∧ Nums n m x u v ∧ CB ≠ C ∧ 0 < W ∧ Sz 73 W ∧ u m - u 0 ≤ 2000 ∧ ∀ H', But H o H' → IsHull C CB (rm zq H') o n m x u v → Q (asZ (Fl x u v n m (W * Un x u n m))) H'
theorem ok_float {f C CB : Addr} {fd : FuncData} (F : Fun K "floating_height" "Hull.floating_height" s_Hull_floating_height f fd) (T : Txt K mg) (B_Hull : TxtH K C) (B_Batten : TxtB K CB) (G_record_volumes : Has P w K mg base 2 "record_volumes" ["areas"] (spRecords CB)) (G_least_height : Has P w K mg base 1 "least_height" ["records", "goal"] (spLeast K)) (G_Hull_volume_unit : HasM P w K mg base C 1 "volume_unit" ["self"] (spUnit C CB)) : FnOk P w K mg base CX0 3 f fd ["self", "weight"] (spFloat C CB) := by
  refine F.ok sc_Hull_floating_height (fun vs H Q E h => ?_) (fun cdv A outer s H vs Q E hr h => ?_)
  · obtain ⟨o, zq, n, m, x, u, v, W, rfl, _⟩ := h
    rfl
  · obtain ⟨o, zq, n, m, x, u, v, W, rfl, ⟨dx, pl, ar, le, st, sa, rv, hH0⟩, hzq, N, hne, W0, zW, hd, k⟩ := h
    have hH := hH0.same rm_same
    obtain ⟨dA, aA, cA, paA, hA⟩ := hH.ars
    obtain ⟨dL, aL, cL, paL, hL⟩ := hH.les
    refine ⟨_, (pss_cons (ps_if (pt_cmpR op_isN (fld_k (K := K) (pv 0) rfl) pe_non (nomark _)) (pss_one (ps_fld (pv 0) (pe_has G_record_volumes (hr.mono (by decide)) (pa_cons (fld_k (K := K) (pv 0) rfl) pa_nil)) rfl)) pss_nil)
        (pss_one (ps_ret (pe_has G_least_height (hr.mono (by decide)) (pa_cons (fld_k (K := K) (pv 0) rfl) (pa_cons (pe_op op_mulG (pv 1) (pe_hasM0 (pv 0) B_Hull.cl G_Hull_volume_unit (hr.mono (by decide)))) pa_nil)))))), ?_⟩
    have oz : o ≠ zq := (rm_some hH0.ins).1
    have fin : ∀ (p : Addr) (rs : List (Int × Int)) (gr : Int), Rec (Vi u (Ar x v n) m) (u 0) (u m - u 0).toNat rs gr → asZ ((rs.find? fun r => decide (W * Un x u n m ≤ r.2)).map (·.1)) = asZ (Fl x u v n m (W * Un x u n m)) := fun p rs gr R => by
      rw [R.fnd _ (Int.mul_pos W0 N.un0)]
      rfl
    rcases hH0.recs with e | ⟨p, rs, gr, e, hr1, R⟩
    · subst e
      refine ⟨_, rfl, o, C, dx, _, _, rfl, hH.ins, B_Hull.cl, B_Hull.records, bfH_records .., rfl, _, rfl, ?_⟩
      refine iteT ⟨_, rfl, o, C, dx, _, _, rfl, hH.ins, B_Hull.cl, B_Hull.areas, bfH_areas .., ar, zq, m, 1723, u, Ar x v n, rfl, hzq, hH.ars, N.lu, hd, fun p H1 rs gr s1 hr1 R => ?_⟩
      refine ⟨_, rfl, o, C, dx, _, rfl, s1 _ _ hH.ins, B_Hull.cl, B_Hull.records, (by show 8 < 1000; decide), ?_⟩
      rw [bfH_put]
      have b0 : But H1 o (upd H1 o (.ins C dx (bfH (Sh x n) pl (u 0) (u m) ar le st (.ref p)))) := But.upd
      have b1 := b0.rm (q := zq)
      have hO1 := (s1.rm (q := zq)) _ _ hH0.ins
      have hr2 := b1.recs hO1 hr1
      have s1r := s1.rm (q := zq)
      have hH20 : HullAt C CB (rm zq (upd H1 o (.ins C dx (bfH (Sh x n) pl (u 0) (u m) ar le st (.ref p))))) o n m x u v dx pl ar le st sa (.ref p) :=
        ⟨by rw [rm_ne oz]; exact upd_same, b1.lst hO1 (s1r _ _ hH0.pls), b1.bat hO1 hne (hH0.ars.same s1r), b1.bat hO1 hne (hH0.les.same s1r), b1.lst hO1 (s1r _ _ hH0.sts), fun j hj => b1.bat hO1 hne ((hH0.sta j hj).same s1r), .inr ⟨p, rs, gr, rfl, hr2, R⟩⟩
      have hH2 := hH20.same rm_same
      refine ⟨_, rfl, o, C, dx, _, _, rfl, hH2.ins, B_Hull.cl, B_Hull.records, bfH_records .., _, rfl, _, rfl, o, dx, _, rfl, hH2.ins, bfH_no _ _ _ _ _ _ _ _ (by decide +kernel), o, n, m, x, u, v, rfl, ⟨dx, pl, ar, le, st, sa, .ref p, hH2⟩, N, _, _, rfl, rfl, Sz.mulOk zW N.un (by decide), ?_⟩
      refine ⟨p, _, _, _, _, rs, gr, rfl, hr2.same rm_same, R, by omega, ?_⟩
      rw [fin p rs gr R]
      exact k _ ((But.of s1).trans b0) ⟨dx, pl, ar, le, st, sa, .ref p, hH20⟩
    · subst e
      refine ⟨_, rfl, o, C, dx, _, _, rfl, hH.ins, B_Hull.cl, B_Hull.records, bfH_records .., rfl, _, rfl, ?_⟩
      refine iteF ?_
      refine ⟨_, rfl, o, C, dx, _, _, rfl, hH.ins, B_Hull.cl, B_Hull.records, bfH_records .., _, rfl, _, rfl, o, dx, _, rfl, hH.ins, bfH_no _ _ _ _ _ _ _ _ (by decide +kernel), o, n, m, x, u, v, rfl, ⟨dx, pl, ar, le, st, sa, .ref p, hH⟩, N, _, _, rfl, rfl, Sz.mulOk zW N.un (by decide), ?_⟩
      refine ⟨p, _, _, _, _, rs, gr, rfl, hr1.same rm_same, R, by omega, ?_⟩
      rw [fin p rs gr R]
      exact k _ But.refl ⟨dx, pl, ar, le, st, sa, .ref p, hH0⟩
end
end Hf
set_option linter.all false
set_option maxRecDepth 100000
set_option maxHeartbeats 4000000
set_option Elab.async false
namespace Hf
open PySem PySem.Spec PyProof.Rows L2
open PySem.W (Codec)
open Hull
theorem zs_cut {c A B : Nat} {lo hi : Int} (el : lo = (A : Int)) (eh : hi = (B : Int)) (h1 : A ≤ B) (h2 : B ≤ c) (h : Nat → Int) : cutV (zs_ c h) (some lo) (some hi) = zs_ (B - A) fun j => h (A + j) := by
  subst el eh
  unfold cutV
  have s1 : HT.sIx (zs_ c h).length 0 (some (A : Int)) = A := by
    rw [zs_len]
    unfold HT.sIx
    have : ¬ (A : Int) < 0 := by omega
    simp only [this, if_false]
    omega
  have s2 : HT.sIx (zs_ c h).length (zs_ c h).length (some (B : Int)) = B := by
    rw [zs_len]
    unfold HT.sIx
    have : ¬ (B : Int) < 0 := by omega
    simp only [this, if_false]
    omega
  rw [s1, s2]
  refine List.ext_getElem? fun i => ?_
  by_cases hi : i < B - A
  · rw [List.getElem?_take_of_lt hi, List.getElem?_drop, zs_get h (by omega), zs_get _ hi]
  · rw [List.getElem?_eq_none (by rw [List.length_take, List.length_drop, zs_len]; omega), List.getElem?_eq_none (by rw [zs_len]; omega)]
theorem made_same {H : Hp} {y dy C : Addr} (ny : H y = none) (ndy : H dy = none) (ney : dy ≠ y) : Same H (upd (upd H dy (.own y)) y (.ins C dy [])) := ((Same.refl H).new ndy).new (by rw [upd_ne (fun q => ney q.symm)]; exact ny)
structure BatsAt (CB : Addr) (H : Hp) (D : Addr) (N n : Nat) (la : Nat → Addr) (x : Nat → Int) (y : Nat → Nat → Int) : Prop where
  lst : H D = some (.lst (refs N la))
  at_ : ∀ j, j < N → IsBat CB H (la j) n x (y j)
theorem BatsAt.same {CB : Addr} {H H' : Hp} {D : Addr} {N n : Nat} {la : Nat → Addr} {x : Nat → Int} {y : Nat → Nat → Int} (h : BatsAt CB H D N n la x y) (s : Same H H') : BatsAt CB H' D N n la x y := ⟨s _ _ h.lst, fun j hj => (h.at_ j hj).same s⟩
theorem BatsAt.snoc {CB : Addr} {H H' : Hp} {D l : Addr} {N n : Nat} {la : Nat → Addr} {x : Nat → Int} {y : Nat → Nat → Int} (h : BatsAt CB H D N n la x y) (s : Same H H') (n0 : 0 < n) (hl : IsBat CB H' l n x (y N)) : BatsAt CB (upd H' D (.lst (refs N la ++ [.ref l]))) D (N + 1) n (fun k => if k = N then l else la k) x y := by
  have hD := s _ _ h.lst
  have key : ∀ {b : Addr} {z : Nat → Int}, IsBat CB H' b n x z → IsBat CB (upd H' D (.lst (refs N la ++ [.ref l]))) b n x z := fun {b z} hb => by
    obtain ⟨d, a, c, pa, hb⟩ := hb
    have n1 : ∀ {e : Addr} {m : Nat} {q : Nat → Int}, 0 < m → IsInts H' e m q → e ≠ D := fun {e m q} m0 he w => by
      have h1 := hD
      rw [← w, he] at h1
      injection h1 with h1
      injection h1 with h1
      have h2 := congrArg (fun l : List V => l[0]?) h1
      simp only [zs_get q m0] at h2
      by_cases N0 : 0 < N
      · rw [refs_get la N0] at h2
        cases h2
      · have : N = 0 := by omega
        subst this
        cases h2
    by_cases e : c = D
    · -- the list of pieces is no list of battens
      exfalso
      have h1 := hb.pcs.lst
      rw [e, hD] at h1
      injection h1 with h1
      injection h1 with h1
      have hlen := congrArg List.length h1
      rw [refs_len, refs_len] at hlen
      have h2 := congrArg (fun l : List V => l[0]?) h1
      simp only [refs_get la (show 0 < N by omega), refs_get pa n0] at h2
      injection h2 with h2
      injection h2 with h2
      have h3 := hb.pcs.at_ 0 n0
      obtain ⟨d', a', c', pa', hb'⟩ := (h.at_ 0 (by omega)).same s
      have h4 := hb'.ins
      rw [h2] at h4
      have h5 : H' (pa 0) = some (.lst _) := h3
      rw [h4] at h5
      cases h5
    · exact ⟨d, a, c, pa, by rw [upd_ne (fun q => by have := hb.ins; rw [q, hD] at this; cases this)]; exact hb.ins, by show upd H' D _ a = _; rw [upd_ne (n1 (by omega) hb.nails)]; exact hb.nails, by rw [upd_ne e]; exact hb.pcs.lst, fun k hk => by show upd H' D _ (pa k) = _; rw [upd_ne (n1 (by decide) (hb.pcs.at_ k hk))]; exact hb.pcs.at_ k hk⟩
  refine ⟨by rw [refs_snoc]; exact upd_same, fun j hj => ?_⟩
  by_cases ej : j = N
  · subst ej
    show IsBat CB _ (if j = j then l else la j) n x _
    rw [if_pos rfl]
    exact key hl
  · show IsBat CB _ (if j = N then l else la j) n x _
    rw [if_neg ej]
    exact key ((h.at_ j (by omega)).same s)
section
variable {P : Program} {w : World} {K : PySem.W.Frag} {mg : Str → Option Value} {base : Heap}
abbrev s_Hull___init__ : Stmt := inClass (top 22) 0
theorem sc_Hull___init__ : FnScope ["self", "places", "heights", "half_breadths", "stations", "lines", "level", "line", "station"] ["self", "places", "heights", "half_breadths"] (defScope s_Hull___init__) := ⟨rfl, rfl, rfl, by decide +kernel, rfl, by decide +kernel, by decide +kernel⟩
def spHInit (K : PySem.W.Frag) (C CB : Addr) : Sp := fun vs H Q E => ∃ (o dx p q r z : Addr) (a b c : Nat) (f g h : Nat → Int), vs = [.ref o, .ref p, .ref q, .ref r] ∧ H o = some (.ins C dx []) ∧ H z ≠ none ∧ z ≠ o ∧ SqL K H p (zs_ a f) ∧ SqL K H q (zs_ b g) ∧ SqL K H r (zs_ c h) ∧ Good a b c f g h ∧ ∀ H', But H o H' → IsHull C CB (rm z H') o (a - 1) (b - 1) f g (fun k j => h (k * a + j)) → Q .non H'
theorem ok_hinit {f C CB : Addr} {fd : FuncData} (F : Fun K "__init__" "Hull.__init__" s_Hull___init__ f fd) (T : Txt K mg) (B_Hull : TxtH K C) (B_Batten : TxtB K CB) (hne : CB ≠ C) (G_Batten : HasC P w K mg base CB 3 "Batten" ["self", "xs", "ys"] (spBInit K CB)) (G_Batten_integral : HasM P w K mg base CB 3 "integral" ["self", "x"] (spIntegral CB)) (G_Batten_moment : HasM P w K mg base CB 3 "moment" ["self", "x"] (spMoment CB)) : FnOk P w K mg base CX0 5 f fd ["self", "places", "heights", "half_breadths"] (spHInit K C CB) := by
  refine F.ok sc_Hull___init__ (fun vs H Q E h => ?_) (fun cdv A outer s H vs Q E hr h => ?_)
  · obtain ⟨o, dx, p, q, r, z, a, b, c, f, g, h, rfl, _⟩ := h
    rfl
  · obtain ⟨o, dx, p, q, r, z, a, b, c, f, g, h, rfl, hO, hz, hzo, hP, hQ, hR, G, k⟩ := h
    have oz : o ≠ z := fun e => hzo e.symm
    obtain ⟨n, rfl⟩ : ∃ n, a = n + 1 := ⟨a - 1, by have := G.a2; omega⟩
    obtain ⟨m, rfl⟩ : ∃ m, b = m + 1 := ⟨b - 1, by have := G.b2; omega⟩
    obtain rfl := G.ce
    have a24 := G.a24
    have b16 := G.b16
    have n1 := G.a2
    have m1 := G.b2
    obtain ⟨v, ev⟩ : ∃ v : Nat → Nat → Int, v = fun k j => h (k * (n + 1) + j) := ⟨_, rfl⟩
    have N : Nums n m f g v := by
      rw [ev]
      exact nums_of G
    have k : ∀ H', But H o H' → IsHull C CB (rm z H') o n m f g v → Q .non H' := by
      rw [ev]
      exact k
    have z16 : ∀ i : Nat, i < 100 → Sz 7 (i : Int) := fun i hi => Sz.of (by omega) (by omega)
    refine ⟨_, (pss_cons (ps_set (i := 4) sc_Hull___init__.nd rfl (Or.inr rfl) (pe_callB (len_k (K := K)) (by rfl) T.n_len PySem.boot_len (pa_cons (pv 1) pa_nil)))
        (pss_cons (ps_setLc (i := 5) (own := [("level", 6)]) rfl sc_Hull___init__.nd rfl rfl rfl (pi_range1 rfl T.n_range (pa_cons (pe_callB (len_k (K := K)) (by rfl) T.n_len PySem.boot_len (pa_cons (pv 2) pa_nil)) pa_nil)) (blk_of (show blkOk ["self", "places", "heights", "half_breadths", "stations", "lines", "level", "line", "station"] (defScope s_Hull___init__) _ [("level", 6)] = true by decide +kernel)) (fun _ _ _ _ _ => pg_name (i := 6) sc_Hull___init__.nd rfl (Or.inl rfl)) (fun _ _ _ _ _ => pts_nil) (fun _ _ _ _ _ => (pe_hasC G_Batten (hr.mono (by decide)) (pa_cons (pv 1) (pa_cons (pe_slice (sl_lk (K := K)) (pv 3) (po_some (pe_op op_mulG (pv 6) (pv 4))) (po_some (pe_op op_mulG (pe_op op_add (pv 6) pe_int) (pv 4)))) pa_nil)))))
        (pss_cons (ps_fld (pv 0) (pe_op op_mulG (pe_glob rfl T.v_PARTS.1 T.v_PARTS.2) (fld_k (K := K) (pe_ix (ix_lk (K := K)) (pv 5) pe_int (fun _ _ => rfl)) rfl)) rfl)
        (pss_cons (ps_fld (pv 0) (pe_callTy call_list_of (by rfl) T.n_list PyProof.Rows.boot_list (pa_cons (pv 1) pa_nil)) rfl)
        (pss_cons (ps_fld (pv 0) (pe_ix (ix_lk (K := K)) (pv 2) pe_int (fun _ _ => rfl)) rfl)
        (pss_cons (ps_fld (pv 0) (pe_ix (ix_lk (K := K)) (pv 2) (pe_un un_neg pe_int) (fun _ _ => rfl)) rfl)
        (pss_cons (ps_fld (pv 0) (pe_hasC G_Batten (hr.mono (by decide)) (pa_cons (pv 2) (pa_cons (pe_lc (own := [("line", 7)]) rfl sc_Hull___init__.nd (pi_lk (K := K) (pv 5)) (blk_of (show blkOk ["self", "places", "heights", "half_breadths", "stations", "lines", "level", "line", "station"] (defScope s_Hull___init__) _ [("line", 7)] = true by decide +kernel)) (fun _ _ _ _ _ => pg_name (i := 7) sc_Hull___init__.nd rfl (Or.inl rfl)) (fun _ _ _ _ _ => pts_nil) (fun _ _ _ _ _ => (pe_op op_mulG pe_int (pe_hasM (pv 7) B_Batten.cl G_Batten_integral (hr.mono (by decide)) (pa_cons (pe_ix (ix_lk (K := K)) (pv 1) (pe_un un_neg pe_int) (fun _ _ => rfl)) pa_nil))))) pa_nil))) rfl)
        (pss_cons (ps_fld (pv 0) (pe_hasC G_Batten (hr.mono (by decide)) (pa_cons (pv 2) (pa_cons (pe_lc (own := [("line", 7)]) rfl sc_Hull___init__.nd (pi_lk (K := K) (pv 5)) (blk_of (show blkOk ["self", "places", "heights", "half_breadths", "stations", "lines", "level", "line", "station"] (defScope s_Hull___init__) _ [("line", 7)] = true by decide +kernel)) (fun _ _ _ _ _ => pg_name (i := 7) sc_Hull___init__.nd rfl (Or.inl rfl)) (fun _ _ _ _ _ => pts_nil) (fun _ _ _ _ _ => (pe_op op_mulG pe_int (pe_hasM (pv 7) B_Batten.cl G_Batten_moment (hr.mono (by decide)) (pa_cons (pe_ix (ix_lk (K := K)) (pv 1) (pe_un un_neg pe_int) (fun _ _ => rfl)) pa_nil))))) pa_nil))) rfl)
        (pss_cons (ps_fld (pv 0) (pe_lc (own := [("station", 8)]) rfl sc_Hull___init__.nd (pi_range1 rfl T.n_range (pa_cons (pv 4) pa_nil)) (blk_of (show blkOk ["self", "places", "heights", "half_breadths", "stations", "lines", "level", "line", "station"] (defScope s_Hull___init__) _ [("station", 8)] = true by decide +kernel)) (fun _ _ _ _ _ => pg_name (i := 8) sc_Hull___init__.nd rfl (Or.inl rfl)) (fun _ _ _ _ _ => pts_nil) (fun _ _ _ _ _ => (pe_hasC G_Batten (hr.mono (by decide)) (pa_cons (pv 2) (pa_cons (slice3_k (K := K) (pv 3) (po_some (pv 8)) (po_some (pv 4))) pa_nil))))) rfl)
        (pss_one (ps_fld (pv 0) pe_non rfl))))))))))), ?_⟩
    refine ⟨_, rfl, p, _, rfl, .inl hP, ?_⟩
    rw [zs_len]
    refine ⟨_, rfl, q, _, rfl, .inl hQ, m + 1, (by rw [zs_len]; rfl), by omega, by omega, ?_⟩
    intro D hD
    have Dz : D ≠ z := new_ne hD hz
    refine lc_rng (fun i H' => Same H H' ∧ ∃ la, BatsAt CB (rm z H') D i n la f v) ⟨(Same.refl H).new hD, fun _ => 0, by rw [rm_ne Dz]; exact upd_same, fun j hj => by omega⟩ ?_ ?_
    · rintro i H' hi ⟨s1, la, hl⟩
      rw [Int.zero_add]
      have e1 : (i : Int) * ((n + 1 : Nat) : Int) = ((i * (n + 1) : Nat) : Int) := (Int.natCast_mul ..).symm
      have e2 : ((i : Int) + 1) * ((n + 1 : Nat) : Int) = (((i + 1) * (n + 1) : Nat) : Int) := (Int.natCast_mul ..).symm
      refine ⟨rfl, _, rfl, _, rfl, _, rfl, _, rfl, _, _, rfl, rfl, Sz.mulOk (z16 i (by omega)) (z16 (n + 1) (by omega)) (by decide), _, rfl, _, rfl, _, _, rfl, rfl, _, rfl, _, _, rfl, rfl, Sz.mulOk (z16 (i + 1) (by omega)) (z16 (n + 1) (by omega)) (by decide), _, rfl, r, _, rfl, s1.seq hR, fun t ht => ?_⟩
      have hc2 : (i + 1) * (n + 1) ≤ (n + 1) * (m + 1) := by
        rw [Nat.mul_comm (n + 1)]
        exact Nat.mul_le_mul_right _ (by omega)
      have hc1 : i * (n + 1) ≤ (i + 1) * (n + 1) := Nat.mul_le_mul_right _ (by omega)
      have ec : cutV (zs_ ((n + 1) * (m + 1)) h) (some ((i : Int) * ((n + 1 : Nat) : Int))) (some (((i : Int) + 1) * ((n + 1 : Nat) : Int))) = zs_ (n + 1) (v i) := by
        rw [zs_cut e1 e2 hc1 hc2, ev]
        have e3 : (i + 1) * (n + 1) - i * (n + 1) = n + 1 := by
          rw [Nat.add_mul, Nat.one_mul]
          omega
        rw [e3]
      rw [ec]
      have s2 : Same H' (upd H' t (.lst (zs_ (n + 1) (v i)))) := (Same.refl H').new ht
      intro y dy ny ndy ney
      have s3 := made_same (C := CB) ny ndy ney
      have hz2 := s2.held (s1.held hz)
      refine ⟨y, dy, p, t, z, n, 21, f, v i, rfl, upd_same, s3.held hz2, (fun e => new_ne ny hz2 e.symm), ((s1.trans s2).trans s3).seq hP, SqL.of (s3 _ _ upd_same), G.gx, (N.lx i (by omega)).ys, by decide, fun H3 b3 hbat => ⟨rfl, ?_⟩⟩
      have s4 : Same H' H3 := s2.trans (Same.made ny ndy b3)
      refine ⟨_, s4 _ _ (rm_some hl.lst).2, by rw [refs_len]; exact small1000 (by omega), (s1.trans s4).put hD, fun k => if k = i then y else la k, ?_⟩
      rw [rm_upd Dz]
      exact hl.snoc s4.rm (by omega) hbat
    · rintro H1 ⟨s1, la, hl⟩
      have hO1 := s1 _ _ hO
      have hP1 := s1.seq hP
      have hQ1 := s1.seq hQ
      have hR1 := s1.seq hR
      obtain ⟨d0, a0, c0, pa0, h0⟩ := (hl.at_ 0 (by omega)).same rm_same
      have hlD := (rm_some hl.lst).2
      have hO1r : rm z H1 o = some (.ins C dx []) := by rw [rm_ne oz]; exact hO1
      have hz1 := s1.held hz
      refine ⟨_, rfl, _, _, _, _, rfl, rfl, SqL.of hlD, refs_at la (k := 0) rfl (by omega), la 0, CB, d0, _, _, rfl, h0.ins, B_Batten.cl, B_Batten.scale, bfB_scale _ _ _, _, _, rfl, rfl, Sz.mulOk Sz.parts G.gx.sc (by decide), _, rfl, o, C, dx, _, rfl, hO1, B_Hull.cl, B_Hull.share, (by show 0 < 1000; decide), ?_⟩
      obtain ⟨H2, e2⟩ : ∃ H2, H2 = upd H1 o (.ins C dx (putF "share" (.int (Sh f n)) [])) := ⟨_, rfl⟩
      have b2 : But H1 o H2 := by rw [e2]; exact But.upd
      have hO2 : H2 o = some (.ins C dx (putF "share" (.int (Sh f n)) [])) := by rw [e2]; exact upd_same
      show _
      have e2' : upd H1 o (.ins C dx (putF "share" (.int (2520 * Sc (gp f) n)) [])) = H2 := e2.symm
      rw [e2']
      refine ⟨_, rfl, p, _, rfl, .inl (b2.sq hO1 hP1), fun pl hpl => ?_⟩
      have s3 : Same H2 (upd H2 pl (.lst (zs_ (n + 1) f))) := (Same.refl H2).new hpl
      have plz : pl ≠ z := new_ne hpl (b2.held hz1 hzo)
      have hO3 := s3 _ _ hO2
      refine ⟨_, rfl, o, C, dx, _, rfl, hO3, B_Hull.cl, B_Hull.places, (by show 1 < 1000; decide), ?_⟩
      obtain ⟨H4, e4⟩ : ∃ H4, H4 = upd (upd H2 pl (.lst (zs_ (n + 1) f))) o (.ins C dx (putF "places" (.ref pl) (putF "share" (.int (Sh f n)) []))) := ⟨_, rfl⟩
      rw [← e4]
      have b34 : But (upd H2 pl (.lst (zs_ (n + 1) f))) o H4 := by rw [e4]; exact But.upd
      have hO4 : H4 o = some (.ins C dx (putF "places" (.ref pl) (putF "share" (.int (Sh f n)) []))) := by rw [e4]; exact upd_same
      have hpl4 : H4 pl = some (.lst (zs_ (n + 1) f)) := b34.lst hO3 upd_same
      have b4 : But H1 o H4 := (b2.trans (But.of s3)).trans b34
      refine ⟨_, rfl, _, _, _, _, rfl, rfl, b4.sq hO1 hQ1, zs_at g (k := 0) rfl (by omega), _, rfl, o, C, dx, _, rfl, hO4, B_Hull.cl, B_Hull.lowest, (by show 2 < 1000; decide), ?_⟩
      obtain ⟨H5, e5⟩ : ∃ H5, H5 = upd H4 o (.ins C dx (putF "lowest" (.int (g 0)) (putF "places" (.ref pl) (putF "share" (.int (Sh f n)) [])))) := ⟨_, rfl⟩
      rw [← e5]
      have b45 : But H4 o H5 := by rw [e5]; exact But.upd
      have hO5 : H5 o = some (.ins C dx (putF "lowest" (.int (g 0)) (putF "places" (.ref pl) (putF "share" (.int (Sh f n)) [])))) := by rw [e5]; exact upd_same
      have b5 := b4.trans b45
      refine ⟨_, rfl, _, rfl, _, _, _, _, rfl, rfl, b5.sq hO1 hQ1, zs_last g (by omega), _, rfl, o, C, dx, _, rfl, hO5, B_Hull.cl, B_Hull.highest, (by show 3 < 1000; decide), ?_⟩
      obtain ⟨f6, ef6⟩ : ∃ f6, f6 = putF "highest" (.int (g m)) (putF "lowest" (.int (g 0)) (putF "places" (.ref pl) (putF "share" (.int (Sh f n)) []))) := ⟨_, rfl⟩
      obtain ⟨H6, e6⟩ : ∃ H6, H6 = upd H5 o (.ins C dx f6) := ⟨_, rfl⟩
      have e6' : upd H5 o (.ins C dx (putF "highest" (.int (g (m + 1 - 1))) (putF "lowest" (.int (g 0)) (putF "places" (.ref pl) (putF "share" (.int (Sh f n)) []))))) = H6 := by
        rw [e6, ef6]
        rfl
      rw [e6']
      have b56 : But H5 o H6 := by rw [e6]; exact But.upd
      have hO6 : H6 o = some (.ins C dx f6) := by rw [e6]; exact upd_same
      have l6 : f6.length = 4 := by rw [ef6]; rfl
      have b6 := b5.trans b56
      have hpl6 : H6 pl = some (.lst (zs_ (n + 1) f)) := b56.lst hO5 (b45.lst hO4 hpl4)
      have bat : ∀ {Hk : Hp}, But H1 o Hk → BatsAt CB (rm z Hk) D (m + 1) n la f v := fun b => ⟨b.rm.lst hO1r hl.lst, fun j hj => b.rm.bat hO1r hne (hl.at_ j hj)⟩
      refine ⟨_, rfl, _, rfl, D, rfl, ⟨_, SqL.of (b6.lst hO1 hlD)⟩, ?_⟩
      intro X hX
      refine lc_lst (refs (m + 1) la) (fun i H' => Same H6 H' ∧ IsInts H' X i (Ar f v n)) ⟨(Same.refl H6).new hX, upd_same⟩ (fun i H' _ ⟨s1, _⟩ => SqL.of (s1 _ _ (b6.lst hO1 hlD))) ?_ ?_
      · rintro i y H' hi ⟨s7, hd⟩
        have hin : i < m + 1 := by
          have := (List.getElem?_eq_some_iff.mp hi).1
          rwa [refs_len] at this
        rw [refs_get la hin] at hi
        cases hi
        have hb := (((bat b6).same s7.rm).at_ i hin).same rm_same
        obtain ⟨d1, a1, c1, pa1, h1⟩ := id hb
        have L := N.lx i (by omega)
        refine ⟨rfl, _, rfl, la i, d1, _, rfl, h1.ins, bfB_no _ _ _ (by decide +kernel) (by decide +kernel) (by decide +kernel), _, rfl, _, rfl, _, _, _, _, rfl, rfl, s7.seq (b6.sq hO1 hP1), zs_last f (by omega), la i, n, 21, f, v i, f n, rfl, hb, L, L.xs n (Nat.le_refl _), _, _, rfl, rfl, ?_, ?_⟩
        · refine Sz.mulOk Sz.two (n := 1721) ?_ (by decide)
          exact (Sw_sz (A := 1570) (m := 4) (n := n) (fun i j hi _ => L.cf (j := j) hi) (by decide) (fun i hi _ => L.reach (L.xs n (Nat.le_refl _)) hi) n (Nat.le_refl _)).mono (by omega)
        refine ⟨_, hd, by rw [zs_len]; exact small1000 (by omega), s7.put hX, ?_⟩
        show upd H' X _ X = _
        rw [upd_same, ← zs_snoc]
        rfl
      · rintro H7 ⟨s7, hd⟩
        rw [refs_len] at hd
        intro ar dar nar ndar near
        have s8 := made_same (C := CB) nar ndar near
        have hz7 := s7.held (b6.held hz1 hzo)
        refine ⟨ar, dar, q, X, z, m, 1723, g, Ar f v n, rfl, upd_same, s8.held hz7, (fun e => new_ne nar hz7 e.symm), (s7.trans s8).seq (b6.sq hO1 hQ1), (s8.zz hd).sq, G.gu, N.lu.ys, by decide, fun H8 b8 hbar => ⟨rfl, ?_⟩⟩
        have s9 : Same H6 H8 := s7.trans (Same.made nar ndar b8)
        have hO8 := s9 _ _ hO6
        have hO8r : rm z H8 o = some (.ins C dx f6) := by rw [rm_ne oz]; exact hO8
        refine ⟨_, rfl, o, C, dx, _, rfl, hO8, B_Hull.cl, B_Hull.areas, (by rw [l6]; decide), ?_⟩
        obtain ⟨f9, ef9⟩ : ∃ f9, f9 = putF "areas" (.ref ar) f6 := ⟨_, rfl⟩
        rw [← ef9]
        obtain ⟨H9, e9⟩ : ∃ H9, H9 = upd H8 o (.ins C dx f9) := ⟨_, rfl⟩
        rw [← e9]
        have b89 : But H8 o H9 := by rw [e9]; exact But.upd
        have hO9 : H9 o = some (.ins C dx f9) := by rw [e9]; exact upd_same
        have l9 : f9.length = 5 := by rw [ef9, ef6]; rfl
        have b69 : But H6 o H9 := (But.of s9).trans b89
        have b9 := b6.trans b69
        have hpl9 : H9 pl = some (.lst (zs_ (n + 1) f)) := b69.lst hO6 hpl6
        have hbar9 := b89.rm.bat hO8r hne hbar
        have hO9r : rm z H9 o = some (.ins C dx f9) := by rw [rm_ne oz]; exact hO9
        refine ⟨_, rfl, _, rfl, D, rfl, ⟨_, SqL.of (b9.lst hO1 hlD)⟩, ?_⟩
        intro Z hZ
        refine lc_lst (refs (m + 1) la) (fun i H' => Same H9 H' ∧ IsInts H' Z i (Lr f v n)) ⟨(Same.refl H9).new hZ, upd_same⟩ (fun i H' _ ⟨s1, _⟩ => SqL.of (s1 _ _ (b9.lst hO1 hlD))) ?_ ?_
        · rintro i y H' hi ⟨s7, hd⟩
          have hin : i < m + 1 := by
            have := (List.getElem?_eq_some_iff.mp hi).1
            rwa [refs_len] at this
          rw [refs_get la hin] at hi
          cases hi
          have hb := (((bat b9).same s7.rm).at_ i hin).same rm_same
          obtain ⟨d1, a1, c1, pa1, h1⟩ := id hb
          have L := N.lx i (by omega)
          refine ⟨rfl, _, rfl, la i, d1, _, rfl, h1.ins, bfB_no _ _ _ (by decide +kernel) (by decide +kernel) (by decide +kernel), _, rfl, _, rfl, _, _, _, _, rfl, rfl, s7.seq (b9.sq hO1 hP1), zs_last f (by omega), la i, n, 21, f, v i, f n, rfl, hb, L, L.xs n (Nat.le_refl _), fun H2' s2' => ⟨_, _, rfl, rfl, ?_, ?_⟩⟩
          · refine Sz.mulOk Sz.two (n := 1743) ?_ (by decide)
            exact (Sw_sz (A := 1592) (m := 5) (n := n) (q := Mq f (v i) n) (fun i j hi hj => Lv_sz (A := 1570) (by decide) (fun t _ => L.cf (j := t) hi) (L.xs i (by omega)) j hj) (by decide) (fun i hi _ => L.reach (L.xs n (Nat.le_refl _)) hi) n (Nat.le_refl _)).mono (by omega)
          refine ⟨_, s2'.zz hd, by rw [zs_len]; exact small1000 (by omega), (s7.trans s2').put hZ, ?_⟩
          show upd H2' Z _ Z = _
          rw [upd_same, ← zs_snoc]
          rfl
        · rintro H10 ⟨s10, hd10⟩
          rw [refs_len] at hd10
          intro le dle nle ndle nele
          have s11 := made_same (C := CB) nle ndle nele
          have hz10 := s10.held (b9.held hz1 hzo)
          refine ⟨le, dle, q, Z, z, m, 1745, g, Lr f v n, rfl, upd_same, s11.held hz10, (fun e => new_ne nle hz10 e.symm), (s10.trans s11).seq (b9.sq hO1 hQ1), (s11.zz hd10).sq, G.gu, N.ll.ys, by decide, fun H11 b11 hble => ⟨rfl, ?_⟩⟩
          have s12 : Same H9 H11 := s10.trans (Same.made nle ndle b11)
          have hO11 := s12 _ _ hO9
          have hO11r : rm z H11 o = some (.ins C dx f9) := by rw [rm_ne oz]; exact hO11
          refine ⟨_, rfl, o, C, dx, _, rfl, hO11, B_Hull.cl, B_Hull.levers, (by rw [l9]; decide), ?_⟩
          obtain ⟨f12, ef12⟩ : ∃ f12, f12 = putF "levers" (.ref le) f9 := ⟨_, rfl⟩
          rw [← ef12]
          obtain ⟨H12, e12⟩ : ∃ H12, H12 = upd H11 o (.ins C dx f12) := ⟨_, rfl⟩
          rw [← e12]
          have b1112 : But H11 o H12 := by rw [e12]; exact But.upd
          have hO12 : H12 o = some (.ins C dx f12) := by rw [e12]; exact upd_same
          have l12 : f12.length = 6 := by rw [ef12, ef9, ef6]; rfl
          have b912 : But H9 o H12 := (But.of s12).trans b1112
          have b12 := b9.trans b912
          have hpl12 : H12 pl = some (.lst (zs_ (n + 1) f)) := b912.lst hO9 hpl9
          have hbar12 := b912.rm.bat hO9r hne hbar9
          have hble12 := b1112.rm.bat hO11r hne hble
          have hO12r : rm z H12 o = some (.ins C dx f12) := by rw [rm_ne oz]; exact hO12
          have hz12 := b12.held hz1 hzo
          refine ⟨_, rfl, n + 1, rfl, by omega, by omega, ?_⟩
          intro st hst
          have stz : st ≠ z := new_ne hst hz12
          refine lc_rng (fun i H' => Same H12 H' ∧ ∃ sa, BatsAt CB (rm z H') st i m sa g (fun j i => v i j)) ⟨(Same.refl H12).new hst, fun _ => 0, by rw [rm_ne stz]; exact upd_same, fun j hj => by omega⟩ ?_ ?_
          · rintro i H' hi ⟨s13, sa, hs⟩
            rw [Int.zero_add]
            refine ⟨rfl, _, rfl, _, rfl, _, rfl, _, rfl, _, rfl, _, rfl, r, _, i, n + 1, rfl, rfl, rfl, by omega, ?_, s13.seq (b12.sq hO1 hR1), fun t ht => ?_⟩
            · rw [zs_len]
              have : (n + 1) * 1 ≤ (n + 1) * (m + 1) := Nat.mul_le_mul_left _ (by omega)
              omega
            rw [zs_step h (by omega)]
            have es : zs_ (m + 1) (fun j => h (i + (n + 1) * j)) = zs_ (m + 1) (fun j => v j i) := zs_congr fun j _ => by
              rw [ev]
              show h (i + (n + 1) * j) = h (j * (n + 1) + i)
              rw [Nat.mul_comm, Nat.add_comm]
            rw [es]
            have s14 : Same H' (upd H' t (.lst (zs_ (m + 1) (fun j => v j i)))) := (Same.refl H').new ht
            intro y dy ny ndy ney
            have s15 := made_same (C := CB) ny ndy ney
            have hz14 := s14.held (s13.held hz12)
            refine ⟨y, dy, q, t, z, m, 21, g, (fun j => v j i), rfl, upd_same, s15.held hz14, (fun e => new_ne ny hz14 e.symm), ((s13.trans s14).trans s15).seq (b12.sq hO1 hQ1), SqL.of (s15 _ _ upd_same), G.gu, (N.ls i (by omega)).ys, by decide, fun H3 b3 hbat => ⟨rfl, ?_⟩⟩
            have s16 : Same H' H3 := s14.trans (Same.made ny ndy b3)
            refine ⟨_, s16 _ _ (rm_some hs.lst).2, by rw [refs_len]; exact small1000 (by omega), (s13.trans s16).put hst, fun k => if k = i then y else sa k, ?_⟩
            rw [rm_upd stz]
            exact hs.snoc s16.rm (by omega) hbat
          · rintro H13 ⟨s13, sa, hs⟩
            have hO13 := s13 _ _ hO12
            have hO13r : rm z H13 o = some (.ins C dx f12) := by rw [rm_ne oz]; exact hO13
            refine ⟨_, rfl, o, C, dx, _, rfl, hO13, B_Hull.cl, B_Hull.stations, (by rw [l12]; decide), ?_⟩
            obtain ⟨f14, ef14⟩ : ∃ f14, f14 = putF "stations" (.ref st) f12 := ⟨_, rfl⟩
            rw [← ef14]
            obtain ⟨H14, e14⟩ : ∃ H14, H14 = upd H13 o (.ins C dx f14) := ⟨_, rfl⟩
            rw [← e14]
            have b1314 : But H13 o H14 := by rw [e14]; exact But.upd
            have hO14 : H14 o = some (.ins C dx f14) := by rw [e14]; exact upd_same
            have l14 : f14.length = 7 := by rw [ef14, ef12, ef9, ef6]; rfl
            refine ⟨_, rfl, o, C, dx, _, rfl, hO14, B_Hull.cl, B_Hull.records, (by rw [l14]; decide), ?_⟩
            have b15 : But H14 o (upd H14 o (.ins C dx (putF "records" .non f14))) := But.upd
            have b1315 := b1314.trans b15
            have b1215 : But H12 o (upd H14 o (.ins C dx (putF "records" .non f14))) := (But.of s13).trans b1315
            refine k _ (((But.of s1).trans b12).trans b1215) ⟨dx, pl, ar, le, st, sa, .non, ?_, by show rm z _ pl = _; rw [rm_ne plz]; exact b1215.lst hO12 hpl12, b1215.rm.bat hO12r hne hbar12, b1215.rm.bat hO12r hne hble12, b1315.rm.lst hO13r hs.lst, fun j hj => b1315.rm.bat hO13r hne (hs.at_ j hj), .inl rfl⟩
            rw [rm_ne oz, upd_same, ef14, ef12, ef9, ef6]
            rfl
end
end Hf
set_option linter.all false
set_option maxRecDepth 100000
set_option maxHeartbeats 4000000
set_option Elab.async false
namespace Hf
open PySem PySem.Spec PyProof.Rows L2
open PySem.W (Codec)
open Hull
def Keeps (H H' : Hp) : Prop := ∀ b ob, H b = some ob → (∀ C dx fs, ob ≠ .ins C dx fs) → H' b = some ob
theorem Keeps.refl {H : Hp} : Keeps H H := fun _ _ h _ => h
theorem Keeps.trans {H H1 H2 : Hp} (a : Keeps H H1) (b : Keeps H1 H2) : Keeps H H2 := fun c oc h n => b _ _ (a _ _ h n) n
theorem Keeps.of {H H1 : Hp} (a : Same H H1) : Keeps H H1 := fun c oc h _ => a _ _ h
theorem But.keeps {H H1 : Hp} {o C dx : Addr} {fs : List (Str × V)} (a : But H o H1) (hO : H o = some (.ins C dx fs)) : Keeps H H1 := fun c oc h n => a _ _ h fun q => by
  rw [q, hO] at h
  exact n _ _ _ (Option.some.inj h).symm
theorem Keeps.lst {H H' : Hp} (k : Keeps H H') {b : Addr} {xs : List V} (h : H b = some (.lst xs)) : H' b = some (.lst xs) := k _ _ h fun _ _ _ q => by cases q
theorem Keeps.sq {H H' : Hp} (s : Keeps H H') {K : PySem.W.Frag} {b : Addr} {xs : List V} (h : SqL K H b xs) : SqL K H' b xs := by
  rcases h with (h | ⟨oo, h⟩) | h
  · exact .inl (.inl (s.lst h))
  · exact .inl (.inr ⟨oo, s _ _ h fun _ _ _ q => by cases q⟩)
  · exact .inr h
def New (H : Hp) (p : Addr) : Prop := ∀ xs, H p ≠ some (.lst xs)
theorem Keeps.new {H H' : Hp} (s : Keeps H H') {p : Addr} (h : H' p = none) : New H p := fun xs q => by
  rw [s.lst q] at h
  cases h
theorem sqT_same {K : PySem.W.Frag} {H H' : Hp} {t : Addr} {xs : List V} (s : ∀ b ob, H b = some ob → (∀ C dx fs, ob ≠ .ins C dx fs) → H' b = some ob) (h : SqT K H t xs) : SqT K H' t xs := by
  rcases h with (h | ⟨oo, h⟩) | h
  · exact .inl (.inl (s _ _ h fun _ _ _ q => by cases q))
  · exact .inl (.inr ⟨oo, s _ _ h fun _ _ _ q => by cases q⟩)
  · exact .inr h
def bfD (hv : V) : List (Str × V) := putF "hull" hv []
theorem bfD_hull (hv : V) : (bfD hv).lookup ("hull" : Str) = some hv := by
  unfold bfD
  rw [lookup_putF, if_pos rfl]
theorem bfD_no (hv : V) {m : Str} (h : ¬ m = "hull") : (bfD hv).lookup m = none := by
  unfold bfD
  rw [lookup_putF, if_neg h]
  rfl
theorem bfD_put (hv v : V) : putF "hull" v (bfD hv) = bfD v := putF_twice ..
structure TxtD (K : PySem.W.Frag) (C : Addr) : Prop where
  cl : Cls K C
  hull : NoAttr K C "hull"
def Holds (CH CB : Addr) (H : Hp) (hv : V) (s : LoftFloatSeed.State) : Prop := (s = none ∧ hv = .non) ∨ ∃ hp T n m x u v, s = some T ∧ hv = .ref hp ∧ IsHull CH CB H hp n m x u v ∧ Nums n m x u v ∧ Tab T n m x u v
def DeskAt (CD CH CB : Addr) (H : Hp) (o : Addr) (s : LoftFloatSeed.State) : Prop := ∃ dx hv, H o = some (.ins CD dx (bfD hv)) ∧ Holds CH CB H hv s
theorem Holds.same {CH CB : Addr} {H H' : Hp} {hv : V} {s : LoftFloatSeed.State} (h : Holds CH CB H hv s) (e : Same H H') : Holds CH CB H' hv s := by
  rcases h with h | ⟨hp, T, n, m, x, u, v, h1, h2, h3, h4, h5⟩
  · exact .inl h
  · exact .inr ⟨hp, T, n, m, x, u, v, h1, h2, h3.same e, h4, h5⟩
theorem DeskAt.same {CD CH CB : Addr} {H H' : Hp} {o : Addr} {s : LoftFloatSeed.State} (h : DeskAt CD CH CB H o s) (e : Same H H') : DeskAt CD CH CB H' o s := by
  obtain ⟨dx, hv, h1, h2⟩ := h
  exact ⟨dx, hv, e _ _ h1, h2.same e⟩
def callZ (c z : Int) : LoftFloatSeed.Call := if c = 2 then .area z else if c = 3 then .volume z else if c = 4 then .centre z else .meta_ z
theorem z_area (s : LoftFloatSeed.State) (z : Int) : (LoftFloatSeed.step s (callZ 2 z)).2 = LoftFloatSeed.at_ s z fun (T : Loft.Table) => LoftFloatSeed.tells (LoftFloatSeed.number (T.area (z : Rat))) := rfl
theorem z_volume (s : LoftFloatSeed.State) (z : Int) : (LoftFloatSeed.step s (callZ 3 z)).2 = LoftFloatSeed.at_ s z fun (T : Loft.Table) => LoftFloatSeed.tells (LoftFloatSeed.number (T.volume (z : Rat))) := rfl
theorem z_centre (s : LoftFloatSeed.State) (z : Int) : (LoftFloatSeed.step s (callZ 4 z)).2 = LoftFloatSeed.at_ s z fun (T : Loft.Table) => if T.volume (z : Rat) ≤ 0 then LoftFloatSeed.no 5 else LoftFloatSeed.tells (LoftFloatSeed.number (T.centre (z : Rat)).1 ++ LoftFloatSeed.number (T.centre (z : Rat)).2) := rfl
theorem z_meta (s : LoftFloatSeed.State) (z : Int) : (LoftFloatSeed.step s (callZ 5 z)).2 = LoftFloatSeed.at_ s z fun (T : Loft.Table) => if T.volume (z : Rat) ≤ 0 then LoftFloatSeed.no 5 else LoftFloatSeed.tells (LoftFloatSeed.number (T.meta_ (z : Rat))) := rfl
theorem z_out {T : Loft.Table} {n m : Nat} {x u : Nat → Int} {v : Nat → Nat → Int} (B : Tab T n m x u v) {c z : Int} (hc : c = 2 ∨ c = 3 ∨ c = 4 ∨ c = 5) (h : ¬ (u 0 ≤ z ∧ z ≤ u m)) : (LoftFloatSeed.step (some T) (callZ c z)).2 = [-4] := by
  rcases hc with rfl | rfl | rfl | rfl
  · rw [z_area, at_out B h]
  · rw [z_volume, at_out B h]
  · rw [z_centre, at_out B h]
  · rw [z_meta, at_out B h]
theorem z_none {T : Loft.Table} {n m : Nat} {x u : Nat → Int} {v : Nat → Nat → Int} (B : Tab T n m x u v) {c z : Int} (hc : c = 4 ∨ c = 5) (h1 : u 0 ≤ z) (h2 : z ≤ u m) (h : ¬ 0 < Vo x u v n m z) : (LoftFloatSeed.step (some T) (callZ c z)).2 = [-5] := by
  rcases hc with rfl | rfl
  · rw [z_centre, at_in B h1 h2, ans_none B h]
  · rw [z_meta, at_in B h1 h2, ans_none B h]
def callL (c : Int) (ws hs : List Int) : LoftFloatSeed.Call := if c = 6 then .depth ws hs else .stand ws hs
section
variable {P : Program} {w : World} {K : PySem.W.Frag} {mg : Str → Option Value} {base : Heap}
abbrev s_Desk___init__ : Stmt := inClass (top 49) 0
theorem sc_Desk___init__ : FnScope ["self"] ["self"] (defScope s_Desk___init__) := ⟨rfl, rfl, rfl, by decide +kernel, rfl, by decide +kernel, by decide +kernel⟩
def spDInit (CD CH CB : Addr) : Sp := fun vs H Q E => ∃ (o dx : Addr), vs = [.ref o] ∧ H o = some (.ins CD dx []) ∧ ∀ H', But H o H' → DeskAt CD CH CB H' o none → Q .non H'
theorem ok_dinit {f CD CH CB : Addr} {fd : FuncData} (F : Fun K "__init__" "Desk.__init__" s_Desk___init__ f fd) (B_Desk : TxtD K CD) : FnOk P w K mg base CX0 1 f fd ["self"] (spDInit CD CH CB) := by
  refine F.ok sc_Desk___init__ (fun vs H Q E h => ?_) (fun cdv A outer s H vs Q E hr h => ?_)
  · obtain ⟨o, dx, rfl, _⟩ := h
    rfl
  · obtain ⟨o, dx, rfl, hO, k⟩ := h
    refine ⟨_, (pss_one (ps_fld (pv 0) pe_non rfl)), ?_⟩
    exact ⟨_, rfl, o, CD, dx, _, rfl, hO, B_Desk.cl, B_Desk.hull, (by show 0 < 1000; decide), k _ But.upd ⟨dx, .non, upd_same, .inl ⟨rfl, rfl⟩⟩⟩
abbrev s_answer_at : Stmt := top 50
theorem sc_answer_at : FnScope ["hull", "call", "z"] ["hull", "call", "z"] (defScope s_answer_at) := ⟨rfl, rfl, rfl, by decide +kernel, rfl, by decide +kernel, by decide +kernel⟩
def spAt (C CB : Addr) : Sp := fun vs H Q E => ∃ (o : Addr) (n m : Nat) (x u : Nat → Int) (v : Nat → Nat → Int) (T : Loft.Table) (c z : Int), vs = [.ref o, .int c, .int z] ∧ IsHull C CB H o n m x u v ∧ Nums n m x u v ∧ Tab T n m x u v ∧ (c = 2 ∨ c = 3 ∨ c = 4 ∨ c = 5) ∧
  ∀ (p : Addr) (H' : Hp), Same H H' → New H p → H' p = some (.lst ((LoftFloatSeed.step (some T) (callZ c z)).2.map V.int)) → Q (.ref p) H'
theorem ok_at {f C CB : Addr} {fd : FuncData} (F : Fun K "answer_at" "answer_at" s_answer_at f fd) (T : Txt K mg) (B_Hull : TxtH K C)
    (G_Hull_spans : HasM P w K mg base C 1 "spans" ["self", "z"] (spSpans C CB)) (G_Hull_area : HasM P w K mg base C 3 "area" ["self", "z"] (spArea C CB)) (G_Hull_volume : HasM P w K mg base C 4 "volume" ["self", "z"] (spVolume C CB))
    (G_Hull_has_volume : HasM P w K mg base C 4 "has_volume" ["self", "z"] (spHas C CB)) (G_Hull_centre : HasM P w K mg base C 4 "centre" ["self", "z"] (spCentre C CB)) (G_Hull_metacentre : HasM P w K mg base C 7 "metacentre" ["self", "z"] (spMeta C CB)) :
    FnOk P w K mg base CX0 8 f fd ["hull", "call", "z"] (spAt C CB) := by
  refine F.ok sc_answer_at (fun vs H Q E h => ?_) (fun cdv A outer s H vs Q E hr h => ?_)
  · obtain ⟨o, n, m, x, u, v, Tb, c, z, rfl, _⟩ := h
    rfl
  · obtain ⟨o, n, m, x, u, v, Tb, c, z, rfl, ⟨dx, pl, ar, le, st, sa, rv, hH⟩, N, B, hc, k⟩ := h
    have no : ∀ {mm : Str}, ¬ mm ∈ (["share", "places", "lowest", "highest", "areas", "levers", "stations", "records"] : List Str) → (bfH (Sh x n) pl (u 0) (u m) ar le st rv).lookup mm = none := fun q => bfH_no _ _ _ _ _ _ _ _ q
    have hI : IsHull C CB H o n m x u v := ⟨dx, pl, ar, le, st, sa, rv, hH⟩
    have one : ∀ {zz : Int}, (LoftFloatSeed.step (some Tb) (callZ c z)).2 = [zz] → ([V.int zz] : List V).length ≤ sizeLine ∧ ∀ p, H p = none → Q (.ref p) (upd H p (.lst [V.int zz])) := fun {zz} e => ⟨(by show 1 ≤ sizeLine; decide), fun p hp => k p _ ((Same.refl H).new hp) (Keeps.refl.new hp) (by rw [e]; exact upd_same)⟩
    have cat : ∀ {L : List Int} {t p : Addr} {H1 : Hp}, H t = none → Same (upd H t (.lst [.int 0])) H1 → (LoftFloatSeed.step (some Tb) (callZ c z)).2 = 0 :: L → L.length ≤ 10 → H1 p = some (.lst (L.map V.int)) →
        rCat (.ref t) (.ref p) H1 Q := fun {L t p H1} ht s1 e hl hp => by
      refine ⟨t, p, _, _, rfl, rfl, s1 _ _ upd_same, hp, ?_, fun q hq => ?_⟩
      · rw [List.length_map]
        exact Nat.le_trans (Nat.add_le_add_left hl _) (by decide)
      · have s2 : Same H H1 := ((Same.refl H).new ht).trans s1
        refine k q _ (s2.new hq) ((Keeps.of s2).new hq) ?_
        rw [e]
        exact upd_same
    refine ⟨_, (pss_cons (ps_if (pt_not (pt_val (pe_hasM (pv 0) B_Hull.cl G_Hull_spans (hr.mono (by decide)) (pa_cons (pv 2) pa_nil)))) (pss_one (ps_ret (pe_lst (pa_cons (pe_glob rfl T.v_OUTSIDE_LEVELS.1 T.v_OUTSIDE_LEVELS.2) pa_nil)))) pss_nil)
        (pss_cons (ps_if (pt_cmpR op_eq (pv 1) (pe_glob rfl T.v_AREA.1 T.v_AREA.2) (nomark _)) (pss_one (ps_ret (pe_op op_cat (pe_lst (pa_cons pe_int pa_nil)) (pe_hasM (pv 0) B_Hull.cl G_Hull_area (hr.mono (by decide)) (pa_cons (pv 2) pa_nil))))) pss_nil)
        (pss_cons (ps_if (pt_cmpR op_eq (pv 1) (pe_glob rfl T.v_VOLUME.1 T.v_VOLUME.2) (nomark _)) (pss_one (ps_ret (pe_op op_cat (pe_lst (pa_cons pe_int pa_nil)) (pe_hasM (pv 0) B_Hull.cl G_Hull_volume (hr.mono (by decide)) (pa_cons (pv 2) pa_nil))))) pss_nil)
        (pss_cons (ps_if (pt_not (pt_val (pe_hasM (pv 0) B_Hull.cl G_Hull_has_volume (hr.mono (by decide)) (pa_cons (pv 2) pa_nil)))) (pss_one (ps_ret (pe_lst (pa_cons (pe_glob rfl T.v_NO_VOLUME.1 T.v_NO_VOLUME.2) pa_nil)))) pss_nil)
        (pss_cons (ps_if (pt_cmpR op_eq (pv 1) (pe_glob rfl T.v_CENTRE.1 T.v_CENTRE.2) (nomark _)) (pss_one (ps_ret (pe_op op_cat (pe_lst (pa_cons pe_int pa_nil)) (pe_hasM (pv 0) B_Hull.cl G_Hull_centre (hr.mono (by decide)) (pa_cons (pv 2) pa_nil))))) pss_nil)
        (pss_one (ps_ret (pe_op op_cat (pe_lst (pa_cons pe_int pa_nil)) (pe_hasM (pv 0) B_Hull.cl G_Hull_metacentre (hr.mono (by decide)) (pa_cons (pv 2) pa_nil)))))))))), ?_⟩
    refine ⟨_, rfl, o, dx, _, rfl, hH.ins, no (by decide +kernel), _, rfl, o, n, m, x, u, v, z, rfl, hI, _, rfl, ?_⟩
    by_cases hz : u 0 ≤ z ∧ z ≤ u m
    case neg =>
      have e : (decide (u 0 ≤ z) && decide (z ≤ u m)) = false := by
        rw [← Bool.decide_and, decide_eq_false hz]
      rw [e]
      refine iteT (one ?_)
      exact z_out B hc hz
    have e : (decide (u 0 ≤ z) && decide (z ≤ u m)) = true := by
      rw [← Bool.decide_and, decide_eq_true hz]
    rw [e]
    refine iteF ?_
    obtain ⟨kk, k1, k2, k3⟩ := B.piece hz.1 hz.2
    have I : In u m kk z := ⟨hz.1, hz.2, k1, k2, k3⟩
    refine ⟨_, rfl, rfl, _, rfl, ?_⟩
    by_cases c2 : c = 2
    · subst c2
      rw [decide_eq_true rfl]
      refine iteT ⟨(by show 1 ≤ sizeLine; decide), fun t ht => ?_⟩
      have s0 : Same H (upd H t (.lst [.int 0])) := (Same.refl H).new ht
      exact ⟨_, rfl, o, dx, _, rfl, s0 _ _ hH.ins, no (by decide +kernel), _, rfl, o, n, m, x, u, v, z, kk, rfl, hI.same s0, N, I, fun p H1 s1 hp => cat ht s1 (by rw [z_area, at_in B hz.1 hz.2]; exact ans_area B k1 k2 k3 hz.2) (by show 2 ≤ 10; decide) hp⟩
    rw [decide_eq_false (fun q => by injection q with q; exact c2 q)]
    refine iteF ⟨_, rfl, rfl, _, rfl, ?_⟩
    by_cases c3 : c = 3
    · subst c3
      rw [decide_eq_true rfl]
      refine iteT ⟨(by show 1 ≤ sizeLine; decide), fun t ht => ?_⟩
      have s0 : Same H (upd H t (.lst [.int 0])) := (Same.refl H).new ht
      exact ⟨_, rfl, o, dx, _, rfl, s0 _ _ hH.ins, no (by decide +kernel), _, rfl, o, n, m, x, u, v, z, kk, rfl, hI.same s0, N, I, fun p H1 s1 hp => cat ht s1 (by rw [z_volume, at_in B hz.1 hz.2]; exact ans_volume B z) (by show 2 ≤ 10; decide) hp⟩
    rw [decide_eq_false (fun q => by injection q with q; exact c3 q)]
    refine iteF ⟨_, rfl, o, dx, _, rfl, hH.ins, no (by decide +kernel), _, rfl, o, n, m, x, u, v, z, kk, rfl, hI, N, I, _, rfl, ?_⟩
    have hc' : c = 4 ∨ c = 5 := by omega
    by_cases hV : 0 < Vo x u v n m z
    case neg =>
      rw [decide_eq_false hV]
      refine iteT (one ?_)
      exact z_none B hc' hz.1 hz.2 hV
    rw [decide_eq_true hV]
    refine iteF ⟨_, rfl, rfl, _, rfl, ?_⟩
    by_cases c4 : c = 4
    · subst c4
      rw [decide_eq_true rfl]
      refine iteT ⟨(by show 1 ≤ sizeLine; decide), fun t ht => ?_⟩
      have s0 : Same H (upd H t (.lst [.int 0])) := (Same.refl H).new ht
      exact ⟨_, rfl, o, dx, _, rfl, s0 _ _ hH.ins, no (by decide +kernel), _, rfl, o, n, m, x, u, v, z, kk, rfl, hI.same s0, N, I, hV, fun p H1 s1 hp => cat ht s1 (by rw [z_centre, at_in B hz.1 hz.2, ans_some B hV]; exact ans_centre B hV) (by show 4 ≤ 10; decide) hp⟩
    rw [decide_eq_false (fun q => by injection q with q; exact c4 q)]
    have c5 : c = 5 := by omega
    subst c5
    refine iteF ⟨(by show 1 ≤ sizeLine; decide), fun t ht => ?_⟩
    have s0 : Same H (upd H t (.lst [.int 0])) := (Same.refl H).new ht
    exact ⟨_, rfl, o, dx, _, rfl, s0 _ _ hH.ins, no (by decide +kernel), _, rfl, o, n, m, x, u, v, z, kk, rfl, hI.same s0, N, I, hV, fun p H1 s1 hp => cat ht s1 (by rw [z_meta, at_in B hz.1 hz.2, ans_some B hV]; exact ans_meta B k1 k2 k3 hz.2 hV) (by show 2 ≤ 10; decide) hp⟩
end
end Hf
set_option linter.all false
set_option maxRecDepth 100000
set_option maxHeartbeats 4000000
set_option Elab.async false
namespace Hf
open PySem PySem.Spec PyProof.Rows L2
open PySem.W (Codec)
open Hull
theorem sum_abs {M : Nat} : ∀ (l : List Int), (∀ z ∈ l, z.natAbs ≤ M) → l.sum.natAbs ≤ l.length * M
  | [], _ => by simp
  | a :: l, h => by
    have h1 := h a List.mem_cons_self
    have h2 := sum_abs l fun z hz => h z (List.mem_cons_of_mem _ hz)
    rw [List.sum_cons, List.length_cons, Nat.add_mul]
    omega
theorem _root_.Hull.Loads.wsz {ws hs : List Int} (L : Loads ws hs) : Sz 73 ws.sum := by
  have h := sum_abs (M := 18446744073709551615) ws fun z hz => by
    have := L.w z hz
    omega
  have : ws.length * 18446744073709551615 ≤ 256 * 18446744073709551615 := Nat.mul_le_mul_right _ L.most
  unfold Sz
  have e : 2 ^ 73 = 9444732965739290427392 := by decide
  rw [e]
  omega
theorem getD_mem {l : List Int} {k : Nat} (h : k < l.length) : l.getD k 0 ∈ l := by
  rw [List.getD_eq_getElem?_getD, List.getElem?_eq_getElem h]
  exact List.getElem_mem h
theorem _root_.Hull.Loads.lsz {ws hs : List Int} (L : Loads ws hs) : Sz 93 (Lw ws hs) := by
  have h := sum_abs (M := 18446744073709551615 * 1048575) ((List.range ws.length).map fun k => ws.getD k 0 * hs.getD k 0) fun z hz => by
    obtain ⟨k, hk, rfl⟩ := List.mem_map.mp hz
    have hk := List.mem_range.mp hk
    have h1 := L.w _ (getD_mem hk)
    have h2 := L.h _ (getD_mem (show k < hs.length by rw [← L.len]; exact hk))
    rw [Int.natAbs_mul]
    exact Nat.mul_le_mul (by omega) (by omega)
  rw [List.length_map, List.length_range] at h
  have : ws.length * (18446744073709551615 * 1048575) ≤ 256 * (18446744073709551615 * 1048575) := Nat.mul_le_mul_right _ L.most
  unfold Sz Lw
  have e : 2 ^ 93 = 9903520314283042199192993792 := by decide
  rw [e]
  omega
theorem name_read {i : Nat} {v : V} {σ : L2.St} {H : Hp} {Q : L2.St → Hp → Prop} (h : Q (σ.set i (some v)) H) : gName i v σ H Q := h
theorem l_depth (s : LoftFloatSeed.State) (ws hs : List Int) : (LoftFloatSeed.step s (callL 6 ws hs)).2 = LoftFloatSeed.laden s ws hs fun (T : Loft.Table) (l : List Loft.Load) => match T.floats (Loft.weight l) with
    | some z => LoftFloatSeed.tells [z]
    | none => LoftFloatSeed.no 5 := rfl
theorem l_stand (s : LoftFloatSeed.State) (ws hs : List Int) : (LoftFloatSeed.step s (callL 7 ws hs)).2 = LoftFloatSeed.laden s ws hs fun (T : Loft.Table) (l : List Loft.Load) => match T.floats (Loft.weight l) with
    | some z => LoftFloatSeed.tells (LoftFloatSeed.number (T.meta_ (z : Rat) - Loft.height l))
    | none => LoftFloatSeed.no 5 := rfl
section
variable {T : Loft.Table} {n m : Nat} {x u : Nat → Int} {v : Nat → Nat → Int} {c : Int} {ws hs : List Int}
theorem l_no (B : Tab T n m x u v) (hc : c = 6 ∨ c = 7) (h : ¬ Loads ws hs) : (LoftFloatSeed.step (some T) (callL c ws hs)).2 = [-1] := by
  rcases hc with rfl | rfl
  · rw [l_depth, laden_no B h]
  · rw [l_stand, laden_no B h]
theorem l_deep (B : Tab T n m x u v) (hc : c = 6 ∨ c = 7) (L : Loads ws hs) (h : ws.sum = 0 ∨ 2000 < u m - u 0) : (LoftFloatSeed.step (some T) (callL c ws hs)).2 = [-9] := by
  rcases hc with rfl | rfl
  · rw [l_depth, laden_deep B L h]
  · rw [l_stand, laden_deep B L h]
theorem l_none (B : Tab T n m x u v) (hc : c = 6 ∨ c = 7) (L : Loads ws hs) (h : ¬ (ws.sum = 0 ∨ 2000 < u m - u 0)) (hz : Fl x u v n m (ws.sum * Un x u n m) = none) : (LoftFloatSeed.step (some T) (callL c ws hs)).2 = [-5] := by
  have hfl := (floats_is B L).trans hz
  rcases hc with rfl | rfl
  · rw [l_depth, laden_at B L h]
    simp only [hfl]
    rfl
  · rw [l_stand, laden_at B L h]
    simp only [hfl]
    rfl
theorem l_six (B : Tab T n m x u v) (L : Loads ws hs) (h : ¬ (ws.sum = 0 ∨ 2000 < u m - u 0)) {z : Int} (hz : Fl x u v n m (ws.sum * Un x u n m) = some z) : (LoftFloatSeed.step (some T) (callL 6 ws hs)).2 = [0, z] := by
  have hfl := (floats_is B L).trans hz
  rw [l_depth, laden_at B L h]
  simp only [hfl]
  rfl
theorem l_seven (B : Tab T n m x u v) (L : Loads ws hs) (h : ¬ (ws.sum = 0 ∨ 2000 < u m - u 0)) {z : Int} (hz : Fl x u v n m (ws.sum * Un x u n m) = some z) : (LoftFloatSeed.step (some T) (callL 7 ws hs)).2 = LoftFloatSeed.tells (LoftFloatSeed.number (T.meta_ (z : Rat) - Loft.height (loadsOf ws hs))) := by
  have hfl := (floats_is B L).trans hz
  rw [l_stand, laden_at B L h]
  simp only [hfl]
end
section
variable {P : Program} {w : World} {K : PySem.W.Frag} {mg : Str → Option Value} {base : Heap}
abbrev s_answer_loaded : Stmt := top 51
theorem sc_answer_loaded : FnScope ["hull", "call", "weights", "heights", "weight", "z"] ["hull", "call", "weights", "heights"] (defScope s_answer_loaded) := ⟨rfl, rfl, rfl, by decide +kernel, rfl, by decide +kernel, by decide +kernel⟩
def spLoaded (K : PySem.W.Frag) (C CB : Addr) : Sp := fun vs H Q E => ∃ (o a b zq : Addr) (n m : Nat) (x u : Nat → Int) (v : Nat → Nat → Int) (T : Loft.Table) (c : Int) (ws hs : List Int), vs = [.ref o, .int c, .ref a, .ref b] ∧ IsHull C CB (rm zq H) o n m x u v ∧ H zq ≠ none ∧ Nums n m x u v ∧ Tab T n m x u v ∧
  SqL K H a (ws.map V.int) ∧ SqL K H b (hs.map V.int) ∧ ws.length ≤ 100000 ∧ hs.length ≤ 100000 ∧ (c = 6 ∨ c = 7) ∧
  ∀ (p : Addr) (H' : Hp), But H o H' → IsHull C CB (rm zq H') o n m x u v → New H p → H' p = some (.lst ((LoftFloatSeed.step (some T) (callL c ws hs)).2.map V.int)) → Q (.ref p) H'
theorem ok_loaded {f C CB : Addr} {fd : FuncData} (F : Fun K "answer_loaded" "answer_loaded" s_answer_loaded f fd) (T : Txt K mg) (B_Hull : TxtH K C) (hne : CB ≠ C)
    (G_are_loads : Has P w K mg base 2 "are_loads" ["weights", "heights"] (spLoads K)) (G_lever : Has P w K mg base 1 "lever" ["weights", "heights"] (spLever K))
    (G_Hull_too_high : HasM P w K mg base C 1 "too_high" ["self"] (spHigh C CB)) (G_Hull_floating_height : HasM P w K mg base C 3 "floating_height" ["self", "weight"] (spFloat C CB)) (G_Hull_stand : HasM P w K mg base C 7 "stand" ["self", "z", "weight", "lever"] (spStand C CB)) :
    FnOk P w K mg base CX0 8 f fd ["hull", "call", "weights", "heights"] (spLoaded K C CB) := by
  refine F.ok sc_answer_loaded (fun vs H Q E h => ?_) (fun cdv A outer s H vs Q E hr h => ?_)
  · obtain ⟨o, a, b, zq, n, m, x, u, v, Tb, c, ws, hs, rfl, _⟩ := h
    rfl
  · obtain ⟨o, a, b, zq, n, m, x, u, v, Tb, c, ws, hs, rfl, hIr, hzq, N, B, hA, hB, lw, lh, hc, k⟩ := h
    have no : ∀ {pl ar le st : Addr} {rv : V} {mm : Str}, ¬ mm ∈ (["share", "places", "lowest", "highest", "areas", "levers", "stations", "records"] : List Str) → (bfH (Sh x n) pl (u 0) (u m) ar le st rv).lookup mm = none := fun q => bfH_no _ _ _ _ _ _ _ _ q
    have hI := hIr.same rm_same
    have one : ∀ {zz : Int} {H1 : Hp}, Same H H1 → (LoftFloatSeed.step (some Tb) (callL c ws hs)).2 = [zz] → ([V.int zz] : List V).length ≤ sizeLine ∧ ∀ p, H1 p = none → Q (.ref p) (upd H1 p (.lst [V.int zz])) := fun {zz H1} s1 e => ⟨(by show 1 ≤ sizeLine; decide), fun p hp => k p _ (But.of (s1.new hp)) (hIr.same (s1.new hp).rm) ((Keeps.of s1).new hp) (by rw [e]; exact upd_same)⟩
    refine ⟨_, (pss_cons (ps_if (pt_not (pt_val (pe_has G_are_loads (hr.mono (by decide)) (pa_cons (pv 2) (pa_cons (pv 3) pa_nil))))) (pss_one (ps_ret (pe_lst (pa_cons (pe_glob rfl T.v_NO_LOADS.1 T.v_NO_LOADS.2) pa_nil)))) pss_nil)
        (pss_cons (ps_set (i := 4) sc_answer_loaded.nd rfl (Or.inl rfl) (pe_callB (call_sum rfl) (by rfl) T.n_sum PyProof.Rows.boot_sum (pa_cons (pv 2) pa_nil)))
        (pss_cons (ps_if (PW.pt (pw_or (pt_cmpR op_eq (pv 4) pe_int (nomark _)) (pw_or1 (pt_val (pe_hasM0 (pv 0) B_Hull.cl G_Hull_too_high (hr.mono (by decide))))))) (pss_one (ps_ret (pe_lst (pa_cons (pe_glob rfl T.v_BEYOND_DEPTHS.1 T.v_BEYOND_DEPTHS.2) pa_nil)))) pss_nil)
        (pss_cons (ps_set (i := 5) sc_answer_loaded.nd rfl (Or.inl rfl) (pe_hasM (pv 0) B_Hull.cl G_Hull_floating_height (hr.mono (by decide)) (pa_cons (pv 4) pa_nil)))
        (pss_cons (ps_if (pt_cmpR op_isN (pv 5) pe_non (nomark _)) (pss_one (ps_ret (pe_lst (pa_cons (pe_glob rfl T.v_NO_HEIGHT.1 T.v_NO_HEIGHT.2) pa_nil)))) pss_nil)
        (pss_cons (ps_if (pt_cmpR op_eq (pv 1) (pe_glob rfl T.v_DEPTH.1 T.v_DEPTH.2) (nomark _)) (pss_one (ps_ret (pe_lst (pa_cons pe_int (pa_cons (pv 5) pa_nil))))) pss_nil)
        (pss_one (ps_ret (pe_op op_cat (pe_lst (pa_cons pe_int pa_nil)) (pe_hasM (pv 0) B_Hull.cl G_Hull_stand (hr.mono (by decide)) (pa_cons (pv 5) (pa_cons (pv 4) (pa_cons (pe_has G_lever (hr.mono (by decide)) (pa_cons (pv 2) (pa_cons (pv 3) pa_nil))) pa_nil))))))))))))), ?_⟩
    refine ⟨_, rfl, _, rfl, a, b, ws, hs, rfl, hA, hB, lw, lh, fun H1 c1 s1 hc1 => ⟨_, rfl, ?_⟩⟩
    cases c1 with
    | false =>
      have nL : ¬ Loads ws hs := fun L => by cases hc1.mpr L
      refine iteT (one s1 ?_)
      exact l_no B hc nL
    | true =>
      have L : Loads ws hs := hc1.mp rfl
      refine iteF ⟨_, rfl, a, ws, rfl, s1.seq hA, ?_⟩
      have hI1 := hI.same s1
      obtain ⟨dx, pl, ar, le, st, sa, rv, hH1⟩ := id hI1
      refine name_read ?_
      dsimp only
      refine seq_read ?_
      refine ifs_read ?_
      refine or_read (decide (V.int ws.sum = V.int 0)) (decide (2000 < u m - u 0)) (fun Q' q' => ⟨_, rfl, rfl, _, rfl, q'⟩) (fun _ Q' q' => ⟨_, rfl, o, dx, _, rfl, hH1.ins, no (by decide +kernel), o, n, m, x, u, v, rfl, hI1, _, rfl, q'⟩) ?_
      have w0 : 0 ≤ ws.sum := sum_nonneg ws fun z hz => (L.w z hz).1
      by_cases hd : ws.sum = 0 ∨ 2000 < u m - u 0
      · have e : (decide (V.int ws.sum = V.int 0) || decide (2000 < u m - u 0)) = true := by
          rw [Bool.or_eq_true, decide_eq_true_eq, decide_eq_true_eq]
          rcases hd with h | h
          · exact .inl (by rw [h])
          · exact .inr h
        rw [e]
        refine iteT (one s1 ?_)
        exact l_deep B hc L hd
      have e : (decide (V.int ws.sum = V.int 0) || decide (2000 < u m - u 0)) = false := by
        rw [Bool.or_eq_false_iff, decide_eq_false_iff_not, decide_eq_false_iff_not]
        exact ⟨fun q => hd (.inl (by injection q)), fun q => hd (.inr q)⟩
      rw [e]
      have W0 : 0 < ws.sum := by omega
      refine iteF ⟨_, rfl, o, dx, _, rfl, hH1.ins, no (by decide +kernel), _, rfl, o, zq, n, m, x, u, v, ws.sum, rfl, hIr.same s1.rm, s1.held hzq, N, hne, W0, L.wsz, by omega, fun H2 b2 hI2r => ?_⟩
      have hI2 := hI2r.same rm_same
      have b02 : But H o H2 := (But.of s1).trans b2
      obtain ⟨dx0, pl0, ar0, le0, st0, sa0, rv0, hH0⟩ := id hI
      have k02 : Keeps H H2 := b02.keeps hH0.ins
      cases hz : Fl x u v n m (ws.sum * Un x u n m) with
      | none =>
        refine ⟨_, rfl, rfl, _, rfl, iteT ⟨(by show 1 ≤ sizeLine; decide), fun p hp => ?_⟩⟩
        have s3 : Same H2 (upd H2 p (.lst [.int (-5)])) := (Same.refl H2).new hp
        refine k p _ (b02.trans (But.of s3)) (hI2r.same s3.rm) (k02.new hp) ?_
        have ea := l_none B hc L hd hz
        rw [ea]
        exact upd_same
      | some z =>
        obtain ⟨z0, zm, zV⟩ := Fl_some B hz
        have hV : 0 < Vo x u v n m z := Int.lt_of_lt_of_le (Int.mul_pos W0 N.un0) zV
        obtain ⟨kk, k1, k2, k3⟩ := B.piece z0 zm
        have I : In u m kk z := ⟨z0, zm, k1, k2, k3⟩
        refine ⟨_, rfl, rfl, _, rfl, iteF ⟨_, rfl, rfl, _, rfl, ?_⟩⟩
        by_cases c6 : c = 6
        · subst c6
          rw [decide_eq_true rfl]
          refine iteT ⟨_, rfl, (by show 2 ≤ sizeLine; decide), fun p hp => ?_⟩
          have s3 : Same H2 (upd H2 p (.lst [.int 0, .int z])) := (Same.refl H2).new hp
          refine k p _ (b02.trans (But.of s3)) (hI2r.same s3.rm) (k02.new hp) ?_
          have ea := l_six B L hd hz
          rw [ea]
          exact upd_same
        · rw [decide_eq_false (fun q => by injection q with q; exact c6 q)]
          have c7 : c = 7 := by omega
          subst c7
          refine iteF ⟨(by show 1 ≤ sizeLine; decide), fun t ht => ?_⟩
          have s3 : Same H2 (upd H2 t (.lst [.int 0])) := (Same.refl H2).new ht
          have k03 : Keeps H (upd H2 t (.lst [.int 0])) := k02.trans (Keeps.of s3)
          have hI3 := hI2.same s3
          obtain ⟨dx3, pl3, ar3, le3, st3, sa3, rv3, hH3⟩ := id hI3
          refine ⟨_, rfl, o, dx3, _, rfl, hH3.ins, no (by decide +kernel), _, rfl, _, rfl, _, rfl, _, rfl, a, b, ws, hs, rfl, k03.sq hA, k03.sq hB, L.len, by have := L.most; omega, fun j hj => ?_, fun j hj => ?_, fun H4 s4 => ?_⟩
          · have := L.w _ (getD_mem hj)
            exact Sz.of (by omega) (by omega)
          · have := L.h _ (getD_mem (show j < hs.length by rw [← L.len]; exact hj))
            exact Sz.of (by omega) (by omega)
          refine ⟨o, n, m, x, u, v, z, kk, ws.sum, Lw ws hs, rfl, hI3.same s4, N, I, hV, W0, L.wsz, L.lsz, fun p H5 s5 hp => ?_⟩
          have s35 := s4.trans s5
          refine ⟨t, p, _, _, rfl, rfl, s35 _ _ upd_same, hp, (by show 3 ≤ sizeLine; decide), fun q hq => ?_⟩
          have s6 := s35.new (o := .lst ([V.int 0] ++ (Low (Hull.Ma x u v n m kk z * ws.sum - Lw ws hs * Hull.Mb x u v n m kk z) (Hull.Mb x u v n m kk z * ws.sum)).map V.int)) hq
          refine k q _ ((b02.trans (But.of s3)).trans (But.of s6)) ((hI2r.same s3.rm).same s6.rm) ((k03.trans (Keeps.of s35)).new hq) ?_
          have ea : (LoftFloatSeed.step (some Tb) (callL 7 ws hs)).2 = 0 :: Low (Hull.Ma x u v n m kk z * ws.sum - Lw ws hs * Hull.Mb x u v n m kk z) (Hull.Mb x u v n m kk z * ws.sum) := by
            rw [l_seven B L hd hz]
            exact ans_stand B k1 k2 k3 zm hV L W0
          rw [ea]
          exact upd_same
abbrev s_Desk_make : Stmt := inClass (top 49) 2
theorem sc_Desk_make : FnScope ["self", "places", "heights", "half_breadths", "fault"] ["self", "places", "heights", "half_breadths"] (defScope s_Desk_make) := ⟨rfl, rfl, rfl, by decide +kernel, rfl, by decide +kernel, by decide +kernel⟩
def spMake (K : PySem.W.Frag) (CD CH CB : Addr) : Sp := fun vs H Q E => ∃ (o p q r zq : Addr) (xs zs ys : List Int) (s : LoftFloatSeed.State), vs = [.ref o, .ref p, .ref q, .ref r] ∧ DeskAt CD CH CB (rm zq H) o s ∧ H zq ≠ none ∧ SqL K H p (xs.map V.int) ∧ SqL K H q (zs.map V.int) ∧ SqL K H r (ys.map V.int) ∧ xs.length ≤ 100000 ∧ zs.length ≤ 100000 ∧ ys.length ≤ 100000 ∧
  ∀ (t : Addr) (H' : Hp), Keeps H H' → DeskAt CD CH CB (rm zq H') o (LoftFloatSeed.step s (.make xs zs ys)).1 → New H t → H' t = some (.lst ((LoftFloatSeed.step s (.make xs zs ys)).2.map V.int)) → Q (.ref t) H'
theorem eqv2 (i j : Int) : PyData.eqv (.tuple [.int i, .int j]) (.tuple [.int 0, .int 0]) = decide ((i, j) = ((0 : Int), (0 : Int))) := by
  have e : PyData.eqv (.tuple [.int i, .int j]) (.tuple [.int 0, .int 0]) = ((i == 0) && ((j == 0) && true)) := by
    simp [PyData.eqv, PyData.eqvAll]
  rw [e]
  by_cases h1 : i = 0
  · by_cases h2 : j = 0
    · subst h1 h2
      rfl
    · rw [decide_eq_false (fun q => by injection q with _ q; exact h2 q)]
      simp [h2]
  · rw [decide_eq_false (fun q => by injection q with q; exact h1 q)]
    simp [h1]
theorem ok_make {f CD CH CB : Addr} {fd : FuncData} (F : Fun K "make" "Desk.make" s_Desk_make f fd) (T : Txt K mg) (B_Desk : TxtD K CD) (hdh : CH ≠ CD)  (hdb : CB ≠ CD)
    (G_first_fault : Has P w K mg base 2 "first_fault" ["places", "heights", "half_breadths"] (spFault K)) (G_Hull : HasC P w K mg base CH 5 "Hull" ["self", "places", "heights", "half_breadths"] (spHInit K CH CB)) :
    FnOk P w K mg base CX0 7 f fd ["self", "places", "heights", "half_breadths"] (spMake K CD CH CB) := by
  refine F.ok sc_Desk_make (fun vs H Q E h => ?_) (fun cdv A outer s H vs Q E hr h => ?_)
  · obtain ⟨o, p, q, r, zq, xs, zs, ys, s, rfl, _⟩ := h
    rfl
  · obtain ⟨o, p, q, r, zq, xs, zs, ys, s, rfl, hDk, hzq, hp, hq, hr', lx, lz, ly, k⟩ := h
    refine ⟨_, (pss_cons (ps_set (i := 4) sc_Desk_make.nd rfl (Or.inl rfl) (pe_has G_first_fault (hr.mono (by decide)) (pa_cons (pv 1) (pa_cons (pv 2) (pa_cons (pv 3) pa_nil)))))
        (pss_cons (ps_if (pt_cmpR (op_eqDk (K := K) hr.units) (pv 4) (pe_glob rfl T.v_NO_FAULT.1 T.v_NO_FAULT.2) (nomark _)) (pss_one (ps_fld (pv 0) (pe_hasC G_Hull (hr.mono (by decide)) (pa_cons (pv 1) (pa_cons (pv 2) (pa_cons (pv 3) pa_nil)))) rfl)) pss_nil)
        (pss_one (ps_ret (pe_lst (pa_cons pe_int (pa_cons (pe_ix (ix_tk (K := K)) (pv 4) pe_int (fun _ _ => rfl)) (pa_cons (pe_ix (ix_tk (K := K)) (pv 4) pe_int (fun _ _ => rfl)) pa_nil)))))))), ?_⟩
    have hp' := hp
    have hq' := hq
    have hr2 := hr'
    rw [zs_of] at hp' hq' hr2
    refine ⟨_, rfl, _, rfl, _, rfl, p, q, r, xs.length, zs.length, ys.length, _, _, _, rfl, hp', hq', hr2, lx, lz, ly, fun t H1 s1 ht => ?_⟩
    obtain ⟨i, j, ef⟩ : ∃ i j, faultL xs zs ys = (i, j) := ⟨_, _, rfl⟩
    have ht : SqT K H1 t [.int i, .int j] := by
      have e1 : (faultL xs zs ys).1 = i := by rw [ef]
      have e2 : (faultL xs zs ys).2 = j := by rw [ef]
      rw [← e1, ← e2]
      exact ht
    refine ⟨_, rfl, .tuple [.int i, .int j], .tuple [.int 0, .int 0], .tup ht (.cons (.int i) (.cons (.int j) .nil)), .tup (T.q_NO_FAULT H1) (.cons (.int 0) (.cons (.int 0) .nil)), by rfl, by rfl, _, rfl, ?_⟩
    rw [eqv2]
    have hDk1 := hDk.same (s1.rm (q := zq))
    rcases judge_is xs zs ys with ⟨e0, ej⟩ | ⟨e0, fl, ej, e2⟩
    · rw [ef] at e0
      rw [decide_eq_true e0]
      have G := good_of (ef.trans e0)
      obtain ⟨dx, hv, hO1r, _⟩ := hDk1
      obtain ⟨oz, hO1⟩ := rm_some hO1r
      have hz1 := s1.held hzq
      refine iteT ⟨_, rfl, _, rfl, _, rfl, ?_⟩
      intro y dy ny ndy ney
      have s2 := made_same (C := CH) ny ndy ney
      refine ⟨y, dy, p, q, r, zq, xs.length, zs.length, ys.length, _, _, _, rfl, upd_same, s2.held hz1, (fun e => new_ne ny hz1 e.symm), (s1.trans s2).seq hp', (s1.trans s2).seq hq', (s1.trans s2).seq hr2, G, fun H2 b2 hI => ⟨rfl, ?_⟩⟩
      have s3 : Same H1 H2 := Same.made ny ndy b2
      have hO2 := s3 _ _ hO1
      refine ⟨_, rfl, o, CD, dx, _, rfl, hO2, B_Desk.cl, B_Desk.hull, (by show 1 < 1000; decide), ?_⟩
      rw [bfD_put]
      obtain ⟨H3, e3⟩ : ∃ H3, H3 = upd H2 o (.ins CD dx (bfD (.ref y))) := ⟨_, rfl⟩
      rw [← e3]
      have b3 : But H2 o H3 := by rw [e3]; exact But.upd
      have hO3 : H3 o = some (.ins CD dx (bfD (.ref y))) := by rw [e3]; exact upd_same
      have k3 : Keeps H H3 := ((Keeps.of s1).trans (Keeps.of s3)).trans (b3.keeps hO2)
      have hO2r : rm zq H2 o = some (.ins CD dx (bfD hv)) := by rw [rm_ne oz]; exact hO2
      have b3r := b3.rm (q := zq)
      have hI3 : IsHull CH CB (rm zq H3) y (xs.length - 1) (zs.length - 1) (fun i => xs.getD i 0) (fun i => zs.getD i 0) (fun k j => ys.getD (k * xs.length + j) 0) := by
        obtain ⟨dx', pl, ar, le, st, sa, rv, hH⟩ := hI
        refine ⟨dx', pl, ar, le, st, sa, rv, b3r _ _ hH.ins fun q => ?_, b3r.lst hO2r hH.pls, b3r.bat hO2r hdb hH.ars, b3r.bat hO2r hdb hH.les, b3r.lst hO2r hH.sts, fun j hj => b3r.bat hO2r hdb (hH.sta j hj), hH.recs.imp id fun ⟨p, rs, gr, e, h1, h2⟩ => ⟨p, rs, gr, e, b3r.recs hO2r h1, h2⟩⟩
        have h1 := hH.ins
        rw [q, hO2r] at h1
        injection h1 with h1
        injection h1 with h1
        exact hdh h1.symm
      have ht3 : SqT K H3 t [.int i, .int j] := sqT_same ((Keeps.of s3).trans (b3.keeps hO2)) ht
      refine ⟨_, rfl, _, _, _, _, rfl, rfl, ht3, at_of (j := 0) rfl rfl, _, rfl, _, _, _, _, rfl, rfl, ht3, at_of (j := 1) rfl rfl, (by show 3 ≤ sizeLine; decide), fun l hl => ?_⟩
      have s4 : Same H3 (upd H3 l (.lst [.int 0, .int i, .int j])) := (Same.refl H3).new hl
      have es : LoftFloatSeed.step s (.make xs zs ys) = (some (tabOf xs zs ys), LoftFloatSeed.tells [0, 0]) := by
        unfold LoftFloatSeed.step
        simp only
        rw [ej]
      refine k l _ (k3.trans (Keeps.of s4)) ?_ (k3.new hl) ?_
      · rw [es]
        exact ⟨dx, .ref y, by rw [rm_ne oz]; exact s4 _ _ hO3, .inr ⟨y, _, _, _, _, _, _, rfl, rfl, hI3.same s4.rm, nums_of G, tab_of G⟩⟩
      · rw [es]
        injection e0 with i0 j0
        subst i0 j0
        exact upd_same
    · rw [ef] at e0
      rw [decide_eq_false e0]
      refine iteF ⟨_, rfl, _, _, _, _, rfl, rfl, ht, at_of (j := 0) rfl rfl, _, rfl, _, _, _, _, rfl, rfl, ht, at_of (j := 1) rfl rfl, (by show 3 ≤ sizeLine; decide), fun l hl => ?_⟩
      have s4 : Same H (upd H1 l (.lst [.int 0, .int i, .int j])) := s1.new hl
      have es : LoftFloatSeed.step s (.make xs zs ys) = (s, LoftFloatSeed.tells [(fl.1 : Int), (fl.2 : Int)]) := by
        unfold LoftFloatSeed.step
        simp only
        rw [ej]
      refine k l _ (Keeps.of s4) ?_ ((Keeps.of s1).new hl) ?_
      · rw [es]
        exact hDk.same s4.rm
      · rw [es]
        have e3 := e2.trans ef
        injection e3 with i0 j0
        rw [← i0, ← j0]
        exact upd_same
def RowsAt (H : Hp) (p : Addr) (xs : List (List Int)) : Prop := ∃ pa : Nat → Addr, H p = some (.lst (refs xs.length pa)) ∧ ∀ k r, xs[k]? = some r → H (pa k) = some (.lst (r.map V.int))
theorem RowsAt.keeps {H H' : Hp} {p : Addr} {xs : List (List Int)} (h : RowsAt H p xs) (s : Keeps H H') : RowsAt H' p xs := by
  obtain ⟨pa, h1, h2⟩ := h
  exact ⟨pa, s.lst h1, fun k r e => s.lst (h2 k r e)⟩
abbrev s_Desk_answer : Stmt := inClass (top 49) 1
theorem sc_Desk_answer : FnScope ["self", "call", "numbers", "rows"] ["self", "call", "numbers", "rows"] (defScope s_Desk_answer) := ⟨rfl, rfl, rfl, by decide +kernel, rfl, by decide +kernel, by decide +kernel⟩
def spAnswer (K : PySem.W.Frag) (CD CH CB : Addr) : Sp := fun vs H Q E => ∃ (o na ra zq : Addr) (a : Int) (nums : List Int) (xs : List (List Int)) (c : LoftFloatSeed.Call) (s : LoftFloatSeed.State), vs = [.ref o, .int a, .ref na, .ref ra] ∧ DeskAt CD CH CB (rm zq H) o s ∧ H zq ≠ none ∧ IsCall a nums xs c ∧ SqL K H na (nums.map V.int) ∧ RowsAt H ra xs ∧ (∀ r ∈ xs, r.length ≤ 100000) ∧
  ∀ (t : Addr) (H' : Hp), Keeps H H' → DeskAt CD CH CB (rm zq H') o (LoftFloatSeed.step s c).1 → New H t → H' t = some (.lst ((LoftFloatSeed.step s c).2.map V.int)) → Q (.ref t) H'
theorem ok_answer {f CD CH CB : Addr} {fd : FuncData} (F : Fun K "answer" "Desk.answer" s_Desk_answer f fd) (T : Txt K mg) (B_Desk : TxtD K CD) (hdh : CH ≠ CD) (hdb : CB ≠ CD)
    (G_Desk_make : HasM P w K mg base CD 7 "make" ["self", "places", "heights", "half_breadths"] (spMake K CD CH CB)) (G_answer_at : Has P w K mg base 8 "answer_at" ["hull", "call", "z"] (spAt CH CB)) (G_answer_loaded : Has P w K mg base 8 "answer_loaded" ["hull", "call", "weights", "heights"] (spLoaded K CH CB)) :
    FnOk P w K mg base CX0 9 f fd ["self", "call", "numbers", "rows"] (spAnswer K CD CH CB) := by
  refine F.ok sc_Desk_answer (fun vs H Q E h => ?_) (fun cdv A outer s H vs Q E hr h => ?_)
  · obtain ⟨o, na, ra, zq, a, nums, xs, c, s, rfl, _⟩ := h
    rfl
  · obtain ⟨o, na, ra, zq, a, nums, xs, c, s, rfl, ⟨dx, hv, hOr, hh⟩, hzq, hc, hN, ⟨pa, hR1, hR2⟩, hlen, k⟩ := h
    obtain ⟨oz, hO⟩ := rm_some hOr
    refine ⟨_, (pss_cons (ps_if (pt_cmpR op_eq (pv 1) (pe_glob rfl T.v_MAKE.1 T.v_MAKE.2) (nomark _)) (pss_one (ps_ret (pe_hasM (pv 0) B_Desk.cl G_Desk_make (hr.mono (by decide)) (pa_cons (pe_ix (ix_lk (K := K)) (pv 3) pe_int (fun _ _ => rfl)) (pa_cons (pe_ix (ix_lk (K := K)) (pv 3) pe_int (fun _ _ => rfl)) (pa_cons (pe_ix (ix_lk (K := K)) (pv 3) pe_int (fun _ _ => rfl)) pa_nil)))))) pss_nil)
        (pss_cons (ps_if (pt_cmpR op_isN (fld_k (K := K) (pv 0) rfl) pe_non (nomark _)) (pss_one (ps_ret (pe_lst (pa_cons (pe_glob rfl T.v_NO_TABLE.1 T.v_NO_TABLE.2) pa_nil)))) pss_nil)
        (pss_cons (ps_if (pt_cmpR op_in_seq (pv 1) (pe_tup (pa_cons (pe_glob rfl T.v_AREA.1 T.v_AREA.2) (pa_cons (pe_glob rfl T.v_VOLUME.1 T.v_VOLUME.2) (pa_cons (pe_glob rfl T.v_CENTRE.1 T.v_CENTRE.2) (pa_cons (pe_glob rfl T.v_META.1 T.v_META.2) pa_nil))))) rfl) (pss_one (ps_ret (pe_has G_answer_at (hr.mono (by decide)) (pa_cons (fld_k (K := K) (pv 0) rfl) (pa_cons (pv 1) (pa_cons (pe_ix (ix_lk (K := K)) (pv 2) pe_int (fun _ _ => rfl)) pa_nil)))))) pss_nil)
        (pss_one (ps_ret (pe_has G_answer_loaded (hr.mono (by decide)) (pa_cons (fld_k (K := K) (pv 0) rfl) (pa_cons (pv 1) (pa_cons (pe_ix (ix_lk (K := K)) (pv 3) pe_int (fun _ _ => rfl)) (pa_cons (pe_ix (ix_lk (K := K)) (pv 3) pe_int (fun _ _ => rfl)) pa_nil)))))))))), ?_⟩
    refine ⟨_, rfl, rfl, _, rfl, ?_⟩
    rcases hc with ⟨rfl, r0, r1, r2, rfl, rfl⟩ | hc
    · rw [decide_eq_true rfl]
      refine iteT ⟨_, rfl, o, dx, _, rfl, hO, bfD_no _ (by decide +kernel), _, rfl, _, _, _, _, rfl, rfl, SqL.of hR1, refs_at pa (k := 0) rfl (by show 0 < 3; decide), _, rfl, _, _, _, _, rfl, rfl, SqL.of hR1, refs_at pa (k := 1) rfl (by show 1 < 3; decide), _, rfl, _, _, _, _, rfl, rfl, SqL.of hR1, refs_at pa (k := 2) rfl (by show 2 < 3; decide), ?_⟩
      exact ⟨o, pa 0, pa 1, pa 2, zq, r0, r1, r2, s, rfl, ⟨dx, hv, hOr, hh⟩, hzq, SqL.of (hR2 0 r0 rfl), SqL.of (hR2 1 r1 rfl), SqL.of (hR2 2 r2 rfl), hlen r0 (by simp), hlen r1 (by simp), hlen r2 (by simp), k⟩
    have a1 : a ≠ 1 := by
      rcases hc with ⟨h, _⟩ | ⟨h, _⟩ | ⟨h, _⟩ | ⟨h, _⟩ | ⟨h, _⟩ | ⟨h, _⟩ <;> omega
    rw [decide_eq_false (fun q => by injection q with q; exact a1 q)]
    refine iteF ⟨_, rfl, o, CD, dx, _, _, rfl, hO, B_Desk.cl, B_Desk.hull, bfD_hull _, rfl, _, rfl, ?_⟩
    rcases hh with ⟨rfl, rfl⟩ | ⟨hp, Tb, n, m, x, u, v, rfl, rfl, hI, N, B⟩
    · refine iteT ⟨(by show 1 ≤ sizeLine; decide), fun p hp => ?_⟩
      have s1 : Same H (upd H p (.lst [.int (-3)])) := (Same.refl H).new hp
      have e : LoftFloatSeed.step none c = (none, [-3]) := by
        rcases hc with ⟨_, z, _, rfl⟩ | ⟨_, z, _, rfl⟩ | ⟨_, z, _, rfl⟩ | ⟨_, z, _, rfl⟩ | ⟨_, z, z', _, rfl⟩ | ⟨_, z, z', _, rfl⟩ <;> rfl
      rw [e] at k
      exact k p _ (Keeps.of s1) ⟨dx, .non, s1.rm _ _ hOr, .inl ⟨rfl, rfl⟩⟩ (Keeps.refl.new hp) upd_same
    refine iteF ⟨_, rfl, (by show 4 ≤ sizeLine; decide), fun tt htt => ?_⟩
    have s1 : Same H (upd H tt (.tup [.int 2, .int 3, .int 4, .int 5])) := (Same.refl H).new htt
    refine ⟨tt, _, rfl, .inr (SqT.of upd_same), rfl, rfl, _, rfl, ?_⟩
    by_cases ha : a = 2 ∨ a = 3 ∨ a = 4 ∨ a = 5
    · have e : inV (.int a) [.int 2, .int 3, .int 4, .int 5] = true := by
        rcases ha with rfl | rfl | rfl | rfl <;> rfl
      obtain ⟨z, rfl, rfl⟩ : ∃ z, nums = [z] ∧ c = callZ a z := by
        rcases hc with ⟨rfl, z, h1, h2⟩ | ⟨rfl, z, h1, h2⟩ | ⟨rfl, z, h1, h2⟩ | ⟨rfl, z, h1, h2⟩ | ⟨rfl, _⟩ | ⟨rfl, _⟩
        · exact ⟨z, h1, h2⟩
        · exact ⟨z, h1, h2⟩
        · exact ⟨z, h1, h2⟩
        · exact ⟨z, h1, h2⟩
        · omega
        · omega
      show if inV (.int a) [.int 2, .int 3, .int 4, .int 5] = true then _ else _
      rw [e]
      refine iteT ⟨_, rfl, o, CD, dx, _, _, rfl, s1 _ _ hO, B_Desk.cl, B_Desk.hull, bfD_hull _, _, rfl, _, rfl, _, _, _, _, rfl, rfl, s1.seq hN, at_of (j := 0) rfl rfl, ?_⟩
      refine ⟨hp, n, m, x, u, v, Tb, a, z, rfl, (hI.same rm_same).same s1, N, B, ha, fun p H2 s2 nw hl => ?_⟩
      have s12 := s1.trans s2
      have e1 : (LoftFloatSeed.step (some Tb) (callZ a z)).1 = some Tb := by
        rcases ha with rfl | rfl | rfl | rfl <;> rfl
      refine k p H2 (Keeps.of s12) ?_ (fun xs q => nw xs (s1 _ _ q)) hl
      rw [e1]
      exact ⟨dx, .ref hp, s12.rm _ _ hOr, .inr ⟨hp, Tb, n, m, x, u, v, rfl, rfl, hI.same s12.rm, N, B⟩⟩
    · have ha' : a = 6 ∨ a = 7 := by
        rcases hc with ⟨h, _⟩ | ⟨h, _⟩ | ⟨h, _⟩ | ⟨h, _⟩ | ⟨h, _⟩ | ⟨h, _⟩ <;> omega
      have e : inV (.int a) [.int 2, .int 3, .int 4, .int 5] = false := by
        rcases ha' with rfl | rfl <;> rfl
      obtain ⟨r0, r1, rfl, rfl⟩ : ∃ r0 r1, xs = [r0, r1] ∧ c = callL a r0 r1 := by
        rcases hc with ⟨rfl, _⟩ | ⟨rfl, _⟩ | ⟨rfl, _⟩ | ⟨rfl, _⟩ | ⟨rfl, r0, r1, h1, h2⟩ | ⟨rfl, r0, r1, h1, h2⟩
        · omega
        · omega
        · omega
        · omega
        · exact ⟨r0, r1, h1, h2⟩
        · exact ⟨r0, r1, h1, h2⟩
      show if inV (.int a) [.int 2, .int 3, .int 4, .int 5] = true then _ else _
      rw [e]
      have hR3 := s1 _ _ hR1
      refine iteF ⟨_, rfl, o, CD, dx, _, _, rfl, s1 _ _ hO, B_Desk.cl, B_Desk.hull, bfD_hull _, _, rfl, _, rfl, _, _, _, _, rfl, rfl, SqL.of hR3, refs_at pa (k := 0) rfl (by show 0 < 2; decide), _, rfl, _, _, _, _, rfl, rfl, SqL.of hR3, refs_at pa (k := 1) rfl (by show 1 < 2; decide), ?_⟩
      refine ⟨hp, pa 0, pa 1, zq, n, m, x, u, v, Tb, a, r0, r1, rfl, hI.same s1.rm, s1.held hzq, N, B, SqL.of (s1 _ _ (hR2 0 r0 rfl)), SqL.of (s1 _ _ (hR2 1 r1 rfl)), hlen r0 (by simp), hlen r1 (by simp), ha', fun p H2 b2 hI2 nw hl => ?_⟩
      obtain ⟨dxh, plh, arh, leh, sth, sah, rvh, hHh⟩ := (hI.same rm_same).same s1
      have e1 : (LoftFloatSeed.step (some Tb) (callL a r0 r1)).1 = some Tb := by
        rcases ha' with rfl | rfl <;> rfl
      refine k p H2 ((Keeps.of s1).trans (b2.keeps hHh.ins)) ?_ (fun xs q => nw xs (s1 _ _ q)) hl
      rw [e1]
      refine ⟨dx, .ref hp, b2.rm _ _ (s1.rm _ _ hOr) fun q => ?_, .inr ⟨hp, Tb, n, m, x, u, v, rfl, rfl, hI2, N, B⟩⟩
      have h1 := hHh.ins
      rw [← q, s1 _ _ hO] at h1
      injection h1 with h1
      injection h1 with h1
      exact hdh h1.symm
end
end Hf
set_option linter.all false
set_option maxRecDepth 100000
set_option maxHeartbeats 4000000
set_option Elab.async false
namespace Hf
open PySem PySem.Spec PyProof.Rows L2
open PySem.W (Codec)
open Hull
theorem zs_row {l : List Int} {p j : Nat} {lo hi : Int} (el : lo = ((p + 1 : Nat) : Int)) (eh : hi = ((p + 1 + j : Nat) : Int)) (h : p + 1 + j ≤ l.length) : cutV (zs_ l.length fun i => l.getD i 0) (some lo) (some hi) = ((l.drop (p + 1)).take j).map V.int := by
  rw [zs_cut el eh (by omega) h]
  have e : p + 1 + j - (p + 1) = j := by omega
  rw [e]
  refine List.ext_getElem? fun i => ?_
  by_cases hi : i < j
  · rw [zs_get _ hi, List.getElem?_map, List.getElem?_take_of_lt hi, List.getElem?_drop, List.getElem?_eq_getElem (by omega), List.getD_eq_getElem?_getD, List.getElem?_eq_getElem (by omega)]
    rfl
  · rw [List.getElem?_eq_none (by rw [zs_len]; omega), List.getElem?_eq_none (by rw [List.length_map, List.length_take]; omega)]
section
variable {P : Program} {w : World} {K : PySem.W.Frag} {mg : Str → Option Value} {base : Heap}
abbrev s_read_rows : Stmt := top 53
theorem sc_read_rows : FnScope ["calls", "at", "count", "rows", "number", "end"] ["calls", "at", "count"] (defScope s_read_rows) := ⟨rfl, rfl, rfl, by decide +kernel, rfl, by decide +kernel, by decide +kernel⟩
def spRows (K : PySem.W.Frag) : Sp := fun vs H Q E => ∃ (a : Addr) (l : List Int) (p k : Nat) (xs : List (List Int)) (t : List Int), vs = [.ref a, .int p, .int k] ∧ SqL K H a (l.map V.int) ∧ l.length ≤ 15000 ∧ PyFlat.rows k (l.drop p) = some (xs, t) ∧ p ≤ l.length ∧ k ≤ 3 ∧ ∀ q H', Same H H' → RowsAt H' q xs → Q (.ref q) H'
theorem ok_rows {f : Addr} {fd : FuncData} (F : Fun K "read_rows" "read_rows" s_read_rows f fd) (T : Txt K mg) : FnOk P w K mg base CX0 1 f fd ["calls", "at", "count"] (spRows K) := by
  refine F.ok sc_read_rows (fun vs H Q E h => ?_) (fun cdv A outer s H vs Q E hr h => ?_)
  · obtain ⟨a, l, p, k, xs, t, rfl, _⟩ := h
    rfl
  · obtain ⟨a, l, p, n, xs, t, rfl, hA, hl, hrow, hp, hn, k⟩ := h
    rw [zs_of] at hA
    refine ⟨_, (pss_cons (ps_set (i := 3) sc_read_rows.nd rfl (Or.inl rfl) (pe_lst pa_nil))
        (pss_cons (ps_for PassesOwn.never rfl (pi_range1 rfl T.n_range (pa_cons (pv 2) pa_nil)) (pg_name (i := 4) sc_read_rows.nd rfl (Or.inl rfl)) (pss_cons (ps_set (i := 5) sc_read_rows.nd rfl (Or.inl rfl) (pe_op op_add (pe_op op_add (pv 1) pe_int) (pe_ix (ix_lk (K := K)) (pv 0) (pv 1) (fun _ _ => rfl))))
        (pss_cons (ps_expr (pe_bm PySem.F.plainAttrs_list PySem.F.slot_list_append PySem.F.type_list_append mt_append (pv 3) (pa_cons (pe_slice (sl_lk (K := K)) (pv 0) (po_some (pe_op op_add (pv 1) pe_int)) (po_some (pv 5))) pa_nil)))
        (pss_one (ps_set (i := 1) sc_read_rows.nd rfl (Or.inl rfl) (pv 5))))))
        (pss_one (ps_ret (pv 3))))), ?_⟩
    refine ⟨Nat.zero_le _, fun q hq => ?_⟩
    have s0 : Same H (upd H q (.lst [])) := (Same.refl H).new hq
    refine ⟨_, rfl, n, rfl, by omega, by omega, ?_⟩
    refine for_range (lo := 0) (n := n) (fun i σ H' => ∃ (p' : Nat) (dn rest : List (List Int)) (v4 v5 : Option V) (pa : Nat → Addr), σ = [some (.ref a), some (.int (p' : Int)), some (.int (n : Int)), some (.ref q), v4, v5] ∧ Same H H' ∧ dn.length = i ∧ PyFlat.rows (n - i) (l.drop p') = some (rest, t) ∧ xs = dn ++ rest ∧ p' ≤ l.length ∧
        H' q = some (.lst (refs dn.length pa)) ∧ ∀ k r, dn[k]? = some r → pa k ≠ q ∧ H' (pa k) = some (.lst (r.map V.int))) ⟨p, [], xs, none, none, fun _ => 0, rfl, s0, rfl, hrow, rfl, hp, upd_same, fun k r h => by cases h⟩ ?_ ?_
    · rintro i σ H' hi ⟨p', dn, rest, v4, v5, pa, rfl, s1, hd, hr1, hx, hp', hq1, hq2⟩
      have en : n - i = (n - (i + 1)) + 1 := by omega
      rw [en] at hr1
      obtain ⟨j, rest', h1, h2, h3, h4, h5⟩ := rows_at hr1
      have hA' := s1.seq hA
      refine ⟨_, rfl, _, _, rfl, rfl, _, rfl, _, rfl, _, _, _, _, rfl, rfl, hA', zs_at (fun i => l.getD i 0) (k := p') rfl h1, _, _, rfl, rfl, ?_⟩
      rw [h2]
      refine ⟨_, rfl, .inl ⟨rfl, _, SqL.of hq1⟩, _, rfl, _, rfl, _, _, rfl, rfl, _, rfl, _, rfl, _, rfl, a, _, rfl, hA', fun y hy => ?_⟩
      have ec : cutV (zs_ l.length fun i => l.getD i 0) (some ((p' : Int) + 1)) (some ((p' : Int) + 1 + (j : Int))) = ((l.drop (p' + 1)).take j).map V.int := zs_row rfl rfl h3
      rw [ec]
      have s2 : Same H' (upd H' y (.lst (((l.drop (p' + 1)).take j).map V.int))) := (Same.refl H').new hy
      have yq : y ≠ q := fun e => by rw [e, hq1] at hy; cases hy
      refine ⟨q, _, _, rfl, rfl, s2 _ _ hq1, by rw [refs_len]; exact small1000 (by omega), ?_⟩
      refine ⟨_, rfl, p' + 1 + j, dn ++ [(l.drop (p' + 1)).take j], rest', _, _, fun k => if k = dn.length then y else pa k, rfl, (s1.trans s2).put hq, by rw [List.length_append, hd]; rfl, h4, by rw [hx, h5, List.append_assoc]; rfl, h3, ?_, fun k r hk => ?_⟩
      · rw [upd_same, refs_snoc, List.length_append]
        rfl
      · have hk' : k < dn.length + 1 := by
          have := (List.getElem?_eq_some_iff.mp hk).1
          rwa [List.length_append] at this
        by_cases e : k = dn.length
        · subst e
          rw [List.getElem?_append_right (Nat.le_refl _), Nat.sub_self] at hk
          have er : (l.drop (p' + 1)).take j = r := Option.some.inj hk
          dsimp only
          rw [if_pos rfl]
          refine ⟨yq, ?_⟩
          rw [upd_ne yq, upd_same, ← er]
        · rw [List.getElem?_append_left (by omega)] at hk
          obtain ⟨g1, g2⟩ := hq2 k r hk
          dsimp only
          rw [if_neg e]
          exact ⟨g1, by rw [upd_ne g1]; exact s2 _ _ g2⟩
    · rintro σ H' ⟨p', dn, rest, v4, v5, pa, rfl, s1, hd, hr1, hx, hp', hq1, hq2⟩
      rw [Nat.sub_self] at hr1
      have e0 : rest = [] := by
        unfold PyFlat.rows at hr1
        injection hr1 with h
        injection h with h _
        exact h.symm
      rw [e0, List.append_nil] at hx
      subst hx
      exact ⟨_, rfl, k q H' s1 ⟨pa, hq1, fun k r hk => (hq2 k r hk).2⟩⟩
structure TxtS (P : Program) (w : World) (K : PySem.W.Frag) (mg : Str → Option Value) where
  SHAPES : Addr
  kvs : List (Key × V)
  v : mg "SHAPES" = some (.ref SHAPES) ∧ RelV (.ref SHAPES) (.ref SHAPES)
  d : DK P w K SHAPES kvs
  sh : ∀ a nn k, PyWqlftf.shape a = some (nn, k) → ∃ t, valV kvs (.inl a) = some (.ref t) ∧ ∀ H, SqT K H t [.int (nn : Int), .int (k : Int)]
theorem ans_len (s : LoftFloatSeed.State) (c : LoftFloatSeed.Call) : (LoftFloatSeed.step s c).2.length ≤ 5 := by
  have at5 : ∀ (z : Int) (f : Loft.Table → LoftFloatSeed.Answer), (∀ T, (f T).length ≤ 5) → (LoftFloatSeed.at_ s z f).length ≤ 5 := fun z f hf => by
    unfold LoftFloatSeed.at_
    cases s with
    | none => exact (by decide : 1 ≤ 5)
    | some T =>
      simp only
      split
      · exact (by decide : 1 ≤ 5)
      · exact hf T
  have la5 : ∀ (ws hs : List Int) (f : Loft.Table → List Loft.Load → LoftFloatSeed.Answer), (∀ T l, (f T l).length ≤ 5) → (LoftFloatSeed.laden s ws hs f).length ≤ 5 := fun ws hs f hf => by
    unfold LoftFloatSeed.laden
    cases s with
    | none => exact (by decide : 1 ≤ 5)
    | some T =>
      simp only
      split
      · exact (by decide : 1 ≤ 5)
      · split
        · exact (by decide : 1 ≤ 5)
        · exact hf T _
  cases c with
  | make xs zs ys =>
    unfold LoftFloatSeed.step
    simp only
    split
    · exact (by decide : 3 ≤ 5)
    · exact (by decide : 3 ≤ 5)
  | area z => exact at5 z _ fun T => (by decide : 3 ≤ 5)
  | volume z => exact at5 z _ fun T => (by decide : 3 ≤ 5)
  | centre z =>
    refine at5 z _ fun T => ?_
    split
    · exact (by decide : 1 ≤ 5)
    · exact (by decide : 5 ≤ 5)
  | meta_ z =>
    refine at5 z _ fun T => ?_
    split
    · exact (by decide : 1 ≤ 5)
    · exact (by decide : 3 ≤ 5)
  | depth ws hs =>
    rw [show (LoftFloatSeed.step s (.depth ws hs)).2 = _ from l_depth s ws hs]
    refine la5 ws hs _ fun T l => ?_
    split
    · exact (by decide : 2 ≤ 5)
    · exact (by decide : 1 ≤ 5)
  | stand ws hs =>
    rw [show (LoftFloatSeed.step s (.stand ws hs)).2 = _ from l_stand s ws hs]
    refine la5 ws hs _ fun T l => ?_
    split
    · exact (by decide : 3 ≤ 5)
    · exact (by decide : 1 ≤ 5)
theorem rows_short {l : List Int} : ∀ (k p : Nat) (xs : List (List Int)) (t : List Int), PyFlat.rows k (l.drop p) = some (xs, t) → ∀ r ∈ xs, r.length ≤ l.length
  | 0, p, xs, t, h, r, hr => by
    unfold PyFlat.rows at h
    injection h with h
    injection h with h _
    subst h
    cases hr
  | k + 1, p, ys, t, h, r, hr => by
    obtain ⟨j, xs, h1, h2, h3, h4, h5⟩ := rows_at h
    rw [h5] at hr
    rcases List.mem_cons.mp hr with rfl | hr
    · rw [List.length_take, List.length_drop]
      omega
    · exact rows_short k _ _ _ h4 r hr
theorem shape_le {a : Int} {nn k : Nat} (h : PyWqlftf.shape a = some (nn, k)) : nn ≤ 1 ∧ k ≤ 3 := by
  unfold PyWqlftf.shape at h
  repeat' (split at h)
  all_goals (first | (injection h with h; injection h with h1 h2; subst h1 h2; decide) | cases h)
abbrev s_answers : Stmt := top 52
theorem sc_answers : FnScope ["calls", "desk", "told", "at", "call", "shape", "first_row", "numbers", "rows", "answer", "row"] ["calls"] (defScope s_answers) := ⟨rfl, rfl, rfl, by decide +kernel, rfl, by decide +kernel, by decide +kernel⟩
def leftOf (s : LoftFloatSeed.State) (cs : List (List (List Int))) : List Int := PyFlat.told (PyFlat.played FloatNeutral.step s (cs.map PyWqlftf.whole))
theorem left_cons {s : LoftFloatSeed.State} {c : List (List Int)} {cs : List (List (List Int))} {c' : LoftFloatSeed.Call} (h : ∀ s, FloatNeutral.step s (PyWqlftf.whole c) = LoftFloatSeed.step s c') : leftOf s (c :: cs) = (((LoftFloatSeed.step s c').2.length : Int) :: (LoftFloatSeed.step s c').2) ++ leftOf (LoftFloatSeed.step s c').1 cs := by
  unfold leftOf
  have e : PyFlat.played FloatNeutral.step s (PyWqlftf.whole c :: cs.map PyWqlftf.whole) = (FloatNeutral.step s (PyWqlftf.whole c)).2 :: PyFlat.played FloatNeutral.step (FloatNeutral.step s (PyWqlftf.whole c)).1 (cs.map PyWqlftf.whole) := rfl
  rw [List.map_cons, e, h]
  unfold PyFlat.told
  rw [List.flatMap_cons]
def spAns (K : PySem.W.Frag) : Sp := fun vs H Q _ => ∃ (a : Addr) (l : List Int) (cs : List (List (List Int))), vs = [.ref a] ∧ SqL K H a (l.map V.int) ∧ l.length ≤ 15000 ∧ PyFlat.calls PyWqlftf.shape l.length l = some cs ∧ ∀ (H' : Hp) (p : Addr), H' p = some (.lst ((leftOf none cs).map V.int)) → Q (.ref p) H'
theorem ok_ans {f CD CH CB : Addr} {fd : FuncData} (F : Fun K "answers" "answers" s_answers f fd) (T : Txt K mg) (S : TxtS P w K mg) (B_Desk : TxtD K CD)
    (G_Desk : HasC P w K mg base CD 1 "Desk" ["self"] (spDInit CD CH CB)) (G_read_rows : Has P w K mg base 1 "read_rows" ["calls", "at", "count"] (spRows K)) (G_Desk_answer : HasM P w K mg base CD 9 "answer" ["self", "call", "numbers", "rows"] (spAnswer K CD CH CB)) :
    FnOk P w K mg base CX0 10 f fd ["calls"] (spAns K) := by
  refine F.ok sc_answers (fun vs H Q E h => ?_) (fun cdv A outer s H vs Q E hr h => ?_)
  · obtain ⟨a, l, cs, rfl, _⟩ := h
    rfl
  · obtain ⟨a, l, cs, rfl, hA, hl, hcs, k⟩ := h
    have hA' : SqL K H a (zs_ l.length fun i => l.getD i 0) := by
      rw [← zs_of]
      exact hA
    refine ⟨_, (pss_cons (ps_set (i := 1) sc_answers.nd rfl (Or.inl rfl) (pe_hasC0 G_Desk (hr.mono (by decide))))
        (pss_cons (ps_set (i := 2) sc_answers.nd rfl (Or.inl rfl) (pe_lst pa_nil))
        (pss_cons (ps_set (i := 3) sc_answers.nd rfl (Or.inl rfl) pe_int)
        (pss_cons (ps_while PassesOwn.never (pt_cmpR op_lt (pv 3) (pe_callB (len_k (K := K)) (by rfl) T.n_len PySem.boot_len (pa_cons (pv 0) pa_nil)) (nomark _)) (pss_cons (ps_set (i := 4) sc_answers.nd rfl (Or.inl rfl) (pe_ix (ix_lk (K := K)) (pv 0) (pv 3) (fun _ _ => rfl)))
        (pss_cons (ps_set (i := 5) sc_answers.nd rfl (Or.inl rfl) (pe_kget S.d (pe_glob rfl S.v.1 S.v.2) (pv 4) (fun _ _ => rfl)))
        (pss_cons (ps_set (i := 6) sc_answers.nd rfl (Or.inl rfl) (pe_op op_add (pe_op op_add (pv 3) pe_int) (pe_ix (ix_tk (K := K)) (pv 5) pe_int (fun _ _ => rfl))))
        (pss_cons (ps_set (i := 7) sc_answers.nd rfl (Or.inl rfl) (pe_slice (sl_lk (K := K)) (pv 0) (po_some (pe_op op_add (pv 3) pe_int)) (po_some (pv 6))))
        (pss_cons (ps_set (i := 8) sc_answers.nd rfl (Or.inl rfl) (pe_has G_read_rows (hr.mono (by decide)) (pa_cons (pv 0) (pa_cons (pv 6) (pa_cons (pe_ix (ix_tk (K := K)) (pv 5) pe_int (fun _ _ => rfl)) pa_nil)))))
        (pss_cons (ps_set (i := 3) sc_answers.nd rfl (Or.inl rfl) (pe_op op_add (pv 6) (pe_callB (call_sum rfl) (by rfl) T.n_sum PyProof.Rows.boot_sum (pa_cons (pe_lc (own := [("row", 10)]) rfl sc_answers.nd (pi_lk (K := K) (pv 8)) (blk_of (show blkOk ["calls", "desk", "told", "at", "call", "shape", "first_row", "numbers", "rows", "answer", "row"] (defScope s_answers) _ [("row", 10)] = true by decide +kernel)) (fun _ _ _ _ _ => pg_name (i := 10) sc_answers.nd rfl (Or.inl rfl)) (fun _ _ _ _ _ => pts_nil) (fun _ _ _ _ _ => (pe_op op_add pe_int (pe_callB (len_k (K := K)) (by rfl) T.n_len PySem.boot_len (pa_cons (pv 10) pa_nil))))) pa_nil))))
        (pss_cons (ps_set (i := 9) sc_answers.nd rfl (Or.inl rfl) (pe_hasM (pv 1) B_Desk.cl G_Desk_answer (hr.mono (by decide)) (pa_cons (pv 4) (pa_cons (pv 7) (pa_cons (pv 8) pa_nil)))))
        (pss_cons (ps_expr (pe_bm PySem.F.plainAttrs_list PySem.F.slot_list_append PySem.F.type_list_append mt_append (pv 2) (pa_cons (pe_callB (len_k (K := K)) (by rfl) T.n_len PySem.boot_len (pa_cons (pv 9) pa_nil)) pa_nil)))
        (pss_one (ps_expr (pe_bm PySem.F.plainAttrs_list PySem.F.slot_list_extend PySem.F.type_list_extend mt_extend (pv 2) (pa_cons (pv 9) pa_nil)))))))))))))
        (pss_one (ps_ret (pv 2))))))), ?_⟩
    intro y dy ny ndy ney
    refine ⟨y, dy, rfl, upd_same, fun H1 b1 hD => ⟨rfl, ?_⟩⟩
    have s1 : Same H H1 := Same.made ny ndy b1
    refine ⟨Nat.zero_le _, fun q hq => ?_⟩
    have s2 : Same H1 (upd H1 q (.lst [])) := (Same.refl H1).new hq
    have hq0 : H q = none := s1.free hq
    have hD0 : DeskAt CD CH CB (rm q (upd H1 q (.lst []))) y none := by
      rw [rm_upd_self]
      obtain ⟨dx0, hv0, hO0, hh0⟩ := hD
      refine ⟨dx0, hv0, ?_, ?_⟩
      · rw [rm_ne (fun e => by rw [e, hq] at hO0; cases hO0)]
        exact hO0
      · rcases hh0 with h | ⟨_, _, _, _, _, _, _, h, _⟩
        · exact .inl h
        · cases h
    show tWhile _ _ _ _ _
    refine ⟨fun M σ H' => ∃ (p : Nat) (dn : List Int) (cs' : List (List (List Int))) (fu : Nat) (st : LoftFloatSeed.State) (v4 v5 v6 v7 v8 v9 v10 : Option V), σ = [some (.ref a), some (.ref y), some (.ref q), some (.int (p : Int)), v4, v5, v6, v7, v8, v9, v10] ∧ Keeps H H' ∧ H' q = some (.lst (dn.map V.int)) ∧ DeskAt CD CH CB (rm q H') y st ∧
        PyFlat.calls PyWqlftf.shape fu (l.drop p) = some cs' ∧ dn ++ leftOf st cs' = leftOf none cs ∧ p ≤ l.length ∧ dn.length ≤ 6 * p ∧ M = l.length - p,
      ⟨_, 0, [], cs, l.length, none, none, none, none, none, none, none, none, rfl, Keeps.of (s1.trans s2), upd_same, hD0, hcs, rfl, Nat.zero_le _, Nat.le_refl _, rfl⟩, ?_⟩
    rintro M σ H' ⟨p, dn, cs', fu, st, v4, v5, v6, v7, v8, v9, v10, rfl, kp, hqd, hDk, hc', htot, hpl, hdl, rfl⟩
    have hA1 := kp.sq hA'
    refine ⟨_, rfl, _, rfl, a, _, rfl, .inl hA1, _, _, rfl, rfl, _, rfl, ?_⟩
    rw [zs_len]
    by_cases hend : p < l.length
    case neg =>
      rw [decide_eq_false (by omega)]
      refine iteF ⟨_, rfl, ?_⟩
      have e0 := calls_end hc' (by omega)
      subst e0
      refine k H' q ?_
      rw [← htot]
      have : dn ++ leftOf st [] = dn := List.append_nil dn
      rw [this]
      exact hqd
    rw [decide_eq_true (by omega)]
    refine iteT ⟨_, fun _ _ q => q, ?_⟩
    obtain ⟨fu', c, t, cs2, hcall, hc2, rfl⟩ := calls_next hc' hend
    obtain ⟨ca, nn, kk, xs, c', hp1, hca, hsh, hnn, hrow, hic, hstep⟩ := call_at hcall
    obtain ⟨hn1, hk3⟩ := shape_le hsh
    obtain ⟨ta, hva, hta⟩ := S.sh ca nn kk hsh
    refine ⟨_, rfl, _, rfl, _, _, _, _, rfl, rfl, hA1, zs_at (fun i => l.getD i 0) (k := p) rfl hp1, ?_⟩
    rw [hca]
    refine ⟨_, rfl, .inl ca, _, rfl, rfl, hva, ?_⟩
    refine ⟨_, rfl, _, _, rfl, rfl, _, rfl, _, _, _, _, rfl, rfl, hta H', at_of (j := 0) rfl rfl, _, _, rfl, rfl, ?_⟩
    refine ⟨_, rfl, _, rfl, _, _, rfl, rfl, _, rfl, _, rfl, _, rfl, a, _, rfl, hA1, fun na hna => ?_⟩
    have ec : cutV (zs_ l.length fun i => l.getD i 0) (some ((p : Int) + 1)) (some ((p : Int) + 1 + (nn : Int))) = ((l.drop (p + 1)).take nn).map V.int := zs_row rfl rfl hnn
    rw [ec]
    have s3 : Same H' (upd H' na (.lst (((l.drop (p + 1)).take nn).map V.int))) := (Same.refl H').new hna
    refine ⟨_, rfl, _, rfl, _, rfl, _, _, _, _, rfl, rfl, hta _, at_of (j := 1) rfl rfl, ?_⟩
    have hA3 : SqL K (upd H' na (.lst (((l.drop (p + 1)).take nn).map V.int))) a (l.map V.int) := (kp.trans (Keeps.of s3)).sq hA
    refine ⟨a, l, p + 1 + nn, kk, xs, t, rfl, hA3, hl, hrow, hnn, hk3, fun ra H4 s4 hra => ?_⟩
    obtain ⟨et, hsm, hxl⟩ := rows_end kk _ _ _ hrow hnn
    have s34 := s3.trans s4
    obtain ⟨pa, hra1, hra2⟩ := id hra
    refine ⟨_, rfl, _, rfl, ra, rfl, ⟨_, SqL.of hra1⟩, ?_⟩
    intro D hD
    refine lc_lst (refs xs.length pa) (fun i H5 => Same H4 H5 ∧ H5 D = some (.lst (((xs.take i).map fun r => (1 : Int) + (r.length : Int)).map V.int))) ⟨(Same.refl H4).new hD, upd_same⟩ (fun i H5 _ ⟨s5, _⟩ => SqL.of (s5 _ _ hra1)) ?_ ?_
    · rintro i v H5 hi ⟨s5, hd⟩
      have hin : i < xs.length := by
        have := (List.getElem?_eq_some_iff.mp hi).1
        rwa [refs_len] at this
      rw [refs_get pa hin] at hi
      cases hi
      have hx := List.getElem?_eq_getElem hin
      refine ⟨rfl, _, rfl, pa i, _, rfl, .inl (SqL.of (s5 _ _ (hra2 i _ hx))), _, _, rfl, rfl, ?_⟩
      refine ⟨_, hd, ?_, s5.put hD, ?_⟩
      · rw [List.length_map, List.length_map, List.length_take]
        exact small1000 (by omega)
      · show upd H5 D _ D = _
        rw [upd_same, take_snoc hx, List.map_append, List.map_append, List.length_map]
        rfl
    rintro H5 ⟨s5, hd⟩
    rw [refs_len, List.take_length] at hd
    refine ⟨D, xs.map fun r => (1 : Int) + (r.length : Int), rfl, SqL.of hd, _, _, rfl, rfl, ?_⟩
    rw [Sm_cast]
    have s45 := s4.trans s5
    have s35 := s34.trans s5
    have hDk5 := hDk.same (s35.rm (q := q))
    obtain ⟨dx, hv, hO5r, hh5⟩ := id hDk5
    have hO5 := (rm_some hO5r).2
    have hq5 := s35 _ _ hqd
    refine ⟨_, rfl, y, dx, _, rfl, hO5, bfD_no _ (by decide +kernel), _, rfl, _, rfl, _, rfl, ?_⟩
    refine ⟨y, na, ra, q, ca, (l.drop (p + 1)).take nn, xs, c', st, rfl, hDk5, (by rw [hq5]; exact fun e => by cases e), hic, SqL.of (s45 _ _ upd_same), hra.keeps (Keeps.of s5), fun r hr => Nat.le_trans (rows_short kk _ _ _ hrow r hr) (by omega), fun tt H6 k6 hDk6 nw ht6 => ?_⟩
    have hq6 : H6 q = some (.lst (dn.map V.int)) := k6.lst (s35 _ _ hqd)
    have tq : tt ≠ q := fun e => nw _ (by rw [e]; exact s35 _ _ hqd)
    have hlen := ans_len st c'
    refine ⟨_, rfl, .inl ⟨rfl, _, SqL.of hq6⟩, _, rfl, tt, _, rfl, .inl (SqL.of ht6), q, _, _, rfl, rfl, hq6, ?_, ?_⟩
    · rw [List.length_map]
      exact Nat.lt_of_le_of_lt (Nat.le_trans hdl (Nat.mul_le_mul_left 6 (Nat.le_trans hpl hl))) (by decide)
    refine ⟨_, rfl, .inl ⟨rfl, _, SqL.of upd_same⟩, _, rfl, q, tt, _, _, rfl, rfl, upd_same, by rw [upd_ne tq]; exact ht6, ?_, ?_⟩
    · rw [List.length_append, List.length_map, List.length_map]
      have h1 : dn.length + 1 + (LoftFloatSeed.step st c').2.length ≤ 100000 := by omega
      exact Nat.le_trans h1 (by decide)
    have hpn : p + 1 + nn + Sm xs ≤ l.length := hsm
    refine ⟨l.length - (p + 1 + nn + Sm xs), by omega, p + 1 + nn + Sm xs, dn ++ (((LoftFloatSeed.step st c').2.length : Int) :: (LoftFloatSeed.step st c').2), cs2, fu', (LoftFloatSeed.step st c').1, _, _, _, _, _, _, _, rfl, ?_, ?_, ?_, ?_, ?_, hpn, ?_, rfl⟩
    · exact fun b ob hb hi => by
        have h6 := (kp.trans ((Keeps.of s35).trans k6)) b ob hb hi
        have hbq : b ≠ q := fun e => by rw [e, hq0] at hb; cases hb
        rw [upd_ne hbq, upd_ne hbq]
        exact h6
    · rw [upd_same, List.map_append, List.append_assoc, List.length_map]
      rfl
    · rw [rm_upd_self, rm_upd_self]
      exact hDk6
    · rw [← et]
      exact hc2
    · rw [List.append_assoc, ← htot, left_cons hstep]
    · rw [List.length_append, List.length_cons]
      omega
end
end Hf
set_option linter.all false
set_option maxRecDepth 100000
set_option maxHeartbeats 4000000
set_option Elab.async false
namespace Hf
open PySem PySem.Spec PyProof.Rows L2
open PySem.W (Codec)
open Hull
theorem tup2 {K : PySem.W.Frag} {a : Addr} {od : Option Addr} {x y : Int} {tx ty : Tok} {n : Nat} {sl : Array (Option Value)} (l : K.lookup a = some ⟨.type "tuple", od, .seq #[.int x tx, .int y ty] n, sl⟩) (H : Hp) : SqT K H a [.int x, .int y] :=
  .inr ⟨_, _, _, l, rfl, rfl, (by show 2 ≤ sizeLine; decide), .cons ⟨tx, rfl⟩ (.cons ⟨ty, rfl⟩ .nil)⟩
theorem shapes_mk {P : Program} {w : World} {K : PySem.W.Frag} {SH r1 r2 r3 r4 r5 r6 r7 : Addr} {ts1 ts2 ts3 ts4 ts5 ts6 ts7 : Tok} {epS : Nat} (l : K.lookup SH = some ⟨.type "dict", none, .dict #[⟨hashInt 1, .int 1 ts1, .ref r1⟩, ⟨hashInt 2, .int 2 ts2, .ref r2⟩, ⟨hashInt 3, .int 3 ts3, .ref r3⟩, ⟨hashInt 4, .int 4 ts4, .ref r4⟩, ⟨hashInt 5, .int 5 ts5, .ref r5⟩, ⟨hashInt 6, .int 6 ts6, .ref r6⟩, ⟨hashInt 7, .int 7 ts7, .ref r7⟩] epS, #[]⟩) : DK P w K SH [(.inl 1, .ref r1), (.inl 2, .ref r2), (.inl 3, .ref r3), (.inl 4, .ref r4), (.inl 5, .ref r5), (.inl 6, .ref r6), (.inl 7, .ref r7)] := by
  refine ⟨_, _, _, [(.inl 1, .ref r1), (.inl 2, .ref r2), (.inl 3, .ref r3), (.inl 4, .ref r4), (.inl 5, .ref r5), (.inl 6, .ref r6), (.inl 7, .ref r7)], l, ⟨rfl, rfl, rfl⟩, rfl, ?_, ?_, (show ([.inl 1, .inl 2, .inl 3, .inl 4, .inl 5, .inl 6, .inl 7] : List Key).Nodup by decide +kernel), ?_⟩
  · intro e he
    simp only [List.mem_toArray, List.mem_cons, List.not_mem_nil, or_false] at he
    rcases he with rfl | rfl | rfl | rfl | rfl | rfl | rfl
    · exact ⟨.inl 1, mixKind_int P w 1 ts1, rfl⟩
    · exact ⟨.inl 2, mixKind_int P w 2 ts2, rfl⟩
    · exact ⟨.inl 3, mixKind_int P w 3 ts3, rfl⟩
    · exact ⟨.inl 4, mixKind_int P w 4 ts4, rfl⟩
    · exact ⟨.inl 5, mixKind_int P w 5 ts5, rfl⟩
    · exact ⟨.inl 6, mixKind_int P w 6 ts6, rfl⟩
    · exact ⟨.inl 7, mixKind_int P w 7 ts7, rfl⟩
  · exact .cons (mixKind_int P w 1 ts1) rfl (.cons (mixKind_int P w 2 ts2) rfl (.cons (mixKind_int P w 3 ts3) rfl (.cons (mixKind_int P w 4 ts4) rfl (.cons (mixKind_int P w 5 ts5) rfl (.cons (mixKind_int P w 6 ts6) rfl (.cons (mixKind_int P w 7 ts7) rfl (.nil)))))))
  · exact .cons ⟨rfl, rfl⟩ (.cons ⟨rfl, rfl⟩ (.cons ⟨rfl, rfl⟩ (.cons ⟨rfl, rfl⟩ (.cons ⟨rfl, rfl⟩ (.cons ⟨rfl, rfl⟩ (.cons ⟨rfl, rfl⟩ (.nil)))))))
theorem all_mk {P : Program} {w : World} {K : PySem.W.Frag} {h : Heap} {mg : Str → Option Value} {fa CB CH CD NF SH f0 f1 f2 f3 f4 f5 f6 f7 f8 f9 f10 f11 f12 f13 f14 f15 f16 f17 f18 f19 f20 f21 f22 f23 f24 f25 f26 f27 f28 f29 f30 f31 f32 f33 f34 f35 f36 f37 f38 f39 f40 f41 f42 f43 f44 f45 r1 r2 r3 r4 r5 r6 r7 : Addr} {t_PARTS t_GREATEST_RISE t_GREATEST_MEASURE t_MOST_LOADS t_GREATEST_WEIGHT t_MAKE t_AREA t_VOLUME t_CENTRE t_META t_DEPTH t_NO_LOADS t_NO_TABLE t_OUTSIDE_LEVELS t_NO_VOLUME t_NO_HEIGHT t_BEYOND_DEPTHS tn0 tn1 ts1 ts2 ts3 ts4 ts5 ts6 ts7 tx1 tx2 tx3 tx4 tx5 tx6 tx7 ty1 ty2 ty3 ty4 ty5 ty6 ty7 : Tok} {od0 od1 od2 od3 od4 od5 od6 od7 od8 od9 od10 od11 od12 od13 od14 od15 od16 od17 od18 od19 od20 od21 od22 od23 od24 od25 od26 od27 od28 od29 od30 od31 od32 od33 od34 od35 od36 od37 od38 od39 od40 od41 od42 od43 od44 od45 an0 an1 an2 an3 an4 an5 an6 an7 an8 an9 an10 an11 an12 an13 an14 an15 an16 an17 an18 an19 an20 an21 an22 an23 an24 an25 an26 an27 an28 an29 an30 an31 an32 an33 an34 an35 an36 an37 an38 an39 an40 an41 an42 an43 an44 an45 odNF or1 or2 or3 or4 or5 or6 or7 : Option Addr} {sl0 sl1 sl2 sl3 sl4 sl5 sl6 sl7 sl8 sl9 sl10 sl11 sl12 sl13 sl14 sl15 sl16 sl17 sl18 sl19 sl20 sl21 sl22 sl23 sl24 sl25 sl26 sl27 sl28 sl29 sl30 sl31 sl32 sl33 sl34 sl35 sl36 sl37 sl38 sl39 sl40 sl41 sl42 sl43 sl44 sl45 slNF sr1 sr2 sr3 sr4 sr5 sr6 sr7 : Array (Option Value)} {oc0 kV0 dc0 pm0 cd0 ct0 oc1 kV1 dc1 pm1 cd1 ct1 oc2 kV2 dc2 pm2 cd2 ct2 oc3 kV3 dc3 pm3 cd3 ct3 oc4 kV4 dc4 pm4 cd4 ct4 oc5 kV5 dc5 pm5 cd5 ct5 oc6 kV6 dc6 pm6 cd6 ct6 oc7 kV7 dc7 pm7 cd7 ct7 oc8 kV8 dc8 pm8 cd8 ct8 oc9 kV9 dc9 pm9 cd9 ct9 oc10 kV10 dc10 pm10 cd10 ct10 oc11 kV11 dc11 pm11 cd11 ct11 oc12 kV12 dc12 pm12 cd12 ct12 oc13 kV13 dc13 pm13 cd13 ct13 oc14 kV14 dc14 pm14 cd14 ct14 oc15 kV15 dc15 pm15 cd15 ct15 oc16 kV16 dc16 pm16 cd16 ct16 oc17 kV17 dc17 pm17 cd17 ct17 oc18 kV18 dc18 pm18 cd18 ct18 oc19 kV19 dc19 pm19 cd19 ct19 oc20 kV20 dc20 pm20 cd20 ct20 oc21 kV21 dc21 pm21 cd21 ct21 oc22 kV22 dc22 pm22 cd22 ct22 oc23 kV23 dc23 pm23 cd23 ct23 oc24 kV24 dc24 pm24 cd24 ct24 oc25 kV25 dc25 pm25 cd25 ct25 oc26 kV26 dc26 pm26 cd26 ct26 oc27 kV27 dc27 pm27 cd27 ct27 oc28 kV28 dc28 pm28 cd28 ct28 oc29 kV29 dc29 pm29 cd29 ct29 oc30 kV30 dc30 pm30 cd30 ct30 oc31 kV31 dc31 pm31 cd31 ct31 oc32 kV32 dc32 pm32 cd32 ct32 oc33 kV33 dc33 pm33 cd33 ct33 oc34 kV34 dc34 pm34 cd34 ct34 oc35 kV35 dc35 pm35 cd35 ct35 oc36 kV36 dc36 pm36 cd36 ct36 oc37 kV37 dc37 pm37 cd37 ct37 oc38 kV38 dc38 pm38 cd38 ct38 oc39 kV39 dc39 pm39 cd39 ct39 oc40 kV40 dc40 pm40 cd40 ct40 oc41 kV41 dc41 pm41 cd41 ct41 oc42 kV42 dc42 pm42 cd42 ct42 oc43 kV43 dc43 pm43 cd43 ct43 oc44 kV44 dc44 pm44 cd44 ct44 oc45 kV45 dc45 pm45 cd45 ct45 : Value} {nNF epS nr1 nr2 nr3 nr4 nr5 nr6 nr7 : Nat} (X : K.In h) (G : h.Ns mainGlobals mg) (hfa : mg "answers" = some (.ref fa))
    (aCB : PySem.W.nsIn K mainGlobals "Batten" = some (some (.ref CB)))
    (pgCB : PySem.W.plainGet K CB Str.empty = true)
    (hdCB : PySem.W.hasDictIn K CB = true)
    (poCB : PySem.W.plainOver K CB = true)
    (saCB : PySem.W.findIn K (.ref CB) "__setattr__" = some (some (.builtin "object.__setattr__")))
    (mkCB : PySem.W.makesIn K CB = true)
    (kcCB : PySem.W.keepIn K (.ref CB) = true)
    (nCB_nails : PySem.W.findIn K (.ref CB) "nails" = some none)
    (nCB_scale : PySem.W.findIn K (.ref CB) "scale" = some none)
    (nCB_pieces : PySem.W.findIn K (.ref CB) "pieces" = some none)
    (aCH : PySem.W.nsIn K mainGlobals "Hull" = some (some (.ref CH)))
    (pgCH : PySem.W.plainGet K CH Str.empty = true)
    (hdCH : PySem.W.hasDictIn K CH = true)
    (poCH : PySem.W.plainOver K CH = true)
    (saCH : PySem.W.findIn K (.ref CH) "__setattr__" = some (some (.builtin "object.__setattr__")))
    (mkCH : PySem.W.makesIn K CH = true)
    (kcCH : PySem.W.keepIn K (.ref CH) = true)
    (nCH_share : PySem.W.findIn K (.ref CH) "share" = some none)
    (nCH_places : PySem.W.findIn K (.ref CH) "places" = some none)
    (nCH_lowest : PySem.W.findIn K (.ref CH) "lowest" = some none)
    (nCH_highest : PySem.W.findIn K (.ref CH) "highest" = some none)
    (nCH_areas : PySem.W.findIn K (.ref CH) "areas" = some none)
    (nCH_levers : PySem.W.findIn K (.ref CH) "levers" = some none)
    (nCH_stations : PySem.W.findIn K (.ref CH) "stations" = some none)
    (nCH_records : PySem.W.findIn K (.ref CH) "records" = some none)
    (aCD : PySem.W.nsIn K mainGlobals "Desk" = some (some (.ref CD)))
    (pgCD : PySem.W.plainGet K CD Str.empty = true)
    (hdCD : PySem.W.hasDictIn K CD = true)
    (poCD : PySem.W.plainOver K CD = true)
    (saCD : PySem.W.findIn K (.ref CD) "__setattr__" = some (some (.builtin "object.__setattr__")))
    (mkCD : PySem.W.makesIn K CD = true)
    (kcCD : PySem.W.keepIn K (.ref CD) = true)
    (nCD_hull : PySem.W.findIn K (.ref CD) "hull" = some none)
    (z_len : PySem.W.nsIn K mainGlobals "len" = some none)
    (z_range : PySem.W.nsIn K mainGlobals "range" = some none)
    (z_abs : PySem.W.nsIn K mainGlobals "abs" = some none)
    (z_min : PySem.W.nsIn K mainGlobals "min" = some none)
    (z_list : PySem.W.nsIn K mainGlobals "list" = some none)
    (z_reversed : PySem.W.nsIn K mainGlobals "reversed" = some none)
    (z_sum : PySem.W.nsIn K mainGlobals "sum" = some none)
    (z_all : PySem.W.nsIn K mainGlobals "all" = some none)
    (g_PARTS : PySem.W.nsIn K mainGlobals "PARTS" = some (some (.int 2520 t_PARTS)))
    (g_GREATEST_RISE : PySem.W.nsIn K mainGlobals "GREATEST_RISE" = some (some (.int 2000 t_GREATEST_RISE)))
    (g_GREATEST_MEASURE : PySem.W.nsIn K mainGlobals "GREATEST_MEASURE" = some (some (.int 1048575 t_GREATEST_MEASURE)))
    (g_MOST_LOADS : PySem.W.nsIn K mainGlobals "MOST_LOADS" = some (some (.int 256 t_MOST_LOADS)))
    (g_GREATEST_WEIGHT : PySem.W.nsIn K mainGlobals "GREATEST_WEIGHT" = some (some (.int 18446744073709551615 t_GREATEST_WEIGHT)))
    (g_MAKE : PySem.W.nsIn K mainGlobals "MAKE" = some (some (.int 1 t_MAKE)))
    (g_AREA : PySem.W.nsIn K mainGlobals "AREA" = some (some (.int 2 t_AREA)))
    (g_VOLUME : PySem.W.nsIn K mainGlobals "VOLUME" = some (some (.int 3 t_VOLUME)))
    (g_CENTRE : PySem.W.nsIn K mainGlobals "CENTRE" = some (some (.int 4 t_CENTRE)))
    (g_META : PySem.W.nsIn K mainGlobals "META" = some (some (.int 5 t_META)))
    (g_DEPTH : PySem.W.nsIn K mainGlobals "DEPTH" = some (some (.int 6 t_DEPTH)))
    (g_NO_LOADS : PySem.W.nsIn K mainGlobals "NO_LOADS" = some (some (.int (-1) t_NO_LOADS)))
    (g_NO_TABLE : PySem.W.nsIn K mainGlobals "NO_TABLE" = some (some (.int (-3) t_NO_TABLE)))
    (g_OUTSIDE_LEVELS : PySem.W.nsIn K mainGlobals "OUTSIDE_LEVELS" = some (some (.int (-4) t_OUTSIDE_LEVELS)))
    (g_NO_VOLUME : PySem.W.nsIn K mainGlobals "NO_VOLUME" = some (some (.int (-5) t_NO_VOLUME)))
    (g_NO_HEIGHT : PySem.W.nsIn K mainGlobals "NO_HEIGHT" = some (some (.int (-5) t_NO_HEIGHT)))
    (g_BEYOND_DEPTHS : PySem.W.nsIn K mainGlobals "BEYOND_DEPTHS" = some (some (.int (-9) t_BEYOND_DEPTHS)))
    (a0 : PySem.W.nsIn K mainGlobals "greatest_divisor" = some (some (.ref f0)))
    (l0 : K.lookup f0 = some ⟨oc0, od0, .func (PySem.W.fnOf "greatest_divisor" "greatest_divisor" (defArgs sGcd) (defBody sGcd) (defScope sGcd) .none kV0 dc0 pm0 an0 cd0 ct0), sl0⟩)
    (c0 : PySem.W.codeIn K cd0 "greatest_divisor" = true)
    (k0 : PySem.W.keepIn K (.ref f0) = true)
    (a1 : PySem.W.nsIn K mainGlobals "shared_divisor" = some (some (.ref f1)))
    (l1 : K.lookup f1 = some ⟨oc1, od1, .func (PySem.W.fnOf "shared_divisor" "shared_divisor" (defArgs s_shared_divisor) (defBody s_shared_divisor) (defScope s_shared_divisor) .none kV1 dc1 pm1 an1 cd1 ct1), sl1⟩)
    (c1 : PySem.W.codeIn K cd1 "shared_divisor" = true)
    (k1 : PySem.W.keepIn K (.ref f1) = true)
    (a2 : PySem.W.nsIn K mainGlobals "least_multiple" = some (some (.ref f2)))
    (l2 : K.lookup f2 = some ⟨oc2, od2, .func (PySem.W.fnOf "least_multiple" "least_multiple" (defArgs s_least_multiple) (defBody s_least_multiple) (defScope s_least_multiple) .none kV2 dc2 pm2 an2 cd2 ct2), sl2⟩)
    (c2 : PySem.W.codeIn K cd2 "least_multiple" = true)
    (k2 : PySem.W.keepIn K (.ref f2) = true)
    (a3 : PySem.W.nsIn K mainGlobals "lowest_terms" = some (some (.ref f3)))
    (l3 : K.lookup f3 = some ⟨oc3, od3, .func (PySem.W.fnOf "lowest_terms" "lowest_terms" (defArgs s_lowest_terms) (defBody s_lowest_terms) (defScope s_lowest_terms) .none kV3 dc3 pm3 an3 cd3 ct3), sl3⟩)
    (c3 : PySem.W.codeIn K cd3 "lowest_terms" = true)
    (k3 : PySem.W.keepIn K (.ref f3) = true)
    (a4 : PySem.W.nsIn K mainGlobals "leading_minors" = some (some (.ref f4)))
    (l4 : K.lookup f4 = some ⟨oc4, od4, .func (PySem.W.fnOf "leading_minors" "leading_minors" (defArgs s_leading_minors) (defBody s_leading_minors) (defScope s_leading_minors) .none kV4 dc4 pm4 an4 cd4 ct4), sl4⟩)
    (c4 : PySem.W.codeIn K cd4 "leading_minors" = true)
    (k4 : PySem.W.keepIn K (.ref f4) = true)
    (a5 : PySem.W.nsIn K mainGlobals "chord_turns" = some (some (.ref f5)))
    (l5 : K.lookup f5 = some ⟨oc5, od5, .func (PySem.W.fnOf "chord_turns" "chord_turns" (defArgs s_chord_turns) (defBody s_chord_turns) (defScope s_chord_turns) .none kV5 dc5 pm5 an5 cd5 ct5), sl5⟩)
    (c5 : PySem.W.codeIn K cd5 "chord_turns" = true)
    (k5 : PySem.W.keepIn K (.ref f5) = true)
    (a6 : PySem.W.nsIn K mainGlobals "scaled_bends" = some (some (.ref f6)))
    (l6 : K.lookup f6 = some ⟨oc6, od6, .func (PySem.W.fnOf "scaled_bends" "scaled_bends" (defArgs s_scaled_bends) (defBody s_scaled_bends) (defScope s_scaled_bends) .none kV6 dc6 pm6 an6 cd6 ct6), sl6⟩)
    (c6 : PySem.W.codeIn K cd6 "scaled_bends" = true)
    (k6 : PySem.W.keepIn K (.ref f6) = true)
    (a7 : PySem.W.nsIn K mainGlobals "cubic" = some (some (.ref f7)))
    (l7 : K.lookup f7 = some ⟨oc7, od7, .func (PySem.W.fnOf "cubic" "cubic" (defArgs s_cubic) (defBody s_cubic) (defScope s_cubic) .none kV7 dc7 pm7 an7 cd7 ct7), sl7⟩)
    (c7 : PySem.W.codeIn K cd7 "cubic" = true)
    (k7 : PySem.W.keepIn K (.ref f7) = true)
    (a8 : PySem.W.nsIn K mainGlobals "piece_integral" = some (some (.ref f8)))
    (l8 : K.lookup f8 = some ⟨oc8, od8, .func (PySem.W.fnOf "piece_integral" "piece_integral" (defArgs s_piece_integral) (defBody s_piece_integral) (defScope s_piece_integral) .none kV8 dc8 pm8 an8 cd8 ct8), sl8⟩)
    (c8 : PySem.W.codeIn K cd8 "piece_integral" = true)
    (k8 : PySem.W.keepIn K (.ref f8) = true)
    (a9 : PySem.W.nsIn K mainGlobals "swept" = some (some (.ref f9)))
    (l9 : K.lookup f9 = some ⟨oc9, od9, .func (PySem.W.fnOf "swept" "swept" (defArgs s_swept) (defBody s_swept) (defScope s_swept) .none kV9 dc9 pm9 an9 cd9 ct9), sl9⟩)
    (c9 : PySem.W.codeIn K cd9 "swept" = true)
    (k9 : PySem.W.keepIn K (.ref f9) = true)
    (a10 : PySem.W.nsIn K mainGlobals "product" = some (some (.ref f10)))
    (l10 : K.lookup f10 = some ⟨oc10, od10, .func (PySem.W.fnOf "product" "product" (defArgs s_product) (defBody s_product) (defScope s_product) .none kV10 dc10 pm10 an10 cd10 ct10), sl10⟩)
    (c10 : PySem.W.codeIn K cd10 "product" = true)
    (k10 : PySem.W.keepIn K (.ref f10) = true)
    (a11 : PySem.W.nsIn K mainGlobals "in_gaps" = some (some (.ref f11)))
    (l11 : K.lookup f11 = some ⟨oc11, od11, .func (PySem.W.fnOf "in_gaps" "in_gaps" (defArgs s_in_gaps) (defBody s_in_gaps) (defScope s_in_gaps) .none kV11 dc11 pm11 an11 cd11 ct11), sl11⟩)
    (c11 : PySem.W.codeIn K cd11 "in_gaps" = true)
    (k11 : PySem.W.keepIn K (.ref f11) = true)
    (a12 : PySem.W.nsIn K mainGlobals "piece_cube_integral" = some (some (.ref f12)))
    (l12 : K.lookup f12 = some ⟨oc12, od12, .func (PySem.W.fnOf "piece_cube_integral" "piece_cube_integral" (defArgs s_piece_cube_integral) (defBody s_piece_cube_integral) (defScope s_piece_cube_integral) .none kV12 dc12 pm12 an12 cd12 ct12), sl12⟩)
    (c12 : PySem.W.codeIn K cd12 "piece_cube_integral" = true)
    (k12 : PySem.W.keepIn K (.ref f12) = true)
    (a13 : PySem.W.findIn K (.ref CB) "__init__" = some (some (.ref f13)))
    (i13 : PySem.W.isFn K (.ref f13) = true)
    (l13 : K.lookup f13 = some ⟨oc13, od13, .func (PySem.W.fnOf "__init__" "Batten.__init__" (defArgs s_Batten___init__) (defBody s_Batten___init__) (defScope s_Batten___init__) .none kV13 dc13 pm13 an13 cd13 ct13), sl13⟩)
    (c13 : PySem.W.codeIn K cd13 "Batten.__init__" = true)
    (k13 : PySem.W.keepIn K (.ref f13) = true)
    (a14 : PySem.W.findIn K (.ref CB) "value" = some (some (.ref f14)))
    (i14 : PySem.W.isFn K (.ref f14) = true)
    (l14 : K.lookup f14 = some ⟨oc14, od14, .func (PySem.W.fnOf "value" "Batten.value" (defArgs s_Batten_value) (defBody s_Batten_value) (defScope s_Batten_value) .none kV14 dc14 pm14 an14 cd14 ct14), sl14⟩)
    (c14 : PySem.W.codeIn K cd14 "Batten.value" = true)
    (k14 : PySem.W.keepIn K (.ref f14) = true)
    (a15 : PySem.W.findIn K (.ref CB) "integral" = some (some (.ref f15)))
    (i15 : PySem.W.isFn K (.ref f15) = true)
    (l15 : K.lookup f15 = some ⟨oc15, od15, .func (PySem.W.fnOf "integral" "Batten.integral" (defArgs s_Batten_integral) (defBody s_Batten_integral) (defScope s_Batten_integral) .none kV15 dc15 pm15 an15 cd15 ct15), sl15⟩)
    (c15 : PySem.W.codeIn K cd15 "Batten.integral" = true)
    (k15 : PySem.W.keepIn K (.ref f15) = true)
    (a16 : PySem.W.findIn K (.ref CB) "moment" = some (some (.ref f16)))
    (i16 : PySem.W.isFn K (.ref f16) = true)
    (l16 : K.lookup f16 = some ⟨oc16, od16, .func (PySem.W.fnOf "moment" "Batten.moment" (defArgs s_Batten_moment) (defBody s_Batten_moment) (defScope s_Batten_moment) .none kV16 dc16 pm16 an16 cd16 ct16), sl16⟩)
    (c16 : PySem.W.codeIn K cd16 "Batten.moment" = true)
    (k16 : PySem.W.keepIn K (.ref f16) = true)
    (a17 : PySem.W.findIn K (.ref CB) "cube_integral" = some (some (.ref f17)))
    (i17 : PySem.W.isFn K (.ref f17) = true)
    (l17 : K.lookup f17 = some ⟨oc17, od17, .func (PySem.W.fnOf "cube_integral" "Batten.cube_integral" (defArgs s_Batten_cube_integral) (defBody s_Batten_cube_integral) (defScope s_Batten_cube_integral) .none kV17 dc17 pm17 an17 cd17 ct17), sl17⟩)
    (c17 : PySem.W.codeIn K cd17 "Batten.cube_integral" = true)
    (k17 : PySem.W.keepIn K (.ref f17) = true)
    (a18 : PySem.W.nsIn K mainGlobals "record_volumes" = some (some (.ref f18)))
    (l18 : K.lookup f18 = some ⟨oc18, od18, .func (PySem.W.fnOf "record_volumes" "record_volumes" (defArgs s_record_volumes) (defBody s_record_volumes) (defScope s_record_volumes) .none kV18 dc18 pm18 an18 cd18 ct18), sl18⟩)
    (c18 : PySem.W.codeIn K cd18 "record_volumes" = true)
    (k18 : PySem.W.keepIn K (.ref f18) = true)
    (a19 : PySem.W.nsIn K mainGlobals "least_height" = some (some (.ref f19)))
    (l19 : K.lookup f19 = some ⟨oc19, od19, .func (PySem.W.fnOf "least_height" "least_height" (defArgs s_least_height) (defBody s_least_height) (defScope s_least_height) .none kV19 dc19 pm19 an19 cd19 ct19), sl19⟩)
    (c19 : PySem.W.codeIn K cd19 "least_height" = true)
    (k19 : PySem.W.keepIn K (.ref f19) = true)
    (a20 : PySem.W.findIn K (.ref CH) "__init__" = some (some (.ref f20)))
    (i20 : PySem.W.isFn K (.ref f20) = true)
    (l20 : K.lookup f20 = some ⟨oc20, od20, .func (PySem.W.fnOf "__init__" "Hull.__init__" (defArgs s_Hull___init__) (defBody s_Hull___init__) (defScope s_Hull___init__) .none kV20 dc20 pm20 an20 cd20 ct20), sl20⟩)
    (c20 : PySem.W.codeIn K cd20 "Hull.__init__" = true)
    (k20 : PySem.W.keepIn K (.ref f20) = true)
    (a21 : PySem.W.findIn K (.ref CH) "spans" = some (some (.ref f21)))
    (i21 : PySem.W.isFn K (.ref f21) = true)
    (l21 : K.lookup f21 = some ⟨oc21, od21, .func (PySem.W.fnOf "spans" "Hull.spans" (defArgs s_Hull_spans) (defBody s_Hull_spans) (defScope s_Hull_spans) .none kV21 dc21 pm21 an21 cd21 ct21), sl21⟩)
    (c21 : PySem.W.codeIn K cd21 "Hull.spans" = true)
    (k21 : PySem.W.keepIn K (.ref f21) = true)
    (a22 : PySem.W.findIn K (.ref CH) "too_high" = some (some (.ref f22)))
    (i22 : PySem.W.isFn K (.ref f22) = true)
    (l22 : K.lookup f22 = some ⟨oc22, od22, .func (PySem.W.fnOf "too_high" "Hull.too_high" (defArgs s_Hull_too_high) (defBody s_Hull_too_high) (defScope s_Hull_too_high) .none kV22 dc22 pm22 an22 cd22 ct22), sl22⟩)
    (c22 : PySem.W.codeIn K cd22 "Hull.too_high" = true)
    (k22 : PySem.W.keepIn K (.ref f22) = true)
    (a23 : PySem.W.findIn K (.ref CH) "volume_unit" = some (some (.ref f23)))
    (i23 : PySem.W.isFn K (.ref f23) = true)
    (l23 : K.lookup f23 = some ⟨oc23, od23, .func (PySem.W.fnOf "volume_unit" "Hull.volume_unit" (defArgs s_Hull_volume_unit) (defBody s_Hull_volume_unit) (defScope s_Hull_volume_unit) .none kV23 dc23 pm23 an23 cd23 ct23), sl23⟩)
    (c23 : PySem.W.codeIn K cd23 "Hull.volume_unit" = true)
    (k23 : PySem.W.keepIn K (.ref f23) = true)
    (a24 : PySem.W.findIn K (.ref CH) "area" = some (some (.ref f24)))
    (i24 : PySem.W.isFn K (.ref f24) = true)
    (l24 : K.lookup f24 = some ⟨oc24, od24, .func (PySem.W.fnOf "area" "Hull.area" (defArgs s_Hull_area) (defBody s_Hull_area) (defScope s_Hull_area) .none kV24 dc24 pm24 an24 cd24 ct24), sl24⟩)
    (c24 : PySem.W.codeIn K cd24 "Hull.area" = true)
    (k24 : PySem.W.keepIn K (.ref f24) = true)
    (a25 : PySem.W.findIn K (.ref CH) "volume" = some (some (.ref f25)))
    (i25 : PySem.W.isFn K (.ref f25) = true)
    (l25 : K.lookup f25 = some ⟨oc25, od25, .func (PySem.W.fnOf "volume" "Hull.volume" (defArgs s_Hull_volume) (defBody s_Hull_volume) (defScope s_Hull_volume) .none kV25 dc25 pm25 an25 cd25 ct25), sl25⟩)
    (c25 : PySem.W.codeIn K cd25 "Hull.volume" = true)
    (k25 : PySem.W.keepIn K (.ref f25) = true)
    (a26 : PySem.W.findIn K (.ref CH) "has_volume" = some (some (.ref f26)))
    (i26 : PySem.W.isFn K (.ref f26) = true)
    (l26 : K.lookup f26 = some ⟨oc26, od26, .func (PySem.W.fnOf "has_volume" "Hull.has_volume" (defArgs s_Hull_has_volume) (defBody s_Hull_has_volume) (defScope s_Hull_has_volume) .none kV26 dc26 pm26 an26 cd26 ct26), sl26⟩)
    (c26 : PySem.W.codeIn K cd26 "Hull.has_volume" = true)
    (k26 : PySem.W.keepIn K (.ref f26) = true)
    (a27 : PySem.W.findIn K (.ref CH) "centre" = some (some (.ref f27)))
    (i27 : PySem.W.isFn K (.ref f27) = true)
    (l27 : K.lookup f27 = some ⟨oc27, od27, .func (PySem.W.fnOf "centre" "Hull.centre" (defArgs s_Hull_centre) (defBody s_Hull_centre) (defScope s_Hull_centre) .none kV27 dc27 pm27 an27 cd27 ct27), sl27⟩)
    (c27 : PySem.W.codeIn K cd27 "Hull.centre" = true)
    (k27 : PySem.W.keepIn K (.ref f27) = true)
    (a28 : PySem.W.findIn K (.ref CH) "spread_terms" = some (some (.ref f28)))
    (i28 : PySem.W.isFn K (.ref f28) = true)
    (l28 : K.lookup f28 = some ⟨oc28, od28, .func (PySem.W.fnOf "spread_terms" "Hull.spread_terms" (defArgs s_Hull_spread_terms) (defBody s_Hull_spread_terms) (defScope s_Hull_spread_terms) .none kV28 dc28 pm28 an28 cd28 ct28), sl28⟩)
    (c28 : PySem.W.codeIn K cd28 "Hull.spread_terms" = true)
    (k28 : PySem.W.keepIn K (.ref f28) = true)
    (a29 : PySem.W.findIn K (.ref CH) "metacentre_terms" = some (some (.ref f29)))
    (i29 : PySem.W.isFn K (.ref f29) = true)
    (l29 : K.lookup f29 = some ⟨oc29, od29, .func (PySem.W.fnOf "metacentre_terms" "Hull.metacentre_terms" (defArgs s_Hull_metacentre_terms) (defBody s_Hull_metacentre_terms) (defScope s_Hull_metacentre_terms) .none kV29 dc29 pm29 an29 cd29 ct29), sl29⟩)
    (c29 : PySem.W.codeIn K cd29 "Hull.metacentre_terms" = true)
    (k29 : PySem.W.keepIn K (.ref f29) = true)
    (a30 : PySem.W.findIn K (.ref CH) "metacentre" = some (some (.ref f30)))
    (i30 : PySem.W.isFn K (.ref f30) = true)
    (l30 : K.lookup f30 = some ⟨oc30, od30, .func (PySem.W.fnOf "metacentre" "Hull.metacentre" (defArgs s_Hull_metacentre) (defBody s_Hull_metacentre) (defScope s_Hull_metacentre) .none kV30 dc30 pm30 an30 cd30 ct30), sl30⟩)
    (c30 : PySem.W.codeIn K cd30 "Hull.metacentre" = true)
    (k30 : PySem.W.keepIn K (.ref f30) = true)
    (a31 : PySem.W.findIn K (.ref CH) "stand" = some (some (.ref f31)))
    (i31 : PySem.W.isFn K (.ref f31) = true)
    (l31 : K.lookup f31 = some ⟨oc31, od31, .func (PySem.W.fnOf "stand" "Hull.stand" (defArgs s_Hull_stand) (defBody s_Hull_stand) (defScope s_Hull_stand) .none kV31 dc31 pm31 an31 cd31 ct31), sl31⟩)
    (c31 : PySem.W.codeIn K cd31 "Hull.stand" = true)
    (k31 : PySem.W.keepIn K (.ref f31) = true)
    (a32 : PySem.W.findIn K (.ref CH) "floating_height" = some (some (.ref f32)))
    (i32 : PySem.W.isFn K (.ref f32) = true)
    (l32 : K.lookup f32 = some ⟨oc32, od32, .func (PySem.W.fnOf "floating_height" "Hull.floating_height" (defArgs s_Hull_floating_height) (defBody s_Hull_floating_height) (defScope s_Hull_floating_height) .none kV32 dc32 pm32 an32 cd32 ct32), sl32⟩)
    (c32 : PySem.W.codeIn K cd32 "Hull.floating_height" = true)
    (k32 : PySem.W.keepIn K (.ref f32) = true)
    (a33 : PySem.W.nsIn K mainGlobals "first_not_rising" = some (some (.ref f33)))
    (l33 : K.lookup f33 = some ⟨oc33, od33, .func (PySem.W.fnOf "first_not_rising" "first_not_rising" (defArgs s_first_not_rising) (defBody s_first_not_rising) (defScope s_first_not_rising) .none kV33 dc33 pm33 an33 cd33 ct33), sl33⟩)
    (c33 : PySem.W.codeIn K cd33 "first_not_rising" = true)
    (k33 : PySem.W.keepIn K (.ref f33) = true)
    (a34 : PySem.W.nsIn K mainGlobals "first_outside" = some (some (.ref f34)))
    (l34 : K.lookup f34 = some ⟨oc34, od34, .func (PySem.W.fnOf "first_outside" "first_outside" (defArgs s_first_outside) (defBody s_first_outside) (defScope s_first_outside) .none kV34 dc34 pm34 an34 cd34 ct34), sl34⟩)
    (c34 : PySem.W.codeIn K cd34 "first_outside" = true)
    (k34 : PySem.W.keepIn K (.ref f34) = true)
    (a35 : PySem.W.nsIn K mainGlobals "first_fault" = some (some (.ref f35)))
    (l35 : K.lookup f35 = some ⟨oc35, od35, .func (PySem.W.fnOf "first_fault" "first_fault" (defArgs s_first_fault) (defBody s_first_fault) (defScope s_first_fault) .none kV35 dc35 pm35 an35 cd35 ct35), sl35⟩)
    (c35 : PySem.W.codeIn K cd35 "first_fault" = true)
    (k35 : PySem.W.keepIn K (.ref f35) = true)
    (a36 : PySem.W.nsIn K mainGlobals "all_within" = some (some (.ref f36)))
    (l36 : K.lookup f36 = some ⟨oc36, od36, .func (PySem.W.fnOf "all_within" "all_within" (defArgs s_all_within) (defBody s_all_within) (defScope s_all_within) .none kV36 dc36 pm36 an36 cd36 ct36), sl36⟩)
    (c36 : PySem.W.codeIn K cd36 "all_within" = true)
    (k36 : PySem.W.keepIn K (.ref f36) = true)
    (a37 : PySem.W.nsIn K mainGlobals "lever" = some (some (.ref f37)))
    (l37 : K.lookup f37 = some ⟨oc37, od37, .func (PySem.W.fnOf "lever" "lever" (defArgs s_lever) (defBody s_lever) (defScope s_lever) .none kV37 dc37 pm37 an37 cd37 ct37), sl37⟩)
    (c37 : PySem.W.codeIn K cd37 "lever" = true)
    (k37 : PySem.W.keepIn K (.ref f37) = true)
    (a38 : PySem.W.nsIn K mainGlobals "are_loads" = some (some (.ref f38)))
    (l38 : K.lookup f38 = some ⟨oc38, od38, .func (PySem.W.fnOf "are_loads" "are_loads" (defArgs s_are_loads) (defBody s_are_loads) (defScope s_are_loads) .none kV38 dc38 pm38 an38 cd38 ct38), sl38⟩)
    (c38 : PySem.W.codeIn K cd38 "are_loads" = true)
    (k38 : PySem.W.keepIn K (.ref f38) = true)
    (a39 : PySem.W.nsIn K mainGlobals "answer_at" = some (some (.ref f39)))
    (l39 : K.lookup f39 = some ⟨oc39, od39, .func (PySem.W.fnOf "answer_at" "answer_at" (defArgs s_answer_at) (defBody s_answer_at) (defScope s_answer_at) .none kV39 dc39 pm39 an39 cd39 ct39), sl39⟩)
    (c39 : PySem.W.codeIn K cd39 "answer_at" = true)
    (k39 : PySem.W.keepIn K (.ref f39) = true)
    (a40 : PySem.W.nsIn K mainGlobals "answer_loaded" = some (some (.ref f40)))
    (l40 : K.lookup f40 = some ⟨oc40, od40, .func (PySem.W.fnOf "answer_loaded" "answer_loaded" (defArgs s_answer_loaded) (defBody s_answer_loaded) (defScope s_answer_loaded) .none kV40 dc40 pm40 an40 cd40 ct40), sl40⟩)
    (c40 : PySem.W.codeIn K cd40 "answer_loaded" = true)
    (k40 : PySem.W.keepIn K (.ref f40) = true)
    (a41 : PySem.W.findIn K (.ref CD) "__init__" = some (some (.ref f41)))
    (i41 : PySem.W.isFn K (.ref f41) = true)
    (l41 : K.lookup f41 = some ⟨oc41, od41, .func (PySem.W.fnOf "__init__" "Desk.__init__" (defArgs s_Desk___init__) (defBody s_Desk___init__) (defScope s_Desk___init__) .none kV41 dc41 pm41 an41 cd41 ct41), sl41⟩)
    (c41 : PySem.W.codeIn K cd41 "Desk.__init__" = true)
    (k41 : PySem.W.keepIn K (.ref f41) = true)
    (a42 : PySem.W.findIn K (.ref CD) "make" = some (some (.ref f42)))
    (i42 : PySem.W.isFn K (.ref f42) = true)
    (l42 : K.lookup f42 = some ⟨oc42, od42, .func (PySem.W.fnOf "make" "Desk.make" (defArgs s_Desk_make) (defBody s_Desk_make) (defScope s_Desk_make) .none kV42 dc42 pm42 an42 cd42 ct42), sl42⟩)
    (c42 : PySem.W.codeIn K cd42 "Desk.make" = true)
    (k42 : PySem.W.keepIn K (.ref f42) = true)
    (a43 : PySem.W.findIn K (.ref CD) "answer" = some (some (.ref f43)))
    (i43 : PySem.W.isFn K (.ref f43) = true)
    (l43 : K.lookup f43 = some ⟨oc43, od43, .func (PySem.W.fnOf "answer" "Desk.answer" (defArgs s_Desk_answer) (defBody s_Desk_answer) (defScope s_Desk_answer) .none kV43 dc43 pm43 an43 cd43 ct43), sl43⟩)
    (c43 : PySem.W.codeIn K cd43 "Desk.answer" = true)
    (k43 : PySem.W.keepIn K (.ref f43) = true)
    (a44 : PySem.W.nsIn K mainGlobals "read_rows" = some (some (.ref f44)))
    (l44 : K.lookup f44 = some ⟨oc44, od44, .func (PySem.W.fnOf "read_rows" "read_rows" (defArgs s_read_rows) (defBody s_read_rows) (defScope s_read_rows) .none kV44 dc44 pm44 an44 cd44 ct44), sl44⟩)
    (c44 : PySem.W.codeIn K cd44 "read_rows" = true)
    (k44 : PySem.W.keepIn K (.ref f44) = true)
    (a45 : PySem.W.nsIn K mainGlobals "answers" = some (some (.ref f45)))
    (l45 : K.lookup f45 = some ⟨oc45, od45, .func (PySem.W.fnOf "answers" "answers" (defArgs s_answers) (defBody s_answers) (defScope s_answers) .none kV45 dc45 pm45 an45 cd45 ct45), sl45⟩)
    (c45 : PySem.W.codeIn K cd45 "answers" = true)
    (k45 : PySem.W.keepIn K (.ref f45) = true)
    (aNF : PySem.W.nsIn K mainGlobals "NO_FAULT" = some (some (.ref NF)))
    (lNF : K.lookup NF = some ⟨.type "tuple", odNF, .seq #[.int 0 tn0, .int 0 tn1] nNF, slNF⟩)
    (aSH : PySem.W.nsIn K mainGlobals "SHAPES" = some (some (.ref SH)))
    (lSH : K.lookup SH = some ⟨.type "dict", none, .dict #[⟨hashInt 1, .int 1 ts1, .ref r1⟩, ⟨hashInt 2, .int 2 ts2, .ref r2⟩, ⟨hashInt 3, .int 3 ts3, .ref r3⟩, ⟨hashInt 4, .int 4 ts4, .ref r4⟩, ⟨hashInt 5, .int 5 ts5, .ref r5⟩, ⟨hashInt 6, .int 6 ts6, .ref r6⟩, ⟨hashInt 7, .int 7 ts7, .ref r7⟩] epS, #[]⟩)
    (lr1 : K.lookup r1 = some ⟨.type "tuple", or1, .seq #[.int 0 tx1, .int 3 ty1] nr1, sr1⟩)
    (lr2 : K.lookup r2 = some ⟨.type "tuple", or2, .seq #[.int 1 tx2, .int 0 ty2] nr2, sr2⟩)
    (lr3 : K.lookup r3 = some ⟨.type "tuple", or3, .seq #[.int 1 tx3, .int 0 ty3] nr3, sr3⟩)
    (lr4 : K.lookup r4 = some ⟨.type "tuple", or4, .seq #[.int 1 tx4, .int 0 ty4] nr4, sr4⟩)
    (lr5 : K.lookup r5 = some ⟨.type "tuple", or5, .seq #[.int 1 tx5, .int 0 ty5] nr5, sr5⟩)
    (lr6 : K.lookup r6 = some ⟨.type "tuple", or6, .seq #[.int 0 tx6, .int 2 ty6] nr6, sr6⟩)
    (lr7 : K.lookup r7 = some ⟨.type "tuple", or7, .seq #[.int 0 tx7, .int 2 ty7] nr7, sr7⟩)
    (hBH : CB ≠ CH) (hHD : CH ≠ CD) (hBD : CB ≠ CD) :
    ∃ fd : FuncData, (∀ (s : Shared) (us : List Value), us.length = (["calls"] : List Str).length → BindsTo s fd ⟨us, []⟩ ((["calls"] : List Str).zip us)) ∧ ∀ base : Heap, K.In base → base.Ns mainGlobals mg → FnOk P w K mg base CX0 10 fa fd ["calls"] (spAns K) := by
  have e := hfa.symm.trans (PySem.W.mg_of X G a45)
  cases e
  have T : Txt K mg := {
    n_len := PySem.W.mg_none_of X G z_len,
    n_range := PySem.W.mg_none_of X G z_range,
    n_abs := PySem.W.mg_none_of X G z_abs,
    n_min := PySem.W.mg_none_of X G z_min,
    n_list := PySem.W.mg_none_of X G z_list,
    n_reversed := PySem.W.mg_none_of X G z_reversed,
    n_sum := PySem.W.mg_none_of X G z_sum,
    n_all := PySem.W.mg_none_of X G z_all,
    PARTS := _, v_PARTS := ⟨PySem.W.mg_of X G g_PARTS, ⟨_, rfl⟩⟩,
    GREATEST_RISE := _, v_GREATEST_RISE := ⟨PySem.W.mg_of X G g_GREATEST_RISE, ⟨_, rfl⟩⟩,
    GREATEST_MEASURE := _, v_GREATEST_MEASURE := ⟨PySem.W.mg_of X G g_GREATEST_MEASURE, ⟨_, rfl⟩⟩,
    MOST_LOADS := _, v_MOST_LOADS := ⟨PySem.W.mg_of X G g_MOST_LOADS, ⟨_, rfl⟩⟩,
    GREATEST_WEIGHT := _, v_GREATEST_WEIGHT := ⟨PySem.W.mg_of X G g_GREATEST_WEIGHT, ⟨_, rfl⟩⟩,
    MAKE := _, v_MAKE := ⟨PySem.W.mg_of X G g_MAKE, ⟨_, rfl⟩⟩,
    AREA := _, v_AREA := ⟨PySem.W.mg_of X G g_AREA, ⟨_, rfl⟩⟩,
    VOLUME := _, v_VOLUME := ⟨PySem.W.mg_of X G g_VOLUME, ⟨_, rfl⟩⟩,
    CENTRE := _, v_CENTRE := ⟨PySem.W.mg_of X G g_CENTRE, ⟨_, rfl⟩⟩,
    META := _, v_META := ⟨PySem.W.mg_of X G g_META, ⟨_, rfl⟩⟩,
    DEPTH := _, v_DEPTH := ⟨PySem.W.mg_of X G g_DEPTH, ⟨_, rfl⟩⟩,
    NO_LOADS := _, v_NO_LOADS := ⟨PySem.W.mg_of X G g_NO_LOADS, ⟨_, rfl⟩⟩,
    NO_TABLE := _, v_NO_TABLE := ⟨PySem.W.mg_of X G g_NO_TABLE, ⟨_, rfl⟩⟩,
    OUTSIDE_LEVELS := _, v_OUTSIDE_LEVELS := ⟨PySem.W.mg_of X G g_OUTSIDE_LEVELS, ⟨_, rfl⟩⟩,
    NO_VOLUME := _, v_NO_VOLUME := ⟨PySem.W.mg_of X G g_NO_VOLUME, ⟨_, rfl⟩⟩,
    NO_HEIGHT := _, v_NO_HEIGHT := ⟨PySem.W.mg_of X G g_NO_HEIGHT, ⟨_, rfl⟩⟩,
    BEYOND_DEPTHS := _, v_BEYOND_DEPTHS := ⟨PySem.W.mg_of X G g_BEYOND_DEPTHS, ⟨_, rfl⟩⟩,
    NO_FAULT := NF, v_NO_FAULT := ⟨PySem.W.mg_of X G aNF, rfl⟩, q_NO_FAULT := tup2 lNF }
  have sh : ∀ (a : Int) (nn k : Nat), PyWqlftf.shape a = some (nn, k) → ∃ t, valV ([(.inl 1, .ref r1), (.inl 2, .ref r2), (.inl 3, .ref r3), (.inl 4, .ref r4), (.inl 5, .ref r5), (.inl 6, .ref r6), (.inl 7, .ref r7)] : List (Key × V)) (.inl a) = some (.ref t) ∧ ∀ H, SqT K H t [.int (nn : Int), .int (k : Int)] := fun a nn k hs => by
    unfold PyWqlftf.shape at hs
    by_cases e1 : a = 1
    · rw [if_pos e1] at hs
      injection hs with hs
      injection hs with h1 h2
      subst h1 h2 e1
      exact ⟨r1, rfl, tup2 lr1⟩
    rw [if_neg e1] at hs
    by_cases e2 : a = 2
    · rw [if_pos e2] at hs
      injection hs with hs
      injection hs with h1 h2
      subst h1 h2 e2
      exact ⟨r2, rfl, tup2 lr2⟩
    rw [if_neg e2] at hs
    by_cases e3 : a = 3
    · rw [if_pos e3] at hs
      injection hs with hs
      injection hs with h1 h2
      subst h1 h2 e3
      exact ⟨r3, rfl, tup2 lr3⟩
    rw [if_neg e3] at hs
    by_cases e4 : a = 4
    · rw [if_pos e4] at hs
      injection hs with hs
      injection hs with h1 h2
      subst h1 h2 e4
      exact ⟨r4, rfl, tup2 lr4⟩
    rw [if_neg e4] at hs
    by_cases e5 : a = 5
    · rw [if_pos e5] at hs
      injection hs with hs
      injection hs with h1 h2
      subst h1 h2 e5
      exact ⟨r5, rfl, tup2 lr5⟩
    rw [if_neg e5] at hs
    by_cases e6 : a = 6
    · rw [if_pos e6] at hs
      injection hs with hs
      injection hs with h1 h2
      subst h1 h2 e6
      exact ⟨r6, rfl, tup2 lr6⟩
    rw [if_neg e6] at hs
    by_cases e7 : a = 7
    · rw [if_pos e7] at hs
      injection hs with hs
      injection hs with h1 h2
      subst h1 h2 e7
      exact ⟨r7, rfl, tup2 lr7⟩
    rw [if_neg e7] at hs
    cases hs
  have S : TxtS P w K mg := { SHAPES := SH, kvs := [(.inl 1, .ref r1), (.inl 2, .ref r2), (.inl 3, .ref r3), (.inl 4, .ref r4), (.inl 5, .ref r5), (.inl 6, .ref r6), (.inl 7, .ref r7)], v := ⟨PySem.W.mg_of X G aSH, rfl⟩, d := shapes_mk lSH, sh := sh }
  have B_Batten : TxtB K CB := ⟨⟨pgCB, hdCB, poCB, saCB⟩, nCB_nails, nCB_scale, nCB_pieces⟩
  have B_Hull : TxtH K CH := ⟨⟨pgCH, hdCH, poCH, saCH⟩, nCH_share, nCH_places, nCH_lowest, nCH_highest, nCH_areas, nCH_levers, nCH_stations, nCH_records⟩
  have B_Desk : TxtD K CD := ⟨⟨pgCD, hdCD, poCD, saCD⟩, nCD_hull⟩
  have F0 := fun_mk (st := sGcd) l0 c0 k0
  have b0 := F0.binds (ps := ["first", "second"]) fun _ _ _ _ _ _ us hl => match us, hl with | [_, _], _ => rfl
  have F1 := fun_mk (st := s_shared_divisor) l1 c1 k1
  have b1 := F1.binds (ps := ["numbers", "number"]) fun _ _ _ _ _ _ us hl => match us, hl with | [_, _], _ => rfl
  have F2 := fun_mk (st := s_least_multiple) l2 c2 k2
  have b2 := F2.binds (ps := ["numbers"]) fun _ _ _ _ _ _ us hl => match us, hl with | [_], _ => rfl
  have F3 := fun_mk (st := s_lowest_terms) l3 c3 k3
  have b3 := F3.binds (ps := ["above", "below"]) fun _ _ _ _ _ _ us hl => match us, hl with | [_, _], _ => rfl
  have F4 := fun_mk (st := s_leading_minors) l4 c4 k4
  have b4 := F4.binds (ps := ["gaps"]) fun _ _ _ _ _ _ us hl => match us, hl with | [_], _ => rfl
  have F5 := fun_mk (st := s_chord_turns) l5 c5 k5
  have b5 := F5.binds (ps := ["gaps", "ys", "multiple"]) fun _ _ _ _ _ _ us hl => match us, hl with | [_, _, _], _ => rfl
  have F6 := fun_mk (st := s_scaled_bends) l6 c6 k6
  have b6 := F6.binds (ps := ["gaps", "minors", "turns"]) fun _ _ _ _ _ _ us hl => match us, hl with | [_, _, _], _ => rfl
  have F7 := fun_mk (st := s_cubic) l7 c7 k7
  have b7 := F7.binds (ps := ["gap", "multiple", "scale", "ys", "bends"]) fun _ _ _ _ _ _ us hl => match us, hl with | [_, _, _, _, _], _ => rfl
  have F8 := fun_mk (st := s_piece_integral) l8 c8 k8
  have b8 := F8.binds (ps := ["piece", "reach"]) fun _ _ _ _ _ _ us hl => match us, hl with | [_, _], _ => rfl
  have F9 := fun_mk (st := s_swept) l9 c9 k9
  have b9 := F9.binds (ps := ["nails", "pieces", "x"]) fun _ _ _ _ _ _ us hl => match us, hl with | [_, _, _], _ => rfl
  have F10 := fun_mk (st := s_product) l10 c10 k10
  have b10 := F10.binds (ps := ["first", "second"]) fun _ _ _ _ _ _ us hl => match us, hl with | [_, _], _ => rfl
  have F11 := fun_mk (st := s_in_gaps) l11 c11 k11
  have b11 := F11.binds (ps := ["piece", "gap"]) fun _ _ _ _ _ _ us hl => match us, hl with | [_, _], _ => rfl
  have F12 := fun_mk (st := s_piece_cube_integral) l12 c12 k12
  have b12 := F12.binds (ps := ["piece", "gap"]) fun _ _ _ _ _ _ us hl => match us, hl with | [_, _], _ => rfl
  have F13 := fun_mk (st := s_Batten___init__) l13 c13 k13
  have b13 := F13.binds (ps := ["self", "xs", "ys"]) fun _ _ _ _ _ _ us hl => match us, hl with | [_, _, _], _ => rfl
  have F14 := fun_mk (st := s_Batten_value) l14 c14 k14
  have b14 := F14.binds (ps := ["self", "x"]) fun _ _ _ _ _ _ us hl => match us, hl with | [_, _], _ => rfl
  have F15 := fun_mk (st := s_Batten_integral) l15 c15 k15
  have b15 := F15.binds (ps := ["self", "x"]) fun _ _ _ _ _ _ us hl => match us, hl with | [_, _], _ => rfl
  have F16 := fun_mk (st := s_Batten_moment) l16 c16 k16
  have b16 := F16.binds (ps := ["self", "x"]) fun _ _ _ _ _ _ us hl => match us, hl with | [_, _], _ => rfl
  have F17 := fun_mk (st := s_Batten_cube_integral) l17 c17 k17
  have b17 := F17.binds (ps := ["self"]) fun _ _ _ _ _ _ us hl => match us, hl with | [_], _ => rfl
  have F18 := fun_mk (st := s_record_volumes) l18 c18 k18
  have b18 := F18.binds (ps := ["areas"]) fun _ _ _ _ _ _ us hl => match us, hl with | [_], _ => rfl
  have F19 := fun_mk (st := s_least_height) l19 c19 k19
  have b19 := F19.binds (ps := ["records", "goal"]) fun _ _ _ _ _ _ us hl => match us, hl with | [_, _], _ => rfl
  have F20 := fun_mk (st := s_Hull___init__) l20 c20 k20
  have b20 := F20.binds (ps := ["self", "places", "heights", "half_breadths"]) fun _ _ _ _ _ _ us hl => match us, hl with | [_, _, _, _], _ => rfl
  have F21 := fun_mk (st := s_Hull_spans) l21 c21 k21
  have b21 := F21.binds (ps := ["self", "z"]) fun _ _ _ _ _ _ us hl => match us, hl with | [_, _], _ => rfl
  have F22 := fun_mk (st := s_Hull_too_high) l22 c22 k22
  have b22 := F22.binds (ps := ["self"]) fun _ _ _ _ _ _ us hl => match us, hl with | [_], _ => rfl
  have F23 := fun_mk (st := s_Hull_volume_unit) l23 c23 k23
  have b23 := F23.binds (ps := ["self"]) fun _ _ _ _ _ _ us hl => match us, hl with | [_], _ => rfl
  have F24 := fun_mk (st := s_Hull_area) l24 c24 k24
  have b24 := F24.binds (ps := ["self", "z"]) fun _ _ _ _ _ _ us hl => match us, hl with | [_, _], _ => rfl
  have F25 := fun_mk (st := s_Hull_volume) l25 c25 k25
  have b25 := F25.binds (ps := ["self", "z"]) fun _ _ _ _ _ _ us hl => match us, hl with | [_, _], _ => rfl
  have F26 := fun_mk (st := s_Hull_has_volume) l26 c26 k26
  have b26 := F26.binds (ps := ["self", "z"]) fun _ _ _ _ _ _ us hl => match us, hl with | [_, _], _ => rfl
  have F27 := fun_mk (st := s_Hull_centre) l27 c27 k27
  have b27 := F27.binds (ps := ["self", "z"]) fun _ _ _ _ _ _ us hl => match us, hl with | [_, _], _ => rfl
  have F28 := fun_mk (st := s_Hull_spread_terms) l28 c28 k28
  have b28 := F28.binds (ps := ["self", "z"]) fun _ _ _ _ _ _ us hl => match us, hl with | [_, _], _ => rfl
  have F29 := fun_mk (st := s_Hull_metacentre_terms) l29 c29 k29
  have b29 := F29.binds (ps := ["self", "z"]) fun _ _ _ _ _ _ us hl => match us, hl with | [_, _], _ => rfl
  have F30 := fun_mk (st := s_Hull_metacentre) l30 c30 k30
  have b30 := F30.binds (ps := ["self", "z"]) fun _ _ _ _ _ _ us hl => match us, hl with | [_, _], _ => rfl
  have F31 := fun_mk (st := s_Hull_stand) l31 c31 k31
  have b31 := F31.binds (ps := ["self", "z", "weight", "lever"]) fun _ _ _ _ _ _ us hl => match us, hl with | [_, _, _, _], _ => rfl
  have F32 := fun_mk (st := s_Hull_floating_height) l32 c32 k32
  have b32 := F32.binds (ps := ["self", "weight"]) fun _ _ _ _ _ _ us hl => match us, hl with | [_, _], _ => rfl
  have F33 := fun_mk (st := s_first_not_rising) l33 c33 k33
  have b33 := F33.binds (ps := ["row", "least"]) fun _ _ _ _ _ _ us hl => match us, hl with | [_, _], _ => rfl
  have F34 := fun_mk (st := s_first_outside) l34 c34 k34
  have b34 := F34.binds (ps := ["row"]) fun _ _ _ _ _ _ us hl => match us, hl with | [_], _ => rfl
  have F35 := fun_mk (st := s_first_fault) l35 c35 k35
  have b35 := F35.binds (ps := ["places", "heights", "half_breadths"]) fun _ _ _ _ _ _ us hl => match us, hl with | [_, _, _], _ => rfl
  have F36 := fun_mk (st := s_all_within) l36 c36 k36
  have b36 := F36.binds (ps := ["row", "least", "greatest"]) fun _ _ _ _ _ _ us hl => match us, hl with | [_, _, _], _ => rfl
  have F37 := fun_mk (st := s_lever) l37 c37 k37
  have b37 := F37.binds (ps := ["weights", "heights"]) fun _ _ _ _ _ _ us hl => match us, hl with | [_, _], _ => rfl
  have F38 := fun_mk (st := s_are_loads) l38 c38 k38
  have b38 := F38.binds (ps := ["weights", "heights"]) fun _ _ _ _ _ _ us hl => match us, hl with | [_, _], _ => rfl
  have F39 := fun_mk (st := s_answer_at) l39 c39 k39
  have b39 := F39.binds (ps := ["hull", "call", "z"]) fun _ _ _ _ _ _ us hl => match us, hl with | [_, _, _], _ => rfl
  have F40 := fun_mk (st := s_answer_loaded) l40 c40 k40
  have b40 := F40.binds (ps := ["hull", "call", "weights", "heights"]) fun _ _ _ _ _ _ us hl => match us, hl with | [_, _, _, _], _ => rfl
  have F41 := fun_mk (st := s_Desk___init__) l41 c41 k41
  have b41 := F41.binds (ps := ["self"]) fun _ _ _ _ _ _ us hl => match us, hl with | [_], _ => rfl
  have F42 := fun_mk (st := s_Desk_make) l42 c42 k42
  have b42 := F42.binds (ps := ["self", "places", "heights", "half_breadths"]) fun _ _ _ _ _ _ us hl => match us, hl with | [_, _, _, _], _ => rfl
  have F43 := fun_mk (st := s_Desk_answer) l43 c43 k43
  have b43 := F43.binds (ps := ["self", "call", "numbers", "rows"]) fun _ _ _ _ _ _ us hl => match us, hl with | [_, _, _, _], _ => rfl
  have F44 := fun_mk (st := s_read_rows) l44 c44 k44
  have b44 := F44.binds (ps := ["calls", "at", "count"]) fun _ _ _ _ _ _ us hl => match us, hl with | [_, _, _], _ => rfl
  have F45 := fun_mk (st := s_answers) l45 c45 k45
  have b45 := F45.binds (ps := ["calls"]) fun _ _ _ _ _ _ us hl => match us, hl with | [_], _ => rfl
  refine ⟨PySem.W.fnOf "answers" "answers" (defArgs s_answers) (defBody s_answers) (defScope s_answers) .none kV45 dc45 pm45 an45 cd45 ct45, fun s us hu => match us, hu with | [_], _ => .of_eq rfl, fun base _ _ => ?_⟩
  have G_greatest_divisor : Has P w K mg base 1 "greatest_divisor" ["first", "second"] spGcd := ⟨_, _, ok_gcd F0 , PySem.W.mg_of X G a0, k0, b0⟩
  have G_shared_divisor : Has P w K mg base 2 "shared_divisor" ["numbers", "number"] (spShared K) := ⟨_, _, ok_shared F1 T G_greatest_divisor, PySem.W.mg_of X G a1, k1, b1⟩
  have G_least_multiple : Has P w K mg base 2 "least_multiple" ["numbers"] (spLcm K) := ⟨_, _, ok_lcm F2 T G_greatest_divisor, PySem.W.mg_of X G a2, k2, b2⟩
  have G_lowest_terms : Has P w K mg base 2 "lowest_terms" ["above", "below"] spLow := ⟨_, _, ok_low F3 T G_greatest_divisor, PySem.W.mg_of X G a3, k3, b3⟩
  have G_leading_minors : Has P w K mg base 1 "leading_minors" ["gaps"] (spMinors K) := ⟨_, _, ok_minors F4 T, PySem.W.mg_of X G a4, k4, b4⟩
  have G_chord_turns : Has P w K mg base 1 "chord_turns" ["gaps", "ys", "multiple"] (spTurns K) := ⟨_, _, ok_turns F5 T, PySem.W.mg_of X G a5, k5, b5⟩
  have G_scaled_bends : Has P w K mg base 1 "scaled_bends" ["gaps", "minors", "turns"] (spBends K) := ⟨_, _, ok_bends F6 T, PySem.W.mg_of X G a6, k6, b6⟩
  have G_cubic : Has P w K mg base 1 "cubic" ["gap", "multiple", "scale", "ys", "bends"] (spCubic K) := ⟨_, _, ok_cubic F7 , PySem.W.mg_of X G a7, k7, b7⟩
  have G_piece_integral : Has P w K mg base 1 "piece_integral" ["piece", "reach"] (spPInt K) := ⟨_, _, ok_pint F8 T, PySem.W.mg_of X G a8, k8, b8⟩
  have G_swept : Has P w K mg base 2 "swept" ["nails", "pieces", "x"] (spSwept K) := ⟨_, _, ok_swept F9 T G_piece_integral, PySem.W.mg_of X G a9, k9, b9⟩
  have G_product : Has P w K mg base 1 "product" ["first", "second"] (spProd K) := ⟨_, _, ok_prod F10 T, PySem.W.mg_of X G a10, k10, b10⟩
  have G_in_gaps : Has P w K mg base 1 "in_gaps" ["piece", "gap"] (spGapsOf K) := ⟨_, _, ok_gapsof F11 T, PySem.W.mg_of X G a11, k11, b11⟩
  have G_piece_cube_integral : Has P w K mg base 2 "piece_cube_integral" ["piece", "gap"] (spPCube K) := ⟨_, _, ok_pcube F12 T G_in_gaps G_product, PySem.W.mg_of X G a12, k12, b12⟩
  have G_Batten : HasC P w K mg base CB 3 "Batten" ["self", "xs", "ys"] (spBInit K CB) := ⟨_, _, ok_binit F13 T B_Batten G_least_multiple G_leading_minors G_chord_turns G_scaled_bends G_cubic, ⟨mkCB, a13, i13, kcCB⟩, PySem.W.mg_of X G aCB, b13⟩
  have G_Batten_value : HasM P w K mg base CB 1 "value" ["self", "x"] (spValue CB) := ⟨_, _, ok_value F14 T B_Batten, ⟨a14, i14, k14⟩, b14⟩
  have G_Batten_integral : HasM P w K mg base CB 3 "integral" ["self", "x"] (spIntegral CB) := ⟨_, _, ok_integral F15 B_Batten G_swept, ⟨a15, i15, k15⟩, b15⟩
  have G_Batten_moment : HasM P w K mg base CB 3 "moment" ["self", "x"] (spMoment CB) := ⟨_, _, ok_moment F16 T B_Batten G_swept G_product, ⟨a16, i16, k16⟩, b16⟩
  have G_Batten_cube_integral : HasM P w K mg base CB 3 "cube_integral" ["self"] (spCube CB) := ⟨_, _, ok_cube F17 T B_Batten G_piece_cube_integral, ⟨a17, i17, k17⟩, b17⟩
  have G_record_volumes : Has P w K mg base 2 "record_volumes" ["areas"] (spRecords CB) := ⟨_, _, ok_records F18 T B_Batten G_piece_integral, PySem.W.mg_of X G a18, k18, b18⟩
  have G_least_height : Has P w K mg base 1 "least_height" ["records", "goal"] (spLeast K) := ⟨_, _, ok_least F19 T, PySem.W.mg_of X G a19, k19, b19⟩
  have G_Hull : HasC P w K mg base CH 5 "Hull" ["self", "places", "heights", "half_breadths"] (spHInit K CH CB) := ⟨_, _, ok_hinit F20 T B_Hull B_Batten hBH G_Batten G_Batten_integral G_Batten_moment, ⟨mkCH, a20, i20, kcCH⟩, PySem.W.mg_of X G aCH, b20⟩
  have G_Hull_spans : HasM P w K mg base CH 1 "spans" ["self", "z"] (spSpans CH CB) := ⟨_, _, ok_spans F21 T B_Hull B_Batten, ⟨a21, i21, k21⟩, b21⟩
  have G_Hull_too_high : HasM P w K mg base CH 1 "too_high" ["self"] (spHigh CH CB) := ⟨_, _, ok_high F22 T B_Hull B_Batten, ⟨a22, i22, k22⟩, b22⟩
  have G_Hull_volume_unit : HasM P w K mg base CH 1 "volume_unit" ["self"] (spUnit CH CB) := ⟨_, _, ok_unit F23 T B_Hull B_Batten, ⟨a23, i23, k23⟩, b23⟩
  have G_Hull_area : HasM P w K mg base CH 3 "area" ["self", "z"] (spArea CH CB) := ⟨_, _, ok_area F24 T B_Hull B_Batten G_Batten_value G_lowest_terms, ⟨a24, i24, k24⟩, b24⟩
  have G_Hull_volume : HasM P w K mg base CH 4 "volume" ["self", "z"] (spVolume CH CB) := ⟨_, _, ok_volume F25 T B_Hull B_Batten G_Batten_integral G_lowest_terms G_Hull_volume_unit, ⟨a25, i25, k25⟩, b25⟩
  have G_Hull_has_volume : HasM P w K mg base CH 4 "has_volume" ["self", "z"] (spHas CH CB) := ⟨_, _, ok_has F26 T B_Hull B_Batten G_Batten_integral, ⟨a26, i26, k26⟩, b26⟩
  have G_Hull_centre : HasM P w K mg base CH 4 "centre" ["self", "z"] (spCentre CH CB) := ⟨_, _, ok_centre F27 T B_Hull B_Batten G_Batten_integral G_Batten_moment G_lowest_terms, ⟨a27, i27, k27⟩, b27⟩
  have G_Hull_spread_terms : HasM P w K mg base CH 5 "spread_terms" ["self", "z"] (spSpread CH CB) := ⟨_, _, ok_spread F28 T B_Hull B_Batten G_Batten_value G_shared_divisor G_Batten G_Batten_cube_integral, ⟨a28, i28, k28⟩, b28⟩
  have G_Hull_metacentre_terms : HasM P w K mg base CH 6 "metacentre_terms" ["self", "z"] (spTerms CH CB) := ⟨_, _, ok_terms F29 T B_Hull B_Batten G_Batten_integral G_Batten_moment G_Hull_volume_unit G_Hull_spread_terms, ⟨a29, i29, k29⟩, b29⟩
  have G_Hull_metacentre : HasM P w K mg base CH 7 "metacentre" ["self", "z"] (spMeta CH CB) := ⟨_, _, ok_meta F30 T B_Hull B_Batten G_lowest_terms G_Hull_metacentre_terms, ⟨a30, i30, k30⟩, b30⟩
  have G_Hull_stand : HasM P w K mg base CH 7 "stand" ["self", "z", "weight", "lever"] (spStand CH CB) := ⟨_, _, ok_stand F31 T B_Hull B_Batten G_lowest_terms G_Hull_metacentre_terms, ⟨a31, i31, k31⟩, b31⟩
  have G_Hull_floating_height : HasM P w K mg base CH 3 "floating_height" ["self", "weight"] (spFloat CH CB) := ⟨_, _, ok_float F32 T B_Hull B_Batten G_record_volumes G_least_height G_Hull_volume_unit, ⟨a32, i32, k32⟩, b32⟩
  have G_first_not_rising : Has P w K mg base 1 "first_not_rising" ["row", "least"] (spRising K) := ⟨_, _, ok_rising F33 T, PySem.W.mg_of X G a33, k33, b33⟩
  have G_first_outside : Has P w K mg base 1 "first_outside" ["row"] (spOutside K) := ⟨_, _, ok_outside F34 T, PySem.W.mg_of X G a34, k34, b34⟩
  have G_first_fault : Has P w K mg base 2 "first_fault" ["places", "heights", "half_breadths"] (spFault K) := ⟨_, _, ok_fault F35 T G_first_not_rising G_first_outside, PySem.W.mg_of X G a35, k35, b35⟩
  have G_all_within : Has P w K mg base 1 "all_within" ["row", "least", "greatest"] (spWithin K) := ⟨_, _, ok_within F36 T, PySem.W.mg_of X G a36, k36, b36⟩
  have G_lever : Has P w K mg base 1 "lever" ["weights", "heights"] (spLever K) := ⟨_, _, ok_lever F37 T, PySem.W.mg_of X G a37, k37, b37⟩
  have G_are_loads : Has P w K mg base 2 "are_loads" ["weights", "heights"] (spLoads K) := ⟨_, _, ok_loads F38 T G_all_within, PySem.W.mg_of X G a38, k38, b38⟩
  have G_answer_at : Has P w K mg base 8 "answer_at" ["hull", "call", "z"] (spAt CH CB) := ⟨_, _, ok_at F39 T B_Hull G_Hull_spans G_Hull_area G_Hull_volume G_Hull_has_volume G_Hull_centre G_Hull_metacentre, PySem.W.mg_of X G a39, k39, b39⟩
  have G_answer_loaded : Has P w K mg base 8 "answer_loaded" ["hull", "call", "weights", "heights"] (spLoaded K CH CB) := ⟨_, _, ok_loaded F40 T B_Hull hBH G_are_loads G_lever G_Hull_too_high G_Hull_floating_height G_Hull_stand, PySem.W.mg_of X G a40, k40, b40⟩
  have G_Desk : HasC P w K mg base CD 1 "Desk" ["self"] (spDInit CD CH CB) := ⟨_, _, ok_dinit F41 B_Desk, ⟨mkCD, a41, i41, kcCD⟩, PySem.W.mg_of X G aCD, b41⟩
  have G_Desk_make : HasM P w K mg base CD 7 "make" ["self", "places", "heights", "half_breadths"] (spMake K CD CH CB) := ⟨_, _, ok_make F42 T B_Desk hHD hBD G_first_fault G_Hull, ⟨a42, i42, k42⟩, b42⟩
  have G_Desk_answer : HasM P w K mg base CD 9 "answer" ["self", "call", "numbers", "rows"] (spAnswer K CD CH CB) := ⟨_, _, ok_answer F43 T B_Desk hHD hBD G_Desk_make G_answer_at G_answer_loaded, ⟨a43, i43, k43⟩, b43⟩
  have G_read_rows : Has P w K mg base 1 "read_rows" ["calls", "at", "count"] (spRows K) := ⟨_, _, ok_rows F44 T, PySem.W.mg_of X G a44, k44, b44⟩
  exact ok_ans F45 T S B_Desk G_Desk G_read_rows G_Desk_answer
theorem ans_of {l : List Int} (h : PyWqlftf.answers_asked l = true) : ∃ cs, PyFlat.calls PyWqlftf.shape l.length l = some cs ∧ PyWqlftf.answers l = leftOf none cs := by
  unfold PyWqlftf.answers_asked at h
  unfold PyWqlftf.answers
  cases e : PyWqlftf.calls l with
  | none =>
    rw [e] at h
    cases h
  | some cs' =>
    unfold PyWqlftf.calls at e
    cases e2 : PyFlat.calls PyWqlftf.shape l.length l with
    | none =>
      rw [e2] at e
      cases e
    | some cs =>
      rw [e2] at e
      injection e with e
      refine ⟨cs, rfl, ?_⟩
      subst e
      rfl
end Hf
def PySem.W.Fast.tw15059547383990029012 : Nat := 0
def PySem.W.Fast.tw16150513405019259170 : Nat := 0
def PySem.W.Fast.tw227193116009054495 : Nat := 0
def PySem.W.Fast.tw3931866762593375612 : Nat := 0
def PySem.W.Fast.tw9026907532396495639 : Nat := 0
def PySem.W.Fast.tw8422368399371560983 : Nat := 0
def PySem.W.Fast.tw9535120230357300590 : Nat := 0
def PySem.W.Fast.tw6228382414157232401 : Nat := 0
def PySem.W.Fast.tw11851741830769611917 : Nat := 0
def PySem.W.Fast.tw7531021645867180904 : Nat := 0
def PySem.W.Fast.tw16521972333150391089 : Nat := 0
def PySem.W.Fast.tw12546175006525175181 : Nat := 0
def PySem.W.Fast.tw6951058777006215023 : Nat := 0
open PySem PySem.W PyProof.Rows
set_option maxRecDepth 100000 in
set_option maxHeartbeats 0 in
theorem PySem.Challenge.cw_hullafloat_s01_answers_holds : PySem.Challenge.rw_hullafloat_s01_answers.Holds := by
  w_on; k_headS; (case hw => exact ⟨[.list [.int 2, .int 0]], by decide +kernel, by decide +kernel⟩)
  k_fillS
  refine L2.walk_specK (r := PySem.Challenge.rw_hullafloat_s01_answers) (k := 10) (CX := L2.CX0) (ps := ["calls"]) (sp := Hf.spAns) (by decide +kernel) rfl rfl ⟨rfl, by decide, by decide⟩ (fun w h Y => PySem.W.kIn_of Y) ?F ?S (fun _ _ _ _ z => z)
  case F =>
    intro w mg fa h Y KX G hmg
    refine' Hf.all_mk KX G hmg ?aCB ?pgCB ?hdCB ?poCB ?saCB ?mkCB ?kcCB ?nCB_nails ?nCB_scale ?nCB_pieces ?aCH ?pgCH ?hdCH ?poCH ?saCH ?mkCH ?kcCH ?nCH_share ?nCH_places ?nCH_lowest ?nCH_highest ?nCH_areas ?nCH_levers ?nCH_stations ?nCH_records ?aCD ?pgCD ?hdCD ?poCD ?saCD ?mkCD ?kcCD ?nCD_hull ?z_len ?z_range ?z_abs ?z_min ?z_list ?z_reversed ?z_sum ?z_all ?g_PARTS ?g_GREATEST_RISE ?g_GREATEST_MEASURE ?g_MOST_LOADS ?g_GREATEST_WEIGHT ?g_MAKE ?g_AREA ?g_VOLUME ?g_CENTRE ?g_META ?g_DEPTH ?g_NO_LOADS ?g_NO_TABLE ?g_OUTSIDE_LEVELS ?g_NO_VOLUME ?g_NO_HEIGHT ?g_BEYOND_DEPTHS ?a0 ?l0 ?c0 ?k0 ?a1 ?l1 ?c1 ?k1 ?a2 ?l2 ?c2 ?k2 ?a3 ?l3 ?c3 ?k3 ?a4 ?l4 ?c4 ?k4 ?a5 ?l5 ?c5 ?k5 ?a6 ?l6 ?c6 ?k6 ?a7 ?l7 ?c7 ?k7 ?a8 ?l8 ?c8 ?k8 ?a9 ?l9 ?c9 ?k9 ?a10 ?l10 ?c10 ?k10 ?a11 ?l11 ?c11 ?k11 ?a12 ?l12 ?c12 ?k12 ?a13 ?i13 ?l13 ?c13 ?k13 ?a14 ?i14 ?l14 ?c14 ?k14 ?a15 ?i15 ?l15 ?c15 ?k15 ?a16 ?i16 ?l16 ?c16 ?k16 ?a17 ?i17 ?l17 ?c17 ?k17 ?a18 ?l18 ?c18 ?k18 ?a19 ?l19 ?c19 ?k19 ?a20 ?i20 ?l20 ?c20 ?k20 ?a21 ?i21 ?l21 ?c21 ?k21 ?a22 ?i22 ?l22 ?c22 ?k22 ?a23 ?i23 ?l23 ?c23 ?k23 ?a24 ?i24 ?l24 ?c24 ?k24 ?a25 ?i25 ?l25 ?c25 ?k25 ?a26 ?i26 ?l26 ?c26 ?k26 ?a27 ?i27 ?l27 ?c27 ?k27 ?a28 ?i28 ?l28 ?c28 ?k28 ?a29 ?i29 ?l29 ?c29 ?k29 ?a30 ?i30 ?l30 ?c30 ?k30 ?a31 ?i31 ?l31 ?c31 ?k31 ?a32 ?i32 ?l32 ?c32 ?k32 ?a33 ?l33 ?c33 ?k33 ?a34 ?l34 ?c34 ?k34 ?a35 ?l35 ?c35 ?k35 ?a36 ?l36 ?c36 ?k36 ?a37 ?l37 ?c37 ?k37 ?a38 ?l38 ?c38 ?k38 ?a39 ?l39 ?c39 ?k39 ?a40 ?l40 ?c40 ?k40 ?a41 ?i41 ?l41 ?c41 ?k41 ?a42 ?i42 ?l42 ?c42 ?k42 ?a43 ?i43 ?l43 ?c43 ?k43 ?a44 ?l44 ?c44 ?k44 ?a45 ?l45 ?c45 ?k45 ?aNF ?lNF ?aSH ?lSH ?lr1 ?lr2 ?lr3 ?lr4 ?lr5 ?lr6 ?lr7 ?hBH ?hHD ?hBD
    (case aCB => k_is); (case pgCB => k_is); (case hdCB => k_is); (case poCB => k_is); (case saCB => k_is); (case mkCB => k_is)
    (case kcCB => k_is); (case nCB_nails => k_is); (case nCB_scale => k_is); (case nCB_pieces => k_is); (case aCH => k_is); (case pgCH => k_is)
    (case hdCH => k_is); (case poCH => k_is); (case saCH => k_is); (case mkCH => k_is); (case kcCH => k_is); (case nCH_share => k_is)
    (case nCH_places => k_is); (case nCH_lowest => k_is); (case nCH_highest => k_is); (case nCH_areas => k_is); (case nCH_levers => k_is); (case nCH_stations => k_is)
    (case nCH_records => k_is); (case aCD => k_is); (case pgCD => k_is); (case hdCD => k_is); (case poCD => k_is); (case saCD => k_is)
    (case mkCD => k_is); (case kcCD => k_is); (case nCD_hull => k_is); (case z_len => k_is); (case z_range => k_is); (case z_abs => k_is)
    (case z_min => k_is); (case z_list => k_is); (case z_reversed => k_is); (case z_sum => k_is); (case z_all => k_is); (case g_PARTS => k_is)
    (case g_GREATEST_RISE => k_is); (case g_GREATEST_MEASURE => k_is); (case g_MOST_LOADS => k_is); (case g_GREATEST_WEIGHT => k_is); (case g_MAKE => k_is); (case g_AREA => k_is)
    (case g_VOLUME => k_is); (case g_CENTRE => k_is); (case g_META => k_is); (case g_DEPTH => k_is); (case g_NO_LOADS => k_is); (case g_NO_TABLE => k_is)
    (case g_OUTSIDE_LEVELS => k_is); (case g_NO_VOLUME => k_is); (case g_NO_HEIGHT => k_is); (case g_BEYOND_DEPTHS => k_is); (case a0 => k_is); (case l0 => k_is)
    (case c0 => k_is); (case k0 => k_is); (case a1 => k_is); (case l1 => k_is); (case c1 => k_is); (case k1 => k_is)
    (case a2 => k_is); (case l2 => k_is); (case c2 => k_is); (case k2 => k_is); (case a3 => k_is); (case l3 => k_is)
    (case c3 => k_is); (case k3 => k_is); (case a4 => k_is); (case l4 => k_is); (case c4 => k_is); (case k4 => k_is)
    (case a5 => k_is); (case l5 => k_is); (case c5 => k_is); (case k5 => k_is); (case a6 => k_is); (case l6 => k_is)
    (case c6 => k_is); (case k6 => k_is); (case a7 => k_is); (case l7 => k_is); (case c7 => k_is); (case k7 => k_is)
    (case a8 => k_is); (case l8 => k_is); (case c8 => k_is); (case k8 => k_is); (case a9 => k_is); (case l9 => k_is)
    (case c9 => k_is); (case k9 => k_is); (case a10 => k_is); (case l10 => k_is); (case c10 => k_is); (case k10 => k_is)
    (case a11 => k_is); (case l11 => k_is); (case c11 => k_is); (case k11 => k_is); (case a12 => k_is); (case l12 => k_is)
    (case c12 => k_is); (case k12 => k_is); (case a13 => k_is); (case i13 => k_is); (case l13 => k_is); (case c13 => k_is)
    (case k13 => k_is); (case a14 => k_is); (case i14 => k_is); (case l14 => k_is); (case c14 => k_is); (case k14 => k_is)
    (case a15 => k_is); (case i15 => k_is); (case l15 => k_is); (case c15 => k_is); (case k15 => k_is); (case a16 => k_is)
    (case i16 => k_is); (case l16 => k_is); (case c16 => k_is); (case k16 => k_is); (case a17 => k_is); (case i17 => k_is)
    (case l17 => k_is); (case c17 => k_is); (case k17 => k_is); (case a18 => k_is); (case l18 => k_is); (case c18 => k_is)
    (case k18 => k_is); (case a19 => k_is); (case l19 => k_is); (case c19 => k_is); (case k19 => k_is); (case a20 => k_is)
    (case i20 => k_is); (case l20 => k_is); (case c20 => k_is); (case k20 => k_is); (case a21 => k_is); (case i21 => k_is)
    (case l21 => k_is); (case c21 => k_is); (case k21 => k_is); (case a22 => k_is); (case i22 => k_is); (case l22 => k_is)
    (case c22 => k_is); (case k22 => k_is); (case a23 => k_is); (case i23 => k_is); (case l23 => k_is); (case c23 => k_is)
    (case k23 => k_is); (case a24 => k_is); (case i24 => k_is); (case l24 => k_is); (case c24 => k_is); (case k24 => k_is)
    (case a25 => k_is); (case i25 => k_is); (case l25 => k_is); (case c25 => k_is); (case k25 => k_is); (case a26 => k_is)
    (case i26 => k_is); (case l26 => k_is); (case c26 => k_is); (case k26 => k_is); (case a27 => k_is); (case i27 => k_is)
    (case l27 => k_is); (case c27 => k_is); (case k27 => k_is); (case a28 => k_is); (case i28 => k_is); (case l28 => k_is)
    (case c28 => k_is); (case k28 => k_is); (case a29 => k_is); (case i29 => k_is); (case l29 => k_is); (case c29 => k_is)
    (case k29 => k_is); (case a30 => k_is); (case i30 => k_is); (case l30 => k_is); (case c30 => k_is); (case k30 => k_is)
    (case a31 => k_is); (case i31 => k_is); (case l31 => k_is); (case c31 => k_is); (case k31 => k_is); (case a32 => k_is)
    (case i32 => k_is); (case l32 => k_is); (case c32 => k_is); (case k32 => k_is); (case a33 => k_is); (case l33 => k_is)
    (case c33 => k_is); (case k33 => k_is); (case a34 => k_is); (case l34 => k_is); (case c34 => k_is); (case k34 => k_is)
    (case a35 => k_is); (case l35 => k_is); (case c35 => k_is); (case k35 => k_is); (case a36 => k_is); (case l36 => k_is)
    (case c36 => k_is); (case k36 => k_is); (case a37 => k_is); (case l37 => k_is); (case c37 => k_is); (case k37 => k_is)
    (case a38 => k_is); (case l38 => k_is); (case c38 => k_is); (case k38 => k_is); (case a39 => k_is); (case l39 => k_is)
    (case c39 => k_is); (case k39 => k_is); (case a40 => k_is); (case l40 => k_is); (case c40 => k_is); (case k40 => k_is)
    (case a41 => k_is); (case i41 => k_is); (case l41 => k_is); (case c41 => k_is); (case k41 => k_is); (case a42 => k_is)
    (case i42 => k_is); (case l42 => k_is); (case c42 => k_is); (case k42 => k_is); (case a43 => k_is); (case i43 => k_is)
    (case l43 => k_is); (case c43 => k_is); (case k43 => k_is); (case a44 => k_is); (case l44 => k_is); (case c44 => k_is)
    (case k44 => k_is); (case a45 => k_is); (case l45 => k_is); (case c45 => k_is); (case k45 => k_is); (case aNF => k_is)
    (case lNF => k_is); (case aSH => k_is); (case lSH => k_is); (case lr1 => k_is); (case lr2 => k_is); (case lr3 => k_is)
    (case lr4 => k_is); (case lr5 => k_is); (case lr6 => k_is); (case lr7 => k_is)
    (case hBH => decide); (case hHD => decide); (case hBD => decide)
  case S =>
    intro K H xs a hO hwi hask hx
    cases hx with
    | cons h1 h2 =>
      cases h2
      cases h1 with
      | lst hs ha =>
        have e := L2.ints_dw a.1 _ ha
        subst e
        have q : ((Codec.inLen 0 15000 a.1 && a.1.all (Codec.inInt (-18446744073709551616) 36893488147419103231)) && true) = true := hwi
        rw [Bool.and_eq_true, Bool.and_eq_true] at q
        obtain ⟨cs, h1, h2⟩ := Hf.ans_of (l := a.1) hask
        refine ⟨_, a.1, cs, rfl, hs, (Codec.inNat_iff.mp q.1.1).2, h1, fun H' p hp => ?_⟩
        rw [← h2] at hp
        exact .lst (L2.SqL.of hp) (L2.dw_ints _)
#print axioms PySem.Challenge.cw_hullafloat_s01_answers_holds
