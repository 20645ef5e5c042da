import PyProof.Rows.All
import Wide.All
import OpenK.AllK
import Wide.FinOn
import Lean
import PyProof.EqAt
import PyProof.EqKinds
import PyProof.TupleCall
import PyProof.NeKinds
import PyProof.WalksEnum
import PyProof.EnumMake
import PyProof.Rows.EnumRows
import PyProof.ExcInit
import PyProof.ExcArgsOwn
import PyProof.InstStoreFacts
import OpenK.Peek
import PyProof.ExcAttrAll.Exception
import PyProof.CollectIter
import PyProof.DictWalks
import PyProof.SetKind
import PyProof.DictKinds
import PyProof.FactsAll.set
import PyProof.MakeMany
import PyProof.Rows.SetFrom
import PyProof.Rows.SortStr
import PyProof.Rows.SortStrRead
import PyProof.Rows.DictMade
import PySem.Challenge.RW_twicetold_k06_whole_all_nought
set_option Elab.async false
set_option linter.all false
set_option maxRecDepth 100000
namespace L2
open PySem PySem.Spec PyProof.Rows
abbrev Key := Sum Int Str
def keyIs : Key → Value → Bool
  | .inl k, v => Value.isInt k v
  | .inr x, v => Value.isStrOf x v
def keyH (w : World) : Key → Int
  | .inl k => hashInt k
  | .inr x => hashStr w x
theorem keyIs_shape : ∀ {k : Key} {v : Value}, keyIs k v = true → (∃ i t, k = Sum.inl i ∧ v = Value.int i t) ∨ (∃ x t, k = Sum.inr x ∧ v = Value.str x t)
  | .inl i, v, h => by
    obtain ⟨t, e⟩ := Value.isInt_shape (k := i) (v := v) h
    exact .inl ⟨i, t, rfl, e⟩
  | .inr x, v, h => by
    obtain ⟨t, e⟩ := Value.isStrOf_shape (x := x) (v := v) h
    exact .inr ⟨x, t, rfl, e⟩
theorem keyIs_int (i : Int) (t : Tok) : keyIs (.inl i) (.int i t) = true := by simp [keyIs, Value.isInt]
theorem keyIs_str (x : Str) (t : Tok) : keyIs (.inr x) (.str x t) = true := by simp [keyIs, Value.isStrOf]
theorem key_ll (a b : Int) : decide ((Sum.inl a : Key) = Sum.inl b) = (a == b) := by
  by_cases e : a = b
  · subst e; simp
  · have h : ¬ (Sum.inl a : Key) = Sum.inl b := fun q => e (Sum.inl.inj q)
    rw [decide_eq_false h]
    exact (beq_eq_false_iff_ne.mpr e).symm
theorem key_rr (a b : Str) : decide ((Sum.inr a : Key) = Sum.inr b) = decide (a = b) := by
  by_cases e : a = b
  · subst e; simp
  · have h : ¬ (Sum.inr a : Key) = Sum.inr b := fun q => e (Sum.inr.inj q)
    rw [decide_eq_false h, decide_eq_false e]
theorem key_lr (a : Int) (b : Str) : decide ((Sum.inl a : Key) = Sum.inr b) = false := decide_eq_false (fun q => nomatch q)
theorem key_rl (a : Str) (b : Int) : decide ((Sum.inr a : Key) = Sum.inl b) = false := decide_eq_false (fun q => nomatch q)
def mixKind (prog : Program) (w : World) : PySem.KeyKind prog w Key where
  is := keyIs
  hash := keyH w
  inj := fun v a b ha hb => by
    rcases keyIs_shape ha with ⟨i, t, rfl, rfl⟩ | ⟨x, t, rfl, rfl⟩
    · rcases keyIs_shape hb with ⟨j, u, rfl, e⟩ | ⟨y, u, rfl, e⟩
      · injection e with e1 _; rw [e1]
      · exact nomatch e
    · rcases keyIs_shape hb with ⟨j, u, rfl, e⟩ | ⟨y, u, rfl, e⟩
      · exact nomatch e
      · injection e with e1 _; rw [e1]
  byValue := fun k v h => by
    rcases keyIs_shape h with ⟨i, t, rfl, rfl⟩ | ⟨x, t, rfl, rfl⟩ <;> rfl
  pyHash := fun hv h => by
    rcases keyIs_shape hv with ⟨i, t, rfl, rfl⟩ | ⟨x, t, rfl, rfl⟩
    · exact wpAny_pyHash_int h
    · exact wpAny_pyHash_str h
  eqBool := fun hu hv h => by
    rcases keyIs_shape hu with ⟨i, t, rfl, rfl⟩ | ⟨x, t, rfl, rfl⟩
    · rcases keyIs_shape hv with ⟨j, u, rfl, rfl⟩ | ⟨y, u, rfl, rfl⟩
      · rw [key_ll] at h; exact wpAny_eqBool_int h
      · rw [key_lr] at h; exact SeqAt.EqAt.int_str i t y u _ _ _ _ h
    · rcases keyIs_shape hv with ⟨j, u, rfl, rfl⟩ | ⟨y, u, rfl, rfl⟩
      · rw [key_rl] at h; exact SeqAt.EqAt.str_int x t j u _ _ _ _ h
      · rw [key_rr] at h; exact wpAny_eqBool_str h
  «strs» := fun k x t v h => by
    rcases keyIs_shape h with ⟨i, u, rfl, e⟩ | ⟨y, u, rfl, e⟩
    · exact nomatch e
    · injection e with e1 _
      subst e1
      cases v <;> rfl
theorem mixKind_int (prog : Program) (w : World) (i : Int) (t : Tok) : (mixKind prog w).is (.inl i) (.int i t) = true := keyIs_int i t
theorem mixKind_str (prog : Program) (w : World) (x : Str) (t : Tok) : (mixKind prog w).is (.inr x) (.str x t) = true := keyIs_str x t
end L2
namespace L2
open PySem PySem.Spec PyProof.Rows
inductive V where
  | non | bl (b : Bool) | int (i : Int) | str (x : Str) | byt (b : Array UInt8) | flt (b : UInt64) | ref (a : Addr) | ty (n : String)
  deriving DecidableEq
def RelV : V → Value → Prop
  | .non, u => u = Value.none
  | .bl b, u => u = Value.bool b
  | .int i, u => ∃ t, u = Value.int i t
  | .str x, u => ∃ t, u = Value.str x t
  | .byt b, u => ∃ t, u = Value.bytes b t
  | .flt b, u => ∃ t, u = Value.float b t
  | .ref a, u => u = Value.ref a
  | .ty n, u => u = Value.type n
abbrev Vals : List V → List Value → Prop := Paired RelV
theorem Vals.length {xs : List V} {us : List Value} (r : Vals xs us) : xs.length = us.length := Paired.length r
theorem Vals.get : ∀ {xs : List V} {us : List Value} {i : Nat} {x : V}, Vals xs us → xs[i]? = some x → ∃ u, us[i]? = some u ∧ RelV x u
  | _, _, _, _, .nil, e => by simp at e
  | _, _, 0, _, .cons r _, e => by simp at e; subst e; exact ⟨_, rfl, r⟩
  | _, _, i + 1, x, .cons _ t, e => by
    obtain ⟨u, h1, h2⟩ := Vals.get (i := i) (x := x) t (by simpa using e)
    exact ⟨u, by simpa using h1, h2⟩
theorem Vals.set {x : V} {u : Value} (r : RelV x u) : ∀ {xs : List V} {us : List Value} (i : Nat), Vals xs us → Vals (xs.set i x) (us.set i u)
  | _, _, _, .nil => .nil
  | _, _, 0, .cons _ t => .cons r t
  | _, _, i + 1, .cons q t => .cons q (Vals.set r i t)
theorem Vals.append : ∀ {xs ys : List V} {us ws : List Value}, Vals xs us → Vals ys ws → Vals (xs ++ ys) (us ++ ws)
  | _, _, _, _, .nil, s => s
  | _, _, _, _, .cons r t, s => .cons r (Vals.append t s)
theorem Vals.take : ∀ {xs : List V} {us : List Value} (n : Nat), Vals xs us → Vals (xs.take n) (us.take n)
  | _, _, 0, _ => .nil
  | _, _, _ + 1, .nil => .nil
  | _, _, n + 1, .cons r t => .cons r (Vals.take n t)
theorem Vals.drop : ∀ {xs : List V} {us : List Value} (n : Nat), Vals xs us → Vals (xs.drop n) (us.drop n)
  | _, _, 0, r => r
  | _, _, _ + 1, .nil => .nil
  | _, _, n + 1, .cons _ t => Vals.drop n t
def RelO : Option V → Option Value → Prop
  | some v, some u => RelV v u
  | none, none => True
  | _, _ => False
def KV {κ : Type} : List (κ × V) → List (κ × Value) → Prop := Paired fun (p : κ × V) (q : κ × Value) => p.1 = q.1 ∧ RelV p.2 q.2
def kV : Key → V
  | .inl i => .int i
  | .inr x => .str x
inductive HO where
    | lst (xs : List V)
    | tup (xs : List V)
    | dK (kvs : List (Key × V)) | dT (kvs : List (List Key × V))
    | set (S : Int → Bool) (n : Nat)
    | ins (C dx : Addr) (fs : List (Str × V))
    | own (x : Addr)
    | xd (fs : List (Str × V))
    | met (f x : Addr)
    | rng (lo hi : Int)
    | frz (o : Obj) (u : HO)
    | tbl (ps : Array Value)
    | ext (φ : Heap → Prop)
abbrev Hp := Addr → Option HO
def upd (H : Hp) (a : Addr) (o : HO) : Hp := fun b => if b = a then some o else H b
theorem upd_same {H : Hp} {a : Addr} {o : HO} : upd H a o a = some o := by unfold upd; rw [if_pos rfl]
theorem upd_ne {H : Hp} {a b : Addr} {o : HO} (h : b ≠ a) : upd H a o b = H b := by unfold upd; rw [if_neg h]
theorem upd_upd {H : Hp} {a : Addr} {o u : HO} : upd (upd H a o) a u = upd H a u := by
  funext b; unfold upd; split <;> rfl
theorem ne_of {H : Hp} {a b : Addr} {o u : HO} (h : H a = some o) (h' : H b = some u) (d : o ≠ u) : a ≠ b := by
  intro e; subst e; rw [h] at h'; exact d (Option.some.inj h')
theorem ne_of_none {H : Hp} {a b : Addr} {o : HO} (h : H a = some o) (h' : H b = none) : a ≠ b := by
  intro e; subst e; rw [h] at h'; cases h'
section
variable (P : Program) (w : World)
def ObjOk (H : Hp) (h : Heap) (a : Addr) : HO → Prop
  | .lst xs => xs.length ≤ sizeLine ∧ ∃ (its : List Value) (n : Nat), Vals xs its ∧ h.get? a = some { cls := .type "list", data := .seq its.toArray n }
  | .tup xs => xs.length ≤ sizeLine ∧ ∃ its : List Value, Vals xs its ∧ IsTup h a its.toArray
  | .dK kvs => kvs.length ≤ sizeLine ∧ (a == sysModules) = false ∧ ∃ vs, KV kvs vs ∧ h.DictOf (mixKind P w) a vs
  | .dT kvs => kvs.length ≤ sizeLine ∧ (a == sysModules) = false ∧ ∃ xs : List (List Key × Addr × Value),
      Paired (fun (p : List Key × V) (q : List Key × Addr × Value) => p.1 = q.1 ∧ H q.2.1 = some (.tup (p.1.map kV)) ∧ RelV p.2 q.2.2) kvs xs ∧
      ∃ o es ep, h.get? a = some o ∧ o.ExactDict ∧ o.data = .dict es ep ∧ es.toList = xs.map (entryOfKey (tupleKind (mixKind P w))) ∧ (xs.map (·.1)).Nodup
  | .set S n => h.SetOf (intKind P w) a S n
  | .ins C dx fs => H dx = some (.own a) ∧ fs.length ≤ 1000 ∧ dx ≠ a ∧ h.get? a = some (PySem.W.instObj C dx) ∧
      ∃ mA, h.Ns1 dx mA ∧ (∀ f, RelO (fs.lookup f) (mA f)) ∧ PySem.Within mA (fs.map (·.1))
  | .own _ => ∃ o, h.get? a = some o
  | .xd fs => ∃ mA, h.Ns1 a mA ∧ ∀ f, RelO (fs.lookup f) (mA f)
  | .rng lo hi => ∃ t u v, h.get? a = some { cls := .type "range", data := .fields #[.int lo t, .int hi u, .int 1 v] }
  | .frz o u => h.get? a = some o ∧ ObjOk H h a u
  | .tbl ps => h.get? a = some { cls := .none, data := .fields ps }
  | .met f x => h.get? a = some (PySem.W.methodObj (.ref f) (.ref x))
  | .ext φ => φ h ∧ (∃ o, h.get? a = some o) ∧ ∀ h1 h2 : Heap, φ h1 → (∀ o, h1.get? a = some o → h2.get? a = some o) → φ h2
def HOk (H : Hp) (h : Heap) : Prop := ∀ a o, H a = some o → ObjOk P w H h a o
end
section
variable {P : Program} {w : World} {H H' : Hp} {h h' : Heap} {a : Addr} {o : HO}
theorem ObjOk.lt (x : ObjOk P w H h a o) : a < h.objs.size := by
  cases o with
  | lst xs => obtain ⟨_, _, _, _, e⟩ := x; exact Heap.lt_size e
  | tup xs => obtain ⟨_, _, _, p⟩ := x; exact p.lt
  | dK kvs => obtain ⟨_, _, _, _, o, _, _, e, _⟩ := x; exact Heap.lt_size e
  | dT kvs => obtain ⟨_, _, _, _, o, _, _, e, _⟩ := x; exact Heap.lt_size e
  | set S n => obtain ⟨o, _, _, _, e, _⟩ := x; exact Heap.lt_size e
  | ins C dx fs => obtain ⟨_, _, _, e, _⟩ := x; exact Heap.lt_size e
  | own y => obtain ⟨_, e⟩ := x; exact Heap.lt_size e
  | xd fs => obtain ⟨_, ⟨_, _, _, e, _⟩, _⟩ := x; exact Heap.lt_size e
  | rng lo hi => obtain ⟨_, _, _, e⟩ := x; exact Heap.lt_size e
  | frz ob u => obtain ⟨e, _⟩ := x; exact Heap.lt_size e
  | tbl ps => exact Heap.lt_size (show h.get? a = some _ from x)
  | met f y => exact Heap.lt_size (show h.get? a = some _ from x)
  | ext φ => obtain ⟨_, ⟨_, e⟩, _⟩ := x; exact Heap.lt_size e
theorem Paired.mapP {α β : Type} {F G : α → β → Prop} : ∀ {l₁ : List α} {l₂ : List β}, Paired F l₁ l₂ → (∀ a b, F a b → G a b) → Paired G l₁ l₂
  | _, _, .nil, _ => .nil
  | _, _, .cons r t, f => .cons (f _ _ r) (Paired.mapP t f)
theorem ObjOk.stay (x : ObjOk P w H h a o) (k : ∀ b u, (b = a ∨ H b = some (.own a)) → h.get? b = some u → h'.get? b = some u)
    (ho : ∀ b, H b = some (.own a) → H' b = some (.own a)) (ht : ∀ b xs, H b = some (.tup xs) → H' b = some (.tup xs)) : ObjOk P w H' h' a o := by
  induction o with
  | lst xs => obtain ⟨z, its, n, r, e⟩ := x; exact ⟨z, its, n, r, k _ _ (.inl rfl) e⟩
  | tup xs => obtain ⟨z, its, r, ob, e, c⟩ := x; exact ⟨z, its, r, ob, k _ _ (.inl rfl) e, c⟩
  | dK kvs => obtain ⟨z, y, vs, r, ob, es, ep, e, c⟩ := x; exact ⟨z, y, vs, r, ob, es, ep, k _ _ (.inl rfl) e, c⟩
  | dT kvs =>
    obtain ⟨z, y, xs, r, ob, es, ep, e, c⟩ := x
    exact ⟨z, y, xs, Paired.mapP r fun p q z => ⟨z.1, ht _ _ z.2.1, z.2.2⟩, ob, es, ep, k _ _ (.inl rfl) e, c⟩
  | set S n => obtain ⟨ob, es, ep, t, e, c⟩ := x; exact ⟨ob, es, ep, t, k _ _ (.inl rfl) e, c⟩
  | ins C dx fs =>
    obtain ⟨d, z, ne, e, mA, ⟨od, es, ep, e2, c⟩, r⟩ := x
    exact ⟨ho _ d, z, ne, k _ _ (.inl rfl) e, mA, ⟨od, es, ep, k _ _ (.inr d) e2, c⟩, r⟩
  | own y => obtain ⟨ob, e⟩ := x; exact ⟨ob, k _ _ (.inl rfl) e⟩
  | xd fs => obtain ⟨mA, ⟨od, es, ep, e, c⟩, r⟩ := x; exact ⟨mA, ⟨od, es, ep, k _ _ (.inl rfl) e, c⟩, r⟩
  | rng lo hi => obtain ⟨t, u, v, e⟩ := x; exact ⟨t, u, v, k _ _ (.inl rfl) e⟩
  | frz ob u ih => obtain ⟨e, q⟩ := x; exact ⟨k _ _ (.inl rfl) e, ih q⟩
  | tbl ps =>
    have e : h.get? a = some { cls := .none, data := .fields ps } := x
    show h'.get? a = some { cls := .none, data := .fields ps }
    exact k a _ (.inl rfl) e
  | met f y =>
    have e : h.get? a = some (PySem.W.methodObj (.ref f) (.ref y)) := x
    show h'.get? a = some (PySem.W.methodObj (.ref f) (.ref y))
    exact k a _ (.inl rfl) e
  | ext φ => obtain ⟨p, ⟨o, e⟩, st⟩ := x; exact ⟨st _ _ p fun o q => k _ _ (.inl rfl) q, ⟨o, k _ _ (.inl rfl) e⟩, st⟩
theorem HOk.lt (x : HOk P w H h) (e : H a = some o) : a < h.objs.size := (x a o e).lt
theorem HOk.fresh (x : HOk P w H h) (e : h.objs.size ≤ a) : H a = none := by
  cases q : H a with
  | none => rfl
  | some u => exact absurd (Nat.lt_of_lt_of_le (x.lt q) e) (Nat.lt_irrefl _)
theorem HOk.kept (x : HOk P w H h) (k : ∀ b u, h.get? b = some u → h'.get? b = some u) : HOk P w H h' := fun a o e =>
  (x a o e).stay (fun b u _ q => k b u q) (fun _ q => q) fun _ _ q => q
theorem HOk.laid (x : HOk P w H h) (k : ∀ b u, h.get? b = some u → h'.get? b = some u) (hp : h.objs.size ≤ a) (new : ObjOk P w (upd H a o) h' a o) : HOk P w (upd H a o) h' := fun b u e => by
  have hn := x.fresh hp
  by_cases hb : b = a
  · subst hb; rw [upd_same] at e; cases e; exact new
  · rw [upd_ne hb] at e
    exact (x b u e).stay (fun c v _ q => k c v q) (fun c q => by rw [upd_ne (ne_of_none q hn)]; exact q) fun c xs q => by rw [upd_ne (ne_of_none q hn)]; exact q
end
def Rd (H : Hp) (a : Addr) (u : HO) : Prop := H a = some u ∨ ∃ o, H a = some (.frz o u)
theorem Rd.ok {P : Program} {w : World} {H : Hp} {h : Heap} {a : Addr} {u : HO} (r : Rd H a u) (x : HOk P w H h) : ObjOk P w H h a u := by
  rcases r with r | ⟨o, r⟩
  · exact x a u r
  · obtain ⟨_, q⟩ := x a _ r
    exact q
def Mut : Option HO → Prop
  | some (.lst _) => True
  | some (.dK _) => True
  | some (.dT _) => True
  | some (.set _ _) => True
  | some (.ins _ _ _) => True
  | some (.ext _) => True
  | _ => False
section
variable {P : Program} {w : World} {H : Hp} {h h' : Heap} {x e : Addr} {o' : HO}
theorem HOk.write (ok : HOk P w H h) (mu : Mut (H x)) (he : e = x ∨ H e = some (.own x)) (k : ∀ b u, b ≠ e → h.get? b = some u → h'.get? b = some u) (heo : ∃ u, h'.get? e = some u)
    (new : ObjOk P w (upd H x o') h' x o') : HOk P w (upd H x o') h' := fun b u q => by
  have nown : ∀ c y, H c = some (.own y) → c ≠ x := fun c y r z => by subst z; rw [r] at mu; exact mu
  have ntup : ∀ c xs, H c = some (.tup xs) → c ≠ x := fun c xs r z => by subst z; rw [r] at mu; exact mu
  by_cases hb : b = x
  · subst hb; rw [upd_same] at q; cases q; exact new
  · rw [upd_ne hb] at q
    by_cases hbe : b = e
    · have q' : H b = some (.own x) := by
        rcases he with z | z
        · exact absurd (hbe.trans z) hb
        · rw [hbe]; exact z
      rw [q] at q'; cases q'
      obtain ⟨v, hv⟩ := heo
      exact ⟨v, by rw [hbe]; exact hv⟩
    · refine (ok b u q).stay (fun c v hc r => k c v ?_ r) (fun c r => by rw [upd_ne (nown c b r)]; exact r) fun c xs r => by rw [upd_ne (ntup c xs r)]; exact r
      rcases hc with rfl | hc
      · exact hbe
      · rintro rfl
        rcases he with z | z
        · exact nown c b hc z
        · rw [hc] at z; cases z; exact hb rfl
end
structure Un (fs ex : List Addr) (H H' : Hp) (h h' : Heap) : Prop where
  keep : ∀ b o, h.get? b = some o → H b = none → b ∉ fs → b ∉ ex → h'.get? b = some o
  slot : ∀ b o, h.get? b = some o → H b = none → b ∈ fs → b ∉ ex → ∃ sl, h'.get? b = some { o with slots := sl }
  free : ∀ b o, h.get? b = some o → H b = none → b ∉ ex → H' b = none
  there : ∀ b o, h.get? b = some o → b ∉ ex → ∃ o', h'.get? b = some o'
  tups : ∀ b xs, H b = some (.tup xs) → H' b = some (.tup xs)
  frzs : ∀ b o u, H b = some (.frz o u) → H' b = some (.frz o u)
  tbls : ∀ b ps, H b = some (.tbl ps) → ∃ more, H' b = some (.tbl (ps ++ more))
section
variable {fs fs' ex ex' : List Addr} {H H1 H2 : Hp} {h h1 h2 h' : Heap} {a x e : Addr} {o : HO}
theorem Un.any (u : Un fs ex H H1 h h1) {b : Addr} {ob : Obj} (q : h.get? b = some ob) (n : H b = none) (hx : b ∉ ex) : ∃ sl, h1.get? b = some { ob with slots := sl } := by
  by_cases hb : b ∈ fs
  · exact u.slot b ob q n hb hx
  · exact ⟨ob.slots, u.keep b ob q n hb hx⟩
theorem Un.kept (k : ∀ b u, h.get? b = some u → h'.get? b = some u) : Un fs ex H H h h' :=
  ⟨fun b ob q _ _ _ => k b ob q, fun b ob q _ _ _ => ⟨ob.slots, k b ob q⟩, fun _ _ _ n _ => n, fun b ob q _ => ⟨ob, k b ob q⟩, fun _ _ q => q, fun _ _ _ q => q, fun _ ps q => ⟨#[], by rw [q]; simp⟩⟩
theorem Un.refl : Un fs ex H H h h := Un.kept fun _ _ q => q
theorem Un.laid (k : ∀ b u, h.get? b = some u → h'.get? b = some u) (hp : h.objs.size ≤ a) (hn : H a = none) : Un fs ex H (upd H a o) h h' where
  keep := fun b u q _ _ _ => k b u q
  slot := fun b u q _ _ _ => ⟨u.slots, k b u q⟩
  free := fun b u q n _ => by rw [upd_ne (Nat.ne_of_lt (Nat.lt_of_lt_of_le (Heap.lt_size q) hp))]; exact n
  there := fun b u q _ => ⟨u, k b u q⟩
  tups := fun b xs q => by rw [upd_ne (ne_of_none q hn)]; exact q
  frzs := fun b u xs q => by rw [upd_ne (ne_of_none q hn)]; exact q
  tbls := fun b ps q => ⟨#[], by rw [upd_ne (ne_of_none q hn), q]; simp⟩
theorem Un.write (mu : Mut (H x)) (he : e = x ∨ H e = some (.own x)) (k : ∀ b u, b ≠ e → h.get? b = some u → h'.get? b = some u) (heo : ∃ u, h'.get? e = some u) : Un fs ex H (upd H x o) h h' := by
  have hx : ∀ b, H b = none → b ≠ x := fun b n z => by subst z; rw [n] at mu; exact mu
  have hb : ∀ b, H b = none → b ≠ e := fun b n z => by
    subst z
    rcases he with r | r
    · exact hx b n r
    · rw [n] at r; cases r
  have hm : ∀ b u, H b = some u → ¬ Mut (some u) → b ≠ x := fun b u q nm z => by subst z; rw [q] at mu; exact nm mu
  refine ⟨fun b u q n _ _ => k b u (hb b n) q, fun b u q n _ _ => ⟨u.slots, k b u (hb b n) q⟩, fun b u q n _ => by rw [upd_ne (hx b n)]; exact n, fun b u q _ => ?_,
    fun b xs q => by rw [upd_ne (hm b _ q fun z => z)]; exact q, fun b u xs q => by rw [upd_ne (hm b _ q fun z => z)]; exact q, fun b ps q => ⟨#[], by rw [upd_ne (hm b _ q fun z => z), q]; simp⟩⟩
  by_cases hbe : b = e
  · subst hbe; exact heo
  · exact ⟨u, k b u hbe q⟩
end
def trk (h : Heap) (H : Hp) : List Addr := (List.range h.objs.size).filter fun a => (H a).isSome
def hidT (h : Heap) (H : Hp) : Heap := PySem.W.hideAll h (trk h H)
theorem hidT_size (h : Heap) (H : Hp) : (hidT h H).objs.size = h.objs.size := PySem.W.hideAll_size _ _
theorem hidT_get {h : Heap} {H : Hp} {b : Addr} {o : Obj} (e : h.get? b = some o) (n : H b = none) : (hidT h H).get? b = some o :=
  PySem.W.hideAll_get _ e fun hm => by
    have q : (H b).isSome = true := (List.mem_filter.mp hm).2
    rw [n] at q; simp at q
theorem of_hidT {h : Heap} {H : Hp} {b : Addr} {o : Obj} (e : (hidT h H).get? b = some o) : h.get? b = some o ∧ H b = none := by
  have e' : h.get? b = some o := PySem.W.of_hideAll (trk h H) e
  refine ⟨e', ?_⟩
  cases q : H b with
  | none => rfl
  | some x =>
    have hm : b ∈ trk h H := List.mem_filter.mpr ⟨List.mem_range.mpr (Heap.lt_size e'), by simp [q]⟩
    have z : (hidT h H).get? b = none := PySem.W.hideAll_none (trk h H) hm
    rw [z] at e; cases e
def allNews (g h : Heap) (L : Addr) : List (Addr × Obj) := (List.range h.objs.size).filterMap fun a => if a = L ∨ (g.get? a).isSome = true then none else (h.get? a).map fun o => (a, o)
def rest (g h : Heap) (L d : Addr) : List (Addr × Obj) := (allNews g h L).filter fun p => decide (p.1 ≠ d)
end L2
namespace L2
open PySem PySem.Spec PyProof.Rows
structure Mod (K : PySem.W.Frag) (mg : Str → Option Value) (base : Heap) : Prop where
  kin : K.In base
  glob : base.Ns mainGlobals mg
  blt : ∃ mb, base.Ns builtinsNs mb ∧ ∀ x : Str, x ≠ "__name__" → mb x = bootBuiltins x
  nolimit : base.NoLimit
structure Cx where
  prog : Program
  w : World
  K : PySem.W.Frag
  mg : Str → Option Value
  base : Heap
  A : Around
  N : List Str
  s₀ : Shared
  H₀ : Hp
  env : Env
  outer : List Env
  stack : List Env
  ex : List Addr
  fn : Str → Bool
  calm : Bool
  pn : List (Addr × Obj)
  xe : Value → Shared → Prop
def frs (l : List Env) : List Addr := l.filterMap (·.frame)
abbrev Cx.fs (X : Cx) : List Addr := frs X.outer
def Vis (sc : Scope) (x : Str) : Prop := sc.names.lookup x = some .local ∨ sc.names.lookup x = some .cell ∨ sc.names.lookup x = some .free
def Loc (sc : Scope) (x : Str) : Prop := sc.names.lookup x = some .local ∨ sc.names.lookup x = some .cell
def Look (env : Env) (h : Heap) (m : Str → Option Value) (x : Str) (u : Value) : Prop :=
  (env.kindOf x = some .local ∧ m x = some u) ∨ ((env.kindOf x = some .cell ∨ env.kindOf x = some .free) ∧ ∃ c, env.cells.lookup x = some c ∧ h.IsCell c (some u))
structure Cx.Ok (X : Cx) : Prop where
  mod : Mod X.K X.mg X.base
  kind : X.env.scope.kind = .function
  glob : X.env.globals = mainGlobals
  blt : X.env.builtins = builtinsNs
  above : X.s₀.heap.objs.size ≤ X.env.locals
  inj : ∀ x y c, X.env.cells.lookup x = some c → X.env.cells.lookup y = some c → x = y
  has : ∀ x, (X.env.kindOf x = some .cell ∨ X.env.kindOf x = some .free) → ∃ c, X.env.cells.lookup x = some c
  cab : ∀ x c, X.fn x = true → X.env.cells.lookup x = some c → X.s₀.heap.objs.size ≤ c
  hd : X.calm = true → X.A.handled = none
  frames : X.A.frames = some X.stack
  stk : X.stack = X.outer ∨ (X.stack = X.env :: X.outer ∧ X.env.frame = some X.env.locals)
  exf : ∀ b ∈ X.ex, b ≠ X.env.locals ∧ ∀ x c, X.env.cells.lookup x = some c → c ≠ b
  bs : ∀ b o, X.base.get? b = some o → X.s₀.heap.get? b = some o ∧ X.H₀ b = none
  bsz : X.base.objs.size ≤ X.s₀.heap.objs.size
  noex : ∀ b o, X.base.get? b = some o → b ∉ X.ex
  exfs : ∀ b ∈ X.ex, b ∉ X.fs
  funs : X.s₀.heap.FunFrames X.base X.outer
  frf : ∀ b ∈ X.fs, X.H₀ b = none
structure Inv (X : Cx) (pins : List (Addr × Obj)) (σ : List (Option V)) (H : Hp) (s : Shared) : Prop where
  ok : X.Ok
  os : s.os = X.s₀.os
  bare : AllBare s.gens
  base : Un X.fs X.ex X.H₀ H X.s₀.heap s.heap
  loc : ∃ m, s.heap.Ns X.env.locals m ∧ ∀ (i : Nat) (x : Str) (v : V), X.N[i]? = some x → σ[i]? = some (some v) → Vis X.env.scope x → ∃ u, RelV v u ∧ Look X.env s.heap m x u
  cell : ∀ x c, X.env.cells.lookup x = some c → ∃ v, s.heap.IsCell c v
  free : H X.env.locals = none
  freeC : ∀ x c, X.env.cells.lookup x = some c → H c = none
  pin : ∀ p ∈ X.pn ++ pins, s.heap.get? p.1 = some p.2 ∧ H p.1 = none ∧ p.1 ≠ X.env.locals ∧ p.1 ∉ X.fs ∧ ∀ v, p.2.data ≠ .cell v
  hok : HOk X.prog X.w H s.heap
  len : σ.length = X.N.length
section
variable {X : Cx} {pins : List (Addr × Obj)} {σ : List (Option V)} {H H' : Hp} {s : Shared} {h' : Heap}
theorem Cx.Ok.nofr (ok : X.Ok) {b : Addr} {o : Obj} (e : X.base.get? b = some o) : b ∉ X.fs := fun hb => by
  have := (ok.funs.mem hb).1
  rw [e] at this; cases this
theorem Inv.bs (I : Inv X pins σ H s) : ∀ b o, X.base.get? b = some o → s.heap.get? b = some o ∧ H b = none := fun b o e =>
  ⟨I.base.keep b o (I.ok.bs b o e).1 (I.ok.bs b o e).2 (I.ok.nofr e) (I.ok.noex b o e), I.base.free b o (I.ok.bs b o e).1 (I.ok.bs b o e).2 (I.ok.noex b o e)⟩
theorem Inv.bk (I : Inv X pins σ H s) : ∀ b o, X.base.get? b = some o → s.heap.get? b = some o := fun b o e => (I.bs b o e).1
theorem Inv.mod (I : Inv X pins σ H s) : Mod X.K X.mg X.base := I.ok.mod
theorem Inv.kIn (I : Inv X pins σ H s) : X.K.In s.heap := I.ok.mod.kin.keeps I.bk
theorem Inv.lt (I : Inv X pins σ H s) : X.env.locals < s.heap.objs.size := let ⟨_, hn, _⟩ := I.loc; hn.lt
theorem Inv.sz (I : Inv X pins σ H s) : X.s₀.heap.objs.size ≤ s.heap.objs.size := Nat.le_trans I.ok.above (Nat.le_of_lt I.lt)
theorem Inv.nofs (I : Inv X pins σ H s) {a : Addr} (h : s.heap.objs.size ≤ a) : a ∉ X.fs := fun hb => by
  obtain ⟨_, o, ho, _⟩ := I.ok.funs.mem hb
  exact absurd (Nat.lt_of_lt_of_le (Heap.lt_size ho) (Nat.le_trans I.sz h)) (Nat.lt_irrefl _)
theorem Inv.cne (I : Inv X pins σ H s) : ∀ x c, X.env.cells.lookup x = some c → c ≠ X.env.locals := fun x c e z => by
  obtain ⟨v, o, ho, hd⟩ := I.cell x c e
  obtain ⟨m, ⟨o', es, ep, ho', hd', _⟩, _⟩ := I.loc
  rw [z, ho'] at ho; cases ho; rw [hd'] at hd; cases hd
theorem Inv.funs (I : Inv X pins σ H s) : s.heap.FunFrames X.base X.outer := by
  have all : ∀ (l : List Env), (∀ b ∈ frs l, b ∈ X.fs) → X.s₀.heap.FunFrames X.base l → s.heap.FunFrames X.base l := by
    intro l
    induction l with
    | nil => intro _ _; trivial
    | cons env r ih =>
      intro hs hl
      obtain ⟨hk, ⟨L, o, hf, hn, ho, hd⟩, hr⟩ := hl
      have hL : L ∈ X.fs := hs L (by unfold frs; rw [List.filterMap_cons, hf]; exact List.mem_cons_self)
      obtain ⟨sl, e⟩ := I.base.slot L o ho (I.ok.frf L hL) hL fun z => I.ok.exfs L z hL
      exact ⟨hk, ⟨L, _, hf, hn, e, hd⟩, ih (fun b hb => hs b (by unfold frs; rw [List.filterMap_cons, hf]; exact List.mem_cons_of_mem _ hb)) hr⟩
  exact all X.outer (fun _ hb => hb) I.ok.funs
theorem Inv.stack (I : Inv X pins σ H s) : s.heap.FunFrames X.base X.stack := by
  rcases I.ok.stk with e | ⟨e, hf⟩
  · rw [e]; exact I.funs
  · rw [e]
    obtain ⟨m, hn, _⟩ := I.loc
    refine .cons (by rw [I.ok.kind]; decide) hf hn ?_ I.funs
    exact Heap.get?_none_of_le (Nat.le_trans I.ok.bsz I.ok.above)
theorem Inv.stkSub (I : Inv X pins σ H s) : ∀ b ∈ frs X.stack, b ∈ X.env.locals :: X.fs := fun b hb => by
  rcases I.ok.stk with e | ⟨e, hf⟩
  · rw [e] at hb; exact List.mem_cons_of_mem _ hb
  · rw [e] at hb
    unfold frs at hb
    rw [List.filterMap_cons, hf] at hb
    exact hb
theorem Inv.stkFree (I : Inv X pins σ H s) : ∀ b ∈ frs X.stack, H b = none := fun b hb => by
  rcases List.mem_cons.mp (I.stkSub b hb) with e | hb
  · rw [e]; exact I.free
  · obtain ⟨_, o, ho, _⟩ := I.ok.funs.mem hb
    exact I.base.free b o ho (I.ok.frf b hb) fun z => I.ok.exfs b z hb
theorem Inv.step {g' : Array GenState} {t' : Nat} {d' : Drawn} {ch : List Addr} (I : Inv X pins σ H s)
    (hch : ∀ b ∈ ch, (b ∈ X.ex ∨ X.s₀.heap.objs.size ≤ b) ∧ b ≠ X.env.locals ∧ (∀ x c, X.env.cells.lookup x = some c → c ≠ b) ∧ ∀ p ∈ X.pn ++ pins, p.1 ≠ b)
    (keep : ∀ b o, b ≠ X.env.locals → b ∉ X.fs → b ∉ ch → s.heap.get? b = some o → H b = none → h'.get? b = some o)
    (slot : ∀ b o, b ≠ X.env.locals → b ∈ X.fs → b ∉ ch → s.heap.get? b = some o → H b = none → ∃ sl, h'.get? b = some { o with slots := sl }) (free : ∀ b o, b ∉ ch → s.heap.get? b = some o → H b = none → H' b = none)
    (there : ∀ b o, b ∉ ch → s.heap.get? b = some o → ∃ o', h'.get? b = some o')
    (tups : ∀ b xs, H b = some (.tup xs) → H' b = some (.tup xs)) (frzs : ∀ b o u, H b = some (.frz o u) → H' b = some (.frz o u)) (tbls : ∀ b ps, H b = some (.tbl ps) → ∃ more, H' b = some (.tbl (ps ++ more)))
    (ns : ∀ m, s.heap.Ns X.env.locals m → h'.Ns X.env.locals m) (hok : HOk X.prog X.w H' h') (hg : AllBare g') :
    Inv X pins σ H' { s with heap := h', gens := g', drawn := d', toks := t' } := by
  have neL : ∀ b o, X.s₀.heap.get? b = some o → b ≠ X.env.locals := fun b o e => Nat.ne_of_lt (Nat.lt_of_lt_of_le (Heap.lt_size e) I.ok.above)
  have neC : ∀ b o, X.s₀.heap.get? b = some o → b ∉ X.ex → b ∉ ch := fun b o e hx hb => by
    rcases (hch b hb).1 with z | z
    · exact hx z
    · exact absurd (Nat.lt_of_lt_of_le (Heap.lt_size e) z) (Nat.lt_irrefl _)
  have cellK : ∀ x c, X.env.cells.lookup x = some c → ∀ v, s.heap.IsCell c v → h'.IsCell c v := fun x c e v ⟨o, ho, hd⟩ => by
    have nch : c ∉ ch := fun z => (hch c z).2.2.1 x c e rfl
    by_cases hc : c ∈ X.fs
    · obtain ⟨sl, q⟩ := slot c o (I.cne x c e) hc nch ho (I.freeC x c e)
      exact ⟨_, q, hd⟩
    · exact ⟨o, keep c o (I.cne x c e) hc nch ho (I.freeC x c e), hd⟩
  refine ⟨I.ok, I.os, hg, ⟨fun b o e n hb hx => ?_, fun b o e n hb hx => ?_, fun b o e n hx => ?_, fun b o e hx => ?_, fun b xs e => tups b xs (I.base.tups b xs e), fun b o xs e => frzs b o xs (I.base.frzs b o xs e), fun b ps e => ?_⟩, ?_, fun x c e => ?_, ?_, fun x c e => ?_, fun p hp => ?_, hok, I.len⟩
  · exact keep b o (neL b o e) hb (neC b o e hx) (I.base.keep b o e n hb hx) (I.base.free b o e n hx)
  · obtain ⟨sl, e1⟩ := I.base.slot b o e n hb hx
    obtain ⟨sl', e2⟩ := slot b _ (neL b o e) hb (neC b o e hx) e1 (I.base.free b o e n hx)
    exact ⟨sl', e2⟩
  · obtain ⟨o', e1⟩ := I.base.there b o e hx
    exact free b o' (neC b o e hx) e1 (I.base.free b o e n hx)
  · obtain ⟨o', e1⟩ := I.base.there b o e hx
    exact there b o' (neC b o e hx) e1
  · obtain ⟨m1, e1⟩ := I.base.tbls b ps e
    obtain ⟨m2, e2⟩ := tbls b _ e1
    exact ⟨m1 ++ m2, by rw [e2, Array.append_assoc]⟩
  · obtain ⟨m, hn, hl⟩ := I.loc
    refine ⟨m, ns m hn, fun i x v e1 e2 e3 => ?_⟩
    obtain ⟨u, r, l⟩ := hl i x v e1 e2 e3
    refine ⟨u, r, ?_⟩
    rcases l with l | ⟨k, c, e, z⟩
    · exact .inl l
    · exact .inr ⟨k, c, e, cellK x c e _ z⟩
  · obtain ⟨v, z⟩ := I.cell x c e
    exact ⟨v, cellK x c e v z⟩
  · obtain ⟨m, ⟨o, _, _, ho, _⟩, _⟩ := I.loc
    exact free _ o (fun z => (hch _ z).2.1 rfl) ho I.free
  · obtain ⟨v, o, ho, hd⟩ := I.cell x c e
    exact free c o (fun z => (hch c z).2.2.1 x c e rfl) ho (I.freeC x c e)
  · obtain ⟨e, n, ne, nf, d⟩ := I.pin p hp
    have nch : p.1 ∉ ch := fun z => (hch p.1 z).2.2.2 p hp rfl
    exact ⟨keep p.1 p.2 ne nf nch e n, free p.1 p.2 nch e n, ne, nf, d⟩
theorem Inv.un {t' : Nat} (I : Inv X pins σ H s) (u : Un X.fs [] H H' s.heap h') (hok : HOk X.prog X.w H' h') : Inv X pins σ H' { s with heap := h', toks := t' } := by
  obtain ⟨m, ⟨o, es, ep, ho, r⟩, _⟩ := id I.loc
  obtain ⟨sl, hL⟩ := u.any ho I.free (by simp)
  exact I.step (g' := s.gens) (d' := s.drawn) (ch := []) (fun _ z => nomatch z) (fun b o _ hb _ e n => u.keep b o e n hb (by simp)) (fun b o _ hb _ e n => u.slot b o e n hb (by simp)) (fun b o _ e n => u.free b o e n (by simp)) (fun b o _ e => u.there b o e (by simp)) u.tups u.frzs u.tbls (fun m' hm => by
    obtain ⟨o', es', ep', ho', r'⟩ := hm
    rw [ho] at ho'; cases ho'
    exact ⟨_, es', ep', hL, r'⟩) hok I.bare
theorem Inv.call {g' : Array GenState} {t' : Nat} {d' : Drawn} {ch : List Addr} (I : Inv X pins σ H s) (u : Un (frs X.stack) ch H H' s.heap h') (hok : HOk X.prog X.w H' h') (hg : AllBare g')
    (hch : ∀ b ∈ ch, (b ∈ X.ex ∨ X.s₀.heap.objs.size ≤ b) ∧ b ≠ X.env.locals ∧ (∀ x c, X.env.cells.lookup x = some c → c ≠ b) ∧ ∀ p ∈ X.pn ++ pins, p.1 ≠ b) :
    Inv X pins σ H' { s with heap := h', gens := g', drawn := d', toks := t' } := by
  obtain ⟨m, ⟨o, es, ep, ho, r⟩, _⟩ := id I.loc
  obtain ⟨sl, hL⟩ := u.any ho I.free fun z => (hch _ z).2.1 rfl
  exact I.step (ch := ch) hch (fun b o hL hb hc e n => u.keep b o e n (fun z => (List.mem_cons.mp (I.stkSub b z)).elim hL hb) hc) (fun b o _ _ hc e n => u.any e n hc) (fun b o hc e n => u.free b o e n hc) (fun b o hc e => u.there b o e hc) u.tups u.frzs u.tbls (fun m' hm => by
    obtain ⟨o', es', ep', ho', r'⟩ := hm
    rw [ho] at ho'; cases ho'
    exact ⟨_, es', ep', hL, r'⟩) hok hg
theorem Inv.turned {t' : Nat} {it : Addr} (I : Inv X pins σ H s) (k : ∀ b o, b ≠ it → s.heap.get? b = some o → h'.get? b = some o) (hn : H it = none) (hL : it ≠ X.env.locals)
    (h1 : it ∈ X.ex ∨ X.s₀.heap.objs.size ≤ it) (h2 : ∀ x c, X.env.cells.lookup x = some c → c ≠ it) (h3 : ∀ p ∈ X.pn ++ pins, p.1 ≠ it) : Inv X pins σ H { s with heap := h', toks := t' } := by
  have nit : ∀ b u, H b = some u → b ≠ it := fun b u e z => by rw [z, hn] at e; cases e
  refine I.step (g' := s.gens) (d' := s.drawn) (ch := [it]) (fun b hb => ?_) (fun b o _ _ hc e _ => k b o (fun z => hc (by simp [z])) e) (fun b o _ _ hc e _ => ⟨o.slots, k b o (fun z => hc (by simp [z])) e⟩) (fun _ _ _ _ n => n)
    (fun b o hc e => ⟨o, k b o (fun z => hc (by simp [z])) e⟩) (fun _ _ e => e) (fun _ _ _ e => e) (fun b ps e => ⟨#[], by rw [e]; simp⟩) (fun m hm => ?_) (fun b u e => ?_) I.bare
  · have e : b = it := by simpa using hb
    subst e
    exact ⟨h1, hL, h2, h3⟩
  · obtain ⟨o, es, ep, ho, r⟩ := hm
    exact ⟨o, es, ep, k _ o (Ne.symm hL) ho, r⟩
  · refine (I.hok b u e).stay (fun c v hc q => k c v ?_ q) (fun _ q => q) fun _ _ q => q
    rcases hc with z | z
    · rw [z]; exact nit b u e
    · exact nit c _ z
theorem Inv.tok (I : Inv X pins σ H s) (t : Nat) : Inv X pins σ H { s with toks := t } := I.un (h' := s.heap) (t' := t) Un.refl I.hok
theorem Inv.kept {t' : Nat} (I : Inv X pins σ H s) (k : ∀ b u, s.heap.get? b = some u → h'.get? b = some u) : Inv X pins σ H { s with heap := h', toks := t' } := I.un (Un.kept k) (I.hok.kept k)
theorem Inv.laid {a : Addr} {o : HO} {t' : Nat} (I : Inv X pins σ H s) (k : ∀ b u, s.heap.get? b = some u → h'.get? b = some u) (hp : s.heap.objs.size ≤ a) (new : ObjOk X.prog X.w (upd H a o) h' a o) :
    Inv X pins σ (upd H a o) { s with heap := h', toks := t' } := I.un (Un.laid k hp (I.hok.fresh hp)) (I.hok.laid k hp new)
theorem Inv.write {x e : Addr} {o : HO} {t' : Nat} (I : Inv X pins σ H s) (mu : Mut (H x)) (he : e = x ∨ H e = some (.own x)) (k : ∀ b u, b ≠ e → s.heap.get? b = some u → h'.get? b = some u) (heo : ∃ u, h'.get? e = some u)
    (new : ObjOk X.prog X.w (upd H x o) h' x o) : Inv X pins σ (upd H x o) { s with heap := h', toks := t' } := I.un (Un.write mu he k heo) (I.hok.write mu he k heo new)
theorem Inv.pins_of {pins' : List (Addr × Obj)} (I : Inv X pins σ H s) (h : ∀ p ∈ pins', s.heap.get? p.1 = some p.2 ∧ H p.1 = none ∧ p.1 ≠ X.env.locals ∧ p.1 ∉ X.fs ∧ ∀ v, p.2.data ≠ .cell v) : Inv X pins' σ H s :=
  ⟨I.ok, I.os, I.bare, I.base, I.loc, I.cell, I.free, I.freeC, fun p hp => (List.mem_append.mp hp).elim (fun z => I.pin p (List.mem_append_left _ z)) (h p), I.hok, I.len⟩
theorem nodup_ix {N : List Str} (hN : N.Nodup) {i j : Nat} {x : Str} (a : N[i]? = some x) (b : N[j]? = some x) : i = j := by
  obtain ⟨h1, e1⟩ := List.getElem?_eq_some_iff.mp a
  obtain ⟨h2, e2⟩ := List.getElem?_eq_some_iff.mp b
  exact (List.getElem_inj hN).mp (e1.trans e2.symm)
theorem store_ok2 {M : Model} {A : Around} {E : Value → Shared → Prop} {i : Nat} {x : Str} {v : V} {u : Value} {Q : Unit → Shared → Prop} (I : Inv X pins σ H s) (hN : X.N.Nodup) (hi : X.N[i]? = some x) (hx : Loc X.env.scope x) (r : RelV v u)
    (h : ∀ s', Inv X pins (σ.set i (some v)) H s' → (∃ a, Heap.SameBut a s.heap s'.heap ∧ (a = X.env.locals ∨ X.env.cells.lookup x = some a)) → Q () s') (hf : X.fn x = true ∨ X.env.scope.names.lookup x = some .local := by first | exact .inl rfl | exact .inr rfl | assumption) : wpAny M A (storeName X.env x u) Q E s := by
  obtain ⟨m, hn, hl⟩ := id I.loc
  have hcls : (X.env.scope.kind == .class || (X.env.scope.kind == .module && X.env.locals != X.env.globals)) = false := by rw [I.ok.kind]; rfl
  have hiσ : i < σ.length := by rw [I.len]; exact (List.getElem?_eq_some_iff.mp hi).1
  have cne := I.cne
  have tracked : ∀ {a : Addr} {h' : Heap}, (∃ o, s.heap.get? a = some o ∧ H a = none) → Heap.SameBut a s.heap h' → HOk X.prog X.w H h' := fun {a h'} ha hs b ob e => by
    obtain ⟨_, _, hfree⟩ := ha
    refine (I.hok b ob e).stay (fun c w' hc q => (hs.2 c ?_).trans q) (fun _ q => q) fun _ _ q => q
    rintro rfl
    rcases hc with rfl | hc
    · rw [hfree] at e; cases e
    · rw [hfree] at hc; cases hc
  rcases hx with hk | hk
  · refine wpAny_storeName_local hk hn (fun h' hn' hs => ?_) hcls
    obtain ⟨oL, _, _, hoL, _⟩ := id hn
    refine h _ ⟨I.ok, I.os, I.bare, ⟨fun b o e n hb hx => ?_, fun b o e n hb hx => ?_, I.base.free, fun b o e hx => ?_, I.base.tups, I.base.frzs, I.base.tbls⟩, ⟨_, hn', fun j y v' e1 e2 e3 => ?_⟩, fun y c e => ?_, I.free, I.freeC, fun p hp => ?_, tracked ⟨oL, hoL, I.free⟩ hs, by simpa using I.len⟩ ⟨_, hs, .inl rfl⟩
    · exact (hs.2 b (Nat.ne_of_lt (Nat.lt_of_lt_of_le (Heap.lt_size e) I.ok.above))).trans (I.base.keep b o e n hb hx)
    · obtain ⟨sl, e1⟩ := I.base.slot b o e n hb hx
      exact ⟨sl, (hs.2 b (Nat.ne_of_lt (Nat.lt_of_lt_of_le (Heap.lt_size e) I.ok.above))).trans e1⟩
    · obtain ⟨o', e1⟩ := I.base.there b o e hx
      exact ⟨o', (hs.2 b (Nat.ne_of_lt (Nat.lt_of_lt_of_le (Heap.lt_size e) I.ok.above))).trans e1⟩
    · by_cases hj : j = i
      · subst hj
        rw [hi] at e1; cases e1
        rw [List.getElem?_set_self hiσ] at e2
        cases e2
        exact ⟨u, r, .inl ⟨hk, by simp⟩⟩
      · rw [List.getElem?_set_ne (Ne.symm hj)] at e2
        obtain ⟨u', r', q⟩ := hl j y v' e1 e2 e3
        refine ⟨u', r', ?_⟩
        rcases q with ⟨k, e⟩ | ⟨k, c, e, z⟩
        · refine .inl ⟨k, ?_⟩
          have : y ≠ x := fun e => hj (nodup_ix hN e1 (e ▸ hi))
          simp [this, e]
        · exact .inr ⟨k, c, e, z.sameBut hs (cne y c e)⟩
    · obtain ⟨w', z⟩ := I.cell y c e
      exact ⟨w', z.sameBut hs (cne y c e)⟩
    · obtain ⟨e, n, ne, nf, d⟩ := I.pin p hp
      exact ⟨(hs.2 p.1 ne).trans e, n, ne, nf, d⟩
  · have hfn : X.fn x = true := by
      rcases hf with z | z
      · exact z
      · rw [z] at hk; cases hk
    obtain ⟨c, hc⟩ := I.ok.has x (.inl hk)
    obtain ⟨w', z⟩ := I.cell x c hc
    refine wpAny_storeName_cell I.ok.kind hk hc z (fun h' hc' hs => ?_)
    obtain ⟨oc, hoc, hocd⟩ := id z
    refine h { s with heap := h' } ⟨I.ok, I.os, I.bare, ⟨fun b o e n hb hx => ?_, fun b o e n hb hx => ?_, I.base.free, fun b o e hx => ?_, I.base.tups, I.base.frzs, I.base.tbls⟩, ⟨m, hn.sameBut hs (Ne.symm (cne x c hc)), fun j y v' e1 e2 e3 => ?_⟩, fun y c' e => ?_, I.free, I.freeC, fun p hp => ?_, tracked ⟨oc, hoc, I.freeC x c hc⟩ hs, by simpa using I.len⟩ ⟨c, hs, .inr hc⟩
    · exact (hs.2 b (Nat.ne_of_lt (Nat.lt_of_lt_of_le (Heap.lt_size e) (I.ok.cab x c hfn hc)))).trans (I.base.keep b o e n hb hx)
    · obtain ⟨sl, e1⟩ := I.base.slot b o e n hb hx
      exact ⟨sl, (hs.2 b (Nat.ne_of_lt (Nat.lt_of_lt_of_le (Heap.lt_size e) (I.ok.cab x c hfn hc)))).trans e1⟩
    · obtain ⟨o', e1⟩ := I.base.there b o e hx
      exact ⟨o', (hs.2 b (Nat.ne_of_lt (Nat.lt_of_lt_of_le (Heap.lt_size e) (I.ok.cab x c hfn hc)))).trans e1⟩
    · by_cases hj : j = i
      · subst hj
        rw [hi] at e1; cases e1
        rw [List.getElem?_set_self hiσ] at e2
        cases e2
        exact ⟨u, r, .inr ⟨.inl hk, c, hc, hc'⟩⟩
      · rw [List.getElem?_set_ne (Ne.symm hj)] at e2
        obtain ⟨u', r', q⟩ := hl j y v' e1 e2 e3
        refine ⟨u', r', ?_⟩
        rcases q with q | ⟨k, c', e, z'⟩
        · exact .inl q
        · refine .inr ⟨k, c', e, z'.sameBut hs ?_⟩
          rintro rfl
          exact hj (nodup_ix hN e1 (I.ok.inj _ _ _ e hc ▸ hi))
    · by_cases hcc : c' = c
      · subst hcc; exact ⟨_, hc'⟩
      · obtain ⟨w2, z2⟩ := I.cell y c' e
        exact ⟨w2, z2.sameBut hs hcc⟩
    · obtain ⟨e, n, ne, nf, d⟩ := I.pin p hp
      refine ⟨(hs.2 p.1 ?_).trans e, n, ne, nf, d⟩
      intro q
      rw [q, hoc] at e
      have q' : oc = p.2 := Option.some.inj e
      exact d w' (by rw [← q']; exact hocd)
theorem store_ok {M : Model} {A : Around} {E : Value → Shared → Prop} {i : Nat} {x : Str} {v : V} {u : Value} {Q : Unit → Shared → Prop} (I : Inv X pins σ H s) (hN : X.N.Nodup) (hi : X.N[i]? = some x) (hx : Loc X.env.scope x) (r : RelV v u)
    (h : ∀ s', Inv X pins (σ.set i (some v)) H s' → Q () s') (hf : X.fn x = true ∨ X.env.scope.names.lookup x = some .local := by first | exact .inl rfl | exact .inr rfl | assumption) : wpAny M A (storeName X.env x u) Q E s :=
  store_ok2 I hN hi hx r (fun s' I' _ => h s' I') hf
theorem Inv.call' {s' : Shared} {ch : List Addr} (I : Inv X pins σ H s) (ho : s'.os = s.os) (u : Un (frs X.stack) ch H H' s.heap s'.heap) (hok : HOk X.prog X.w H' s'.heap) (hg : AllBare s'.gens)
    (hch : ∀ b ∈ ch, (b ∈ X.ex ∨ X.s₀.heap.objs.size ≤ b) ∧ b ≠ X.env.locals ∧ (∀ x c, X.env.cells.lookup x = some c → c ≠ b) ∧ ∀ p ∈ X.pn ++ pins, p.1 ≠ b) : Inv X pins σ H' s' := by
  obtain ⟨h', g', d', t', o'⟩ := s'
  have e : o' = s.os := ho
  subst e
  exact I.call (g' := g') (t' := t') (d' := d') u hok hg hch
end
abbrev XK := Value → Option Addr → Hp → Prop
abbrev St := List (Option V)
abbrev VK := V → Hp → Prop
abbrev TE := St → Hp → VK → Prop
abbrev TT := St → Hp → (Bool → Hp → Prop) → Prop
abbrev TA := St → Hp → (List V → Hp → Prop) → Prop
structure Ends where
  nx : St → Hp → Prop
  rt : VK
  bk : St → Hp → Prop := fun _ _ => False
  ct : St → Hp → Prop := fun _ _ => False
abbrev TS := Ends → St → Hp → Prop
def EP (X : Cx) (pins : List (Addr × Obj)) (σ : St) (Q : VK) (u : Value) (s' : Shared) : Prop := ∃ v H', Inv X pins σ H' s' ∧ RelV v u ∧ Q v H'
def TP (X : Cx) (pins : List (Addr × Obj)) (σ : St) (Q : Bool → Hp → Prop) (b : Bool) (s' : Shared) : Prop := ∃ H', Inv X pins σ H' s' ∧ Q b H'
def AP (X : Cx) (pins : List (Addr × Obj)) (σ : St) (Q : List V → Hp → Prop) (us : List Value) (s' : Shared) : Prop := ∃ vs H', Inv X pins σ H' s' ∧ Vals vs us ∧ Q vs H'
def SP (X : Cx) (pins : List (Addr × Obj)) (D : Ends) (f : Flow) (s' : Shared) : Prop :=
  match f with
  | .next => ∃ σ' H', Inv X pins σ' H' s' ∧ D.nx σ' H'
  | .brk => ∃ σ' H', Inv X pins σ' H' s' ∧ D.bk σ' H'
  | .cont => ∃ σ' H', Inv X pins σ' H' s' ∧ D.ct σ' H'
  | .ret u => ∃ v σ' H', Inv X pins σ' H' s' ∧ RelV v u ∧ D.rt v H'
def PE (X : Cx) (e : Expr) (t : TE) : Prop :=
  ∀ (pins : List (Addr × Obj)) (s : Shared) (σ : St) (H : Hp) (Q : VK), Inv X pins σ H s → t σ H Q → wpAny (model X.prog X.w) X.A (eval e X.env) (EP X pins σ Q) X.xe s
def PT (X : Cx) (e : Expr) (t : TT) : Prop :=
  ∀ (pins : List (Addr × Obj)) (s : Shared) (σ : St) (H : Hp) (Q : Bool → Hp → Prop), Inv X pins σ H s → t σ H Q → wpAny (model X.prog X.w) X.A (isTrue e X.env (eval e X.env)) (TP X pins σ Q) X.xe s
def PW (X : Cx) (e : Expr) (t : TT) : Prop :=
  ∀ (whole : Sem Value) (pins : List (Addr × Obj)) (s : Shared) (σ : St) (H : Hp) (Q : Bool → Hp → Prop), Inv X pins σ H s → t σ H Q → wpAny (model X.prog X.w) X.A (isTrue e X.env whole) (TP X pins σ Q) X.xe s
theorem PW.pt {X : Cx} {e : Expr} {t : TT} (h : PW X e t) : PT X e t := h _
def PA (X : Cx) (es : List Expr) (t : TA) : Prop :=
  ∀ (pos : Pos) (pins : List (Addr × Obj)) (s : Shared) (σ : St) (H : Hp) (Q : List V → Hp → Prop), Inv X pins σ H s → t σ H Q → wpAny (model X.prog X.w) X.A (spliced (backTo pos (starEach es X.env))) (AP X pins σ Q) X.xe s
def PS (X : Cx) (st : Stmt) (t : TS) : Prop :=
  ∀ (pins : List (Addr × Obj)) (s : Shared) (σ : St) (H : Hp) (D : Ends), Inv X pins σ H s → t D σ H → wpAny (model X.prog X.w) X.A (exec st X.env) (SP X pins D) X.xe s
def PSs (X : Cx) (st : List Stmt) (t : TS) : Prop :=
  ∀ (pins : List (Addr × Obj)) (s : Shared) (σ : St) (H : Hp) (D : Ends), Inv X pins σ H s → t D σ H → wpAny (model X.prog X.w) X.A (execs st X.env) (SP X pins D) X.xe s
theorem thn {α : Type} {t : Sem α} {Q Q' : α → Shared → Prop} {M : Model} {A : Around} {E : Value → Shared → Prop} {s : Shared} (h : wpAny M A t Q E s) (hQ : ∀ a s, Q a s → Q' a s) : wpAny M A t Q' E s := wpAny_mono h hQ fun _ _ x => x
end L2
namespace L2
open PySem PySem.Spec PyProof.Rows
section
variable {X : Cx}
def tVar (i : Nat) : TE := fun σ H Q => ∃ v, σ[i]? = some (some v) ∧ Q v H
def tC (v : V) : TE := fun _ H Q => Q v H
theorem pe_var {i : Nat} {x : Str} {pos : Pos} (hN : X.N[i]? = some x) (hv : Vis X.env.scope x) (hd : (x == ("__debug__" : Str)) = false := by decide) (hcd : (x == ("__classdict__" : Str)) = false := by decide) : PE X (.Name x pos) (tVar i) := by
  intro pins s σ H Q I h
  obtain ⟨v, e, h⟩ := h
  obtain ⟨m, hn, hl⟩ := I.loc
  obtain ⟨u, r, l⟩ := hl i x v hN e hv
  have fin : EP X pins σ Q u s := ⟨v, H, I, r, h⟩
  rcases l with ⟨hk, hm⟩ | ⟨hk, c, hc, hcell⟩
  · exact wpAny_Name (wpAny_loadName_local I.ok.kind hk hn hm fin) hd
  · rcases hk with hk | hk
    · exact wpAny_Name (wpAny_loadName_cell I.ok.kind hk hc hcell fin) hd
    · exact wpAny_Name (wpAny_loadName_free I.ok.kind hk hc hcell fin hcd) hd
theorem pe_int {i j pos} : PE X (.Constant (.int i) j pos) (tC (.int i)) := fun _ _ _ H _ I h => wpAny_Constant_int ⟨.int i, H, I.tok _, ⟨_, rfl⟩, h⟩
theorem pe_bl {b j pos} : PE X (.Constant (.bool b) j pos) (tC (.bl b)) := fun _ _ _ H _ I h => Constant_bool ⟨.bl b, H, I, rfl, h⟩
theorem pe_non {j pos} : PE X (.Constant .none j pos) (tC .non) := fun _ _ _ H _ I h => Constant_none ⟨.non, H, I, rfl, h⟩
theorem pe_str {x j pos} : PE X (.Constant (.str x) j pos) (tC (.str x)) := fun _ _ _ H _ I h => Calls.Constant_str ⟨.str x, H, I.tok _, ⟨_, rfl⟩, h⟩
def Gl (X : Cx) (x : Str) : Prop := X.env.kindOf x = some .globalImplicit
theorem ld_glob {E : Value → Shared → Prop} {pins : List (Addr × Obj)} {s : Shared} {σ : St} {H : Hp} {x : Str} {u : Value} {pos : Pos} {Q : Value → Shared → Prop} (I : Inv X pins σ H s) (hg : Gl X x) (hm : X.mg x = some u) (h : Q u s)
    (hd : (x == ("__debug__" : Str)) = false := by decide) : wpAny (model X.prog X.w) X.A (eval (.Name x pos) X.env) Q E s :=
  Calls.Name_function_global I.ok.kind hg (Calls.loadGlobal_global (by rw [I.ok.glob]; exact I.mod.glob.keeps I.bk) hm h) hd
theorem ld_blt {E : Value → Shared → Prop} {pins : List (Addr × Obj)} {s : Shared} {σ : St} {H : Hp} {x : Str} {u : Value} {pos : Pos} {Q : Value → Shared → Prop} (I : Inv X pins σ H s) (hg : Gl X x) (hm : X.mg x = none) (hv : bootBuiltins x = some u) (h : Q u s)
    (hn : x ≠ "__name__" := by decide) (hd : (x == ("__debug__" : Str)) = false := by decide) : wpAny (model X.prog X.w) X.A (eval (.Name x pos) X.env) Q E s := by
  obtain ⟨mb, h1, h2⟩ := I.mod.blt
  exact Calls.Name_function_global I.ok.kind hg (Calls.loadGlobal_builtin (by rw [I.ok.glob]; exact I.mod.glob.keeps I.bk) hm (by rw [I.ok.blt]; exact h1.keeps I.bk) ((h2 x hn).trans hv) h) hd
theorem pe_glob {x : Str} {v : V} {u : Value} {pos : Pos} (hg : Gl X x) (hm : X.mg x = some u) (r : RelV v u) (hd : (x == ("__debug__" : Str)) = false := by decide) : PE X (.Name x pos) (tC v) :=
  fun _ _ _ H _ I h => ld_glob I hg hm ⟨v, H, I, r, h⟩ hd
theorem pe_bltn {x : Str} {v : V} {u : Value} {pos : Pos} (hg : Gl X x) (hm : X.mg x = none) (hv : bootBuiltins x = some u) (r : RelV v u) (hn : x ≠ "__name__" := by decide) (hd : (x == ("__debug__" : Str)) = false := by decide) : PE X (.Name x pos) (tC v) :=
  fun _ _ _ H _ I h => ld_blt I hg hm hv ⟨v, H, I, r, h⟩ hn hd
variable {a b : Expr} {ta tb : TE} {pos : Pos}
def PC (X : Cx) (op : CmpOp) (a b : Expr) (t : TE) : Prop :=
  ∀ (pins : List (Addr × Obj)) (s : Shared) (σ : St) (H : Hp) (Q : VK), Inv X pins σ H s → t σ H Q →
    wpAny (model X.prog X.w) X.A (eval a X.env) (fun v s₁ => wpAny (model X.prog X.w) X.A (eval b X.env) (fun u s₂ => wpAny (model X.prog X.w) X.A (compareOp op v u) (EP X pins σ Q) X.xe s₂) X.xe s₁) X.xe s
theorem nobehind (b : Expr) {op : CmpOp} (h : op ≠ .In) (h2 : op ≠ .NotIn) : behindInMarks op b = false := by
  have e1 : (op == CmpOp.In) = false := by cases op <;> first | rfl | exact absurd rfl h
  have e2 : (op == CmpOp.NotIn) = false := by cases op <;> first | rfl | exact absurd rfl h2
  cases b <;> simp [behindInMarks, e1, e2]
def tIsN (ta : TE) : TE := fun σ H Q => ta σ H fun x H1 => Q (.bl (decide (x = .non))) H1
def tNotN (ta : TE) : TE := fun σ H Q => ta σ H fun x H1 => Q (.bl (!decide (x = .non))) H1
theorem RelV.none_iff {x : V} {v : Value} (r : RelV x v) : (v == Value.none) = decide (x = .non) := by
  cases x with
  | non => cases r; rfl
  | bl _ => cases r; rfl
  | int _ => obtain ⟨t, rfl⟩ := r; rfl
  | str _ => obtain ⟨t, rfl⟩ := r; rfl
  | byt _ => obtain ⟨t, rfl⟩ := r; rfl
  | flt _ => obtain ⟨t, rfl⟩ := r; rfl
  | ref _ => cases r; rfl
  | ty _ => cases r; rfl
theorem pc_isN {j pos'} (ha : PE X a ta) : PC X .Is a (.Constant .none j pos') (tIsN ta) := by
  intro pins s σ H Q I h
  refine thn (ha pins s σ H _ I h) fun v s1 ⟨x, H1, I1, r1, q1⟩ => ?_
  exact Constant_none (is_none_gen ⟨.bl _, H1, I1, by rw [r1.none_iff]; rfl, q1⟩)
theorem pc_notN {j pos'} (ha : PE X a ta) : PC X .IsNot a (.Constant .none j pos') (tNotN ta) := by
  intro pins s σ H Q I h
  refine thn (ha pins s σ H _ I h) fun v s1 ⟨x, H1, I1, r1, q1⟩ => ?_
  exact Constant_none (isnot_none_gen ⟨.bl _, H1, I1, by rw [r1.none_iff]; rfl, q1⟩)
def tB (t : TE) : TT := fun σ H Q => t σ H fun x H1 => ∃ c, x = .bl c ∧ Q c H1
theorem pt_cmp {op : CmpOp} {t : TE} (h : PC X op a b t) (h1 : behindInMarks op b = false := by first | exact nobehind _ (by decide) (by decide) | rfl) : PT X (.Compare a [op] [b] pos) (tB t) := by
  intro pins s σ H Q I hw
  refine wpAny_isTrue_Compare1 (thn (h pins s σ H _ I hw) fun v s1 h1 => thn h1 fun u s2 h2 => thn h2 fun c s3 ⟨x, H1, I1, r1, q1⟩ => ?_) h1
  obtain ⟨d, rfl, q⟩ := q1
  cases r1
  exact wpAny_truthy_bool ⟨H1, I1, q⟩
theorem pt_val {e : Expr} {t : TE} (h : PE X e t) (he : ∀ whole, isTrue e X.env whole = (do let v ← whole; standAt e.pos; holding [v] (truthy v)) := by intro _; rfl) : PT X e (tB t) := by
  intro pins s σ H Q I hw
  refine isTrue_plain (thn (h pins s σ H _ I hw) fun v s1 ⟨x, H1, I1, r1, q1⟩ => ?_) (he _)
  obtain ⟨d, rfl, q⟩ := q1
  cases r1
  exact wpAny_truthy_bool ⟨H1, I1, q⟩
variable {tA tB' : TT} {rest : List Expr}
def tAnd (t u : TT) : TT := fun σ H Q => t σ H fun c H1 => if c = true then u σ H1 Q else Q false H1
def tOr (t u : TT) : TT := fun σ H Q => t σ H fun c H1 => if c = true then Q true H1 else u σ H1 Q
def tNot (t : TT) : TT := fun σ H Q => t σ H fun c H1 => Q (!c) H1
theorem pw_and1 (ha : PT X a tA) : PW X (.BoolOp .And [a] pos) tA := by
  intro wh pins s σ H Q I h
  refine isTrue_and (thn (ha pins s σ H Q I h) fun c s1 e => ?_)
  cases c with
  | true => exact isTrue_and_nil e
  | false => exact e
theorem pw_or1 (ha : PT X a tA) : PW X (.BoolOp .Or [a] pos) tA := by
  intro wh pins s σ H Q I h
  refine isTrue_or (thn (ha pins s σ H Q I h) fun c s1 e => ?_)
  cases c with
  | false => exact isTrue_or_nil e
  | true => exact e
theorem pw_and (ha : PT X a tA) (hb : PW X (.BoolOp .And (b :: rest) pos) tB') : PW X (.BoolOp .And (a :: b :: rest) pos) (tAnd tA tB') := by
  intro wh pins s σ H Q I h
  refine isTrue_and (thn (ha pins s σ H _ I h) fun c s1 ⟨H1, I1, q1⟩ => ?_)
  cases c with
  | true => exact hb wh pins s1 σ H1 Q I1 q1
  | false => exact ⟨H1, I1, q1⟩
theorem pw_or (ha : PT X a tA) (hb : PW X (.BoolOp .Or (b :: rest) pos) tB') : PW X (.BoolOp .Or (a :: b :: rest) pos) (tOr tA tB') := by
  intro wh pins s σ H Q I h
  refine isTrue_or (thn (ha pins s σ H _ I h) fun c s1 ⟨H1, I1, q1⟩ => ?_)
  cases c with
  | true => exact ⟨H1, I1, q1⟩
  | false => exact hb wh pins s1 σ H1 Q I1 q1
theorem pt_not (ha : PT X a tA) : PT X (.UnaryOp .Not a pos) (tNot tA) := by
  intro pins s σ H Q I h
  exact isTrue_not (ha pins s σ H (fun c H1 => Q (!c) H1) I h)
def tAndV (ta tb : TE) : TE := fun σ H Q => ta σ H fun x H1 => ∃ c, x = .bl c ∧ if c = true then tb σ H1 Q else Q (.bl false) H1
def tNotV (ta : TE) : TE := fun σ H Q => ta σ H fun x H1 => ∃ c, x = .bl c ∧ Q (.bl (!c)) H1
theorem pe_one {op} {t : TE} (h : PE X a t) : PE X (.BoolOp op [a] pos) t := fun pins s σ H Q I hw => BoolOp_one (h pins s σ H Q I hw)
theorem pe_and (ha : PE X a ta) (hb : PE X (.BoolOp .And (b :: rest) pos) tb) : PE X (.BoolOp .And (a :: b :: rest) pos) (tAndV ta tb) := by
  intro pins s σ H Q I h
  refine BoolOp_and (thn (ha pins s σ H _ I h) fun v s1 ⟨x, H1, I1, r1, q1⟩ => ?_)
  obtain ⟨c, rfl, q1⟩ := q1
  cases r1
  refine wpAny_truthy_bool ?_
  cases c with
  | true => exact hb pins s1 σ H1 Q I1 q1
  | false => exact ⟨.bl false, H1, I1, rfl, q1⟩
theorem pe_not (ha : PE X a ta) : PE X (.UnaryOp .Not a pos) (tNotV ta) := by
  intro pins s σ H Q I h
  refine UnaryOp_ (thn (ha pins s σ H _ I h) fun v s1 ⟨x, H1, I1, r1, q1⟩ => ?_)
  obtain ⟨c, rfl, q1⟩ := q1
  cases r1
  exact not_of (wpAny_truthy_bool ⟨.bl (!c), H1, I1, rfl, q1⟩)
end
end L2
namespace L2
open PySem PySem.Spec PyProof.Rows
def SqL (K : PySem.W.Frag) (H : Hp) (a : Addr) (xs : List V) : Prop :=
  Rd H a (.lst xs) ∨
    ∃ (o : Obj) (its : Array Value) (n : Nat), K.lookup a = some o ∧ o.cls = .type "list" ∧ o.dict = none ∧ o.data = .seq its n ∧ its.size ≤ sizeLine ∧ Vals xs its.toList
def SqT (K : PySem.W.Frag) (H : Hp) (a : Addr) (xs : List V) : Prop :=
  Rd H a (.tup xs) ∨
    ∃ (o : Obj) (its : Array Value) (n : Nat), K.lookup a = some o ∧ o.cls = .type "tuple" ∧ o.data = .seq its n ∧ its.size ≤ sizeLine ∧ Vals xs its.toList
def absV : Value → Option V
  | .none => some .non
  | .bool b => some (.bl b)
  | .int i _ => some (.int i)
  | .str x _ => some (.str x)
  | .bytes b _ => some (.byt b)
  | .float b _ => some (.flt b)
  | .ref a => some (.ref a)
  | .type n => some (.ty n)
  | _ => none
theorem RelV.abs {x : V} {u : Value} (r : RelV x u) : absV u = some x := by
  cases x with
  | non => cases r; rfl
  | bl _ => cases r; rfl
  | int _ => obtain ⟨t, rfl⟩ := r; rfl
  | str _ => obtain ⟨t, rfl⟩ := r; rfl
  | byt _ => obtain ⟨t, rfl⟩ := r; rfl
  | flt _ => obtain ⟨t, rfl⟩ := r; rfl
  | ref _ => cases r; rfl
  | ty _ => cases r; rfl
theorem RelV.inj {x y : V} {u : Value} (r : RelV x u) (q : RelV y u) : x = y := Option.some.inj (r.abs.symm.trans q.abs)
theorem Vals.inj : ∀ {xs ys : List V} {us : List Value}, Vals xs us → Vals ys us → xs = ys
  | _, _, _, .nil, .nil => rfl
  | _, _, _, .cons r t, .cons r' t' => by rw [r.inj r', Vals.inj t t']
section
variable {X : Cx} {pins : List (Addr × Obj)} {σ : St} {H : Hp} {s : Shared} {a : Addr} {xs ys : List V}
theorem SqL.of {K : PySem.W.Frag} (h : H a = some (.lst xs)) : SqL K H a xs := .inl (.inl h)
theorem SqT.of {K : PySem.W.Frag} (h : H a = some (.tup xs)) : SqT K H a xs := .inl (.inl h)
theorem Inv.list (I : Inv X pins σ H s) (h : SqL X.K H a xs) : ∃ its : List Value, Vals xs its ∧ PlainL s.heap a its.toArray ∧ xs.length ≤ sizeLine := by
  rcases h with h | ⟨o, its, n, hk, hc, hd, hs, hz, r⟩
  · obtain ⟨z, its, n, r, e⟩ := h.ok I.hok
    exact ⟨its, r, ⟨_, n, e, rfl, rfl, rfl⟩, z⟩
  · refine ⟨its.toList, r, ⟨o, n, I.kIn a o hk, hc, hd, by simpa using hs⟩, ?_⟩
    have e := r.length
    simp only [Array.length_toList] at e
    omega
theorem Inv.tuple (I : Inv X pins σ H s) (h : SqT X.K H a xs) : ∃ its : List Value, Vals xs its ∧ IsTup s.heap a its.toArray ∧ xs.length ≤ sizeLine := by
  rcases h with h | ⟨o, its, n, hk, hc, hs, hz, r⟩
  · obtain ⟨z, its, r, p⟩ := h.ok I.hok
    exact ⟨its, r, p, z⟩
  · refine ⟨its.toList, r, ⟨o, I.kIn a o hk, hc, n, by simpa using hs⟩, ?_⟩
    have e := r.length
    simp only [Array.length_toList] at e
    omega
theorem Inv.list_inj (I : Inv X pins σ H s) (h : SqL X.K H a xs) (h' : SqL X.K H a ys) : xs = ys := by
  obtain ⟨its, r, ⟨o, n, e, _, _, d⟩, _⟩ := I.list h
  obtain ⟨its', r', ⟨o', n', e', _, _, d'⟩, _⟩ := I.list h'
  rw [e] at e'; cases e'
  rw [d] at d'
  injection d' with d1 _
  have : its = its' := by simpa using congrArg Array.toList d1
  subst this
  exact r.inj r'
end
abbrev Cx.wish (X : Cx) (E : Value → Shared → Prop) : Cx := { X with xe := E }
abbrev Cx.nox (X : Cx) : Cx := X.wish fun _ _ => False
theorem Cx.Ok.wish {X : Cx} (ok : X.Ok) (E : Value → Shared → Prop) : (X.wish E).Ok :=
  ⟨ok.mod, ok.kind, ok.glob, ok.blt, ok.above, ok.inj, ok.has, ok.cab, ok.hd, ok.frames, ok.stk, ok.exf, ok.bs, ok.bsz, ok.noex, ok.exfs, ok.funs, ok.frf⟩
theorem Cx.Ok.unwish {X : Cx} {E : Value → Shared → Prop} (ok : (X.wish E).Ok) : X.Ok :=
  ⟨ok.mod, ok.kind, ok.glob, ok.blt, ok.above, ok.inj, ok.has, ok.cab, ok.hd, ok.frames, ok.stk, ok.exf, ok.bs, ok.bsz, ok.noex, ok.exfs, ok.funs, ok.frf⟩
section
variable {X : Cx} {pins : List (Addr × Obj)} {σ : St} {H : Hp} {s : Shared} {E : Value → Shared → Prop}
theorem Inv.wish (I : Inv X pins σ H s) (E : Value → Shared → Prop) : Inv (X.wish E) pins σ H s := ⟨I.ok.wish E, I.os, I.bare, I.base, I.loc, I.cell, I.free, I.freeC, I.pin, I.hok, I.len⟩
theorem Inv.unwish (I : Inv (X.wish E) pins σ H s) : Inv X pins σ H s := ⟨I.ok.unwish, I.os, I.bare, I.base, I.loc, I.cell, I.free, I.freeC, I.pin, I.hok, I.len⟩
theorem SP.unwish {D : Ends} {f : Flow} {s' : Shared} (h : SP (X.wish E) pins D f s') : SP X pins D f s' := by
  cases f with
  | next => obtain ⟨σ', H', I, q⟩ := h; exact ⟨σ', H', I.unwish, q⟩
  | brk => obtain ⟨σ', H', I, q⟩ := h; exact ⟨σ', H', I.unwish, q⟩
  | cont => obtain ⟨σ', H', I, q⟩ := h; exact ⟨σ', H', I.unwish, q⟩
  | ret u => obtain ⟨v, σ', H', I, r, q⟩ := h; exact ⟨v, σ', H', I.unwish, r, q⟩
theorem PSs.nox {st : List Stmt} {t : TS} (h : PSs X.nox st t) : PSs X st t := fun pins s σ H D I hw =>
  wpAny_mono (h pins s σ H D (I.wish _) hw) (fun _ _ q => q.unwish) fun _ _ z => False.elim z
end
section
variable {X : Cx} {st : Stmt} {rest : List Stmt} {t u : TS} {e : Expr} {te : TE} {pos : Pos}
def tNext : TS := fun D σ H => D.nx σ H
def tSeq (t u : TS) : TS := fun D σ H => t { D with nx := u D } σ H
theorem pss_nil : PSs X [] tNext := fun _ _ σ H _ I h => wpAny_execs_nil ⟨σ, H, I, h⟩
theorem pss_cons (h1 : PS X st t) (h2 : PSs X rest u) : PSs X (st :: rest) (tSeq t u) := by
  intro pins s σ H D I h
  refine wpAny_execs_cons (thn (h1 pins s σ H { D with nx := u D } I h) fun f s1 q => ?_)
  cases f with
  | next =>
    obtain ⟨σ', H', I', q⟩ := q
    exact h2 pins s1 σ' H' D I' q
  | ret v => exact q
  | brk => exact q
  | cont => exact q
theorem pss_one (h1 : PS X st t) : PSs X [st] t := by
  intro pins s σ H D I h
  refine wpAny_execs_cons (thn (h1 pins s σ H D I h) fun f s1 q => ?_)
  cases f with
  | next => exact wpAny_execs_nil q
  | ret v => exact q
  | brk => exact q
  | cont => exact q
theorem Inv.quiet {pins : List (Addr × Obj)} {σ : St} {H : Hp} {s : Shared} (I : Inv X pins σ H s) : interactive X.env = false := by simp [interactive, I.ok.kind]
def tDrop (te : TE) : TS := fun D σ H => te σ H fun _ H1 => D.nx σ H1
theorem ps_expr (he : PE X e te) (hs : swapsWith e none pos.line X.env = pure false := by rfl) : PS X (.Expr e pos) (tDrop te) := by
  intro pins s σ H D I h
  exact wpAny_Expr_any (thn (he pins s σ H _ I h) fun v s1 ⟨x, H1, I1, r1, q1⟩ => ⟨σ, H1, I1, q1⟩) I.quiet hs
def tRet (te : TE) : TS := fun D σ H => te σ H D.rt
theorem ps_ret (he : PE X e te) : PS X (.Return (some e) pos) (tRet te) := by
  intro pins s σ H D I h
  exact wpAny_Return_some (thn (he pins s σ H _ I h) fun v s1 ⟨x, H1, I1, r1, q1⟩ => ⟨x, σ, H1, I1, r1, q1⟩)
def tIfS (c : TT) (t u : TS) : TS := fun D σ H => c σ H fun b H1 => if b = true then t D σ H1 else u D σ H1
theorem ps_if {c : Expr} {a b : List Stmt} {tc : TT} (hc : PT X c tc) (ha : PSs X a t) (hb : PSs X b u) : PS X (.If c a b pos) (tIfS tc t u) := by
  intro pins s σ H D I h
  refine wpAny_If (thn (hc pins s σ H _ I h) fun d s1 ⟨H1, I1, q1⟩ => ?_)
  cases d with
  | true => exact ha pins s1 σ H1 D I1 q1
  | false => exact hb pins s1 σ H1 D I1 q1
end
abbrev TG := V → St → Hp → (St → Hp → Prop) → Prop
abbrev TGs := List V → St → Hp → (St → Hp → Prop) → Prop
def PG (X : Cx) (target : Expr) (t : TG) : Prop :=
  ∀ (pins : List (Addr × Obj)) (s : Shared) (σ : St) (H : Hp) (v : V) (u : Value) (Q : St → Hp → Prop), Inv X pins σ H s → RelV v u → t v σ H Q →
    wpAny (model X.prog X.w) X.A (assign target X.env u) (fun _ s' => ∃ σ' H', Inv X pins σ' H' s' ∧ Q σ' H') X.xe s
def PGs (X : Cx) (ts : List Expr) (t : TGs) : Prop :=
  ∀ (pins : List (Addr × Obj)) (s : Shared) (σ : St) (H : Hp) (vs : List V) (us : List Value) (Q : St → Hp → Prop), Inv X pins σ H s → Vals vs us → t vs σ H Q →
    wpAny (model X.prog X.w) X.A (assignInOrder ((assignEach ts X.env).map (·.2)) us) (fun _ s' => ∃ σ' H', Inv X pins σ' H' s' ∧ Q σ' H') X.xe s
abbrev TSet := V → V → V → Hp → (Hp → Prop) → Prop
def PSet (X : Cx) (t : TSet) : Prop :=
  ∀ (pins : List (Addr × Obj)) (s : Shared) (σ : St) (H : Hp) (o i v : V) (ov iv u : Value) (Q : Hp → Prop), Inv X pins σ H s → RelV o ov → RelV i iv → RelV v u → t o i v H Q →
    wpAny (model X.prog X.w) X.A (setItem ov iv u) (fun _ s' => ∃ H', Inv X pins σ H' s' ∧ Q H') X.xe s
abbrev TIp := V → V → Hp → VK → Prop
def PIp (X : Cx) (op : Operator) (t : TIp) : Prop :=
  ∀ (pins : List (Addr × Obj)) (s : Shared) (σ : St) (H : Hp) (x y : V) (v u : Value) (Q : VK), Inv X pins σ H s → RelV x v → RelV y u → t x y H Q →
    wpAny (model X.prog X.w) X.A (inplaceOp op v u) (EP X pins σ Q) X.xe s
section
variable {X : Cx} {pos : Pos}
def gName (i : Nat) : TG := fun v σ H Q => Q (σ.set i (some v)) H
theorem pg_name {i : Nat} {x : Str} (hN : X.N.Nodup) (hi : X.N[i]? = some x) (hx : Loc X.env.scope x) (hf : X.fn x = true ∨ X.env.scope.names.lookup x = some .local := by first | exact .inl rfl | exact .inr rfl | assumption) : PG X (.Name x pos) (gName i) := by
  intro pins s σ H v u Q I r h
  exact wpAny_assign_Name (store_ok I hN hi hx r (fun s' I' => ⟨_, H, I', h⟩) hf)
def gNil : TGs := fun vs σ H Q => vs = [] ∧ Q σ H
def gCons (t : TG) (u : TGs) : TGs := fun vs σ H Q => ∃ v r, vs = v :: r ∧ t v σ H fun σ' H' => u r σ' H' Q
theorem pgs_nil : PGs X [] gNil := by
  intro pins s σ H vs us Q I r h
  obtain ⟨e, h⟩ := h
  subst e
  cases r
  exact assignInOrder_nil ⟨σ, H, I, h⟩
theorem pgs_cons {e : Expr} {es : List Expr} {t : TG} {u : TGs} (h1 : PG X e t) (h2 : PGs X es u)
    (hs : (assignEach (e :: es) X.env).map (·.2) = assign e X.env :: (assignEach es X.env).map (·.2) := by rfl) : PGs X (e :: es) (gCons t u) := by
  intro pins s σ H vs us Q I r h
  obtain ⟨v, vr, e1, h⟩ := h
  subst e1
  cases r with
  | cons r rr =>
    rw [hs]
    refine assignInOrder_cons (thn (h1 pins s σ H _ _ _ I r h) fun _ s1 ⟨σ1, H1, I1, q1⟩ => ?_)
    exact h2 pins s1 σ1 H1 _ _ Q I1 rr q1
def gTup (K : PySem.W.Frag) (n : Nat) (t : TGs) : TG := fun v σ H Q => ∃ a xs, v = .ref a ∧ SqT K H a xs ∧ xs.length = n ∧ t xs σ H Q
theorem pg_tup {es : List Expr} {k : Nat} {t : TGs} {n : Nat} (hc : X.calm = true) (h : PGs X es t)
    (hn : (assignEach es X.env).length = n := by rfl) (hst : (assignEach es X.env).findIdx? (·.1) = none := by rfl) : PG X (.Tuple es k pos) (gTup X.K n t) := by
  intro pins s σ H v u Q I r hw
  obtain ⟨a, xs, e1, hq, hl, hw⟩ := hw
  subst e1
  cases r
  obtain ⟨its, rv, ht, hz⟩ := I.tuple hq
  refine assign_Tuple_tuple (I.ok.hd hc) ht (by simp [hn, ← hl, rv.length]) hst fun h' hx => ?_
  have I1 : Inv X pins σ H { s with heap := h' } := I.kept (t' := s.toks) fun b o e => hx b o (Nat.ne_of_lt (Heap.lt_size e)) e
  exact h pins _ σ H xs _ Q I1 (by simpa using rv) hw
def gSub (to ti : TE) (t : TSet) : TG := fun v σ H Q => to σ H fun o H1 => ti σ H1 fun i H2 => t o i v H2 fun H3 => Q σ H3
theorem pg_sub {o i : Expr} {to ti : TE} {t : TSet} (ho : PE X o to) (hi : PE X i ti) (hs : PSet X t)
    (ha : ∀ v, assign (.Subscript o i pos) X.env v = (do
      let ov ← holding [v] (eval o X.env)
      let iv ← holding [v, ov] (eval i X.env)
      standAt pos
      holding [v, ov, iv] (setItem ov iv v)
      release [v, ov, iv] []) := by intro _; rfl) : PG X (.Subscript o i pos) (gSub to ti t) := by
  intro pins s σ H v u Q I r h
  rw [ha]
  refine wpAny_bind (wpAny_holding (thn (ho pins s σ H _ I h) fun ov s1 ⟨x, H1, I1, r1, q1⟩ => ?_))
  refine wpAny_bind (wpAny_holding (thn (hi pins s1 σ H1 _ I1 q1) fun iv s2 ⟨y, H2, I2, r2, q2⟩ => ?_))
  refine wpAny_bind (wpAny_standAt (wpAny_bind (wpAny_holding (thn (hs pins s2 σ H2 x y v ov iv u _ I2 r1 r2 r q2) fun _ s3 ⟨H3, I3, q3⟩ => ?_))))
  exact wpAny_release ⟨σ, H3, I3, q3⟩
def tAsg (te : TE) (g : TG) : TS := fun D σ H => te σ H fun x H1 => g x σ H1 D.nx
theorem ps_asg {tg e : Expr} {te : TE} {g : TG} (he : PE X e te) (hg : PG X tg g) (hs : swapsWithSole [tg] e pos.line X.env = pure false := by rfl) (hw : swappedStores [tg] e X.env = pure none := by rfl)
    (h1 : (assignEach [tg] X.env).map (·.2) = [assign tg X.env] := by rfl) : PS X (.Assign [tg] e pos) (tAsg te g) := by
  intro pins s σ H D I h
  refine wpAny_Assign_stores (thn (he pins s σ H _ I h) fun v s1 ⟨x, H1, I1, r1, q1⟩ => ?_) hs hw
  rw [h1]
  exact thn (hg pins s1 σ H1 x v _ I1 r1 q1) fun _ s2 q => q
theorem ps_set {i : Nat} {x : Str} {e : Expr} {te : TE} {pos' : Pos} (hN : X.N.Nodup) (hi : X.N[i]? = some x) (hx : Loc X.env.scope x) (he : PE X e te) (hs : swapsWith e (some (.Name x pos')) pos.line X.env = pure false := by rfl) (hf : X.fn x = true ∨ X.env.scope.names.lookup x = some .local := by first | exact .inl rfl | exact .inr rfl | assumption) :
    PS X (.Assign [.Name x pos'] e pos) (tAsg te (gName i)) := by
  intro pins s σ H D I h
  refine wpAny_Assign_Name (thn (he pins s σ H _ I h) fun v s1 ⟨y, H1, I1, r1, q1⟩ => ?_) hs
  exact store_ok I1 hN hi hx r1 (fun s2 I2 => ⟨_, H1, I2, q1⟩) hf
end
section
variable {X : Cx} {pos : Pos}
def tWhile (c : TT) (tb : TS) : TS := fun D σ H => ∃ W : Nat → St → Hp → Prop, (∃ m, W m σ H) ∧ ∀ m σ H, W m σ H →
  c σ H fun b H1 => if b = true then ∃ N : St → Hp → Prop, (∀ σ' H', N σ' H' → ∃ m', m' < m ∧ W m' σ' H') ∧ tb { D with nx := N, ct := N, bk := D.nx } σ H1 else D.nx σ H1
theorem ps_while {c : Expr} {body : List Stmt} {tc : TT} {tb : TS} (hp : PassesOwn (model X.prog X.w) X.A X.env X.xe) (hc : PT X c tc) (hb : PSs X body tb) : PS X (.While c body [] pos) (tWhile tc tb) := by
  intro pins s σ H D I h
  obtain ⟨W, ⟨m0, w0⟩, turn⟩ := h
  refine wpAny_While (codeAny_whileLoop (fun n s' => ∃ σ' H', Inv X pins σ' H' s' ∧ W n σ' H') ?_ m0 ⟨σ, H, I, w0⟩)
  rintro n s1 ⟨σ1, H1, I1, w1⟩
  refine wpAny_passesOwn hp (thn (hc pins s1 σ1 H1 _ I1 (turn n σ1 H1 w1)) fun b s2 ⟨H2, I2, q2⟩ => ?_)
  cases b with
  | true =>
    obtain ⟨N, hN, q2⟩ := q2
    rw [if_pos rfl]
    refine wpAny_passesOwn hp (thn (hb pins s2 σ1 H2 _ I2 q2) fun f s3 q3 => ?_)
    cases f with
    | next =>
      obtain ⟨σ3, H3, I3, n3⟩ := q3
      obtain ⟨m', hm, w3⟩ := hN σ3 H3 n3
      exact ⟨m', hm, σ3, H3, I3, w3⟩
    | cont =>
      obtain ⟨σ3, H3, I3, n3⟩ := q3
      obtain ⟨m', hm, w3⟩ := hN σ3 H3 n3
      exact ⟨m', hm, σ3, H3, I3, w3⟩
    | brk => exact q3
    | ret v => exact q3
  | false =>
    rw [if_neg Bool.false_ne_true]
    exact wpAny_execs_nil ⟨σ1, H2, I2, q2⟩
end
structure It where
  go : Nat → Hp → Prop
  yld : Nat → Hp → V → Hp → Prop
  stop : Nat → Hp → Prop
def FpOk (X : Cx) (pins : List (Addr × Obj)) (H : Hp) (b : Addr) : Prop :=
  H b = none ∧ b ≠ X.env.locals ∧ b ∉ X.fs ∧ (b ∈ X.ex ∨ X.s₀.heap.objs.size ≤ b) ∧ (∀ x c, X.env.cells.lookup x = some c → c ≠ b) ∧ ∀ p ∈ X.pn ++ pins, p.1 ≠ b
theorem Inv.fpOk {X : Cx} {pins : List (Addr × Obj)} {σ : St} {H H' : Hp} {s : Shared} {b : Addr} (I : Inv X pins σ H s) (hb : s.heap.objs.size ≤ b) (hn : H' b = none) : FpOk X pins H' b := by
  refine ⟨hn, Nat.ne_of_gt (Nat.lt_of_lt_of_le I.lt hb), I.nofs hb, .inr (Nat.le_trans I.sz hb), fun x c e z => ?_, fun p hp z => ?_⟩
  · obtain ⟨v, q⟩ := I.cell x c e
    exact absurd (Nat.lt_of_lt_of_le q.lt (by rw [z]; exact hb)) (Nat.lt_irrefl _)
  · exact absurd (Nat.lt_of_lt_of_le (Heap.lt_size (I.pin p hp).1) (by rw [z]; exact hb)) (Nat.lt_irrefl _)
structure Turn (P : Program) (w : World) (K : PySem.W.Frag) (tg : Expr) (J : It) (fp : List Addr) (it : Addr) (tn : Nat → Heap → Prop) : Prop where
  mem : it ∈ fp
  obj : ∀ i h, tn i h → ∀ b ∈ fp, ∃ o, h.get? b = some o ∧ ∀ v, o.data ≠ .cell v
  keep : ∀ i h h', tn i h → (∀ b ∈ fp, ∀ o, h.get? b = some o → h'.get? b = some o) → tn i h'
  item : ∀ (X : Cx), X.prog = P → X.w = w → X.K = K → X.calm = true → ∀ (i : Nat) (pins : List (Addr × Obj)) (s : Shared) (σ : St) (H : Hp) (E : Value → Shared → Prop), Inv X pins σ H s → (∀ b ∈ fp, FpOk X pins H b) → tn i s.heap → J.go i H →
    wpAny (model P w) X.A (pyNext (.ref it)) (fun r s1 => ∃ u, r = some u ∧
      wpAny (model P w) X.A (letOwnedTupleGo tg (.ref it) u) (fun _ s2 => ∃ x H', Inv X pins σ H' s2 ∧ RelV x u ∧ J.yld i H x H' ∧ tn (i + 1) s2.heap ∧ ∀ b ∈ fp, H' b = none) E s1) E s
  done : ∀ (X : Cx), X.prog = P → X.w = w → X.K = K → X.calm = true → ∀ (i : Nat) (pins : List (Addr × Obj)) (s : Shared) (σ : St) (H : Hp) (E : Value → Shared → Prop), Inv X pins σ H s → (∀ b ∈ fp, FpOk X pins H b) → tn i s.heap → J.stop i H →
    wpAny (model P w) X.A (pyNext (.ref it)) (fun r s1 => r = none ∧ Inv X pins σ H s1) E s
  self : ∀ (A : Around) (i : Nat) (s : Shared) (Q : Value → Shared → Prop) (E : Value → Shared → Prop), tn i s.heap → Q (.ref it) s → wpAny (model P w) A (pyIter (.ref it)) Q E s
abbrev TI := St → Hp → (It → Hp → Prop) → Prop
def PIE (X : Cx) (pins : List (Addr × Obj)) (σ : St) (tg : Expr) (R : It → Hp → Prop) (itv : Value) (s2 : Shared) : Prop :=
  ∃ (it : Addr) (fp : List Addr) (tn : Nat → Heap → Prop) (J : It) (H' : Hp), itv = .ref it ∧ Inv X pins σ H' s2 ∧ Turn X.prog X.w X.K tg J fp it tn ∧ tn 0 s2.heap ∧ (∀ b ∈ fp, FpOk X pins H' b) ∧ R J H'
def PI (X : Cx) (tg iter : Expr) (wi : TI) : Prop :=
  ∀ (pins : List (Addr × Obj)) (s : Shared) (σ : St) (H : Hp) (R : It → Hp → Prop), Inv X pins σ H s → wi σ H R →
    wpAny (model X.prog X.w) X.A (eval iter X.env) (fun v s1 => wpAny (model X.prog X.w) X.A (pyIter v) (PIE X pins σ tg R) X.xe s1) X.xe s
theorem go_of {M : Model} {A : Around} {E : Value → Shared → Prop} {s : Shared} {tg : Expr} {it : Addr} {u : Value} {o : Obj} {n : String} {vs : Array Value} {Q : Unit → Shared → Prop} (ho : s.heap.get? it = some o) (hc : o.cls = .type n) (hd : o.data = .fields vs)
    (hn : ["enumerate", "zip", "dict_itemiterator", "dict_reverseitemiterator", "odict_iterator", "itertools.zip_longest", "itertools.pairwise"].contains n = false) (hQ : Q () s) : wpAny M A (letOwnedTupleGo tg (.ref it) u) Q E s := by
  unfold letOwnedTupleGo
  cases tg <;> first
    | exact wpAny_pure hQ
    | (cases u <;> first
        | exact wpAny_pure hQ
        | (refine wpAny_bind (wpAny_load ho ?_)
           rw [hc, hd]
           show wpAny M A (if (["enumerate", "zip", "dict_itemiterator", "dict_reverseitemiterator", "odict_iterator", "itertools.zip_longest", "itertools.pairwise"].contains n && vs[0]? == some (rawInt _)) = true then _ else _) Q E s
           rw [if_neg (by intro h; rw [hn, Bool.false_and] at h; cases h)]
           exact wpAny_pure hQ))
def Itl (K : PySem.W.Frag) (a : Addr) : It :=
  ⟨fun i H => ∃ xs x, SqL K H a xs ∧ xs[i]? = some x, fun i H x H' => H' = H ∧ ∀ xs, SqL K H a xs → xs[i]? = some x, fun i H => ∃ xs, SqL K H a xs ∧ xs.length ≤ i⟩
def Itr (lo : Int) (n : Nat) : It := ⟨fun i _ => i < n, fun i H x H' => H' = H ∧ x = .int (lo + i), fun i _ => n ≤ i⟩
theorem turn_list {P : Program} {w : World} {K : PySem.W.Frag} {tg : Expr} (a it : Addr) : Turn P w K tg (Itl K a) [it] it (fun i h => h.IsListIter it a i) where
  mem := by simp
  obj := fun i h st b hb => by
    have e : b = it := by simpa using hb
    subst e
    obtain ⟨o, e, c, d⟩ := st
    exact ⟨o, e, fun v z => by rw [d] at z; cases z⟩
  keep := fun i h h' st k => st.at fun o e => k it (by simp) o e
  item := by
    intro X hP hw hK hc i pins s σ H E I hf st hg
    subst hP hw hK
    obtain ⟨xs, x, hq, hx⟩ := hg
    obtain ⟨its, rv, p, hz⟩ := I.list hq
    obtain ⟨u, hu, ru⟩ := rv.get hx
    obtain ⟨f0, f1, f2, f3, f4, f5⟩ := hf it (by simp)
    refine wpAny_pyNext_list_item st p.isList (x := u) (by simpa using hu) fun h' st' sb => ?_
    have I1 : Inv X pins σ H { s with heap := h' } := I.turned (t' := s.toks) (fun b o hb e => (sb.2 b hb).trans e) f0 f1 f3 f4 f5
    obtain ⟨o, e, c, d⟩ := id st'
    exact ⟨u, rfl, go_of (s := { s with heap := h' }) e c d (by decide) ⟨x, H, I1, ru, ⟨rfl, fun ys hy => by rw [I.list_inj hy hq]; exact hx⟩, st', fun b hb => (hf b hb).1⟩⟩
  done := by
    intro X hP hw hK hc i pins s σ H E I hf st hg
    subst hP hw hK
    obtain ⟨xs, hq, hx⟩ := hg
    obtain ⟨its, rv, p, hz⟩ := I.list hq
    obtain ⟨f0, f1, f2, f3, f4, f5⟩ := hf it (by simp)
    have hl := rv.length
    exact wpAny_pyNext_list_end (I.ok.hd hc) st p.isList (by simp; omega) fun h' eb => ⟨rfl, I.turned (t' := s.toks) (fun b o hb e => eb b o hb e) f0 f1 f3 f4 f5⟩
  self := fun _ _ _ _ _ st h => wpAny_pyIter_listiter st h
theorem turn_range {P : Program} {w : World} {K : PySem.W.Frag} {tg : Expr} (it : Addr) (lo : Int) (n : Nat) : Turn P w K tg (Itr lo n) [it] it (fun i h => IsRangeIter h it (lo + (i : Nat) * 1) ((n : Int) - (i : Nat)) 1) where
  mem := by simp
  obj := fun i h st b hb => by
    have e : b = it := by simpa using hb
    subst e
    exact ⟨_, st, fun v z => by
      have z' : Data.fields _ = Data.cell v := z
      cases z'⟩
  keep := fun i h h' st k => k it (by simp) _ st
  item := by
    intro X hP hw hK hc i pins s σ H E I hf st hg
    subst hP hw hK
    obtain ⟨f0, f1, f2, f3, f4, f5⟩ := hf it (by simp)
    have W := Walks.range (prog := X.prog) (w := X.w) (I.ok.hd hc) it lo 1 n
    refine W.item i s _ _ hg st fun v h' tk hv st' kk => ?_
    obtain ⟨t, rfl⟩ := hv
    have I1 : Inv X pins σ H { s with heap := h', toks := tk } := I.turned (fun b o hb e => kk b o (by simpa using hb) e) f0 f1 f3 f4 f5
    refine ⟨_, rfl, go_of (s := { s with heap := h', toks := tk }) (n := "range_iterator") st' rfl rfl (by decide) ⟨.int (lo + i), H, I1, ⟨t, ?_⟩, ⟨rfl, rfl⟩, st', fun b hb => (hf b hb).1⟩⟩
    rw [Int.mul_one]
  done := by
    intro X hP hw hK hc i pins s σ H E I hf st hg
    subst hP hw hK
    obtain ⟨f0, f1, f2, f3, f4, f5⟩ := hf it (by simp)
    exact wpAny_pyNext_range_end (I.ok.hd hc) st (by have : n ≤ i := hg; omega) fun h' eb => ⟨rfl, I.turned (t' := s.toks) (fun b o hb e => eb b o hb e) f0 f1 f3 f4 f5⟩
  self := fun _ _ _ _ _ st h => wpAny_pyIter_rangeiter st h
end L2
namespace L2
open PySem PySem.Spec PyProof.Rows
section
variable {X : Cx} {tg : Expr}
def iList (K : PySem.W.Frag) (tl : TE) : TI := fun σ H R => tl σ H fun x H1 => ∃ a, x = .ref a ∧ (∃ xs, SqL K H1 a xs) ∧ R (Itl K a) H1
theorem pi_list {l : Expr} {tl : TE} (hl : PE X l tl) : PI X tg l (iList X.K tl) := by
  intro pins s σ H R I h
  refine thn (hl pins s σ H _ I h) fun v s1 ⟨x, H1, I1, r1, q1⟩ => ?_
  obtain ⟨a, e, ⟨xs, hq⟩, q⟩ := q1
  subst e
  cases r1
  obtain ⟨its, rv, p, hz⟩ := I1.list hq
  refine wpAny_pyIter_list p.isList ?_
  refine ⟨s1.heap.objs.size, [s1.heap.objs.size], _, _, H1, rfl, I1.kept (t' := s1.toks) fun b o e => Heap.get?_push_of_some _ e, turn_list a _, ⟨_, Heap.get?_push_size _ rfl, rfl, rfl⟩, fun b hb => ?_, q⟩
  have e : b = s1.heap.objs.size := by simpa using hb
  subst e
  exact I1.fpOk (Nat.le_refl _) (I1.hok.fresh (Nat.le_refl _))
theorem range_it {pins : List (Addr × Obj)} {σ : St} {H : Hp} {s : Shared} {R : It → Hp → Prop} {E : Value → Shared → Prop} {lo hi : Int} {t u v : Tok} {tk : Nat} (I : Inv X pins σ H s) (h1 : -(2 ^ 62) ≤ lo) (h2 : lo < 2 ^ 62) (h3 : -(2 ^ 62) ≤ hi) (h4 : hi < 2 ^ 62)
    (q : R (Itr lo (hi - lo).toNat) H) : wpAny (model X.prog X.w) X.A (pyIter (.ref s.heap.objs.size)) (PIE X pins σ tg R) E { s with heap := s.heap.push { cls := .type "range", data := .fields #[.int lo t, .int hi u, .int 1 v] }, toks := tk } := by
  refine wpAny_pyIter_range (IsRange.new ..) (small_one h1 h2 h3 h4) ?_
  have I1 : Inv X pins σ H { s with heap := s.heap.push { cls := .type "range", data := .fields #[.int lo t, .int hi u, .int 1 v] }, toks := tk } := I.kept fun b o e => Heap.get?_push_of_some _ e
  refine ⟨(s.heap.push { cls := .type "range", data := .fields #[.int lo t, .int hi u, .int 1 v] }).objs.size, [(s.heap.push { cls := .type "range", data := .fields #[.int lo t, .int hi u, .int 1 v] }).objs.size], _, _, H, rfl,
    I1.kept (t' := tk) fun b o e => Heap.get?_push_of_some _ e, turn_range _ lo (hi - lo).toNat, ?_, fun b hb => ?_, q⟩
  · have e1 : lo + ((0 : Nat) : Int) * 1 = lo := by simp
    have e2 : (((hi - lo).toNat : Nat) : Int) - ((0 : Nat) : Int) = Builtin.Range.rangeSize lo hi 1 := by rw [rangeSize_one]; split <;> omega
    show IsRangeIter _ _ (lo + ((0 : Nat) : Int) * 1) ((((hi - lo).toNat : Nat) : Int) - ((0 : Nat) : Int)) 1
    rw [e1, e2]
    exact Heap.get?_push_size _ rfl
  · have e : b = (s.heap.push { cls := .type "range", data := .fields #[.int lo t, .int hi u, .int 1 v] }).objs.size := by simpa using hb
    subst e
    exact I1.fpOk (Nat.le_refl _) (I1.hok.fresh (Nat.le_refl _))
def iRng1 (ta : TA) : TI := fun σ H R => ta σ H fun vs H1 => ∃ j : Int, vs = [.int j] ∧ -(2 ^ 62) ≤ j ∧ j < 2 ^ 62 ∧ R (Itr 0 j.toNat) H1
theorem pi_range1 {a : Expr} {ta : TA} {p pos : Pos} (hg : Gl X "range") (hm : X.mg "range" = none) (ha : PA X [a] ta) (hs : starEach [a] X.env = [(false, eval a X.env)] := by rfl) : PI X tg (.Call (.Name "range" p) [a] [] pos) (iRng1 ta) := by
  intro pins s σ H R I h
  refine Call_ (ld_blt I hg hm boot_range (PyProof.Rows.callWith_type1 (thn (ha pos pins s σ H _ I h) fun us s1 ⟨vs, H1, I1, r1, q1⟩ => ?_) hs rfl))
  obtain ⟨j, e, q1, q2, q⟩ := q1
  subst e
  cases r1 with
  | cons r rr =>
    cases rr
    obtain ⟨t, rfl⟩ := r
    exact call_range_1 (range_it I1 (by omega) (by omega) q1 q2 (by simpa using q))
def tFor (wi : TI) (g : TG) (tb : TS) : TS := fun D σ H => wi σ H fun J H1 => ∃ W : Nat → Nat → St → Hp → Prop, (∃ m, W 0 m σ H1) ∧ ∀ i m σ H, W i m σ H →
  (J.stop i H ∧ D.nx σ H) ∨ (J.go i H ∧ ∃ N : St → Hp → Prop, (∀ σ' H', N σ' H' → ∃ m', m' < m ∧ W (i + 1) m' σ' H') ∧ ∀ x H', J.yld i H x H' → g x σ H' fun σ2 H2 => tb { D with nx := N, ct := N, bk := D.nx } σ2 H2)
def pinsAt (fp : List Addr) (h : Heap) : List (Addr × Obj) := fp.filterMap fun b => (h.get? b).map fun o => (b, o)
theorem mem_pinsAt {fp : List Addr} {h : Heap} {b : Addr} {o : Obj} (hb : b ∈ fp) (e : h.get? b = some o) : (b, o) ∈ pinsAt fp h := List.mem_filterMap.mpr ⟨b, hb, by rw [e]; rfl⟩
theorem of_pinsAt {fp : List Addr} {h : Heap} {p : Addr × Obj} (hp : p ∈ pinsAt fp h) : p.1 ∈ fp ∧ h.get? p.1 = some p.2 := by
  obtain ⟨b, hb, e⟩ := List.mem_filterMap.mp hp
  cases q : h.get? b with
  | none => rw [q] at e; cases e
  | some o =>
    rw [q] at e
    have e' : (b, o) = p := Option.some.inj e
    subst e'
    exact ⟨hb, q⟩
theorem Inv.pinned {pins : List (Addr × Obj)} {σ : St} {H : Hp} {s : Shared} {fp : List Addr} (I : Inv X pins σ H s) (hf : ∀ b ∈ fp, FpOk X pins H b) (ho : ∀ b ∈ fp, ∃ o, s.heap.get? b = some o ∧ ∀ v, o.data ≠ .cell v) : Inv X (pins ++ pinsAt fp s.heap) σ H s :=
  I.pins_of fun p hp => (List.mem_append.mp hp).elim (fun z => I.pin p (List.mem_append_right _ z)) fun z => by
    obtain ⟨hb, e⟩ := of_pinsAt z
    obtain ⟨f0, f1, f2, _⟩ := hf p.1 hb
    obtain ⟨o, e', d⟩ := ho p.1 hb
    rw [e] at e'; cases e'
    exact ⟨e, f0, f1, f2, d⟩
theorem Inv.unpinned {pins pl : List (Addr × Obj)} {σ : St} {H : Hp} {s : Shared} (I : Inv X (pins ++ pl) σ H s) : Inv X pins σ H s := I.pins_of fun p hp => I.pin p (List.mem_append_right _ (List.mem_append_left _ hp))
theorem ps_for {iter : Expr} {body : List Stmt} {wi : TI} {g : TG} {tb : TS} {pos : Pos} (hp : PassesOwn (model X.prog X.w) X.A X.env X.xe) (hc : X.calm = true) (hi : PI X tg iter wi) (hg : PG X tg g) (hb : PSs X body tb)
    (hs : ∀ x, foldedSetIterable iter X.env x = pure x := by intro _; rfl) : PS X (.For tg iter body [] pos) (tFor wi g tb) := by
  intro pins s σ H D I h
  refine wpAny_For (thn (hi pins s σ H _ I h) fun v s1 h1 => thn h1 fun itv s2 h2 => ?_) hs
  obtain ⟨it, fp, tn, J, H2, e, I2, T, st2, f2, W, ⟨m0, w0⟩, turn⟩ := h2
  subst e
  have stat : ∀ {H' : Hp}, (∀ b ∈ fp, H' b = none) → ∀ b ∈ fp, FpOk X pins H' b := fun hn b hb => ⟨hn b hb, (f2 b hb).2⟩
  refine codeAny_forLoop_any (fun n s' => ∃ i σ' H', Inv X pins σ' H' s' ∧ tn i s'.heap ∧ (∀ b ∈ fp, H' b = none) ∧ W i n σ' H') ?_ m0 ⟨0, σ, H2, I2, st2, fun b hb => (f2 b hb).1, w0⟩
  rintro n s3 ⟨i, σ3, H3, I3, st3, fr3, w3⟩
  rcases turn i n σ3 H3 w3 with ⟨stop, qn⟩ | ⟨go, N, hN, step⟩
  · refine wpAny_passesOwn hp (thn (T.done X rfl rfl rfl hc i pins s3 σ3 H3 X.xe I3 (stat fr3) st3 stop) fun r s4 ⟨hr, I4⟩ => ?_)
    subst hr
    exact wpAny_execs_nil ⟨σ3, H3, I4, qn⟩
  · refine wpAny_passesOwn hp (thn (T.item X rfl rfl rfl hc i pins s3 σ3 H3 X.xe I3 (stat fr3) st3 go) fun r s4 ⟨u, hr, h4⟩ => ?_)
    subst hr
    refine wpAny_passesOwn hp (thn h4 fun _ s5 ⟨x, H5, I5, r5, y5, st5, fr5⟩ => ?_)
    have I5' := I5.pinned (stat fr5) (T.obj _ _ st5)
    refine wpAny_passesOwn hp (thn (hg _ s5 σ3 H5 x u _ I5' r5 (step x H5 y5)) fun _ s6 ⟨σ6, H6, I6, q6⟩ => ?_)
    refine wpAny_passesOwn hp (thn (hb _ s6 σ6 H6 _ I6 q6) fun f s7 q7 => ?_)
    have again : ∀ {σ7 : St} {H7 : Hp}, Inv X (pins ++ pinsAt fp s5.heap) σ7 H7 s7 → N σ7 H7 → ∃ m, m < n ∧ ∃ i σ' H', Inv X pins σ' H' s7 ∧ tn i s7.heap ∧ (∀ b ∈ fp, H' b = none) ∧ W i m σ' H' := fun {σ7 H7} I7 n7 => by
      obtain ⟨m', hm, w7⟩ := hN σ7 H7 n7
      refine ⟨m', hm, i + 1, σ7, H7, I7.unpinned, T.keep _ _ _ st5 fun b hb o e => (I7.pin (b, o) (List.mem_append_right _ (List.mem_append_right _ (mem_pinsAt hb e)))).1, fun b hb => ?_, w7⟩
      obtain ⟨o, e, d⟩ := T.obj _ _ st5 b hb
      exact (I7.pin (b, o) (List.mem_append_right _ (List.mem_append_right _ (mem_pinsAt hb e)))).2.1
    cases f with
    | next => obtain ⟨σ7, H7, I7, n7⟩ := q7; exact again I7 n7
    | cont => obtain ⟨σ7, H7, I7, n7⟩ := q7; exact again I7 n7
    | brk => obtain ⟨σ7, H7, I7, q7⟩ := q7; exact ⟨σ7, H7, I7.unpinned, q7⟩
    | ret v => obtain ⟨x7, σ7, H7, I7, r7, q7⟩ := q7; exact ⟨x7, σ7, H7, I7.unpinned, r7, q7⟩
end
theorem for_list {K : PySem.W.Frag} {a : Addr} {xs : List V} {g : TG} {tb : TS} {D : Ends} {σ : St} {H : Hp} (Pv : Nat → St → Hp → Prop) (h0 : Pv 0 σ H) (hl : ∀ i σ H, i ≤ xs.length → Pv i σ H → SqL K H a xs)
    (hs : ∀ i x σ H, xs[i]? = some x → Pv i σ H → g x σ H fun σ2 H2 => tb { D with nx := Pv (i + 1), ct := Pv (i + 1), bk := D.nx } σ2 H2) (hd : ∀ σ H, Pv xs.length σ H → D.nx σ H) :
    ∃ W : Nat → Nat → St → Hp → Prop, (∃ m, W 0 m σ H) ∧ ∀ i m σ H, W i m σ H →
      ((Itl K a).stop i H ∧ D.nx σ H) ∨ ((Itl K a).go i H ∧ ∃ N : St → Hp → Prop, (∀ σ' H', N σ' H' → ∃ m', m' < m ∧ W (i + 1) m' σ' H') ∧ ∀ x H', (Itl K a).yld i H x H' → g x σ H' fun σ2 H2 => tb { D with nx := N, ct := N, bk := D.nx } σ2 H2) := by
  refine ⟨fun i m σ H => m = xs.length - i ∧ i ≤ xs.length ∧ Pv i σ H, ⟨xs.length, by simp, Nat.zero_le _, h0⟩, ?_⟩
  rintro i m σ H ⟨rfl, hi, p⟩
  have q := hl i σ H hi p
  by_cases hlt : i < xs.length
  · refine .inr ⟨⟨xs, xs[i], q, by simp [hlt]⟩, Pv (i + 1), fun σ' H' p' => ⟨xs.length - (i + 1), by omega, rfl, hlt, p'⟩, fun x H' y => ?_⟩
    obtain ⟨e, y⟩ := y
    subst e
    exact hs i x σ _ (y xs q) p
  · have e : i = xs.length := by omega
    subst e
    exact .inl ⟨⟨xs, q, Nat.le_refl _⟩, hd σ H p⟩
theorem for_range {lo : Int} {n : Nat} {g : TG} {tb : TS} {D : Ends} {σ : St} {H : Hp} (Pv : Nat → St → Hp → Prop) (h0 : Pv 0 σ H)
    (hs : ∀ i σ H, i < n → Pv i σ H → g (.int (lo + i)) σ H fun σ2 H2 => tb { D with nx := Pv (i + 1), ct := Pv (i + 1), bk := D.nx } σ2 H2) (hd : ∀ σ H, Pv n σ H → D.nx σ H) :
    ∃ W : Nat → Nat → St → Hp → Prop, (∃ m, W 0 m σ H) ∧ ∀ i m σ H, W i m σ H →
      ((Itr lo n).stop i H ∧ D.nx σ H) ∨ ((Itr lo n).go i H ∧ ∃ N : St → Hp → Prop, (∀ σ' H', N σ' H' → ∃ m', m' < m ∧ W (i + 1) m' σ' H') ∧ ∀ x H', (Itr lo n).yld i H x H' → g x σ H' fun σ2 H2 => tb { D with nx := N, ct := N, bk := D.nx } σ2 H2) := by
  refine ⟨fun i m σ H => m = n - i ∧ i ≤ n ∧ Pv i σ H, ⟨n, by simp, Nat.zero_le _, h0⟩, ?_⟩
  rintro i m σ H ⟨rfl, hi, p⟩
  by_cases hlt : i < n
  · refine .inr ⟨hlt, Pv (i + 1), fun σ' H' p' => ⟨n - (i + 1), by omega, rfl, hlt, p'⟩, fun x H' y => ?_⟩
    obtain ⟨e, y⟩ := y
    subst e y
    exact hs i σ _ hlt p
  · have e : i = n := by omega
    subst e
    exact .inl ⟨Nat.le_refl _, hd σ H p⟩
end L2
namespace L2
open PySem PySem.Spec PyProof.Rows
abbrev R2 := V → V → Hp → VK → Prop
def OpR (X : Cx) (f : Value → Value → Sem Value) (r : R2) : Prop :=
  ∀ (pins : List (Addr × Obj)) (s : Shared) (σ : St) (H : Hp) (x y : V) (v u : Value) (Q : VK), Inv X pins σ H s → RelV x v → RelV y u → r x y H Q →
    wpAny (model X.prog X.w) X.A (f v u) (EP X pins σ Q) X.xe s
def UnR (X : Cx) (f : Value → Sem Value) (r : V → Hp → VK → Prop) : Prop :=
  ∀ (pins : List (Addr × Obj)) (s : Shared) (σ : St) (H : Hp) (x : V) (v : Value) (Q : VK), Inv X pins σ H s → RelV x v → r x H Q →
    wpAny (model X.prog X.w) X.A (f v) (EP X pins σ Q) X.xe s
def CallR (X : Cx) (f : Value) (r : List V → Hp → VK → Prop) : Prop :=
  ∀ (pins : List (Addr × Obj)) (s : Shared) (σ : St) (H : Hp) (xs : List V) (us : List Value) (Q : VK), Inv X pins σ H s → Vals xs us → r xs H Q →
    wpAny (model X.prog X.w) X.A (call f us) (EP X pins σ Q) X.xe s
def TruR (X : Cx) (r : V → Hp → (Bool → Hp → Prop) → Prop) : Prop :=
  ∀ (pins : List (Addr × Obj)) (s : Shared) (σ : St) (H : Hp) (x : V) (v : Value) (Q : Bool → Hp → Prop), Inv X pins σ H s → RelV x v → r x H Q →
    wpAny (model X.prog X.w) X.A (truthy v) (TP X pins σ Q) X.xe s
def tOp (r : R2) (ta tb : TE) : TE := fun σ H Q => ta σ H fun x H1 => tb σ H1 fun y H2 => r x y H2 Q
def tUn (r : V → Hp → VK → Prop) (ta : TE) : TE := fun σ H Q => ta σ H fun x H1 => r x H1 Q
def rI (C : Int → Int → Prop) (g : Int → Int → V) : R2 := fun x y H Q => ∃ i j, x = .int i ∧ y = .int j ∧ C i j ∧ Q (g i j) H
def rI0 (g : Int → Int → V) : R2 := fun x y H Q => ∃ i j, x = .int i ∧ y = .int j ∧ Q (g i j) H
def rU (g : Int → V) : V → Hp → VK → Prop := fun x H Q => ∃ i, x = .int i ∧ Q (g i) H
section
variable {X : Cx} {a b c : Expr} {ta tb tc : TE} {pos : Pos}
theorem binT (ha : PE X a ta) (hb : PE X b tb) {pins : List (Addr × Obj)} {s : Shared} {σ : St} {H : Hp} {R : V → V → Hp → Prop} (I : Inv X pins σ H s)
    (h : ta σ H fun x H1 => tb σ H1 fun y H2 => R x y H2) {Q : Value → Shared → Prop} {f : Value → Value → Sem Value}
    (hf : ∀ v u s2 x y H2, Inv X pins σ H2 s2 → RelV x v → RelV y u → R x y H2 → wpAny (model X.prog X.w) X.A (f v u) Q X.xe s2) :
    wpAny (model X.prog X.w) X.A (eval a X.env) (fun v s₁ => wpAny (model X.prog X.w) X.A (eval b X.env) (fun u s₂ => wpAny (model X.prog X.w) X.A (f v u) Q X.xe s₂) X.xe s₁) X.xe s := by
  refine thn (ha pins s σ H _ I h) fun v s1 ⟨x, H1, I1, r1, q1⟩ => ?_
  refine thn (hb pins s1 σ H1 _ I1 q1) fun u s2 ⟨y, H2, I2, r2, q2⟩ => ?_
  exact hf v u s2 x y H2 I2 r1 r2 q2
theorem pe_op {op : Operator} {r : R2} (ho : OpR X (binaryOp op) r) (ha : PE X a ta) (hb : PE X b tb) : PE X (.BinOp a op b pos) (tOp r ta tb) := by
  intro pins s σ H Q I h
  exact wpAny_BinOp (binT ha hb I h fun v u s2 x y H2 I2 rx ry q => ho pins s2 σ H2 x y v u Q I2 rx ry q)
theorem pe_un {op : UnaryOp} {r : V → Hp → VK → Prop} (ho : UnR X (unaryOp op) r) (ha : PE X a ta) : PE X (.UnaryOp op a pos) (tUn r ta) := by
  intro pins s σ H Q I h
  exact UnaryOp_ (thn (ha pins s σ H _ I h) fun v s1 ⟨x, H1, I1, r1, q1⟩ => ho pins s1 σ H1 x v Q I1 r1 q1)
theorem opI {f : Value → Value → Sem Value} {C : Int → Int → Prop} {g : Int → Int → Int}
    (rule : ∀ (i j : Int) (t u : Tok) (s : Shared) (Q : Value → Shared → Prop) (E : Value → Shared → Prop), C i j → Q (.int (g i j) s.toks) { s with toks := s.toks + 1 } → wpAny (model X.prog X.w) X.A (f (.int i t) (.int j u)) Q E s) :
    OpR X f (rI C fun i j => .int (g i j)) := by
  intro pins s σ H x y v u Q I rx ry h
  obtain ⟨i, j, rfl, rfl, hc, q⟩ := h
  obtain ⟨t, rfl⟩ := rx
  obtain ⟨t', rfl⟩ := ry
  exact rule i j t t' s _ _ hc ⟨.int (g i j), H, I.tok _, ⟨_, rfl⟩, q⟩
theorem opI0 {f : Value → Value → Sem Value} {g : Int → Int → Int}
    (rule : ∀ (i j : Int) (t u : Tok) (s : Shared) (Q : Value → Shared → Prop) (E : Value → Shared → Prop), Q (.int (g i j) s.toks) { s with toks := s.toks + 1 } → wpAny (model X.prog X.w) X.A (f (.int i t) (.int j u)) Q E s) :
    OpR X f (rI0 fun i j => .int (g i j)) := by
  intro pins s σ H x y v u Q I rx ry h
  obtain ⟨i, j, rfl, rfl, q⟩ := h
  obtain ⟨t, rfl⟩ := rx
  obtain ⟨t', rfl⟩ := ry
  exact rule i j t t' s _ _ ⟨.int (g i j), H, I.tok _, ⟨_, rfl⟩, q⟩
theorem opB0 {f : Value → Value → Sem Value} {g : Int → Int → Bool}
    (rule : ∀ (i j : Int) (t u : Tok) (s : Shared) (Q : Value → Shared → Prop) (E : Value → Shared → Prop), Q (.bool (g i j)) s → wpAny (model X.prog X.w) X.A (f (.int i t) (.int j u)) Q E s) :
    OpR X f (rI0 fun i j => .bl (g i j)) := by
  intro pins s σ H x y v u Q I rx ry h
  obtain ⟨i, j, rfl, rfl, q⟩ := h
  obtain ⟨t, rfl⟩ := rx
  obtain ⟨t', rfl⟩ := ry
  exact rule i j t t' s _ _ ⟨.bl (g i j), H, I, rfl, q⟩
def CDiv (i j : Int) : Prop := 0 < j ∧ j < 1073741824
def CPow (i j : Int) : Prop := 0 ≤ j ∧ j ≤ 1000000 ∧ i.natAbs < 2 ^ 64
def CMul (i j : Int) : Prop := (-(2 ^ 64) < i ∧ i < 2 ^ 64) ∨ (-(2 ^ 64) < j ∧ j < 2 ^ 64)
theorem CMul.ok {i j : Int} (h : CMul i j) : IntMulOk i j := by
  rcases h with ⟨h1, h2⟩ | ⟨h1, h2⟩
  · exact .of_left (intBits_le_64 h1 h2)
  · exact .of_right (intBits_le_64 h1 h2)
theorem op_add : OpR X (binaryOp .Add) (rI0 fun i j => .int (i + j)) := opI0 fun _ _ _ _ _ _ _ q => add_int q
theorem op_sub : OpR X (binaryOp .Sub) (rI0 fun i j => .int (i - j)) := opI0 fun _ _ _ _ _ _ _ q => sub_int q
theorem op_mul : OpR X (binaryOp .Mult) (rI CMul fun i j => .int (i * j)) := opI fun _ _ _ _ _ _ _ hc q => mul_int q hc.ok
theorem op_fdiv : OpR X (binaryOp .FloorDiv) (rI CDiv fun i j => .int (i / j)) := opI fun i j _ _ _ _ _ hc q => by
  have h1 : (0 : Int) < j := hc.1
  have h2 : j < 1073741824 := hc.2
  exact floordiv_int (by omega) (by rw [Int.fdiv_eq_ediv_of_nonneg i (by omega)]; exact q) (.inl (PyProof.noPylong_small (by omega)))
theorem op_mod : OpR X (binaryOp .Mod) (rI (fun _ j => 0 < j) fun i j => .int (i % j)) := opI fun i j _ _ _ _ _ hc q => by
  have h1 : (0 : Int) < j := hc
  exact mod_int' (by omega) (by rw [Int.fmod_eq_emod_of_nonneg i (by omega)]; exact q)
theorem op_pow : OpR X (binaryOp .Pow) (rI CPow fun i j => .int (i ^ j.toNat)) := opI fun _ _ _ _ _ _ _ hc q => pow_int_small hc.1 hc.2.1 hc.2.2 q
theorem unI {f : Value → Sem Value} {g : Int → Int}
    (rule : ∀ (i : Int) (t : Tok) (s : Shared) (Q : Value → Shared → Prop) (E : Value → Shared → Prop), Q (.int (g i) s.toks) { s with toks := s.toks + 1 } → wpAny (model X.prog X.w) X.A (f (.int i t)) Q E s) :
    UnR X f (rU fun i => .int (g i)) := by
  intro pins s σ H x v Q I rx h
  obtain ⟨i, rfl, q⟩ := h
  obtain ⟨t, rfl⟩ := rx
  exact rule i t s _ _ ⟨.int (g i), H, I.tok _, ⟨_, rfl⟩, q⟩
theorem un_neg : UnR X (unaryOp .USub) (rU fun i => .int (-i)) := unI fun _ _ _ _ _ q => neg_int q
end
def scal : V → V → Bool
  | .non, .non => true | .non, .int _ => true | .int _, .non => true | .non, .bl _ => true | .bl _, .non => true | .non, .str _ => true | .str _, .non => true
  | .int _, .int _ => true | .bl _, .bl _ => true | .str _, .str _ => true | .byt _, .byt _ => true
  | .int _, .str _ => true | .str _, .int _ => true | .bl _, .str _ => true | .str _, .bl _ => true
  | _, _ => false
def rEq : R2 := fun x y H Q => scal x y = true ∧ Q (.bl (decide (x = y))) H
def rNe : R2 := fun x y H Q => scal x y = true ∧ Q (.bl (!decide (x = y))) H
theorem dec_int {i j : Int} : decide (V.int i = V.int j) = (i == j) := by
  rw [Bool.eq_iff_iff]
  simp
theorem dec_bl {i j : Bool} : decide (V.bl i = V.bl j) = (i == j) := by
  rw [Bool.eq_iff_iff]
  simp
theorem dec_str {i j : Str} : decide (V.str i = V.str j) = (i == j) := by
  rw [Bool.eq_iff_iff]
  simp
theorem dec_byt {i j : Array UInt8} : decide (V.byt i = V.byt j) = (i.toList == j.toList) := by
  rw [Bool.eq_iff_iff]
  cases i
  cases j
  simp
section
variable {X : Cx} {a b c : Expr} {ta tb tc : TE} {pos : Pos}
theorem fin_bl {pins : List (Addr × Obj)} {σ : St} {H : Hp} {s : Shared} {Q : VK} {k k' : Bool} (I : Inv X pins σ H s) (q : Q (.bl k) H) (e : k = k') : EP X pins σ Q (.bool k') s := by
  subst e
  exact ⟨.bl k, H, I, rfl, q⟩
theorem op_eq : OpR X (compareOp .Eq) rEq := by
  intro pins s σ H x y v u Q I rx ry h
  obtain ⟨hs, q⟩ := h
  cases x with
  | non =>
    cases rx
    cases y with
    | non => cases ry; exact PySem.EqNone.eq_none_none (fin_bl I q (by simp))
    | bl j => cases ry; exact PySem.EqNone.eq_none_bool (fin_bl I q (by simp))
    | int j => obtain ⟨t', rfl⟩ := ry; exact PySem.EqNone.eq_none_int (fin_bl I q (by simp))
    | str j => obtain ⟨t', rfl⟩ := ry; exact PySem.EqNone.eq_none_str (fin_bl I q (by simp))
    | _ => exact absurd (show false = true from hs) Bool.false_ne_true
  | bl i =>
    cases rx
    cases y with
    | non => cases ry; exact PySem.EqNone.eq_bool_none (fin_bl I q (by simp))
    | bl j => cases ry; exact eq_bool (fin_bl I q dec_bl)
    | str j => obtain ⟨t', rfl⟩ := ry; exact PySem.EqMixed.eq_bool_str (fin_bl I q (by simp))
    | _ => exact absurd (show false = true from hs) Bool.false_ne_true
  | int i =>
    obtain ⟨t, rfl⟩ := rx
    cases y with
    | non => cases ry; exact PySem.EqNone.eq_int_none (fin_bl I q (by simp))
    | int j => obtain ⟨t', rfl⟩ := ry; exact eq_int (fin_bl I q dec_int)
    | str j => obtain ⟨t', rfl⟩ := ry; exact PySem.EqMixed.eq_int_str (fin_bl I q (by simp))
    | _ => exact absurd (show false = true from hs) Bool.false_ne_true
  | str i =>
    obtain ⟨t, rfl⟩ := rx
    cases y with
    | non => cases ry; exact PySem.EqNone.eq_str_none (fin_bl I q (by simp))
    | bl j => cases ry; exact PySem.EqMixed.eq_str_bool (fin_bl I q (by simp))
    | int j => obtain ⟨t', rfl⟩ := ry; exact PySem.EqMixed.eq_str_int (fin_bl I q (by simp))
    | str j => obtain ⟨t', rfl⟩ := ry; exact eq_str (fin_bl I q dec_str)
    | _ => exact absurd (show false = true from hs) Bool.false_ne_true
  | byt i =>
    obtain ⟨t, rfl⟩ := rx
    cases y with
    | byt j => obtain ⟨t', rfl⟩ := ry; exact PySem.W.eq_bytes (fin_bl I q dec_byt)
    | _ => exact absurd (show false = true from hs) Bool.false_ne_true
  | _ => cases y <;> exact absurd (show false = true from hs) Bool.false_ne_true
theorem op_ne : OpR X (compareOp .NotEq) rNe := by
  intro pins s σ H x y v u Q I rx ry h
  obtain ⟨hs, q⟩ := h
  cases x with
  | non =>
    cases rx
    cases y with
    | non => cases ry; exact PySem.EqNone.ne_none_none (fin_bl I q (by simp))
    | bl j => cases ry; exact PySem.EqNone.ne_none_bool (fin_bl I q (by simp))
    | int j => obtain ⟨t', rfl⟩ := ry; exact PySem.EqNone.ne_none_int (fin_bl I q (by simp))
    | str j => obtain ⟨t', rfl⟩ := ry; exact PySem.EqNone.ne_none_str (fin_bl I q (by simp))
    | _ => exact absurd (show false = true from hs) Bool.false_ne_true
  | bl i =>
    cases rx
    cases y with
    | non => cases ry; exact PySem.EqNone.ne_bool_none (fin_bl I q (by simp))
    | bl j => cases ry; exact ne_bool (fin_bl I q (congrArg not dec_bl))
    | str j => obtain ⟨t', rfl⟩ := ry; exact PySem.EqMixed.ne_bool_str (fin_bl I q (by simp))
    | _ => exact absurd (show false = true from hs) Bool.false_ne_true
  | int i =>
    obtain ⟨t, rfl⟩ := rx
    cases y with
    | non => cases ry; exact PySem.EqNone.ne_int_none (fin_bl I q (by simp))
    | int j => obtain ⟨t', rfl⟩ := ry; exact ne_int (fin_bl I q (congrArg not dec_int))
    | str j => obtain ⟨t', rfl⟩ := ry; exact PySem.EqMixed.ne_int_str (fin_bl I q (by simp))
    | _ => exact absurd (show false = true from hs) Bool.false_ne_true
  | str i =>
    obtain ⟨t, rfl⟩ := rx
    cases y with
    | non => cases ry; exact PySem.EqNone.ne_str_none (fin_bl I q (by simp))
    | bl j => cases ry; exact PySem.EqMixed.ne_str_bool (fin_bl I q (by simp))
    | int j => obtain ⟨t', rfl⟩ := ry; exact PySem.EqMixed.ne_str_int (fin_bl I q (by simp))
    | str j => obtain ⟨t', rfl⟩ := ry; exact ne_str (fin_bl I q (congrArg not dec_str))
    | _ => exact absurd (show false = true from hs) Bool.false_ne_true
  | byt i =>
    obtain ⟨t, rfl⟩ := rx
    cases y with
    | byt j => obtain ⟨t', rfl⟩ := ry; exact PySem.W.ne_bytes (fin_bl I q (congrArg not dec_byt))
    | _ => exact absurd (show false = true from hs) Bool.false_ne_true
  | _ => cases y <;> exact absurd (show false = true from hs) Bool.false_ne_true
theorem op_lt : OpR X (compareOp .Lt) (rI0 fun i j => .bl (decide (i < j))) := opB0 fun _ _ _ _ _ _ _ q => lt_int q
theorem op_le : OpR X (compareOp .LtE) (rI0 fun i j => .bl (decide (i ≤ j))) := opB0 fun _ _ _ _ _ _ _ q => le_int q
theorem op_gt : OpR X (compareOp .Gt) (rI0 fun i j => .bl (decide (j < i))) := opB0 fun _ _ _ _ _ _ _ q => gt_int q
theorem op_ge : OpR X (compareOp .GtE) (rI0 fun i j => .bl (decide (j ≤ i))) := opB0 fun _ _ _ _ _ _ _ q => ge_int q
theorem nomark (b : Expr) {op : CmpOp} (h : op ≠ .In := by decide) (h2 : op ≠ .NotIn := by decide) : behindInMarks op b = false := by
  have e1 : (op == CmpOp.In) = false := by cases op <;> first | rfl | exact absurd rfl h
  have e2 : (op == CmpOp.NotIn) = false := by cases op <;> first | rfl | exact absurd rfl h2
  cases b <;> simp [behindInMarks, e1, e2]
theorem pe_cmpR {op : CmpOp} {r : R2} (ho : OpR X (compareOp op) r) (ha : PE X a ta) (hb : PE X b tb) (hm : behindInMarks op b = false) : PE X (.Compare a [op] [b] pos) (tOp r ta tb) := by
  intro pins s σ H Q I h
  exact wpAny_Compare1 (binT ha hb I h fun v u s2 x y H2 I2 rx ry q => ho pins s2 σ H2 x y v u Q I2 rx ry q) hm
def tTest (t : TE) : TT := fun σ H Q => t σ H fun x H' => ∃ k, x = .bl k ∧ Q k H'
theorem pt_cmpR {op : CmpOp} {r : R2} (ho : OpR X (compareOp op) r) (ha : PE X a ta) (hb : PE X b tb) (hm : behindInMarks op b = false) : PT X (.Compare a [op] [b] pos) (tTest (tOp r ta tb)) := by
  intro pins s σ H Q I h
  refine wpAny_isTrue_Compare1 (thn (ha pins s σ H _ I h) fun v s1 ⟨x, H1, I1, r1, q1⟩ => thn (hb pins s1 σ H1 _ I1 q1) fun u s2 ⟨y, H2, I2, r2, q2⟩ =>
    thn (ho pins s2 σ H2 x y v u _ I2 r1 r2 q2) fun c s3 ⟨z, H3, I3, r3, k, e, q3⟩ => ?_) hm
  subst e
  cases r3
  exact wpAny_truthy_bool ⟨H3, I3, q3⟩
def tChain (r r' : R2) (ta tb tc : TE) : TE := fun σ H Q => ta σ H fun x H1 => tb σ H1 fun y H2 => r x y H2 fun z H3 => ∃ k, z = .bl k ∧
  (if k = true then tc σ H3 fun w' H4 => r' y w' H4 Q else Q (.bl false) H3)
theorem pe_chain {op op' : CmpOp} {r r' : R2} (ho : OpR X (compareOp op) r) (ho' : OpR X (compareOp op') r') (ha : PE X a ta) (hb : PE X b tb) (hc : PE X c tc)
    (hm : lastMarks [op, op'] [b, c] = false := by with_unfolding_all rfl) : PE X (.Compare a [op, op'] [b, c] pos) (tChain r r' ta tb tc) := by
  intro pins s σ H Q I h
  refine Compare_chain (thn (ha pins s σ H _ I h) fun v s1 ⟨x, H1, I1, r1, q1⟩ => chain_link (thn (hb pins s1 σ H1 _ I1 q1) fun u s2 ⟨y, H2, I2, r2, q2⟩ =>
    thn (ho pins s2 σ H2 x y v u _ I2 r1 r2 q2) fun d s3 ⟨z, H3, I3, r3, k, e, q3⟩ => ?_)) hm
  subst e
  cases r3
  refine wpAny_truthy_bool ?_
  cases k with
  | false => exact ite_ff ⟨.bl false, H3, I3, rfl, q3⟩
  | true => exact ite_tt (chain_last (thn (hc pins s3 σ H3 _ I3 q3) fun w' s4 ⟨z', H4, I4, r4, q4⟩ => ho' pins s4 σ H4 y z' u w' Q I4 r2 r4 q4))
theorem pt_chain {op op' : CmpOp} {r r' : R2} (ho : OpR X (compareOp op) r) (ho' : OpR X (compareOp op') r') (ha : PE X a ta) (hb : PE X b tb) (hc : PE X c tc)
    (hm : lastMarks [op, op'] [b, c] = false := by with_unfolding_all rfl) : PT X (.Compare a [op, op'] [b, c] pos) (tTest (tChain r r' ta tb tc)) := by
  intro pins s σ H Q I h
  refine isTrue_chain (thn (ha pins s σ H _ I h) fun v s1 ⟨x, H1, I1, r1, q1⟩ => test_link (thn (hb pins s1 σ H1 _ I1 q1) fun u s2 ⟨y, H2, I2, r2, q2⟩ =>
    thn (ho pins s2 σ H2 x y v u _ I2 r1 r2 q2) fun d s3 ⟨z, H3, I3, r3, k, e, q3⟩ => ?_)) hm
  subst e
  cases r3
  refine wpAny_truthy_bool ?_
  cases k with
  | false =>
    obtain ⟨k', e', q'⟩ := q3
    cases e'
    exact ite_ff ⟨H3, I3, q'⟩
  | true =>
    refine ite_tt (test_last (thn (hc pins s3 σ H3 _ I3 q3) fun w' s4 ⟨z', H4, I4, r4, q4⟩ => thn (ho' pins s4 σ H4 y z' u w' _ I4 r2 r4 q4) fun d' s5 ⟨z2, H5, I5, r5, k2, e2, q5⟩ => ?_))
    subst e2
    cases r5
    exact wpAny_truthy_bool ⟨H5, I5, q5⟩
theorem line63 : (sizeLine : Nat) < 2 ^ 63 := by rw [sizeLine_eq]; decide
theorem op_add_str : OpR X (binaryOp .Add) (fun x y H Q => ∃ i j, x = .str i ∧ y = .str j ∧ i.length + j.length ≤ sizeLine ∧ Q (.str (i ++ j)) H) := by
  intro pins s σ H x y v u Q I rx ry h
  obtain ⟨i, j, rfl, rfl, hz, q⟩ := h
  obtain ⟨t, rfl⟩ := rx
  obtain ⟨t', rfl⟩ := ry
  exact add_str (fun t' tk => ⟨.str (i ++ j), H, I.tok _, ⟨_, rfl⟩, q⟩) hz
theorem vals1 {x : V} {us : List Value} (r : Vals [x] us) : ∃ u, us = [u] ∧ RelV x u := by
  cases r with
  | cons r1 r2 => cases r2; exact ⟨_, rfl, r1⟩
theorem vals2 {x y : V} {us : List Value} (r : Vals [x, y] us) : ∃ u w', us = [u, w'] ∧ RelV x u ∧ RelV y w' := by
  cases r with
  | cons r1 r2 =>
    cases r2 with
    | cons r3 r4 => cases r4; exact ⟨_, _, rfl, r1, r3⟩
theorem call_max2 (hc : X.calm = true) : CallR X (.builtin "max") (fun xs H Q => ∃ i j, xs = [.int i, .int j] ∧ Q (.int (if j > i then j else i)) H) := by
  intro pins s σ H xs us Q I r h
  obtain ⟨i, j, rfl, q⟩ := h
  obtain ⟨u, w', rfl, ⟨t, rfl⟩, ⟨t', rfl⟩⟩ := vals2 r
  refine max_two_ints (I.ok.hd hc) fun h' tk k => ⟨_, H, I.kept k, ?_, q⟩
  by_cases hj : j > i
  · rw [if_pos hj, if_pos hj]; exact ⟨_, rfl⟩
  · rw [if_neg hj, if_neg hj]; exact ⟨_, rfl⟩
theorem call_int1 : CallR X (.type "int") (fun xs H Q => (∃ i, xs = [.int i] ∧ Q (.int i) H) ∨ ∃ k, xs = [.bl k] ∧ Q (.int (if k then 1 else 0)) H) := by
  intro pins s σ H xs us Q I r h
  rcases h with ⟨i, rfl, q⟩ | ⟨k, rfl, q⟩
  · obtain ⟨u, rfl, t, rfl⟩ := vals1 r
    exact call_int_int ⟨.int i, H, I, ⟨_, rfl⟩, q⟩
  · obtain ⟨u, rfl, r1⟩ := vals1 r
    cases r1
    exact call_int_bool ⟨.int (if k then 1 else 0), H, I.tok _, ⟨_, rfl⟩, q⟩
theorem call_str_int : CallR X (.type "str") (fun xs H Q => ∃ i, xs = [.int i] ∧ i.natAbs.log2 < 1920 ∧ Q (.str (toString i)) H) := by
  intro pins s σ H xs us Q I r h
  obtain ⟨i, rfl, hz, q⟩ := h
  obtain ⟨u, rfl, t, rfl⟩ := vals1 r
  exact PySem.P.str_of_int hz ⟨.str _, H, I.tok _, ⟨_, rfl⟩, q⟩
end
end L2
namespace L2
open PySem PySem.Spec PyProof.Rows
structure ObjM (h : Heap) (x dx C : Addr) (mA : Str → Option Value) : Prop where
  obj : h.get? x = some (PySem.W.instObj C dx)
  ns : h.Ns1 dx mA
  ne : dx ≠ x
theorem lookIn_ns {h : Heap} {dx : Addr} {mA : Str → Option Value} (n : h.Ns1 dx mA) : ∃ od, h.get? dx = some od ∧ ∀ name, PySem.W.lookIn name od = some (mA name) := by
  obtain ⟨o, es, ep, ho, hd, hk, _, hm⟩ := n
  refine ⟨o, ho, fun name => ?_⟩
  have e := hm name
  unfold nsFind findBy at e
  rw [← Array.find?_toList] at e
  unfold PySem.W.lookIn
  rw [hd]
  dsimp only
  split
  · rename_i y q
    rw [q] at e
    exact congrArg some e
  · rename_i q
    rw [q] at e
    have a : es.toList.any (·.refKey) = false := by
      rw [List.any_eq_false]
      intro y hy
      obtain ⟨z, t, hkey⟩ := hk y (Array.mem_toList_iff.mp hy)
      simp [DictEntry.refKey, hkey]
    have a' : ¬ es.toList.any (·.refKey) = true := by rw [a]; exact Bool.false_ne_true
    rw [if_neg a']
    exact congrArg some e
theorem ObjM.look {h : Heap} {x dx C : Addr} {mA : Str → Option Value} (I : ObjM h x dx C mA) : ∃ od, PySem.W.InstAt h x (PySem.W.instObj C dx) C (some od) ∧ ∀ name, PySem.W.lookIn name od = some (mA name) :=
  let ⟨od, ho, hl⟩ := lookIn_ns I.ns
  ⟨od, ⟨I.obj, rfl, rfl, ho⟩, hl⟩
section
variable {prog : Program} {w : World} {A : Around} {E : Value → Shared → Prop} {s : Shared} {K : PySem.W.Frag} {x dx C f : Addr} {mA : Str → Option Value} {name : Str} {v : Value}
theorem get_map {expr : Bool} {Q : Value → Shared → Prop} (X : K.In s.heap) (I : ObjM s.heap x dx C mA) (hg : PySem.W.plainGet K C name = true) (hh : PySem.W.hasDictIn K C = true)
    (ha : PySem.W.findIn K (.ref C) name = some none) (hv : mA name = some v) (hv' : PySem.W.handedIn v = true) (h : Q v { s with toks := s.toks + 1 }) :
    wpAny (model prog w) A (getAttr (.ref x) name expr) Q E s := by
  obtain ⟨od, J, hl⟩ := I.look
  exact PySem.W.get_value X J (PySem.W.plainGet_of hg).1 (PySem.W.findObj_own hh ha rfl (by rw [hl, hv])) hv' h
theorem get_meth {pl : Sem Bool} {Q : Value × List Value → Shared → Prop} (X : K.In s.heap) (I : ObjM s.heap x dx C mA) (hg : PySem.W.plainGet K C name = true)
    (hf : PySem.W.findIn K (.ref C) name = some (some (.ref f))) (ht : PySem.W.isFn K (.ref f) = true) (hv : mA name = none) (h : Q (.ref f, [.ref x]) s) :
    wpAny (model prog w) A (getMethod (.ref x) name pl) Q E s := by
  obtain ⟨od, J, hl⟩ := I.look
  exact PySem.W.method_fn X J (PySem.W.plainGet_of hg).1 (PySem.W.plainGet_of hg).2 hf (beq_iff_eq.mp ht) (by show (PySem.W.lookIn name od).map (·.isSome) = some false; rw [hl, hv]; rfl) h
theorem set_map {ns : List Str} {Q : Unit → Shared → Prop} (X : K.In s.heap) (I : ObjM s.heap x dx C mA)
    (hs : PySem.W.findIn K (.ref C) "__setattr__" = some (some (.builtin "object.__setattr__"))) (hp : PySem.W.plainOver K C = true) (ht : PySem.W.takerIn K C name = some none) (hh : PySem.W.hasDictIn K C = true)
    (hw : PySem.Within mA ns) (hsz : ns.length ≤ sizeLine)
    (h : ∀ h', ObjM h' x dx C (fun y => if y = name then some v else mA y) → Heap.SameBut dx s.heap h' → Q () { s with heap := h', toks := s.toks + 2 }) :
    wpAny (model prog w) A (setAttr (.ref x) name v) Q E s := by
  obtain ⟨od, J, hl⟩ := I.look
  refine PySem.W.set_plain X J hs (PySem.W.osa_open (s := { s with toks := s.toks + 1 }) (r := none) X J hp ht fun b => ?_)
  obtain ⟨cd, hc, hd'⟩ := PySem.W.any_some hh
  have hx : s.heap.get? x = some ⟨.ref C, some dx, .plain, #[]⟩ := I.obj
  refine wpAny_bind (wpAny_pure (wpAny_bind (wpAny_bind (wpAny_loadPart hx (wpAny_bind (PySem.W.Looks.here (s := { s with toks := s.toks + 1 }) (PySem.W.looks_clsIn X hc) ?_))))))
  rw [hd']
  refine wpAny_pure (a := some dx) (wpAny_bind (wpAny_pure (wpAny_bind ?_)))
  refine wpAny_nsSet1 (s := { s with toks := s.toks + 1 }) I.ns fun h' hn2 hs2 => ?_
  obtain ⟨oD, esD, epD, hoD, hdD, hcD⟩ := hn2.count (PySem.Within.cons name v hw)
  refine wpAny_bind (wpAny_lookBehind hoD (by rw [hdD]; exact pastItsLine_dict (Nat.le_trans hcD (by rw [List.length_cons]; omega))) ?_)
  exact wpAny_pure (h _ ⟨(hs2.2 _ (Ne.symm I.ne)).trans I.obj, hn2, I.ne⟩ hs2)
theorem make_map {R : Result → Shared → Prop} {vs : List Value} {kw : List (Str × Value)} (X : K.In s.heap) (hm : PySem.W.makesIn K C = true)
    (hi : PySem.W.findIn K (.ref C) "__init__" = some (some (.ref f))) (hf : PySem.W.typeIn K (.ref f) = some (.type "function"))
    (h : codeAny (model prog w) (A.under (.builtin "type.__call__" ⟨.ref C :: vs, kw⟩)) (.call (.ref f) ⟨.ref (s.heap.objs.size + 1) :: vs, kw⟩) (PySem.W.InitBack (s.heap.objs.size + 1) R)
      { s with heap := (s.heap.push PySem.W.emptyDict).push (PySem.W.instObj C s.heap.objs.size) }) :
    codeAny (model prog w) A (.call (.ref C) ⟨vs, kw⟩) R s := by
  obtain ⟨hh, g, d, t, os⟩ := s
  exact PySem.W.make_core (PySem.W.makes_of X hm) (PySem.W.looks_findIn X hi) (fun self => PySem.W.bind_fn X self hf) (.inl rfl) h
end
def putF (f : Str) (v : V) : List (Str × V) → List (Str × V)
  | [] => [(f, v)]
  | (g, x) :: r => if g = f then (g, v) :: r else (g, x) :: putF f v r
theorem lookup_putF (f g : Str) (v : V) : ∀ fs : List (Str × V), (putF f v fs).lookup g = if g = f then some v else fs.lookup g
  | [] => by
    show List.lookup g [(f, v)] = _
    by_cases h : g = f
    · have hb : (g == f) = true := beq_iff_eq.mpr h
      simp only [List.lookup, hb, if_pos h]
    · have hb : (g == f) = false := beq_eq_false_iff_ne.mpr h
      simp only [List.lookup, hb, if_neg h]
  | (k, x) :: r => by
    have ih := lookup_putF f g v r
    rw [show putF f v ((k, x) :: r) = (if k = f then (k, v) :: r else (k, x) :: putF f v r) from rfl]
    by_cases hk : k = f
    · rw [if_pos hk]
      by_cases h : g = k
      · have hb : (g == k) = true := beq_iff_eq.mpr h
        simp only [List.lookup, hb, if_pos (h.trans hk)]
      · have hb : (g == k) = false := beq_eq_false_iff_ne.mpr h
        simp only [List.lookup, hb, if_neg (fun e : g = f => h (e.trans hk.symm))]
    · rw [if_neg hk]
      by_cases h : g = k
      · have hb : (g == k) = true := beq_iff_eq.mpr h
        simp only [List.lookup, hb, if_neg (fun e : g = f => hk (h.symm.trans e))]
      · have hb : (g == k) = false := beq_eq_false_iff_ne.mpr h
        simp only [List.lookup, hb]
        exact ih
theorem keys_putF (f : Str) (v : V) : ∀ fs : List (Str × V), f ∈ (putF f v fs).map (·.1) ∧ ∀ g, g ∈ fs.map (·.1) → g ∈ (putF f v fs).map (·.1)
  | [] => ⟨by simp [putF], fun g h => by simp at h⟩
  | (k, x) :: r => by
    obtain ⟨i1, i2⟩ := keys_putF f v r
    rw [show putF f v ((k, x) :: r) = (if k = f then (k, v) :: r else (k, x) :: putF f v r) from rfl]
    by_cases hk : k = f
    · rw [if_pos hk]
      subst hk
      exact ⟨by simp, fun g h => by simpa using h⟩
    · rw [if_neg hk]
      refine ⟨?_, fun g h => ?_⟩
      · rw [List.map_cons]
        exact List.mem_cons_of_mem _ i1
      · rw [List.map_cons] at h ⊢
        rcases List.mem_cons.mp h with e | e
        · exact List.mem_cons.mpr (.inl e)
        · exact List.mem_cons_of_mem _ (i2 g e)
theorem length_putF (f : Str) (v : V) : ∀ fs : List (Str × V), (putF f v fs).length ≤ fs.length + 1
  | [] => by simp [putF]
  | (k, x) :: r => by
    have ih := length_putF f v r
    rw [show putF f v ((k, x) :: r) = (if k = f then (k, v) :: r else (k, x) :: putF f v r) from rfl]
    by_cases hk : k = f
    · rw [if_pos hk, List.length_cons, List.length_cons]; omega
    · rw [if_neg hk, List.length_cons, List.length_cons]; omega
theorem RelO.some_of {v : V} {o : Option Value} (r : RelO (some v) o) : ∃ u, o = some u ∧ RelV v u := by
  cases o with
  | none => exact (show False from r).elim
  | some u => exact ⟨u, rfl, r⟩
theorem RelO.none_of {o : Option Value} (r : RelO none o) : o = none := by
  cases o with
  | none => rfl
  | some u => exact (show False from r).elim
theorem handed_of {v : V} {u : Value} (r : RelV v u) : PySem.W.handedIn u = true := by
  cases v with
  | non => cases (show u = Value.none from r); rfl
  | bl b => cases (show u = Value.bool b from r); rfl
  | int i => obtain ⟨t, e⟩ := (show ∃ t, u = Value.int i t from r); cases e; rfl
  | str x => obtain ⟨t, e⟩ := (show ∃ t, u = Value.str x t from r); cases e; rfl
  | byt b => obtain ⟨t, e⟩ := (show ∃ t, u = Value.bytes b t from r); cases e; rfl
  | flt b => obtain ⟨t, e⟩ := (show ∃ t, u = Value.float b t from r); cases e; rfl
  | ref a => cases (show u = Value.ref a from r); rfl
  | ty n => cases (show u = Value.type n from r); rfl
section
variable {P : Program} {w : World} {H H' : Hp} {h h' : Heap} {a C dx : Addr} {fs fs' : List (Str × V)}
theorem ins_get (hok : HOk P w H h) (e : H a = some (.ins C dx fs)) : ∃ mA, ObjM h a dx C mA ∧ (∀ f, RelO (fs.lookup f) (mA f)) ∧ PySem.Within mA (fs.map (·.1)) ∧ fs.length ≤ 1000 ∧ H dx = some (.own a) := by
  obtain ⟨d, z, ne, ob, mA, n, r, q⟩ := (show ObjOk P w H h a (.ins C dx fs) from hok a _ e)
  exact ⟨mA, ⟨ob, n, ne⟩, r, q, z, d⟩
end
structure Cls (K : PySem.W.Frag) (C : Addr) : Prop where
  pg : PySem.W.plainGet K C Str.empty = true
  hd : PySem.W.hasDictIn K C = true
  po : PySem.W.plainOver K C = true
  sa : PySem.W.findIn K (.ref C) "__setattr__" = some (some (.builtin "object.__setattr__"))
theorem Cls.get {K : PySem.W.Frag} {C : Addr} (c : Cls K C) (f : Str) : PySem.W.plainGet K C f = true := c.pg
def NoAttr (K : PySem.W.Frag) (C : Addr) (f : Str) : Prop := PySem.W.findIn K (.ref C) f = some none
theorem NoAttr.taker {K : PySem.W.Frag} {C : Addr} {f : Str} (n : NoAttr K C f) : PySem.W.takerIn K C f = some none := by
  unfold PySem.W.takerIn
  rw [show PySem.W.findIn K (.ref C) f = some none from n]
  rfl
structure Con (K : PySem.W.Frag) (C : Addr) (f : Str) (v : V) (u : Value) : Prop where
  at_ : PySem.W.findIn K (.ref C) f = some (some u)
  rel : RelV v u
  get : PySem.W.specialIn K u "__get__" = some none
  cp : PySem.W.copiedNames.contains f = false
structure Meth (K : PySem.W.Frag) (C : Addr) (m : Str) (f : Addr) : Prop where
  at_ : PySem.W.findIn K (.ref C) m = some (some (.ref f))
  fn : PySem.W.isFn K (.ref f) = true
  kp : PySem.W.keepIn K (.ref f) = true
section
variable {X : Cx} {pins : List (Addr × Obj)} {σ : St} {H : Hp} {s : Shared} {a C dx : Addr} {fs : List (Str × V)} {f : Str} {v : V} {A : Around} {E : Value → Shared → Prop}
theorem getattr_ok {b : Bool} {Q : Value → Shared → Prop} (I : Inv X pins σ H s) (e : H a = some (.ins C dx fs)) (c : Cls X.K C) (n : NoAttr X.K C f) (l : fs.lookup f = some v)
    (h : ∀ u s', Inv X pins σ H s' → RelV v u → Q u s') : wpAny (model X.prog X.w) A (getAttr (.ref a) f b) Q E s := by
  obtain ⟨mA, O, r, _, _, _⟩ := ins_get I.hok e
  obtain ⟨u, hu, ru⟩ := RelO.some_of (v := v) (o := mA f) (by rw [← l]; exact r f)
  exact get_map I.kIn O (c.get f) c.hd n hu (handed_of ru) (h u _ (I.tok _) ru)
theorem getmeth_ok {m : Str} {g : Addr} {pl : Sem Bool} {Q : Value × List Value → Shared → Prop} (I : Inv X pins σ H s) (e : H a = some (.ins C dx fs)) (c : Cls X.K C) (k : Meth X.K C m g) (l : fs.lookup m = none)
    (h : Q (.ref g, [.ref a]) s) : wpAny (model X.prog X.w) A (getMethod (.ref a) m pl) Q E s := by
  obtain ⟨mA, O, r, _, _, _⟩ := ins_get I.hok e
  have hn : mA m = none := RelO.none_of (by rw [← l]; exact r m)
  exact get_meth I.kIn O (c.get m) k.at_ k.fn hn h
theorem setattr_ok {y : V} {u : Value} {Q : Unit → Shared → Prop} (I : Inv X pins σ H s) (e : H a = some (.ins C dx fs)) (c : Cls X.K C) (n : NoAttr X.K C f) (hl : fs.length < 1000) (ry : RelV y u)
    (h : ∀ s', Inv X pins σ (upd H a (.ins C dx (putF f y fs))) s' → Q () s') : wpAny (model X.prog X.w) A (setAttr (.ref a) f u) Q E s := by
  obtain ⟨mA, O, r, wi, _, ho⟩ := ins_get I.hok e
  have hz : (fs.map (·.1)).length ≤ sizeLine := by rw [List.length_map, sizeLine_eq]; omega
  refine set_map I.kIn O c.sa c.po n.taker c.hd wi hz fun h' O' sb => h _ ?_
  have hd : ∃ o, h'.get? dx = some o := let ⟨o, _, _, e', _⟩ := O'.ns; ⟨o, e'⟩
  refine I.write (x := a) (e := dx) (by rw [e]; exact True.intro) (.inr ho) (fun b q hb z => (sb.2 b hb).trans z) hd ?_
  refine ⟨by rw [upd_ne O.ne]; exact ho, ?_, O.ne, O'.obj, _, O'.ns, fun g => ?_, fun g hg => ?_⟩
  · have := length_putF f y fs; omega
  · show RelO ((putF f y fs).lookup g) (if g = f then some u else mA g)
    rw [lookup_putF]
    by_cases q : g = f
    · rw [if_pos q, if_pos q]; exact ry
    · rw [if_neg q, if_neg q]; exact r g
  · by_cases q : g = f
    · rw [q]; exact (keys_putF f y fs).1
    · refine (keys_putF f y fs).2 g (wi g fun z => hg ?_)
      show (if g = f then some u else mA g) = none
      rw [if_neg q]; exact z
theorem Inv.made (I : Inv X pins σ H s) : Inv X pins σ (upd (upd H s.heap.objs.size (.own (s.heap.objs.size + 1))) (s.heap.objs.size + 1) (.ins C s.heap.objs.size []))
    { s with heap := (s.heap.push PySem.W.emptyDict).push (PySem.W.instObj C s.heap.objs.size) } := by
  have e1 : (s.heap.push PySem.W.emptyDict).get? s.heap.objs.size = some PySem.W.emptyDict := Heap.get?_push_size s.heap rfl
  have e2 : ((s.heap.push PySem.W.emptyDict).push (PySem.W.instObj C s.heap.objs.size)).get? (s.heap.objs.size + 1) = some (PySem.W.instObj C s.heap.objs.size) := by
    have := Heap.get?_push_size (s.heap.push PySem.W.emptyDict) (o := PySem.W.instObj C s.heap.objs.size) rfl
    rwa [Heap.size_push] at this
  have e3 : (s.heap.push PySem.W.emptyDict).Ns s.heap.objs.size (fun _ => none) := ⟨PySem.W.emptyDict, #[], _, e1, rfl, (fun e he => absurd he (by simp)), fun _ => rfl⟩
  have I1 := I.laid (a := s.heap.objs.size) (o := .own (s.heap.objs.size + 1)) (h' := s.heap.push PySem.W.emptyDict) (t' := s.toks) (fun b u q => Heap.get?_push_of_some _ q) (Nat.le_refl _) ⟨_, e1⟩
  refine I1.laid (a := s.heap.objs.size + 1) (o := .ins C s.heap.objs.size []) (t' := s.toks) (fun b u q => Heap.get?_push_of_some _ q) (Nat.le_of_eq (Heap.size_push _ _)) ?_
  have ne : s.heap.objs.size ≠ s.heap.objs.size + 1 := Nat.ne_of_lt (Nat.lt_succ_self _)
  refine ⟨by rw [upd_ne ne, upd_same], Nat.zero_le _, ne, e2, fun _ => none, (Heap.Ns1.of_empty e3).at fun o q => Heap.get?_push_of_some _ q, fun _ => True.intro, fun y hy => absurd rfl hy⟩
theorem attr_of {prog : Program} {w : World} {env : Env} {e : Expr} {f : Str} {pos : Pos} {s : Shared} {Q : Value → Shared → Prop} (hb : attributeBase e f env (eval e env) = eval e env)
    (h : wpAny (model prog w) A (eval e env) (fun o s₁ => wpAny (model prog w) A (getAttr o f true) Q E s₁) E s) : wpAny (model prog w) A (eval (.Attribute e f pos) env) Q E s :=
  Attribute_any_ h (by rw [arm_eval_Attribute, hb])
end
def tFld (K : PySem.W.Frag) (ta : TE) (f : Str) : TE := fun σ H Q => ta σ H fun x H1 => ∃ a C dx fs v, x = .ref a ∧ H1 a = some (.ins C dx fs) ∧ Cls K C ∧ NoAttr K C f ∧ fs.lookup f = some v ∧ Q v H1
def sFld (K : PySem.W.Frag) (ta tv : TE) (f : Str) : TS := fun D σ H => tv σ H fun y H1 => ta σ H1 fun x H2 => ∃ a C dx fs, x = .ref a ∧ H2 a = some (.ins C dx fs) ∧ Cls K C ∧ NoAttr K C f ∧ fs.length < 1000 ∧
  D.nx σ (upd H2 a (.ins C dx (putF f y fs)))
def InOp (X : Cx) (op : Operator) (rd : V → V → Hp → VK → Prop) : Prop :=
  ∀ (pins : List (Addr × Obj)) (s : Shared) (σ : St) (H : Hp) (x y : V) (u v : Value) (Q : VK), Inv X pins σ H s → RelV x u → RelV y v → rd x y H Q → wpAny (model X.prog X.w) X.A (inplaceOp op u v) (EP X pins σ Q) X.xe s
def sFldAug (K : PySem.W.Frag) (ta tv : TE) (rd : V → V → Hp → VK → Prop) (f : Str) : TS := fun D σ H => ta σ H fun x H1 => ∃ a C dx fs v, x = .ref a ∧ H1 a = some (.ins C dx fs) ∧ Cls K C ∧ NoAttr K C f ∧ fs.lookup f = some v ∧
  tv σ H1 fun y H2 => rd v y H2 fun z H3 => ∃ dx' fs', H3 a = some (.ins C dx' fs') ∧ fs'.length < 1000 ∧ D.nx σ (upd H3 a (.ins C dx' (putF f z fs')))
section
variable {X : Cx} {o e value : Expr} {f : Str} {pos pos' tpos : Pos} {ta tv : TE}
theorem pe_fld (he : PE X e ta) (hb : attributeBase e f X.env (eval e X.env) = eval e X.env) : PE X (.Attribute e f pos) (tFld X.K ta f) := by
  intro pins s σ H Q I h
  refine attr_of hb (thn (he pins s σ H _ I h) fun u s1 ⟨x, H1, I1, rx, a, C, dx, fs, v, ex, ea, c, n, l, q⟩ => ?_)
  subst ex
  obtain rfl : u = Value.ref a := rx
  exact getattr_ok I1 ea c n l fun u' s2 I2 ru => ⟨v, H1, I2, ru, q⟩
theorem ps_fld (ha : PE X o ta) (hv : PE X value tv) (hs : swapsWith value (some (.Attribute o f pos')) pos.line X.env = pure false) : PS X (.Assign [.Attribute o f pos'] value pos) (sFld X.K ta tv f) := by
  intro pins s σ H D I h
  refine plainObj_wpAny_Assign_Attribute (thn (hv pins s σ H _ I h) fun u s1 ⟨y, H1, I1, ry, q⟩ => thn (ha pins s1 σ H1 _ I1 q) fun ov s2 ⟨x, H2, I2, rx, a, C, dx, fs, ex, ea, c, n, l, q2⟩ => ?_) hs
  subst ex
  obtain rfl : ov = Value.ref a := rx
  exact setattr_ok I2 ea c n l ry fun s3 I3 => ⟨σ, _, I3, q2⟩
theorem ps_fldaug {op : Operator} {rd : V → V → Hp → VK → Prop} (ha : PE X o ta) (hv : PE X value tv) (hop : InOp X op rd) : PS X (.AugAssign (.Attribute o f tpos) op value pos) (sFldAug X.K ta tv rd f) := by
  intro pins s σ H D I h
  refine wpAny_AugAssign_AttributeAny (thn (ha pins s σ H _ I h) fun ov s1 ⟨x, H1, I1, rx, a, C, dx, fs, v, ex, ea, c, n, l, q⟩ => ?_)
  subst ex
  obtain rfl : ov = Value.ref a := rx
  refine getattr_ok I1 ea c n l fun u s2 I2 ru => thn (hv pins s2 σ H1 _ I2 q) fun w3 s3 ⟨y, H2, I3, ry, q3⟩ => thn (hop pins s3 σ H2 v y u w3 _ I3 ru ry q3) fun w4 s4 ⟨z, H3, I4, rz, dx', fs', ea', l', q4⟩ => ?_
  exact setattr_ok I4 ea' c n l' rz fun s5 I5 => ⟨σ, _, I5, q4⟩
def rAdd : V → V → Hp → VK → Prop := fun x y H Q => ∃ i j, x = .int i ∧ y = .int j ∧ Q (.int (i + j)) H
theorem in_add : InOp X .Add rAdd := by
  rintro pins s σ H x y u v Q I rx ry ⟨i, j, rfl, rfl, q⟩
  obtain ⟨t, rfl⟩ := (show ∃ t, u = Value.int i t from rx)
  obtain ⟨t', rfl⟩ := (show ∃ t', v = Value.int j t' from ry)
  exact PyProof.Rows.iadd_int ⟨.int (i + j), H, I.tok _, ⟨_, rfl⟩, q⟩
end
section
variable {X : Cx} {pins : List (Addr × Obj)} {σ : St} {H : Hp} {s : Shared} {A : Around} {E : Value → Shared → Prop} {Q : Value → Shared → Prop} {c : Value} {b : Bool}
inductive TyOf (K : PySem.W.Frag) (H : Hp) : V → Value → Prop where
  | non : TyOf K H .non (.type "NoneType")
  | bl (x : Bool) : TyOf K H (.bl x) (.type "bool")
  | int (i : Int) : TyOf K H (.int i) (.type "int")
  | str (x : Str) : TyOf K H (.str x) (.type "str")
  | flt (x : UInt64) : TyOf K H (.flt x) (.type "float")
  | lst {a : Addr} {xs : List V} (e : H a = some (.lst xs)) : TyOf K H (.ref a) (.type "list")
  | frz {a : Addr} {o : Obj} {xs : List V} (e : H a = some (.frz o (.lst xs))) : TyOf K H (.ref a) (.type "list")
  | tup {a : Addr} {xs : List V} (e : H a = some (.tup xs)) : TyOf K H (.ref a) (.type "tuple")
  | dK {a : Addr} {kvs : List (Key × V)} (e : H a = some (.dK kvs)) : TyOf K H (.ref a) (.type "dict")
  | dT {a : Addr} {kvs : List (List Key × V)} (e : H a = some (.dT kvs)) : TyOf K H (.ref a) (.type "dict")
  | ins {a C dx : Addr} {fs : List (Str × V)} (e : H a = some (.ins C dx fs)) (cl : Cls K C) (ha : PySem.W.findIn K (.ref C) "__class__" = some (some (.builtin "object.__class__")))
      (hn : PySem.W.specialIn K (.builtin "object.__class__") "__get__" = some (some (.builtin "getset_descriptor.__get__"))) (htk : PySem.W.takesIn K (.builtin "object.__class__") = some true)
      (hm : PySem.W.mroIn K C (.type "object") = some true) : TyOf K H (.ref a) (.ref C)
theorem isinst_ok {x : V} {u t : Value} (I : Inv X pins σ H s) (rx : RelV x u) (ty : TyOf X.K H x t) (e : PySem.W.kitOne X.K t c = some b) (h : ∀ tk, Q (.bool b) { s with toks := tk }) :
    wpAny (model X.prog X.w) A (call (.builtin "isinstance") [u, c]) Q E s := by
  cases ty with
  | non => cases (show u = Value.none from rx); exact PySem.W.kia_one PySem.W.kitx_none I.kIn True.intro e (fun z => nomatch z) h
  | bl y => cases (show u = Value.bool y from rx); exact PySem.W.kia_one PySem.W.kitx_bool I.kIn True.intro e (fun z => nomatch z) h
  | int i => obtain ⟨t, q⟩ := (show ∃ t, u = Value.int i t from rx); cases q; exact PySem.W.kia_one PySem.W.kitx_int I.kIn True.intro e (fun z => nomatch z) h
  | str y => obtain ⟨t, q⟩ := (show ∃ t, u = Value.str y t from rx); cases q; exact PySem.W.kia_one PySem.W.kitx_str I.kIn True.intro e (fun z => nomatch z) h
  | flt y => obtain ⟨t, q⟩ := (show ∃ t, u = Value.float y t from rx); cases q; exact PySem.W.kia_one PySem.W.kitx_float I.kIn True.intro e (fun z => nomatch z) h
  | @lst a xs ea =>
    cases (show u = Value.ref a from rx)
    obtain ⟨_, _, n, _, h1⟩ := (show ObjOk X.prog X.w H s.heap a (.lst xs) from I.hok a _ ea)
    exact PySem.W.kia_one PySem.W.kitx_list I.kIn ⟨_, h1, rfl⟩ e (fun z => nomatch z) h
  | @frz a ob xs ea =>
    cases (show u = Value.ref a from rx)
    obtain ⟨_, _, _, n, _, h1⟩ := (show ObjOk X.prog X.w H s.heap a (.frz ob (.lst xs)) from I.hok a _ ea)
    exact PySem.W.kia_one PySem.W.kitx_list I.kIn ⟨_, h1, rfl⟩ e (fun z => nomatch z) h
  | @tup a xs ea =>
    cases (show u = Value.ref a from rx)
    obtain ⟨_, _, _, p⟩ := (show ObjOk X.prog X.w H s.heap a (.tup xs) from I.hok a _ ea)
    obtain ⟨o, h1, h2, _⟩ := p
    exact PySem.W.kia_one PySem.W.kitx_tuple I.kIn ⟨o, h1, h2⟩ e (fun z => nomatch z) h
  | @dK a kvs ea =>
    cases (show u = Value.ref a from rx)
    obtain ⟨_, _, vs, _, p⟩ := (show ObjOk X.prog X.w H s.heap a (.dK kvs) from I.hok a _ ea)
    obtain ⟨o, es, ep, h1, h2, _⟩ := p
    exact PySem.W.kia_one PySem.W.kitx_dict I.kIn ⟨o, h1, h2.1⟩ e (fun z => nomatch z) h
  | @dT a kvs ea =>
    cases (show u = Value.ref a from rx)
    obtain ⟨_, _, xs, _, o, es, ep, h1, h2, _⟩ := (show ObjOk X.prog X.w H s.heap a (.dT kvs) from I.hok a _ ea)
    exact PySem.W.kia_one PySem.W.kitx_dict I.kIn ⟨o, h1, h2.1⟩ e (fun z => nomatch z) h
  | @ins a C dx fs ea cl ha hn htk hm =>
    cases (show u = Value.ref a from rx)
    obtain ⟨mA, O, _⟩ := ins_get I.hok ea
    obtain ⟨od, J, _⟩ := O.look
    exact PySem.W.kia_one (PySem.W.kitx_own (cl.get _) cl.hd ha hn htk hm) I.kIn J e (fun z => nomatch z) h
end
end L2
namespace L2
open PySem PySem.Spec PyProof.Rows
structure Room (k : Nat) (A : Around) : Prop where
  hd : A.handled = none
  dp : A.depth + 3 * k + 5 < recursionLimit
  un : A.units + 16 * k + 200 < cLine
theorem Room.mono {j k : Nat} {A : Around} (r : Room k A) (h : j ≤ k) : Room j A := ⟨r.hd, by have := r.dp; omega, by have := r.un; omega⟩
theorem Room.deeper {k : Nat} {A : Around} (r : Room (k + 1) A) (env : Env) : Room k (A.deeper env) :=
  ⟨r.hd, by have := r.dp; show A.depth + 1 + 3 * k + 5 < _; omega, by have := r.un; show A.units + 3 + 16 * k + 200 < _; omega⟩
theorem make_depth {A : Around} {C : Addr} {us : List Value} {kw : List (Str × Value)} : (A.under (.builtin "type.__call__" ⟨.ref C :: us, kw⟩)).depth = A.depth + 1 := by
  first | rfl | simp [Around.under, Code.weight, Code.isCreation, Code.isGuard, Code.isCaller, Code.frames, Code.isFrame, guardIds]
theorem make_units {A : Around} {C : Addr} {us : List Value} {kw : List (Str × Value)} : (A.under (.builtin "type.__call__" ⟨.ref C :: us, kw⟩)).units = A.units + 1 := by
  first | rfl | simp [Around.under, Code.cUnits, Code.frames, Code.isFrame]
theorem Room.make {k : Nat} {A : Around} (r : Room (k + 1) A) (C : Addr) (us : List Value) (kw : List (Str × Value)) : Room k (A.under (.builtin "type.__call__" ⟨.ref C :: us, kw⟩)) :=
  ⟨r.hd, by have := r.dp; rw [make_depth]; omega, by have := r.un; rw [make_units]; omega⟩
theorem Room.depth {k : Nat} {A : Around} (r : Room k A) : A.depth < recursionLimit := by have := r.dp; omega
theorem Room.units {k : Nat} {A : Around} (r : Room k A) : A.units + 64 < cLine := by have := r.un; omega
def tNil : TA := fun _ H Q => Q [] H
def tCons (ta : TE) (tr : TA) : TA := fun σ H Q => ta σ H fun x H1 => tr σ H1 fun xs H2 => Q (x :: xs) H2
section
variable {X : Cx} {e : Expr} {es : List Expr} {te : TE} {t : TA} {pos : Pos}
theorem pa_nil : PA X [] tNil := fun _ _ _ _ H Q I h => Calls.spliced_nil ⟨[], H, I, .nil, h⟩
theorem pa_cons (ha : PE X e te) (hr : PA X es t) (hs : starEach (e :: es) X.env = (false, eval e X.env) :: starEach es X.env := by rfl) : PA X (e :: es) (tCons te t) := by
  intro pos pins s σ H Q I h
  rw [hs]
  show wpAny _ _ (spliced ((false, eval e X.env) :: backTo pos (starEach es X.env))) _ _ s
  refine Calls.spliced_cons (thn (ha pins s σ H _ I h) fun u s1 ⟨x, H1, I1, r1, q1⟩ => ?_)
  exact thn (hr pos pins s1 σ H1 _ I1 q1) fun us s2 ⟨xs, H2, I2, r2, q2⟩ => ⟨x :: xs, H2, I2, .cons r1 r2, q2⟩
def tTup (t : TA) : TE := fun σ H Q => t σ H fun xs H1 => xs.length ≤ sizeLine ∧ ∀ p, H1 p = none → Q (.ref p) (upd H1 p (.tup xs))
def tLst (t : TA) : TE := fun σ H Q => t σ H fun xs H1 => xs.length ≤ sizeLine ∧ ∀ p, H1 p = none → Q (.ref p) (upd H1 p (.lst xs))
theorem pe_tup {x1} (h : PA X es t) : PE X (.Tuple es x1 pos) (tTup t) := by
  intro pins s σ H Q I hq
  refine wpAny_Tuple_spliced (thn (h pos pins s σ H _ I hq) fun us s1 ⟨xs, H1, I1, r, z, q⟩ => ⟨by rw [← r.length]; exact z, ?_⟩)
  have hf : H1 s1.heap.objs.size = none := I1.hok.fresh (Nat.le_refl _)
  refine ⟨.ref s1.heap.objs.size, upd H1 s1.heap.objs.size (.tup xs), I1.laid (t' := s1.toks) (fun b u e => Heap.get?_push_of_some _ e) (Nat.le_refl _) ?_, rfl, q _ hf⟩
  exact ⟨z, us, r, ⟨_, Heap.get?_push_size _ rfl, rfl, _, rfl⟩⟩
theorem pe_lst (h : PA X es t) : PE X (.List es pos) (tLst t) := by
  intro pins s σ H Q I hq
  refine wpAny_List_spliced (thn (h pos pins s σ H _ I hq) fun us s1 ⟨xs, H1, I1, r, z, q⟩ => ⟨by rw [← r.length]; exact z, ?_⟩)
  have hf : H1 s1.heap.objs.size = none := I1.hok.fresh (Nat.le_refl _)
  refine ⟨.ref s1.heap.objs.size, upd H1 s1.heap.objs.size (.lst xs), I1.laid (t' := s1.toks) (fun b u e => Heap.get?_push_of_some _ e) (Nat.le_refl _) ?_, rfl, q _ hf⟩
  exact ⟨z, us, 0, r, Heap.get?_push_size _ rfl⟩
end
abbrev Sp := List V → Hp → VK → XK → Prop
abbrev CXT := List Env → Hp → Shared → XK → Value → Shared → Prop
structure Env0 (P : Program) (w : World) (K : PySem.W.Frag) (mg : Str → Option Value) (base : Heap) (A : Around) (outer : List Env) (s : Shared) (H : Hp) : Prop where
  frames : A.frames = some outer
  mod : Mod K mg base
  bs : ∀ b o, base.get? b = some o → s.heap.get? b = some o ∧ H b = none
  bsz : base.objs.size ≤ s.heap.objs.size
  funs : s.heap.FunFrames base outer
  frf : ∀ b ∈ frs outer, H b = none
  hok : HOk P w H s.heap
  bare : AllBare s.gens
def CE (outer : List Env) (P : Program) (w : World) (H : Hp) (s : Shared) (Q : VK) (u : Value) (s' : Shared) : Prop :=
  ∃ v H', s'.os = s.os ∧ AllBare s'.gens ∧ Un (frs outer) [] H H' s.heap s'.heap ∧ HOk P w H' s'.heap ∧ RelV v u ∧ Q v H'
def CR (CX : CXT) (outer : List Env) (P : Program) (w : World) (H : Hp) (s : Shared) (Q : VK) (E : XK) (r : Result) (s' : Shared) : Prop :=
  match r with
  | .ok (.ret u) => CE outer P w H s Q u s'
  | .ok _ => False
  | .error e => CX outer H s E e s'
structure FnOk (P : Program) (w : World) (K : PySem.W.Frag) (mg : Str → Option Value) (base : Heap) (CX : CXT) (k : Nat) (f : Addr) (fd : FuncData) (ps : List Str) (sp : Sp) : Prop where
  len : ∀ vs H Q E, sp vs H Q E → vs.length = ps.length
  run : ∀ (A : Around) (outer : List Env) (s : Shared) (H : Hp) (args : Args) (us : List Value) (vs : List V) (Q : VK) (E : XK), Room k A → Env0 P w K mg base A outer s H → BindsTo s fd args (ps.zip us) → Vals vs us → sp vs H Q E →
    codeAny (model P w) A (.call (.ref f) args) (CR CX outer P w H s Q E) s
theorem FnOk.imp {P : Program} {w : World} {K : PySem.W.Frag} {mg : Str → Option Value} {base : Heap} {CX : CXT} {k : Nat} {f : Addr} {fd : FuncData} {ps : List Str} {sp sp' : Sp} (F : FnOk P w K mg base CX k f fd ps sp)
    (h : ∀ vs H Q E, sp' vs H Q E → sp vs H Q E) : FnOk P w K mg base CX k f fd ps sp' :=
  ⟨fun vs H Q E q => F.len vs H Q E (h _ _ _ _ q), fun A outer s H args us vs Q E hr he hb hv hs => F.run A outer s H args us vs Q E hr he hb hv (h _ _ _ _ hs)⟩
theorem Env0.make {P : Program} {w : World} {K : PySem.W.Frag} {mg : Str → Option Value} {base : Heap} {A : Around} {outer : List Env} {s : Shared} {H : Hp} (e : Env0 P w K mg base A outer s H) (C : Addr) (us : List Value) (kw : List (Str × Value)) :
    Env0 P w K mg base (A.under (.builtin "type.__call__" ⟨.ref C :: us, kw⟩)) outer s H := ⟨by first | exact e.frames | (simpa [Around.under, Code.envs, Code.isFrame, pushEnvs] using e.frames), e.mod, e.bs, e.bsz, e.funs, e.frf, e.hok, e.bare⟩
section
variable {X : Cx} {pins : List (Addr × Obj)} {σ : St} {H : Hp} {s s' : Shared}
theorem Inv.env0 (I : Inv X pins σ H s) : Env0 X.prog X.w X.K X.mg X.base X.A X.stack s H :=
  ⟨I.ok.frames, I.ok.mod, I.bs, Nat.le_trans I.ok.bsz I.sz, I.stack, I.stkFree, I.hok, I.bare⟩
theorem Inv.after {Q : VK} {u : Value} (I : Inv X pins σ H s) (h : CE X.stack X.prog X.w H s Q u s') : EP X pins σ Q u s' := by
  obtain ⟨v, H', os, bare, un, hok, r, q⟩ := h
  obtain ⟨hh, g, d, t, os'⟩ := s'
  obtain rfl : os' = s.os := os
  exact ⟨v, H', I.call (h' := hh) (g' := g) (d' := d) (t' := t) (ch := []) un hok bare (fun b z => absurd z (by simp)), r, q⟩
end
def tCall (sp : Sp) (dvs : List V) (E : XK) (t : TA) : TE := fun σ H Q => t σ H fun vs H1 => sp (vs ++ dvs) H1 Q E
def tMeth (C : Addr) (m : Str) (sp : Sp) (dvs : List V) (E : XK) (ta : TE) (t : TA) : TE := fun σ H Q => ta σ H fun x H1 => ∃ a dx fs, x = .ref a ∧ H1 a = some (.ins C dx fs) ∧ fs.lookup m = none ∧
  t σ H1 fun vs H2 => sp (x :: (vs ++ dvs)) H2 Q E
def tMake (C : Addr) (sp : Sp) (dvs : List V) (E : XK) (t : TA) : TE := fun σ H Q => t σ H fun vs H1 => ∀ x dx, H1 x = none → H1 dx = none → dx ≠ x →
  sp (.ref x :: (vs ++ dvs)) (upd (upd H1 dx (.own x)) x (.ins C dx [])) (fun v H2 => v = .non ∧ Q (.ref x) H2) E
def Binds (K : PySem.W.Frag) (fd : FuncData) (ps : List Str) (ds : List Value) : Prop :=
  ∀ (s : Shared) (us : List Value), K.In s.heap → (us ++ ds).length = ps.length → BindsTo s fd ⟨us, []⟩ (ps.zip (us ++ ds))
theorem Binds.all {K : PySem.W.Frag} {fd : FuncData} {ps : List Str} (h : ∀ us : List Value, us.length = ps.length → bindArgs fd ⟨us, []⟩ = pure (ps.zip us)) : Binds K fd ps [] := fun s us _ hl => by
  rw [List.append_nil] at hl ⊢
  exact .of_eq (h us hl)
def Passes (CX : CXT) (X : Cx) (E : XK) : Prop := ∀ (pins : List (Addr × Obj)) (σ : St) (H : Hp) (s : Shared) (e : Value) (s' : Shared), Inv X pins σ H s → CX X.stack H s E e s' → X.xe e s'
section
variable {X : Cx} {CX : CXT} {k : Nat} {f C : Addr} {fd : FuncData} {ps : List Str} {sp : Sp} {dvs : List V} {ds : List Value} {E : XK} {x m : Str} {p pos apos : Pos} {e o : Expr} {es : List Expr} {ta : TE} {t : TA}
theorem run_fn {pins : List (Addr × Obj)} {σ : St} {H : Hp} {s : Shared} {Q : VK} {us : List Value} {vs : List V} (F : FnOk X.prog X.w X.K X.mg X.base CX k f fd ps sp) (hr : Room k X.A) (hb : Binds X.K fd ps ds) (hd : Vals dvs ds) (hx : Passes CX X E)
    (I : Inv X pins σ H s) (r : Vals vs us) (h : sp (vs ++ dvs) H Q E) : wpAny (model X.prog X.w) X.A (call (.ref f) us) (EP X pins σ Q) X.xe s := by
  have r2 : Vals (vs ++ dvs) (us ++ ds) := r.append hd
  have hl : (us ++ ds).length = ps.length := by rw [← r2.length]; exact F.len _ _ _ _ h
  refine wpAny_call (codeAny_mono (F.run X.A X.stack s H ⟨us, []⟩ (us ++ ds) (vs ++ dvs) Q E hr I.env0 (hb s us I.kIn hl) r2 h) fun r s' hq => ?_)
  cases r with
  | error e => exact hx pins σ H s e s' I hq
  | ok fl =>
    cases fl with
    | ret u => exact I.after hq
    | next => exact False.elim hq
    | brk => exact False.elim hq
    | cont => exact False.elim hq
theorem pe_call (F : FnOk X.prog X.w X.K X.mg X.base CX k f fd ps sp) (hr : Room k X.A) (hg : Gl X x) (hm : X.mg x = some (.ref f)) (hk : PySem.W.keepIn X.K (.ref f) = true) (hb : Binds X.K fd ps ds) (hd : Vals dvs ds) (hx : Passes CX X E)
    (ha : PA X (e :: es) t) (hdb : (x == ("__debug__" : Str)) = false := by decide) (he : starEach (e :: es) X.env = (false, eval e X.env) :: starEach es X.env := by rfl) (hpl : (backTo pos (starEach es X.env)).any (·.1) = false := by rfl) :
    PE X (.Call (.Name x p) (e :: es) [] pos) (tCall sp dvs E t) := by
  intro pins s σ H Q I h
  refine wpAny_Call_Name_kw (ld_glob I hg hm ?_ hdb)
  refine PySem.W.callWith_K (h₀ := X.base) I.ok.mod.kin hk (thn (ha pos pins s σ H _ I h) fun us s1 ⟨vs, H1, I1, r, q⟩ => ⟨I1.kIn, ?_⟩) he hpl
  exact run_fn F hr hb hd hx I1 r q
theorem pe_call0 (F : FnOk X.prog X.w X.K X.mg X.base CX k f fd ps sp) (hr : Room k X.A) (hg : Gl X x) (hm : X.mg x = some (.ref f)) (hk : PySem.W.keepIn X.K (.ref f) = true) (hb : Binds X.K fd ps ds) (hd : Vals dvs ds) (hx : Passes CX X E)
    (hdb : (x == ("__debug__" : Str)) = false := by decide) : PE X (.Call (.Name x p) [] [] pos) (tCall sp dvs E tNil) := by
  intro pins s σ H Q I h
  refine wpAny_Call_Name_kw (ld_glob I hg hm ?_ hdb)
  exact PySem.W.callWith_K0 I.kIn hk (run_fn (us := []) F hr hb hd hx I .nil h)
theorem pe_meth {pl : Sem Bool} (he : PE X o ta) (c : Cls X.K C) (hm : Meth X.K C m f) (F : FnOk X.prog X.w X.K X.mg X.base CX k f fd ps sp) (hr : Room k X.A) (hb : Binds X.K fd ps ds) (hd : Vals dvs ds) (hx : Passes CX X E) (ha : PA X (e :: es) t)
    (hst : starEach (e :: es) X.env = (false, eval e X.env) :: starEach es X.env := by rfl) (hpl : (backTo pos (starEach es X.env)).any (·.1) = false := by rfl)
    (ht : eval (.Call (.Attribute o m apos) (e :: es) [] pos) X.env = (do
      let ov ← eval o X.env
      standAt apos.atName
      let (f, first) ← holding [ov] (getMethod ov m pl)
      callWith pos f first (backTo pos (starEach (e :: es) X.env)) (backToKw pos (keywordEach [] X.env))) := by rfl) :
    PE X (.Call (.Attribute o m apos) (e :: es) [] pos) (tMeth C m sp dvs E ta t) := by
  intro pins s σ H Q I h
  refine PySem.W.methodCall_KW (pl := pl) (thn (he pins s σ H _ I h) fun u s1 ⟨x, H1, I1, rx, a, dx, fs, ex, ea, l, q⟩ => ?_) ht
  subst ex
  obtain rfl : u = Value.ref a := rx
  refine getmeth_ok I1 ea c hm l ?_
  refine PySem.W.callWith_K (first := [.ref a]) (h₀ := X.base) I.ok.mod.kin hm.kp (thn (ha pos pins s1 σ H1 _ I1 q) fun us s2 ⟨vs, H2, I2, r, q2⟩ => ⟨I2.kIn, ?_⟩) hst hpl
  exact run_fn (us := .ref a :: us) (vs := .ref a :: vs) F hr hb hd hx I2 (.cons rfl r) q2
structure Mk (K : PySem.W.Frag) (C f : Addr) : Prop where
  makes : PySem.W.makesIn K C = true
  init : PySem.W.findIn K (.ref C) "__init__" = some (some (.ref f))
  fn : PySem.W.isFn K (.ref f) = true
  kp : PySem.W.keepIn K (.ref C) = true
theorem run_make {pins : List (Addr × Obj)} {σ : St} {H : Hp} {s : Shared} {Q : VK} {us : List Value} {vs : List V} (M : Mk X.K C f) (F : FnOk X.prog X.w X.K X.mg X.base CX k f fd ps sp) (hr : Room (k + 1) X.A) (hb : Binds X.K fd ps ds) (hd : Vals dvs ds)
    (hx : Passes CX X E) (I : Inv X pins σ H s) (r : Vals vs us)
    (h : ∀ x dx, H x = none → H dx = none → dx ≠ x → sp (.ref x :: (vs ++ dvs)) (upd (upd H dx (.own x)) x (.ins C dx [])) (fun v H2 => v = .non ∧ Q (.ref x) H2) E) :
    wpAny (model X.prog X.w) X.A (call (.ref C) us) (EP X pins σ Q) X.xe s := by
  have hq := h (s.heap.objs.size + 1) s.heap.objs.size (I.hok.fresh (Nat.le_succ _)) (I.hok.fresh (Nat.le_refl _)) (Nat.ne_of_lt (Nat.lt_succ_self _))
  have I2 := Inv.made (C := C) I
  have r2 : Vals (V.ref (s.heap.objs.size + 1) :: (vs ++ dvs)) (Value.ref (s.heap.objs.size + 1) :: (us ++ ds)) := .cons rfl (r.append hd)
  have hl : (Value.ref (s.heap.objs.size + 1) :: us ++ ds).length = ps.length := by
    have e := r2.length
    rw [F.len _ _ _ _ hq] at e
    exact e.symm
  refine wpAny_call (make_map (f := f) I.kIn M.makes M.init (beq_iff_eq.mp M.fn) (codeAny_mono (F.run _ X.stack _ _ ⟨Value.ref (s.heap.objs.size + 1) :: us, []⟩ (Value.ref (s.heap.objs.size + 1) :: (us ++ ds)) _ _ E (hr.make C us [])
    (I2.env0.make C us []) (hb _ (Value.ref (s.heap.objs.size + 1) :: us) I2.kIn hl) r2 hq) fun r s' hq' => ?_))
  cases r with
  | error e => exact hx pins σ _ _ e s' I2 hq'
  | ok fl =>
    cases fl with
    | ret u =>
      obtain ⟨v, H', I3, rv, ev, q3⟩ := I2.after hq'
      subst ev
      exact ⟨rv, ⟨V.ref (s.heap.objs.size + 1), H', I3, rfl, q3⟩⟩
    | next => exact False.elim hq'
    | brk => exact False.elim hq'
    | cont => exact False.elim hq'
theorem pe_make0 (M : Mk X.K C f) (F : FnOk X.prog X.w X.K X.mg X.base CX k f fd ps sp) (hr : Room (k + 1) X.A) (hg : Gl X x) (hm : X.mg x = some (.ref C)) (hb : Binds X.K fd ps ds) (hd : Vals dvs ds) (hx : Passes CX X E)
    (hdb : (x == ("__debug__" : Str)) = false := by decide) : PE X (.Call (.Name x p) [] [] pos) (tMake C sp dvs E tNil) := by
  intro pins s σ H Q I h
  refine wpAny_Call_Name_kw (ld_glob I hg hm ?_ hdb)
  exact PySem.W.callWith_K0 I.kIn M.kp (run_make (us := []) M F hr hb hd hx I .nil h)
end
section
variable {X : Cx} {CX : CXT} {k : Nat} {f C : Addr} {fd : FuncData} {ps ks : List Str} {sp : Sp} {E : XK} {x m : Str} {p pos apos kpos : Pos} {e o : Expr} {es : List Expr} {kws : List Keyword} {te ta : TE} {t tk : TA} {nm : Option Str}
structure KBinds (K : PySem.W.Frag) (fd : FuncData) (ps ks : List Str) (g : List Value → List Value → List Value) (gV : List V → List V → List V) : Prop where
  to : ∀ (s : Shared) (us ws : List Value), K.In s.heap → (g us ws).length = ps.length → BindsTo s fd ⟨us, ks.zip ws⟩ (ps.zip (g us ws))
  rel : ∀ {vs : List V} {us : List Value} {zs : List V} {ws : List Value}, Vals vs us → Vals zs ws → Vals (gV vs zs) (g us ws)
variable {g : List Value → List Value → List Value} {gV : List V → List V → List V}
end
structure FnScope (N P : List Str) (sc : Scope) : Prop where
  kind : sc.kind = .function
  co : sc.isCoroutine = false
  gen : sc.isGenerator = false
  nd : N.Nodup
  pre : N.take P.length = P
  par : ∀ x ∈ P, sc.names.lookup x = some .local ∨ sc.names.lookup x = some .cell
  nofree : ∀ y ∈ sc.names, y.2 ≠ .free
theorem bindL_out {kindOf : Str → Option NameKind} {x : Str} : ∀ {binds : List (Str × Value)} {m : Str → Option Value}, (∀ v, (x, v) ∉ binds) → bindL kindOf binds m x = m x
  | [], _, _ => rfl
  | (n, v) :: r, m, h => by
    unfold bindL
    rw [bindL_out fun w hw => h w (List.mem_cons_of_mem _ hw)]
    split
    · have : x ≠ n := by rintro rfl; exact h v List.mem_cons_self
      simp [this]
    · rfl
theorem bindC_out {kindOf : Str → Option NameKind} {x : Str} : ∀ {binds : List (Str × Value)} {m : Str → Option Value}, (∀ v, (x, v) ∉ binds) → bindC kindOf binds m x = m x
  | [], _, _ => rfl
  | (n, v) :: r, m, h => by
    unfold bindC
    rw [bindC_out fun w hw => h w (List.mem_cons_of_mem _ hw)]
    split
    · rfl
    · have : x ≠ n := by rintro rfl; exact h v List.mem_cons_self
      simp [this]
theorem bindL_get {kindOf : Str → Option NameKind} {x : Str} {v : Value} : ∀ {P : List Str} {vs : List Value} {i : Nat} {m : Str → Option Value}, P.Nodup → P[i]? = some x → vs[i]? = some v → kindOf x = some .local →
    bindL kindOf (P.zip vs) m x = some v
  | [], _, _, _, _, h, _, _ => by simp at h
  | _ :: _, [], _, _, _, _, h, _ => by simp at h
  | p :: P, w :: vs, 0, m, nd, h1, h2, hk => by
    simp at h1 h2; subst h1; subst h2
    show bindL kindOf ((p, w) :: P.zip vs) m p = _
    unfold bindL
    rw [bindL_out fun v hv => (List.nodup_cons.mp nd).1 (List.of_mem_zip hv).1, if_pos hk]
    simp
  | p :: P, w :: vs, i + 1, m, nd, h1, h2, hk => by
    show bindL kindOf ((p, w) :: P.zip vs) m x = _
    unfold bindL
    exact bindL_get (i := i) (List.nodup_cons.mp nd).2 (by simpa using h1) (by simpa using h2) hk
theorem bindC_get {kindOf : Str → Option NameKind} {x : Str} {v : Value} : ∀ {P : List Str} {vs : List Value} {i : Nat} {m : Str → Option Value}, P.Nodup → P[i]? = some x → vs[i]? = some v → kindOf x ≠ some .local →
    bindC kindOf (P.zip vs) m x = some v
  | [], _, _, _, _, h, _, _ => by simp at h
  | _ :: _, [], _, _, _, _, h, _ => by simp at h
  | p :: P, w :: vs, 0, m, nd, h1, h2, hk => by
    simp at h1 h2; subst h1; subst h2
    show bindC kindOf ((p, w) :: P.zip vs) m p = _
    unfold bindC
    rw [bindC_out fun v hv => (List.nodup_cons.mp nd).1 (List.of_mem_zip hv).1, if_neg hk]
    simp
  | p :: P, w :: vs, i + 1, m, nd, h1, h2, hk => by
    show bindC kindOf ((p, w) :: P.zip vs) m x = _
    unfold bindC
    exact bindC_get (i := i) (List.nodup_cons.mp nd).2 (by simpa using h1) (by simpa using h2) hk
def start (N : List Str) (vs : List V) : St := vs.map some ++ List.replicate (N.length - vs.length) none
def cxOf (CX : CXT) (P : Program) (w : World) (K : PySem.W.Frag) (mg : Str → Option Value) (base : Heap) (N : List Str) (qual : Str) (scope : Scope) (f : Addr) (cd : Value) (A : Around) (outer : List Env) (s : Shared) (H : Hp) (E : XK) : Cx where
  prog := P
  w := w
  K := K
  mg := mg
  base := base
  A := A.deeper (envOfC qual scope s.heap.objs.size f cd)
  N := N
  s₀ := s
  H₀ := H
  env := envOfC qual scope s.heap.objs.size f cd
  outer := outer
  stack := envOfC qual scope s.heap.objs.size f cd :: outer
  ex := []
  calm := true
  fn := fun _ => true
  pn := []
  xe := fun e s' => wpAny (model P w) (A.deeper (envOfC qual scope s.heap.objs.size f cd)) (leaving (envOfC qual scope s.heap.objs.size f cd) e) (fun _ s'' => CX outer H s E e s'') (fun e' s'' => CX outer H s E e' s'') s'
theorem cell_has {sc : Scope} {n : Nat} {x : Str} (h : sc.names.lookup x = some .cell) : ∃ c, (cellsFrom n sc.names []).lookup x = some c := by
  have q := PySem.W.cellsFrom_some sc.names n [] (.inl h)
  exact Option.isSome_iff_exists.mp q
theorem inv_start {CX : CXT} {P : Program} {w : World} {K : PySem.W.Frag} {mg : Str → Option Value} {base : Heap} {N ps : List Str} {qual : Str} {scope : Scope} {f : Addr} {cd : Value} {A : Around} {outer : List Env} {s s1 : Shared} {H : Hp} {E : XK} {us : List Value} {vs : List V}
    (S : FnScope N ps scope) (hd : A.handled = none) (e0 : Env0 P w K mg base A outer s H) (hl : vs.length = ps.length) (r : Vals vs us)
    (x : InCallC s s.heap.objs.size (bindL (envOfC qual scope s.heap.objs.size f cd).kindOf (ps.zip us) fun _ => none) (cellsFrom (s.heap.objs.size + 1) scope.names []) (bindC (envOfC qual scope s.heap.objs.size f cd).kindOf (ps.zip us) fun _ => none) s1) :
    Inv (cxOf CX P w K mg base N qual scope f cd A outer s H E) [] (start N vs) H s1 := by
  have hpl : ps.length ≤ N.length := by have := congrArg List.length S.pre; rw [List.length_take] at this; omega
  obtain ⟨h1, tk, rfl, hk⟩ := x.done
  have noA : ∀ b : Addr, b ∉ (cxOf CX P w K mg base N qual scope f cd A outer s H E).ex := fun b z => absurd (show b ∈ ([] : List Addr) from z) (by simp)
  refine ⟨⟨e0.mod, S.kind, rfl, rfl, Nat.le_refl _, fun y z c h1 h2 => ?_, fun y hy => ?_, fun y c _ h => ?_, fun _ => hd, Around.frames_deeper e0.frames, .inr ⟨rfl, rfl⟩, fun b z => absurd z (noA b), e0.bs, e0.bsz, fun b _ _ => noA b, fun b z => absurd z (noA b), e0.funs, e0.frf⟩,
    rfl, e0.bare, Un.kept hk, ⟨_, x.toInCall.ns, fun i y v h1 h2 h3 => ?_⟩, fun y c h => ⟨_, x.cell y c h⟩, e0.hok.fresh (Nat.le_refl _), fun y c h => ?_, fun p hp => absurd (show p ∈ ([] : List (Addr × Obj)) from hp) (by simp), e0.hok.kept hk, ?_⟩
  · exact name_of_addr x.apart (PySem.mem_of_lookup h1) (PySem.mem_of_lookup h2)
  · have hy : scope.names.lookup y = some .cell ∨ scope.names.lookup y = some .free := hy
    rcases hy with hy | hy
    · exact cell_has hy
    · exact absurd rfl (S.nofree _ (PySem.mem_of_lookup hy))
  · exact Nat.le_of_lt (x.above y c (PySem.mem_of_lookup h))
  · have hi : i < vs.length := by
      unfold start at h2
      by_cases hi : i < vs.length
      · exact hi
      · rw [List.getElem?_append_right (by simpa using hi)] at h2
        rw [List.getElem?_replicate] at h2
        split at h2 <;> cases h2
    have ha : vs[i]? = some v := by
      unfold start at h2
      rw [List.getElem?_append_left (by simpa using hi), List.getElem?_map] at h2
      cases e : vs[i]? with
      | none => rw [e] at h2; cases h2
      | some a => rw [e] at h2; cases h2; rfl
    obtain ⟨u, hu, rv⟩ := r.get ha
    have hp : ps[i]? = some y := by
      rw [← S.pre, List.getElem?_take_of_lt (by omega)]; exact h1
    have ndP : ps.Nodup := by rw [← S.pre]; exact S.nd.sublist (List.take_sublist _ _)
    refine ⟨u, rv, ?_⟩
    rcases S.par y (List.mem_of_getElem? hp) with k | k
    · exact .inl ⟨k, bindL_get ndP hp hu k⟩
    · obtain ⟨c, e⟩ := cell_has (n := s.heap.objs.size + 1) k
      refine .inr ⟨.inl k, c, e, ?_⟩
      have q := x.cell y c e
      rw [bindC_get ndP hp hu (by show scope.names.lookup y ≠ _; rw [k]; decide)] at q
      exact q
  · exact e0.hok.fresh (Nat.le_of_lt (x.above y c (PySem.mem_of_lookup h)))
  · unfold start
    show _ = N.length
    rw [List.length_append, List.length_map, List.length_replicate]
    omega
theorem fn_of {CX : CXT} {P : Program} {w : World} {K : PySem.W.Frag} {mg : Str → Option Value} {base : Heap} {k : Nat} {f : Addr} {name qual : Str} {params : Arguments} {body : List Stmt} {scope : Scope} {dV kV doc pm cdv ct oc : Value} {an od : Option Addr}
    {osl : Array (Option Value)} {N ps : List Str} {sp : Sp} (lk : K.lookup f = some ⟨oc, od, .func (PySem.W.fnOf name qual params body scope dV kV doc pm an cdv ct), osl⟩) (hcd : PySem.W.codeIn K cdv qual = true) (S : FnScope N ps scope)
    (len : ∀ vs H Q E, sp vs H Q E → vs.length = ps.length)
    (hbody : ∀ (A : Around) (outer : List Env) (s : Shared) (H : Hp) (vs : List V) (Q : VK) (E : XK), Room k (A.deeper (envOfC qual scope s.heap.objs.size f cdv)) → sp vs H Q E →
      ∃ t, PSs (cxOf CX P w K mg base N qual scope f cdv A outer s H E) body t ∧ t { nx := fun _ H' => Q .non H', rt := Q } (start N vs) H) :
    FnOk P w K mg base CX (k + 1) f (PySem.W.fnOf name qual params body scope dV kV doc pm an cdv ct) ps sp := by
  refine ⟨len, fun A outer s H args us vs Q E hr e0 hb r hsp => ?_⟩
  have hl := len _ _ _ _ hsp
  have KX : K.In s.heap := e0.mod.kin.keeps fun b o e => (e0.bs b o e).1
  have lim : s.heap.NoLimit := e0.mod.nolimit.keeps fun b o e => (e0.bs b o e).1
  have hkind : ∀ y ∈ ps.zip us, scope.names.lookup y.1 = some .local ∨ (scope.names.lookup y.1 = some .cell ∧ ((cellsFrom (s.heap.objs.size + 1) scope.names []).lookup y.1).isSome = true) := fun ⟨n, v⟩ hy => by
    rcases S.par n (List.of_mem_zip hy).1 with q | q
    · exact .inl q
    · exact .inr ⟨q, PySem.W.cellsFrom_some _ _ _ (.inl q)⟩
  refine codeAny_call_function hr.depth (KX _ _ lk) rfl S.co S.gen rfl (PySem.W.codeRec_of KX hcd) (hb _ _ _ _ ?_)
  refine wpAny_newFunctionEnv_cells S.kind hkind fun env he s1 x => ?_
  subst he
  refine ⟨lim.keeps x.toInCall.keep, codeAny_func ?_⟩
  obtain ⟨t, ht, hq⟩ := hbody A outer s H vs Q E (hr.deeper _) hsp
  have I : Inv (cxOf CX P w K mg base N qual scope f cdv A outer s H E) [] (start N vs) H s1 := inv_start S hr.hd e0 hl r x
  refine wpAny_mono (ht [] s1 (start N vs) H _ I hq) (fun fl s' hs => ?_) fun e s' hs => hs
  have fin : ∀ {σ' : St} {H' : Hp} {v : V} {u : Value}, Inv (cxOf CX P w K mg base N qual scope f cdv A outer s H E) [] σ' H' s' → RelV v u → Q v H' → CE outer P w H s Q u s' :=
    fun {σ' H' v u} J rv q => ⟨v, H', J.os, J.bare, J.base, J.hok, rv, q⟩
  cases fl with
  | ret u =>
    obtain ⟨v, σ', H', J, rv, q⟩ := hs
    exact fin J rv q
  | next =>
    obtain ⟨σ', H', J, q⟩ := hs
    exact fin (v := V.non) (u := Value.none) J rfl q
  | brk =>
    obtain ⟨_, _, _, q⟩ := hs
    exact False.elim q
  | cont =>
    obtain ⟨_, _, _, q⟩ := hs
    exact False.elim q
end L2
namespace L2
open PySem PySem.Spec PyProof.Rows
section
variable {X : Cx} {x : Str} {p pos : Pos} {e : Expr} {es : List Expr} {t : TA} {id T : String} {r : List V → Hp → VK → Prop}
def tCB (r : List V → Hp → VK → Prop) (t : TA) : TE := fun σ H Q => t σ H fun vs H1 => r vs H1 Q
theorem pe_callB (hc : CallR X (.builtin id) r) (hg : Gl X x) (hm : X.mg x = none) (hv : bootBuiltins x = some (.builtin id)) (ha : PA X (e :: es) t) (hn : x ≠ "__name__" := by decide) (hdb : (x == ("__debug__" : Str)) = false := by decide)
    (he : starEach (e :: es) X.env = (false, eval e X.env) :: starEach es X.env := by rfl) (hpl : (backTo pos (starEach es X.env)).any (·.1) = false := by rfl) : PE X (.Call (.Name x p) (e :: es) [] pos) (tCB r t) := by
  intro pins s σ H Q I h
  refine wpAny_Call_Name_kw (ld_blt I hg hm hv ?_ hn hdb)
  exact PyProof.Rows.callWith_builtin1 (thn (ha pos pins s σ H _ I h) fun us s1 ⟨vs, H1, I1, r1, q1⟩ => hc pins s1 σ H1 vs us Q I1 r1 q1) he hpl
theorem pe_callTy (hc : CallR X (.type T) r) (hg : Gl X x) (hm : X.mg x = none) (hv : bootBuiltins x = some (.type T)) (ha : PA X (e :: es) t) (hn : x ≠ "__name__" := by decide) (hdb : (x == ("__debug__" : Str)) = false := by decide)
    (he : starEach (e :: es) X.env = (false, eval e X.env) :: starEach es X.env := by rfl) (hpl : (backTo pos (starEach es X.env)).any (·.1) = false := by rfl) : PE X (.Call (.Name x p) (e :: es) [] pos) (tCB r t) := by
  intro pins s σ H Q I h
  refine wpAny_Call_Name_kw (ld_blt I hg hm hv ?_ hn hdb)
  exact PyProof.Rows.callWith_type1 (thn (ha pos pins s σ H _ I h) fun us s1 ⟨vs, H1, I1, r1, q1⟩ => hc pins s1 σ H1 vs us Q I1 r1 q1) he hpl
end
end L2
namespace HT
open PySem PyProof.Rows
section
open PySem.SeqAt
open PySem.AutoSeq1 (wpAny_loadPart')
open PySem.MeetsSeq PySem.MeetsSeq2 PySem.MeetsSeq3
end
section
variable {prog : Program} {w : World} {A : Around} {E : Value → Shared → Prop} {s : Shared}
theorem cat_tup {t b : Addr} {vs ws : List Value} {Q : Value → Shared → Prop} (ht : IsTup s.heap t vs.toArray) (hb : IsTup s.heap b ws.toArray) (hv : vs ≠ [])
    (h1 : ws = [] → Q (.ref t) s) (h2 : ws ≠ [] → Q (.ref s.heap.objs.size) { s with heap := s.heap.push { cls := .type "tuple", data := .seq (vs ++ ws).toArray } })
    (hsz : vs.length + ws.length ≤ sizeLine) : wpAny (model prog w) A (binaryOp .Add (.ref t) (.ref b)) Q E s := by
  obtain ⟨⟨cls, dd, data, sl⟩, ho, hc, n, hd⟩ := id ht
  obtain ⟨⟨cls2, dd2, data2, sl2⟩, ho2, hc2, n2, hd2⟩ := id hb
  simp only at hc hd hc2 hd2
  subst hc hd hc2 hd2
  have e : vs.toArray ++ ws.toArray = (vs ++ ws).toArray := by simp
  by_cases hw : ws = []
  · exact concat_meets ⟨_, ho, rfl⟩ ⟨_, ho2, rfl⟩ noFill_tuple_add seq_tuple_add PySem.F.slot_tuple_add PySem.F.entry_tuple_add (PySem.F.args_tuple_add_2 _ _)
      (tuple_addW1 t b vs.toArray ws.toArray n n2 dd dd2 sl sl2 (by simpa using hv) (by simp [hw])) ⟨ho, ho2, h1 hw⟩
  · refine concat_meets ⟨_, ho, rfl⟩ ⟨_, ho2, rfl⟩ noFill_tuple_add seq_tuple_add PySem.F.slot_tuple_add PySem.F.entry_tuple_add (PySem.F.args_tuple_add_2 _ _)
      (tuple_addW2 t b vs.toArray ws.toArray n n2 dd dd2 sl sl2 (by simpa using hv) (by simpa using hw) (by rw [List.size_toArray, List.size_toArray]; exact hsz)) ⟨ho, ho2, ?_⟩
    rw [e]
    exact h2 hw
def sIx (n d : Nat) : Option Int → Nat
  | none => d
  | some v => if v < 0 then (v + (n : Int)).toNat else min v.toNat n
theorem sIx_nat (n d k : Nat) : sIx n d (some (k : Int)) = min k n := by
  show (if (k : Int) < 0 then ((k : Int) + (n : Int)).toNat else min (k : Int).toNat n) = min k n
  rw [if_neg (by omega), Int.toNat_natCast]
theorem sIx_le (n d : Nat) (hd : d ≤ n) (o : Option Int) : sIx n d o ≤ n := by
  cases o with
  | none => exact hd
  | some v =>
    show (if v < 0 then (v + (n : Int)).toNat else min v.toNat n) ≤ n
    by_cases hv : v < 0
    · rw [if_pos hv]; omega
    · rw [if_neg hv]; exact Nat.min_le_right _ _
theorem clip_eq (v : Int) (n d : Nat) : (if v < 0 then max (v + (n : Int)) 0 else min v (n : Int)) = ((sIx n d (some v) : Nat) : Int) := by
  show (if v < 0 then max (v + (n : Int)) 0 else min v (n : Int)) = (((if v < 0 then (v + (n : Int)).toNat else min v.toNat n) : Nat) : Int)
  by_cases hv : v < 0
  · simp only [if_pos hv]; omega
  · simp only [if_neg hv]; omega
theorem adjust_gen (lo hi : Option Int) (n : Nat) : Builtin.Slice.sliceAdjust lo hi 1 (n : Int) = (((sIx n 0 lo : Nat) : Int), ((sIx n n hi : Nat) : Int)) := by
  have h1 : ¬ ((1 : Int) < 0) := by omega
  unfold Builtin.Slice.sliceAdjust
  simp only [h1, if_false]
  refine Prod.ext ?_ ?_
  · cases lo with
    | none => rfl
    | some v => exact clip_eq v n 0
  · cases hi with
    | none => rfl
    | some v => exact clip_eq v n n
theorem places_gen (i j : Nat) : Builtin.Slice.slicePlaces (i : Int) (j : Int) 1 = j - i := by
  unfold Builtin.Slice.slicePlaces
  have h1 : (1 : Int) > 0 := by omega
  simp only [h1, if_true, Int.ediv_one]
  split <;> omega
theorem slicePart_ {v : Value} {o : Option Int} {Q : Option Int → Shared → Prop} (p : IsPart v o) (h : Q o s) : wpAny (model prog w) A (Builtin.Slice.slicePartIndex v) Q E s := by
  cases p with
  | none => exact slicePart_none h
  | int i t => exact slicePart_int h
theorem sliceApplied_gen {sl : Addr} {vl vu : Value} {lo hi : Option Int} {n : Nat} {Q : Int × Int × Nat → Shared → Prop} (hs : s.heap.IsSliceOf sl vl vu .none) (pl : IsPart vl lo) (pu : IsPart vu hi)
    (h : Q (((sIx n 0 lo : Nat) : Int), 1, sIx n n hi - sIx n 0 lo) s) : wpAny (model prog w) A (Builtin.Slice.sliceApplied (.ref sl) (pure (n : Int))) Q E s := by
  obtain ⟨os, hos, hcs, hds⟩ := id hs
  unfold Builtin.Slice.sliceApplied Builtin.Slice.sliceFields
  refine wpAny_bind (wpAny_bind (wpAny_field hos hds (x := vl) rfl (wpAny_bind (wpAny_field hos hds (x := vu) rfl (wpAny_bind (wpAny_field hos hds (x := .none) rfl (wpAny_pure ?_)))))))
  refine wpAny_bind (slicePart_none ?_)
  show wpAny _ _ (if ((1 : Int) == 0) = true then _ else _) _ _ s
  rw [if_neg (by decide)]
  refine wpAny_bind (slicePart_ pl (wpAny_bind (slicePart_ pu (wpAny_bind (wpAny_pure ?_)))))
  show wpAny _ _ (match Builtin.Slice.sliceAdjust lo hi 1 (n : Int) with | (lo, hi) => pure (lo, (1 : Int), Builtin.Slice.slicePlaces lo hi 1)) _ _ s
  rw [adjust_gen lo hi n]
  show wpAny _ _ (pure (((sIx n 0 lo : Nat) : Int), (1 : Int), Builtin.Slice.slicePlaces ((sIx n 0 lo : Nat) : Int) ((sIx n n hi : Nat) : Int) 1)) _ _ s
  rw [places_gen]
  exact wpAny_pure h
theorem pick_gen (xs : Array Value) (i k : Nat) : ((List.range k).filterMap fun (m : Nat) => xs[((i : Int) + (m : Int) * 1).toNat]?).toArray = ((xs.toList.drop i).take k).toArray := by
  have e : (fun (m : Nat) => xs[((i : Int) + (m : Int) * 1).toNat]?) = fun m => xs[i + m]? := by
    funext m
    have : ((i : Int) + (m : Int) * 1).toNat = i + m := by omega
    rw [this]
  rw [e]
  have := pick_run xs i k
  rw [List.filterMap_map] at this
  have e2 : ((fun x => xs[x]?) ∘ fun x => i + x) = fun m => xs[i + m]? := rfl
  rw [e2] at this
  rw [this]
theorem getItem_tuple_cut {t sl : Addr} {items : Array Value} {vl vu : Value} {lo hi : Option Int} {Q : Value → Shared → Prop} (ht : IsTup s.heap t items) (hs : s.heap.IsSliceOf sl vl vu .none) (pl : IsPart vl lo) (pu : IsPart vu hi)
    (hw : ¬ (sIx items.size 0 lo = 0 ∧ sIx items.size items.size hi = items.size))
    (h : Q (.ref s.heap.objs.size) { s with heap := s.heap.push { cls := .type "tuple", data := .seq ((items.toList.drop (sIx items.size 0 lo)).take (sIx items.size items.size hi - sIx items.size 0 lo)).toArray } })
    (hsz : items.size ≤ sizeLine) : wpAny (model prog w) A (getItem (.ref t) (.ref sl)) Q E s := by
  have htake : sizeOk (.seq ((items.toList.drop (sIx items.size 0 lo)).take (sIx items.size items.size hi - sIx items.size 0 lo)).toArray) := by
    show ((items.toList.drop (sIx items.size 0 lo)).take (sIx items.size items.size hi - sIx items.size 0 lo)).toArray.size ≤ sizeLine
    rw [List.size_toArray, List.length_take, List.length_drop, Array.length_toList]
    omega
  have hj : sIx items.size items.size hi ≤ items.size := sIx_le _ _ (Nat.le_refl _) hi
  obtain ⟨os, hos, hcs, hds⟩ := id hs
  have hTs : s.TypeIs (.ref sl) "slice" := ⟨os, hos, hcs⟩
  unfold getItem
  try with_reducible refine wpAny_holding ?_
  first | refine wpAny_bind (wpAny_pure ?_) | skip
  refine wpAny_bind (wpAny_sequenceKey ht.typeIs (by decide) ?_)
  refine wpAny_bind (wpAny_callSpecial?_slot (name := Str.ofString "__getitem__") ht.typeIs PyProof.Rows.slot_tuple_getitem
    (wpAny_call_entry PyProof.Rows.slot_tuple_getitem ht.typeIs entry_tuple_getitem ?_ (args_tuple_getitem _ _)))
  show wpAny _ _ (Builtin.Tuple.tupleItemsOf (.ref t) >>= _) _ _ s
  refine wpAny_bind (tupleItemsOf_ ht ?_)
  refine wpAny_bind (wpAny_typeOf hTs ?_)
  rw [if_pos (by decide)]
  refine wpAny_bind (sliceApplied_gen hs pl pu ?_)
  have hno : ¬ ((((sIx items.size 0 lo : Nat) : Int) == 0 && (1 : Int) == 1 && (sIx items.size items.size hi - sIx items.size 0 lo) == items.size) = true) := by
    intro q
    rw [Bool.and_eq_true, Bool.and_eq_true] at q
    have q1 : ((sIx items.size 0 lo : Nat) : Int) = 0 := eq_of_beq q.1.1
    have q2 : sIx items.size items.size hi - sIx items.size 0 lo = items.size := eq_of_beq q.2
    exact hw ⟨by omega, by omega⟩
  show wpAny _ _ (if (((sIx items.size 0 lo : Nat) : Int) == 0 && (1 : Int) == 1 && (sIx items.size items.size hi - sIx items.size 0 lo) == items.size) = true then _ else _) _ _ s
  rw [if_neg hno, pick_gen]
  first
    | exact wpAny_bind (m := Builtin.Tuple.tupleExact _) (wpAny_newObj_type (wpAny_pure ⟨_, rfl, wpAny_pure h⟩) htake)
    | exact wpAny_bind (m := Builtin.Tuple.tupleExact _) (wpAny_newObj_type (wpAny_bind (wpAny_pure (wpAny_pure ⟨_, rfl, wpAny_pure h⟩))) htake)
    | exact wpAny_bind (wpAny_bind (m := Builtin.Tuple.tupleExact _) (wpAny_newObj_type (wpAny_pure (wpAny_pure ⟨_, rfl, wpAny_pure h⟩)) htake))
    | exact wpAny_bind (wpAny_bind (m := Builtin.Tuple.tupleExact _) (wpAny_newObj_type (wpAny_pure ⟨_, rfl, wpAny_pure h⟩) htake))
end
end HT
namespace L2
open PySem PySem.Spec PyProof.Rows
abbrev TO := St → Hp → (Option Int → Hp → Prop) → Prop
def PO (X : Cx) (e : Option Expr) (t : TO) : Prop :=
  ∀ (pins : List (Addr × Obj)) (s : Shared) (σ : St) (H : Hp) (Q : Option Int → Hp → Prop), Inv X pins σ H s → t σ H Q →
    wpAny (model X.prog X.w) X.A (evalPart e X.env) (fun u s' => ∃ o H', Inv X pins σ H' s' ∧ IsPart u o ∧ Q o H') X.xe s
def tNoPart : TO := fun _ H Q => Q none H
def tPart (t : TE) : TO := fun σ H Q => t σ H fun x H1 => ∃ i, x = .int i ∧ Q (some i) H1
theorem intsAre_of {ns : List Int} : ∀ {us : List Value}, Vals (ns.map V.int) us → IntsAre us ns := by
  induction ns with
  | nil => intro us r; rw [List.map_nil] at r; cases r; exact .nil
  | cons n ns ih =>
    intro us r
    rw [List.map_cons] at r
    cases r with
    | cons r1 r2 =>
      obtain ⟨t, e⟩ := r1
      subst e
      exact .cons n t (ih r2)
section
variable {X : Cx} {e : Expr} {te : TE} {lo hi : Option Expr} {tl th : TO} {pos p2 : Pos}
theorem po_none : PO X none tNoPart := by
  intro pins s σ H Q I h
  rw [evalPart_none]
  exact wpAny_pure ⟨none, H, I, .none, h⟩
theorem po_some (h : PE X e te) : PO X (some e) (tPart te) := by
  intro pins s σ H Q I hw
  rw [evalPart_some]
  refine thn (h pins s σ H _ I hw) fun u s1 ⟨x, H1, I1, r1, q1⟩ => ?_
  obtain ⟨i, rfl, q⟩ := q1
  obtain ⟨t, rfl⟩ := r1
  exact ⟨some i, H1, I1, .int i t, q⟩
def SlR (X : Cx) (r : V → Option Int → Option Int → Hp → VK → Prop) : Prop :=
  ∀ (pins : List (Addr × Obj)) (s : Shared) (σ : St) (H : Hp) (x : V) (v vl vu : Value) (lo hi : Option Int) (sl : Addr) (Q : VK), Inv X pins σ H s → RelV x v → s.heap.IsSliceOf sl vl vu .none → IsPart vl lo → IsPart vu hi → r x lo hi H Q →
    ∃ T id, typeLookup (.type T) "__getitem__" = pure (some (.builtin id)) ∧ s.TypeIs v T ∧ wpAny (model X.prog X.w) X.A (getItem v (.ref sl)) (EP X pins σ Q) X.xe s
def tSl (r : V → Option Int → Option Int → Hp → VK → Prop) (te : TE) (tl th : TO) : TE := fun σ H Q => te σ H fun x H1 => tl σ H1 fun l H2 => th σ H2 fun u H3 => r x l u H3 Q
theorem pe_slice {r : V → Option Int → Option Int → Hp → VK → Prop} (hr : SlR X r) (he : PE X e te) (hl : PO X lo tl) (hu : PO X hi th) : PE X (.Subscript e (.Slice lo hi none p2) pos) (tSl r te tl th) := by
  intro pins s σ H Q I h
  refine Subscript_ (thn (he pins s σ H _ I h) fun v s1 ⟨x, H1, I1, r1, q1⟩ => ?_)
  refine wpAny_Slice (thn (hl pins s1 σ H1 _ I1 q1) fun vl s2 ⟨l, H2, I2, pl, q2⟩ => thn (hu pins s2 σ H2 _ I2 q2) fun vu s3 ⟨u, H3, I3, pu, q3⟩ => ?_)
  rw [evalPart_none]
  refine wpAny_pure ?_
  have I4 : Inv X pins σ H3 { s3 with heap := s3.heap.push { cls := .type "slice", data := .fields #[vl, vu, .none] } } := I3.kept (t' := s3.toks) fun b ob q => Heap.get?_push_of_some _ q
  obtain ⟨T, id, hT, ht, hg⟩ := hr pins { s3 with heap := s3.heap.push { cls := .type "slice", data := .fields #[vl, vu, .none] } } σ H3 x v vl vu l u s3.heap.objs.size Q I4 r1 (Heap.IsSliceOf.new ..) pl pu q3
  show wpAny (model X.prog X.w) X.A (subscriptTail e (.Slice lo hi none p2) v (.ref s3.heap.objs.size)) (EP X pins σ Q) X.xe { s3 with heap := s3.heap.push { cls := .type "slice", data := .fields #[vl, vu, .none] } }
  exact tail_any (ops := [.ref s3.heap.objs.size, v]) ht hT hg (by with_unfolding_all rfl)
def cutV (xs : List V) (lo hi : Option Int) : List V := (xs.drop (HT.sIx xs.length 0 lo)).take (HT.sIx xs.length xs.length hi - HT.sIx xs.length 0 lo)
theorem cutV_length (xs : List V) (lo hi : Option Int) : (cutV xs lo hi).length ≤ xs.length := by
  unfold cutV
  rw [List.length_take, List.length_drop]
  omega
def rSlT (K : PySem.W.Frag) : V → Option Int → Option Int → Hp → VK → Prop := fun x lo hi H Q => ∃ a xs, x = .ref a ∧ SqT K H a xs ∧
  ¬ (HT.sIx xs.length 0 lo = 0 ∧ HT.sIx xs.length xs.length hi = xs.length) ∧ ∀ p, H p = none → Q (.ref p) (upd H p (.tup (cutV xs lo hi)))
theorem sl_tup : SlR X (rSlT X.K) := by
  intro pins s σ H x v vl vu lo hi sl Q I rx hs pl pu h
  obtain ⟨a, xs, rfl, hx, hw, q⟩ := h
  cases rx
  obtain ⟨its, r, ht, hz⟩ := I.tuple hx
  have hlen : its.toArray.size = xs.length := by rw [List.size_toArray]; exact r.length.symm
  refine ⟨"tuple", _, PyProof.Rows.slot_tuple_getitem.lookup, ht.typeIs, ?_⟩
  refine HT.getItem_tuple_cut ht hs pl pu (by rw [hlen]; exact hw) ?_ (by rw [hlen]; exact hz)
  rw [hlen]
  refine ⟨.ref s.heap.objs.size, _, I.laid (t' := s.toks) (o := .tup (cutV xs lo hi)) (fun b ob q => Heap.get?_push_of_some _ q) (Nat.le_refl _) ?_, rfl, q _ (I.hok.fresh (Nat.le_refl _))⟩
  exact ⟨Nat.le_trans (cutV_length xs lo hi) hz, _, (r.drop (HT.sIx xs.length 0 lo)).take (HT.sIx xs.length xs.length hi - HT.sIx xs.length 0 lo), IsTup.new _ _⟩
def rCatT (K : PySem.W.Frag) : R2 := fun x y H Q => ∃ a b xs ys, x = .ref a ∧ y = .ref b ∧ SqT K H a xs ∧ SqT K H b ys ∧ xs ≠ [] ∧ xs.length + ys.length ≤ sizeLine ∧
  (ys = [] → Q (.ref a) H) ∧ (ys ≠ [] → ∀ p, H p = none → Q (.ref p) (upd H p (.tup (xs ++ ys))))
theorem Vals.nil_iff {xs : List V} {us : List Value} (r : Vals xs us) : us = [] ↔ xs = [] := by
  cases r with
  | nil => simp
  | cons _ _ => simp
theorem op_catT : OpR X (binaryOp .Add) (rCatT X.K) := by
  intro pins s σ H x y v u Q I rx ry h
  obtain ⟨a, b, xs, ys, rfl, rfl, ha, hb, hx, hz, q1, q2⟩ := h
  cases rx
  cases ry
  obtain ⟨its, r1, p1, _⟩ := I.tuple ha
  obtain ⟨its2, r2, p2, _⟩ := I.tuple hb
  refine HT.cat_tup p1 p2 (fun z => hx (r1.nil_iff.mp z)) (fun z => ⟨.ref a, H, I, rfl, q1 (r2.nil_iff.mp z)⟩) (fun z => ?_) (by rw [← r1.length, ← r2.length]; exact hz)
  refine ⟨.ref s.heap.objs.size, _, I.laid (t' := s.toks) (o := .tup (xs ++ ys)) (fun b ob q => Heap.get?_push_of_some _ q) (Nat.le_refl _) ?_, rfl, q2 (fun w => z (r2.nil_iff.mpr w)) _ (I.hok.fresh (Nat.le_refl _))⟩
  exact ⟨by rw [List.length_append]; exact hz, _, r1.append r2, IsTup.new _ _⟩
end
end L2
namespace L2
open PySem PySem.Spec PyProof.Rows
def ixN (n : Nat) (i : Int) : Option Nat := if 0 ≤ i then (if i < n then some i.toNat else none) else if -(n : Int) ≤ i then some (i + n).toNat else none
def atI {α : Type} (xs : List α) (i : Int) : Option α := (ixN xs.length i).bind fun j => xs[j]?
theorem ixN_seq {n : Nat} {i : Int} {j : Nat} (h : ixN n i = some j) : seqIndex? i n = some j ∧ j < n ∧ -(n : Int) ≤ i ∧ i < n := by
  unfold ixN at h
  by_cases h0 : 0 ≤ i
  · rw [if_pos h0] at h
    by_cases h1 : i < n
    · rw [if_pos h1] at h
      have e : i.toNat = j := Option.some.inj h
      exact ⟨by rw [seqIndex_of h0 h1, e], by omega, by omega, h1⟩
    · rw [if_neg h1] at h; cases h
  · rw [if_neg h0] at h
    by_cases h1 : -(n : Int) ≤ i
    · rw [if_pos h1] at h
      have e : (i + n).toNat = j := Option.some.inj h
      exact ⟨by rw [seqIndex_neg (by omega) h1, e], by omega, h1, by omega⟩
    · rw [if_neg h1] at h; cases h
theorem atI_get {α : Type} {xs : List α} {i : Int} {v : α} (h : atI xs i = some v) : ∃ j, seqIndex? i xs.length = some j ∧ xs[j]? = some v ∧ j < xs.length ∧ -(xs.length : Int) ≤ i ∧ i < xs.length := by
  unfold atI at h
  cases e : ixN xs.length i with
  | none => rw [e] at h; cases h
  | some j =>
    rw [e] at h
    obtain ⟨h1, h2, h3, h4⟩ := ixN_seq e
    exact ⟨j, h1, h, h2, h3, h4⟩
theorem atI_nat {α : Type} {xs : List α} {j : Nat} {v : α} (h : xs[j]? = some v) : atI xs (j : Int) = some v := by
  have hj : j < xs.length := (List.getElem?_eq_some_iff.mp h).1
  have e : ixN xs.length (j : Int) = some j := by
    unfold ixN
    rw [if_pos (by omega), if_pos (by omega)]; simp
  unfold atI; rw [e]; exact h
theorem atI_last {α : Type} (xs : List α) (v : α) : atI (xs ++ [v]) (-1) = some v := by
  have hl : (xs ++ [v]).length = xs.length + 1 := by simp
  have e : ixN (xs ++ [v]).length (-1) = some xs.length := by
    unfold ixN
    rw [hl, if_neg (by decide), if_pos (by omega)]
    congr 1
    omega
  unfold atI
  rw [e]
  show (xs ++ [v])[xs.length]? = some v
  simp
def PlainIx (b : Expr) : Prop := ∀ o i, subscripted b false o i = operate [o, i] (getItem o i)
def IxR (X : Cx) (r : R2) : Prop :=
  ∀ (value slice : Expr) (pins : List (Addr × Obj)) (s : Shared) (σ : St) (H : Hp) (x y : V) (v u : Value) (Q : VK), Inv X pins σ H s → RelV x v → RelV y u → r x y H Q →
    subscripted slice false v u = operate [v, u] (getItem v u) → wpAny (model X.prog X.w) X.A (subscriptTail value slice v u) (EP X pins σ Q) X.xe s
def MtR (X : Cx) (id : String) (r : V → List V → Hp → VK → Prop) : Prop :=
  ∀ (pins : List (Addr × Obj)) (s : Shared) (σ : St) (H : Hp) (x : V) (xs : List V) (v : Value) (us : List Value) (Q : VK), Inv X pins σ H s → RelV x v → Vals xs us → r x xs H Q →
    wpAny (model X.prog X.w) X.A (call (.builtin id) (v :: us)) (EP X pins σ Q) X.xe s
section
variable {X : Cx} {a b : Expr} {ta tb : TE} {pos : Pos}
theorem IxR.or {r r' : R2} (h : IxR X r) (h' : IxR X r') : IxR X (fun x y H Q => r x y H Q ∨ r' x y H Q) := by
  intro value slice pins s σ H x y v u Q I rx ry q hs
  rcases q with q | q
  · exact h value slice pins s σ H x y v u Q I rx ry q hs
  · exact h' value slice pins s σ H x y v u Q I rx ry q hs
theorem pe_ix {r : R2} (hr : IxR X r) (ha : PE X a ta) (hb : PE X b tb) (hs : PlainIx b) : PE X (.Subscript a b pos) (tOp r ta tb) := by
  intro pins s σ H Q I h
  exact Subscript_ (binT ha hb I h fun v u s2 x y H2 I2 rx ry q => hr a b pins s2 σ H2 x y v u Q I2 rx ry q (hs _ _))
def rIxL (K : PySem.W.Frag) : R2 := fun x y H Q => ∃ p xs i v, x = .ref p ∧ y = .int i ∧ SqL K H p xs ∧ atI xs i = some v ∧ Q v H
def rIxT (K : PySem.W.Frag) : R2 := fun x y H Q => ∃ p xs i v, x = .ref p ∧ y = .int i ∧ SqT K H p xs ∧ atI xs i = some v ∧ Q v H
def rIxS : R2 := fun x y H Q => ∃ z i c, x = .str z ∧ y = .int i ∧ z.length ≤ sizeLine ∧ atI z.cps.toList i = some c ∧ Q (.str ⟨#[c]⟩) H
theorem ix_list : IxR X (rIxL X.K) := by
  intro value slice pins s σ H x y v u Q I rx ry h hs
  obtain ⟨p, xs, i, z, rfl, rfl, hq, he, q⟩ := h
  cases rx
  obtain ⟨t, rfl⟩ := ry
  obtain ⟨its, r, pl, hz⟩ := I.list hq
  obtain ⟨j, h1, h2, h3, h4, h5⟩ := atI_get he
  obtain ⟨w, ew, rw'⟩ := r.get h2
  have hl := r.length
  have hn := line63
  have fin : EP X pins σ Q w s := ⟨z, H, I, rw', q⟩
  by_cases h0 : 0 ≤ i
  · have hj : i.toNat = j := by
      rw [seqIndex_of h0 h5] at h1
      exact Option.some.inj h1
    exact item_listR pl.isList h0 (by omega) (by rw [hj]; simpa using ew) fin hs
  · have hj : (i + (its.toArray.size : Int)).toNat = j := by
      rw [seqIndex_neg (by omega) h4] at h1
      rw [List.size_toArray, ← hl]
      exact Option.some.inj h1
    exact subscriptTail_builtinR (x := w) pl.isList.typeIs slot_list_getitem.lookup
      (wpAny_getItem_list_neg (Q := fun r s' => r = w ∧ EP X pins σ Q r s') pl.isList (by omega) (by rw [List.size_toArray] <;> omega) (by omega) (by rw [hj]; simpa using ew) ⟨rfl, fin⟩) hs
theorem ix_tup : IxR X (rIxT X.K) := by
  intro value slice pins s σ H x y v u Q I rx ry h hs
  obtain ⟨p, xs, i, z, rfl, rfl, hq, he, q⟩ := h
  cases rx
  obtain ⟨t, rfl⟩ := ry
  obtain ⟨its, r, pl, hz⟩ := I.tuple hq
  obtain ⟨j, h1, h2, h3, h4, h5⟩ := atI_get he
  obtain ⟨w, ew, rw'⟩ := r.get h2
  have hl := r.length
  have hn := line63
  have fin : EP X pins σ Q w s := ⟨z, H, I, rw', q⟩
  exact subscriptTail_builtinR (x := w) pl.typeIs slot_tuple_getitem.lookup
    (getItem_tuple (j := j) (Q := fun r s' => r = w ∧ EP X pins σ Q r s') pl (by omega) (by omega) (by rw [List.size_toArray, ← hl]; exact h1) (by simpa using ew) ⟨rfl, fin⟩) hs
theorem ix_str : IxR X rIxS := by
  intro value slice pins s σ H x y v u Q I rx ry h hs
  obtain ⟨z, i, c, rfl, rfl, hz, he, q⟩ := h
  obtain ⟨t, rfl⟩ := rx
  obtain ⟨t', rfl⟩ := ry
  obtain ⟨j, h1, h2, h3, h4, h5⟩ := atI_get he
  have hl : z.cps.toList.length = z.length := by simp [Str.length]
  rw [hl] at h1 h4 h5
  have hn := line63
  exact tail_any (typeIs_str s z t) slot_str_getitem.lookup (getItem_str (c := c) (by
    have e1 : decide (i < -(2 ^ 63 : Int)) = false := decide_eq_false (by omega)
    have e2 : decide (i ≥ 2 ^ 63) = false := decide_eq_false (by omega)
    rw [e1, e2, Bool.or_false]) (by rw [h1]; simpa using h2) ⟨.str ⟨#[c]⟩, H, I.tok _, ⟨_, rfl⟩, q⟩) hs
def rIx (K : PySem.W.Frag) : R2 := fun x y H Q => rIxL K x y H Q ∨ rIxT K x y H Q ∨ rIxS x y H Q
theorem ix_seq : IxR X (rIx X.K) := ix_list.or (ix_tup.or ix_str)
theorem mapSeq_set (its : List Value) (n j : Nat) (u : Value) : Obj.mapSeq (·.setIfInBounds j u) { cls := .type "list", data := .seq its.toArray n } = { cls := .type "list", data := .seq (its.set j u).toArray n } := by
  simp [Obj.mapSeq]
theorem Inv.lst {pins : List (Addr × Obj)} {σ : St} {H : Hp} {s : Shared} {p : Addr} {xs : List V} (I : Inv X pins σ H s) (h : H p = some (.lst xs)) :
    ∃ (its : List Value) (n : Nat), Vals xs its ∧ s.heap.get? p = some { cls := .type "list", data := .seq its.toArray n } ∧ xs.length ≤ sizeLine := by
  obtain ⟨z, its, n, r, e⟩ := I.hok p _ h
  exact ⟨its, n, r, e, z⟩
theorem Inv.lstUpd {pins : List (Addr × Obj)} {σ : St} {H : Hp} {s : Shared} {p : Addr} {xs ys : List V} {its its' : List Value} {n n' : Nat} {f : Obj → Obj} (I : Inv X pins σ H s) (h : H p = some (.lst xs))
    (ho : s.heap.get? p = some { cls := .type "list", data := .seq its.toArray n }) (hf : f { cls := .type "list", data := .seq its.toArray n } = { cls := .type "list", data := .seq its'.toArray n' }) (r : Vals ys its') (hz : ys.length ≤ sizeLine) (t : Nat) :
    Inv X pins σ (upd H p (.lst ys)) { s with heap := s.heap.update p f, toks := t } := by
  have e : (s.heap.update p f).get? p = some { cls := .type "list", data := .seq its'.toArray n' } := by
    rw [Heap.get?_update_self f ho (by rw [hf] <;> rfl), hf]
  refine I.write (x := p) (e := p) (by rw [h]; trivial) (.inl rfl) (fun b u hb q => (Heap.get?_update_other _ _ (Ne.symm hb)).trans q) ⟨_, e⟩ ?_
  exact ⟨hz, its', n', r, e⟩
def rSetL : V → V → V → Hp → (Hp → Prop) → Prop := fun o i v H Q => ∃ p xs k j, o = .ref p ∧ i = .int k ∧ H p = some (.lst xs) ∧ ixN xs.length k = some j ∧ Q (upd H p (.lst (xs.set j v)))
theorem set_list : PSet X rSetL := by
  intro pins s σ H o i v ov iv u Q I ro ri rv h
  obtain ⟨p, xs, k, j, rfl, rfl, hp, hj, q⟩ := h
  cases ro
  obtain ⟨t, rfl⟩ := ri
  obtain ⟨its, n, r, ho, hz⟩ := I.lst hp
  obtain ⟨h1, h2, h3, h4⟩ := ixN_seq hj
  have hl := r.length
  have hn := line63
  have I' : Inv X pins σ (upd H p (.lst (xs.set j v))) { s with heap := s.heap.update p (Obj.mapSeq (·.setIfInBounds j u)) } :=
    I.lstUpd hp ho (mapSeq_set its n j u) (r.set rv j) (by rw [List.length_set]; exact hz) s.toks
  by_cases h0 : 0 ≤ k
  · have hk : k.toNat = j := by
      rw [seqIndex_of h0 h4] at h1
      exact Option.some.inj h1
    exact PySem.W.ki_setAt ho h0 (by omega) (by rw [List.size_toArray, ← hl]; exact h4) (by rw [hk]; exact ⟨_, I', q⟩)
  · have hk : (k + (its.toArray.size : Int)).toNat = j := by
      rw [seqIndex_neg (by omega) h3] at h1
      rw [List.size_toArray, ← hl]
      exact Option.some.inj h1
    exact PySem.W.ki_setBack ho (by omega) (by rw [List.size_toArray, ← hl]; exact h3) (by omega) (by rw [hk]; exact ⟨_, I', q⟩)
theorem slice_bounds (lo hi : Option Int) (n : Nat) : (sliceBounds lo hi none n).1 = ((HT.sIx n 0 lo : Nat) : Int) ∧ (sliceBounds lo hi none n).2.1 = ((HT.sIx n n hi : Nat) : Int) ∧ (sliceBounds lo hi none n).2.2 = 1 := by
  refine ⟨?_, ?_, rfl⟩
  · cases lo with
    | none => simp [sliceBounds, HT.sIx]
    | some i =>
      simp only [sliceBounds, HT.sIx, Option.getD_none, show (1 : Int) > 0 by decide, if_true]
      by_cases h : i < 0
      · simp only [h, if_true] <;> omega
      · simp only [h, if_false] <;> omega
  · cases hi with
    | none => simp [sliceBounds, HT.sIx]
    | some i =>
      simp only [sliceBounds, HT.sIx, Option.getD_none, show (1 : Int) > 0 by decide, if_true]
      by_cases h : i < 0
      · simp only [h, if_true] <;> omega
      · simp only [h, if_false] <;> omega
theorem slicePick_cut (its : List Value) (lo hi : Option Int) : slicePick its.toArray lo hi none = ((its.drop (HT.sIx its.length 0 lo)).take (HT.sIx its.length its.length hi - HT.sIx its.length 0 lo)).toArray := by
  obtain ⟨h1, h2, h3⟩ := slice_bounds lo hi its.toArray.size
  unfold slicePick
  rw [h1, h2, h3]
  simp only [sliceRange_one, pick_run, List.size_toArray] <;> rfl
def rSlL (K : PySem.W.Frag) : V → Option Int → Option Int → Hp → VK → Prop := fun x lo hi H Q => ∃ a xs, x = .ref a ∧ SqL K H a xs ∧ ∀ p, H p = none → Q (.ref p) (upd H p (.lst (cutV xs lo hi)))
theorem sl_list : SlR X (rSlL X.K) := by
  intro pins s σ H x v vl vu lo hi sl Q I rx hs pl pu h
  obtain ⟨a, xs, rfl, hx, q⟩ := h
  cases rx
  obtain ⟨its, r, ht, hz⟩ := I.list hx
  have hlen := r.length
  refine ⟨"list", _, slot_list_getitem.lookup, ht.isList.typeIs, ?_⟩
  refine wpAny_getItem_list_slice ht.isList hs pl pu .none (by simp) ?_ (by rw [List.size_toArray] <;> omega)
  rw [slicePick_cut, ← hlen]
  refine ⟨.ref s.heap.objs.size, _, I.laid (t' := s.toks) (o := .lst (cutV xs lo hi)) (fun b ob q => Heap.get?_push_of_some _ q) (Nat.le_refl _) ?_, rfl, q _ (I.hok.fresh (Nat.le_refl _))⟩
  exact ⟨Nat.le_trans (cutV_length xs lo hi) hz, _, 0, (r.drop (HT.sIx xs.length 0 lo)).take (HT.sIx xs.length xs.length hi - HT.sIx xs.length 0 lo), Heap.get?_push_size _ rfl⟩
def flatV : V → Bool
  | .non => true
  | .bl _ => true
  | .int _ => true
  | .str _ => true
  | _ => false
def eqV : V → V → Bool
  | .non, .non => true
  | .bl a, .bl b => a == b
  | .bl a, .int b => (if a then 1 else 0) == b
  | .int a, .bl b => a == (if b then 1 else 0)
  | .int a, .int b => a == b
  | .str a, .str b => a == b
  | _, _ => false
theorem eqAt_V {A : Around} {s : Shared} {y x : V} {u v : Value} (ry : RelV y u) (rx : RelV x v) (fy : flatV y = true) (fx : flatV x = true) : SeqAt.EqAt A s u v (eqV y x) := by
  cases y with
  | non =>
    cases ry
    cases x with
    | non => cases rx; exact SeqAt.EqAt.same _
    | bl b => cases rx; exact SeqAt.EqAt.none_bool b
    | int b => obtain ⟨t, rfl⟩ := rx; exact SeqAt.EqAt.none_int b t
    | str b => obtain ⟨t, rfl⟩ := rx; exact SeqAt.EqAt.none_str b t
    | _ => exact absurd (show false = true from fx) Bool.false_ne_true
  | bl a =>
    cases ry
    cases x with
    | non => cases rx; exact SeqAt.EqAt.bool_none a
    | bl b => cases rx; exact SeqAt.EqAt.bool_bool a b
    | int b => obtain ⟨t, rfl⟩ := rx; exact SeqAt.EqAt.bool_int a b t
    | str b => obtain ⟨t, rfl⟩ := rx; exact SeqAt.EqAt.bool_str a b t
    | _ => exact absurd (show false = true from fx) Bool.false_ne_true
  | int a =>
    obtain ⟨t', rfl⟩ := ry
    cases x with
    | non => cases rx; exact SeqAt.EqAt.int_none a t'
    | bl b => cases rx; exact SeqAt.EqAt.int_bool a t' b
    | int b => obtain ⟨t, rfl⟩ := rx; exact SeqAt.EqAt.int_int a t' b t
    | str b => obtain ⟨t, rfl⟩ := rx; exact SeqAt.EqAt.int_str a t' b t
    | _ => exact absurd (show false = true from fx) Bool.false_ne_true
  | str a =>
    obtain ⟨t', rfl⟩ := ry
    cases x with
    | non => cases rx; exact SeqAt.EqAt.str_none a t'
    | bl b => cases rx; exact SeqAt.EqAt.str_bool a t' b
    | int b => obtain ⟨t, rfl⟩ := rx; exact SeqAt.EqAt.str_int a t' b t
    | str b => obtain ⟨t, rfl⟩ := rx; exact SeqAt.EqAt.str_str a t' b t
    | _ => exact absurd (show false = true from fx) Bool.false_ne_true
  | _ => exact absurd (show false = true from fy) Bool.false_ne_true
def eqU (x : V) (u : Value) : Bool := match u with
  | .none => eqV .non x
  | .bool b => eqV (.bl b) x
  | .int i _ => eqV (.int i) x
  | .str z _ => eqV (.str z) x
  | _ => false
theorem eqU_of {x y : V} {u : Value} (r : RelV y u) (f : flatV y = true) : eqU x u = eqV y x := by
  cases y with
  | non => cases r; rfl
  | bl b => cases r; rfl
  | int i => obtain ⟨t, rfl⟩ := r; rfl
  | str z => obtain ⟨t, rfl⟩ := r; rfl
  | _ => exact absurd (show false = true from f) Bool.false_ne_true
theorem any_eqU {x : V} : ∀ {xs : List V} {us : List Value}, Vals xs us → xs.all flatV = true → us.any (eqU x) = xs.any fun y => eqV y x
  | _, _, .nil, _ => rfl
  | y :: xs, u :: us, .cons r t, f => by
    rw [List.all_cons, Bool.and_eq_true] at f
    rw [List.any_cons, List.any_cons, eqU_of r f.1, any_eqU t f.2]
theorem mem_eqAt {A : Around} {s : Shared} {x : V} {v : Value} (rx : RelV x v) (fx : flatV x = true) : ∀ {xs : List V} {us : List Value}, Vals xs us → xs.all flatV = true → ∀ u ∈ us, SeqAt.EqAt A s u v (eqU x u)
  | _, _, .nil, _ => fun u hu => by cases hu
  | y :: xs, u :: us, .cons r t, f => fun u' hu => by
    rw [List.all_cons, Bool.and_eq_true] at f
    rcases List.mem_cons.mp hu with rfl | hu
    · rw [eqU_of r f.1]; exact eqAt_V r rx f.1 fx
    · exact mem_eqAt rx fx t f.2 u' hu
def inV (x : V) (xs : List V) : Bool := xs.any fun y => eqV y x
def rIn (K : PySem.W.Frag) (neg : Bool) : R2 := fun x y H Q => ∃ p xs, y = .ref p ∧ (SqL K H p xs ∨ SqT K H p xs) ∧ flatV x = true ∧ xs.all flatV = true ∧ Q (.bl (if neg then !inV x xs else inV x xs)) H
theorem op_in_seq : OpR X (compareOp .In) (rIn X.K false) := by
  intro pins s σ H x y v u Q I rx ry h
  obtain ⟨p, xs, rfl, hq, fx, fs, q⟩ := h
  cases ry
  rcases hq with hq | hq
  · obtain ⟨its, r, pl, hz⟩ := I.list hq
    refine SeqAt.in_listAt (eqU x) pl.isList (fun w hw => mem_eqAt rx fx r fs w (by simpa using hw)) ⟨.bl _, H, I, rfl, ?_⟩
    rw [show its.toArray.any (eqU x) = its.any (eqU x) by simp, any_eqU r fs]
    exact q
  · obtain ⟨its, r, pl, hz⟩ := I.tuple hq
    refine SeqAt.in_tupleAt (eqU x) pl (fun w hw => mem_eqAt rx fx r fs w (by simpa using hw)) ⟨.bl _, H, I, rfl, ?_⟩
    rw [show its.toArray.any (eqU x) = its.any (eqU x) by simp, any_eqU r fs]
    exact q
theorem call_len_seq : CallR X (.builtin "len") (fun xs H Q => ∃ p ys, xs = [.ref p] ∧ (SqL X.K H p ys ∨ SqT X.K H p ys) ∧ Q (.int ys.length) H) := by
  intro pins s σ H xs us Q I r h
  obtain ⟨p, ys, rfl, hq, q⟩ := h
  obtain ⟨u, rfl, rx⟩ := vals1 r
  cases rx
  have hn := line63
  rcases hq with hq | hq
  · obtain ⟨its, r', pl, hz⟩ := I.list hq
    have hlen := r'.length
    exact Calls.call_len_list pl.isList (by simp only [List.size_toArray] <;> omega) ⟨.int ys.length, H, I.tok _, ⟨s.toks + 1, by rw [List.size_toArray, hlen]⟩, q⟩
  · obtain ⟨its, r', pl, hz⟩ := I.tuple hq
    have hlen := r'.length
    exact len_tuple pl (by simp only [List.size_toArray] <;> omega) ⟨.int ys.length, H, I.tok _, ⟨s.toks + 1, by rw [List.size_toArray, hlen]⟩, q⟩
theorem call_list_of : CallR X (.type "list") (fun xs H Q => ∃ p ys, xs = [.ref p] ∧ (SqL X.K H p ys ∨ SqT X.K H p ys) ∧ ∀ l, H l = none → Q (.ref l) (upd H l (.lst ys))) := by
  intro pins s σ H xs us Q I r h
  obtain ⟨p, ys, rfl, hq, q⟩ := h
  obtain ⟨u, rfl, rx⟩ := vals1 r
  cases rx
  have fin : ∀ (its : List Value), Vals ys its → ys.length ≤ sizeLine → ∀ (h' : Heap) (c' : Nat), (∀ b o', s.heap.get? b = some o' → h'.get? b = some o') →
      h'.get? s.heap.objs.size = some { cls := .type "list", dict := none, data := .seq its.toArray c', slots := #[] } → EP X pins σ Q (.ref s.heap.objs.size) { s with heap := h' } := fun its r' hz h' c' kp e =>
    ⟨.ref s.heap.objs.size, _, I.laid (t' := s.toks) kp (Nat.le_refl _) (show ObjOk X.prog X.w _ h' _ (.lst ys) from ⟨hz, its, c', r', e⟩), rfl, q _ (I.hok.fresh (Nat.le_refl _))⟩
  rcases hq with hq | hq
  · obtain ⟨its, r', pl, hz⟩ := I.list hq
    have hlen := r'.length
    obtain ⟨o, ho, hc, n, hd⟩ := pl.isList
    exact call_list_seq p (.inl rfl) ho hc hd (fun h' c' kp e => fin its r' hz h' c' kp e) (by simp only [List.size_toArray] <;> omega)
  · obtain ⟨its, r', pl, hz⟩ := I.tuple hq
    have hlen := r'.length
    obtain ⟨o, ho, hc, n, hd⟩ := pl
    exact call_list_seq p (.inr rfl) ho hc hd (fun h' c' kp e => fin its r' hz h' c' kp e) (by simp only [List.size_toArray] <;> omega)
def tyV (K : PySem.W.Frag) (T : String) (x : V) (H : Hp) : Prop := match x with
  | .str _ => T = "str"
  | .int _ => T = "int"
  | .ref p => (T = "list" ∧ ∃ xs, SqL K H p xs) ∨ (T = "tuple" ∧ ∃ o, K.lookup p = some o ∧ o.cls = .type "tuple" ∧ o.dict = none) ∨
      (T = "dict" ∧ ((∃ kvs, H p = some (.dK kvs)) ∨ ∃ kvs, H p = some (.dT kvs))) ∨ (T = "set" ∧ ∃ S n, H p = some (.set S n))
  | _ => False
theorem tyV_is {pins : List (Addr × Obj)} {σ : St} {H : Hp} {s : Shared} {T : String} {x : V} {v : Value} (I : Inv X pins σ H s) (r : RelV x v) (ty : tyV X.K T x H) :
    s.TypeIs v T ∧ ∀ a, v = .ref a → ∃ ob, s.heap.get? a = some ob ∧ ob.dict = none := by
  cases x with
  | str z =>
    obtain ⟨t, rfl⟩ := r
    cases (show T = "str" from ty)
    exact ⟨typeIs_str s z t, fun _ e => nomatch e⟩
  | int i =>
    obtain ⟨t, rfl⟩ := r
    cases (show T = "int" from ty)
    exact ⟨typeIs_int s i t, fun _ e => nomatch e⟩
  | ref p =>
    cases r
    rcases ty with ⟨rfl, xs, hq⟩ | ⟨rfl, o, hk, hc, hd⟩ | ⟨rfl, hk⟩ | ⟨rfl, S, n, hk⟩
    · obtain ⟨its, _, pl, _⟩ := I.list hq
      refine ⟨pl.isList.typeIs, fun a e => ?_⟩
      cases e
      obtain ⟨o, n, e, c, hd, _⟩ := pl
      exact ⟨o, e, hd⟩
    · refine ⟨⟨o, I.kIn p o hk, hc⟩, fun a e => ?_⟩
      cases e
      exact ⟨o, I.kIn _ o hk, hd⟩
    · have z : ∃ o, s.heap.get? p = some o ∧ o.ExactDict := by
        rcases hk with ⟨kvs, hk⟩ | ⟨kvs, hk⟩
        · obtain ⟨_, _, _, _, o, _, _, e, ex, _⟩ := I.hok p _ hk
          exact ⟨o, e, ex⟩
        · obtain ⟨_, _, _, _, o, _, _, e, ex, _⟩ := I.hok p _ hk
          exact ⟨o, e, ex⟩
      obtain ⟨o, e, ex⟩ := z
      refine ⟨⟨o, e, ex.1⟩, fun a e2 => ?_⟩
      cases e2
      exact ⟨o, e, ex.2.1⟩
    · obtain ⟨o, _, _, _, e, ex, _⟩ := I.hok p _ hk
      refine ⟨⟨o, e, ex.1⟩, fun a e2 => ?_⟩
      cases e2
      exact ⟨o, e, ex.2.1⟩
  | _ => exact False.elim ty
def tBM0 (K : PySem.W.Frag) (T : String) (r : V → List V → Hp → VK → Prop) (to : TE) : TE := fun σ H Q => to σ H fun x H1 => tyV K T x H1 ∧ r x [] H1 Q
def tBM (K : PySem.W.Frag) (T : String) (r : V → List V → Hp → VK → Prop) (to : TE) (t : TA) : TE := fun σ H Q => to σ H fun x H1 => tyV K T x H1 ∧ t σ H1 fun xs H2 => r x xs H2 Q
variable {o e : Expr} {es : List Expr} {to : TE} {t : TA} {name : Str} {apos cpos : Pos} {T id : String} {r : V → List V → Hp → VK → Prop}
theorem pe_bm0 (pa : PlainAttrs T) (slot : Slot T name id) (hty : typeOf (.builtin id) = pure (.type "method_descriptor")) (hm : MtR X id r) (ho : PE X o to)
    (hbase : attributeBase o name X.env (eval o X.env) = eval o X.env := by rfl) (hline : (apos.endLine == cpos.line) = true := by rfl) : PE X (.Call (.Attribute o name apos) [] [] cpos) (tBM0 X.K T r to) := by
  intro pins s σ H Q I h
  refine wpAny_Call_method0_late hbase hline (thn (ho pins s σ H _ I h) fun v s1 ⟨x, H1, I1, r1, ty, q1⟩ => ?_)
  obtain ⟨h1, h2⟩ := tyV_is I1 r1 ty
  exact ⟨T, id, pa, slot, hty, h1, h2, Calls.callWith_builtin rfl (PySem.evalArgs_none (hm pins s1 σ H1 x [] v [] Q I1 r1 .nil q1))⟩
theorem pe_bm (pa : PlainAttrs T) (slot : Slot T name id) (hty : typeOf (.builtin id) = pure (.type "method_descriptor")) (hm : MtR X id r) (ho : PE X o to) (ha : PA X (e :: es) t)
    (hbase : attributeBase o name X.env (eval o X.env) = eval o X.env := by rfl)
    (hfew : ((backTo cpos (starEach (e :: es) X.env)).all (fun x => !x.1) && (backToKw cpos (keywordEach [] X.env)).all (fun x => x.1.isSome)
      && decide ((e :: es).length + ([] : List Keyword).length + (if ([] : List Keyword).isEmpty then 0 else 1) < 30)) = true := by rfl)
    (hline : (apos.endLine == cpos.line) = true := by rfl) (hs : starEach (e :: es) X.env = (false, eval e X.env) :: starEach es X.env := by rfl) (hplain : (backTo cpos (starEach es X.env)).any (·.1) = false := by rfl) :
    PE X (.Call (.Attribute o name apos) (e :: es) [] cpos) (tBM X.K T r to t) := by
  intro pins s σ H Q I h
  refine wpAny_Call_method_late hbase hfew hline rfl (thn (ho pins s σ H _ I h) fun v s1 ⟨x, H1, I1, r1, ty, q1⟩ => ?_)
  obtain ⟨h1, h2⟩ := tyV_is I1 r1 ty
  refine ⟨T, id, pa, slot, hty, h1, h2, ?_⟩
  have hA := ha cpos pins s1 σ H1 _ I1 q1
  rw [hs] at hA ⊢
  refine Calls.callWith_builtin (by show (false || (backTo cpos (starEach es X.env)).any (·.1)) = false; rw [hplain] <;> rfl) (Calls.evalArgs_plain ?_)
  exact thn hA fun us s2 ⟨vs, H2, I2, r2, q2⟩ => hm pins s2 σ H2 x vs v us Q I2 r1 r2 q2
/- xs.append(e), list.index on a module's tuple .. are MtR facts of 06m -/
end
end L2
namespace L2
open PySem PySem.Spec PyProof.Rows
def MtM (X : Cx) (id : String) (r : V → List V → Hp → VK → Prop) : Prop :=
  ∀ (pins : List (Addr × Obj)) (s : Shared) (σ : St) (H : Hp) (x : V) (xs : List V) (v : Value) (us : List Value) (Q : VK), Inv X pins σ H s → RelV x v → Vals xs us → r x xs H Q →
    wpAny (model X.prog X.w) X.A (call (.builtin id) (v :: us)) (EP X pins σ Q) X.xe s
theorem Vals.one : ∀ {x : V} {us : List Value}, Vals [x] us → ∃ u, us = [u] ∧ RelV x u
  | _, _, .cons r .nil => ⟨_, rfl, r⟩
theorem Vals.two : ∀ {x y : V} {us : List Value}, Vals [x, y] us → ∃ u v, us = [u, v] ∧ RelV x u ∧ RelV y v
  | _, _, _, .cons r (.cons q .nil) => ⟨_, _, rfl, r, q⟩
theorem Vals.zero : ∀ {us : List Value}, Vals [] us → us = []
  | _, .nil => rfl
theorem Vals.dropLast {xs : List V} {us : List Value} (h : Vals xs us) : Vals xs.dropLast us.dropLast := by
  induction h with
  | nil => exact .nil
  | cons r t ih =>
    cases t with
    | nil => exact .nil
    | cons q t' => exact .cons r ih
theorem Vals.rep {xs : List V} {us : List Value} (h : Vals xs us) : ∀ k : Nat, Vals (List.replicate k xs).flatten (List.replicate k us).flatten
  | 0 => .nil
  | k + 1 => by
    rw [List.replicate_succ, List.replicate_succ, List.flatten_cons, List.flatten_cons]
    exact Vals.append h (Vals.rep h k)
theorem erase_last {α : Type} (l : List α) : l.eraseIdx (l.length - 1) = l.dropLast := by
  induction l with
  | nil => rfl
  | cons a r ih =>
    cases r with
    | nil => rfl
    | cons b r =>
      have e : (a :: b :: r).length - 1 = ((b :: r).length - 1) + 1 := by
        have h1 : (a :: b :: r).length = r.length + 2 := rfl
        have h2 : (b :: r).length = r.length + 1 := rfl
        omega
      rw [e, List.eraseIdx_cons_succ, ih]
      all_goals rfl
theorem foldl_rep (its : List Value) : ∀ (k : Nat) (acc : List Value),
    List.foldl (fun x1 x2 => x1 ++ x2) acc.toArray (List.replicate k its.toArray) = (acc ++ (List.replicate k its).flatten).toArray
  | 0, acc => by simp
  | k + 1, acc => by
    have e : acc.toArray ++ its.toArray = (acc ++ its).toArray := by simp
    have e2 : (acc ++ its) ++ (List.replicate k its).flatten = acc ++ (List.replicate (k + 1) its).flatten := by
      rw [List.replicate_succ, List.flatten_cons, List.append_assoc]
    rw [← e2, ← foldl_rep its k (acc ++ its), ← e, List.replicate_succ, List.foldl_cons]
section
variable {X : Cx} {pins : List (Addr × Obj)} {σ : St} {H : Hp} {s : Shared} {l b : Addr} {xs ys zs : List V}
theorem Inv.lset {its its' : List Value} {n : Nat} {f : Array Value → Array Value} {t' : Nat} (I : Inv X pins σ H s) (hH : H l = some (.lst xs))
    (e : s.heap.get? l = some { cls := .type "list", data := .seq its.toArray n }) (hf : f its.toArray = its'.toArray) (hv : Vals ys its') (hz : ys.length ≤ sizeLine) :
    Inv X pins σ (upd H l (.lst ys)) { s with heap := s.heap.update l (Obj.mapSeq f), toks := t' } := by
  have q := PySem.IsL.update e f
  rw [hf] at q
  refine I.write (x := l) (e := l) (by rw [hH]; exact trivial) (.inl rfl) (fun b' u hb hu => (Heap.get?_update_other s.heap (Obj.mapSeq f) (Ne.symm hb)).trans hu) ⟨_, q⟩ ?_
  exact ⟨hz, its', _, hv, q⟩
theorem Inv.lnew {its : List Value} {t' : Nat} (I : Inv X pins σ H s) (hv : Vals ys its) (hz : ys.length ≤ sizeLine) :
    Inv X pins σ (upd H s.heap.objs.size (.lst ys)) { s with heap := s.heap.push { cls := .type "list", data := .seq its.toArray }, toks := t' } :=
  I.laid (fun _ _ q => Heap.get?_push_of_some _ q) (Nat.le_refl _) ⟨hz, its, 0, hv, Heap.get?_push_size _ rfl⟩
theorem Inv.fresh (I : Inv X pins σ H s) : H s.heap.objs.size = none := I.hok.fresh (Nat.le_refl _)
theorem Inv.lstM (I : Inv X pins σ H s) (hH : H l = some (.lst xs)) : xs.length ≤ sizeLine ∧ ∃ (its : List Value) (n : Nat), Vals xs its ∧ xs.length = its.length ∧ s.heap.get? l = some { cls := .type "list", data := .seq its.toArray n } := by
  obtain ⟨z, its, n, r, e⟩ := I.hok l _ hH
  exact ⟨z, its, n, r, r.length, e⟩
theorem notLongL {n : Nat} (h : n ≤ sizeLine) : Builtin.List.listTooLong n = false := by
  unfold Builtin.List.listTooLong
  exact decide_eq_false (by omega)
end
section
variable {X : Cx}
def rAppend : V → List V → Hp → VK → Prop := fun x vs H Q => ∃ l xs y, x = .ref l ∧ vs = [y] ∧ H l = some (.lst xs) ∧ xs.length < sizeLine ∧ Q .non (upd H l (.lst (xs ++ [y])))
theorem mt_append : MtM X "list.append" rAppend := by
  intro pins s σ H x vs v us Q I rx rv h
  obtain ⟨l, xs, y, rfl, rfl, hH, hz, q⟩ := h
  cases rx
  obtain ⟨u, rfl, ru⟩ := rv.one
  obtain ⟨z, its, n, r, hl, e⟩ := I.lstM hH
  refine call_meets F.slot_list_append ⟨_, e, rfl⟩ F.entry_list_append (F.args_list_append_2 _ _) (PySem.list_append l its.toArray n u (by rw [List.size_toArray]; omega)) ⟨e, ?_⟩
  refine ⟨.non, _, I.lset (its' := its ++ [u]) hH e (by simp) (r.append (.cons ru .nil)) ?_, rfl, q⟩
  rw [List.length_append, List.length_singleton]
  omega
def rPop : V → List V → Hp → VK → Prop := fun x vs H Q => ∃ l xs y, x = .ref l ∧ vs = [] ∧ H l = some (.lst xs) ∧ xs[xs.length - 1]? = some y ∧ Q y (upd H l (.lst xs.dropLast))
theorem mt_pop : MtM X "list.pop" rPop := by
  intro pins s σ H x vs v us Q I rx rv h
  obtain ⟨l, xs, y, rfl, rfl, hH, hy, q⟩ := h
  cases rx
  have hus := rv.zero
  subst hus
  obtain ⟨z, its, n, r, hl, e⟩ := I.lstM hH
  obtain ⟨u, hu, ru⟩ := r.get hy
  have hy' : its.toArray[its.toArray.size - 1]? = some u := by
    show its.toArray[its.length - 1]? = some u
    rw [← Array.getElem?_toList, ← hl]
    exact hu
  refine call_meets F.slot_list_pop ⟨_, e, rfl⟩ F.entry_list_pop (F.args_list_pop_1 _) (MeetsSeq.list_pop_last l its.toArray n u hy' (by rw [List.size_toArray]; omega)) ⟨e, ?_⟩
  refine ⟨y, _, I.lset (its' := its.dropLast) hH e ?_ r.dropLast ?_, ru, q⟩
  · show its.toArray.eraseIdxIfInBounds (its.toArray.size - 1) = its.dropLast.toArray
    rw [List.size_toArray, List.eraseIdxIfInBounds_toArray, erase_last]
  · rw [List.length_dropLast]
    omega
def rCat : R2 := fun x y H Q => ∃ l b xs zs, x = .ref l ∧ y = .ref b ∧ H l = some (.lst xs) ∧ H b = some (.lst zs) ∧ xs.length + zs.length ≤ sizeLine ∧ ∀ p, H p = none → Q (.ref p) (upd H p (.lst (xs ++ zs)))
theorem op_cat : OpR X (binaryOp .Add) rCat := by
  intro pins s σ H x y v u Q I rx ry h
  obtain ⟨l, b, xs, zs, rfl, rfl, hH, hB, hz, q⟩ := h
  cases rx
  cases ry
  obtain ⟨z, its, n, r, hl, e⟩ := I.lstM hH
  obtain ⟨z2, its2, n2, r2, hl2, e2⟩ := I.lstM hB
  refine PySem.P.add_list e e2 ?_ (by rw [List.size_toArray, List.size_toArray]; omega)
  have ea : its.toArray ++ its2.toArray = (its ++ its2).toArray := by simp
  rw [ea]
  exact ⟨.ref _, _, I.lnew (t' := s.toks) (r.append r2) (by rw [List.length_append]; omega), rfl, q _ I.fresh⟩
def rRep : R2 := fun x y H Q => ∃ l k xs, x = .ref l ∧ y = .int k ∧ H l = some (.lst xs) ∧ -(2 ^ 63) ≤ k ∧ k < 2 ^ 63 ∧ xs.length * k.toNat ≤ sizeLine ∧
  ∀ p, H p = none → Q (.ref p) (upd H p (.lst (List.replicate k.toNat xs).flatten))
theorem len_rep {α : Type} (xs : List α) (k : Nat) : (List.replicate k xs).flatten.length = k * xs.length := by
  induction k with
  | zero => simp
  | succ k ih => rw [List.replicate_succ, List.flatten_cons, List.length_append, ih, Nat.succ_mul, Nat.add_comm]
theorem op_rep : OpR X (binaryOp .Mult) rRep := by
  intro pins s σ H x y v u Q I rx ry h
  obtain ⟨l, k, xs, rfl, rfl, hH, h1, h2, hz, q⟩ := h
  cases rx
  obtain ⟨t, rfl⟩ := ry
  obtain ⟨z, its, n, r, hl, e⟩ := I.lstM hH
  have hlen : its.toArray.size * k.toNat ≤ sizeLine := by rw [List.size_toArray, ← hl]; exact hz
  have hcap : ¬ its.toArray.size * k.toNat > (2 ^ 63 - 1) / 8 := by
    have : (sizeLine : Nat) ≤ (2 ^ 63 - 1) / 8 := by decide
    omega
  have hfit : ¬ (!Builtin.List.listFitsIndex k) = true := by
    rw [fitsIndex_both h1 h2]
    exact Bool.false_ne_true
  have hlong : ¬ Builtin.List.listTooLong (its.toArray.size * k.toNat) = true := by
    rw [notLongL hlen]
    exact Bool.false_ne_true
  have hnew : List.foldl (fun x1 x2 => x1 ++ x2) #[] (List.replicate (if its.toArray.isEmpty = true then 0 else k.toNat) its.toArray) = (List.replicate k.toNat its).flatten.toArray := by
    have f0 : ∀ m : Nat, List.foldl (fun x1 x2 => x1 ++ x2) #[] (List.replicate m its.toArray) = (List.replicate m its).flatten.toArray := fun m => by
      have := foldl_rep its m []
      rw [List.nil_append] at this
      exact this
    rw [f0]
    cases its with
    | nil => simp
    | cons a r' => rw [if_neg (by simp)]
  refine wpAny_binaryOp_repeat_ref (T := "list") (U := "int") (by decide) ⟨_, e, rfl⟩ (fun s' => typeIs_int s' k t) noFill_list_mul F.fills_int_mul F.slot_int_rmul repeat_list F.slot_int_index.lookup
    (call_meets F.slot_int_rmul (typeIs_int s k t) F.entry_int_rmul (F.args_int_rmul_2 _ _) (int___rmul___int_list k t l its.toArray n)
      ⟨e, rfl, ⟨_, e, rfl⟩, call_meets F.slot_list_mul ⟨_, e, rfl⟩ F.entry_list_mul (F.args_list_mul_2 _ _) (AutoListH.list___mul___list_int_3 l its.toArray n k t hfit hcap hlong) ⟨e, ?_⟩⟩)
  rw [hnew]
  exact ⟨.ref _, _, I.lnew (t' := s.toks) (r.rep k.toNat) (by rw [len_rep, Nat.mul_comm]; exact hz), rfl, q _ I.fresh⟩
end
section
variable {prog : Program} {w : World} {A : Around} {E : Value → Shared → Prop} {s : Shared}
end
section
variable {X : Cx}
end
end L2
namespace Att
open PySem PySem.W PySem.Calls PyProof.Rows
theorem ints_of_wellAll {P : Params} {h : Heap} : ∀ (ns : List Int) (vs : List Value), WellAll P h vs (ns.map WData.int) → IntsAre vs ns := by
  intro ns
  induction ns with
  | nil =>
    intro vs w
    rw [List.map_nil] at w
    cases w
    exact .nil
  | cons n ns ih =>
    intro vs w
    rw [List.map_cons] at w
    cases w with
    | cons a b =>
      cases a
      exact .cons _ _ (ih _ b)
theorem script_of {l : OpenLaw} {n : Nat} (hn : l.most = some n) {P : Params} {h : Heap} {args : List WData} {vals : List Value}
    (hpre : l.row.toRowW.claim.pre args = true) (hwl : WellAll P h vals args) :
    ∃ a vs ns, vals = [Value.ref a] ∧ args = [WData.list (ns.map WData.int)] ∧ h.get? a = some { cls := .type "list", data := .seq vs.toArray } ∧ IntsAre vs ns ∧ ns.length ≤ n := by
  have hsh : WShape.hasAll [] args [.list .int] = true := (pre_splitW hpre).1
  have hc : l.pre.holds [] { args := args } = true := (pre_splitW hpre).2
  obtain ⟨d, r, rfl, h1, h2⟩ := hasAllW_cons hsh
  obtain rfl := hasAllW_nil h2
  obtain ⟨xs, rfl, h3⟩ := hasW_list h1
  obtain ⟨ns, rfl⟩ := items_int h3
  have hlen : ns.length ≤ n := by
    unfold OpenLaw.pre at hc
    have h4 : (WTm.not (.lt (.lit (.int (n : Int))) (.len (.arg 0)))).holds [] { args := [.list (ns.map .int)] } = true := by
      have h4 := (holds_andW hc).1
      rw [hn] at h4
      exact h4
    have h5 := condW_of h4 (w_not (w_lt w_lit (w_len_list (w_arg rfl))))
    rw [List.length_map] at h5
    refine Nat.le_of_not_lt fun q => ?_
    have q' : (n : Int) < ((ns.length : Nat) : Int) := by omega
    first
      | (rw [decide_eq_true q'] at h5; exact absurd h5 (by decide))
      | (simp at h5; omega)
  cases hwl with
  | cons w1 w2 =>
    cases w2
    cases w1 with
    | list ho hall => exact ⟨_, _, ns, rfl, rfl, ho, ints_of_wellAll ns _ hall, hlen⟩
theorem post_true (l : OpenLaw) (args : List WData) : l.row.toRowW.claim.post args (.bool true) args = true :=
  postW_of (r := l.row.toRowW) (X := (true == true))
    (show WShape.has [] (.bool true) .bool = true by first | rfl | decide | simp [WShape.has, WShape.arms, WShape.armsAll])
    (show (WTm.eq .res (.lit (.bool true))).value [] { args := args, res := some (.bool true), after := args } = some (.bool (true == true)) from w_eq_bool (w_res rfl) w_lit) rfl
theorem attach_call {l : OpenLaw} {n : Nat} {q : Program} {loose : List Str} {XP : (Str → Option Value) → Heap → Prop} {YP : World → Heap → Prop} {d : DefRec}
    (hn : l.most = some n) (hdf : d.params.defaults = [])
    (call : ∀ (w : World) (s₀ s₁ : Shared) (mg mb : Str → Option Value) (fa : Addr) (o : Obj) (pm cd doc : Value) (a : Addr) (vs : List Value) (ns : List Int),
      Ground q loose [] XP w s₀ mg mb s₁.heap → YP w s₁.heap →
      s₁.heap.get? fa = some o → o.data = .func (docDef d.name d.params d.body d.scope pm cd doc) → s₁.heap.CodeRec cd d.name → mg d.name = some (.ref fa) →
      s₁.heap.get? a = some { cls := .type "list", data := .seq vs.toArray } → IntsAre vs ns → ns.length ≤ n → s₁.gens = #[] →
      codeAny (model l.prog w) callerA (.call (.ref fa) ⟨[.ref a], []⟩) (fun r s' => r = .ok (.ret (.bool true)) ∧ OldK s₁.heap s'.heap ∧ s'.os = s₁.os ∧ AllBare s'.gens) s₁) :
    WalkO q loose XP YP l.row.toRowW d [] (fun f vs => PySem.call f vs) := by
  intro w s₀ s₁ mg mb G Y fa o pm cd doc dV kV ho hd hcd hD hmg hg args vals as hpre hlay hrd hwl hlo
  obtain rfl : dV = .none := Dflts.none hD hdf
  obtain rfl : kV = .none := Dflts.noKw hD
  obtain ⟨a, vs, ns, rfl, rfl, hobj, hints, hlen⟩ := script_of hn hpre hwl
  refine enter_call (codeAny_mono (call w s₀ s₁ mg mb fa o pm cd doc a vs ns G Y ho (fd_plain hd) hcd hmg hobj hints hlen hg) fun r s' hq => ?_)
  obtain ⟨rfl, h2, h3, h4⟩ := hq
  exact ⟨.inl ⟨.bool true, .bool true, [], rfl, fun _ => rfl, .bool true, post_true l _, fun _ => ⟨List.Pairwise.nil, fun _ hm => (nomatch hm)⟩⟩, h2, h3, h4⟩
section
variable {prog : Program} {w : World} {A : Around} {E : Value → Shared → Prop} {s : Shared} {K : Frag}
def ledger (h : Heap) (L d : Addr) : List (Addr × Obj) := (List.range h.objs.size).filterMap fun a => if a = L ∨ a = d then none else (h.get? a).map fun o => (a, o)
end
end Att
namespace L2
open PySem PySem.Spec PyProof.Rows
theorem vals_ints : ∀ {vs : List Value} {ns : List Int}, IntsAre vs ns → Vals (ns.map V.int) vs
  | _, _, .nil => .nil
  | _, _, .cons n t h => .cons ⟨t, rfl⟩ (vals_ints h)
def Only (H : Hp) : Prop := ∀ b, H b = none ∨ ∃ o xs, H b = some (.frz o (.lst xs))
theorem law_call {P : Program} {w : World} {K : PySem.W.Frag} {mg mb : Str → Option Value} {CX : CXT} {k : Nat} {fa a : Addr} {fd : FuncData} {x : Str} {sp : Sp} {s₁ : Shared} {vs : List Value} {ns : List Int}
    (KX : K.In s₁.heap) (hns : s₁.heap.Ns mainGlobals mg) (hb : s₁.heap.Ns builtinsNs mb) (hbb : ∀ x : Str, x ≠ "__name__" → mb x = bootBuiltins x) (hlim : s₁.heap.NoLimit) (hg : s₁.gens = #[])
    (ha : s₁.heap.get? a = some { cls := .type "list", data := .seq vs.toArray }) (hi : IntsAre vs ns) (hl : ns.length ≤ sizeLine) (hr : Room k callerA)
    (F : ∀ base : Heap, K.In base → base.Ns mainGlobals mg → FnOk P w K mg base CX k fa fd [x] sp) (hbind : ∀ (s : Shared) (u : Value), BindsTo s fd ⟨[u], []⟩ [(x, u)])
    (hsp : ∀ H : Hp, Only H → SqL K H a (ns.map V.int) → sp [.ref a] H (fun v _ => v = .bl true) fun _ _ _ => False)
    (hCX : ∀ H e s', CX [] H s₁ (fun _ _ _ => False) e s' → False) :
    codeAny (model P w) callerA (.call (.ref fa) ⟨[.ref a], []⟩) (fun r s' => r = .ok (.ret (.bool true)) ∧ OldK s₁.heap s'.heap ∧ s'.os = s₁.os ∧ AllBare s'.gens) s₁ := by
  have rv := vals_ints hi
  have lenV := hi.length
  have core : ∀ H : Hp, Only H → SqL K H a (ns.map V.int) → HOk P w H s₁.heap → (∀ b, H b ≠ none → b = a) → (H a ≠ none → K.lookup a = none) →
      codeAny (model P w) callerA (.call (.ref fa) ⟨[.ref a], []⟩) (fun r s' => r = .ok (.ret (.bool true)) ∧ OldK s₁.heap s'.heap ∧ s'.os = s₁.os ∧ AllBare s'.gens) s₁ := by
    intro H hO hS hok hA hK
    have base_of : ∀ {b : Addr} {o : Obj}, s₁.heap.get? b = some o → H b = none → (hidT s₁.heap H).get? b = some o := fun e n => hidT_get e n
    have noA : ∀ {b : Addr} {o : Obj} {es : Array DictEntry} {ep : Nat}, s₁.heap.get? b = some o → o.data = .dict es ep → H b = none := fun {b o es ep} e d => by
      cases q : H b with
      | none => rfl
      | some u =>
        have e' : b = a := hA b (by rw [q]; simp)
        subst e'
        rw [ha] at e; cases e
        have d' : Data.seq vs.toArray _ = Data.dict es ep := d
        cases d'
    have nsK : ∀ {b : Addr} {m : Str → Option Value}, s₁.heap.Ns b m → (hidT s₁.heap H).Ns b m := fun {b m} ⟨o, es, ep, e, d, r⟩ => ⟨o, es, ep, base_of e (noA e d), d, r⟩
    have hKb : K.In (hidT s₁.heap H) := fun b o e => base_of (KX b o e) (by
      cases q : H b with
      | none => rfl
      | some u =>
        have e' : b = a := hA b (by rw [q]; simp)
        subst e'
        rw [hK (by rw [q]; simp)] at e; cases e)
    have hM : Mod K mg (hidT s₁.heap H) := ⟨hKb, nsK hns, ⟨mb, nsK hb, hbb⟩, let ⟨mc, h1, h2⟩ := hlim; ⟨mc, nsK h1, h2⟩⟩
    have e0 : Env0 P w K mg (hidT s₁.heap H) callerA [] s₁ H := ⟨rfl, hM, fun b o e => of_hidT e, Nat.le_of_eq (hidT_size _ _), trivial, fun b hb => absurd (show b ∈ ([] : List Addr) from hb) (by simp), hok, .of_eq hg⟩
    refine codeAny_mono ((F _ hKb (nsK hns)).run callerA [] s₁ H ⟨[.ref a], []⟩ [.ref a] [.ref a] _ _ hr e0 (hbind s₁ (.ref a)) (.cons rfl .nil) (hsp H hO hS)) fun r s' h => ?_
    cases r with
    | error e => exact (hCX H e s' h).elim
    | ok fl =>
      cases fl with
      | next => exact False.elim h
      | brk => exact False.elim h
      | cont => exact False.elim h
      | ret u =>
        obtain ⟨v, H', os, bare, un, hok', r', q⟩ := h
        have q' : v = .bl true := q
        subst q'
        obtain rfl : u = Value.bool true := r'
        refine ⟨rfl, OldK.of_keep fun b o e => ?_, os, bare⟩
        cases q : H b with
        | none => exact un.keep b o e q (by intro z; exact absurd (show b ∈ ([] : List Addr) from z) (by simp)) (by simp)
        | some u =>
          rcases hO b with z | ⟨ob, xs, z⟩
          · rw [q] at z; cases z
          · have z2 := un.frzs b ob _ z
            obtain ⟨e1, _⟩ := hok b _ z
            obtain ⟨e2, _⟩ := hok' b _ z2
            rw [e] at e1; cases e1
            exact e2
  cases hk : K.lookup a with
  | some o =>
    have e := KX a o hk
    rw [ha] at e
    cases e
    refine core (fun _ => none) (fun _ => .inl rfl) (.inr ⟨_, vs.toArray, _, hk, rfl, rfl, rfl, by rw [List.size_toArray, lenV]; exact hl, by simpa using rv⟩) (fun b u z => by have z' : (none : Option HO) = some u := z; cases z') (fun b z => absurd rfl z) fun z => absurd rfl z
  | none =>
    refine core (fun b => if b = a then some (.frz { cls := .type "list", data := .seq vs.toArray } (.lst (ns.map V.int))) else none) (fun b => ?_) (.inl (.inr ⟨{ cls := .type "list", data := .seq vs.toArray }, if_pos rfl⟩)) (fun b u z => ?_) (fun b z => ?_) fun _ => hk
    · by_cases hb : b = a
      · exact .inr ⟨_, _, if_pos hb⟩
      · exact .inl (if_neg hb)
    · by_cases hb : b = a
      · have z' := (if_pos hb).symm.trans z
        cases z'
        subst hb
        exact ⟨ha, by rw [List.length_map]; exact hl, vs, _, rv, ha⟩
      · have z' := (if_neg hb).symm.trans z
        cases z'
    · by_cases hb : b = a
      · exact hb
      · exact absurd (if_neg hb) z
end L2
namespace L2
open PySem PySem.Spec PyProof.Rows
theorem walk_of {l : PySem.W.OpenLaw} {n k : Nat} {q : Program} {loose : List Str} {XP : (Str → Option Value) → Heap → Prop} {YP : World → Heap → Prop} {d : DefRec} {K : Params → PySem.W.Frag} {CX : World → CXT} {sp : World → Sp} {x : Str}
    (hn : l.most = some n) (hn2 : n ≤ sizeLine) (hdf : d.params.defaults = []) (hr : Room k callerA)
    (hY : ∀ (w : World) (h : Heap), YP w h → (K w.params).In h)
    (F : ∀ (w : World) (mg : Str → Option Value) (fa : Addr) (h : Heap), (K w.params).In h → h.Ns mainGlobals mg → mg d.name = some (.ref fa) →
      ∃ fd : FuncData, (∀ (s : Shared) (u : Value), BindsTo s fd ⟨[u], []⟩ [(x, u)]) ∧
        ∀ base : Heap, (K w.params).In base → base.Ns mainGlobals mg → FnOk l.prog w (K w.params) mg base (CX w) k fa fd [x] (sp w))
    (hsp : ∀ (w : World) (H : Hp) (a : Addr) (ns : List Int), ns.length ≤ n → Only H → SqL (K w.params) H a (ns.map V.int) → sp w [.ref a] H (fun v _ => v = .bl true) fun _ _ _ => False)
    (hCX : ∀ (w : World) (H : Hp) (s : Shared) (e : Value) (s' : Shared), CX w [] H s (fun _ _ _ => False) e s' → False) :
    PySem.W.WalkO q loose XP YP l.row.toRowW d [] (fun f vs => PySem.call f vs) := by
  refine Att.attach_call hn hdf fun w s₀ s₁ mg mb fa o pm cd doc a vs ns G Y ho hd hcd hmg hobj hints hlen hg => ?_
  have KX := hY w _ Y
  obtain ⟨fd, hb, hF⟩ := F w mg fa _ KX G.T.g hmg
  exact law_call KX G.T.g G.T.b G.T.builtins G.T.nolimit hg hobj hints (Nat.le_trans hlen hn2) hr hF hb (fun H hO hS => hsp w H a ns hlen hO hS) fun H e s' => hCX w H s₁ e s'
end L2
/- THE LAST THEOREM (shape; LID, My.* are yours):
   My.Adr: a structure of the addresses that your layer names (classes, functions); My.Txt K t: a structure (Prop) of the equations over K;
   My.txt_mk : {K} {implicit addresses ..} (e1 : nsIn K mainGlobals "law" = some (some (.ref f))) (e2 : K.lookup f = some ⟨oc, od, .func (fnOf "law" "law" params body scope dV kV doc pm an cdv ct), sl⟩) (e3 : codeIn K cdv "law" = true) .. : ∃ t, My.Txt K t
set_option maxRecDepth 100000 in
set_option maxHeartbeats 0 in
theorem PySem.Challenge.cw_LID_holds : PySem.Challenge.rw_LID.Holds := by
  w_on; o_law; k_head; (case hw => w_witness2)
  k_fill
  refine L2.walk_of (l := PySem.Challenge.rw_LID) (n := 63) (k := 40) (x := "script") (CX := fun w => ..) (sp := fun _ => My.sp_law) rfl (by decide) rfl ⟨rfl, by decide, by decide⟩ (fun w h Y => PySem.W.kIn_of Y) ?F ?S ?C
  case F =>
    intro w mg fa h KX G hmg
    have T : ∃ t, My.Txt (L2.KOf KX) t := by
      dsimp only [L2.KOf]                          -- K must stand as «<heap const> w.params» for k_is
      refine' My.txt_mk ?e1 ?e2 ?e3 ..
      (case e1 => PySem.W.k_is)                    -- in the order: a name -> its address -> its object -> its parts
      (case e2 => PySem.W.k_is)
      ..
    obtain ⟨t, T⟩ := T
    have e0 := hmg.symm.trans (PySem.W.mg_of KX G T.law)
    cases e0                                       -- fa is the law's own address
    exact ⟨_, fun s u => .of_eq rfl, fun base kb nb => My.law_fn T kb nb⟩     -- if «.of_eq rfl» comes too early: refine' ⟨_, ?b, fun base kb nb => My.law_fn T kb nb⟩; exact fun s u => .of_eq rfl
  case S => exact fun w H a ns hl hO hS => ..
  case C => exact ..
(the tactic k_is has no namespace: write k_is) -/
namespace L2
open PySem PySem.Spec PyProof.Rows
def inClass (s : Stmt) (j : Nat) : Stmt := match s with
  | .ClassDef _ _ _ body _ _ _ _ _ _ _ => body.getD j (.Pass ⟨0, 0, 0, 0⟩)
  | _ => .Pass ⟨0, 0, 0, 0⟩
def defArgs (s : Stmt) : Arguments := match s with
  | .FunctionDef _ a _ _ _ _ _ _ _ _ => a
  | _ => { posonlyargs := [], args := [], vararg := none, kwonlyargs := [], kw_defaults := [], kwarg := none, defaults := [] }
def defBody (s : Stmt) : List Stmt := match s with
  | .FunctionDef _ _ b _ _ _ _ _ _ _ => b
  | _ => []
def defScope (s : Stmt) : Scope := match s with
  | .FunctionDef _ _ _ _ _ _ sc _ _ _ => sc
  | _ => { kind := .function, names := [], isGenerator := false, isCoroutine := false }
abbrev CX0 : CXT := fun _ _ _ _ _ _ => False
abbrev E0 : XK := fun _ _ _ => False
theorem pass0 {X : Cx} : Passes CX0 X E0 := fun _ _ _ _ _ _ _ h => h.elim
structure Fun (K : PySem.W.Frag) (x qual : Str) (st : Stmt) (f : Addr) (fd : FuncData) : Prop where
  ex : ∃ (oc : Value) (od : Option Addr) (kV doc pm : Value) (an : Option Addr) (cdv ct : Value) (osl : Array (Option Value)),
    fd = PySem.W.fnOf x qual (defArgs st) (defBody st) (defScope st) .none kV doc pm an cdv ct ∧ K.lookup f = some ⟨oc, od, .func fd, osl⟩ ∧ PySem.W.codeIn K cdv qual = true
  kp : PySem.W.keepIn K (.ref f) = true
section
variable {P : Program} {w : World} {K : PySem.W.Frag} {mg : Str → Option Value} {base : Heap}
theorem Fun.ok {x qual : Str} {st : Stmt} {f : Addr} {fd : FuncData} {N ps : List Str} {k : Nat} {sp : Sp} (F : Fun K x qual st f fd) (S : FnScope N ps (defScope st)) (len : ∀ vs H Q E, sp vs H Q E → vs.length = ps.length)
    (hbody : ∀ (cdv : Value) (A : Around) (outer : List Env) (s : Shared) (H : Hp) (vs : List V) (Q : VK) (E : XK), Room k (A.deeper (envOfC qual (defScope st) s.heap.objs.size f cdv)) → sp vs H Q E →
      ∃ t, PSs (cxOf CX0 P w K mg base N qual (defScope st) f cdv A outer s H E).nox (defBody st) t ∧ t { nx := fun _ H' => Q .non H', rt := Q } (start N vs) H) : FnOk P w K mg base CX0 (k + 1) f fd ps sp := by
  obtain ⟨oc, od, kV, doc, pm, an, cdv, ct, osl, rfl, lk, hcd⟩ := F.ex
  refine fn_of lk hcd S len fun A outer s H vs Q E hr hsp => ?_
  obtain ⟨t, h, q⟩ := hbody cdv A outer s H vs Q E hr hsp
  exact ⟨t, h.nox, q⟩
theorem Fun.binds {x qual : Str} {st : Stmt} {f : Addr} {fd : FuncData} {ps : List Str} (F : Fun K x qual st f fd)
    (h : ∀ (kV doc pm : Value) (an : Option Addr) (cdv ct : Value) (us : List Value), us.length = ps.length → bindArgs (PySem.W.fnOf x qual (defArgs st) (defBody st) (defScope st) .none kV doc pm an cdv ct) ⟨us, []⟩ = pure (ps.zip us)) : Binds K fd ps [] := by
  obtain ⟨oc, od, kV, doc, pm, an, cdv, ct, osl, rfl, lk, hcd⟩ := F.ex
  exact .all (h kV doc pm an cdv ct)
theorem fun_mk {x qual : Str} {st : Stmt} {f : Addr} {oc : Value} {od an : Option Addr} {osl : Array (Option Value)} {kV doc pm cdv ct : Value} (l : K.lookup f = some ⟨oc, od, .func (PySem.W.fnOf x qual (defArgs st) (defBody st) (defScope st) .none kV doc pm an cdv ct), osl⟩)
    (c : PySem.W.codeIn K cdv qual = true) (k : PySem.W.keepIn K (.ref f) = true) : Fun K x qual st f (PySem.W.fnOf x qual (defArgs st) (defBody st) (defScope st) .none kV doc pm an cdv ct) := ⟨⟨oc, od, kV, doc, pm, an, cdv, ct, osl, rfl, l, c⟩, k⟩
end
theorem hu_of {A : Around} {k : Nat} (hr : Room k A) : A.units + 1 < cLine := Nat.lt_of_le_of_lt (Nat.add_le_add_left (by decide : 1 ≤ 64) _) hr.units
section
variable {X : Cx}
theorem pv (i : Nat) {x : Str} {pos : Pos} (hN : X.N[i]? = some x := by rfl) (hv : Vis X.env.scope x := by first | exact Or.inl rfl | exact Or.inr (Or.inl rfl) | exact Or.inr (Or.inr rfl)) (hd : (x == ("__debug__" : Str)) = false := by decide)
    (hcd : (x == ("__classdict__" : Str)) = false := by decide) : PE X (.Name x pos) (tVar i) := pe_var hN hv hd hcd
end
theorem iteF {A B : Prop} (h : B) : if false = true then A else B := by
  rw [if_neg Bool.false_ne_true]
  exact h
theorem iteT {A B : Prop} (h : A) : if true = true then A else B := by
  rw [if_pos rfl]
  exact h
theorem ite2 {c A B : Prop} [Decidable c] (h1 : c → A) (h2 : ¬ c → B) : if c then A else B := by
  by_cases h : c
  · rw [if_pos h]
    exact h1 h
  · rw [if_neg h]
    exact h2 h
theorem iteNS {c A B : Prop} [Decidable c] (hc : c) (h : B) : if (!decide c) = true then A else B := by
  rw [decide_eq_true hc]
  exact iteF h
def Same (H H' : Hp) : Prop := ∀ b o, H b = some o → H' b = some o
theorem Same.refl (H : Hp) : Same H H := fun _ _ h => h
theorem Same.trans {H H1 H2 : Hp} (a : Same H H1) (b : Same H1 H2) : Same H H2 := fun c o h => b c o (a c o h)
theorem Same.free {H H' : Hp} (e : Same H H') {l : Addr} (h : H' l = Option.none) : H l = Option.none := by
  cases q : H l with
  | none => rfl
  | some o =>
    rw [e l o q] at h
    cases h
theorem Same.seq {K : PySem.W.Frag} {H H' : Hp} {a : Addr} {xs : List V} (e : Same H H') (h : SqL K H a xs) : SqL K H' a xs := by
  rcases h with (h | ⟨o, h⟩) | h
  · exact .inl (.inl (e _ _ h))
  · exact .inl (.inr ⟨o, e _ _ h⟩)
  · exact .inr h
end L2
set_option Elab.async false
set_option linter.all false
set_option maxRecDepth 100000
set_option maxHeartbeats 4000000
namespace L2
open PySem PySem.Spec PyProof.Rows
def cxC (X : Cx) (sc : Scope) (cl : List (Str × Addr)) (N : List Str) (s : Shared) (H : Hp) (fp : List Addr) (C : Addr) : Cx :=
  { prog := X.prog, w := X.w, K := X.K, mg := X.mg, base := X.base, A := X.A, N := N, s₀ := s, H₀ := H, env := compEnvC sc cl C X.env, outer := X.stack, stack := X.stack, ex := fp,
    fn := fun _ => false, calm := X.calm, pn := [], xe := fun _ _ => False }
structure CSc (NN : List Str) (sx sc : Scope) (x : Str) (fr : List Str) (ix : List Nat) : Prop where
  kind : sc.kind = .function
  nocell : ∀ y ∈ sc.names, y.2 ≠ .cell
  names : ∀ y ∈ sc.names, y.2 = .local → sc.names.lookup y.1 = some .local
  own : sc.names.lookup x = some .local
  nd : (x :: fr).Nodup
  free : ∀ y ∈ sc.names, y.2 = .free → sx.names.lookup y.1 = some .cell ∨ sx.names.lookup y.1 = some .free
  at' : ∀ p ∈ fr.zip ix, NN[p.2]? = some p.1 ∧ sc.names.lookup p.1 = some .free ∧ (sx.names.lookup p.1 = some .cell ∨ sx.names.lookup p.1 = some .free)
  len : ix.length = fr.length
theorem CSc.ix {NN : List Str} {sx sc : Scope} {x : Str} {fr : List Str} {ix : List Nat} {X : Cx} (S : CSc NN sx sc x fr ix) (eN : X.N = NN) (eS : X.env.scope = sx) (j : Nat) (y : Str) (h : fr[j]? = some y) :
    ∃ i, ix[j]? = some i ∧ X.N[i]? = some y ∧ (sc.names.lookup y = some .free) ∧ (X.env.kindOf y = some .cell ∨ X.env.kindOf y = some .free) := by
  have hj : j < fr.length := (List.getElem?_eq_some_iff.mp h).1
  have hj' : j < ix.length := by rw [S.len]; exact hj
  have e1 : fr[j] = y := (List.getElem?_eq_some_iff.mp h).2
  have hm : (y, ix[j]) ∈ fr.zip ix := by
    rw [← e1, List.mem_iff_getElem?]
    exact ⟨j, by rw [List.getElem?_zip_eq_some]; exact ⟨by simp [hj], by simp [hj']⟩⟩
  have q := S.at' _ hm
  refine ⟨ix[j], by simp [hj'], by rw [eN]; exact q.1, q.2.1, ?_⟩
  show X.env.scope.names.lookup y = _ ∨ X.env.scope.names.lookup y = _
  rw [eS]
  exact q.2.2
theorem CSc.fre {NN : List Str} {sx sc : Scope} {x : Str} {fr : List Str} {ix : List Nat} {X : Cx} (S : CSc NN sx sc x fr ix) (eS : X.env.scope = sx) : ∀ y ∈ sc.names, y.2 = .free → X.env.kindOf y.1 = some .cell ∨ X.env.kindOf y.1 = some .free := fun y hy hk => by
  show X.env.scope.names.lookup y.1 = _ ∨ X.env.scope.names.lookup y.1 = _
  rw [eS]
  exact S.free y hy hk
theorem clos_ok {env : Env} : ∀ (names : List (Str × NameKind)) (cs : List (Str × Addr)), (∀ y ∈ names, y.2 = .free → ∃ c, env.cells.lookup y.1 = some c) → (∀ y c, cs.lookup y = some c → env.cells.lookup y = some c) →
    ∃ cl, (forIn names cs fun (x : Str × NameKind) (r : List (Str × Addr)) => (do if (x.2 == NameKind.free) = true then (do let c ← cellOf env x.1; pure (ForInStep.yield ((x.1, c) :: r))) else pure (ForInStep.yield r) : Sem (ForInStep (List (Str × Addr))))) = (pure cl : Sem (List (Str × Addr))) ∧
      (∀ y c, cl.lookup y = some c → env.cells.lookup y = some c) ∧ (∀ y, (y, NameKind.free) ∈ names → ∃ c, cl.lookup y = some c) ∧ (∀ y c, cs.lookup y = some c → ∃ c', cl.lookup y = some c')
  | [], cs, _, h2 => ⟨cs, rfl, h2, ⟨fun y z => absurd z (by simp), fun y c e => ⟨c, e⟩⟩⟩
  | (n, k) :: r, cs, h1, h2 => by
    by_cases hk : k = .free
    · subst hk
      obtain ⟨c, hc⟩ := h1 (n, .free) List.mem_cons_self rfl
      have h2' : ∀ y d, ((n, c) :: cs).lookup y = some d → env.cells.lookup y = some d := fun y d e => by
        rw [List.lookup_cons] at e
        cases hy : y == n with
        | true =>
          rw [hy] at e
          have : y = n := by simpa using hy
          subst this
          cases e
          exact hc
        | false => rw [hy] at e; exact h2 y d e
      obtain ⟨cl, e, a1, a2, a3⟩ := clos_ok r ((n, c) :: cs) (fun y hy => h1 y (List.mem_cons_of_mem _ hy)) h2'
      refine ⟨cl, ?_, a1, fun y hy => ?_, fun y d q => ?_⟩
      · rw [List.forIn_cons]
        have : cellOf env n = pure c := by unfold cellOf; rw [hc]
        show ((do let c ← cellOf env n; pure (ForInStep.yield ((n, c) :: cs)) : Sem _) >>= _) = _
        rw [this]
        exact e
      · rcases List.mem_cons.mp hy with z | z
        · cases z
          exact a3 n c (by simp [List.lookup_cons])
        · exact a2 y z
      · cases hy : y == n with
        | true => exact a3 y c (by rw [List.lookup_cons, hy])
        | false => exact a3 y d (by rw [List.lookup_cons, hy]; exact q)
    · obtain ⟨cl, e, a1, a2, a3⟩ := clos_ok r cs (fun y hy => h1 y (List.mem_cons_of_mem _ hy)) h2
      refine ⟨cl, ?_, a1, fun y hy => ?_, a3⟩
      · rw [List.forIn_cons]
        have hb : (k == NameKind.free) = false := by simpa using hk
        show ((if (k == NameKind.free) = true then _ else pure (ForInStep.yield cs) : Sem _) >>= _) = _
        rw [hb]
        exact e
      · rcases List.mem_cons.mp hy with z | z
        · cases z; exact absurd rfl hk
        · exact a2 y z
theorem closureFor_ok {env : Env} {sc : Scope} (h : ∀ y ∈ sc.names, y.2 = .free → ∃ c, env.cells.lookup y.1 = some c) :
    ∃ cl, closureFor sc env = pure cl ∧ (∀ y c, cl.lookup y = some c → env.cells.lookup y = some c) ∧ (∀ y, (y, NameKind.free) ∈ sc.names → ∃ c, cl.lookup y = some c) := by
  obtain ⟨cl, e, a1, a2, _⟩ := clos_ok sc.names [] h (fun y c z => by simp at z)
  refine ⟨cl, ?_, a1, a2⟩
  show (forIn sc.names [] _ >>= fun cs => pure cs) = _
  refine Eq.trans (congrArg (fun z => z >>= fun cs => pure cs) e) ?_
  rfl
theorem relabel_free {sc : Scope} {env : Env} : ∀ {names : List (Str × NameKind)} {y : Str}, ((names.map fun (n, k) => if (k == NameKind.free && env.scope.kind == ScopeKind.function && env.kindOf n == some NameKind.cell) then (n, NameKind.cell) else (n, k)).lookup y = some .cell ∨
    (names.map fun (n, k) => if (k == NameKind.free && env.scope.kind == ScopeKind.function && env.kindOf n == some NameKind.cell) then (n, NameKind.cell) else (n, k)).lookup y = some .free) → (∀ z ∈ names, z.2 ≠ .cell) → (y, NameKind.free) ∈ names
  | [], y, h, _ => by rcases h with h | h <;> simp at h
  | (n, k) :: r, y, h, hc => by
    have ih := @relabel_free sc env r y
    have hr : ∀ z ∈ r, z.2 ≠ .cell := fun z hz => hc z (List.mem_cons_of_mem _ hz)
    rw [List.map_cons] at h
    by_cases hy : y = n
    · subst hy
      by_cases hk : k = .free
      · subst hk; exact List.mem_cons_self
      · have hb : (k == NameKind.free) = false := by simpa using hk
        have e : (match (y, k) with | (n, k) => if (k == NameKind.free && env.scope.kind == ScopeKind.function && env.kindOf n == some NameKind.cell) = true then (n, NameKind.cell) else (n, k)) = (y, k) := by
          show (if (k == NameKind.free && env.scope.kind == ScopeKind.function && env.kindOf y == some NameKind.cell) = true then (y, NameKind.cell) else (y, k)) = _
          rw [hb, Bool.false_and, Bool.false_and]
          simp
        rw [e] at h
        have hl : List.lookup y ((y, k) :: (r.map fun (n, k) => if (k == NameKind.free && env.scope.kind == ScopeKind.function && env.kindOf n == some NameKind.cell) then (n, NameKind.cell) else (n, k))) = some k := by simp [List.lookup_cons]
        rcases h with h | h
        · rw [hl] at h; cases h; exact absurd rfl (hc _ List.mem_cons_self)
        · rw [hl] at h; cases h; exact absurd rfl hk
    · have hb : (y == n) = false := by simpa using hy
      have key : ∀ (p : Str × NameKind) (l : List (Str × NameKind)), p.1 = n → List.lookup y (p :: l) = List.lookup y l := fun p l hp => by
        obtain ⟨a, b⟩ := p
        have : (y == a) = false := by simpa using fun z => hy (z.trans hp)
        rw [List.lookup_cons, this]
      have hp : (match (n, k) with | (n, k) => if (k == NameKind.free && env.scope.kind == ScopeKind.function && env.kindOf n == some NameKind.cell) = true then (n, NameKind.cell) else (n, k)).1 = n := by
        show (if (k == NameKind.free && env.scope.kind == ScopeKind.function && env.kindOf n == some NameKind.cell) = true then (n, NameKind.cell) else (n, k)).1 = n
        split <;> rfl
      rw [key _ _ hp] at h
      exact List.mem_cons_of_mem _ (ih h hr)
theorem relabel_vis {env : Env} : ∀ {names : List (Str × NameKind)} {y : Str}, names.lookup y = some .free → ((names.map fun (n, k) => if (k == NameKind.free && env.scope.kind == ScopeKind.function && env.kindOf n == some NameKind.cell) then (n, NameKind.cell) else (n, k)).lookup y = some .cell ∨
    (names.map fun (n, k) => if (k == NameKind.free && env.scope.kind == ScopeKind.function && env.kindOf n == some NameKind.cell) then (n, NameKind.cell) else (n, k)).lookup y = some .free)
  | [], _, h => by simp at h
  | (n, k) :: r, y, h => by
    have ih := @relabel_vis env r y
    rw [List.map_cons]
    rw [List.lookup_cons] at h
    cases hy : y == n with
    | true =>
      rw [hy] at h
      cases h
      show (List.lookup y ((if (NameKind.free == NameKind.free && env.scope.kind == ScopeKind.function && env.kindOf n == some NameKind.cell) = true then (n, NameKind.cell) else (n, NameKind.free)) :: _) = _) ∨ (List.lookup y ((if (NameKind.free == NameKind.free && env.scope.kind == ScopeKind.function && env.kindOf n == some NameKind.cell) = true then (n, NameKind.cell) else (n, NameKind.free)) :: _) = _)
      by_cases hc : (NameKind.free == NameKind.free && env.scope.kind == ScopeKind.function && env.kindOf n == some NameKind.cell) = true
      · rw [if_pos hc]; exact .inl (by rw [List.lookup_cons, hy])
      · rw [if_neg hc]; exact .inr (by rw [List.lookup_cons, hy])
    | false =>
      rw [hy] at h
      show (List.lookup y ((if (k == NameKind.free && env.scope.kind == ScopeKind.function && env.kindOf n == some NameKind.cell) = true then (n, NameKind.cell) else (n, k)) :: _) = _) ∨ (List.lookup y ((if (k == NameKind.free && env.scope.kind == ScopeKind.function && env.kindOf n == some NameKind.cell) = true then (n, NameKind.cell) else (n, k)) :: _) = _)
      by_cases hc : (k == NameKind.free && env.scope.kind == ScopeKind.function && env.kindOf n == some NameKind.cell) = true
      · rw [if_pos hc, List.lookup_cons, hy]; exact ih h
      · rw [if_neg hc, List.lookup_cons, hy]; exact ih h
def PTs (X : Cx) (ifs : List Expr) (t : TT) : Prop :=
  ∀ (pins : List (Addr × Obj)) (s : Shared) (σ : St) (H : Hp) (Q : Bool → Hp → Prop), Inv X pins σ H s → t σ H Q →
    wpAny (model X.prog X.w) X.A (forIn ifs true fun c r => if r = true then do let ok ← isTrue c X.env (eval c X.env); pure (ForInStep.yield ok) else pure (ForInStep.yield r)) (TP X pins σ Q) X.xe s
def tAll : TT := fun _ H Q => Q true H
theorem pts_nil {X : Cx} : PTs X [] tAll := fun _ _ _ H _ I h => wpAny_tests_nil ⟨H, I, h⟩
theorem pts_one {X : Cx} {c : Expr} {t : TT} (hc : PT X c t) : PTs X [c] t := fun pins s σ H Q I h => wpAny_tests_one (hc pins s σ H Q I h)
section
variable {prog : Program} {w : World} {A : Around} {R : Result → Shared → Prop}
theorem loop_rule {elt target iter : Expr} {ifs : List Expr} {scope : Scope} {pos : Pos} {it acc : Value} {env : Env} {s : Shared} {E' : Value → Shared → Prop} (I : Nat → Shared → Prop) (hE : ∀ e s', E' e s' → notedBy (model prog w) A env (fun e s' => R (.error e) s') e s')
    (turn : ∀ n s, I n s → wpAny (model prog w) A (pyNext it) (fun r s₁ => match r with
      | none => R (.ok .next) s₁
      | some v => wpAny (model prog w) A (letOwnedTupleGo target it v) (fun _ s₁' => wpAny (model prog w) A (assign target env v) (fun _ s₂ =>
          wpAny (model prog w) A (forIn ifs true fun c r => if r = true then do let ok ← isTrue c env (eval c env); pure (ForInStep.yield ok) else pure (ForInStep.yield r)) (fun ok s₃ =>
            if ok = true then wpAny (model prog w) A (eval elt env) (fun x s₄ => wpAny (model prog w) A (call (.builtin "list.append") [acc, x]) (fun _ s₅ => ∃ m, m < n ∧ I m s₅) E' s₄) E' s₃ else ∃ m, m < n ∧ I m s₃) E' s₂) E' s₁') E' s₁) E' s)
    (n : Nat) (h : I n s) : codeAny (model prog w) A (.compLoop (.ListComp elt [⟨target, iter, ifs, 0⟩] scope pos) 0 it acc env) R s := by
  refine codeAny_loop rfl I (fun k s' hI => ?_) n h
  show wpAny _ A ((compTurn (.ListComp elt [⟨target, iter, ifs, 0⟩] scope pos) 0 it acc env).onRaise (fun x => do noteFrame x env; theTreesLotGoes x)) _ _ s'
  refine wpAny_noted ?_
  rw [compTurn_list]
  refine wpAny_bind (wpAny_standAt (wpAny_bind (wpAny_mono (turn k s' hI) (fun r s1 h1 => ?_) hE)))
  cases r with
  | none => exact wpAny_pure h1
  | some v =>
    refine wpAny_bind (wpAny_mono h1 (fun _ s2 h2 => wpAny_bind (wpAny_mono h2 (fun _ s3 h3 => wpAny_bind (wpAny_mono h3 (fun ok s4 h4 => ?_) hE)) hE)) hE)
    cases ok with
    | false => exact wpAny_pure ⟨rfl, h4⟩
    | true => exact wpAny_bind (wpAny_bind (wpAny_mono h4 (fun x s5 h5 => wpAny_bind (wpAny_mono h5 (fun _ s6 h6 => wpAny_pure (wpAny_pure ⟨rfl, h6⟩)) hE)) hE))
end
def stC (ix : List Nat) (σ : St) (x : Option V) : St := x :: ix.map fun j => (σ[j]?).join
def CompW (J : It) (tt : TT) (te : TE) (ix : List Nat) (σ : St) (Q : VK) (H1 : Hp) : Prop := ∃ W : Nat → Nat → List V → Hp → Prop, (∃ m, W 0 m [] H1) ∧ ∀ i m ys H2, W i m ys H2 → ys.length < sizeLine ∧
  ((J.stop i H2 ∧ ∀ D, H2 D = none → Q (.ref D) (upd H2 D (.lst ys))) ∨
   (J.go i H2 ∧ ∃ N : List V → Hp → Prop, (∀ zs H', N zs H' → ∃ m', m' < m ∧ W (i + 1) m' zs H') ∧ ∀ x H3, J.yld i H2 x H3 → tt (stC ix σ (some x)) H3 fun b H4 => if b = true then te (stC ix σ (some x)) H4 (fun y H5 => N (ys ++ [y]) H5) else N ys H4))
def tComp (wi : TI) (tt : TT) (te : TE) (ix : List Nat) : TE := fun σ H Q => wi σ H fun J H1 => CompW J tt te ix σ Q H1
section
variable {X : Cx} {NN : List Str} {sx sc : Scope} {x : Str} {fr : List Str} {ix : List Nat} {elt iter : Expr} {ifs : List Expr} {px pos : Pos} {wi : TI} {tt : TT} {te : TE}
theorem inv_block {pins : List (Addr × Obj)} {σ : St} {H : Hp} {s s4 : Shared} {cl : List (Str × Addr)} {C : Addr} {fp : List Addr} (S : CSc NN sx sc x fr ix) (eN : X.N = NN) (eS : X.env.scope = sx) (I : Inv X pins σ H s) (hf : ∀ b ∈ fp, FpOk X pins H b) (hfo : ∀ b ∈ fp, ∃ o, s.heap.get? b = some o)
    (c1 : ∀ y c, cl.lookup y = some c → X.env.cells.lookup y = some c) (c2 : ∀ y, (y, NameKind.free) ∈ sc.names → ∃ c, cl.lookup y = some c) (hC : s.heap.objs.size ≤ C) (ho : s4.os = s.os) (hg : s4.gens = s.gens)
    (k : ∀ b o, s.heap.get? b = some o → s4.heap.get? b = some o) (hns : ∃ m, s4.heap.Ns C m) : Inv (cxC X sc cl (x :: fr) s H fp C) [] (stC ix σ none) H s4 := by
  have hlt : ∀ b o, s.heap.get? b = some o → b ≠ C := fun b o e => Nat.ne_of_lt (Nat.lt_of_lt_of_le (Heap.lt_size e) hC)
  have fpx : ∀ b ∈ fp, b ∉ frs X.stack := fun b hb z => by
    obtain ⟨_, f1, f2, _⟩ := hf b hb
    rcases List.mem_cons.mp (I.stkSub b z) with q | q
    · exact f1 q
    · exact f2 q
  refine ⟨⟨I.ok.mod, S.kind, I.ok.glob, I.ok.blt, hC, fun y z c e1 e2 => I.ok.inj y z c (c1 y c e1) (c1 z c e2), fun y hy => ?_, fun y c z => Bool.noConfusion z, I.ok.hd, I.ok.frames, .inl rfl, fun b hb => ⟨?_, fun y c e => (hf b hb).2.2.2.2.1 y c (c1 y c e)⟩, I.bs, Nat.le_trans I.ok.bsz I.sz, fun b o e z => ?_, fpx, I.stack, I.stkFree⟩,
    ho, by rw [hg]; exact I.bare, Un.kept k, ?_, fun y c e => ?_, ?_, fun y c e => I.freeC y c (c1 y c e), fun p hp => ?_, I.hok.kept k, ?_⟩
  · exact c2 y (relabel_free (sc := sc) hy S.nocell)
  · obtain ⟨o, e⟩ := hfo b hb
    exact hlt b o e
  · obtain ⟨_, f1, f2, f3, _⟩ := hf b z
    rcases f3 with f3 | f3
    · exact I.ok.noex b o e f3
    · have := (I.ok.bs b o e).1
      exact absurd (Nat.lt_of_lt_of_le (Heap.lt_size this) f3) (Nat.lt_irrefl _)
  · obtain ⟨m, hm⟩ := hns
    refine ⟨m, hm, fun i y v e1 e2 e3 => ?_⟩
    cases i with
    | zero => cases e2
    | succ j =>
      have e1' : fr[j]? = some y := e1
      obtain ⟨i0, q1, q2, q3, q4⟩ := S.ix eN eS j y e1'
      have e2' : (ix.map fun j => (σ[j]?).join)[j]? = some (some v) := e2
      rw [List.getElem?_map, q1] at e2'
      have e2'' : (σ[i0]?).join = some v := Option.some.inj e2'
      have e4 : σ[i0]? = some (some v) := by
        cases z : σ[i0]? with
        | none => rw [z] at e2''; cases e2''
        | some z' => rw [z] at e2''; exact congrArg some e2''
      obtain ⟨mX, hmX, hl⟩ := I.loc
      have vis : Vis X.env.scope y := by
        rcases q4 with q | q
        · exact .inr (.inl q)
        · exact .inr (.inr q)
      obtain ⟨u, r, l⟩ := hl i0 y v q2 e4 vis
      refine ⟨u, r, .inr ⟨relabel_vis q3, ?_⟩⟩
      have hmem : (y, NameKind.free) ∈ sc.names := PySem.mem_of_lookup q3
      obtain ⟨c, hc⟩ := c2 y hmem
      refine ⟨c, hc, ?_⟩
      rcases l with ⟨l, _⟩ | ⟨_, c', l1, l2⟩
      · rcases q4 with q | q
        · rw [q] at l; cases l
        · rw [q] at l; cases l
      · have := c1 y c hc
        rw [this] at l1
        cases l1
        obtain ⟨o, h1, h2⟩ := l2
        exact ⟨o, k _ _ h1, h2⟩
  · obtain ⟨v, o, h1, h2⟩ := I.cell y c (c1 y c e)
    exact ⟨v, o, k _ _ h1, h2⟩
  · exact I.hok.fresh hC
  · have : p ∈ ([] : List (Addr × Obj)) := hp
    cases this
  · show (none :: ix.map _).length = (x :: fr).length
    rw [List.length_cons, List.length_map, S.len, List.length_cons]
theorem sq_push (its : List Value) (y : Value) (n : Nat) : ({ cls := .type "list", data := .seq (its.toArray.push y) (n + 1) } : Obj) = { cls := .type "list", data := .seq (its ++ [y]).toArray (n + 1) } := by simp
theorem block_ok {pins : List (Addr × Obj)} {σ : St} {H : Hp} {s : Shared} {cl : List (Str × Addr)} {it : Addr} {fp : List Addr} {tn : Nat → Heap → Prop} {J : It} {E : Value → Shared → Prop} {R : Value → Addr → Result → Shared → Prop} {Q : VK}
    (S : CSc NN sx sc x fr ix) (eN : X.N = NN) (eS : X.env.scope = sx) (hc : X.calm = true) (c1 : ∀ y c, cl.lookup y = some c → X.env.cells.lookup y = some c) (c2 : ∀ y, (y, NameKind.free) ∈ sc.names → ∃ c, cl.lookup y = some c)
    (ht : ∀ cl s H fp C, PTs (cxC X sc cl (x :: fr) s H fp C) ifs tt) (he : ∀ cl s H fp C, PE (cxC X sc cl (x :: fr) s H fp C) elt te)
    (I : Inv X pins σ H s) (T : Turn X.prog X.w X.K (.Name x px) J fp it tn) (st : tn 0 s.heap) (hf : ∀ b ∈ fp, FpOk X pins H b)
    (W : Nat → Nat → List V → Hp → Prop) (m0 : Nat) (w0 : W 0 m0 [] H)
    (hW : ∀ i m ys H2, W i m ys H2 → ys.length < sizeLine ∧ ((J.stop i H2 ∧ ∀ D, H2 D = none → Q (.ref D) (upd H2 D (.lst ys))) ∨
      (J.go i H2 ∧ ∃ N : List V → Hp → Prop, (∀ zs H', N zs H' → ∃ m', m' < m ∧ W (i + 1) m' zs H') ∧ ∀ x H3, J.yld i H2 x H3 → tt (stC ix σ (some x)) H3 fun b H4 => if b = true then te (stC ix σ (some x)) H4 (fun y H5 => N (ys ++ [y]) H5) else N ys H4)))
    (hR : ∀ (D C : Addr) (H' : Hp) (s' : Shared), Inv X pins σ H' s' → FpOk X pins H' C → (∃ m, s'.heap.Ns C m) → Q (.ref D) H' → R (.ref D) C (.ok .next) s') :
    wpAny (model X.prog X.w) X.A (newList []) (fun acc s₃ => wpAny (model X.prog X.w) X.A (newFunctionEnv sc X.env.globals cl [] X.env.qual none .none (some X.env)) (fun cenv s₄ =>
      codeAny (model X.prog X.w) X.A (.compStart (.ListComp elt [⟨.Name x px, iter, ifs, 0⟩] sc pos) 0 (.ref it) acc { cenv with scope := relabel sc X.env }) (R acc cenv.locals) s₄) E s₃) E s := by
  refine wpAny_newObj_type (wpAny_newFunctionEnv S.nocell (by intro y hy; simp at hy) (fun h1 ns1 sb1 => ?_) S.kind)
  dsimp only at ns1 sb1 ⊢
  generalize hG : s.heap.push { cls := .type "list", dict := none, data := .seq ([] : List Value).toArray } = G at ns1 sb1 ⊢
  have sz : G.objs.size = s.heap.objs.size + 1 := by rw [← hG, Heap.size_push]
  have hC : s.heap.objs.size ≤ G.objs.size := by rw [sz]; exact Nat.le_succ _
  have neDC : s.heap.objs.size ≠ G.objs.size := by rw [sz]; exact Nat.ne_of_lt (Nat.lt_succ_self _)
  have kp : ∀ b o, s.heap.get? b = some o → h1.get? b = some o := fun b o e => by
    have hb := Heap.lt_size e
    have q : G.get? b = some o := by rw [← hG]; exact Heap.get?_push_of_some _ e
    exact (sb1.2 b (Nat.ne_of_lt (Nat.lt_of_lt_of_le hb hC))).trans (Heap.get?_push_of_some _ q)
  have kD : h1.get? s.heap.objs.size = some { cls := .type "list", data := .seq ([] : List Value).toArray 0 } := by
    have q : G.get? s.heap.objs.size = some { cls := .type "list", data := .seq ([] : List Value).toArray 0 } := by rw [← hG]; exact Heap.get?_push_size _ rfl
    exact (sb1.2 _ neDC).trans (Heap.get?_push_of_some _ q)
  have hfo : ∀ b ∈ fp, ∃ o, s.heap.get? b = some o := fun b hb => let ⟨o, e, _⟩ := T.obj _ _ st b hb; ⟨o, e⟩
  have fpD : ∀ b ∈ fp, b ≠ s.heap.objs.size := fun b hb => by
    obtain ⟨o, e⟩ := hfo b hb
    exact Nat.ne_of_lt (Heap.lt_size e)
  have HD : H s.heap.objs.size = none := I.hok.fresh (Nat.le_refl _)
  generalize hY : cxC X sc cl (x :: fr) s H fp G.objs.size = Y
  have IY : Inv Y [] (stC ix σ none) H { s with heap := h1, toks := s.toks + ([] : List (Str × Value)).length } := by
    rw [← hY]
    exact inv_block S eN eS I hf hfo c1 c2 hC rfl rfl kp ⟨_, ns1⟩
  have htY : PTs Y ifs tt := by rw [← hY]; exact ht _ _ _ _ _
  have heY : PE Y elt te := by rw [← hY]; exact he _ _ _ _ _
  have pgY : PG Y (.Name x px) (gName 0) := by
    rw [← hY]
    exact pg_name S.nd rfl (.inl (lookup_relabel_local S.own)) (.inr (lookup_relabel_local S.own))
  have eP : Y.prog = X.prog := by rw [← hY]; rfl
  have ew : Y.w = X.w := by rw [← hY]; rfl
  have eK : Y.K = X.K := by rw [← hY]; rfl
  have eA : Y.A = X.A := by rw [← hY]; rfl
  have ecalm : Y.calm = true := by rw [← hY]; exact hc
  have eenv : Y.env = compEnvC sc cl G.objs.size X.env := by rw [← hY]; rfl
  have epn : Y.pn = [] := by rw [← hY]; rfl
  have exe : ∀ e s', ¬ Y.xe e s' := by rw [← hY]; exact fun _ _ z => z
  have es0 : Y.s₀ = s := by rw [← hY]; rfl
  have eH0 : Y.H₀ = H := by rw [← hY]; rfl
  have eex : Y.ex = fp := by rw [← hY]; rfl
  have efs : Y.fs = frs X.stack := by rw [← hY]; rfl
  have ecl : ∀ y c, Y.env.cells.lookup y = some c → c < s.heap.objs.size := fun y c e => by
    rw [eenv] at e
    obtain ⟨v, q⟩ := I.cell y c (c1 y c e)
    exact q.lt
  have fD : ∀ (pl : List (Addr × Obj)) (H' : Hp), H' s.heap.objs.size = none → (∀ p ∈ pl, p.1 ≠ s.heap.objs.size) → FpOk Y pl H' s.heap.objs.size := fun pl H' hn hp => by
    refine ⟨hn, by rw [eenv]; exact neDC, fun z => ?_, .inr (by rw [es0]; exact Nat.le_refl _), fun y c e z => ?_, fun p hq => ?_⟩
    · rw [efs] at z
      rcases List.mem_cons.mp (I.stkSub _ z) with q | q
      · exact absurd I.lt (by rw [← q]; exact Nat.lt_irrefl _)
      · exact I.nofs (Nat.le_refl _) q
    · exact absurd (ecl y c e) (by rw [z]; exact Nat.lt_irrefl _)
    · rw [epn] at hq; exact hp p hq
  have fI : ∀ (pl : List (Addr × Obj)) (H' : Hp), (∀ b ∈ fp, H' b = none) → (∀ p ∈ pl, ∀ b ∈ fp, p.1 ≠ b) → ∀ b ∈ fp, FpOk Y pl H' b := fun pl H' hn hp b hb => by
    obtain ⟨_, f1, f2, f3, f4, f5⟩ := hf b hb
    obtain ⟨o, e⟩ := hfo b hb
    refine ⟨hn b hb, by rw [eenv]; exact Nat.ne_of_lt (Nat.lt_of_lt_of_le (Heap.lt_size e) hC), fun z => ?_, .inl (by rw [eex]; exact hb), fun y c e => ?_, fun p hq => ?_⟩
    · rw [efs] at z
      rcases List.mem_cons.mp (I.stkSub _ z) with q | q
      · exact f1 q
      · exact f2 q
    · rw [eenv] at e; exact f4 y c (c1 y c e)
    · rw [epn] at hq; exact hp p hq b hb
  have main : ∀ s3 : Shared, s3 = { s with heap := h1, toks := s.toks + ([] : List (Str × Value)).length } →
      codeAny (model X.prog X.w) X.A (.compLoop (.ListComp elt [⟨.Name x px, iter, ifs, 0⟩] sc pos) 0 (.ref it) (.ref s.heap.objs.size) (compEnvC sc cl G.objs.size X.env)) (R (.ref s.heap.objs.size) G.objs.size) s3 := by
    rintro s3 rfl
    refine loop_rule (E' := fun _ _ => False) (fun n s' => ∃ i H' ys its k σ', Inv Y [] σ' H' s' ∧ (∃ z, σ' = stC ix σ z) ∧ tn i s'.heap ∧ (∀ b ∈ fp, H' b = none) ∧ H' s.heap.objs.size = none ∧ Vals ys its ∧
      s'.heap.get? s.heap.objs.size = some { cls := .type "list", data := .seq its.toArray k } ∧ W i n ys H') (fun _ _ z => z.elim) ?_ m0 ⟨0, H, [], [], 0, _, IY, ⟨_, rfl⟩, ?_, fun b hb => (hf b hb).1, HD, .nil, kD, w0⟩
    · rintro n s3 ⟨i, H3, ys, its, k, σ3, I3, ⟨z3, hz3⟩, st3, fr3, hD3, r3, o3, w3⟩
      obtain ⟨hlen, hcase⟩ := hW i n ys H3 w3
      have dne : ∀ v, Data.seq its.toArray k ≠ Data.cell v := fun v z => nomatch z
      rcases hcase with ⟨stop, fin⟩ | ⟨go, N, hN, step⟩
      · -- the end
        have q := T.done Y eP ew eK ecalm i [] s3 σ3 H3 (fun _ _ => False) I3 (fI [] H3 fr3 (fun p hp => by cases hp)) st3 stop
        rw [eA] at q
        have I3p : Inv Y [(s.heap.objs.size, { cls := .type "list", data := .seq its.toArray k })] σ3 H3 s3 := I3.pins_of fun p hp => by
          have : p = (s.heap.objs.size, { cls := .type "list", data := .seq its.toArray k }) := by simpa using hp
          subst this
          obtain ⟨a1, a2, a3, _⟩ := fD [] H3 hD3 (fun p hp => by cases hp)
          exact ⟨o3, a1, a2, a3, fun v z => nomatch z⟩
        have q := T.done Y eP ew eK ecalm i _ s3 σ3 H3 (fun _ _ => False) I3p (fI _ H3 fr3 (fun p hp b hb => by
          have : p = (s.heap.objs.size, { cls := .type "list", data := .seq its.toArray k }) := by simpa using hp
          subst this
          exact (fpD b hb).symm)) st3 stop
        rw [eA] at q
        refine thn q fun r s4 ⟨hr, I4⟩ => ?_
        subst hr
        have oD : s4.heap.get? s.heap.objs.size = some { cls := .type "list", data := .seq its.toArray k } := (I4.pin (s.heap.objs.size, _) (by rw [epn]; simp)).1
        have u4 := I4.base
        rw [efs, eex, eH0, es0] at u4
        have uD : Un (frs X.stack) fp H (upd H3 s.heap.objs.size (.lst ys)) s.heap s4.heap := by
          have ne : ∀ b o, s.heap.get? b = some o → b ≠ s.heap.objs.size := fun b o e => Nat.ne_of_lt (Heap.lt_size e)
          exact ⟨u4.keep, u4.slot, fun b o e n hx => by rw [upd_ne (ne b o e)]; exact u4.free b o e n hx, u4.there, fun b xs e => by rw [upd_ne (ne_of_none (u4.tups b xs e) hD3)]; exact u4.tups b xs e,
            fun b o u e => by rw [upd_ne (ne_of_none (u4.frzs b o u e) hD3)]; exact u4.frzs b o u e, fun b ps e => by
              obtain ⟨more, q⟩ := u4.tbls b ps e
              exact ⟨more, by rw [upd_ne (ne_of_none q hD3)]; exact q⟩⟩
        have hok4 : HOk X.prog X.w (upd H3 s.heap.objs.size (.lst ys)) s4.heap := by
          have h0 := I4.hok
          rw [eP, ew] at h0
          intro b u e
          by_cases hb : b = s.heap.objs.size
          · subst hb
            rw [upd_same] at e
            cases e
            exact ⟨Nat.le_of_lt hlen, its, k, r3, oD⟩
          · rw [upd_ne hb] at e
            exact (h0 b u e).stay (fun _ _ _ q => q) (fun c q => by rw [upd_ne (ne_of_none q hD3)]; exact q) fun c xs q => by rw [upd_ne (ne_of_none q hD3)]; exact q
        have IX : Inv X pins σ (upd H3 s.heap.objs.size (.lst ys)) s4 := by
          refine I.call' (I4.os.trans (by rw [es0])) uD hok4 I4.bare fun b hb => ?_
          obtain ⟨_, f1, _, f3, f4, f5⟩ := hf b hb
          exact ⟨f3, f1, f4, f5⟩
        have fC : FpOk X pins (upd H3 s.heap.objs.size (.lst ys)) G.objs.size := by
          refine I.fpOk hC ?_
          rw [upd_ne (fun z => neDC z.symm)]
          have := I4.free
          rw [eenv] at this
          exact this
        obtain ⟨mC, hmC, _⟩ := I4.loc
        rw [eenv] at hmC
        exact hR _ _ _ _ IX fC ⟨mC, hmC⟩ (fin _ hD3)
      · -- a turn
        have I3p : Inv Y [(s.heap.objs.size, { cls := .type "list", data := .seq its.toArray k })] σ3 H3 s3 := I3.pins_of fun p hp => by
          have : p = (s.heap.objs.size, { cls := .type "list", data := .seq its.toArray k }) := by simpa using hp
          subst this
          obtain ⟨a1, a2, a3, _⟩ := fD [] H3 hD3 (fun p hp => by cases hp)
          exact ⟨o3, a1, a2, a3, fun v z => nomatch z⟩
        have nfp : ∀ p ∈ [((s.heap.objs.size, { cls := .type "list", data := .seq its.toArray k }) : Addr × Obj)], ∀ b ∈ fp, p.1 ≠ b := fun p hp b hb => by
          have : p = (s.heap.objs.size, { cls := .type "list", data := .seq its.toArray k }) := by simpa using hp
          subst this
          exact (fpD b hb).symm
        have q := T.item Y eP ew eK ecalm i _ s3 σ3 H3 (fun _ _ => False) I3p (fI _ H3 fr3 nfp) st3 go
        rw [eA] at q
        refine thn q fun r s4 ⟨u, hr, h4⟩ => ?_
        subst hr
        refine thn h4 fun _ s5 ⟨v, H5, I5, r5, y5, st5, fr5⟩ => ?_
        have I5p := I5.pinned (fp := fp) (fI _ H5 fr5 nfp) (T.obj _ _ st5)
        subst hz3
        have q5 := pgY _ s5 _ H5 v u (fun σ6 H6 => H6 = H5 ∧ σ6 = stC ix σ (some v)) I5p r5 ⟨rfl, rfl⟩
        rw [eA, eP, ew, eenv] at q5
        refine wpAny_mono q5 (fun _ s6 ⟨σ6, H6, I6, e6, e6'⟩ => ?_) (fun _ _ z => (exe _ _ z).elim)
        subst e6 e6'
        have q6 := htY _ s6 _ H6 _ I6 (step v H6 y5)
        rw [eA, eP, ew, eenv] at q6
        refine wpAny_mono q6 (fun ok s7 ⟨H7, I7, q7⟩ => ?_) (fun _ _ z => (exe _ _ z).elim)
        have back : ∀ {s8 : Shared} {σ8 : St} {H8 : Hp}, Inv Y ([(s.heap.objs.size, { cls := .type "list", data := .seq its.toArray k })] ++ pinsAt fp s5.heap) σ8 H8 s8 →
            s8.heap.get? s.heap.objs.size = some { cls := .type "list", data := .seq its.toArray k } ∧ H8 s.heap.objs.size = none ∧ tn (i + 1) s8.heap ∧ (∀ b ∈ fp, H8 b = none ∧ ∃ o, s8.heap.get? b = some o) := fun {s8 σ8 H8} I8 => by
          have a := I8.pin (s.heap.objs.size, { cls := .type "list", data := .seq its.toArray k }) (by rw [epn]; simp)
          refine ⟨a.1, a.2.1, T.keep _ _ _ st5 fun b hb o e => (I8.pin (b, o) (List.mem_append_right _ (List.mem_append_right _ (mem_pinsAt hb e)))).1, fun b hb => ?_⟩
          obtain ⟨o, e, d⟩ := T.obj _ _ st5 b hb
          have a := I8.pin (b, o) (List.mem_append_right _ (List.mem_append_right _ (mem_pinsAt hb e)))
          exact ⟨a.2.1, o, a.1⟩
        have unp : ∀ {s8 : Shared} {σ8 : St} {H8 : Hp} {pl : List (Addr × Obj)}, Inv Y pl σ8 H8 s8 → Inv Y [] σ8 H8 s8 := fun {s8 σ8 H8 pl} I8 => I8.pins_of fun p hp => by cases hp
        cases ok with
        | false =>
          obtain ⟨m', hm, w7⟩ : ∃ m', m' < n ∧ W (i + 1) m' ys H7 := hN _ _ q7
          obtain ⟨b1, b2, b3, b4⟩ := back I7
          exact ⟨m', hm, i + 1, H7, ys, its, k, _, unp I7, ⟨_, rfl⟩, b3, fun b hb => (b4 b hb).1, b2, r3, b1, w7⟩
        | true =>
          have q8 := heY _ s7 _ H7 _ I7 q7
          rw [eA, eP, ew, eenv] at q8
          refine wpAny_mono q8 (fun y s8 ⟨yv, H8, I8, r8, q9⟩ => ?_) (fun _ _ z => (exe _ _ z).elim)
          obtain ⟨m', hm, w8⟩ := hN _ _ q9
          obtain ⟨b1, b2, b3, b4⟩ := back I8
          refine append_at b1 (fun h9 sb9 o9 => ?_) (hsz := by rw [List.size_toArray, ← r3.length]; exact Nat.le_of_lt hlen)
          obtain ⟨a1, a2, _, a3, a4, _⟩ := fD [] H8 b2 (fun p hp => by cases hp)
          have I9 : Inv Y [] (stC ix σ (some v)) H8 { s8 with heap := h9 } := (unp I8).turned (t' := s8.toks) (fun b o hb e => (sb9.2 b hb).trans e) a1 a2 a3 a4 (fun p hp => by rw [epn] at hp; cases hp)
          refine ⟨m', hm, i + 1, H8, ys ++ [yv], its ++ [y], k + 1, _, I9, ⟨_, rfl⟩, T.keep _ _ _ b3 fun b hb o e => (sb9.2 b (fpD b hb)).trans e, fun b hb => (b4 b hb).1, b2, r3.append (.cons r8 .nil), ?_, w8⟩
          exact o9.trans (congrArg some (sq_push its y k))
    · exact T.keep _ _ _ st fun b hb o e => kp b o e
  exact codeAny_compStart_list (main _ rfl) (T.self X.A 0 _ _ _ (T.keep _ _ _ st fun b hb o e => kp b o e) (main _ rfl))
theorem pe_comp (S : CSc NN sx sc x fr ix) (eN : X.N = NN) (eS : X.env.scope = sx) (hc : X.calm = true) (hi : PI X (.Name x px) iter wi) (ht : ∀ cl s H fp C, PTs (cxC X sc cl (x :: fr) s H fp C) ifs tt) (he : ∀ cl s H fp C, PE (cxC X sc cl (x :: fr) s H fp C) elt te)
    (hs : ∀ v, foldedSetIterable iter X.env v = pure v := by intro _; rfl) : PE X (.ListComp elt [⟨.Name x px, iter, ifs, 0⟩] sc pos) (tComp wi tt te ix) := by
  intro pins s σ H Q I h
  obtain ⟨cl, e, c1, c2⟩ := closureFor_ok (env := X.env) (sc := sc) fun y hy hk => I.ok.has y.1 (S.fre eS y hy hk)
  rw [eval_ListComp]
  refine wpAny_comprehension_free (use := none) rfl hs e S.kind S.names (thn (hi pins s σ H _ I h) fun v s1 h1 => thn h1 fun itv s2 h2 => ?_)
  obtain ⟨it, fp, tn, J, H2, ei, I2, T, st2, f2, W, ⟨m0, w0⟩, hW⟩ := h2
  subst ei
  refine block_ok S eN eS hc c1 c2 ht he I2 T st2 f2 W m0 w0 hW fun D C H' s' I' fC hm q => ?_
  obtain ⟨m, hm⟩ := hm
  obtain ⟨a1, a2, _, a3, a4, a5⟩ := fC
  exact ⟨m, hm, fun h' sb => ⟨.ref D, H', I'.turned (t' := s'.toks) (fun b o hb e => (sb.2 b hb).trans e) a1 a2 a3 a4 a5, rfl, q⟩⟩
theorem ps_comp {i : Nat} {y : Str} {py spos : Pos} (S : CSc NN sx sc x fr ix) (eN : X.N = NN) (eS : X.env.scope = sx) (hc : X.calm = true) (hN : X.N.Nodup) (hiN : X.N[i]? = some y) (hy : X.env.scope.names.lookup y = some .local) (hi : PI X (.Name x px) iter wi)
    (ht : ∀ cl s H fp C, PTs (cxC X sc cl (x :: fr) s H fp C) ifs tt) (he : ∀ cl s H fp C, PE (cxC X sc cl (x :: fr) s H fp C) elt te)
    (hsw : swapsWith (.ListComp elt [⟨.Name x px, iter, ifs, 0⟩] sc pos) (some (.Name y py)) spos.line X.env = pure true)
    (hs : ∀ v, foldedSetIterable iter X.env v = pure v := by intro _; rfl) : PS X (.Assign [.Name y py] (.ListComp elt [⟨.Name x px, iter, ifs, 0⟩] sc pos) spos) (tAsg (tComp wi tt te ix) (gName i)) := by
  intro pins s σ H D I h
  obtain ⟨cl, e, c1, c2⟩ := closureFor_ok (env := X.env) (sc := sc) fun y hy hk => I.ok.has y.1 (S.fre eS y hy hk)
  rw [exec_Assign_Name_used _ _ _ _ hsw]
  refine wpAny_bind (wpAny_standAt (wpAny_bind ?_))
  show wpAny _ X.A (do let _ ← comprehension (.ListComp elt [⟨.Name x px, iter, ifs, 0⟩] sc pos) sc X.env _ (newList []) false (eval iter X.env) (some (assign (.Name y py) X.env))) _ _ s
  refine wpAny_bind (wpAny_mono (wpAny_comprehension_free (use := some (assign (.Name y py) X.env)) (Q := fun _ s' => SP X pins D .next s') rfl hs e S.kind S.names
    (thn (hi pins s σ H _ I h) fun v s1 h1 => thn h1 fun itv s2 h2 => ?_)) (fun _ s' hq => wpAny_pure (wpAny_pure hq)) fun _ _ z => z)
  obtain ⟨it, fp, tn, J, H2, ei, I2, T, st2, f2, W, ⟨m0, w0⟩, hW⟩ := h2
  subst ei
  refine block_ok (Q := fun v H1 => gName i v σ H1 D.nx) S eN eS hc c1 c2 ht he I2 T st2 f2 W m0 w0 hW fun L C H' s' I' fC hm q => ?_
  obtain ⟨m, hm⟩ := hm
  obtain ⟨a1, a2, _, a3, a4, a5⟩ := fC
  show wpAny _ _ (assign (.Name y py) X.env (.ref L)) _ _ _
  refine wpAny_assign_Name (store_ok2 I' hN hiN (.inl hy) (v := .ref L) rfl (fun s2 I2 hsb => ?_) (.inr hy))
  obtain ⟨a, sb, ha⟩ := hsb
  have neC : C ≠ a := by
    rcases ha with z | z
    · rw [z]; exact a2
    · exact fun q => a4 y a z q.symm
  refine ⟨m, hm.sameBut sb neC, fun h' sb' => ⟨_, H', I2.turned (t' := s2.toks) (fun b o hb e => (sb'.2 b hb).trans e) a1 a2 a3 a4 a5, q⟩⟩
end
end L2
set_option Elab.async false
set_option linter.all false
set_option maxRecDepth 100000
set_option maxHeartbeats 4000000
namespace L2
open PySem PySem.Spec PyProof.Rows
def tJoin (t u : TS) : TS := fun D σ H => ∃ P : St → Hp → Prop, t { D with nx := P } σ H ∧ ∀ σ' H', P σ' H' → u D σ' H'
section
variable {X : Cx} {st : Stmt} {rest : List Stmt} {t u : TS}
theorem pss_join (h1 : PS X st t) (h2 : PSs X rest u) : PSs X (st :: rest) (tJoin t u) := by
  intro pins s σ H D I ⟨P, a, b⟩
  refine wpAny_execs_cons (thn (h1 pins s σ H { D with nx := P } I a) fun f s1 q => ?_)
  cases f with
  | next =>
    obtain ⟨σ', H', I', q⟩ := q
    exact h2 pins s1 σ' H' D I' (b σ' H' q)
  | ret v => exact q
  | brk => exact q
  | cont => exact q
end
def starred : Expr → Bool
  | .Starred _ _ => true
  | _ => false
theorem star_cons {e : Expr} {es : List Expr} {env : Env} (h : starred e = false) : starEach (e :: es) env = (false, eval e env) :: starEach es env := by
  cases e <;> first | rfl | cases h
theorem star_any {pos : Pos} {env : Env} : ∀ {es : List Expr}, es.any starred = false → (backTo pos (starEach es env)).any (·.1) = false
  | [], _ => rfl
  | e :: es, h => by
    rw [List.any_cons, Bool.or_eq_false_iff] at h
    rw [star_cons h.1]
    show (false || (backTo pos (starEach es env)).any (·.1)) = false
    rw [star_any h.2]
    rfl
section
variable {X : Cx} {e : Expr} {es : List Expr} {te : TE} {t : TA} {pos p : Pos} {x : Str} {id T : String} {r : List V → Hp → VK → Prop}
theorem pa1 {e1 : Expr} {t1 : TE} (h1 : PE X e1 t1) (h : [e1].any starred = false := by rfl) : PA X [e1] (tCons t1 tNil) := by
  have hs : ∀ z ∈ [e1], starred z = false := fun z hz => by
    have := List.any_eq_false.mp h z hz
    simpa using this
  exact (pa_cons h1 pa_nil (star_cons (hs _ (by simp))))
theorem pa2 {e1 e2 : Expr} {t1 t2 : TE} (h1 : PE X e1 t1) (h2 : PE X e2 t2) (h : [e1, e2].any starred = false := by rfl) : PA X [e1, e2] (tCons t1 (tCons t2 tNil)) := by
  have hs : ∀ z ∈ [e1, e2], starred z = false := fun z hz => by
    have := List.any_eq_false.mp h z hz
    simpa using this
  exact (pa_cons h1 (pa_cons h2 pa_nil (star_cons (hs _ (by simp)))) (star_cons (hs _ (by simp))))
theorem pa3 {e1 e2 e3 : Expr} {t1 t2 t3 : TE} (h1 : PE X e1 t1) (h2 : PE X e2 t2) (h3 : PE X e3 t3) (h : [e1, e2, e3].any starred = false := by rfl) : PA X [e1, e2, e3] (tCons t1 (tCons t2 (tCons t3 tNil))) := by
  have hs : ∀ z ∈ [e1, e2, e3], starred z = false := fun z hz => by
    have := List.any_eq_false.mp h z hz
    simpa using this
  exact (pa_cons h1 (pa_cons h2 (pa_cons h3 pa_nil (star_cons (hs _ (by simp)))) (star_cons (hs _ (by simp)))) (star_cons (hs _ (by simp))))
theorem pa4 {e1 e2 e3 e4 : Expr} {t1 t2 t3 t4 : TE} (h1 : PE X e1 t1) (h2 : PE X e2 t2) (h3 : PE X e3 t3) (h4 : PE X e4 t4) (h : [e1, e2, e3, e4].any starred = false := by rfl) : PA X [e1, e2, e3, e4] (tCons t1 (tCons t2 (tCons t3 (tCons t4 tNil)))) := by
  have hs : ∀ z ∈ [e1, e2, e3, e4], starred z = false := fun z hz => by
    have := List.any_eq_false.mp h z hz
    simpa using this
  exact (pa_cons h1 (pa_cons h2 (pa_cons h3 (pa_cons h4 pa_nil (star_cons (hs _ (by simp)))) (star_cons (hs _ (by simp)))) (star_cons (hs _ (by simp)))) (star_cons (hs _ (by simp))))
theorem pa5 {e1 e2 e3 e4 e5 : Expr} {t1 t2 t3 t4 t5 : TE} (h1 : PE X e1 t1) (h2 : PE X e2 t2) (h3 : PE X e3 t3) (h4 : PE X e4 t4) (h5 : PE X e5 t5) (h : [e1, e2, e3, e4, e5].any starred = false := by rfl) : PA X [e1, e2, e3, e4, e5] (tCons t1 (tCons t2 (tCons t3 (tCons t4 (tCons t5 tNil))))) := by
  have hs : ∀ z ∈ [e1, e2, e3, e4, e5], starred z = false := fun z hz => by
    have := List.any_eq_false.mp h z hz
    simpa using this
  exact (pa_cons h1 (pa_cons h2 (pa_cons h3 (pa_cons h4 (pa_cons h5 pa_nil (star_cons (hs _ (by simp)))) (star_cons (hs _ (by simp)))) (star_cons (hs _ (by simp)))) (star_cons (hs _ (by simp)))) (star_cons (hs _ (by simp))))
theorem pa7 {e1 e2 e3 e4 e5 e6 e7 : Expr} {t1 t2 t3 t4 t5 t6 t7 : TE} (h1 : PE X e1 t1) (h2 : PE X e2 t2) (h3 : PE X e3 t3) (h4 : PE X e4 t4) (h5 : PE X e5 t5) (h6 : PE X e6 t6) (h7 : PE X e7 t7) (h : [e1, e2, e3, e4, e5, e6, e7].any starred = false := by rfl) : PA X [e1, e2, e3, e4, e5, e6, e7] (tCons t1 (tCons t2 (tCons t3 (tCons t4 (tCons t5 (tCons t6 (tCons t7 tNil))))))) := by
  have hs : ∀ z ∈ [e1, e2, e3, e4, e5, e6, e7], starred z = false := fun z hz => by
    have := List.any_eq_false.mp h z hz
    simpa using this
  exact (pa_cons h1 (pa_cons h2 (pa_cons h3 (pa_cons h4 (pa_cons h5 (pa_cons h6 (pa_cons h7 pa_nil (star_cons (hs _ (by simp)))) (star_cons (hs _ (by simp)))) (star_cons (hs _ (by simp)))) (star_cons (hs _ (by simp)))) (star_cons (hs _ (by simp)))) (star_cons (hs _ (by simp)))) (star_cons (hs _ (by simp))))
theorem pa9 {e1 e2 e3 e4 e5 e6 e7 e8 e9 : Expr} {t1 t2 t3 t4 t5 t6 t7 t8 t9 : TE} (h1 : PE X e1 t1) (h2 : PE X e2 t2) (h3 : PE X e3 t3) (h4 : PE X e4 t4) (h5 : PE X e5 t5) (h6 : PE X e6 t6) (h7 : PE X e7 t7) (h8 : PE X e8 t8) (h9 : PE X e9 t9) (h : [e1, e2, e3, e4, e5, e6, e7, e8, e9].any starred = false := by rfl) : PA X [e1, e2, e3, e4, e5, e6, e7, e8, e9] (tCons t1 (tCons t2 (tCons t3 (tCons t4 (tCons t5 (tCons t6 (tCons t7 (tCons t8 (tCons t9 tNil))))))))) := by
  have hs : ∀ z ∈ [e1, e2, e3, e4, e5, e6, e7, e8, e9], starred z = false := fun z hz => by
    have := List.any_eq_false.mp h z hz
    simpa using this
  exact (pa_cons h1 (pa_cons h2 (pa_cons h3 (pa_cons h4 (pa_cons h5 (pa_cons h6 (pa_cons h7 (pa_cons h8 (pa_cons h9 pa_nil (star_cons (hs _ (by simp)))) (star_cons (hs _ (by simp)))) (star_cons (hs _ (by simp)))) (star_cons (hs _ (by simp)))) (star_cons (hs _ (by simp)))) (star_cons (hs _ (by simp)))) (star_cons (hs _ (by simp)))) (star_cons (hs _ (by simp)))) (star_cons (hs _ (by simp))))
theorem pcall {CX : CXT} {k : Nat} {f : Addr} {fd : FuncData} {ps : List Str} {sp : Sp} {dvs : List V} {ds : List Value} {E : XK} (F : FnOk X.prog X.w X.K X.mg X.base CX k f fd ps sp) (hr : Room k X.A) (hg : Gl X x) (hm : X.mg x = some (.ref f))
    (hk : PySem.W.keepIn X.K (.ref f) = true) (hb : Binds X.K fd ps ds) (hd : Vals dvs ds) (hx : Passes CX X E) (ha : PA X (e :: es) t) (h1 : starred e = false := by rfl) (h2 : es.any starred = false := by rfl) (hdb : (x == ("__debug__" : Str)) = false := by decide) :
    PE X (.Call (.Name x p) (e :: es) [] pos) (tCall sp dvs E t) := pe_call F hr hg hm hk hb hd hx ha hdb (star_cons h1) (star_any h2)
theorem pcB (hc : CallR X (.builtin id) r) (hg : Gl X x) (hm : X.mg x = none) (hv : bootBuiltins x = some (.builtin id)) (ha : PA X (e :: es) t) (h1 : starred e = false := by rfl) (h2 : es.any starred = false := by rfl) (hn : x ≠ "__name__" := by decide)
    (hdb : (x == ("__debug__" : Str)) = false := by decide) : PE X (.Call (.Name x p) (e :: es) [] pos) (tCB r t) := pe_callB hc hg hm hv ha hn hdb (star_cons h1) (star_any h2)
theorem pcT (hc : CallR X (.type T) r) (hg : Gl X x) (hm : X.mg x = none) (hv : bootBuiltins x = some (.type T)) (ha : PA X (e :: es) t) (h1 : starred e = false := by rfl) (h2 : es.any starred = false := by rfl) (hn : x ≠ "__name__" := by decide)
    (hdb : (x == ("__debug__" : Str)) = false := by decide) : PE X (.Call (.Name x p) (e :: es) [] pos) (tCB r t) := pe_callTy hc hg hm hv ha hn hdb (star_cons h1) (star_any h2)
theorem prange1 {tg a : Expr} {ta : TA} (hg : Gl X "range") (hm : X.mg "range" = none) (ha : PA X [a] ta) (h1 : starred a = false := by rfl) : PI X tg (.Call (.Name "range" p) [a] [] pos) (iRng1 ta) := pi_range1 hg hm ha (star_cons h1)
end
section
variable {X : Cx}
theorem call_isinst : CallR X (.builtin "isinstance") (fun xs H Q => ∃ x T t b, xs = [x, .ty T] ∧ TyOf X.K H x t ∧ PySem.W.kitOne X.K t (.type T) = some b ∧ Q (.bl b) H) := by
  intro pins s σ H xs us Q I r h
  obtain ⟨x, T, t, b, rfl, ty, e, q⟩ := h
  obtain ⟨u, v, rfl, r1, r2⟩ := r.two
  obtain rfl : v = Value.type T := r2
  exact isinst_ok I r1 ty e fun tk => ⟨.bl b, H, I.tok tk, rfl, q⟩
theorem op_mulB : OpR X (binaryOp .Mult) (rI (fun i j => PySem.IntMulOk i j) fun i j => .int (i * j)) := opI fun _ _ _ _ _ _ _ hc q => mul_int q hc
theorem op_mulS : OpR X (binaryOp .Mult) (fun x y H Q => ∃ z n, x = .str z ∧ y = .int n ∧ MulOk z n ∧ Q (.str (Txt.mul z n)) H) := by
  intro pins s σ H x y v u Q I rx ry h
  obtain ⟨z, n, rfl, rfl, hm, q⟩ := h
  obtain ⟨t, rfl⟩ := rx
  obtain ⟨t', rfl⟩ := ry
  exact SB.mul hm fun t2 k => ⟨.str _, H, I.tok k, ⟨t2, rfl⟩, q⟩
end
section
variable {X : Cx} {sc : Scope} {cl : List (Str × Addr)} {N : List Str} {s : Shared} {H : Hp} {fp : List Addr} {C : Addr}
theorem ix_tupC : IxR (cxC X sc cl N s H fp C) (rIxT X.K) := ix_tup
end
theorem Same.upd {H H' : Hp} {p : Addr} {o : HO} (e : Same H H') (n : H' p = none) : Same H (upd H' p o) := fun b u h => by
  rw [upd_ne (ne_of_none (e b u h) n)]
  exact e b u h
theorem Same.upd0 {H : Hp} {p : Addr} {o : HO} (n : H p = none) : Same H (L2.upd H p o) := (Same.refl H).upd n
theorem Same.tup {K : PySem.W.Frag} {H H' : Hp} {a : Addr} {xs : List V} (e : Same H H') (h : SqT K H a xs) : SqT K H' a xs := by
  rcases h with (h | ⟨o, h⟩) | h
  · exact .inl (.inl (e _ _ h))
  · exact .inl (.inr ⟨o, e _ _ h⟩)
  · exact .inr h
theorem comp_list {K : PySem.W.Frag} {a : Addr} {xs : List V} {tt : TT} {te : TE} {ix : List Nat} {σ : St} {H : Hp} {Q : VK} (Pv : Nat → List V → Hp → Prop) (hn : xs.length < sizeLine) (hl : ∀ i ys H, Pv i ys H → ys.length ≤ i) (hq : ∀ i ys H, Pv i ys H → SqL K H a xs) (h0 : Pv 0 [] H)
    (hs : ∀ (i : Nat) x ys H, xs[i]? = some x → Pv i ys H → tt (stC ix σ (some x)) H fun b H4 => if b = true then te (stC ix σ (some x)) H4 (fun y H5 => Pv (i + 1) (ys ++ [y]) H5) else Pv (i + 1) ys H4)
    (hd : ∀ ys H, Pv xs.length ys H → ∀ D, H D = none → Q (.ref D) (upd H D (.lst ys))) : CompW (Itl K a) tt te ix σ Q H := by
  refine ⟨fun i m ys H => i ≤ xs.length ∧ m = xs.length - i ∧ Pv i ys H, ⟨xs.length, Nat.zero_le _, rfl, h0⟩, ?_⟩
  rintro i m ys H2 ⟨hi, rfl, p⟩
  refine ⟨Nat.lt_of_le_of_lt (Nat.le_trans (hl _ _ _ p) hi) hn, ?_⟩
  have q := hq i ys H2 p
  by_cases hlt : i < xs.length
  · refine .inr ⟨⟨xs, xs[i], q, by simp [hlt]⟩, fun zs H' => Pv (i + 1) zs H', fun zs H' z => ⟨xs.length - (i + 1), by omega, hlt, rfl, z⟩, fun x H3 y => ?_⟩
    obtain ⟨e1, e2⟩ := y
    subst e1
    exact hs i x ys _ (e2 xs q) p
  · obtain rfl : i = xs.length := by omega
    exact .inl ⟨⟨xs, q, Nat.le_refl _⟩, hd _ _ p⟩
theorem pz (j : Int) (h : decide (0 < j) = true := by rfl) : 0 < j := of_decide_eq_true h
theorem lz {n : Nat} (h : Nat.ble n 1000 = true := by rfl) : n ≤ sizeLine := Nat.le_trans (Nat.le_of_ble_eq_true h) (by decide)
theorem Same.put {H H' : Hp} {p : Addr} {o : HO} (e : Same H H') (n : H p = none) : Same H (L2.upd H' p o) := fun b u h => by
  rw [upd_ne (ne_of_none h n)]
  exact e b u h
theorem seqIx {K : PySem.W.Frag} {H : Hp} {a : Addr} {xs : List V} {i : Int} {v : V} {Q : VK} (h : SqL K H a xs ∨ SqT K H a xs) (e : atI xs i = some v) (q : Q v H) : rIx K (.ref a) (.int i) H Q := by
  rcases h with h | h
  · exact .inl ⟨a, xs, i, v, rfl, rfl, h, e, q⟩
  · exact .inr (.inl ⟨a, xs, i, v, rfl, rfl, h, e, q⟩)
theorem atI_some {α : Type} {xs : List α} {i : Int} (h0 : 0 ≤ i) (h : i < xs.length) : ∃ v, atI xs i = some v ∧ v ∈ xs := by
  obtain ⟨j, rfl⟩ : ∃ j : Nat, i = (j : Int) := ⟨i.toNat, by omega⟩
  have hj : j < xs.length := by omega
  exact ⟨xs[j], atI_nat (by simp [hj]), List.getElem_mem hj⟩
end L2
set_option Elab.async false
set_option linter.all false
set_option maxRecDepth 100000
set_option maxHeartbeats 4000000
namespace L2
open PySem PySem.Spec PyProof.Rows
section
variable {X : Cx}
theorem op_ne_nil (hu : X.A.units < cLine) : OpR X (compareOp .NotEq) (fun x y H Q => ∃ a b xs, x = .ref a ∧ y = .ref b ∧ H a = some (.lst xs) ∧ H b = some (.lst []) ∧ Q (.bl (!xs.isEmpty)) H) := by
  intro pins s σ H x y v u Q I rx ry h
  obtain ⟨a, b, xs, rfl, rfl, ha, hb, q⟩ := h
  obtain rfl : v = Value.ref a := rx
  obtain rfl : u = Value.ref b := ry
  obtain ⟨its, r1, p1, _⟩ := I.list (SqL.of ha)
  obtain ⟨its2, r2, p2, _⟩ := I.list (SqL.of hb)
  have e2 : its2 = [] := r2.zero
  subst e2
  cases xs with
  | nil =>
    have e1 : its = [] := r1.zero
    subst e1
    exact SeqAt.RcNeAt.lists (e := fun _ => true) p1.isList p2.isList rfl hu (fun j h1 => absurd h1 (by simp)) X.prog X.w X.xe _ ⟨.bl false, H, I, rfl, q⟩
  | cons x0 xs =>
    have hl := r1.length
    refine SeqAt.RcNeAt.lists_lengths p1.isList p2.isList ?_ hu X.prog X.w X.xe _ ⟨.bl true, H, I, rfl, q⟩
    have : its.length ≠ 0 := by rw [← hl]; simp
    simpa using this
theorem isinst_tup {pins : List (Addr × Obj)} {σ : St} {H : Hp} {s : Shared} {x : V} {u t : Value} {b : Bool} {tp : Addr} {dd : Option Addr} {its : List Value} {n : Nat} {sl : Array (Option Value)} {A : Around} {Q : Value → Shared → Prop} {E : Value → Shared → Prop}
    (I : Inv X pins σ H s) (rx : RelV x u) (ty : TyOf X.K H x t) (htp : s.heap.get? tp = some ⟨.type "tuple", dd, .seq its.toArray n, sl⟩) (e : PySem.W.kitAny X.K t its = some b) (h : ∀ tk, Q (.bool b) { s with toks := tk }) :
    wpAny (model X.prog X.w) A (call (.builtin "isinstance") [u, .ref tp]) Q E s := by
  cases ty with
  | non => cases (show u = Value.none from rx); exact PySem.W.kia_tup PySem.W.kitx_none I.kIn True.intro htp e (fun z => nomatch z) h
  | bl y => cases (show u = Value.bool y from rx); exact PySem.W.kia_tup PySem.W.kitx_bool I.kIn True.intro htp e (fun z => nomatch z) h
  | int i => obtain ⟨t, q⟩ := (show ∃ t, u = Value.int i t from rx); cases q; exact PySem.W.kia_tup PySem.W.kitx_int I.kIn True.intro htp e (fun z => nomatch z) h
  | str y => obtain ⟨t, q⟩ := (show ∃ t, u = Value.str y t from rx); cases q; exact PySem.W.kia_tup PySem.W.kitx_str I.kIn True.intro htp e (fun z => nomatch z) h
  | flt y => obtain ⟨t, q⟩ := (show ∃ t, u = Value.float y t from rx); cases q; exact PySem.W.kia_tup PySem.W.kitx_float I.kIn True.intro htp e (fun z => nomatch z) h
  | @lst a xs ea =>
    cases (show u = Value.ref a from rx)
    obtain ⟨_, _, n, _, h1⟩ := (show ObjOk X.prog X.w H s.heap a (.lst xs) from I.hok a _ ea)
    exact PySem.W.kia_tup PySem.W.kitx_list I.kIn ⟨_, h1, rfl⟩ htp e (fun z => nomatch z) h
  | @frz a ob xs ea =>
    cases (show u = Value.ref a from rx)
    obtain ⟨_, _, _, n, _, h1⟩ := (show ObjOk X.prog X.w H s.heap a (.frz ob (.lst xs)) from I.hok a _ ea)
    exact PySem.W.kia_tup PySem.W.kitx_list I.kIn ⟨_, h1, rfl⟩ htp e (fun z => nomatch z) h
  | @tup a xs ea =>
    cases (show u = Value.ref a from rx)
    obtain ⟨_, _, _, p⟩ := (show ObjOk X.prog X.w H s.heap a (.tup xs) from I.hok a _ ea)
    obtain ⟨o, h1, h2, _⟩ := p
    exact PySem.W.kia_tup PySem.W.kitx_tuple I.kIn ⟨o, h1, h2⟩ htp e (fun z => nomatch z) h
  | @dK a kvs ea =>
    cases (show u = Value.ref a from rx)
    obtain ⟨_, _, vs, _, p⟩ := (show ObjOk X.prog X.w H s.heap a (.dK kvs) from I.hok a _ ea)
    obtain ⟨o, es, ep, h1, h2, _⟩ := p
    exact PySem.W.kia_tup PySem.W.kitx_dict I.kIn ⟨o, h1, h2.1⟩ htp e (fun z => nomatch z) h
  | @dT a kvs ea =>
    cases (show u = Value.ref a from rx)
    obtain ⟨_, _, xs, _, o, es, ep, h1, h2, _⟩ := (show ObjOk X.prog X.w H s.heap a (.dT kvs) from I.hok a _ ea)
    exact PySem.W.kia_tup PySem.W.kitx_dict I.kIn ⟨o, h1, h2.1⟩ htp e (fun z => nomatch z) h
  | @ins a C dx fs ea cl ha hn htk hm =>
    cases (show u = Value.ref a from rx)
    obtain ⟨mA, O, _⟩ := ins_get I.hok ea
    obtain ⟨od, J, _⟩ := O.look
    exact PySem.W.kia_tup (PySem.W.kitx_own (cl.get _) cl.hd ha hn htk hm) I.kIn J htp e (fun z => nomatch z) h
theorem vals_ty : ∀ {Ts : List String} {us : List Value}, Vals (Ts.map V.ty) us → us = Ts.map Value.type
  | [], _, .nil => rfl
  | T :: Ts, _, .cons r t => by
    have e : _ = Value.type T := r
    rw [e, vals_ty t]
    rfl
theorem call_isinstT : CallR X (.builtin "isinstance") (fun xs H Q => ∃ (x : V) (tp : Addr) (Ts : List String) (t : Value) (b : Bool), xs = [x, .ref tp] ∧ H tp = some (.tup (Ts.map V.ty)) ∧ TyOf X.K H x t ∧ PySem.W.kitAny X.K t (Ts.map Value.type) = some b ∧ Q (.bl b) H) := by
  intro pins s σ H xs us Q I r h
  obtain ⟨x, tp, Ts, t, b, rfl, hp, ty, e, q⟩ := h
  obtain ⟨u, v, rfl, r1, r2⟩ := r.two
  obtain rfl : v = Value.ref tp := r2
  obtain ⟨_, its, rv, o, ho, hc, n, hd⟩ := (show ObjOk X.prog X.w H s.heap tp (.tup _) from I.hok tp _ hp)
  have ei := vals_ty rv
  subst ei
  obtain ⟨cl, dd, dt, sl⟩ := o
  have hc' : cl = Value.type "tuple" := hc
  have hd' : dt = .seq (Ts.map Value.type).toArray n := hd
  subst hc' hd'
  exact isinst_tup I r1 ty ho e fun tk => ⟨.bl b, H, I.tok tk, rfl, q⟩
end
theorem ite2' {c A B : Prop} [Decidable c] (h1 : c → A) (h2 : ¬ c → B) : if (decide c) = true then A else B := by
  by_cases h : c
  · rw [if_pos (decide_eq_true h)]; exact h1 h
  · rw [if_neg (fun z => h (of_decide_eq_true z))]; exact h2 h
section
variable {X : Cx} {o e : Expr} {to te : TE} {apos cpos : Pos}
theorem p_pop (ho : PE X o to) (hbase : attributeBase o "pop" X.env (eval o X.env) = eval o X.env := by rfl) (hline : (apos.endLine == cpos.line) = true := by rfl) : PE X (.Call (.Attribute o "pop" apos) [] [] cpos) (tBM0 X.K "list" rPop to) :=
  pe_bm0 F.plainAttrs_list F.slot_list_pop rfl mt_pop ho hbase hline
theorem p_append (ho : PE X o to) (ha : PE X e te) (hbase : attributeBase o "append" X.env (eval o X.env) = eval o X.env := by rfl) (hline : (apos.endLine == cpos.line) = true := by rfl) (h : starred e = false := by rfl) :
    PE X (.Call (.Attribute o "append" apos) [e] [] cpos) (tBM X.K "list" rAppend to (tCons te tNil)) :=
  pe_bm F.plainAttrs_list F.slot_list_append rfl mt_append ho (pa_cons ha pa_nil (star_cons h)) hbase (by rw [star_cons h]; rfl) hline (star_cons h) rfl
theorem tyl {K : PySem.W.Frag} {H : Hp} {a : Addr} {xs : List V} (h : H a = some (.lst xs)) : tyV K "list" (.ref a) H := .inl ⟨rfl, xs, SqL.of h⟩
end
inductive PV where
  | non | bl (b : Bool) | int (i : Int) | str (x : Str) | tup (ps : List PV) | lst (ps : List PV)
inductive Deep (H : Hp) : PV → V → Prop where
  | non : Deep H .non .non
  | int (i : Int) : Deep H (.int i) (.int i)
  | str (x : Str) : Deep H (.str x) (.str x)
  | tup {a : Addr} {ps : List PV} {xs : List V} (h : H a = some (.tup xs)) (hl : xs.length = ps.length) (hd : ∀ (i : Nat) (p : PV) (x : V), ps[i]? = some p → xs[i]? = some x → Deep H p x) : Deep H (.tup ps) (.ref a)
  | lst {a : Addr} {ps : List PV} {xs : List V} (h : H a = some (.lst xs)) (hl : xs.length = ps.length) (hd : ∀ (i : Nat) (p : PV) (x : V), ps[i]? = some p → xs[i]? = some x → Deep H p x) : Deep H (.lst ps) (.ref a)
mutual
def PV.size : PV → Nat
  | .tup ps => 1 + PV.sizes ps
  | .lst ps => 1 + PV.sizes ps
  | _ => 1
def PV.sizes : List PV → Nat
  | [] => 0
  | p :: ps => p.size + PV.sizes ps
end
theorem deep_cases {H : Hp} {p : PV} {x y : V} (dx : Deep H p x) (dy : Deep H p y) : (p = .non ∧ x = .non ∧ y = .non) ∨ (∃ i, p = .int i ∧ x = .int i ∧ y = .int i) ∨ (∃ s, p = .str s ∧ x = .str s ∧ y = .str s) ∨
    ∃ (T : String) (ps : List PV) (xs ys : List V) (ax ay : Addr), (T = "list" ∨ T = "tuple") ∧ x = .ref ax ∧ y = .ref ay ∧ p.size = 1 + PV.sizes ps ∧ xs.length = ps.length ∧ ys.length = ps.length ∧
      (∀ (i : Nat) p' x', ps[i]? = some p' → xs[i]? = some x' → Deep H p' x') ∧ (∀ (i : Nat) p' x', ps[i]? = some p' → ys[i]? = some x' → Deep H p' x') ∧
      (∀ K H', Same H H' → TyOf K H' (.ref ax) (.type T) ∧ TyOf K H' (.ref ay) (.type T) ∧ (SqL K H' ax xs ∨ SqT K H' ax xs) ∧ (SqL K H' ay ys ∨ SqT K H' ay ys)) := by
  cases dx with
  | non => cases dy; exact .inl ⟨rfl, rfl, rfl⟩
  | int i => cases dy; exact .inr (.inl ⟨_, rfl, rfl, rfl⟩)
  | str s => cases dy; exact .inr (.inr (.inl ⟨_, rfl, rfl, rfl⟩))
  | @tup ax ps xs h hl hd =>
    cases dy with
    | @tup ay _ ys h' hl' hd' =>
      exact .inr (.inr (.inr ⟨"tuple", ps, xs, ys, ax, ay, .inr rfl, rfl, rfl, by simp [PV.size], hl, hl', hd, hd', fun K H' e => ⟨.tup (e _ _ h), .tup (e _ _ h'), .inr (SqT.of (e _ _ h)), .inr (SqT.of (e _ _ h'))⟩⟩))
  | @lst ax ps xs h hl hd =>
    cases dy with
    | @lst ay _ ys h' hl' hd' =>
      exact .inr (.inr (.inr ⟨"list", ps, xs, ys, ax, ay, .inl rfl, rfl, rfl, by simp [PV.size], hl, hl', hd, hd', fun K H' e => ⟨.lst (e _ _ h), .lst (e _ _ h'), .inl (SqL.of (e _ _ h)), .inl (SqL.of (e _ _ h'))⟩⟩))
theorem PV.size_pos (p : PV) : 1 ≤ p.size := by cases p <;> simp [PV.size] <;> omega
theorem PV.sizes_append : ∀ (ps qs : List PV), PV.sizes (ps ++ qs) = PV.sizes ps + PV.sizes qs
  | [], qs => by simp [PV.sizes]
  | p :: ps, qs => by simp [PV.sizes, PV.sizes_append ps qs]; omega
theorem PV.sizes_len : ∀ (ps : List PV), ps.length ≤ PV.sizes ps
  | [] => Nat.zero_le _
  | p :: ps => by have := PV.sizes_len ps; have := p.size_pos; simp [PV.sizes]; omega
end L2
namespace L2
open PySem
def scalar : V → Bool
  | .non | .int _ | .str _ => true
  | _ => false
def pvOf : V → PV
  | .int i => .int i
  | .str x => .str x
  | _ => .non
theorem deep_scalar {H : Hp} {v : V} (h : scalar v = true) : Deep H (pvOf v) v := by
  cases v with
  | non => exact .non
  | int i => exact .int i
  | str x => exact .str x
  | _ => cases h
theorem deep_row {H : Hp} {q : Addr} {row : List V} (h : H q = some (.tup row)) (hs : row.all scalar = true) : Deep H (.tup (row.map pvOf)) (.ref q) := by
  refine .tup h (by simp) fun i p x hp hx => ?_
  rw [List.getElem?_map, hx] at hp
  cases hp
  exact deep_scalar (List.all_eq_true.mp hs x (List.mem_of_getElem? hx))
structure RowsAt (H : Hp) (zs : List V) (rows : List (List V)) : Prop where
  len : zs.length = rows.length
  at' : ∀ (i : Nat) (z : V) (row : List V), zs[i]? = some z → rows[i]? = some row → ∃ q, z = .ref q ∧ H q = some (.tup row)
theorem RowsAt.nil {H : Hp} : RowsAt H [] [] := ⟨rfl, fun i z row h => by simp at h⟩
theorem RowsAt.same {H H' : Hp} {zs : List V} {rows : List (List V)} (r : RowsAt H zs rows) (e : Same H H') : RowsAt H' zs rows :=
  ⟨r.len, fun i z row h1 h2 => let ⟨q, e1, e2⟩ := r.at' i z row h1 h2; ⟨q, e1, e _ _ e2⟩⟩
theorem RowsAt.put {H : Hp} {zs : List V} {rows : List (List V)} {l : Addr} {xs ys : List V} (r : RowsAt H zs rows) (h : H l = some (.lst xs)) : RowsAt (upd H l (.lst ys)) zs rows :=
  ⟨r.len, fun i z row h1 h2 => let ⟨q, e1, e2⟩ := r.at' i z row h1 h2; ⟨q, e1, by rw [upd_ne (ne_of e2 h (by intro z; cases z))]; exact e2⟩⟩
theorem RowsAt.snoc {H : Hp} {zs : List V} {rows : List (List V)} {q : Addr} {row : List V} (r : RowsAt H zs rows) (h : H q = some (.tup row)) : RowsAt H (zs ++ [.ref q]) (rows ++ [row]) := by
  refine ⟨by rw [List.length_append, List.length_append, r.len]; rfl, fun i z row' h1 h2 => ?_⟩
  by_cases hi : i < zs.length
  · rw [List.getElem?_append_left hi] at h1
    rw [List.getElem?_append_left (by rw [← r.len]; exact hi)] at h2
    exact r.at' i z row' h1 h2
  · have h1' := (List.getElem?_eq_some_iff.mp h1).1
    rw [List.length_append] at h1'
    have e : i = zs.length := by simp at h1'; omega
    subst e
    rw [List.getElem?_append_right (Nat.le_refl _), Nat.sub_self] at h1
    rw [r.len, List.getElem?_append_right (Nat.le_refl _), Nat.sub_self] at h2
    cases h1
    cases h2
    exact ⟨q, rfl, h⟩
theorem RowsAt.deep {H : Hp} {zs : List V} {rows : List (List V)} {l : Addr} (r : RowsAt H zs rows) (h : H l = some (.lst zs)) (hs : ∀ row ∈ rows, row.all scalar = true) : Deep H (.lst (rows.map fun row => .tup (row.map pvOf))) (.ref l) := by
  refine .lst h (by rw [List.length_map]; exact r.len) fun i p x hp hx => ?_
  rw [List.getElem?_map] at hp
  cases e : rows[i]? with
  | none => rw [e] at hp; cases hp
  | some row =>
    rw [e] at hp
    cases hp
    obtain ⟨q, rfl, hq⟩ := r.at' i x row hx e
    exact deep_row hq (hs row (List.mem_of_getElem? e))
end L2
set_option Elab.async false
set_option linter.all false
set_option maxRecDepth 100000
set_option maxHeartbeats 4000000
namespace L2
open PySem PySem.W PyProof.Rows
def KOk {α : Type} (r : Nat → Nat → Bool) (n : Nat) (P : α → Prop) : KasT α → Prop
  | .ret a => P a
  | .ask i j k => i < n ∧ j < n ∧ i ≠ j ∧ KOk r n P (k (r i j))
theorem KOk.mono {α : Type} {r : Nat → Nat → Bool} {n : Nat} {P P' : α → Prop} (h : ∀ a, P a → P' a) : ∀ {t : KasT α}, KOk r n P t → KOk r n P' t
  | .ret _, q => h _ q
  | .ask _ _ _, q => ⟨q.1, q.2.1, q.2.2.1, KOk.mono h q.2.2.2⟩
theorem KOk.bind {α β : Type} {r : Nat → Nat → Bool} {n : Nat} {P : α → Prop} {P' : β → Prop} {f : α → KasT β} (h : ∀ a, P a → KOk r n P' (f a)) : ∀ {t : KasT α}, KOk r n P t → KOk r n P' (t.bind f)
  | .ret _, q => h _ q
  | .ask _ _ _, q => ⟨q.1, q.2.1, q.2.2.1, KOk.bind h q.2.2.2⟩
theorem KOk.wp {α : Type} {r : Nat → Nat → Bool} {n : Nat} {cmp : Nat → Nat → (Bool → Shared → Prop) → Shared → Prop} {Q : α → Shared → Prop} {s : Shared} (hc : ∀ i j C, i < n → j < n → i ≠ j → C (r i j) s → cmp i j C s) :
    ∀ {t : KasT α}, KOk r n (fun a => Q a s) t → t.kasWp cmp Q s
  | .ret _, q => q
  | .ask i j k, q => hc i j _ q.1 q.2.1 q.2.2.1 (KOk.wp hc q.2.2.2)
structure SOrd (r : Nat → Nat → Bool) (n : Nat) : Prop where
  asym : ∀ i j, i < n → j < n → r i j = true → r j i = false
  tr : ∀ i j k, i < n → j < n → k < n → r i j = true → r j k = true → r i k = true
  tot : ∀ i j, i < n → j < n → i ≠ j → r i j = false → r j i = true
structure Pm (n : Nat) (p : Array Nat) : Prop where
  size : p.size = n
  lt : ∀ a, a < n → p.getD a 0 < n
  inj : ∀ a b, a < n → b < n → p.getD a 0 = p.getD b 0 → a = b
  perm : p.Perm (List.toArray (List.range n))
def Asc (r : Nat → Nat → Bool) (p : Array Nat) (k : Nat) : Prop := ∀ a b, a < b → b < k → r (p.getD a 0) (p.getD b 0) = true
def Dsc (r : Nat → Nat → Bool) (p : Array Nat) (k : Nat) : Prop := ∀ a b, a < b → b < k → r (p.getD b 0) (p.getD a 0) = true
theorem getD_of {p q : Array Nat} {a b : Nat} (h : p[a]? = q[b]?) : p.getD a 0 = q.getD b 0 := by
  simp only [Array.getD_eq_getD_getElem?, h]
section
variable {r : Nat → Nat → Bool} {n : Nat} {p : Array Nat}
theorem Asc.more (O : SOrd r n) (M : Pm n p) {m : Nat} (hm : 1 ≤ m) (hmn : m < n) (h : Asc r p m) (hc : r (p.getD m 0) (p.getD (m - 1) 0) = false) : Asc r p (m + 1) := by
  have hl : r (p.getD (m - 1) 0) (p.getD m 0) = true := O.tot _ _ (M.lt m hmn) (M.lt (m - 1) (by omega)) (fun z => by have := M.inj m (m - 1) hmn (by omega) z; omega) hc
  intro a b hab hb
  by_cases hbm : b < m
  · exact h a b hab hbm
  · obtain rfl : b = m := by omega
    by_cases ha : a = b - 1
    · subst ha; exact hl
    · exact O.tr _ _ _ (M.lt a (by omega)) (M.lt (b - 1) (by omega)) (M.lt b hmn) (h a (b - 1) (by omega) (by omega)) hl
theorem Dsc.more (O : SOrd r n) (M : Pm n p) {m : Nat} (hm : 1 ≤ m) (hmn : m < n) (h : Dsc r p m) (hc : r (p.getD m 0) (p.getD (m - 1) 0) = true) : Dsc r p (m + 1) := by
  intro a b hab hb
  by_cases hbm : b < m
  · exact h a b hab hbm
  · obtain rfl : b = m := by omega
    by_cases ha : a = b - 1
    · subst ha; exact hc
    · exact O.tr _ _ _ (M.lt b hmn) (M.lt (b - 1) (by omega)) (M.lt a (by omega)) hc (h a (b - 1) (by omega) (by omega))
theorem asc_ok (O : SOrd r n) (M : Pm n p) : ∀ (f m : Nat), m + f = n → 1 ≤ m → Asc r p m → KOk r n (fun m' => m ≤ m' ∧ m' ≤ n ∧ Asc r p m' ∧ (m' < n → r (p.getD m' 0) (p.getD (m' - 1) 0) = true)) (kas_asc p f m)
  | 0, m, hf, hm, h => ⟨Nat.le_refl _, by omega, h, fun z => by omega⟩
  | f + 1, m, hf, hm, h => by
    have hmn : m < n := by omega
    refine ⟨M.lt m hmn, M.lt (m - 1) (by omega), fun z => by have := M.inj m (m - 1) hmn (by omega) z; omega, ?_⟩
    cases hc : r (p.getD m 0) (p.getD (m - 1) 0) with
    | true => exact ⟨Nat.le_refl _, by omega, h, fun _ => hc⟩
    | false =>
      show KOk r n _ (if false = true then KasT.ret m else kas_asc p f (m + 1))
      rw [if_neg Bool.false_ne_true]
      exact KOk.mono (fun m' q => ⟨by omega, q.2⟩) (asc_ok O M f (m + 1) (by omega) (by omega) (h.more O M hm hmn hc))
theorem desc_ok (O : SOrd r n) (M : Pm n p) : ∀ (f m : Nat), m + f = n → 1 ≤ m → Dsc r p m → KOk r n (fun q => q.1 = p ∧ m ≤ q.2.1 ∧ q.2.1 ≤ n ∧ q.2.2 = 0 ∧ Dsc r p q.2.1) (kas_desc f p m 0)
  | 0, m, hf, hm, h => ⟨rfl, Nat.le_refl _, by show m ≤ n; omega, rfl, h⟩
  | f + 1, m, hf, hm, h => by
    have hmn : m < n := by omega
    have hne : p.getD m 0 ≠ p.getD (m - 1) 0 := fun z => by have := M.inj m (m - 1) hmn (by omega) z; omega
    refine ⟨M.lt m hmn, M.lt (m - 1) (by omega), hne, ?_⟩
    cases hc : r (p.getD m 0) (p.getD (m - 1) 0) with
    | true =>
      show KOk r n _ (kas_desc f p (m + 1) 0)
      exact KOk.mono (fun q z => ⟨z.1, by omega, z.2.2⟩) (desc_ok O M f (m + 1) (by omega) (by omega) (h.more O M hm hmn hc))
    | false =>
      refine ⟨M.lt (m - 1) (by omega), M.lt m hmn, hne.symm, ?_⟩
      have hl : r (p.getD (m - 1) 0) (p.getD m 0) = true := O.tot _ _ (M.lt m hmn) (M.lt (m - 1) (by omega)) hne hc
      rw [hl]
      exact ⟨rfl, Nat.le_refl _, by show m ≤ n; omega, rfl, h⟩
theorem rev_get (M : Pm n p) {m : Nat} (hm : m ≤ n) (k : Nat) (hk : k < m) : (kas_rev p 0 m).getD k 0 = p.getD (m - 1 - k) 0 := by
  unfold kas_rev
  refine getD_of ?_
  rw [getElem?_mirror_all (by rw [M.size]; exact hm), if_pos ⟨Nat.zero_le _, hk⟩, Nat.zero_add]
theorem rev_out (M : Pm n p) {m : Nat} (hm : m ≤ n) (k : Nat) (hk : m ≤ k) : (kas_rev p 0 m).getD k 0 = p.getD k 0 := by
  unfold kas_rev
  refine getD_of ?_
  rw [getElem?_mirror_all (by rw [M.size]; exact hm), if_neg (by omega)]
theorem rev_pm (M : Pm n p) {m : Nat} (hm : m ≤ n) : Pm n (kas_rev p 0 m) := by
  have g : ∀ k, ∃ k', (kas_rev p 0 m).getD k 0 = p.getD k' 0 ∧ (k < m → k' = m - 1 - k) ∧ (m ≤ k → k' = k) := fun k => by
    by_cases h : k < m
    · exact ⟨_, rev_get M hm k h, fun _ => rfl, fun z => by omega⟩
    · exact ⟨_, rev_out M hm k (by omega), fun z => by omega, fun _ => rfl⟩
  refine ⟨by unfold kas_rev; rw [mirror_size, M.size], fun a ha => ?_, fun a b ha hb e => ?_, (mirror_perm _ _ _ _).trans M.perm⟩
  · obtain ⟨k', e1, e2, e3⟩ := g a
    rw [e1]
    exact M.lt k' (by by_cases h : a < m; · rw [e2 h]; omega
                      · rw [e3 (by omega)]; exact ha)
  · obtain ⟨k1, a1, a2, a3⟩ := g a
    obtain ⟨k2, b1, b2, b3⟩ := g b
    rw [a1, b1] at e
    have h1 : k1 < n := by by_cases h : a < m; · rw [a2 h]; omega
                           · rw [a3 (by omega)]; exact ha
    have h2 : k2 < n := by by_cases h : b < m; · rw [b2 h]; omega
                           · rw [b3 (by omega)]; exact hb
    have := M.inj k1 k2 h1 h2 e
    by_cases x : a < m <;> by_cases y : b < m
    · have := a2 x; have := b2 y; omega
    · have := a2 x; have := b3 (by omega); omega
    · have := a3 (by omega); have := b2 y; omega
    · have := a3 (by omega); have := b3 (by omega); omega
theorem rev_asc (M : Pm n p) {m : Nat} (hm : m ≤ n) (h : Dsc r p m) : Asc r (kas_rev p 0 m) m := fun a b hab hb => by
  rw [rev_get M hm a (by omega), rev_get M hm b hb]
  exact h (m - 1 - b) (m - 1 - a) (by omega) (by omega)
theorem count_ok (O : SOrd r n) (M : Pm n p) (hn : 2 ≤ n) : KOk r n (fun q => 1 ≤ q.1 ∧ q.1 ≤ n ∧ Pm n q.2 ∧ Asc r q.2 q.1) (kas_count n p) := by
  unfold kas_count
  refine KOk.bind (fun m hm => ?_) (asc_ok O M (n - 1) 1 (by omega) (Nat.le_refl _) (fun a b hab hb => by omega))
  obtain ⟨h1, h2, h3, h4⟩ := hm
  by_cases hmn : m = n
  · rw [if_pos (by simpa using hmn)]
    exact ⟨h1, h2, M, h3⟩
  · rw [if_neg (by simpa using hmn)]
    by_cases hm1 : m > 1
    · rw [if_pos hm1]
      have hl := h3 0 (m - 1) (by omega) (by omega)
      refine ⟨M.lt 0 (by omega), M.lt (m - 1) (by omega), fun z => by have := M.inj 0 (m - 1) (by omega) (by omega) z; omega, ?_⟩
      rw [hl]
      exact ⟨h1, h2, M, h3⟩
    · rw [if_neg hm1]
      obtain rfl : m = 1 := by omega
      have hd : r (p.getD 1 0) (p.getD 0 0) = true := h4 (by omega)
      unfold kas_descPart
      refine KOk.bind (fun q hq => ?_) (desc_ok O M (n - (1 + 1)) (1 + 1) (by omega) (by omega) (fun a b hab hb => by
        obtain rfl : a = 0 := by omega
        obtain rfl : b = 1 := by omega
        exact hd))
      obtain ⟨q1, q2, q3, q4, q5⟩ := hq
      obtain ⟨qp, qm, qz⟩ := q
      simp only at q1 q2 q3 q4 q5
      subst q1 q4
      show KOk r n _ (kas_tail3 qm n qp)
      unfold kas_tail3
      refine KOk.bind (fun m' hm' => ?_) (asc_ok O (rev_pm M q3) (n - qm) qm (by omega) (by omega) (rev_asc M q3 q5))
      exact ⟨by show 1 ≤ m'; omega, hm'.2.1, rev_pm M q3, hm'.2.2.1⟩
theorem place_ok (O : SOrd r n) (M : Pm n p) {k : Nat} (hk : k < n) (hA : Asc r p k) : ∀ (f l u : Nat), u ≤ l + f → l ≤ u → u ≤ k → (∀ a, a < l → r (p.getD a 0) (p.getD k 0) = true) → (∀ a, u ≤ a → a < k → r (p.getD k 0) (p.getD a 0) = true) →
    KOk r n (fun l' => l' ≤ k ∧ (∀ a, a < l' → r (p.getD a 0) (p.getD k 0) = true) ∧ (∀ a, l' ≤ a → a < k → r (p.getD k 0) (p.getD a 0) = true)) (kas_place p k f l u)
  | 0, l, u, hf, hlu, huk, h1, h2 => by
    obtain rfl : l = u := by omega
    exact ⟨huk, h1, h2⟩
  | f + 1, l, u, hf, hlu, huk, h1, h2 => by
    unfold kas_place
    by_cases hge : l ≥ u
    · rw [if_pos hge]
      obtain rfl : l = u := by omega
      exact ⟨huk, h1, h2⟩
    · rw [if_neg hge]
      have hm : (l + u) / 2 < k := by omega
      have hne : p.getD k 0 ≠ p.getD ((l + u) / 2) 0 := fun z => by have := M.inj k ((l + u) / 2) hk (by omega) z; omega
      refine ⟨M.lt k hk, M.lt _ (by omega), hne, ?_⟩
      cases hc : r (p.getD k 0) (p.getD ((l + u) / 2) 0) with
      | true =>
        refine place_ok O M hk hA f l ((l + u) / 2) (by omega) (by omega) (by omega) h1 fun a ha hak => ?_
        by_cases e : a = (l + u) / 2
        · subst e; exact hc
        · exact O.tr _ _ _ (M.lt k hk) (M.lt _ (by omega)) (M.lt a (by omega)) hc (hA ((l + u) / 2) a (by omega) hak)
      | false =>
        have hl : r (p.getD ((l + u) / 2) 0) (p.getD k 0) = true := O.tot _ _ (M.lt k hk) (M.lt _ (by omega)) hne hc
        refine place_ok O M hk hA f ((l + u) / 2 + 1) u (by omega) (by omega) huk (fun a ha => ?_) h2
        by_cases e : a = (l + u) / 2
        · subst e; exact hl
        · exact O.tr _ _ _ (M.lt a (by omega)) (M.lt _ (by omega)) (M.lt k hk) (hA a ((l + u) / 2) (by omega) hm) hl
theorem bub_get (M : Pm n p) {k l : Nat} (hk : k < n) (hl : l ≤ k) (j : Nat) : (bubble p k (k - l)).getD j 0 = if j = l then p.getD k 0 else if l < j ∧ j ≤ k then p.getD (j - 1) 0 else p.getD j 0 := by
  have e : k - (k - l) = l := by omega
  have q := getElem?_bubble (xs := p) (src := k) (by rw [M.size]; exact hk) (k - l) (by omega) j
  rw [e] at q
  by_cases h1 : j = l
  · rw [if_pos h1] at q ⊢; exact getD_of q
  · rw [if_neg h1] at q ⊢
    by_cases h2 : l < j ∧ j ≤ k
    · rw [if_pos h2] at q ⊢; exact getD_of q
    · rw [if_neg h2] at q ⊢; exact getD_of q
theorem bub_pm (M : Pm n p) {k l : Nat} (hk : k < n) (hl : l ≤ k) : Pm n (bubble p k (k - l)) := by
  have g : ∀ j, ∃ j', (bubble p k (k - l)).getD j 0 = p.getD j' 0 ∧ ((j = l ∧ j' = k) ∨ (l < j ∧ j ≤ k ∧ j' = j - 1) ∨ ((j < l ∨ k < j) ∧ j' = j)) := fun j => by
    rw [bub_get M hk hl]
    by_cases h1 : j = l
    · rw [if_pos h1]; exact ⟨k, rfl, .inl ⟨h1, rfl⟩⟩
    · rw [if_neg h1]
      by_cases h2 : l < j ∧ j ≤ k
      · rw [if_pos h2]; exact ⟨_, rfl, .inr (.inl ⟨h2.1, h2.2, rfl⟩)⟩
      · rw [if_neg h2]; exact ⟨_, rfl, .inr (.inr ⟨by omega, rfl⟩)⟩
  refine ⟨by rw [bubble_size, M.size], fun a ha => ?_, fun a b ha hb e => ?_, (bubble_perm _ _ _).trans M.perm⟩
  · obtain ⟨j', e1, e2⟩ := g a
    rw [e1]
    exact M.lt j' (by omega)
  · obtain ⟨j1, a1, a2⟩ := g a
    obtain ⟨j2, b1, b2⟩ := g b
    rw [a1, b1] at e
    have := M.inj j1 j2 (by omega) (by omega) e
    omega
theorem bub_asc (O : SOrd r n) (M : Pm n p) {k l : Nat} (hk : k < n) (hl : l ≤ k) (hA : Asc r p k) (h1 : ∀ a, a < l → r (p.getD a 0) (p.getD k 0) = true) (h2 : ∀ a, l ≤ a → a < k → r (p.getD k 0) (p.getD a 0) = true) :
    Asc r (bubble p k (k - l)) (k + 1) := fun a b hab hb => by
  rw [bub_get M hk hl, bub_get M hk hl]
  by_cases ha : a = l
  · rw [if_pos ha, if_neg (by omega), if_pos (by omega)]
    exact h2 (b - 1) (by omega) (by omega)
  · rw [if_neg ha]
    by_cases hbl : b = l
    · rw [if_pos hbl, if_neg (by omega)]
      exact h1 a (by omega)
    · rw [if_neg hbl]
      by_cases x : l < a ∧ a ≤ k
      · rw [if_pos x, if_pos (by omega)]
        exact hA (a - 1) (b - 1) (by omega) (by omega)
      · rw [if_neg x]
        by_cases y : l < b ∧ b ≤ k
        · rw [if_pos y]
          exact hA a (b - 1) (by omega) (by omega)
        · rw [if_neg y]
          exact hA a b hab (by omega)
theorem bin_ok (O : SOrd r n) : ∀ (f : Nat) (p : Array Nat) (k : Nat), k + f = n → Pm n p → Asc r p k → KOk r n (fun q => Pm n q ∧ Asc r q n) (kas_bin f p k)
  | 0, p, k, hf, M, hA => by
    obtain rfl : k = n := by omega
    exact ⟨M, hA⟩
  | f + 1, p, k, hf, M, hA => by
    have hk : k < n := by omega
    unfold kas_bin
    refine KOk.bind (fun l hl => ?_) (place_ok O M hk hA k 0 k (by omega) (Nat.zero_le _) (Nat.le_refl _) (fun a ha => by omega) (fun a ha hak => by omega))
    exact bin_ok O f _ (k + 1) (by omega) (bub_pm M hk hl.1) (bub_asc O M hk hl.1 hA hl.2.1 hl.2.2)
theorem pm_range : Pm n (List.toArray (List.range n)) := by
  have g : ∀ a, a < n → (List.toArray (List.range n)).getD a 0 = a := fun a ha => by simp [Array.getD_eq_getD_getElem?, ha]
  exact ⟨by simp, fun a ha => by rw [g a ha]; exact ha, fun a b ha hb e => by rw [g a ha, g b hb] at e; exact e, Array.Perm.refl _⟩
theorem sort_ok (O : SOrd r n) (hn : 2 ≤ n) : KOk r n (fun q => Pm n q ∧ Asc r q n) (kas_sort n) := by
  unfold kas_sort
  refine KOk.bind (fun q hq => ?_) (count_ok O pm_range hn)
  obtain ⟨h1, h2, h3, h4⟩ := hq
  by_cases h : q.1 < n
  · rw [if_pos h]
    have e : max q.1 1 = q.1 := by omega
    rw [e]
    exact bin_ok O (n - q.1) q.2 q.1 (by omega) h3 h4
  · rw [if_neg h]
    have e : q.1 = n := by omega
    rw [e] at h4
    exact ⟨h3, h4⟩
end
end L2
namespace L2
open PySem PySem.W PyProof.Rows
section
variable {prog : Program} {w : World} {A : Around} {E : Value → Shared → Prop} {s : Shared}
theorem range_getD (vs : List Value) : ((List.toArray (List.range vs.length)).toList.map fun i => vs.getD i Value.none) = vs := by
  apply List.ext_getElem?
  intro i
  rw [List.getElem?_map]
  by_cases h : i < vs.length
  · simp [h]
  · rw [List.getElem?_eq_none (by simp; omega), List.getElem?_eq_none (by omega)]
    rfl
theorem sorted_rule {l : Addr} {vs : List Value} {Q : Value → Shared → Prop} {r : Nat → Nat → Bool} (hl : s.heap.IsList l vs.toArray) (h64 : vs.length < 64) (O : SOrd r vs.length)
    (ask : 2 ≤ vs.length → ∀ h' : Heap, (∀ b o, b < s.heap.objs.size → s.heap.get? b = some o → h'.get? b = some o) → ∃ κ : SortKind,
      (∀ (Q' : SortKind → Shared → Prop), Q' κ { s with heap := h' } → wpAny (model prog w) A.in1.in1 (keyKind' vs.toArray) Q' E { s with heap := h' }) ∧
      ∀ i j C, i < vs.length → j < vs.length → i ≠ j → C (r i j) { s with heap := h' } → kas_ask prog w A.in1.in1 κ vs i j C { s with heap := h' })
    (h : ∀ p : Array Nat, Pm vs.length p → Asc r p vs.length → Q (.ref (s.heap.objs.size + 1)) { s with heap := sortedAll s.heap vs (List.toArray (p.toList.map fun i => vs.getD i Value.none)) }) :
    wpAny (model prog w) A (call (.builtin "sorted") [.ref l]) Q E s := by
  refine Calls.call_function_entry kind_sorted plain_sorted entry_sorted (args_sorted1 _) (?body)
  case body =>
    unfold Builtin.«sorted»
    refine wpAny_bind (m := checkCount "sorted" 1 1 _) (wpAny_pure (wpAny_bind (collect_list hl (wpAny_bind (wpAny_newList ?_ (by rw [sizeLine_eq]; omega))) (by rw [sizeLine_eq]; omega))))
    have z1 : ((s.heap.push (seqObj "list" #[] 0)).update s.heap.objs.size (Obj.mapSeq (· ++ vs.toArray))).objs.size = s.heap.objs.size + 1 := (Heap.size_update ..).trans (size_push' _ _)
    generalize hG : (s.heap.push (seqObj "list" #[] 0)).update s.heap.objs.size (Obj.mapSeq (· ++ vs.toArray)) = G at z1
    have oG : (G.push (seqObj "list" vs.toArray 0)).get? (s.heap.objs.size + 1) = some (seqObj "list" vs.toArray 0) := by rw [← z1]; exact Heap.get?_push_size _ rfl
    have kG : ∀ b o, b < s.heap.objs.size → s.heap.get? b = some o → (G.push (seqObj "list" vs.toArray 0)).get? b = some o := fun b o hb e => by
      rw [Heap.get?_push_ne _ _ _ (by rw [z1]; exact Nat.ne_of_lt (Nat.lt_succ_of_lt hb)), ← hG, Heap.get?_update_ne _ _ _ _ (Nat.ne_of_lt hb), Heap.get?_push_ne _ _ _ (Nat.ne_of_lt hb), e]
    have fin : ∀ p : Array Nat, Pm vs.length p → Asc r p vs.length → Q (.ref (s.heap.objs.size + 1)) { s with heap := sortedHeap (G.push (seqObj "list" vs.toArray 0)) (s.heap.objs.size + 1) vs (List.toArray (p.toList.map fun i => vs.getD i Value.none)) } := by
      rw [← hG]; exact h
    show wpAny _ _ _ _ _ { s with heap := G.push (seqObj "list" vs.toArray 0) }
    rw [z1]
    generalize G.push (seqObj "list" vs.toArray 0) = D at oG kG fin
    have dlt : s.heap.objs.size + 1 < D.objs.size := Heap.lt_size oG
    refine wpAny_bind (wpAny_holding (wpAny_call_entry slot_list_sort ⟨_, oG, rfl⟩ entry_list_sort ?sort (args_list_sort _)))
    case sort =>
      rw [list_sort_plain]
      refine wpAny_bind (listItems_at oG rfl (wpAny_bind (listUpdate_at oG rfl ?_ (by rw [List.size_toArray, sizeLine_eq]; omega) (Nat.zero_le _))))
      obtain ⟨e1, o1⟩ : ∃ e1, (D.update (s.heap.objs.size + 1) (Obj.mapSeq fun _ => #[])).get? (s.heap.objs.size + 1) = some (seqObj "list" #[] e1) := ⟨_, get?_update_seq oG (fun _ => #[])⟩
      refine wpAny_bind (seqEpoch_at o1 rfl (wpAny_bind (wpAny_newTuple (wpAny_bind (wpAny_newList (wpAny_holding ?_) (Nat.zero_le _))) (by show vs.length ≤ _; rw [sizeLine_eq]; omega))))
      have o2 : (((D.update (s.heap.objs.size + 1) (Obj.mapSeq fun _ => #[])).push (seqObj "tuple" vs.toArray 0)).push (seqObj "list" #[] 0)).get? (s.heap.objs.size + 1) = some (seqObj "list" #[] e1) :=
        Heap.get?_push_of_some _ (Heap.get?_push_of_some _ o1)
      have k2 : ∀ b o, b < s.heap.objs.size → s.heap.get? b = some o → (((D.update (s.heap.objs.size + 1) (Obj.mapSeq fun _ => #[])).push (seqObj "tuple" vs.toArray 0)).push (seqObj "list" #[] 0)).get? b = some o := fun b o hb e =>
        Heap.get?_push_of_some _ (Heap.get?_push_of_some _ (by rw [Heap.get?_update_ne _ _ _ _ (Nat.ne_of_lt (Nat.lt_succ_of_lt hb))]; exact kG b o hb e))
      show wpAny (model prog w) _ _ _ _ { s with heap := ((D.update (s.heap.objs.size + 1) (Obj.mapSeq fun _ => #[])).push (seqObj "tuple" vs.toArray 0)).push (seqObj "list" #[] 0) }
      dsimp only
      have done : ∀ (p : Array Nat), Pm vs.length p → Asc r p vs.length → ∀ out : Array Value, out = List.toArray (p.toList.map fun i => vs.getD i Value.none) →
          Q (.ref (s.heap.objs.size + 1)) { s with heap := (((D.update (s.heap.objs.size + 1) (Obj.mapSeq fun _ => #[])).push (seqObj "tuple" vs.toArray 0)).push (seqObj "list" #[] 0)).update (s.heap.objs.size + 1) (Obj.mapSeq fun _ => out) } := fun p a1 a2 out eo => by
        rw [eo]; exact fin p a1 a2
      generalize ((D.update (s.heap.objs.size + 1) (Obj.mapSeq fun _ => #[])).push (seqObj "tuple" vs.toArray 0)).push (seqObj "list" #[] 0) = Z at o2 k2 done
      by_cases h2 : vs.toArray.size < 2
      · rw [if_pos h2, if_pos h2]
        refine wpAny_bind (wpAny_pure ?_)
        rw [StateT.run_pure]
        refine wpAny_bind (wpAny_pure ?_)
        dsimp only
        have eo : ((vs.toArray.zip vs.toArray).map (·.2)) = List.toArray ((List.toArray (List.range vs.length)).toList.map fun i => vs.getD i Value.none) := by rw [range_getD]; simp; exact List.map_snd_zip (Nat.le_refl _)
        have sz : vs.length < 2 := by simpa using h2
        refine wpAny_bind (seqEpoch_at o2 rfl (wpAny_bind (listUpdate_at o2 rfl ?_ (Nat.zero_le _) (by rw [Array.size_map, Array.size_zip]; rw [sizeLine_eq]; simp; omega))))
        simp only [bne_self_eq_false, Bool.false_eq_true, if_false]
        exact wpAny_pure ⟨_, rfl, wpAny_pure ⟨_, rfl, done _ pm_range (fun a b hab hb => by omega) _ eo⟩⟩
      · rw [if_neg h2, if_neg h2]
        have n2 : 2 ≤ vs.length := by simpa using h2
        obtain ⟨κ, q1, q2⟩ := ask n2 Z k2
        refine wpAny_bind (q1 _ ?_)
        refine wpAny_bind (wpAny_mono (kat_run (ks := vs) (vs := vs) (Q := fun st' s' => s' = { s with heap := Z } ∧ ∃ p, Pm vs.length p ∧ Asc r p vs.length ∧ failedOf st' = none ∧ arrOf st' = p.map (kas_item (vs.toArray.zip vs.toArray))) (G := fun p s' => s' = { s with heap := Z } ∧ Pm vs.length p ∧ Asc r p vs.length) rfl n2 h64
          (fun p st' s' a1 a2 a3 a4 => ⟨a4.1, p, a4.2.1, a4.2.2, a3, a2⟩) (KOk.wp q2 (KOk.mono (fun p a => ⟨rfl, a.1, a.2⟩) (sort_ok O n2)))) ?_ fun _ _ e => e)
        rintro ⟨⟨⟩, st'⟩ s' ⟨es, p, a1, a2, a3, a4⟩
        subst es
        dsimp only
        have eo := kat_snds (ks := vs) (vs := vs) rfl a4
        refine wpAny_bind (seqEpoch_at o2 rfl (wpAny_bind (listUpdate_at o2 rfl ?_ (Nat.zero_le _) (by rw [eo, List.size_toArray, List.length_map, Array.length_toList, a1.size, sizeLine_eq]; omega))))
        rw [a3]
        simp only [bne_self_eq_false, Bool.false_eq_true, if_false]
        exact wpAny_pure ⟨_, rfl, wpAny_pure ⟨_, rfl, done p a1 a2 _ eo⟩⟩
end
end L2
namespace L2
open PySem PySem.W PyProof.Rows
def rowLt : List V → List V → Bool
  | .int a :: .int b :: _, .int c :: .int d :: _ => decide (a < c) || (decide (a = c) && decide (b < d))
  | _, _ => false
def rowOk (row : List V) : Prop := ∃ a b rest, row = V.int a :: V.int b :: rest
theorem rowLt_int (a b c d : Int) (r r' : List V) : rowLt (.int a :: .int b :: r) (.int c :: .int d :: r') = (decide (a < c) || (decide (a = c) && decide (b < d))) := rfl
def rowKeyNe (x y : List V) : Prop := ∀ a b rest c d rest', x = V.int a :: V.int b :: rest → y = V.int c :: V.int d :: rest' → a ≠ c ∨ b ≠ d
structure Rows2 (rows : List (List V)) : Prop where
  ok : ∀ row ∈ rows, rowOk row
  ne : ∀ (i j : Nat) (x y : List V), i ≠ j → rows[i]? = some x → rows[j]? = some y → rowKeyNe x y
theorem Rows2.ord {rows : List (List V)} (R : Rows2 rows) : SOrd (fun i j => rowLt (rows.getD i []) (rows.getD j [])) rows.length := by
  have g : ∀ i, i < rows.length → ∃ a b rest, rows.getD i [] = V.int a :: V.int b :: rest ∧ rows[i]? = some (V.int a :: V.int b :: rest) := fun i hi => by
    obtain ⟨a, b, rest, e⟩ := R.ok rows[i] (List.getElem_mem hi)
    exact ⟨a, b, rest, by rw [List.getD_eq_getElem?_getD, List.getElem?_eq_getElem hi]; exact e, by rw [List.getElem?_eq_getElem hi, e]⟩
  refine ⟨fun i j hi hj h => ?_, fun i j k hi hj hk h1 h2 => ?_, fun i j hi hj hne h => ?_⟩
  · obtain ⟨a, b, x, e1, _⟩ := g i hi
    obtain ⟨c, d, y, e2, _⟩ := g j hj
    simp only [e1, e2, rowLt_int, Bool.or_eq_true, Bool.and_eq_true, decide_eq_true_eq, Bool.or_eq_false_iff, Bool.and_eq_false_iff, decide_eq_false_iff_not] at h ⊢
    omega
  · obtain ⟨a, b, x, e1, _⟩ := g i hi
    obtain ⟨c, d, y, e2, _⟩ := g j hj
    obtain ⟨e, f, z, e3, _⟩ := g k hk
    simp only [e1, e2, e3, rowLt_int, Bool.or_eq_true, Bool.and_eq_true, decide_eq_true_eq] at h1 h2 ⊢
    omega
  · obtain ⟨a, b, x, e1, m1⟩ := g i hi
    obtain ⟨c, d, y, e2, m2⟩ := g j hj
    have q := R.ne i j _ _ hne m1 m2 a b x c d y rfl rfl
    simp only [e1, e2, rowLt_int, Bool.or_eq_true, Bool.and_eq_true, decide_eq_true_eq, Bool.or_eq_false_iff, Bool.and_eq_false_iff, decide_eq_false_iff_not] at h ⊢
    omega
section
variable {X : Cx}
theorem tups_of {h : Heap} : ∀ (vs : List Value) (fs : List Value), vs.length = fs.length → (∀ (i : Nat) v f, vs[i]? = some v → fs[i]? = some f → ∃ a o xs n, v = .ref a ∧ h.get? a = some o ∧ o.cls = .type "tuple" ∧ o.data = .seq xs n ∧ xs[0]? = some f) → KatTups h vs fs
  | [], [], _, _ => trivial
  | [], _ :: _, h, _ => by simp at h
  | _ :: _, [], h, _ => by simp at h
  | v :: vs, f :: fs, hl, h => ⟨h 0 v f rfl rfl, tups_of vs fs (by simpa using hl) fun i v' f' h1 h2 => h (i + 1) v' f' (by simpa using h1) (by simpa using h2)⟩
def SortedRows (rows rows' : List (List V)) : Prop := rows'.Perm rows ∧ rows'.Pairwise fun x y => rowLt x y = true
theorem perm_getD {α : Type} (d : α) (xs : List α) {p : Array Nat} (M : Pm xs.length p) : (p.toList.map fun i => xs.getD i d).Perm xs := by
  have h1 : p.toList.Perm (List.range xs.length) := by simpa using Array.perm_iff_toList_perm.mp M.perm
  have h2 : ((List.range xs.length).map fun i => xs.getD i d) = xs := by
    apply List.ext_getElem?
    intro i
    rw [List.getElem?_map]
    by_cases h : i < xs.length
    · simp [h]
    · rw [List.getElem?_eq_none (by simp; omega), List.getElem?_eq_none (by omega)]
      rfl
  have h3 := h1.map fun i => xs.getD i d
  rwa [h2] at h3
theorem pm_get {n : Nat} {p : Array Nat} (M : Pm n p) {i k : Nat} (h : p.toList[i]? = some k) : i < n ∧ k < n ∧ p.getD i 0 = k := by
  have hi : i < p.size := by simpa using (List.getElem?_eq_some_iff.mp h).1
  have e : p.getD i 0 = k := by
    rw [Array.getD_eq_getD_getElem?, ← Array.getElem?_toList, h]
    rfl
  rw [M.size] at hi
  exact ⟨hi, e ▸ M.lt i hi, e⟩
theorem vals_getD {zs : List V} {its : List Value} (r : Vals zs its) : ∀ (ks : List Nat), (∀ k ∈ ks, k < zs.length) → Vals (ks.map fun i => zs.getD i .non) (ks.map fun i => its.getD i Value.none)
  | [], _ => .nil
  | k :: ks, h => by
    have hk := h k (by simp)
    refine .cons ?_ (vals_getD r ks fun k' h' => h k' (List.mem_cons_of_mem _ h'))
    have e : zs[k]? = some zs[k] := by simp
    obtain ⟨u, hu, rv⟩ := r.get e
    show RelV (zs.getD k .non) (its.getD k Value.none)
    rw [List.getD_eq_getElem?_getD, List.getD_eq_getElem?_getD, e, hu]
    exact rv
theorem list_of {β : Type} {R : Nat → β → Prop} : ∀ (n : Nat), (∀ i, i < n → ∃ f, R i f) → ∃ fs : List β, fs.length = n ∧ ∀ i, i < n → ∃ f, fs[i]? = some f ∧ R i f
  | 0, _ => ⟨[], rfl, fun i h => by omega⟩
  | n + 1, h => by
    obtain ⟨fs, hl, hf⟩ := list_of n fun i hi => h i (by omega)
    obtain ⟨f, hR⟩ := h n (by omega)
    refine ⟨fs ++ [f], by simp [hl], fun i hi => ?_⟩
    by_cases hn : i < n
    · obtain ⟨g, e, r⟩ := hf i hn
      exact ⟨g, by rw [List.getElem?_append_left (by omega)]; exact e, r⟩
    · obtain rfl : i = n := by omega
      exact ⟨f, by rw [← hl]; simp, hR⟩
theorem call_sortedR : CallR X (.builtin "sorted") (fun xs H Q => ∃ (l : Addr) (zs : List V) (rows : List (List V)), xs = [.ref l] ∧ SqL X.K H l zs ∧ RowsAt H zs rows ∧ rows.length < 64 ∧ Rows2 rows ∧
    ∀ D zs' rows', H D = none → SortedRows rows rows' → RowsAt H zs' rows' → Q (.ref D) (upd H D (.lst zs'))) := by
  intro pins s σ H xs us Q I r h
  obtain ⟨l, zs, rows, rfl, hl, hr, h64, R, q⟩ := h
  obtain ⟨u, rfl, ru⟩ := r.one
  obtain rfl : u = Value.ref l := ru
  obtain ⟨its, rv, p, hz⟩ := I.list hl
  have ei : its.length = rows.length := by rw [← rv.length]; exact hr.len
  have item : ∀ i, i < rows.length → ∃ (qa : Addr) (a b : Int) (rest : List V) (us : List Value) (o : Obj) (n : Nat) (t1 t2 : Tok) (ut : List Value), its[i]? = some (.ref qa) ∧ rows.getD i [] = V.int a :: V.int b :: rest ∧ rows[i]? = some (V.int a :: V.int b :: rest) ∧
      us = Value.int a t1 :: Value.int b t2 :: ut ∧ s.heap.get? qa = some o ∧ o.cls = .type "tuple" ∧ o.data = .seq us.toArray n ∧ qa < s.heap.objs.size := fun i hi => by
    obtain ⟨a, b, rest, e⟩ := R.ok rows[i] (List.getElem_mem hi)
    have e1 : rows[i]? = some (V.int a :: V.int b :: rest) := by rw [List.getElem?_eq_getElem hi, e]
    have hi' : i < zs.length := by rw [hr.len]; exact hi
    have hzi : zs[i]? = some zs[i] := by simp
    obtain ⟨qa, ez, hq⟩ := hr.at' i zs[i] _ hzi e1
    obtain ⟨u, hu, ru⟩ := rv.get hzi
    rw [ez] at ru
    obtain rfl : u = Value.ref qa := ru
    obtain ⟨_, us, r2, o, ho, hc, n, hd⟩ := (show ObjOk X.prog X.w H s.heap qa (.tup _) from I.hok qa _ hq)
    cases r2 with
    | cons x1 r3 =>
      cases r3 with
      | cons x2 r4 =>
        obtain ⟨t1, rfl⟩ := x1
        obtain ⟨t2, rfl⟩ := x2
        exact ⟨qa, a, b, rest, _, o, n, t1, t2, _, hu, by rw [List.getD_eq_getElem?_getD, e1]; rfl, e1, rfl, ho, hc, hd, Heap.lt_size ho⟩
  refine sorted_rule (r := fun i j => rowLt (rows.getD i []) (rows.getD j [])) p.isList (by rw [ei]; exact h64) (by rw [ei]; exact R.ord) (fun n2 h' kept => ?_) fun pm M hA => ?_
  · refine ⟨tuples' (Value.type "int" != Value.type "tuple"), fun Q' hq => ?_, fun i j C hi hj hne hC => ?_⟩
    · have firsts := list_of (R := fun i f => ∃ a t, f = Value.int a t ∧ ∃ qa o xs n, its[i]? = some (.ref qa) ∧ h'.get? qa = some o ∧ o.cls = .type "tuple" ∧ o.data = .seq xs n ∧ xs[0]? = some (Value.int a t)) its.length fun i hi => by
        obtain ⟨qa, a, b, rest, us, o, n, t1, t2, ut, m1, _, _, eu, ho, hc, hd, hlt⟩ := item i (by rw [← ei]; exact hi)
        exact ⟨_, a, t1, rfl, qa, o, us.toArray, n, m1, kept qa o hlt ho, hc, hd, by rw [eu]; rfl⟩
      obtain ⟨fs, hfl, hfs⟩ := firsts
      refine kat_kind (fs := fs) (T := .type "int") (tups_of _ _ hfl.symm fun i v f h1 h2 => ?_) (by omega) (fun v hv => ?_) rfl hq
      · have hi : i < its.length := (List.getElem?_eq_some_iff.mp h1).1
        obtain ⟨f', e1, a, t, rfl, qa, o, xs, n, e2, e3, e4, e5, e6⟩ := hfs i hi
        rw [e2] at h1; cases h1
        rw [e1] at h2; cases h2
        exact ⟨qa, o, xs, n, rfl, e3, e4, e5, e6⟩
      · obtain ⟨i, hi, rfl⟩ := List.mem_iff_getElem.mp hv
        obtain ⟨f', e1, a, t, rfl, _⟩ := hfs i (by omega)
        have : fs[i] = Value.int a t := by rw [List.getElem?_eq_getElem hi] at e1; exact Option.some.inj e1
        rw [this]
        exact Looks.of_pure rfl
    · rw [ei] at hi hj
      obtain ⟨qa, a, b, rest, us, o, n, t1, t2, ut, m1, g1, w1, eu, ho, hc, hd, hlt⟩ := item i hi
      obtain ⟨qb, c, d, rest', us', o', n', t3, t4, ut', m2, g2, w2, eu', ho', hc', hd', hlt'⟩ := item j hj
      have key := R.ne i j _ _ hne w1 w2 a b rest c d rest' rfl rfl
      have e1 : its.getD i Value.none = .ref qa := by rw [List.getD_eq_getElem?_getD, m1]; rfl
      have e2 : its.getD j Value.none = .ref qb := by rw [List.getD_eq_getElem?_getD, m2]; rfl
      simp only [g1, g2, rowLt_int] at hC
      unfold kas_ask
      rw [e1, e2]
      refine kat_lt (kept qa o hlt ho) hd (kept qb o' hlt' ho') hd' ?_
      subst eu eu'
      refine kat_cons (wpAny_eqBool_int ?_)
      by_cases hac : a = c
      · rw [show (a == c) = true by simpa using hac]
        refine kat_yes (kat_cons (wpAny_eqBool_int ?_))
        have hbd : ¬ b = d := by rcases key with k | k; · exact absurd hac k
                                 · exact k
        rw [show (b == d) = false by simpa using hbd]
        refine kat_no (kat_one _ _ (lt_int (show C (decide (b < d)) _ from ?_)))
        have e : (decide (a < c) || (decide (a = c) && decide (b < d))) = decide (b < d) := by
          rw [decide_eq_true hac, decide_eq_false (by omega : ¬ a < c)]
          simp
        rw [e] at hC
        exact hC
      · rw [show (a == c) = false by simpa using hac]
        refine kat_no (oneLt_int ?_)
        have e : (decide (a < c) || (decide (a = c) && decide (b < d))) = decide (a < c) := by
          rw [decide_eq_false hac]
          simp
        rw [e] at hC
        exact hC
  · have hD : H (s.heap.objs.size + 1) = none := I.hok.fresh (Nat.le_succ _)
    have Mr : Pm rows.length pm := ei ▸ M
    have hzl : ∀ k ∈ pm.toList, k < zs.length := fun k hk => by
      obtain ⟨i, hi⟩ := List.mem_iff_getElem?.mp hk
      have := (pm_get Mr hi).2.1
      rw [hr.len]
      exact this
    obtain ⟨e, he⟩ := sortedAll_at s.heap its (List.toArray (pm.toList.map fun i => its.getD i Value.none))
    refine ⟨.ref (s.heap.objs.size + 1), upd H (s.heap.objs.size + 1) (.lst (pm.toList.map fun i => zs.getD i .non)), I.laid (t' := s.toks) (fun b u z => sortedAll_old z) (Nat.le_succ _) ⟨?_, _, e, vals_getD rv _ hzl, he⟩, rfl, ?_⟩
    · rw [List.length_map, Array.length_toList, M.size]
      exact Nat.le_of_lt (Nat.lt_trans (by rw [ei]; exact h64) (by decide))
    · refine q _ _ (pm.toList.map fun i => rows.getD i []) hD ⟨perm_getD [] rows Mr, ?_⟩ ⟨by simp, fun i z row h1 h2 => ?_⟩
      · rw [List.pairwise_iff_getElem]
        intro i j hi hj hij
        rw [List.length_map, Array.length_toList, Mr.size] at hj
        have := hA i j hij (by rw [ei]; exact hj)
        simp only [List.getElem_map, Array.getElem_toList]
        have g : ∀ k (hk : k < pm.size), pm[k] = pm.getD k 0 := fun k hk => by simp [Array.getD_eq_getD_getElem?, hk]
        rw [g i, g j]
        exact this
      · rw [List.getElem?_map] at h1 h2
        cases ek : pm.toList[i]? with
        | none => rw [ek] at h1; cases h1
        | some k =>
          rw [ek] at h1 h2
          cases h1
          cases h2
          obtain ⟨_, hk, _⟩ := pm_get Mr ek
          have hk' : k < zs.length := by rw [hr.len]; exact hk
          refine hr.at' k _ _ ?_ ?_
          · show zs[k]? = some (zs.getD k .non)
            rw [List.getD_eq_getElem?_getD, List.getElem?_eq_getElem hk']; rfl
          · show rows[k]? = some (rows.getD k [])
            rw [List.getD_eq_getElem?_getD, List.getElem?_eq_getElem hk]; rfl
end
end L2
namespace L2
open PySem PyProof.Rows
section
variable {X : Cx}
theorem ints_items {vs : List Value} {ns : List Int} (hi : IntsAre vs ns) : ∃ xs : Array (Int × Tok), vs.toArray = intItems xs ∧ ns = xs.toList.map (·.1) := by
  obtain ⟨xs, e⟩ := hi.allInts.items
  exact ⟨xs, e, by rw [← hi.numsOf, ← nums_intItems, ← e]⟩
theorem call_minL (hc : X.calm = true) : CallR X (.builtin "min") (fun xs H Q => ∃ (l : Addr) (ns : List Int), xs = [.ref l] ∧ SqL X.K H l (ns.map V.int) ∧ 0 < ns.length ∧ ∀ M, M ∈ ns → (∀ a ∈ ns, M ≤ a) → Q (.int M) H) := by
  intro pins s σ H us vs Q I r h
  obtain ⟨l, ns, rfl, hl, hne, q⟩ := h
  obtain ⟨u, rfl, ru⟩ := r.one
  obtain rfl : u = Value.ref l := ru
  obtain ⟨its, rv, p, _⟩ := I.list hl
  obtain ⟨xs, e, hns⟩ := ints_items (intsAre_of rv)
  have hp := p.isList
  rw [e] at hp
  have hsz : 0 < xs.size := by rw [hns, List.length_map, Array.length_toList] at hne; exact hne
  refine min_intList (I.ok.hd hc) hp hsz fun v h' tk hv hk => ?_
  obtain ⟨t, rfl⟩ := intItems_at hv
  obtain ⟨h1, h2⟩ := argBest_lt (numAt xs) (xs.size - 1)
  refine ⟨.int _, H, I.kept hk, ⟨t, rfl⟩, q _ ?_ fun a ha => ?_⟩
  · rw [hns, numAt_eq]
    exact getD_mem (by rw [List.length_map, Array.length_toList]; omega)
  · rw [hns] at ha
    obtain ⟨j, hj, rfl⟩ := mem_getD ha
    rw [List.length_map, Array.length_toList] at hj
    rw [← numAt_eq]
    exact h2 j (by omega)
theorem call_sumL (hc : X.calm = true) : CallR X (.builtin "sum") (fun xs H Q => ∃ (l : Addr) (ns : List Int), xs = [.ref l] ∧ SqL X.K H l (ns.map V.int) ∧ Q (.int ns.sum) H) := by
  intro pins s σ H us vs Q I r h
  obtain ⟨l, ns, rfl, hl, q⟩ := h
  obtain ⟨u, rfl, ru⟩ := r.one
  obtain rfl : u = Value.ref l := ru
  obtain ⟨its, rv, p, _⟩ := I.list hl
  obtain ⟨xs, e, hns⟩ := ints_items (intsAre_of rv)
  have hp := p.isList
  rw [e] at hp
  refine sum_intListG (I.ok.hd hc) hp fun h' tk t' hk => ⟨.int ns.sum, H, I.kept hk, ⟨t', ?_⟩, q⟩
  rw [preSum_eq, List.take_of_length_le (by simp), hns]
end
end L2
set_option Elab.async false
set_option linter.all false
set_option maxRecDepth 100000
set_option maxHeartbeats 4000000
namespace L2
open PySem PySem.Spec PyProof.Rows
section
variable {X : Cx} {pins : List (Addr × Obj)} {σ : St} {H : Hp} {s : Shared} {h' : Heap}
theorem Inv.turnedLaid {t' : Nat} {e it T : Addr} {o : HO} (I : Inv X pins σ H s) (k : ∀ b u, b ≠ e → b ≠ it → s.heap.get? b = some u → h'.get? b = some u) (fe : FpOk X pins H e) (fi : FpOk X pins H it)
    (hT : s.heap.objs.size ≤ T) (new : ObjOk X.prog X.w (upd H T o) h' T o) : Inv X pins σ (upd H T o) { s with heap := h', toks := t' } := by
  have hTn : H T = none := I.hok.fresh hT
  obtain ⟨e0, e1, e2, e3, e4, e5⟩ := fe
  obtain ⟨i0, i1, i2, i3, i4, i5⟩ := fi
  have ne : ∀ b, b ∉ [e, it] → b ≠ e ∧ b ≠ it := fun b hb => ⟨fun z => hb (by simp [z]), fun z => hb (by simp [z])⟩
  have nT : ∀ b u, s.heap.get? b = some u → b ≠ T := fun b u q => Nat.ne_of_lt (Nat.lt_of_lt_of_le (Heap.lt_size q) hT)
  refine I.step (g' := s.gens) (d' := s.drawn) (ch := [e, it]) (fun b hb => ?_) (fun b u _ _ hc q _ => k b u (ne b hc).1 (ne b hc).2 q) (fun b u _ _ hc q _ => ⟨u.slots, k b u (ne b hc).1 (ne b hc).2 q⟩) (fun b u _ q n => by rw [upd_ne (nT b u q)]; exact n)
    (fun b u hc q => ⟨u, k b u (ne b hc).1 (ne b hc).2 q⟩) (fun b xs q => by rw [upd_ne (ne_of_none q hTn)]; exact q) (fun b u v q => by rw [upd_ne (ne_of_none q hTn)]; exact q) (fun b ps q => ⟨#[], by rw [upd_ne (ne_of_none q hTn), q]; simp⟩) (fun m hm => ?_) (fun b u q => ?_) I.bare
  · have hb' : b = e ∨ b = it := by simpa using hb
    rcases hb' with z | z
    · subst z; exact ⟨e3, e1, e4, e5⟩
    · subst z; exact ⟨i3, i1, i4, i5⟩
  · obtain ⟨u, es, ep, ho, r⟩ := hm
    exact ⟨u, es, ep, k _ u (Ne.symm e1) (Ne.symm i1) ho, r⟩
  · by_cases hb : b = T
    · subst hb; rw [upd_same] at q; cases q; exact new
    · rw [upd_ne hb] at q
      have nn : ∀ c v, H c = some v → c ≠ e ∧ c ≠ it := fun c v z => ⟨ne_of_none z e0, ne_of_none z i0⟩
      refine (I.hok b u q).stay (fun c v hc z => ?_) (fun c z => by rw [upd_ne (ne_of_none z hTn)]; exact z) fun c xs z => by rw [upd_ne (ne_of_none z hTn)]; exact z
      rcases hc with y | y
      · subst y; exact k c v (nn c u q).1 (nn c u q).2 z
      · exact k c v (nn c _ y).1 (nn c _ y).2 z
theorem Inv.turned1 {t' : Nat} {it : Addr} (I : Inv X pins σ H s) (k : ∀ b u, b ≠ it → s.heap.get? b = some u → h'.get? b = some u) (fi : FpOk X pins H it) : Inv X pins σ H { s with heap := h', toks := t' } := by
  obtain ⟨i0, i1, i2, i3, i4, i5⟩ := fi
  exact I.turned k i0 i1 i3 i4 i5
end
def Ite (K : PySem.W.Frag) (a : Addr) : It :=
  ⟨fun i H => ∃ xs x, SqL K H a xs ∧ xs[i]? = some x, fun i H x H' => ∃ T y, H T = none ∧ x = .ref T ∧ (∀ xs, SqL K H a xs → xs[i]? = some y) ∧ H' = upd H T (.tup [.int i, y]), fun i H => ∃ xs, SqL K H a xs ∧ xs.length ≤ i⟩
theorem turn_enum {P : Program} {w : World} {K : PySem.W.Frag} {elts : List Expr} {k : Nat} {pos : Pos} (a e it : Addr) (hei : e ≠ it) : Turn P w K (.Tuple elts k pos) (Ite K a) [e, it] e (fun i h => (∃ old, IsEnum h e it i old) ∧ h.IsListIter it a i) where
  mem := by simp
  obj := fun i h st b hb => by
    obtain ⟨⟨old, he⟩, hi⟩ := st
    have hb' : b = e ∨ b = it := by simpa using hb
    rcases hb' with z | z
    · subst z
      exact ⟨_, he, fun v z => by
        have z' : Data.fields _ = Data.cell v := z
        cases z'⟩
    · subst z
      obtain ⟨o, e, c, d⟩ := hi
      exact ⟨o, e, fun v z => by rw [d] at z; cases z⟩
  keep := fun i h h' st k => ⟨let ⟨old, he⟩ := st.1; ⟨old, k e (by simp) _ he⟩, st.2.at fun o q => k it (by simp) o q⟩
  item := by
    intro X hP hw hK hc i pins s σ H E I hf st hg
    subst hP hw hK
    obtain ⟨xs, x, hq, hx⟩ := hg
    obtain ⟨its, rv, p, hz⟩ := I.list hq
    obtain ⟨u, hu, ru⟩ := rv.get hx
    obtain ⟨⟨old, he⟩, hi⟩ := st
    have fe := hf e (by simp)
    have fi := hf it (by simp)
    refine wpAny_pyNext_enum_item he hi p.isList (x := u) (by simpa using hu) hei fun h' ho hit' hT hsz hk => ?_
    refine ⟨.ref s.heap.objs.size, rfl, wpAny_letOwnedTupleGo_enum ho fun h2 he2 hs2 => ?_⟩
    replace hs2 : Heap.SameBut e h' h2 := hs2
    have eT : s.heap.objs.size ≠ e := Nat.ne_of_gt (Heap.lt_size he)
    have hT2 : h2.get? s.heap.objs.size = some { cls := .type "tuple", data := .seq #[.int i s.toks, u] } := (hs2.2 _ eT).trans hT
    have kk : ∀ b o, b ≠ e → b ≠ it → s.heap.get? b = some o → h2.get? b = some o := fun b o h1 h2' q => (hs2.2 b h1).trans (hk b o h1 h2' q)
    refine ⟨.ref s.heap.objs.size, upd H s.heap.objs.size (.tup [.int i, x]), I.turnedLaid (t' := s.toks + 1) kk fe fi (Nat.le_refl _) ⟨by show 2 ≤ sizeLine; decide, [.int i s.toks, u], .cons ⟨_, rfl⟩ (.cons ru .nil), _, hT2, rfl, 0, rfl⟩, rfl,
      ⟨_, x, I.hok.fresh (Nat.le_refl _), rfl, fun ys hy => by rw [I.list_inj hy hq]; exact hx, rfl⟩, ⟨⟨u, by simpa using he2⟩, hit'.at fun o q => (hs2.2 it (Ne.symm hei)).trans q⟩, fun b hb => ?_⟩
    have hb' : b = e ∨ b = it := by simpa using hb
    rcases hb' with z | z
    · subst z; rw [upd_ne (Ne.symm eT)]; exact fe.1
    · subst z
      obtain ⟨o, q, _⟩ := hi
      rw [upd_ne (Nat.ne_of_lt (Heap.lt_size q))]; exact fi.1
  done := by
    intro X hP hw hK hc i pins s σ H E I hf st hg
    subst hP hw hK
    obtain ⟨xs, hq, hx⟩ := hg
    obtain ⟨its, rv, p, hz⟩ := I.list hq
    obtain ⟨⟨old, he⟩, hi⟩ := st
    have hl := rv.length
    exact wpAny_pyNext_enum_end (I.ok.hd hc) he hi p.isList (by simp; omega) fun h' eb => ⟨rfl, I.turned1 (t' := s.toks) (fun b o hb q => eb b o hb q) (hf it (by simp))⟩
  self := fun _ _ _ _ _ st h => by
    obtain ⟨⟨old, he⟩, _⟩ := st
    exact wpAny_pyIter_enum he h
section
variable {X : Cx} {elts : List Expr} {k : Nat} {tp : Pos}
def iEnum (K : PySem.W.Frag) (ta : TA) : TI := fun σ H R => ta σ H fun vs H1 => ∃ a, vs = [.ref a] ∧ (∃ xs, SqL K H1 a xs) ∧ R (Ite K a) H1
theorem pi_enum {l : Expr} {ta : TA} {p pos : Pos} (hg : Gl X "enumerate") (hm : X.mg "enumerate" = none) (ha : PA X [l] ta) (h1 : starred l = false := by rfl) : PI X (.Tuple elts k tp) (.Call (.Name "enumerate" p) [l] [] pos) (iEnum X.K ta) := by
  intro pins s σ H R I h
  have hs : starEach [l] X.env = [(false, eval l X.env)] := star_cons h1
  refine Call_ (ld_blt I hg hm boot_enumerate (PyProof.Rows.callWith_type1 (thn (ha pos pins s σ H _ I h) fun us s1 ⟨vs, H1, I1, r1, q1⟩ => ?_) hs rfl))
  obtain ⟨a, e, ⟨xs, hq⟩, q⟩ := q1
  subst e
  cases r1 with
  | cons r rr =>
    cases rr
    cases r
    obtain ⟨its, rv, p, hz⟩ := I1.list hq
    refine call_enumerate_list p.isList fun h' he hit hsz hk => ?_
    refine wpAny_pyIter_enum (s := { s1 with heap := h' }) he ?_
    have I2 : Inv X pins σ H1 { s1 with heap := h' } := I1.kept (t' := s1.toks) hk
    refine ⟨_, [s1.heap.objs.size + 1, s1.heap.objs.size], _, _, H1, rfl, I2, turn_enum a _ s1.heap.objs.size (Nat.succ_ne_self _), ⟨⟨_, he⟩, hit⟩, fun b hb => ?_, q⟩
    have hb' : b = s1.heap.objs.size + 1 ∨ b = s1.heap.objs.size := by simpa using hb
    rcases hb' with z | z
    · subst z; exact I1.fpOk (Nat.le_succ _) (I1.hok.fresh (Nat.le_succ _))
    · subst z; exact I1.fpOk (Nat.le_refl _) (I1.hok.fresh (Nat.le_refl _))
end
theorem for_enum {K : PySem.W.Frag} {a : Addr} {xs : List V} {g : TG} {tb : TS} {D : Ends} {σ : St} {H : Hp} (Pv : Nat → St → Hp → Prop) (h0 : Pv 0 σ H) (hl : ∀ i σ H, i ≤ xs.length → Pv i σ H → SqL K H a xs)
    (hs : ∀ (i : Nat) x σ H T, xs[i]? = some x → Pv i σ H → H T = none → g (.ref T) σ (upd H T (.tup [.int i, x])) fun σ2 H2 => tb { D with nx := Pv (i + 1), ct := Pv (i + 1), bk := D.nx } σ2 H2) (hd : ∀ σ H, Pv xs.length σ H → D.nx σ H) :
    ∃ W : Nat → Nat → St → Hp → Prop, (∃ m, W 0 m σ H) ∧ ∀ i m σ H, W i m σ H →
      ((Ite K a).stop i H ∧ D.nx σ H) ∨ ((Ite K a).go i H ∧ ∃ N : St → Hp → Prop, (∀ σ' H', N σ' H' → ∃ m', m' < m ∧ W (i + 1) m' σ' H') ∧ ∀ x H', (Ite K a).yld i H x H' → g x σ H' fun σ2 H2 => tb { D with nx := N, ct := N, bk := D.nx } σ2 H2) := by
  refine ⟨fun i m σ H => m = xs.length - i ∧ i ≤ xs.length ∧ Pv i σ H, ⟨xs.length, by simp, Nat.zero_le _, h0⟩, ?_⟩
  rintro i m σ H ⟨rfl, hi, p⟩
  have q := hl i σ H hi p
  by_cases hlt : i < xs.length
  · refine .inr ⟨⟨xs, xs[i], q, by simp [hlt]⟩, Pv (i + 1), fun σ' H' p' => ⟨xs.length - (i + 1), by omega, rfl, hlt, p'⟩, fun x H' y => ?_⟩
    obtain ⟨T, z, hT, e, y, e'⟩ := y
    subst e e'
    exact hs i z σ _ T (y xs q) p hT
  · have e : i = xs.length := by omega
    subst e
    exact .inl ⟨⟨xs, q, Nat.le_refl _⟩, hd σ H p⟩
theorem tAll_if {σ : St} {H : Hp} {P R : Hp → Prop} (h : P H) : tAll σ H (fun b H4 => if b = true then P H4 else R H4) := by
  show if true = true then P H else R H
  rw [if_pos rfl]
  exact h
end L2
set_option Elab.async false
set_option linter.all false
set_option maxRecDepth 100000
set_option maxHeartbeats 4000000
namespace PySem
open Sem (wp)
structure Fl (h : Heap) (e T : Addr) (cls : Value) (dx : Option Addr) (fl : Value) : Prop where
  obj : ∃ oe vs oT ts, h.get? e = some oe ∧ oe.cls = cls ∧ oe.dict = dx ∧ oe.data = .fields vs ∧ vs[1]? = some (.ref T) ∧ h.get? T = some oT ∧ oT.data = .fields ts ∧ ts[3]? = some fl
  ne : T ≠ e
abbrev frsOf (l : List Env) : List Addr := l.filterMap (·.frame)
structure Stn (fs : List Addr) (ex : List Addr) (h h' : Heap) : Prop where
  keep : ∀ b o, b ∉ ex → b ∉ fs → h.get? b = some o → h'.get? b = some o
  slot : ∀ b o, b ∉ ex → b ∈ fs → h.get? b = some o → ∃ sl, h'.get? b = some { o with slots := sl }
theorem Obj.dict_mapFields (o : Obj) (f : Array Value → Array Value) : (o.mapFields f).dict = o.dict := by
  unfold Obj.mapFields
  split <;> rfl
section
variable {M : Model} {A : Around} {E : Value → Shared → Prop} {s : Shared}
theorem fl_entry {base : Heap} {env : Env} {outer : List Env} {L e : Addr} {oe : Obj} {vs : Array Value} {head : Value} {hadNext : Bool} {Q : Unit → Shared → Prop}
    (hfr : A.frames = some (env :: outer)) (hl : s.heap.FunFrames base (env :: outer)) (hf : env.frame = some L)
    (he : s.heap.get? e = some oe) (hd : oe.data = .fields vs) (hsz : 1 < vs.size)
    (h : ∀ h' T, Stn (frsOf (env :: outer)) [e] s.heap h' → s.heap.objs.size ≤ T → Fl h' e T oe.cls oe.dict (rawInt L) → Q () { s with heap := h' }) :
    wpAny M A (do let a ← frameOf env; let pl ← entryPlaceOf L hadNext; let b ← EntryCells.newEntry head a .none (rawInt L) .none pl; setField (.ref e) 1 b) Q E s := by
  have hene : e ∉ (env :: outer).filterMap (·.frame) := fun hm => by
    obtain ⟨_, o, ho, hnf⟩ := hl.mem hm
    rw [he] at ho; injection ho with ho; subst ho; exact hnf vs hd
  refine wpAny_bind (wpAny_frameOf_fun hfr hl hf fun h₁ hs₁ => ?_)
  refine wpAny_bind (wpAny_entryPlaceOf fun pl hpl => ?_)
  unfold EntryCells.newEntry newFields
  refine wpAny_bind (wpAny_newObj_type ?_ (hpl.sizeOk5 _ _ _ _ _))
  have he₁ : h₁.get? e = some oe := (hs₁.2.1 e hene).trans he
  have he₂ := Heap.get?_push_of_some (h := h₁) { cls := .type "traceback", dict := none, data := .fields ([head, .ref L, .none, rawInt L, .none] ++ (if pl.isEmpty then List.replicate 6 Value.none else pl)).toArray } he₁
  refine wpAny_setField he₂ hd hsz ?_
  have hTe : h₁.objs.size ≠ e := Nat.ne_of_gt (Heap.lt_size he₁)
  have hd₃ := Obj.data_mapFields hd (·.setIfInBounds 1 (Value.ref h₁.objs.size))
  have he₃ := Heap.get?_update_self (Obj.mapFields (·.setIfInBounds 1 (Value.ref h₁.objs.size))) he₂ (Obj.isFreed_of_fields hd₃)
  have hT₃ := (Heap.get?_update_other (h₁.push { cls := .type "traceback", dict := none, data := .fields ([head, .ref L, .none, rawInt L, .none] ++ (if pl.isEmpty then List.replicate 6 Value.none else pl)).toArray })
    (Obj.mapFields (·.setIfInBounds 1 (Value.ref h₁.objs.size))) (Ne.symm hTe)).trans (Heap.get?_push_size h₁ rfl)
  have keep : ∀ b o, b ≠ e → h₁.get? b = some o → ((h₁.push { cls := .type "traceback", dict := none, data := .fields ([head, .ref L, .none, rawInt L, .none] ++ (if pl.isEmpty then List.replicate 6 Value.none else pl)).toArray }).update e (Obj.mapFields (·.setIfInBounds 1 (Value.ref h₁.objs.size)))).get? b = some o := fun b o hbe hb => by
    rw [Heap.get?_update_other _ _ (Ne.symm hbe)]
    exact Heap.get?_push_of_some _ hb
  refine h _ h₁.objs.size ⟨fun b o hb hf hbo => keep b o (fun z => hb (by simp [z])) ((hs₁.2.1 b hf).trans hbo), fun b o hb _ hbo => ?_⟩ (by rw [hs₁.1]; exact Nat.le_refl _) ⟨⟨_, _, _, _, he₃, Obj.cls_mapFields _ _, Obj.dict_mapFields _ _, hd₃, by simp [hsz], hT₃, rfl, by first | (simp; done) | (rcases hpl with rfl | ⟨_, _, _, _, _, _, _, rfl⟩ <;> simp)⟩, hTe⟩
  obtain ⟨sl, hs⟩ := hs₁.2.2 b o hbo
  exact ⟨sl, keep b _ (fun z => hb (by simp [z])) hs⟩
theorem fl_set {e T : Addr} {cls : Value} {dx : Option Addr} {fl : Value} {Q : Unit → Shared → Prop} (F : Fl s.heap e T cls dx fl)
    (h : ∀ h', (∀ b, b ≠ T → h'.get? b = s.heap.get? b) → Fl h' e T cls dx .none → Q () { s with heap := h' }) : wpAny M A (setFlight (.ref e) none) Q E s := by
  obtain ⟨⟨oe, vs, oT, ts, he, hcls, hdx, hd, h1, hT, hdT, h3⟩, hne⟩ := F
  unfold setFlight
  refine wpAny_bind (wpAny_field he hd h1 ?_)
  rw [if_pos (show (Value.ref T != Value.none) = true from by simp)]
  have hsz3 : 3 < ts.size := (Array.getElem?_eq_some_iff.mp h3).1
  refine wpAny_setField hT hdT hsz3 (h _ (fun b hb => Heap.get?_update_other _ _ (Ne.symm hb)) ⟨⟨oe, vs, _, _, (Heap.get?_update_other _ _ hne).trans he, hcls, hdx, hd, h1, Heap.get?_update_self _ hT (Obj.isFreed_of_fields (Obj.data_mapFields hdT _)), Obj.data_mapFields hdT _, ?_⟩, hne⟩)
  simp [hsz3]
theorem fl_note_first {base : Heap} {env : Env} {outer : List Env} {L e : Addr} {oe : Obj} {vs : Array Value} {Q : Unit → Shared → Prop}
    (hfr : A.frames = some (env :: outer)) (hl : s.heap.FunFrames base (env :: outer)) (hf : env.frame = some L)
    (he : s.heap.get? e = some oe) (hd : oe.data = .fields vs) (h1 : vs[1]? = some .none)
    (h : ∀ h' T, Stn (frsOf (env :: outer)) [e] s.heap h' → s.heap.objs.size ≤ T → Fl h' e T oe.cls oe.dict (rawInt L) → Q () { s with heap := h' }) :
    wpAny M A (noteFrame (.ref e) env) Q E s := by
  unfold noteFrame
  simp only [hf]
  refine wpAny_bind (wpAny_field he hd h1 ?_)
  rw [if_neg (by decide)]
  exact fl_entry hfr hl hf he hd (Array.getElem?_eq_some_iff.mp h1).1 h
theorem fl_note_next {base : Heap} {env : Env} {outer : List Env} {L e T : Addr} {cls : Value} {dx : Option Addr} {Q : Unit → Shared → Prop}
    (hfr : A.frames = some (env :: outer)) (hl : s.heap.FunFrames base (env :: outer)) (hf : env.frame = some L) (F : Fl s.heap e T cls dx .none)
    (h : ∀ h' T', Stn (frsOf (env :: outer)) [e, T] s.heap h' → s.heap.objs.size ≤ T' → Fl h' e T' cls dx (rawInt L) → Q () { s with heap := h' }) :
    wpAny M A (noteFrame (.ref e) env) Q E s := by
  obtain ⟨⟨oe, vs, oT, ts, he, hcls, hdx, hd, h1, hT, hdT, h3⟩, hne⟩ := F
  subst hcls hdx
  unfold noteFrame
  simp only [hf]
  refine wpAny_bind (wpAny_field he hd h1 ?_)
  rw [if_pos (show (Value.ref T != Value.none) = true from by simp)]
  refine wpAny_bind (wpAny_field hT hdT h3 ?_)
  rw [if_neg (show ¬ ((Value.none == rawInt L) = true) from by simp [rawInt])]
  refine wpAny_bind (wpAny_setField hT hdT (Array.getElem?_eq_some_iff.mp h3).1 ?_)
  have other : ∀ b, b ≠ T → (s.heap.update T (Obj.mapFields (·.setIfInBounds 3 Value.none))).get? b = s.heap.get? b := fun b hb => Heap.get?_update_other _ _ (Ne.symm hb)
  have noRecord : ∀ b o, s.heap.get? b = some o → (∀ vs, o.data ≠ .fields vs) → b ≠ T := fun b o hb hnf q => by
    rw [q, hT] at hb; injection hb with hb; subst hb; exact hnf ts hdT
  refine fl_entry (s := { s with heap := s.heap.update T (Obj.mapFields (·.setIfInBounds 3 Value.none)) }) hfr (hl.of_keeps fun b o hb hnf => ⟨o, (other b (noRecord b o hb hnf)).trans hb, rfl⟩) hf ((other e (Ne.symm hne)).trans he) hd (Array.getElem?_eq_some_iff.mp h1).1 fun h' T' S hz F' => ?_
  refine h h' T' ⟨fun b o hb hfb hbo => ?_, fun b o hb hfb hbo => ?_⟩ (by have := hz; rwa [show (s.heap.update T (Obj.mapFields (·.setIfInBounds 3 Value.none))).objs.size = s.heap.objs.size from Heap.size_update ..] at this) F'
  · exact S.keep b o (fun z => hb (by simp at z; simp [z])) hfb ((other b fun z => hb (by simp [z])).trans hbo)
  · exact S.slot b o (fun z => hb (by simp at z; simp [z])) hfb ((other b fun z => hb (by simp [z])).trans hbo)
theorem fl_leave_first {base : Heap} {env : Env} {outer : List Env} {L e : Addr} {oe : Obj} {vs : Array Value} {Q : Unit → Shared → Prop}
    (hfr : A.frames = some (env :: outer)) (hl : s.heap.FunFrames base (env :: outer)) (hf : env.frame = some L)
    (he : s.heap.get? e = some oe) (hd : oe.data = .fields vs) (h1 : vs[1]? = some .none)
    (h : ∀ h' T, Stn (frsOf (env :: outer)) [e] s.heap h' → s.heap.objs.size ≤ T → Fl h' e T oe.cls oe.dict .none → Q () { s with heap := h' }) :
    wpAny M A (leaving env (.ref e)) Q E s := by
  unfold leaving
  refine wpAny_bind (fl_note_first hfr hl hf he hd h1 fun h' T S hz F => ?_)
  refine fl_set (s := { s with heap := h' }) F fun h2 k F2 => h h2 T ⟨fun b o hb hfb hbo => ?_, fun b o hb hfb hbo => ?_⟩ hz F2
  · exact (k b (Nat.ne_of_lt (Nat.lt_of_lt_of_le (Heap.lt_size hbo) hz))).trans (S.keep b o hb hfb hbo)
  · obtain ⟨sl, q⟩ := S.slot b o hb hfb hbo
    exact ⟨sl, (k b (Nat.ne_of_lt (Nat.lt_of_lt_of_le (Heap.lt_size hbo) hz))).trans q⟩
theorem fl_leave_next {base : Heap} {env : Env} {outer : List Env} {L e T : Addr} {cls : Value} {dx : Option Addr} {Q : Unit → Shared → Prop}
    (hfr : A.frames = some (env :: outer)) (hl : s.heap.FunFrames base (env :: outer)) (hf : env.frame = some L) (F : Fl s.heap e T cls dx .none)
    (h : ∀ h' T', Stn (frsOf (env :: outer)) [e, T] s.heap h' → s.heap.objs.size ≤ T' → Fl h' e T' cls dx .none → Q () { s with heap := h' }) :
    wpAny M A (leaving env (.ref e)) Q E s := by
  unfold leaving
  refine wpAny_bind (fl_note_next hfr hl hf F fun h' T' S hz F => ?_)
  refine fl_set (s := { s with heap := h' }) F fun h2 k F2 => h h2 T' ⟨fun b o hb hfb hbo => ?_, fun b o hb hfb hbo => ?_⟩ hz F2
  · exact (k b (Nat.ne_of_lt (Nat.lt_of_lt_of_le (Heap.lt_size hbo) hz))).trans (S.keep b o hb hfb hbo)
  · obtain ⟨sl, q⟩ := S.slot b o hb hfb hbo
    exact ⟨sl, (k b (Nat.ne_of_lt (Nat.lt_of_lt_of_le (Heap.lt_size hbo) hz))).trans q⟩
end
structure XMro (bm : List Value) : Prop where
  exc : bm.contains (.type "Exception") = true
  bas : bm.contains (.type "BaseException") = true
  att : bm.contains (.type "AttributeError") = false
  nam : bm.contains (.type "NameError") = false
theorem excF : ExcBaseFacts "Exception" "Exception.__new__" "Exception.__init__" [.type "Exception", .type "BaseException", .type "object"] := F.excBase_Exception
section
variable {prog : Program} {w : World} {M : Model} {A : Around} {E : Value → Shared → Prop} {R : Result → Shared → Prop} {h : Heap} {g : Array GenState} {d : Drawn} {t : Nat} {os : OsState}
variable {nm q : Str} {C N : Addr} {bs bm : List Value} {hdct : Bool} {sn : List Str} {sub : List Value} {ab : Bool} {col : Option Bool} {dd : Option Addr} {k0 k1 k2 k3 k5 : Option Value}
abbrev XC (nm q : Str) (C N : Addr) (bs bm : List Value) (hdct : Bool) (sn : List Str) (sub : List Value) (ab : Bool) (col : Option Bool) (dd : Option Addr) (k0 k1 k2 k3 k5 : Option Value) : Obj := excClassObj nm q C N bs bm hdct sn sub ab col dd k0 k1 k2 k3 k5 "Exception.__new__"
theorem xc_cons {v : Value} {b : Bool} (hv : (v == Value.ref C) = false) (h : bm.contains v = b) : (Value.ref C :: bm).contains v = b := by rw [List.contains_cons, hv, h]; rfl
theorem xc_new_check {rest : List Value} {Q : Unit → Shared → Prop} (hC : h.get? C = some (XC nm q C N bs bm hdct sn sub ab col dd k0 k1 k2 k3 k5)) (X : XMro bm) (hq : Q () ⟨h, g, d, t, os⟩) :
    wpAny M A (checkBuiltinCall "Exception.__new__" ⟨.ref C :: rest, []⟩) Q E ⟨h, g, d, t, os⟩ := by
  have y1 := xc_cons (C := C) (v := .type "Exception") rfl X.exc
  have y2 := excF.noStar
  simp only [checkBuiltinCall, excF.newKind, excF.newSplit, excF.newRow]
  repeat (first | refine wpAny_loadPart_at hC ?_ | (refine wpAny_isSubtype_exc hC ?_; rw [y1]) | refine wpAny_staticBase_exc hC ?_ | refine wpAny_madeBy_exc hC ?_ | simp only [bne_self_eq_false, Bool.false_eq_true, if_false] | wp_step)
  exact hq
theorem xc_new {rest : List Value} (hC : h.get? C = some (XC nm q C N bs bm hdct sn sub ab col dd k0 k1 k2 k3 k5)) (X : XMro bm)
    (hq : R (.ok (.ret (.ref (h.objs.size + 1)))) ⟨(h.push { cls := .type "tuple", data := .seq rest.toArray }).push { cls := .ref C, data := .fields #[.ref h.objs.size, .none, .none, .none, .bool false, .none] }, g, d, t, os⟩) (hrest : rest.length ≤ sizeLine) :
    codeAny (model prog w) A (.builtin "Exception.__new__" ⟨.ref C :: rest, []⟩) R ⟨h, g, d, t, os⟩ := by
  have y0 := excF.ends
  have y1 := xc_cons (C := C) (v := .type "Exception") rfl X.exc
  have y2 := xc_cons (C := C) (v := .type "AttributeError") rfl X.att
  have y3 := xc_cons (C := C) (v := .type "NameError") rfl X.nam
  refine codeAny_builtinAt excF.entry ?_
  unfold Builtin.«BaseException.__new__»
  refine wpAt_bind ?_
  show wpAt _ _ _ (stack >>= _) _ _ _
  refine wpAt_bind (wpAt_stack fun p below => wpAt_of_wpAny ?_)
  wp_walk
  refine wpAt_of_wpAny ?_
  rw [excF.owner]
  repeat (first | with_reducible refine wpAny_madeHere_exc excF.canon hC ?_ | with_reducible refine wpAny_loadPart_at hC ?_ | (with_reducible refine wpAny_isSubtype_exc hC ?_; first | rw [y1] | rw [y2] | rw [y3]) | wp_step)
  show R _ _
  rw [Heap.size_push]
  exact hq
theorem xc_type_call {rest : List Value} {fI : Addr} {oI : Obj} {Q : Fin → Shared → Prop} (hC : h.get? C = some (XC nm q C N bs bm hdct sn sub ab col dd k0 k1 k2 k3 k5)) (X : XMro bm)
    (hlook : ∀ (h' : Heap) (Q' : Option Value → Shared → Prop), (∀ b o, h.get? b = some o → h'.get? b = some o) → Q' (some (.ref fI)) ⟨h', g, d, t, os⟩ → wpAny (model prog w) A (typeLookup (.ref C) "__init__") Q' E ⟨h', g, d, t, os⟩)
    (hfI : h.get? fI = some oI) (hfc : oI.cls = .type "function")
    (hq : ∀ h' e, h.objs.size ≤ e → Heap.MadeExcOf h h' e (.ref C) rest → wpAny (model prog w) A (call (.ref fI) (.ref e :: rest)) (fun r s' => r = .none ∧ Q (.done (.ret (.ref e))) s') E ⟨h', g, d, t, os⟩) (hrest : rest.length ≤ sizeLine) :
    wpAny (model prog w) A (Builtin.«type.__call__» ⟨.ref C :: rest, []⟩) Q E ⟨h, g, d, t, os⟩ := by
  repeat (first | with_reducible refine wpAny_loadPart_at hC ?_ | with_reducible refine wpAny_madeBy_exc hC ?_ | wp_step)
  refine codeAny_call_builtin_code (Code.quiet_builtin _ excF.quiet) (xc_new_check hC X ?_)
  refine xc_new hC X ?_ hrest
  show wpAny _ _ _ _ _ _
  generalize eG : (h.push { cls := .type "tuple", data := .seq rest.toArray }).push { cls := .ref C, data := .fields #[.ref h.objs.size, .none, .none, .none, .bool false, .none] } = G
  have kG : ∀ b o, h.get? b = some o → G.get? b = some o := fun b o q => by rw [← eG]; exact Heap.get?_push_of_some _ (Heap.get?_push_of_some _ q)
  have xG : G.get? (h.objs.size + 1) = some { cls := .ref C, data := .fields #[.ref h.objs.size, .none, .none, .none, .bool false, .none] } := by rw [← eG]; heap_get
  have tG : G.get? h.objs.size = some { cls := .type "tuple", data := .seq rest.toArray } := by rw [← eG]; exact Heap.get?_push_of_some _ (Heap.get?_push_at rfl rfl)
  have CG := kG _ _ hC
  have y1 : (Value.ref C :: bm).contains (.ref C) = true := by simp
  unfold isInstance
  repeat (first | with_reducible refine wpAny_loadPart_at xG ?_ | (with_reducible refine wpAny_isSubtype_exc CG ?_; rw [y1]) | wp_step)
  show wpAny _ _ (typeLookup (.ref C) _) _ _ _
  refine hlook G _ kG ?_
  refine wpAny_holding (wpAny_bind ?_)
  unfold bindSpecial
  refine wpAny_bind (wpAny_typeOf (T := "function") ⟨_, kG _ _ hfI, hfc⟩ ?_)
  rw [if_pos (by decide)]
  refine wpAny_pure (wpAny_bind (wpAny_mono (hq G (h.objs.size + 1) (Nat.le_succ _) ⟨kG, Heap.get?_none_of_le (Nat.le_succ _), h.objs.size, xG, Heap.get?_none_of_le (Nat.le_refl _), tG⟩) (fun r s' hr => ?_) fun _ _ x => x))
  obtain ⟨rfl, hQ⟩ := hr
  wp_walk
  exact hQ
theorem xc_call {rest : List Value} {fI : Addr} {oI : Obj} {Q : Value → Shared → Prop} (hC : h.get? C = some (XC nm q C N bs bm hdct sn sub ab col dd k0 k1 k2 k3 k5)) (X : XMro bm)
    (hlook : ∀ (B : Around) (h' : Heap) (Q' : Option Value → Shared → Prop), (∀ b o, h.get? b = some o → h'.get? b = some o) → Q' (some (.ref fI)) ⟨h', g, d, t, os⟩ → wpAny (model prog w) B (typeLookup (.ref C) "__init__") Q' E ⟨h', g, d, t, os⟩)
    (hfI : h.get? fI = some oI) (hfc : oI.cls = .type "function")
    (hq : ∀ h' e, h.objs.size ≤ e → Heap.MadeExcOf h h' e (.ref C) rest → wpAny (model prog w) (A.under (.builtin "type.__call__" ⟨.ref C :: rest, []⟩)) (call (.ref fI) (.ref e :: rest)) (fun r s' => r = .none ∧ Q (.ref e) s') E ⟨h', g, d, t, os⟩) (hrest : rest.length ≤ sizeLine) :
    wpAny (model prog w) A (call (.ref C) rest) Q E ⟨h, g, d, t, os⟩ := by
  have f1 := tc_lookup
  have f2 := tc_bind (.ref C)
  have hT : (⟨h, g, d, t, os⟩ : Shared).TypeIs (.ref C) "type" := ⟨_, hC, rfl⟩
  refine wpAny_call (codeAny_of_tree ?_)
  show wpAny _ _ (callAny (.ref C) _) _ _ _
  repeat (any_goals (first | assumption | with_reducible refine wpAny_loadPart_at hC ?_ | wp_step))
  refine ⟨rfl, ?_⟩
  refine codeAny_call_builtin_at (Code.quiet_builtin _ (by decide +kernel)) entry_typeCall (wpAny_check_type_call_sub hC (xc_type_call hC X (hlook _) hfI hfc (fun h' e hz hm => ?_) hrest))
  exact hq h' e hz hm
theorem xc_init_check {e : Addr} {oe : Obj} {rest : List Value} {Q : Unit → Shared → Prop} (hC : h.get? C = some (XC nm q C N bs bm hdct sn sub ab col dd k0 k1 k2 k3 k5)) (X : XMro bm) (he : h.get? e = some oe) (hcls : oe.cls = .ref C) (hq : Q () ⟨h, g, d, t, os⟩) :
    wpAny M A (checkBuiltinCall "Exception.__init__" ⟨.ref e :: rest, []⟩) Q E ⟨h, g, d, t, os⟩ := by
  have y1 := xc_cons (C := C) (v := .type "Exception") rfl X.exc
  have y2 := excF.noStar
  simp only [checkBuiltinCall, excF.initKind, excF.initSplit, excF.initRow]
  repeat (first | (with_reducible refine wpAny_loadPart_at he ?_; rw [hcls]) | with_reducible refine wpAny_loadPart_at hC ?_ | (with_reducible refine wpAny_isSubtype_exc hC ?_; rw [y1]) | wp_step)
  refine wpAny_onRaise ?_
  have y3 : ∀ (a b : String) (n : Nat), Bind.check ⟨.positional, "*", "Exception", .self, [⟨"args", .varPos, false⟩]⟩ a b n (List.map (fun x => x.fst) ({ pos := Value.ref e :: rest } : Args).kw) = pure () := fun a b n => check_star_args _ _ _ _ _ _
  rw [y3]
  exact wpAny_pure hq
theorem xc_init {e t0 : Addr} {oe : Obj} {vs : Array Value} {rest : List Value} {Q : Value → Shared → Prop} (hC : h.get? C = some (XC nm q C N bs bm hdct sn sub ab col dd k0 k1 k2 k3 k5)) (X : XMro bm) (he : h.get? e = some oe) (hcls : oe.cls = .ref C) (hd : oe.data = .fields vs) (h0 : vs[0]? = some (.ref t0))
    (hq : Q .none ⟨(h.push { cls := .type "tuple", data := .seq rest.toArray }).update e (Obj.mapFields (·.setIfInBounds 0 (.ref h.objs.size))), g, d, t, os⟩) (hrest : rest.length ≤ sizeLine) :
    wpAny (model prog w) A (call (.builtin "Exception.__init__") (.ref e :: rest)) Q E ⟨h, g, d, t, os⟩ := by
  refine wpAny_call (codeAny_call_builtin excF.init.plain excF.initEntry (xc_init_check hC X he hcls ?_))
  unfold Builtin.«BaseException.__init__»
  dsimp only
  rw [if_neg (by simp)]
  unfold newTuple Builtin.BaseException.bexcPut
  have y0 : 0 < vs.size := (Array.getElem?_eq_some_iff.mp h0).1
  have y1 := Heap.get?_push_of_some (h := h) { cls := .type "tuple", data := .seq rest.toArray } he
  refine wpAny_bind (wpAny_newObj_type (wpAny_bind (wpAny_bind (wpAny_field y1 hd h0 (wpAny_bind (wpAny_setField y1 hd y0 ?_))))) (by show rest.toArray.size ≤ sizeLine; rw [List.size_toArray]; exact hrest))
  exact wpAny_letGo (wpAny_pure hq)
theorem xc_raise {s : Shared} {env : Env} {x : Sem Value} {Q : Flow → Shared → Prop} (hbm : XMro bm) (hh : A.handled = none)
    (h : wpAny M A x (fun v s₁ => ∃ e oe vs, v = .ref e ∧ s₁.heap.get? C = some (XC nm q C N bs bm hdct sn sub ab col dd k0 k1 k2 k3 k5) ∧ s₁.heap.get? e = some oe ∧ oe.cls = .ref C ∧ oe.data = .fields vs ∧ vs[1]? = some .none ∧ E (.ref e) s₁) E s) :
    wpAny M A (raiseStmt env (some x) none) Q E s := by
  have y1 := xc_cons (C := C) (v := .type "BaseException") rfl hbm.bas
  unfold raiseStmt
  refine wpAny_bind (wpAny_mono h (fun v s₁ h₁ => ?_) fun _ _ x => x)
  obtain ⟨e, oe, vs, rfl, hC, he, hcls, hd, h1, hE⟩ := h₁
  obtain ⟨hp, g, d, tk, os⟩ := s₁
  obtain ⟨oc, od, dt, sl⟩ := oe
  have hcls : oc = Value.ref C := hcls
  have hd : dt = .fields vs := hd
  subst hcls hd
  repeat (first | with_reducible refine wpAny_loadPart_at he ?_ | with_reducible refine wpAny_loadPart_at hC ?_ | (with_reducible refine wpAny_isSubtype_exc hC ?_; rw [y1]) | with_reducible refine wpAny_field he rfl h1 ?_ | wp_step)
  exact wpAny_raiseNew_none hh hE
end
end PySem
set_option Elab.async false
set_option linter.all false
set_option maxRecDepth 100000
set_option maxHeartbeats 4000000
namespace PySem
open Sem (wp)
open PySem.W (Looks)
section
variable {prog : Program} {w : World} {M : Model} {A : Around} {E : Value → Shared → Prop} {R : Result → Shared → Prop} {h : Heap} {g : Array GenState} {d : Drawn} {t : Nat} {os : OsState}
variable {nm q : Str} {C N x : Addr} {bs bm : List Value} {sn : List Str} {sub : List Value} {ab : Bool} {col : Option Bool} {dd : Option Addr} {k0 k1 k2 k3 k5 : Option Value} {name : Str} {v : Value}
theorem xs_check {o : Obj} {nameV : Value} {Q : Unit → Shared → Prop} (hob : bm.contains (.type "object") = true)
    (hC : h.get? C = some (XC nm q C N bs bm true sn sub ab col dd k0 k1 k2 k3 k5)) (hx : h.get? x = some o) (hc : o.cls = .ref C) (hq : Q () ⟨h, g, d, t, os⟩) :
    wpAny M A (checkBuiltinCall "object.__setattr__" ⟨[.ref x, nameV, v], []⟩) Q E ⟨h, g, d, t, os⟩ := by
  have y1 := xc_cons (C := C) (v := .type "object") rfl hob
  have y2 := F.store_Exception.args (.ref x) nameV v
  simp only [checkBuiltinCall, F.store_Exception.kind, F.store_Exception.split]
  refine wpAny_bind ?_
  unfold isInstance
  repeat (first | (with_reducible refine wpAny_loadPart_at hx ?_; rw [hc]) | (with_reducible refine wpAny_isSubtype_exc hC ?_; rw [y1]) | wp_step)
  exact hq
theorem xs_entry {tk : Tok} {o : Obj} {Q : Fin → Shared → Prop} (hpass : refuseLoop (.ref x) "__setattr__" bm = pure ()) (hC : h.get? C = some (XC nm q C N bs bm true sn sub ab col dd k0 k1 k2 k3 k5))
    (hno : Looks (model prog w) h (typeLookup (.ref C) name) none) (hx : h.get? x = some o) (hc : o.cls = .ref C) (hdn : o.dict = none) (hnc : ∀ c, o.data ≠ .cls c)
    (hq : ∀ h' tk', (∀ b u, b ≠ x → h.get? b = some u → h'.get? b = some u) → h'.get? x = some { o with dict := some h.objs.size } → h'.Ns1 h.objs.size (fun y => if y = name then some v else none) → Q (.done (.ret .none)) ⟨h', g, d, tk', os⟩) :
    wpAny (model prog w) A (Builtin.«object.__setattr__» ⟨[.ref x, .str name tk, v], []⟩) Q E ⟨h, g, d, t, os⟩ := by
  unfold Builtin.«object.__setattr__»
  repeat (first | rw [refuse_eq] | (rw [refuseLoop_ref, hpass]) | (with_reducible refine wpAny_loadPart_at hx ?_; rw [hc]) | with_reducible refine wpAny_mroOf_exc hC ?_ | refine hno _ _ _ _ (fun _ _ e => e) ?_ | wp_step)
  rw [hdn, if_neg (by simp [typeHasDict])]
  split
  · rename_i z
    cases z
  split
  · rename_i c z
    exact absurd z (hnc c)
  have y1 : (h.push { cls := .type "dict", data := .dict #[] }).get? x = some o := Heap.get?_push_of_some _ hx
  have y2 : x ≠ h.objs.size := Nat.ne_of_lt (Heap.lt_size hx)
  refine wpAny_bind (wpAny_alloc' ?_)
  refine wpAny_bind (wpAny_update' y1 ?_)
  refine wpAny_pure ?_
  generalize eG : ((h.push { cls := .type "dict", data := .dict #[] }).update x fun o => { cls := o.cls, dict := some h.objs.size, data := o.data, slots := o.slots }) = G
  have dG : G.get? h.objs.size = some { cls := .type "dict", data := .dict #[] } := by
    rw [← eG]
    exact (Heap.get?_update_ne _ _ _ _ y2.symm).trans (Heap.get?_push_at rfl rfl)
  have xG : G.get? x = some { o with dict := some h.objs.size } := by
    rw [← eG]
    refine Heap.get?_update_self _ y1 ?_
    have fr := (Heap.get?_some_iff.mp hx).2
    obtain ⟨oc, od, odt, osl⟩ := o
    cases odt <;> first | rfl | exact fr
  have kG : ∀ b u, b ≠ x → h.get? b = some u → G.get? b = some u := fun b u hb q => by
    rw [← eG]
    exact (Heap.get?_update_ne _ _ _ _ hb).trans (Heap.get?_push_of_some _ q)
  have nG : G.Ns h.objs.size (fun _ => none) := ⟨_, #[], _, dG, rfl, fun e he => absurd he (by simp), fun _ => rfl⟩
  show wpAny _ _ (Builtin.ObjectAttr.storeInDict h.objs.size (.str name tk) name v) _ _ _
  unfold Builtin.ObjectAttr.storeInDict Builtin.ObjectAttr.newKeyGuard
  refine wpAny_bind (wpAny_pure (wpAny_bind (wpAny_nsSet1 (Heap.Ns1.of_empty nG) fun h' n' sb => ?_)))
  obtain ⟨oD, esD, epD, hoD, hdD, hcD⟩ := n'.count (Within.cons name v Within.nil)
  refine wpAny_bind (wpAny_lookBehind hoD (by rw [hdD]; exact pastItsLine_dict (Nat.le_trans hcD (by rw [List.length_cons, List.length_nil, sizeLine_eq]; omega))) ?_)
  wp_walk
  exact hq h' _ (fun b u hb q => (sb.2 b (Nat.ne_of_lt (Heap.lt_size q))).trans (kG b u hb q)) ((sb.2 x y2).trans xG) n'
theorem xs_attr {o : Obj} {Q : Unit → Shared → Prop} (hob : bm.contains (.type "object") = true) (hpass : refuseLoop (.ref x) "__setattr__" bm = pure ()) (hC : h.get? C = some (XC nm q C N bs bm true sn sub ab col dd k0 k1 k2 k3 k5))
    (hsa : Looks (model prog w) h (typeLookup (.ref C) "__setattr__") (some (.builtin "object.__setattr__"))) (hno : Looks (model prog w) h (typeLookup (.ref C) name) none) (hx : h.get? x = some o) (hc : o.cls = .ref C) (hdn : o.dict = none) (hnc : ∀ c, o.data ≠ .cls c)
    (hq : ∀ h' tk', (∀ b u, b ≠ x → h.get? b = some u → h'.get? b = some u) → h'.get? x = some { o with dict := some h.objs.size } → h'.Ns1 h.objs.size (fun y => if y = name then some v else none) → Q () ⟨h', g, d, tk', os⟩) :
    wpAny (model prog w) A (setAttr (.ref x) name v) Q E ⟨h, g, d, t, os⟩ := by
  have f3 := F.store_Exception.slot.bind (.ref x)
  unfold setAttr callSpecial? specialOf
  repeat (any_goals (first | assumption | (with_reducible refine wpAny_loadPart_at hx ?_; rw [hc]) | refine hsa _ _ _ _ (fun _ _ e => e) ?_ | wp_step))
  refine codeAny_call_builtin F.store_Exception.slot.plain F.store_Exception.entry (xs_check hob hC hx hc (xs_entry hpass hC hno hx hc hdn hnc fun h' tk' k1 k2 k3 => ?_))
  repeat (any_goals (first | assumption | wp_step))
  exact hq h' tk' k1 k2 k3
theorem xg_check {o : Obj} {nameV : Value} {Q : Unit → Shared → Prop} (X : XMro bm)
    (hC : h.get? C = some (XC nm q C N bs bm true sn sub ab col dd k0 k1 k2 k3 k5)) (hx : h.get? x = some o) (hc : o.cls = .ref C) (hq : Q () ⟨h, g, d, t, os⟩) :
    wpAny M A (checkBuiltinCall "BaseException.__getattribute__" ⟨[.ref x, nameV], []⟩) Q E ⟨h, g, d, t, os⟩ := by
  have y0 : builtinKind "BaseException.__getattribute__" = some .slot := by decide +kernel
  have y9 : splitId "BaseException.__getattribute__" = some ("BaseException", "__getattribute__") := by decide +kernel
  have y1 := xc_cons (C := C) (v := .type "BaseException") rfl X.bas
  have y2 := F.args_bexc_ga (.ref x) nameV
  simp only [checkBuiltinCall, y0, y9]
  refine wpAny_bind ?_
  unfold isInstance
  repeat (first | (with_reducible refine wpAny_loadPart_at hx ?_; rw [hc]) | (with_reducible refine wpAny_isSubtype_exc hC ?_; rw [y1]) | wp_step)
  exact hq
theorem xg_entry {tk : Tok} {o : Obj} {dx : Addr} {vs : Array Value} {m : Str → Option Value} {Q : Fin → Shared → Prop} (hC : h.get? C = some (XC nm q C N bs bm true sn sub ab col dd k0 k1 k2 k3 k5))
    (hno : Looks (model prog w) h (typeLookup (.ref C) name) none) (hx : h.get? x = some o) (hc : o.cls = .ref C) (hd : o.data = .fields vs) (hdx : o.dict = some dx) (hn : h.Ns dx m) (hm : m name = some v) (hq : Q (.done (.ret v)) ⟨h, g, d, t, os⟩) :
    wpAny (model prog w) A (Builtin.«object.__getattribute__» ⟨[.ref x, .str name tk], []⟩) Q E ⟨h, g, d, t, os⟩ := by
  unfold Builtin.«object.__getattribute__»
  repeat (first | (with_reducible refine wpAny_loadPart_at hx ?_; rw [hc]) | refine hno _ _ _ _ (fun _ _ e => e) ?_ | wp_step)
  rw [hd]
  show wpAny _ _ (instanceDict x false) _ _ _
  unfold instanceDict
  refine wpAny_bind (wpAny_loadPart_at hx ?_)
  rw [hc]
  repeat (first | with_reducible refine wpAny_loadPart_at hC ?_ | wp_step)
  rw [hdx]
  refine wpAny_pure ?_
  show wpAny _ _ (nsGet dx name) _ _ _
  refine wpAny_nsGet hn ?_
  rw [hm]
  repeat (any_goals (first | assumption | wp_step))
theorem xg_attr {o : Obj} {dx : Addr} {vs : Array Value} {m : Str → Option Value} {expr : Bool} {Q : Value → Shared → Prop} (X : XMro bm) (hC : h.get? C = some (XC nm q C N bs bm true sn sub ab col dd k0 k1 k2 k3 k5))
    (hga : Looks (model prog w) h (typeLookup (.ref C) "__getattribute__") (some (.builtin "BaseException.__getattribute__"))) (hnh : Looks (model prog w) h (typeLookup (.ref C) "__getattr__") none)
    (hno : Looks (model prog w) h (typeLookup (.ref C) name) none) (hx : h.get? x = some o) (hc : o.cls = .ref C) (hd : o.data = .fields vs) (hdx : o.dict = some dx) (hn : h.Ns dx m) (hm : m name = some v) (hq : Q v ⟨h, g, d, t + 1, os⟩) (hh : handedOut v = pure v) :
    wpAny (model prog w) A (getAttr (.ref x) name expr) Q E ⟨h, g, d, t, os⟩ := by
  have f3 := F.attr_Exception.ga.bind (.ref x)
  have y0 : (expr && onTheHeap (Value.builtin "BaseException.__getattribute__")) = false := by cases expr <;> rfl
  have y2 : (Value.builtin "BaseException.__getattribute__" == Value.builtin "object.__getattribute__") = false := by decide +kernel
  have y1 : (onTheHeap (Value.ref C) && Value.builtin "BaseException.__getattribute__" == Value.builtin "object.__getattribute__") = false := by rw [y2]; rfl
  unfold getAttr getAttrBy
  repeat (any_goals (first | assumption | (with_reducible refine wpAny_loadPart_at hx ?_; rw [hc]) | refine hga _ _ _ _ (fun _ _ e => e) ?_ | refine hnh _ _ _ _ (fun _ _ e => e) ?_ | wp_step))
  refine codeAny_call_builtin F.attr_Exception.ga.plain F.entry_bexc_ga (xg_check X hC hx hc (xg_entry hC hno hx hc hd hdx hn hm ?_))
  repeat (any_goals (first | assumption | wp_step))
end
end PySem
set_option Elab.async false
set_option linter.all false
set_option maxRecDepth 100000
set_option maxHeartbeats 4000000
namespace L2
open PySem PySem.Spec PyProof.Rows
def exO (C e : Addr) (dx : Option Addr) : Heap → Prop := fun h => ∃ oe vs t0, h.get? e = some oe ∧ oe.cls = .ref C ∧ oe.dict = dx ∧ oe.data = .fields vs ∧ vs[0]? = some (.ref t0) ∧ vs[1]? = some .none
theorem exO_stay {C e : Addr} {dx : Option Addr} : ∀ h1 h2 : Heap, exO C e dx h1 → (∀ o, h1.get? e = some o → h2.get? e = some o) → exO C e dx h2 := fun h1 h2 x k => by
  obtain ⟨oe, vs, t0, e1, r⟩ := x
  exact ⟨oe, vs, t0, k _ e1, r⟩
def CXR (P : Program) (w : World) : CXT := fun outer H s E ev s' => ∃ (e T dx C : Addr) (H' : Hp), ev = .ref e ∧ Fl s'.heap e T (.ref C) (some dx) .none ∧ s'.os = s.os ∧ AllBare s'.gens ∧ Un (frs outer) [] H H' s.heap s'.heap ∧ HOk P w H' s'.heap ∧
  H' e = none ∧ H' T = none ∧ s.heap.objs.size ≤ e ∧ s.heap.objs.size ≤ T ∧ E (.ref C) (some dx) H'
def drop (H : Hp) (e : Addr) : Hp := fun b => if b = e then none else H b
theorem drop_same {H : Hp} {e : Addr} : drop H e e = none := by unfold drop; rw [if_pos rfl]
theorem drop_ne {H : Hp} {e b : Addr} (h : b ≠ e) : drop H e b = H b := by unfold drop; rw [if_neg h]
section
variable {X : Cx} {pins : List (Addr × Obj)} {σ : St} {H : Hp} {s : Shared} {h' : Heap}
theorem Inv.flown {ex : List Addr} {H' : Hp} (I : Inv X pins σ H s) (hX : X.ex = []) (S : Stn (frsOf X.stack) ex s.heap h') (hnew : ∀ b ∈ ex, X.s₀.heap.get? b = none) (h1 : ∀ b, b ∉ ex → H' b = H b) (h2 : ∀ b ∈ ex, H' b = none)
    (h3 : ∀ b ∈ ex, H b = none ∨ ∃ φ, H b = some (.ext φ)) : Un X.fs [] X.H₀ H' X.s₀.heap h' ∧ HOk X.prog X.w H' h' := by
  have nex : ∀ b o, X.s₀.heap.get? b = some o → b ∉ ex := fun b o e hb => by rw [hnew b hb] at e; cases e
  have stk : ∀ b, b ∈ frsOf X.stack → b = X.env.locals ∨ b ∈ X.fs := fun b hb => List.mem_cons.mp (I.stkSub b hb)
  have nL : ∀ b o, X.s₀.heap.get? b = some o → b ≠ X.env.locals := fun b o e => Nat.ne_of_lt (Nat.lt_of_lt_of_le (Heap.lt_size e) I.ok.above)
  have nx : ∀ b : Addr, b ∉ X.ex := fun b z => by rw [hX] at z; cases z
  have up : ∀ b o, b ∉ ex → s.heap.get? b = some o → ∃ sl, h'.get? b = some { o with slots := sl } := fun b o hb e => by
    by_cases hf : b ∈ frsOf X.stack
    · exact S.slot b o hb hf e
    · exact ⟨o.slots, S.keep b o hb hf e⟩
  refine ⟨⟨fun b o e n hb _ => ?_, fun b o e n hb _ => ?_, fun b o e n _ => ?_, fun b o e _ => ?_, fun b xs e => ?_, fun b o u e => ?_, fun b ps e => ?_⟩, fun b u q => ?_⟩
  · refine S.keep b o (nex b o e) (fun hf => ?_) (I.base.keep b o e n hb (nx b))
    rcases stk b hf with z | z
    · exact nL b o e z
    · exact hb z
  · obtain ⟨sl, e1⟩ := I.base.slot b o e n hb (nx b)
    obtain ⟨sl', e2⟩ := up b _ (nex b o e) e1
    exact ⟨sl', e2⟩
  · rw [h1 b (nex b o e)]
    exact I.base.free b o e n (nx b)
  · obtain ⟨o', e1⟩ := I.base.there b o e (nx b)
    obtain ⟨sl, e2⟩ := up b o' (nex b o e) e1
    exact ⟨_, e2⟩
  · have q := I.base.tups b xs e
    rw [h1 b (fun hb => by rcases h3 b hb with z | ⟨φ, z⟩ <;> rw [z] at q <;> cases q)]
    exact q
  · have q := I.base.frzs b o u e
    rw [h1 b (fun hb => by rcases h3 b hb with z | ⟨φ, z⟩ <;> rw [z] at q <;> cases q)]
    exact q
  · obtain ⟨more, q⟩ := I.base.tbls b ps e
    refine ⟨more, ?_⟩
    rw [h1 b (fun hb => by rcases h3 b hb with z | ⟨φ, z⟩ <;> rw [z] at q <;> cases q)]
    exact q
  · have hb : b ∉ ex := fun hb => by rw [h2 b hb] at q; cases q
    have q' : H b = some u := by rw [← h1 b hb]; exact q
    have trk : ∀ c v, H c = some v → c ∉ frsOf X.stack := fun c v z hf => by rw [I.stkFree c hf] at z; cases z
    have own : ∀ c, H c = some (.own b) → c ∉ ex := fun c z hc => by rcases h3 c hc with y | ⟨φ, y⟩ <;> rw [y] at z <;> cases z
    have tup : ∀ c xs, H c = some (.tup xs) → c ∉ ex := fun c xs z hc => by rcases h3 c hc with y | ⟨φ, y⟩ <;> rw [y] at z <;> cases z
    refine (I.hok b u q').stay (fun c v hc z => ?_) (fun c z => by rw [h1 c (own c z)]; exact z) fun c xs z => by rw [h1 c (tup c xs z)]; exact z
    rcases hc with y | y
    · subst y; exact S.keep c v hb (trk c u q') z
    · exact S.keep c v (own c y) (trk c _ y) z
end
section
variable {P : Program} {w : World} {K : PySem.W.Frag} {mg : Str → Option Value} {base : Heap} {N : List Str} {qual : Str} {scope : Scope} {f : Addr} {cd : Value} {A : Around} {outer : List Env} {s₀ : Shared} {H₀ : Hp} {E : XK}
theorem passR : Passes (CXR P w) (cxOf (CXR P w) P w K mg base N qual scope f cd A outer s₀ H₀ E) E := by
  intro pins σ H s ev s' I h
  obtain ⟨e, T, dx, C, H', rfl, F, os, bare, un, hok, he, hT, ne, nT, q⟩ := h
  have I' : Inv (cxOf (CXR P w) P w K mg base N qual scope f cd A outer s₀ H₀ E) pins σ H' s' := I.call' (ch := []) os un hok bare (fun b z => absurd z (by simp))
  show wpAny (model P w) _ (leaving _ (.ref e)) _ _ s'
  refine fl_leave_next (base := base) (outer := outer) I'.ok.frames I'.stack rfl F fun h' T' S hz F' => ?_
  have z0 : s₀.heap.objs.size ≤ e := Nat.le_trans I.sz ne
  have z1 : s₀.heap.objs.size ≤ T := Nat.le_trans I.sz nT
  have n0 : s₀.heap.get? e = none := Heap.get?_none_of_le z0
  have n1 : s₀.heap.get? T = none := Heap.get?_none_of_le z1
  obtain ⟨u1, u2⟩ := I'.flown (H' := H') (ex := [e, T]) rfl S (fun b hb => by
    have hb' : b = e ∨ b = T := by simpa using hb
    rcases hb' with z | z <;> subst z <;> assumption) (fun b _ => rfl) (fun b hb => by
    have hb' : b = e ∨ b = T := by simpa using hb
    rcases hb' with z | z <;> subst z <;> assumption) (fun b hb => by
    have hb' : b = e ∨ b = T := by simpa using hb
    rcases hb' with z | z <;> subst z <;> (left; assumption))
  exact ⟨e, T', dx, C, H', rfl, F', I'.os, I'.bare, u1, u2, he, I'.hok.fresh hz, z0, Nat.le_trans I'.sz hz, q⟩
theorem leaveR {pins : List (Addr × Obj)} {σ : St} {H : Hp} {s : Shared} {e C dx : Addr} (I : Inv (cxOf (CXR P w) P w K mg base N qual scope f cd A outer s₀ H₀ E) pins σ H s) (he : H e = some (.ext (exO C e (some dx)))) (hz0 : s₀.heap.objs.size ≤ e)
    (q : E (.ref C) (some dx) (drop H e)) : (cxOf (CXR P w) P w K mg base N qual scope f cd A outer s₀ H₀ E).xe (.ref e) s := by
  obtain ⟨⟨oe, vs, t0, e1, e2, e3, e4, e5, e6⟩, _, _⟩ := I.hok e _ he
  have hn : s₀.heap.get? e = none := Heap.get?_none_of_le hz0
  show wpAny (model P w) _ (leaving _ (.ref e)) _ _ s
  refine fl_leave_first (base := base) (outer := outer) I.ok.frames I.stack rfl e1 e4 e6 fun h' T' S hz F' => ?_
  obtain ⟨u1, u2⟩ := I.flown (H' := drop H e) (ex := [e]) rfl S (fun b hb => by
    obtain rfl : b = e := by simpa using hb
    exact hn) (fun b hb => drop_ne (fun z => hb (by simp [z]))) (fun b hb => by
    obtain rfl : b = e := by simpa using hb
    exact drop_same) (fun b hb => by
    obtain rfl : b = e := by simpa using hb
    exact .inr ⟨_, he⟩)
  rw [e2, e3] at F'
  have hT : drop H e T' = none := by
    by_cases z : T' = e
    · rw [z]; exact drop_same
    · rw [drop_ne z]; exact I.hok.fresh hz
  exact ⟨e, T', dx, C, _, rfl, F', I.os, I.bare, u1, u2, drop_same, hT, hz0, Nat.le_trans I.sz hz, q⟩
end
end L2
set_option Elab.async false
set_option linter.all false
set_option maxRecDepth 100000
set_option maxHeartbeats 4000000
namespace L2
open PySem PySem.Spec PyProof.Rows
structure XCls (K : PySem.W.Frag) (R C : Addr) : Prop where
  obj : ∃ nm q N bs bm sn sub ab col dd k0 k1 k2 k3 k5, K.lookup C = some (XC nm q C N bs bm true sn sub ab col dd k0 k1 k2 k3 k5) ∧ XMro bm ∧ bm.contains (.type "object") = true ∧ (Value.ref C :: bm).contains (.ref R) = true ∧ ∀ x : Addr, refuseLoop (.ref x) "__setattr__" bm = pure ()
  ga : PySem.W.findIn K (.ref C) "__getattribute__" = some (some (.builtin "BaseException.__getattribute__"))
  gh : PySem.W.findIn K (.ref C) "__getattr__" = some none
  sa : PySem.W.findIn K (.ref C) "__setattr__" = some (some (.builtin "object.__setattr__"))
  nw : PySem.W.findIn K (.ref C) "words" = some none
  kp : PySem.W.keepIn K (.ref C) = true
section
variable {X : Cx} {pins : List (Addr × Obj)} {σ : St} {H : Hp} {s : Shared}
def tRaise (C : Addr) (sp : Sp) (E : XK) : TS := fun _ _ H => ∀ e, H e = none → sp [.ref e] (upd H e (.ext (exO C e none))) (fun v H2 => v = .non ∧ ∃ dx, H2 e = some (.ext (exO C e (some dx))) ∧ E (.ref C) (some dx) (drop H2 e)) E0
end
section
variable {P : Program} {w : World} {K : PySem.W.Frag} {mg : Str → Option Value} {base : Heap} {N : List Str} {qual : Str} {scope : Scope} {f : Addr} {cd : Value} {A : Around} {outer : List Env} {s₀ : Shared} {H₀ : Hp} {E : XK}
  {R C fI : Addr} {fdI : FuncData} {k : Nat} {spI : Sp} {x : Str} {np cpos pos : Pos}
theorem ps_raise (Y : XCls K R C) (hinit : PySem.W.findIn K (.ref C) "__init__" = some (some (.ref fI))) (hfn : PySem.W.isFn K (.ref fI) = true) (FI : FnOk P w K mg base CX0 k fI fdI ["self"] spI) (hb : Binds K fdI ["self"] [])
    (hr : Room (k + 1) (cxOf (CXR P w) P w K mg base N qual scope f cd A outer s₀ H₀ E).A) (hg : Gl (cxOf (CXR P w) P w K mg base N qual scope f cd A outer s₀ H₀ E) x) (hm : mg x = some (.ref C)) (hdb : (x == ("__debug__" : Str)) = false := by decide) :
    PS (cxOf (CXR P w) P w K mg base N qual scope f cd A outer s₀ H₀ E) (.Raise (some (.Call (.Name x np) [] [] cpos)) none pos) (tRaise C spI E) := by
  intro pins s σ H D I h
  obtain ⟨nm, q, N', bs, bm, sn, sub, ab, col, dd, k0, k1, k2, k3, k5, hC, XM, _, _, _⟩ := Y.obj
  rw [arm_exec_Raise]
  refine wpAny_bind (wpAny_standAt ?_)
  refine xc_raise (C := C) (nm := nm) (q := q) (N := N') (bs := bs) (bm := bm) (hdct := true) (sn := sn) (sub := sub) (ab := ab) (col := col) (dd := dd) (k0 := k0) (k1 := k1) (k2 := k2) (k3 := k3) (k5 := k5) XM (I.ok.hd rfl) ?_
  refine wpAny_bind (thn (wpAny_Call_ofName (ld_glob I hg hm ?_ hdb)) fun v s3 h3 => wpAny_bind (wpAny_standAt (wpAny_pure h3)))
  refine PySem.W.callWith_K0 I.kIn Y.kp ?_
  obtain ⟨hp, g, d, t, os⟩ := s
  have tf : PySem.W.typeIn K (.ref fI) = some (.type "function") := beq_iff_eq.mp hfn
  obtain ⟨oI, lI, cI⟩ := Option.map_eq_some_iff.mp tf
  have KI : K.In hp := I.kIn
  refine xc_call (KI _ _ hC) XM (fun B h' Q' kk qq => PySem.W.looks_findIn KI hinit B Q' _ ⟨h', g, d, t, os⟩ kk qq) (KI _ _ lI) cI (fun h' e hz hmk => ?_) (by decide)
  have hez : H e = none := I.hok.fresh hz
  obtain ⟨t0, he, htn, ht⟩ := hmk.there
  have I2 : Inv (cxOf (CXR P w) P w K mg base N qual scope f cd A outer s₀ H₀ E) pins σ (upd H e (.ext (exO C e none))) ⟨h', g, d, t, os⟩ :=
    I.laid (t' := t) hmk.keeps hz ⟨⟨_, _, t0, he, rfl, rfl, rfl, rfl, rfl⟩, ⟨_, he⟩, exO_stay⟩
  have hsp := h e hez
  refine wpAny_call (codeAny_mono (FI.run _ _ _ _ ⟨[.ref e], []⟩ [.ref e] [.ref e] _ E0 (hr.make C [] []) (I2.env0.make C [] []) (hb _ [.ref e] I2.kIn rfl) (.cons rfl .nil) hsp) fun r s' hq' => ?_)
  cases r with
  | error ev => exact False.elim hq'
  | ok fl =>
    cases fl with
    | ret u =>
      obtain ⟨v, H3, I3, rv, ev, dx, q3, q4⟩ := I2.after hq'
      subst ev
      obtain ⟨⟨oe, vs, t1, e1, e2, e3, e4, e5, e6⟩, _, _⟩ := I3.hok e _ q3
      exact ⟨rv, e, oe, vs, rfl, I3.kIn _ _ hC, e1, e2, e4, e6, leaveR I3 q3 (Nat.le_trans I.sz hz) q4⟩
    | next => exact False.elim hq'
    | brk => exact False.elim hq'
    | cont => exact False.elim hq'
end
theorem exc_special : specialOf (.type "Exception") "__getattribute__" = pure (some (.builtin "type.__getattribute__")) := by
  unfold specialOf
  rw [show typeOf (.type "Exception") = pure (.type "type") from by kernel_rfl]
  show typeLookup (.type "type") "__getattribute__" = _
  rw [typeLookup_type, builtinLookup_eq_fast]
  kernel_rfl
theorem exc_typeOf : typeOf (.type "Exception") = pure (.type "type") := by kernel_rfl
theorem exc_opaque : opaqueClassAbove (.type "Exception") = pure none := by kernel_rfl
theorem exc_hook : hookBefore (.type "type") = pure none := by rfl
section
variable {X : Cx} {R : Addr}
def tExcInit (K : PySem.W.Frag) (R : Addr) (t : TA) : TE := fun σ H Q => t σ H fun vs H1 => ∃ e C dx v, vs = [.ref e, v] ∧ H1 e = some (.ext (exO C e dx)) ∧ XCls K R C ∧ Q .non H1
theorem pe_excInit {a1 a2 : Expr} {t : TA} {p ap pos : Pos} {pl : Sem Bool} (hg : Gl X "Exception") (hm : X.mg "Exception" = none) (ha : PA X [a1, a2] t) (h1 : starred a1 = false := by rfl) (h2 : starred a2 = false := by rfl)
    (hf1 : PySem.W.findIn X.K (.type "type") "__getattribute__" = some (some (.builtin "type.__getattribute__")) := by rfl) (hf2 : PySem.W.subIn X.K (.type "type") (.type "type") = some true := by rfl) (hf3 : PySem.W.findCls X.K (.type "Exception") (.type "type") "__init__" = some (.val (.builtin "Exception.__init__")) := by rfl)
    (ht : eval (.Call (.Attribute (.Name "Exception" p) "__init__" ap) [a1, a2] [] pos) X.env = (do
      let ov ← eval (.Name "Exception" p) X.env
      standAt ap.atName
      let (f, first) ← holding [ov] (getMethod ov "__init__" pl)
      callWith pos f first (backTo pos (starEach [a1, a2] X.env)) (backToKw pos (keywordEach [] X.env))) := by rfl) : PE X (.Call (.Attribute (.Name "Exception" p) "__init__" ap) [a1, a2] [] pos) (tExcInit X.K R t) := by
  intro pins s σ H Q I h
  refine PySem.W.methodCall_KW (pl := pl) (ld_blt I hg hm PyProof.Rows.Boot.«Exception» ?_) ht
  unfold getMethod
  rw [exc_special]
  refine wpAny_bind (wpAny_pure ?_)
  dsimp only
  rw [if_pos PySem.W.canon_tga]
  refine wpAny_bind ?_
  refine PySem.W.cls_open I.kIn (.of_pure exc_opaque) (.of_pure exc_typeOf) hf1 (.of_pure exc_hook) hf2 hf3 ?_
  refine wpAny_pure ?_
  show wpAny _ _ (handedOut (.builtin "Exception.__init__")) _ _ _
  rw [PySem.W.handedOut_of rfl]
  refine wpAny_pure (wpAny_pure ?_)
  have I0 : Inv X pins σ H { s with toks := s.toks + 1 } := I.tok _
  refine PyProof.Rows.callWith_builtin1 (thn (ha pos pins _ σ H _ I0 h) fun us s1 ⟨vs, H1, I1, r1, q1⟩ => ?_) (star_cons h1) (by rw [star_cons h2]; rfl)
  obtain ⟨e, C, dx, v, rfl, he, Y, q⟩ := q1
  obtain ⟨u1, u2, rfl, r2, r3⟩ := r1.two
  obtain rfl : u1 = Value.ref e := r2
  obtain ⟨nm, q', N', bs, bm, sn, sub, ab, col, dd, k0, k1, k2, k3, k5, hC, XM, _, _, _⟩ := Y.obj
  obtain ⟨⟨oe, vs, t0, e1, e2, e3, e4, e5, e6⟩, _, _⟩ := I1.hok e _ he
  obtain ⟨hp, g, d, tk, os⟩ := s1
  have KI : X.K.In hp := I1.kIn
  refine xc_init (KI _ _ hC) XM e1 e2 e4 e5 ?_ (show 1 ≤ sizeLine by decide)
  have y1 := Heap.get?_push_of_some (h := hp) { cls := .type "tuple", data := .seq [u2].toArray } e1
  have y2 := Obj.data_mapFields e4 (·.setIfInBounds 0 (Value.ref hp.objs.size))
  have y3 := Heap.get?_update_self (Obj.mapFields (·.setIfInBounds 0 (Value.ref hp.objs.size))) y1 (Obj.isFreed_of_fields y2)
  have y4 : 0 < vs.size := (Array.getElem?_eq_some_iff.mp e5).1
  have eH : upd H1 e (.ext (exO C e dx)) = H1 := by
    funext b
    unfold upd
    split
    · rename_i z; rw [z]; exact he.symm
    · rfl
  have I2 := I1.write (x := e) (e := e) (o := .ext (exO C e dx)) (t' := tk) (h' := (hp.push { cls := .type "tuple", data := .seq [u2].toArray }).update e (Obj.mapFields (·.setIfInBounds 0 (Value.ref hp.objs.size)))) (by rw [he]; trivial) (.inl rfl)
    (fun b u hb q => by rw [Heap.get?_update_other _ _ (Ne.symm hb)]; exact Heap.get?_push_of_some _ q) ⟨_, y3⟩
    ⟨⟨_, _, hp.objs.size, y3, (Obj.cls_mapFields _ _).trans e2, (Obj.dict_mapFields _ _).trans e3, y2, by simp [y4], by rw [Array.getElem?_setIfInBounds_ne (by decide)]; exact e6⟩, ⟨_, y3⟩, exO_stay⟩
  rw [eH] at I2
  exact ⟨.non, H1, I2, rfl, q⟩
def sWords (K : PySem.W.Frag) (R : Addr) (ta tv : TE) : TS := fun D σ H => tv σ H fun y H1 => ta σ H1 fun x H2 => ∃ e C, x = .ref e ∧ H2 e = some (.ext (exO C e none)) ∧ XCls K R C ∧
  ∀ dx, H2 dx = none → dx ≠ e → D.nx σ (upd (upd H2 dx (.xd [("words", y)])) e (.ext (exO C e (some dx))))
theorem ps_words {o value : Expr} {ta tv : TE} {pos pos' : Pos} (ha : PE X o ta) (hv : PE X value tv) (hs : swapsWith value (some (.Attribute o "words" pos')) pos.line X.env = pure false := by rfl) : PS X (.Assign [.Attribute o "words" pos'] value pos) (sWords X.K R ta tv) := by
  intro pins s σ H D I h
  refine plainObj_wpAny_Assign_Attribute (thn (hv pins s σ H _ I h) fun u s1 ⟨y, H1, I1, ry, q⟩ => thn (ha pins s1 σ H1 _ I1 q) fun ov s2 ⟨x, H2, I2, rx, e, C, ex, he, Y, q2⟩ => ?_) hs
  subst ex
  obtain rfl : ov = Value.ref e := rx
  obtain ⟨nm, q', N', bs, bm, sn, sub, ab, col, dd, k0, k1, k2, k3, k5, hC, XM, hob, _, hpass⟩ := Y.obj
  obtain ⟨⟨oe, vs, t0, e1, e2, e3, e4, e5, e6⟩, _, _⟩ := I2.hok e _ he
  obtain ⟨hp, g, d, tk, os⟩ := s2
  have KI : X.K.In hp := I2.kIn
  refine xs_attr hob (hpass e) (KI _ _ hC) (PySem.W.looks_findIn KI Y.sa) (PySem.W.looks_findIn KI Y.nw) e1 e2 e3 (fun c z => by rw [e4] at z; cases z) fun h' tk' kk hx hn => ?_
  have hz : H2 hp.objs.size = none := I2.hok.fresh (Nat.le_refl _)
  have nz : hp.objs.size ≠ e := Nat.ne_of_gt (Heap.lt_size e1)
  obtain ⟨on, esn, epn, en, rn⟩ := hn
  have I3 : Inv X pins σ (upd H2 hp.objs.size (.xd [("words", y)])) ⟨hp.push on, g, d, tk', os⟩ :=
    I2.laid (t' := tk') (fun b u q => Heap.get?_push_of_some _ q) (Nat.le_refl _) ⟨fun z => if z = ("words" : Str) then some u else none, ⟨on, esn, epn, Heap.get?_push_size _ ((Heap.get?_some_iff.mp en).2), rn⟩, fun f => ?_⟩
  · have I4 := I3.write (x := e) (e := e) (o := .ext (exO C e (some hp.objs.size))) (t' := tk') (h' := h') (by rw [upd_ne (Ne.symm nz), he]; trivial) (.inl rfl) (fun b u' hb q => ?_) ⟨_, hx⟩ ⟨⟨_, vs, t0, hx, e2, rfl, e4, e5, e6⟩, ⟨_, hx⟩, exO_stay⟩
    · exact ⟨σ, _, I4, q2 _ hz nz⟩
    · by_cases z : b = hp.objs.size
      · subst z
        have : (hp.push on).get? hp.objs.size = some on := Heap.get?_push_size _ ((Heap.get?_some_iff.mp en).2)
        rw [this] at q
        cases q
        exact en
      · refine kk b u' hb ?_
        rw [Heap.get?_push_ne _ _ _ z] at q
        exact q
  · by_cases z : f = ("words" : Str)
    · subst z
      simp [List.lookup, RelO, ry]
    · have z' : (f == ("words" : Str)) = false := by simpa using z
      simp [List.lookup, z, z', RelO]
structure CFn (K : PySem.W.Frag) (C : Addr) (m : Str) (f : Addr) : Prop where
  sp : PySem.W.specialIn K (.ref C) "__getattribute__" = some (some (.builtin "type.__getattribute__"))
  rd : PySem.W.readsIn K C (.type "type") = true
  fc : PySem.W.findCls K (.ref C) (.type "type") m = some (.val (.ref f))
  fn : PySem.W.isFn K (.ref f) = true
  kp : PySem.W.keepIn K (.ref f) = true
theorem pe_clsFn {CX : CXT} {k : Nat} {C f : Addr} {fd : FuncData} {ps : List Str} {sp : Sp} {dvs : List V} {ds : List Value} {E : XK} {x m : Str} {p ap pos : Pos} {e : Expr} {es : List Expr} {t : TA} {pl : Sem Bool}
    (Y : CFn X.K C m f) (F : FnOk X.prog X.w X.K X.mg X.base CX k f fd ps sp) (hr : Room k X.A) (hg : Gl X x) (hm : X.mg x = some (.ref C)) (hb : Binds X.K fd ps ds) (hd : Vals dvs ds) (hx : Passes CX X E) (ha : PA X (e :: es) t)
    (h1 : starred e = false := by rfl) (h2 : es.any starred = false := by rfl) (hdb : (x == ("__debug__" : Str)) = false := by decide)
    (ht : eval (.Call (.Attribute (.Name x p) m ap) (e :: es) [] pos) X.env = (do
      let ov ← eval (.Name x p) X.env
      standAt ap.atName
      let (f, first) ← holding [ov] (getMethod ov m pl)
      callWith pos f first (backTo pos (starEach (e :: es) X.env)) (backToKw pos (keywordEach [] X.env))) := by rfl) : PE X (.Call (.Attribute (.Name x p) m ap) (e :: es) [] pos) (tCall sp dvs E t) := by
  intro pins s σ H Q I h
  refine PySem.W.methodCall_KW (pl := pl) (ld_glob I hg hm ?_ hdb) ht
  have I0 : Inv X pins σ H { s with toks := s.toks + 1 } := I.tok _
  refine PySem.W.method_cls I.kIn Y.sp (PySem.W.cls_value I.kIn Y.rd Y.fc rfl ?_)
  refine PySem.W.callWith_K (h₀ := X.base) I.ok.mod.kin Y.kp (thn (ha pos pins _ σ H _ I0 h) fun us s1 ⟨vs, H1, I1, r, q⟩ => ⟨I1.kIn, ?_⟩) (star_cons h1) (star_any h2)
  exact run_fn F hr hb hd hx I1 r q
end
end L2
set_option Elab.async false
set_option linter.all false
set_option maxRecDepth 100000
set_option maxHeartbeats 4000000
namespace L2
open PySem PySem.Spec PyProof.Rows
section
variable {X : Cx} {pins : List (Addr × Obj)} {σ : St} {H : Hp} {s : Shared} {h' : Heap}
theorem Inv.stn {ch : List Addr} (I : Inv X pins σ H s) (S : Stn (frsOf X.stack) ch s.heap h') (hf : ∀ b ∈ ch, FpOk X pins H b) : Inv X pins σ H { s with heap := h' } := by
  have nch : ∀ b v, H b = some v → b ∉ ch := fun b v z hb => by rw [(hf b hb).1] at z; cases z
  have trk : ∀ b v, H b = some v → b ∉ frsOf X.stack := fun b v z hb => by rw [I.stkFree b hb] at z; cases z
  refine I.call' (s' := { s with heap := h' }) (ch := ch) rfl ⟨fun b o e n hb hx => S.keep b o hx hb e, fun b o e n hb hx => S.slot b o hx hb e, fun b o e n hx => n, fun b o e hx => ?_, fun _ _ z => z, fun _ _ _ z => z, fun b ps z => ⟨#[], by rw [z]; simp⟩⟩ (fun b u q => ?_) I.bare fun b hb => ?_
  · by_cases hb : b ∈ frsOf X.stack
    · obtain ⟨sl, q⟩ := S.slot b o hx hb e
      exact ⟨_, q⟩
    · exact ⟨o, S.keep b o hx hb e⟩
  · refine (I.hok b u q).stay (fun c v hc z => ?_) (fun _ z => z) fun _ _ z => z
    rcases hc with y | y
    · subst y; exact S.keep c v (nch c u q) (trk c u q) z
    · exact S.keep c v (nch c _ y) (trk c _ y) z
  · obtain ⟨f0, f1, f2, f3, f4, f5⟩ := hf b hb
    exact ⟨f3, f1, f4, f5⟩
theorem Inv.forget {t' : Nat} {m' : Str → Option Value} (I : Inv X pins σ H s) (sb : Heap.SameBut X.env.locals s.heap h') (hn : h'.Ns X.env.locals m') : Inv X pins (List.replicate X.N.length none) H { s with heap := h', toks := t' } := by
  have nL : ∀ b o, X.s₀.heap.get? b = some o → b ≠ X.env.locals := fun b o e => Nat.ne_of_lt (Nat.lt_of_lt_of_le (Heap.lt_size e) I.ok.above)
  have trk : ∀ b v, H b = some v → b ≠ X.env.locals := fun b v z y => by rw [y, I.free] at z; cases z
  refine ⟨I.ok, I.os, I.bare, ⟨fun b o e n hb hx => (sb.2 b (nL b o e)).trans (I.base.keep b o e n hb hx), fun b o e n hb hx => ?_, I.base.free, fun b o e hx => ?_, I.base.tups, I.base.frzs, I.base.tbls⟩, ⟨m', hn, fun i x v h1 h2 h3 => ?_⟩, fun y c e => ?_, I.free, I.freeC, fun p hp => ?_, fun b u q => ?_, by simp⟩
  · obtain ⟨sl, e1⟩ := I.base.slot b o e n hb hx
    exact ⟨sl, (sb.2 b (nL b o e)).trans e1⟩
  · obtain ⟨o', e1⟩ := I.base.there b o e hx
    exact ⟨o', (sb.2 b (nL b o e)).trans e1⟩
  · rw [List.getElem?_replicate] at h2
    split at h2 <;> cases h2
  · obtain ⟨v, z⟩ := I.cell y c e
    exact ⟨v, z.sameBut sb (I.cne y c e)⟩
  · obtain ⟨e, n, ne, nf, d⟩ := I.pin p hp
    exact ⟨(sb.2 p.1 ne).trans e, n, ne, nf, d⟩
  · refine (I.hok b u q).stay (fun c v hc z => (sb.2 c ?_).trans z) (fun _ z => z) fun _ _ z => z
    rcases hc with y | y
    · subst y; exact trk c u q
    · exact trk c _ y
def Cx.marked (X : Cx) (v : Value) : Cx := { X with A := X.A.mark (some v), calm := false, xe := fun _ _ => False }
theorem Inv.marked (I : Inv X pins σ H s) (v : Value) : Inv (X.marked v) pins σ H s :=
  ⟨⟨I.ok.mod, I.ok.kind, I.ok.glob, I.ok.blt, I.ok.above, I.ok.inj, I.ok.has, I.ok.cab, (fun z => by cases z), I.ok.frames, I.ok.stk, I.ok.exf, I.ok.bs, I.ok.bsz, I.ok.noex, I.ok.exfs, I.ok.funs, I.ok.frf⟩, I.os, I.bare, I.base, I.loc, I.cell, I.free, I.freeC, I.pin, I.hok, I.len⟩
theorem Inv.unmarked {v : Value} (I : Inv (X.marked v) pins σ H s) (ok : X.Ok) : Inv X pins σ H s :=
  ⟨ok, I.os, I.bare, I.base, I.loc, I.cell, I.free, I.freeC, I.pin, I.hok, I.len⟩
theorem Inv.pinsIn {xe : Value → Shared → Prop} (I : Inv X pins σ H s) : Inv { X with pn := X.pn ++ pins, xe := xe } [] σ H s :=
  ⟨⟨I.ok.mod, I.ok.kind, I.ok.glob, I.ok.blt, I.ok.above, I.ok.inj, I.ok.has, I.ok.cab, I.ok.hd, I.ok.frames, I.ok.stk, I.ok.exf, I.ok.bs, I.ok.bsz, I.ok.noex, I.ok.exfs, I.ok.funs, I.ok.frf⟩, I.os, I.bare, I.base, I.loc, I.cell, I.free, I.freeC, fun p hp => I.pin p (by simpa using hp), I.hok, I.len⟩
theorem Inv.pinsOut {xe : Value → Shared → Prop} {pl : List (Addr × Obj)} (ok : X.Ok) (I : Inv { X with pn := X.pn ++ pins, xe := xe } pl σ H s) : Inv X pins σ H s :=
  ⟨ok, I.os, I.bare, I.base, I.loc, I.cell, I.free, I.freeC, fun p hp => I.pin p (List.mem_append_left _ hp), I.hok, I.len⟩
end
section
variable {M : Model} {A : Around} {E : Value → Shared → Prop} {h : Heap} {g : Array GenState} {d : Drawn} {t : Nat} {os : OsState}
variable {nm q nm' q' : Str} {C N R N' : Addr} {bs bm bs' bm' : List Value} {hdct hdct' : Bool} {sn sn' : List Str} {sub sub' : List Value} {ab ab' : Bool} {col col' : Option Bool} {dd dd' : Option Addr} {k0 k1 k2 k3 k5 l0 l1 l2 l3 l5 : Option Value}
theorem xm_match {e : Addr} {oe : Obj} {Q : Bool → Shared → Prop} (hC : h.get? C = some (XC nm q C N bs bm hdct sn sub ab col dd k0 k1 k2 k3 k5)) (hR : h.get? R = some (XC nm' q' R N' bs' bm' hdct' sn' sub' ab' col' dd' l0 l1 l2 l3 l5)) (XR : XMro bm')
    (he : h.get? e = some oe) (hcls : oe.cls = .ref C) (hin : (Value.ref C :: bm).contains (.ref R) = true) (hq : Q true ⟨h, g, d, t, os⟩) : wpAny M A (excMatches (.ref e) (.ref R)) Q E ⟨h, g, d, t, os⟩ := by
  have y1 := xc_cons (C := R) (v := .type "BaseException") rfl XR.bas
  have f := tc_notTuple
  unfold excMatches
  repeat (first | (with_reducible refine wpAny_loadPart_at he ?_; rw [hcls]) | with_reducible refine wpAny_loadPart_at hR ?_ | (with_reducible refine wpAny_isSubtype_exc hR ?_; rw [y1]) | (with_reducible refine wpAny_isSubtype_exc hC ?_; rw [hin]) | wp_step)
  exact hq
end
def EWords (K : PySem.W.Frag) (R : Addr) (Q : VK) : XK := fun cls dxo H' => ∃ C dx t, cls = .ref C ∧ dxo = some dx ∧ XCls K R C ∧ H' dx = some (.xd [("words", .str t)]) ∧ Q (.str t) H'
def tTry (K : PySem.W.Frag) (R : Addr) (te : XK → TE) : TS := fun D σ H => te (EWords K R D.rt) σ H D.rt
section
variable {X : Cx} {R : Addr} {e : Expr} {te : XK → TE} {i : Nat} {x n : Str} {np p1 p2 p3 hp rp pos : Pos}
theorem ps_tryWords (hc : X.calm = true) (hst : X.stack = X.env :: X.outer) (hfr : X.env.frame = some X.env.locals)
    (hbody : ∀ (pn : List (Addr × Obj)) (xe : Value → Shared → Prop) (E : XK), Passes (CXR X.prog X.w) { X with pn := pn, xe := xe } E → PE { X with pn := pn, xe := xe } e (te E))
    (hg : Gl X x) (hm : X.mg x = some (.ref R)) (YR : XCls X.K R R) (hN : X.N.Nodup) (hi : X.N[i]? = some n) (hl : X.env.scope.names.lookup n = some .local) (hdb : (x == ("__debug__" : Str)) = false := by decide)
    (hd1 : (n == ("__debug__" : Str)) = false := by decide) (hd2 : (n == ("__classdict__" : Str)) = false := by decide) (hab : attributeBase (.Name n p1) "words" X.env (eval (.Name n p1) X.env) = eval (.Name n p1) X.env := by rfl) :
    PS X (.Try [.Return (some e) rp] [.ExceptHandler (some (.Name x np)) (some n) [.Return (some (.Attribute (.Name n p1) "words" p2)) p3] hp] [] [] pos) (tTry X.K R te) := by
  intro pins s σ H D I h
  have hcls : (X.env.scope.kind == .class || (X.env.scope.kind == .module && X.env.locals != X.env.globals)) = false := by rw [I.ok.kind]; rfl
  let Ex : Value → Shared → Prop := fun ev s' => ∃ e T dx C σ' H', ev = .ref e ∧ Fl s'.heap e T (.ref C) (some dx) .none ∧ Inv X pins σ' H' s' ∧ FpOk X pins H' e ∧ FpOk X pins H' T ∧ EWords X.K R D.rt (.ref C) (some dx) H'
  have pas : Passes (CXR X.prog X.w) { X with pn := X.pn ++ pins, xe := Ex } (EWords X.K R D.rt) := by
    intro pl σ1 H1 s1 ev s' I1 hq
    obtain ⟨e, T, dx, C, H', rfl, F, os, bare, un, hok, he, hT, ze, zT, q⟩ := hq
    have I1x : Inv X pins σ1 H1 s1 := Inv.pinsOut I.ok I1
    have I2 : Inv X pins σ1 H' s' := I1x.call' (ch := []) os un hok bare (fun b z => absurd z (by simp))
    exact ⟨e, T, dx, C, σ1, H', rfl, F, I2, I1x.fpOk ze he, I1x.fpOk zT hT, q⟩
  have hb := hbody (X.pn ++ pins) Ex _ pas [] s σ H D.rt I.pinsIn h
  refine wpAny_Try_except (wpAny_execs_cons (wpAny_Return_some (wpAny_mono hb (fun u s1 hq => ?_) fun ev s1 hq => ?_)))
  · obtain ⟨v, H1, I1, r1, q1⟩ := hq
    exact ⟨v, σ, H1, Inv.pinsOut I.ok I1, r1, q1⟩
  obtain ⟨e, T, dx, C, σ1, H1, rfl, F, I1, fe, fT, C', dx', t, ec, edx, YC, hxd, q⟩ := hq
  cases ec
  cases edx
  have fr : X.A.frames = some (X.env :: X.outer) := by rw [← hst]; exact I1.ok.frames
  have ff : s1.heap.FunFrames X.base (X.env :: X.outer) := by rw [← hst]; exact I1.stack
  refine fl_note_next (base := X.base) fr ff hfr F fun h2 T2 S2 hz2 F2 => ?_
  have fT2 : FpOk X pins H1 T2 := I1.fpOk hz2 (I1.hok.fresh hz2)
  have I2 : Inv X pins σ1 H1 { s1 with heap := h2 } := I1.stn (ch := [e, T]) (by rw [hst]; exact S2) fun b hb => by
    have hb' : b = e ∨ b = T := by simpa using hb
    rcases hb' with z | z <;> subst z <;> assumption
  refine fl_set (s := { s1 with heap := h2 }) F2 fun h3 k3 F3 => ?_
  have I3 : Inv X pins σ1 H1 { s1 with heap := h3 } := I2.turned1 (t' := s1.toks) (fun b u hb z => (k3 b hb).trans z) fT2
  obtain ⟨nm, q', N', bs, bm, sn, sub, ab, col, dd, k0, k1, k2, k3', k5, hC, XM, _, hin, _⟩ := YC.obj
  obtain ⟨nmR, qR, NR, bsR, bmR, snR, subR, abR, colR, ddR, l0, l1, l2, l3, l5, hR, XMR, _, _, _⟩ := YR.obj
  have K3 : X.K.In h3 := I3.kIn
  obtain ⟨⟨oe, vs, oT, ts, e1, e2, e3, e4, e5, e6, e7, e8⟩, ne⟩ := id F3
  refine wpAny_handleBy_cons (codeAny_handlers_test ?_) (by intro z; cases z)
  refine ld_glob (X := X.marked (.ref e)) (I3.marked (.ref e)) hg hm ?_ hdb
  obtain ⟨hp1, g1, d1, t1, os1⟩ := s1
  refine xm_match (K3 _ _ hC) (K3 _ _ hR) XMR e1 e2 hin ?_
  refine codeAny_handlers_suite_as ?_
  refine fl_set (s := ⟨h3, g1, d1, t1, os1⟩) F3 fun h4 k4 F4 => ?_
  have I4 : Inv X pins σ1 H1 ⟨h4, g1, d1, t1, os1⟩ := I3.turned1 (t' := t1) (fun b u hb z => (k4 b hb).trans z) fT2
  refine store_ok2 I4 hN hi (.inl hl) (v := .ref e) rfl (fun s5 I5 hsb => ?_) (.inr hl)
  obtain ⟨a5, sb5, ha5⟩ := hsb
  have nea : e ≠ a5 := by
    rcases ha5 with z | z
    · rw [z]; exact fe.2.1
    · exact fun y => fe.2.2.2.2.1 n a5 z y.symm
  have hne5 : X.N.length = σ1.length := I4.len.symm
  obtain ⟨⟨oe', vs', oT', ts', e1', e2', e3', e4', e5', _⟩, _⟩ := F4
  have e15 : s5.heap.get? e = some oe' := (sb5.2 e nea).trans e1'
  have hiσ : i < σ1.length := by rw [I4.len]; exact (List.getElem?_eq_some_iff.mp hi).1
  refine wpAny_execs_cons (wpAny_Return_some (attr_of hab ?_))
  have J5 : Inv (X.marked (.ref e)) (pins ++ [(e, oe')]) (σ1.set i (some (.ref e))) H1 s5 := (I5.marked (.ref e)).pins_of fun p hp => (List.mem_append.mp hp).elim (fun z => I5.pin p (List.mem_append_right _ z)) fun z => by
    obtain rfl : p = (e, oe') := by simpa using z
    exact ⟨e15, fe.1, fe.2.1, fe.2.2.1, fun v y => by rw [e4'] at y; cases y⟩
  have rd := (pe_var (X := X.marked (.ref e)) (i := i) (x := n) (pos := p1) hi (.inl hl) hd1 hd2) _ s5 (σ1.set i (some (.ref e))) H1 (fun v H' => v = .ref e ∧ H' = H1) J5 ⟨_, List.getElem?_set_self hiσ, rfl, rfl⟩
  refine wpAny_mono rd (fun u s6 hq => ?_) fun _ _ z => False.elim z
  obtain ⟨v6, H6, J6, r6, ev6, eH6⟩ := hq
  subst ev6 eH6
  obtain rfl : u = Value.ref e := r6
  have I6 : Inv X pins (σ1.set i (some (.ref e))) H6 s6 := Inv.unmarked (J6.pins_of fun p hp => J6.pin p (List.mem_append_right _ (List.mem_append_left _ hp))) I.ok
  have e16 : s6.heap.get? e = some oe' := (J6.pin (e, oe') (List.mem_append_right _ (List.mem_append_right _ (by simp)))).1
  obtain ⟨mA, nA, rA⟩ := (show ObjOk X.prog X.w H6 s6.heap dx (.xd [("words", .str t)]) from I6.hok dx _ hxd)
  have rw' := rA "words"
  obtain ⟨uw, huw, ⟨tk, etk⟩⟩ : ∃ uw, mA "words" = some uw ∧ RelV (.str t) uw := by
    cases z : mA "words" with
    | none => rw [z] at rw'; exact False.elim rw'
    | some uw => rw [z] at rw'; exact ⟨uw, rfl, rw'⟩
  subst etk
  have K6 : X.K.In s6.heap := I6.kIn
  obtain ⟨m6, n6, _⟩ := id I6.loc
  obtain ⟨h6, g6, d6, t6, os6⟩ := s6
  refine xg_attr XM (K6 _ _ hC) (PySem.W.looks_findIn K6 YC.ga) (PySem.W.looks_findIn K6 YC.gh) (PySem.W.looks_findIn K6 YC.nw) e16 e2' e4' e3' nA.ns huw ?_ rfl
  have I7 : Inv X pins (σ1.set i (some (.ref e))) H6 ⟨h6, g6, d6, t6 + 1, os6⟩ := I6.tok _
  refine wpAny_nameGoes (s := ⟨h6, g6, d6, t6 + 1, os6⟩) hl n6 hcls fun h8 m8 n8 sb8 => ?_
  exact ⟨.str t, _, H6, I7.forget sb8 n8, ⟨_, rfl⟩, q⟩
end
section
variable {P : Program} {w : World} {K : PySem.W.Frag} {mg : Str → Option Value} {base : Heap}
theorem Fun.okR {x qual : Str} {st : Stmt} {f : Addr} {fd : FuncData} {N ps : List Str} {k : Nat} {sp : Sp} (F : Fun K x qual st f fd) (S : FnScope N ps (defScope st)) (len : ∀ vs H Q E, sp vs H Q E → vs.length = ps.length)
    (hbody : ∀ (cdv : Value) (A : Around) (outer : List Env) (s : Shared) (H : Hp) (vs : List V) (Q : VK) (E : XK), Room k (A.deeper (envOfC qual (defScope st) s.heap.objs.size f cdv)) → sp vs H Q E →
      ∃ t, PSs (cxOf (CXR P w) P w K mg base N qual (defScope st) f cdv A outer s H E) (defBody st) t ∧ t { nx := fun _ H' => Q .non H', rt := Q } (start N vs) H) : FnOk P w K mg base (CXR P w) (k + 1) f fd ps sp := by
  obtain ⟨oc, od, kV, doc, pm, an, cdv, ct, osl, rfl, lk, hcd⟩ := F.ex
  exact fn_of lk hcd S len fun A outer s H vs Q E hr hsp => hbody cdv A outer s H vs Q E hr hsp
end
def Rfs (K : PySem.W.Frag) (R : Addr) (t : Str) (H : Hp) (E : XK) : Prop := ∀ C dx H', XCls K R C → Same H H' → H dx = none → H' dx = some (.xd [("words", .str t)]) → E (.ref C) (some dx) H'
theorem Rfs.grow {K : PySem.W.Frag} {R : Addr} {t : Str} {H H1 : Hp} {E : XK} (h : Rfs K R t H E) (e : Same H H1) : Rfs K R t H1 E := fun C dx H' Y s n q => h C dx H' Y (e.trans s) (e.free n) q
def spXI (K : PySem.W.Frag) (R : Addr) (t : Str) : Sp := fun vs H Q _ => ∃ e C, vs = [.ref e] ∧ H e = some (.ext (exO C e none)) ∧ XCls K R C ∧ ∀ dx, H dx = none → dx ≠ e → Q .non (upd (upd H dx (.xd [("words", .str t)])) e (.ext (exO C e (some dx))))
def spRI (K : PySem.W.Frag) (R : Addr) : Sp := fun vs H Q _ => ∃ e C t, vs = [.ref e, .str t] ∧ H e = some (.ext (exO C e none)) ∧ XCls K R C ∧ ∀ dx, H dx = none → dx ≠ e → Q .non (upd (upd H dx (.xd [("words", .str t)])) e (.ext (exO C e (some dx))))
structure ExcC (P : Program) (w : World) (K : PySem.W.Frag) (mg : Str → Option Value) (base : Heap) (R : Addr) (x t : Str) : Prop where
  ex : ∃ C fI fdI, mg x = some (.ref C) ∧ XCls K R C ∧ PySem.W.findIn K (.ref C) "__init__" = some (some (.ref fI)) ∧ PySem.W.isFn K (.ref fI) = true ∧ FnOk P w K mg base CX0 2 fI fdI ["self"] (spXI K R t) ∧ Binds K fdI ["self"] []
section
variable {P : Program} {w : World} {K : PySem.W.Frag} {mg : Str → Option Value} {base : Heap} {N : List Str} {qual : Str} {scope : Scope} {f : Addr} {cd : Value} {A : Around} {outer : List Env} {s₀ : Shared} {H₀ : Hp} {E : XK} {R : Addr} {x t : Str} {np cpos pos : Pos}
def tRfs (K : PySem.W.Frag) (R : Addr) (t : Str) (E : XK) : TS := fun _ _ H => Rfs K R t H E
theorem ps_refuse (Y : ExcC P w K mg base R x t) (hr : Room 3 (cxOf (CXR P w) P w K mg base N qual scope f cd A outer s₀ H₀ E).A) (hg : Gl (cxOf (CXR P w) P w K mg base N qual scope f cd A outer s₀ H₀ E) x) (hdb : (x == ("__debug__" : Str)) = false := by decide) :
    PS (cxOf (CXR P w) P w K mg base N qual scope f cd A outer s₀ H₀ E) (.Raise (some (.Call (.Name x np) [] [] cpos)) none pos) (tRfs K R t E) := by
  obtain ⟨C, fI, fdI, hm, YC, hin, hfn, FI, hb⟩ := Y.ex
  intro pins s σ H D I h
  refine ps_raise YC hin hfn FI hb hr hg hm hdb pins s σ H D I fun e he => ?_
  refine ⟨e, C, rfl, upd_same, YC, fun dx h1 h2 => ⟨rfl, dx, upd_same, ?_⟩⟩
  have hdx : H dx = none := by rw [upd_ne h2] at h1; exact h1
  refine h C dx _ YC (fun b o q => ?_) hdx ?_
  · have nb : b ≠ e := ne_of_none q he
    have nd : b ≠ dx := ne_of_none q hdx
    rw [drop_ne nb, upd_ne nb, upd_ne nd, upd_ne nb]
    exact q
  · rw [drop_ne h2, upd_ne h2]
    exact upd_same
end
end L2
set_option Elab.async false
set_option linter.all false
set_option maxRecDepth 100000
set_option maxHeartbeats 4000000
namespace L2
open PySem
section
variable {prog : Program} {w : World} {A : Around} {E : Value → Shared → Prop} {s : Shared}
theorem erase_perm {α : Type} : ∀ (l : List α) (i : Nat) (h : i < l.length), (l[i] :: l.eraseIdx i).Perm l
  | x :: l, 0, h => List.Perm.refl _
  | x :: l, i + 1, h => (List.Perm.swap x _ _).trans ((erase_perm l i (Nat.lt_of_succ_lt_succ h)).cons x)
theorem any_choose {src : Source} {n : Nat} {Q : Nat → Shared → Prop} (hn : n ≠ 0) (h : ∀ i, i < n → Q i { s with drawn := s.drawn.bump src }) : wpAny (model prog w) A (choose src n) Q E s :=
  fun _ _ _ => ⟨hn, h _ (Nat.mod_lt _ (Nat.pos_of_ne_zero hn))⟩
theorem any_drawOrder {α : Type} : ∀ (n : Nat) (xs : List α) (s : Shared) (Q : List α → Shared → Prop), xs.length = n → (∀ ys d, ys.Perm xs → Q ys { s with drawn := d }) → wpAny (model prog w) A (drawOrder n xs) Q E s
  | 0, [], s, Q, _, h => wpAny_pure (h [] s.drawn (List.Perm.refl _))
  | n + 1, [], s, Q, hl, h => by cases hl
  | n + 1, x :: xs, s, Q, hl, h => by
    unfold drawOrder
    refine wpAny_bind (any_choose (by simp) fun i hi => ?_)
    have e : (x :: xs)[i]? = some ((x :: xs)[i]'hi) := by simp
    rw [e]
    dsimp only
    refine wpAny_bind (any_drawOrder n ((x :: xs).eraseIdx i) _ _ (by rw [List.length_eraseIdx_of_lt hi]; omega) fun ys d hp => wpAny_pure (h _ d ?_))
    exact (hp.cons _).trans (erase_perm _ _ hi)
theorem pick_go {α : Type} (next : Nat → Nat) : ∀ (f k : Nat) (left : List α) (out : Array α), left.length = f → (pickOrder.go next f k left out).toList.Perm (out.toList ++ left)
  | 0, k, left, out, h => by
    obtain rfl : left = [] := List.length_eq_zero_iff.mp h
    unfold pickOrder.go
    rw [List.append_nil]
  | f + 1, k, left, out, h => by
    unfold pickOrder.go
    have hi : next k % left.length < left.length := Nat.mod_lt _ (by omega)
    have e : left[next k % left.length]? = some (left[next k % left.length]'hi) := by simp
    rw [e]
    dsimp only
    refine (pick_go next f (k + 1) _ _ (by rw [List.length_eraseIdx_of_lt hi]; omega)).trans ?_
    rw [Array.toList_push, List.append_assoc]
    exact List.Perm.append_left _ (erase_perm _ _ hi)
theorem pick_perm {α : Type} (next : Nat → Nat) (xs : Array α) : (pickOrder next xs).toList.Perm xs.toList := by
  have := pick_go next xs.size 0 xs.toList #[] (by simp)
  simpa [pickOrder] using this
end
theorem slot_si_next : Slot "set_iterator" "__next__" "set_iterator.__next__" := .of (owner := "set_iterator") (n := "__next__") (by rw [typeLookup_type, builtinLookup_eq_fast]; kernel_rfl) (by decide +kernel) (by decide +kernel) (by decide +kernel) (by first | exact .inl (by decide +kernel) | exact .inr (by decide +kernel)) (by rw [isSubtype_type]; kernel_rfl)
theorem slot_si_iter : Slot "set_iterator" "__iter__" "set_iterator.__iter__" := .of (owner := "set_iterator") (n := "__iter__") (by rw [typeLookup_type, builtinLookup_eq_fast]; kernel_rfl) (by decide +kernel) (by decide +kernel) (by decide +kernel) (by first | exact .inl (by decide +kernel) | exact .inr (by decide +kernel)) (by rw [isSubtype_type]; kernel_rfl)
theorem ent_si_next : entryFor table "set_iterator.__next__" = some Builtin.«set_iterator.__next__» := entryFor_of_fast (by kernel_rfl)
theorem arg_si_next (a : Value) : argsOk "set_iterator.__next__" ⟨[a], []⟩ := by unfold argsOk; kernel_rfl
theorem ent_set_iter : entryFor table "set.__iter__" = some Builtin.«frozenset.__iter__» := entryFor_alias (id' := "frozenset.__iter__") (by kernel_rfl) rfl (by decide +kernel) (by kernel_rfl)
theorem plain_lay (t : SetTable) (es : Array (Int × Value)) (h : Int) (x : Value) : (layNew t es h x).2.1.plain = t.plain ∨ (layNew t es h x).2.1.plain = false := by
  unfold layNew
  split
  · dsimp only
    unfold SetTable.orStandIn
    split
    · exact .inl rfl
    · exact .inr rfl
  · exact .inr rfl
theorem plain_laid {m f v : Nat} {l p : Bool} {hs : Array Int} {t : SetTable} {o : Array Nat} (h : SetTable.laid m f v l p hs = some (t, o)) : t.plain = p := by
  unfold SetTable.laid at h
  cases e : SetTable.layClean m hs with
  | none => rw [e] at h; cases h
  | some ow => rw [e] at h; cases h; rfl
theorem plain_relay (t : SetTable) (es : Array (Int × Value)) (n : Nat) (ht : t.plain = false) : (relayAll t es n).2.1.plain = false := by
  unfold relayAll
  split
  · rename_i t' o e
    dsimp only
    split
    · exact (plain_laid e).trans ht
    · rfl
  · rfl
def SetS (prog : Program) (w : World) (h : Heap) (a : Addr) (es : Array (Int × Value)) (ep : Nat) : Prop :=
  ∃ o t, h.get? a = some o ∧ o.ExactSet ∧ o.data = .set es ep t ∧ ElemsOf (strKind prog w) es.toList ∧ es.size < scanBound ∧ t.fits es.size = true ∧ (0 < es.size → t.plain = false)
section
variable {prog : Program} {w : World} {A : Around} {E : Value → Shared → Prop} {s : Shared}
theorem SetS.keep {h h' : Heap} {a : Addr} {es : Array (Int × Value)} {ep : Nat} (H : SetS prog w h a es ep) (k : ∀ o, h.get? a = some o → h'.get? a = some o) : SetS prog w h' a es ep := by
  obtain ⟨o, t, h1, h2⟩ := H
  exact ⟨o, t, k o h1, h2⟩
theorem set_put {a : Addr} {es0 es : Array (Int × Value)} {o : Obj} {ep : Nat} {t0 t : SetTable} {Q : Unit → Shared → Prop} (ho : s.heap.get? a = some o) (hx : o.ExactSet) (hd : o.data = .set es0 ep t0)
    (hel : ElemsOf (strKind prog w) es.toList) (hb : es.size < scanBound) (hf : t.fits es.size = true) (hp : t.plain = false)
    (h : ∀ h', Heap.SameBut a s.heap h' → (∃ o', h'.get? a = some o' ∧ o'.ExactSet ∧ o'.data = .set es (ep + 1) t) → SetS prog w h' a es (ep + 1) → Q () { s with heap := h' }) : wpAny (model prog w) A (storeSet a es t) Q E s := by
  refine wpAny_storeSet_of ho hd (h _ (Heap.SameBut.update s.heap a _) ?_ ?_) (fits_of_scanBound hb)
  all_goals
    have hg := Heap.get?_update_self (Obj.putSet es t) ho (by rw [putSet_of es t hd]; rfl)
    rw [putSet_of es t hd] at hg
  · exact ⟨_, hg, hx, rfl⟩
  · exact ⟨_, t, hg, hx, rfl, hel, hb, hf, fun _ => hp⟩
theorem isStr_scan {k : Str} {x : Value} (h : (strKind prog w).is k x = true) : ∃ t, x = .str k t := Value.isStrOf_shape h
theorem set_add {a : Addr} {es : Array (Int × Value)} {ep : Nat} {k : Str} {t0 : Tok} {Q : Bool → Shared → Prop} (hS : SetS prog w s.heap a es ep) (hroom : es.size + 1 < scanBound)
    (h : ∀ b h' es' ep', Heap.SameBut a s.heap h' → SetS prog w h' a es' ep' → ((∃ e ∈ es.toList, (strKind prog w).is k e.2 = true) ∧ es' = es ∨ (¬ ∃ e ∈ es.toList, (strKind prog w).is k e.2 = true) ∧ es'.toList.Perm (es.toList ++ [((strKind prog w).hash k, .str k t0)])) → Q b { s with heap := h' }) :
    wpAny (model prog w) A (setAddHashed a (.str k t0) ((strKind prog w).hash k)) Q E s := by
  obtain ⟨o, t, ho, hex, hd, hel, hb, hf, hpl⟩ := hS
  have hkey : (strKind prog w).is k (.str k t0) = true := by show Value.isStrOf k (.str k t0) = true; simp [Value.isStrOf]
  have hsc : (Value.str k t0).scannable = true := rfl
  unfold setAddHashed setAddHashedIn
  refine wpAny_holding (wpAny_bind (wpAny_setState_of ho hd hf ?_))
  dsimp only
  rw [byScan_of hsc hb hel]
  simp only [↓reduceIte]
  unfold setAddByScan
  refine wpAny_bind (wpAny_bind (wpAny_rule (wpAny_bind (wpAny_setScan_of hkey ho hd hf hel ?_))))
  cases hr : List.findIdx? (fun e => (strKind prog w).is k e.2) es.toList with
  | some j =>
    dsimp only
    obtain ⟨hj, hpj, _⟩ := List.findIdx?_eq_some_iff_getElem.mp hr
    exact wpAny_pure (wpAny_pure (h _ s.heap es ep (Heap.SameBut.refl a s.heap) ⟨o, t, ho, hex, hd, hel, hb, hf, hpl⟩ (.inl ⟨⟨_, List.getElem_mem hj, hpj⟩, rfl⟩)))
  | none =>
    dsimp only
    have hno : ¬ ∃ e ∈ es.toList, (strKind prog w).is k e.2 = true := fun ⟨e, he, hp⟩ => by
      have := List.findIdx?_eq_none_iff.mp hr e he
      rw [hp] at this
      cases this
    have pl := plain_lay t es ((strKind prog w).hash k) (.str k t0)
    have hperm := layNew_perm t es ((strKind prog w).hash k) (.str k t0)
    have hfits := layNew_fits t es ((strKind prog w).hash k) (.str k t0)
    generalize layNew t es ((strKind prog w).hash k) (.str k t0) = L at pl hperm hfits ⊢
    obtain ⟨es1, t1, wd, gave⟩ := L
    dsimp only at pl hperm hfits ⊢
    rw [Array.toList_push] at hperm
    have hel1 : ElemsOf (strKind prog w) es1.toList := (hel.push hkey hsc).perm hperm
    have hs1 : es1.size = es.size + 1 := by rw [← Array.length_toList, hperm.length_eq, List.length_append, Array.length_toList]; rfl
    have hb1 : es1.size < scanBound := by omega
    have gw : ∀ (g : Bool → Sem Unit), (g = fun b => match b with | true => rule "set.scan.the-table-gave-way" | false => pure ()) → ∀ (b : Bool) {s₁ : Shared} {Q' : Unit → Shared → Prop}, Q' () s₁ → wpAny (model prog w) A (g b) Q' E s₁ := by
      intro g eg b s₁ Q' hq
      subst eg
      cases b
      · exact wpAny_pure hq
      · exact wpAny_rule hq
    refine wpAny_bind (gw _ rfl _ ?_)
    have fin : ∀ t2 : SetTable, t2.fits es1.size = true → t2.plain = false → wpAny (model prog w) A (do
        storeSet a es1 t2
        if (!wd && t2.tooFull) = true then do
            (fun b => match b with | true => rule "set.scan.the-table-gave-way" | false => pure () : Bool → Sem Unit) (relayAll t2 es1 (SetTable.grown es1.size)).2.2
            storeSet a (relayAll t2 es1 (SetTable.grown es1.size)).1 (relayAll t2 es1 (SetTable.grown es1.size)).2.1
            pure (some true)
          else pure (some true)) (fun r s' => ∃ h' es' ep', s' = { s with heap := h' } ∧ r = some true ∧ Heap.SameBut a s.heap h' ∧ SetS prog w h' a es' ep' ∧ es'.toList.Perm (es.toList ++ [((strKind prog w).hash k, .str k t0)])) E s := by
      intro t2 hf2 hp2
      refine wpAny_bind (set_put ho hex hd hel1 hb1 hf2 hp2 fun h1 hsb1 ⟨o1, ho1, hx1, hd1⟩ S1 => ?_)
      split
      · have hp := relayAll_perm t2 es1 (SetTable.grown es1.size)
        have hfr := relayAll_fits t2 es1 (SetTable.grown es1.size)
        have hpr := plain_relay t2 es1 (SetTable.grown es1.size) hp2
        generalize relayAll t2 es1 (SetTable.grown es1.size) = Rl at hp hfr hpr ⊢
        obtain ⟨es2, t3, g2⟩ := Rl
        dsimp only at hp hfr hpr ⊢
        have hsz : es2.size = es1.size := by rw [← Array.length_toList, hp.length_eq, Array.length_toList]
        refine wpAny_bind (gw _ rfl _ ?_)
        refine wpAny_bind (set_put (s := { s with heap := h1 }) ho1 hx1 hd1 (hel1.perm hp) (by rw [hsz]; exact hb1) hfr hpr fun h2 hsb2 _ S2 => wpAny_pure ?_)
        exact ⟨h2, es2, _, rfl, rfl, hsb1.trans hsb2, S2, hp.trans hperm⟩
      · exact wpAny_pure ⟨h1, es1, _, rfl, rfl, hsb1, S1, hperm⟩
    have fin' : ∀ {m : Sem (Option Bool)} {f : Option Bool → Sem Bool}, wpAny (model prog w) A m (fun r s' => ∃ h' es' ep', s' = { s with heap := h' } ∧ r = some true ∧ Heap.SameBut a s.heap h' ∧ SetS prog w h' a es' ep' ∧ es'.toList.Perm (es.toList ++ [((strKind prog w).hash k, .str k t0)])) E s → (∀ h' es' ep', Heap.SameBut a s.heap h' → SetS prog w h' a es' ep' → es'.toList.Perm (es.toList ++ [((strKind prog w).hash k, .str k t0)]) → wpAny (model prog w) A (f (some true)) Q E { s with heap := h' }) → wpAny (model prog w) A m (fun r s' => wpAny (model prog w) A (f r) Q E s') E s := fun hm hf => wpAny_mono hm (fun r s' ⟨h', es', ep', e1, e2, e3, e4, e5⟩ => by subst e1 e2; exact hf h' es' ep' e3 e4 e5) fun _ _ z => z
    split
    · refine wpAny_bind ?_
      rw [hashByValue_scannable 8 hsc]
      refine wpAny_pure ?_
      refine fin' (fin _ ?_ ?_) fun h' es' ep' a1 a2 a3 => wpAny_pure (h _ h' es' ep' a1 a2 (.inr ⟨hno, a3⟩))
      · exact SetTable.fits_plain_off hfits
      · rfl
    · rename_i hpf
      refine wpAny_bind (wpAny_pure ?_)
      refine fin' (fin _ hfits (by simpa using hpf)) fun h' es' ep' a1 a2 a3 => wpAny_pure (h _ h' es' ep' a1 a2 (.inr ⟨hno, a3⟩))
end
end L2
namespace L2
open PySem
def IsSI (h : Heap) (it a : Addr) (first : Value) (i n ep : Nat) : Prop :=
  ∃ o, h.get? it = some o ∧ o.cls = .type "set_iterator" ∧ o.data = .fields #[first, .int i 0, .ref a, .int n 0, .int ep 0]
section
variable {prog : Program} {w : World} {A : Around} {E : Value → Shared → Prop} {s : Shared}
theorem IsSI.typeIs {it a : Addr} {first : Value} {i n ep : Nat} (x : IsSI s.heap it a first i n ep) : s.TypeIs (.ref it) "set_iterator" := let ⟨o, ho, hc, _⟩ := x; ⟨o, ho, hc⟩
theorem IsSI.keep {h h' : Heap} {it a : Addr} {first : Value} {i n ep : Nat} (x : IsSI h it a first i n ep) (k : ∀ o, h.get? it = some o → h'.get? it = some o) : IsSI h' it a first i n ep := let ⟨o, ho, r⟩ := x; ⟨o, k o ho, r⟩
theorem SetS.entries {a : Addr} {es : Array (Int × Value)} {ep : Nat} {Q : Array (Int × Value) → Shared → Prop} (S : SetS prog w s.heap a es ep) (h : Q es s) : wpAny (model prog w) A (setEntries a) Q E s := by
  obtain ⟨o, t, h1, h2, h3, h4, h5, h6, h7⟩ := S
  exact wpAny_setEntries_of h1 h3 h6 h
theorem any_byText {Q : Bool → Shared → Prop} (h : Q (w.params.followText "set-order") s) : wpAny (model prog w) A setsByText Q E s := by
  unfold setsByText
  exact wpAny_bind (wpAny_askSetting (wpAny_pure h))
theorem next_text {a : Addr} {es : Array (Int × Value)} {ep k i : Nat} {Q : Option (Value × Nat) → Shared → Prop} (S : SetS prog w s.heap a es ep) (hb : w.params.followText "set-order" = true)
    (h : Q (((pickOrder (w.params.setOrder a ep) es)[i]?).map fun e => (e.2, k)) s) : wpAny (model prog w) A (setNext a k i ep) Q E s := by
  obtain ⟨o, t, h1, h2, h3, h4, h5, h6, h7⟩ := S
  unfold setNext
  refine wpAny_bind (wpAny_setState_of h1 h3 h6 ?_)
  dsimp only
  refine wpAny_bind (any_byText ?_)
  rw [hb]
  simp only [↓reduceIte, bne_self_eq_false, Bool.false_eq_true]
  unfold setWalk
  refine wpAny_bind (wpAny_bind (wpAny_setState_of h1 h3 h6 ?_))
  dsimp only
  refine wpAny_bind (any_byText ?_)
  rw [hb]
  simp only [↓reduceIte]
  exact wpAny_bind (wpAny_askSetting (wpAny_pure (wpAny_pure h)))
theorem next_none {a : Addr} {es : Array (Int × Value)} {ep k i : Nat} {Q : Option (Value × Nat) → Shared → Prop} (S : SetS prog w s.heap a es ep) (hb : w.params.followText "set-order" = false) (he : es = #[])
    (h : Q none s) : wpAny (model prog w) A (setNext a k i ep) Q E s := by
  subst he
  obtain ⟨o, t, h1, h2, h3, h4, h5, h6, h7⟩ := S
  unfold setNext
  refine wpAny_bind (wpAny_setState_of h1 h3 h6 ?_)
  dsimp only
  refine wpAny_bind (any_byText ?_)
  rw [hb]
  simp only [Bool.false_eq_true, ↓reduceIte]
  split
  · rename_i hc
    exact absurd (show (!t.plain && decide ((#[] : Array (Int × Value)).size > 1)) = true from hc) (by simp)
  refine wpAny_bind ?_
  show wpAny _ _ (if (!t.led && !(#[] : Array (Int × Value)).isEmpty) = true then _ else _) _ _ s
  rw [if_neg (by simp)]
  refine wpAny_pure (wpAny_pure ?_)
  simpa using h
theorem si_upd {it a : Addr} {first first' : Value} {i i' n ep : Nat} {f : Array Value → Array Value} (hit : IsSI s.heap it a first i n ep) (hf : f #[first, .int i 0, .ref a, .int n 0, .int ep 0] = #[first', .int i' 0, .ref a, .int n 0, .int ep 0]) :
    IsSI (s.heap.update it (Obj.mapFields f)) it a first' i' n ep := by
  obtain ⟨o, ho, hc, hd⟩ := hit
  exact ⟨_, Heap.get?_update_self _ ho (Obj.isFreed_of_fields (Obj.data_mapFields hd _)), (Obj.cls_mapFields ..).trans hc, by rw [Obj.data_mapFields hd]; exact congrArg Data.fields hf⟩
theorem si_item {it a : Addr} {i n ep : Nat} {es : Array (Int × Value)} {x : Value} {Q : Option Value → Shared → Prop} (hit : IsSI s.heap it a (.int 0 0) i n ep) (S : SetS prog w s.heap a es ep) (hn : es.size = n) (hb : w.params.followText "set-order" = true)
    (hx : ((pickOrder (w.params.setOrder a ep) es).toList.map (·.2))[i]? = some x)
    (hQ : ∀ h', IsSI h' it a (.int 0 0) (i + 1) n ep → Heap.SameBut it s.heap h' → Q (some x) { s with heap := h' }) : wpAny (model prog w) A (pyNext (.ref it)) Q E s := by
  obtain ⟨o, ho, hc, hd⟩ := id hit
  unfold pyNext
  refine wpAny_bind (wpAny_attempt (wpAny_callSpecial?_slot (name := Str.ofString "__next__") hit.typeIs slot_si_next (wpAny_call_entry slot_si_next hit.typeIs ent_si_next ?_ (arg_si_next _))))
  unfold Builtin.«set_iterator.__next__»
  refine wpAny_bind (wpAny_pure (wpAny_bind (wpAny_fieldsOf ho hd ?_)))
  dsimp only
  refine wpAny_bind (S.entries ?_)
  rw [if_neg (by rw [hn]; simp)]
  refine wpAny_bind (next_text S hb ?_)
  have e2 : (pickOrder (w.params.setOrder a ep) es)[i]?.map (·.2) = some x := by rw [List.getElem?_map, Array.getElem?_toList] at hx; exact hx
  obtain ⟨e, ee, ex⟩ := Option.map_eq_some_iff.mp e2
  have ee' : (pickOrder (w.params.setOrder a (ep : Int).toNat) es)[(i : Int).toNat]? = some e := ee
  rw [ee']
  dsimp only [Option.map]
  refine wpAny_bind (wpAny_setField ho hd (by simp) ?_)
  have h1 := si_upd (f := fun x => x.setIfInBounds 0 (rawInt ((Int.toNat 0 : Nat) : Int))) (first' := .int 0 0) (i' := i) hit (by simp [rawInt])
  obtain ⟨o1, ho1, hc1, hd1⟩ := id h1
  refine wpAny_bind (wpAny_setField (s := { s with heap := s.heap.update it (Obj.mapFields fun x => x.setIfInBounds 0 (rawInt ((Int.toNat 0 : Nat) : Int))) }) ho1 hd1 (by simp) ?_)
  have h2 := si_upd (s := { s with heap := s.heap.update it (Obj.mapFields fun x => x.setIfInBounds 0 (rawInt ((Int.toNat 0 : Nat) : Int))) }) (f := fun x => x.setIfInBounds 1 (rawInt ((i : Int) + 1))) (first' := .int 0 0) (i' := i + 1) h1 (by simp [rawInt])
  rw [ex]
  exact wpAny_pure ⟨_, rfl, wpAny_pure (hQ _ h2 ((Heap.SameBut.update ..).trans (Heap.SameBut.update ..)))⟩
theorem si_stop {it : Addr} {o : Obj} {fs : Array Value} {Q : Option Value → Shared → Prop} (hh : A.handled = none) (ho : s.heap.get? it = some o) (hd : o.data = .fields fs) (h2 : 2 < fs.size)
    (hQ : ∀ h', Heap.ExtBut it s.heap h' → Q none { s with heap := h' }) : wpAny (model prog w) A.in1 (do
      setField (Value.ref it) 2 Value.none
      let z ← newExc (Value.type "StopIteration") []
      raiseNew z) (fun fin s' => ∃ v, fin = Fin.done (Flow.ret v) ∧ wpAny (model prog w) A (pure (some v)) Q E s')
    (fun e s' => wpAny (model prog w) A (do
          let b ← isInstance e (Value.type "StopIteration")
          if b = true then pure none else throw e) Q E s') s := by
  refine wpAny_bind (wpAny_setField ho hd h2 ?_)
  refine wpAny_bind ?_
  simp only [newExc, newTuple]
  refine wpAny_bind (wpAny_newObj_type ?_ (by size_fits))
  refine wpAny_bind (m := firstArgMember _ _) (wpAny_of_eq (a := Value.none) (by first | rfl | (simp only [firstArgMember]; rfl)) ?_)
  refine wpAny_newObj_type ?_ (by size_fits)
  simp only [raiseNew]
  refine wpAny_bind (wpAny_handled ?_)
  rw [show A.in1.handled = none from hh]
  refine wpAny_bind (wpAny_pure (wpAny_throw ?_))
  refine wpAny_bind (wpAny_isInstance (T := "StopIteration") (b := true) ⟨_, Heap.get?_push_size _ rfl, rfl⟩ isSubtype_stop ?_)
  exact wpAny_pure (hQ _ (((Heap.SameBut.update ..).extBut.push _).push _))
theorem si_end {it a : Addr} {i n ep : Nat} {es : Array (Int × Value)} {Q : Option Value → Shared → Prop} (hh : A.handled = none) (hit : IsSI s.heap it a (.int 0 0) i n ep) (S : SetS prog w s.heap a es ep) (hn : es.size = n)
    (hb : w.params.followText "set-order" = true ∧ n ≤ i ∨ w.params.followText "set-order" = false ∧ es = #[])
    (hQ : ∀ h', Heap.ExtBut it s.heap h' → Q none { s with heap := h' }) : wpAny (model prog w) A (pyNext (.ref it)) Q E s := by
  obtain ⟨o, ho, hc, hd⟩ := id hit
  unfold pyNext
  refine wpAny_bind (wpAny_attempt (wpAny_callSpecial?_slot (name := Str.ofString "__next__") hit.typeIs slot_si_next (wpAny_call_entry slot_si_next hit.typeIs ent_si_next ?_ (arg_si_next _))))
  unfold Builtin.«set_iterator.__next__»
  refine wpAny_bind (wpAny_pure (wpAny_bind (wpAny_fieldsOf ho hd ?_)))
  dsimp only
  refine wpAny_bind (S.entries ?_)
  rw [if_neg (by rw [hn]; simp)]
  rcases hb with ⟨hb, hi⟩ | ⟨hb, he⟩
  · refine wpAny_bind (next_text S hb ?_)
    have ee : (pickOrder (w.params.setOrder a (ep : Int).toNat) es)[(i : Int).toNat]? = none := by
      rw [Array.getElem?_eq_none_iff, ← Array.length_toList, (pick_perm _ _).length_eq, Array.length_toList]
      omega
    rw [ee]
    exact si_stop hh ho hd (by simp) hQ
  · exact wpAny_bind (next_none S hb he (si_stop hh ho hd (by simp) hQ))
theorem sp_item {it a tp : Addr} {i n ep j : Nat} {es : Array (Int × Value)} {pl : List Nat} {ot : Obj} {cn : Nat} {e : Int × Value} {Q : Option Value → Shared → Prop} (hit : IsSI s.heap it a (.ref tp) i n ep) (S : SetS prog w s.heap a es ep) (hn : es.size = n)
    (ht : s.heap.get? tp = some ot) (hd' : ot.data = .seq (pl.map fun (i : Nat) => rawInt i).toArray cn) (hj : pl[i]? = some j) (he : es[j]? = some e)
    (hQ : ∀ h', IsSI h' it a (.ref tp) (i + 1) n ep → Heap.SameBut it s.heap h' → Q (some e.2) { s with heap := h' }) : wpAny (model prog w) A (pyNext (.ref it)) Q E s := by
  obtain ⟨o, ho, hc, hd⟩ := id hit
  unfold pyNext
  refine wpAny_bind (wpAny_attempt (wpAny_callSpecial?_slot (name := Str.ofString "__next__") hit.typeIs slot_si_next (wpAny_call_entry slot_si_next hit.typeIs ent_si_next ?_ (arg_si_next _))))
  unfold Builtin.«set_iterator.__next__»
  refine wpAny_bind (wpAny_pure (wpAny_bind (wpAny_fieldsOf ho hd ?_)))
  dsimp only
  refine wpAny_bind (S.entries ?_)
  rw [if_neg (by rw [hn]; simp)]
  refine wpAny_bind (wpAny_seqItems ht hd' ?_)
  dsimp only
  have ee : (pl.map fun (i : Nat) => rawInt i).toArray[(i : Int).toNat]? = some (rawInt j) := by
    show (pl.map fun (i : Nat) => rawInt i).toArray[i]? = _
    rw [List.getElem?_toArray, List.getElem?_map, hj]
    rfl
  rw [ee]
  refine wpAny_bind ?_
  obtain ⟨os, t, h1, h2, h3, h4, h5, h6, h7⟩ := S
  unfold setNextDrawn
  refine wpAny_bind (wpAny_setState_of h1 h3 h6 ?_)
  dsimp only
  rw [if_neg (by simp)]
  have ej : es[(j : Int).toNat]? = some e := he
  rw [ej]
  refine wpAny_pure (wpAny_bind (wpAny_setField ho hd (by simp) ?_))
  have q2 := si_upd (f := fun x => x.setIfInBounds 1 (rawInt ((i : Int) + 1))) (first' := .ref tp) (i' := i + 1) hit (by simp [rawInt])
  exact wpAny_pure ⟨_, rfl, wpAny_pure (hQ _ q2 (Heap.SameBut.update ..))⟩
theorem sp_end {it a tp : Addr} {i n ep : Nat} {es : Array (Int × Value)} {pl : List Nat} {ot : Obj} {cn : Nat} {Q : Option Value → Shared → Prop} (hh : A.handled = none) (hit : IsSI s.heap it a (.ref tp) i n ep) (S : SetS prog w s.heap a es ep) (hn : es.size = n)
    (ht : s.heap.get? tp = some ot) (hd' : ot.data = .seq (pl.map fun (i : Nat) => rawInt i).toArray cn) (hj : pl[i]? = none)
    (hQ : ∀ h', Heap.ExtBut it s.heap h' → Q none { s with heap := h' }) : wpAny (model prog w) A (pyNext (.ref it)) Q E s := by
  obtain ⟨o, ho, hc, hd⟩ := id hit
  unfold pyNext
  refine wpAny_bind (wpAny_attempt (wpAny_callSpecial?_slot (name := Str.ofString "__next__") hit.typeIs slot_si_next (wpAny_call_entry slot_si_next hit.typeIs ent_si_next ?_ (arg_si_next _))))
  unfold Builtin.«set_iterator.__next__»
  refine wpAny_bind (wpAny_pure (wpAny_bind (wpAny_fieldsOf ho hd ?_)))
  dsimp only
  refine wpAny_bind (S.entries ?_)
  rw [if_neg (by rw [hn]; simp)]
  refine wpAny_bind (wpAny_seqItems ht hd' ?_)
  dsimp only
  have ee : (pl.map fun (i : Nat) => rawInt i).toArray[(i : Int).toNat]? = none := by
    show (pl.map fun (i : Nat) => rawInt i).toArray[i]? = _
    rw [List.getElem?_toArray, List.getElem?_map, hj]
    rfl
  rw [ee]
  refine wpAny_bind (wpAny_setField ho hd (by simp) ?_)
  have h1 := si_upd (f := fun x => x.setIfInBounds 0 (rawInt 0)) (first' := .int 0 0) (i' := i) hit (by simp [rawInt])
  obtain ⟨o1, ho1, hc1, hd1⟩ := h1
  refine si_stop (s := { s with heap := s.heap.update it (Obj.mapFields fun x => x.setIfInBounds 0 (rawInt 0)) }) hh ho1 hd1 (by simp) fun h' x => hQ h' fun b o hb e => x b o hb ?_
  rw [Heap.get?_update_other _ _ (Ne.symm hb)]
  exact e
end
end L2
namespace L2
open PySem
theorem ent_si_iter : entryFor table "set_iterator.__iter__" = some Builtin.«dict_keyiterator.__iter__» := entryFor_alias (id' := "dict_keyiterator.__iter__") (by kernel_rfl) rfl (by decide +kernel) (by kernel_rfl)
theorem arg_si_iter (a : Value) : argsOk "set_iterator.__iter__" ⟨[a], []⟩ := by unfold argsOk; kernel_rfl
theorem len_set : typeLookup (.type "set") "__len__" = pure (some (.builtin "set.__len__")) := by rw [typeLookup_type, builtinLookup_eq_fast]; kernel_rfl
theorem len_dict : typeLookup (.type "dict") "__len__" = pure (some (.builtin "dict.__len__")) := by rw [typeLookup_type, builtinLookup_eq_fast]; kernel_rfl
section
variable {prog : Program} {w : World} {A : Around} {E : Value → Shared → Prop} {s : Shared}
theorem walk_si (hh : A.handled = none) (I a : Addr) (hne : a ≠ I) {es : Array (Int × Value)} {ep : Nat} {order : List Value} (hb : w.params.followText "set-order" = true ∧ order = (pickOrder (w.params.setOrder a ep) es).toList.map (·.2) ∨ w.params.followText "set-order" = false ∧ es = #[] ∧ order = []) :
    Walks prog w A I [I, a] [I] es.size (fun i v => order[i]? = some v) (fun i h => IsSI h I a (.int 0 0) i es.size ep ∧ SetS prog w h a es ep) where
  sub := fun b hb => by simp at hb; simp [hb]
  frame := fun _ _ _ st hk => ⟨st.1.keep fun o e => hk I (by simp) o e, st.2.keep fun o e => hk a (by simp) o e⟩
  item := fun i s Q E hi st hQ => by
    rcases hb with ⟨hb, rfl⟩ | ⟨_, rfl, _⟩
    · have hl : ((pickOrder (w.params.setOrder a ep) es).toList.map (·.2)).length = es.size := by rw [List.length_map, (pick_perm _ _).length_eq, Array.length_toList]
      refine si_item st.1 st.2 rfl hb (List.getElem?_eq_getElem (by rw [hl]; exact hi)) fun h' z k => ?_
      exact hQ _ h' s.toks (List.getElem?_eq_getElem _) ⟨z, st.2.keep fun o e => k.extBut a o hne e⟩ fun b o hb e => k.extBut b o (fun h => hb (by simp [h])) e
    · exact absurd hi (by simp)
  done := fun s Q E st hQ => si_end hh st.1 st.2 rfl (by rcases hb with ⟨hb, _⟩ | ⟨hb, he, _⟩; exact .inl ⟨hb, Nat.le_refl _⟩; exact .inr ⟨hb, he⟩) fun h' k => hQ h' s.toks fun b o hb e => k b o (fun h => hb (by simp [h])) e
  self := fun _ s _ _ st hQ => by
    refine wpAny_pyIter_slot st.1.typeIs slot_si_iter (wpAny_call_entry slot_si_iter st.1.typeIs ent_si_iter ?_ (arg_si_iter _))
    show wpAny _ _ (ret (.ref I)) _ _ s
    exact wpAny_pure ⟨_, rfl, "set_iterator", _, st.1.typeIs, slot_si_next.lookup, hQ⟩
theorem walk_sp (hh : A.handled = none) (I a tp : Addr) (hne : a ≠ I) (hnt : tp ≠ I) {es : Array (Int × Value)} {ep : Nat} {pl : List Nat} (hp : pl.Perm (List.range es.size)) :
    Walks prog w A I [I, a, tp] [I] es.size (fun i v => (pl.map fun j => (es.getD j (0, .none)).2)[i]? = some v) (fun i h => IsSI h I a (.ref tp) i es.size ep ∧ SetS prog w h a es ep ∧ ∃ ot cn, h.get? tp = some ot ∧ ot.data = .seq (pl.map fun (i : Nat) => rawInt i).toArray cn) where
  sub := fun b hb => by simp at hb; simp [hb]
  frame := fun _ _ _ st hk => ⟨st.1.keep fun o e => hk I (by simp) o e, st.2.1.keep fun o e => hk a (by simp) o e, let ⟨ot, cn, h1, h2⟩ := st.2.2; ⟨ot, cn, hk tp (by simp) _ h1, h2⟩⟩
  item := fun i s Q E hi st hQ => by
    obtain ⟨ot, cn, h1, h2⟩ := st.2.2
    have hl : pl.length = es.size := by rw [hp.length_eq, List.length_range]
    have ei : pl[i]? = some (pl[i]'(by omega)) := by simp
    have hj : pl[i]'(by omega) < es.size := List.mem_range.mp (hp.mem_iff.mp (List.getElem_mem _))
    have ej : es[pl[i]'(by omega)]? = some (es.getD (pl[i]'(by omega)) (0, .none)) := by
      rw [Array.getElem?_eq_getElem hj]
      simp [Array.getD, hj]
    refine sp_item st.1 st.2.1 rfl h1 h2 ei ej fun h' z k => ?_
    exact hQ _ h' s.toks (by rw [List.getElem?_map, ei]; rfl) ⟨z, st.2.1.keep fun o e => k.extBut a o hne e, ot, cn, k.extBut tp _ hnt h1, h2⟩ fun b o hb e => k.extBut b o (fun h => hb (by simp [h])) e
  done := fun s Q E st hQ => by
    obtain ⟨ot, cn, h1, h2⟩ := st.2.2
    have hl : pl.length = es.size := by rw [hp.length_eq, List.length_range]
    exact sp_end hh st.1 st.2.1 rfl h1 h2 (by simp; omega) fun h' k => hQ h' s.toks fun b o hb e => k b o (fun h => hb (by simp [h])) e
  self := fun _ s _ _ st hQ => by
    refine wpAny_pyIter_slot st.1.typeIs slot_si_iter (wpAny_call_entry slot_si_iter st.1.typeIs ent_si_iter ?_ (arg_si_iter _))
    show wpAny _ _ (ret (.ref I)) _ _ s
    exact wpAny_pure ⟨_, rfl, "set_iterator", _, st.1.typeIs, slot_si_next.lookup, hQ⟩
theorem perm_places {es : Array (Int × Value)} {pl : List Nat} (hp : pl.Perm (List.range es.size)) : (pl.map fun j => (es.getD j (0, .none)).2).Perm (es.toList.map (·.2)) := by
  refine (hp.map _).trans ?_
  have : (List.range es.size).map (fun j => (es.getD j (0, .none)).2) = es.toList.map (·.2) := by
    refine List.ext_getElem (by simp) fun i h1 h2 => ?_
    have hi : i < es.size := by simpa using h1
    simp [Array.getD, hi]
  rw [this]
theorem iter_set {a : Addr} {es : Array (Int × Value)} {ep : Nat} {Q : Value → Shared → Prop} (hh : A.handled = none) (S : SetS prog w s.heap a es ep) (h1 : es.size ≠ 1)
    (h : ∀ (I : Addr) (h' : Heap) d (order : List Value) (fp : List Addr) (St : Nat → Heap → Prop), order.Perm (es.toList.map (·.2)) → Walks prog w A I fp [I] es.size (fun i v => order[i]? = some v) St → St 0 h' → (∀ b o, s.heap.get? b = some o → h'.get? b = some o) → s.heap.objs.size ≤ I → (∀ b ∈ fp, b = a ∨ s.heap.objs.size ≤ b) → Q (.ref I) { s with heap := h', drawn := d }) :
    wpAny (model prog w) A (pyIter (.ref a)) Q E s := by
  obtain ⟨o, t, ho, hx, hd, hel, hb, hf, hpl⟩ := id S
  have hT : s.TypeIs (.ref a) "set" := ⟨o, ho, hx.1⟩
  have ha : a < s.heap.objs.size := Heap.lt_size ho
  refine wpAny_pyIter_slot hT F.slot_set_iter (wpAny_call_entry F.slot_set_iter hT ent_set_iter ?_ (F.args_set_iter_1 _))
  unfold Builtin.«frozenset.__iter__»
  refine wpAny_bind (wpAny_pure ?_)
  refine wpAny_bind ?_
  unfold Builtin.Frozenset.sizeOf
  refine wpAny_bind (S.entries (wpAny_pure ?_))
  have dr : ∀ {Q' : Bool → Shared → Prop}, Q' (!(w.params.followText "set-order") && (!t.plain && decide (es.size > 1))) s → wpAny (model prog w) A.in1 (setDrawn a) Q' E s := fun hq => by
    unfold setDrawn
    refine wpAny_bind (wpAny_setState_of ho hd hf ?_)
    dsimp only
    exact wpAny_bind (any_byText (wpAny_pure hq))
  refine wpAny_bind (dr ?_)
  by_cases hc : (!(w.params.followText "set-order") && (!t.plain && decide (es.size > 1))) = true
  · rw [if_pos hc]
    refine wpAny_bind (any_drawOrder es.size (List.range es.size) s _ List.length_range fun pl d hp => ?_)
    have hl : pl.length = es.size := by rw [hp.length_eq, List.length_range]
    refine wpAny_bind (wpAny_newTuple ?_ (by rw [List.length_map, hl]; exact fits_of_scanBound hb))
    have S1 : SetS prog w (s.heap.push { cls := .type "tuple", data := .seq (pl.map fun (i : Nat) => rawInt i).toArray }) a es ep := S.keep fun o e => Heap.get?_push_of_some _ e
    obtain ⟨o1, t1, g1, g2, g3, g4, g5, g6, g7⟩ := id S1
    refine wpAny_bind (wpAny_setEpoch_of (s := { s with heap := s.heap.push { cls := .type "tuple", data := .seq (pl.map fun (i : Nat) => rawInt i).toArray }, drawn := d }) g1 g3 g6 ?_)
    refine wpAny_bind (wpAny_newObj_type (wpAny_pure ⟨_, rfl, "set_iterator", _, ⟨_, Heap.get?_push_size _ rfl, rfl⟩, slot_si_next.lookup, ?_⟩))
    have z1 : (s.heap.push { cls := .type "tuple", data := .seq (pl.map fun (i : Nat) => rawInt i).toArray }).objs.size = s.heap.objs.size + 1 := Heap.size_push ..
    refine h _ _ d _ _ _ (perm_places hp) (walk_sp hh _ a s.heap.objs.size (by rw [z1]; exact Nat.ne_of_lt (Nat.lt_succ_of_lt ha)) (by rw [z1]; exact Nat.ne_of_lt (Nat.lt_succ_self _)) hp (ep := ep)) ?_ ?_ ?_ ?_
    · exact ⟨⟨_, Heap.get?_push_size _ rfl, rfl, rfl⟩, S1.keep fun o e => Heap.get?_push_of_some _ e, _, _, Heap.get?_push_of_some _ (Heap.get?_push_size _ rfl), rfl⟩
    · exact fun b o e => Heap.get?_push_of_some _ (Heap.get?_push_of_some _ e)
    · rw [z1]; exact Nat.le_succ _
    · intro b hb'
      simp only [List.mem_cons, List.not_mem_nil, or_false] at hb'
      rcases hb' with rfl | rfl | rfl
      · exact .inr (by rw [z1]; exact Nat.le_succ _)
      · exact .inl rfl
      · exact .inr (Nat.le_refl _)
  · rw [if_neg hc]
    refine wpAny_bind (wpAny_pure ?_)
    refine wpAny_bind (wpAny_setEpoch_of ho hd hf ?_)
    refine wpAny_bind (wpAny_newObj_type (wpAny_pure ⟨_, rfl, "set_iterator", _, ⟨_, Heap.get?_push_size _ rfl, rfl⟩, slot_si_next.lookup, ?_⟩))
    have hcase : w.params.followText "set-order" = true ∨ w.params.followText "set-order" = false ∧ es = #[] := by
      cases e : w.params.followText "set-order" with
      | true => exact .inl rfl
      | false =>
        refine .inr ⟨rfl, ?_⟩
        rw [e] at hc
        by_cases h0 : 0 < es.size
        · rw [hpl h0] at hc
          simp at hc
          omega
        · exact Array.size_eq_zero_iff.mp (by omega)
    obtain ⟨order, hp, hb'⟩ : ∃ order : List Value, order.Perm (es.toList.map (·.2)) ∧ (w.params.followText "set-order" = true ∧ order = (pickOrder (w.params.setOrder a ep) es).toList.map (·.2) ∨ w.params.followText "set-order" = false ∧ es = #[] ∧ order = []) := by
      rcases hcase with hc | ⟨hc, he⟩
      · exact ⟨_, (pick_perm _ _).map _, .inl ⟨hc, rfl⟩⟩
      · exact ⟨[], by rw [he]; exact List.Perm.refl _, .inr ⟨hc, he, rfl⟩⟩
    refine h _ _ s.drawn order _ _ hp (walk_si hh s.heap.objs.size a (Nat.ne_of_lt ha) hb') ?_ ?_ (Nat.le_refl _) ?_
    · exact ⟨⟨_, Heap.get?_push_size _ rfl, rfl, rfl⟩, S.keep fun o e => Heap.get?_push_of_some _ e⟩
    · exact fun b o e => Heap.get?_push_of_some _ e
    · intro b hb'
      simp only [List.mem_cons, List.not_mem_nil, or_false] at hb'
      rcases hb' with rfl | rfl
      · exact .inr (Nat.le_refl _)
      · exact .inl rfl
end
end L2
namespace L2
open PySem
section
variable {prog : Program} {w : World} {A : Around} {E : Value → Shared → Prop} {s : Shared}
theorem any_collect {x : Addr} {T : String} {Q : List Value → Shared → Prop} (hTm : T = "set" ∨ T = "dict") (hT : s.TypeIs (.ref x) T)
    (hI : wpAny (model prog w) A.in1 (pyIter (.ref x)) (fun v s2 => ∃ I fp wr n P St, v = .ref I ∧ WalksS prog w A.in1 I fp wr (fun a b => b = a) n P St ∧ St 0 s2 ∧ s.heap.objs.size ∉ fp ∧ n ≤ sizeLine ∧
      (∀ b o, (s.heap.push { cls := .type "list", data := .seq #[] }).get? b = some o → s2.heap.get? b = some o) ∧
      ∀ acc s3, ItemsOf P acc n → Moved (s.heap.objs.size :: wr) (fun a b => b = a) s2 s3 → s.heap.objs.size < s3.heap.objs.size → Q acc.toList s3) E { s with heap := s.heap.push { cls := .type "list", data := .seq #[] } }) : wpAny (model prog w) A (collect (.ref x)) Q E s := by
  unfold collect
  refine wpAny_bind (wpAny_runValue (codeAny_builtin F.entry_proto_collect ?_))
  rw [Around.under_plainId F.plain_proto_collect _]
  show wpAny _ A.in1 (newList [] >>= fun l => again (.builtin "list.__iadd__" ⟨[l, .ref x], []⟩)) _ _ s
  refine wpAny_bind (wpAny_newObj_type ?_)
  refine wpAny_pure ⟨plainId_quiet F.plain_list_iadd _, codeAny_builtin F.entry_list_iadd ?_⟩
  rw [Around.under_plainId F.plain_list_iadd _]
  show wpAny _ A.in1 (Builtin.List.listExtendWith (.ref s.heap.objs.size) (.ref x) (.ref s.heap.objs.size)) _ _ _
  obtain ⟨ox, hox, hcx⟩ := hT
  have hx : s.heap.objs.size ≠ x := Ne.symm (Nat.ne_of_lt (Heap.lt_size hox))
  have k1 : (s.heap.push { cls := .type "list", data := .seq ([] : List Value).toArray }).get? x = some ox := Heap.get?_push_of_some _ hox
  have S1 : (s.heap.push { cls := .type "list", data := .seq ([] : List Value).toArray }).get? s.heap.objs.size = some { cls := .type "list", data := .seq ([] : List Value).toArray } := Heap.get?_push_size _ rfl
  have h1 : Builtin.List.listSameRef (.ref s.heap.objs.size) (.ref x) = false := by simp [Builtin.List.listSameRef, hx]
  unfold Builtin.List.listExtendWith
  refine wpAny_bind (wpAny_typeOf (T := T) ⟨ox, k1, hcx⟩ ?_)
  have hTl : (Value.type T == Value.type "list") = false := by rcases hTm with rfl | rfl <;> decide
  have hTt : (Value.type T == Value.type "tuple") = false := by rcases hTm with rfl | rfl <;> decide
  simp only [h1, hTl, hTt, Bool.or_false, Bool.false_eq_true, if_false]
  refine wpAny_bind (wpAny_mono hI ?_ fun _ _ e => e)
  rintro v s2 ⟨I, fp, wr, n, P, St, rfl, W, st, hSf, hn, kp, fin⟩
  have k2 := kp _ _ k1
  have S2 := kp _ _ S1
  refine wpAny_bind (wpAny_holding ?_)
  unfold Builtin.List.listLengthHint
  rcases hTm with rfl | rfl
  all_goals
    refine wpAny_bind (wpAny_specialOf (T := _) ⟨ox, k2, hcx⟩ (by first | exact len_set | exact len_dict) ?_)
    first
      | (generalize hid : ("set.__len__" : String) = id0; (fail_if_success (clear hid id0)); wp_delta; rw [show splitId id0 = some ("set", "__len__") from by subst hid; decide +kernel]; subst hid)
      | (generalize hid : ("dict.__len__" : String) = id0; (fail_if_success (clear hid id0)); wp_delta; rw [show splitId id0 = some ("dict", "__len__") from by subst hid; decide +kernel]; subst hid)
    dsimp only
    refine wpAny_bind (wpAny_isInstance (b := true) (T := _) ⟨ox, k2, hcx⟩ (by rw [isSubtype_type]; kernel_rfl) ?_)
    rw [if_neg (by decide)]
    rw [if_pos (by decide +kernel)]
    refine wpAny_bind (wpAny_typeOf (T := _) ⟨ox, k2, hcx⟩ ?_)
    refine wpAny_pure ?_
    rw [if_pos (by decide +kernel)]
    refine wpAny_bind (wpAny_rule ?_)
    refine wpAny_bind ?_
    show wpAny _ A.in1 (updateSeq s.heap.objs.size (·.push .none) >>= fun _ => updateSeq s.heap.objs.size (·.pop)) _ _ _
    refine wpAny_bind (wpAny_updateSeq S2 rfl ?_)
    have S3 := Heap.get?_update_self (Obj.mapSeq (·.push Value.none)) S2 rfl
    refine wpAny_updateSeq S3 rfl ?_
    have S4 := Heap.get?_update_self (Obj.mapSeq (·.pop)) S3 rfl
    have oth : ∀ b o, b ≠ s.heap.objs.size → s2.heap.get? b = some o → ((s2.heap.update s.heap.objs.size (Obj.mapSeq (·.push Value.none))).update s.heap.objs.size (Obj.mapSeq (·.pop))).get? b = some o :=
      fun b o hb e => (Heap.get?_update_other _ _ (Ne.symm hb)).trans ((Heap.get?_update_other _ _ (Ne.symm hb)).trans e)
    refine wpAny_pure ⟨plainId_quiet F.plain_extend_loop _, codeAny_extend_loopS W hn _ hSf _ n 0 _ _ _ rfl (Nat.zero_le _) (W.frame 0 s2 _ s2.toks st (Nat.le_refl _) fun b hb o e => oth b o (fun h => hSf (h ▸ hb)) e) S4 (ItemsOf.nil P) fun s' acc' c' hm hS' hacc => ?_⟩
    show wpAny _ A (load s.heap.objs.size >>= _) _ _ s'
    refine wpAny_bind (wpAny_load hS' ?_)
    refine wpAny_pure (fin acc' s' hacc (Moved.trans W.gtrans ((Moved.refl (wr := s.heap.objs.size :: wr) (G := fun a b => b = a) (s := s2) W.grefl).then_heap (Nat.le_refl _) fun b o hb e => oth b o (fun z => hb (by rw [z]; exact List.mem_cons_self)) e) hm) (Heap.lt_size hS'))
end
end L2
namespace L2
open PySem PyProof.Rows
def nameOf (e : Int × Value) : Str := strOf e.2
def MetS (val : Nat → Str) (i : Nat) (es : Array (Int × Value)) : Prop := (es.toList.map nameOf).Nodup ∧ (∀ x, x ∈ es.toList.map nameOf ↔ ∃ j, j < i ∧ val j = x) ∧ es.size ≤ i
theorem MetS.zero (val : Nat → Str) : MetS val 0 #[] := ⟨by simp, fun x => ⟨fun h => by simp at h, fun ⟨j, hj, _⟩ => absurd hj (Nat.not_lt_zero j)⟩, Nat.le_refl _⟩
theorem is_name {prog : Program} {w : World} {es : Array (Int × Value)} (hel : ElemsOf (strKind prog w) es.toList) (k : Str) : (∃ e ∈ es.toList, (strKind prog w).is k e.2 = true) ↔ k ∈ es.toList.map nameOf := by
  constructor
  · rintro ⟨e, he, hk⟩
    obtain ⟨t, et⟩ := isStr_scan hk
    exact List.mem_map.mpr ⟨e, he, by unfold nameOf; rw [et]; rfl⟩
  · intro h
    obtain ⟨e, he, hk⟩ := List.mem_map.mp h
    obtain ⟨⟨k', hk', _⟩, _⟩ := hel e he
    obtain ⟨t, et⟩ := isStr_scan hk'
    unfold nameOf at hk
    rw [et] at hk
    have hk : k' = k := hk
    rw [← hk]
    exact ⟨e, he, hk'⟩
theorem MetS.step {prog : Program} {w : World} {val : Nat → Str} {i : Nat} {es es' : Array (Int × Value)} {t : Tok} (M : MetS val i es) (hel : ElemsOf (strKind prog w) es.toList)
    (h : (∃ e ∈ es.toList, (strKind prog w).is (val i) e.2 = true) ∧ es' = es ∨ (¬ ∃ e ∈ es.toList, (strKind prog w).is (val i) e.2 = true) ∧ es'.toList.Perm (es.toList ++ [((strKind prog w).hash (val i), .str (val i) t)])) : MetS val (i + 1) es' := by
  rw [is_name hel] at h
  have lt : ∀ x, (∃ j, j < i + 1 ∧ val j = x) ↔ (∃ j, j < i ∧ val j = x) ∨ val i = x := fun x => by
    constructor
    · rintro ⟨j, hj, e⟩
      by_cases z : j = i
      · exact .inr (z ▸ e)
      · exact .inl ⟨j, by omega, e⟩
    · rintro (⟨j, hj, e⟩ | e)
      · exact ⟨j, by omega, e⟩
      · exact ⟨i, by omega, e⟩
  rcases h with ⟨h1, rfl⟩ | ⟨h1, h2⟩
  · refine ⟨M.1, fun x => ?_, by have := M.2.2; omega⟩
    rw [lt, M.2.1 x]
    refine ⟨.inl, fun z => z.elim id fun z => ?_⟩
    rw [← M.2.1 x, ← z]
    exact h1
  · have hm : (es'.toList.map nameOf).Perm (es.toList.map nameOf ++ [val i]) := by
      have := h2.map nameOf
      rw [List.map_append] at this
      exact this
    refine ⟨?_, fun x => ?_, ?_⟩
    · rw [hm.nodup_iff, List.nodup_append]
      exact ⟨M.1, by simp, fun a ha b hb => by rw [show b = val i by simpa using hb]; exact fun z => h1 (z ▸ ha)⟩
    · rw [hm.mem_iff, List.mem_append, M.2.1 x, lt]
      exact or_congr_right ⟨fun z => (by simpa using z : x = val i).symm, fun z => by simp [z]⟩
    · have := h2.length_eq
      rw [List.length_append, Array.length_toList, Array.length_toList] at this
      have := M.2.2
      simp at *
      omega
section
variable {prog : Program} {w : World} {A : Around} {R : Result → Shared → Prop} {I : Addr} {fp wr : List Addr} {G : Array GenState → Array GenState → Prop} {n : Nat} {P : Nat → Value → Prop} {St : Nat → Shared → Prop}
theorem set_fill (W : WalksS prog w A.in1 I fp wr G n P St) (S : Addr) (hSf : S ∉ fp) (val : Nat → Str) (hval : ∀ i v, P i v → ∃ t, v = .str (val i) t) (hb : n + 1 < scanBound) :
    ∀ (k i : Nat) (s : Shared) (es : Array (Int × Value)) (ep : Nat), n - i = k → i ≤ n → St i s → SetS prog w s.heap S es ep → MetS val i es →
      (∀ s' es' ep', Moved (S :: wr) G s s' → SetS prog w s'.heap S es' ep' → MetS val n es' → R (.ok (.ret .none)) s') →
      codeAny (model prog w) A (.builtin "set.update.loop" ⟨[.ref S, .ref I], []⟩) R s := by
  have nw : S ∉ wr := fun h => hSf (W.sub _ h)
  have mo : ∀ b ∈ wr, b ∈ S :: wr := fun b hb => List.mem_cons_of_mem _ hb
  intro k
  induction k with
  | zero =>
    intro i s es ep hk hi hst hS hM hR
    obtain rfl : i = n := by omega
    refine codeAny_builtin F.entry_set_update_loop ?_
    rw [Around.under_plainId F.plain_set_update_loop _]
    refine wpAny_bind (W.done s _ _ hst fun s' hm => ?_)
    exact wpAny_pure (hR s' es ep (hm.mono mo) (hS.keep fun o e => hm.heap S o nw e) hM)
  | succ k ih =>
    intro i s es ep hk hi hst hS hM hR
    have hlt : i < n := by omega
    refine codeAny_builtin F.entry_set_update_loop ?_
    rw [Around.under_plainId F.plain_set_update_loop _]
    refine wpAny_bind (W.item i s _ _ hlt hst fun v s' hP hst' hm => ?_)
    obtain ⟨t, rfl⟩ := hval i v hP
    have hS' : SetS prog w s'.heap S es ep := hS.keep fun o e => hm.heap S o nw e
    have hel : ElemsOf (strKind prog w) es.toList := let ⟨_, _, _, _, _, h, _⟩ := hS; h
    show wpAny _ A.in1 (holding [Value.str (val i) t] (setAdd S (.str (val i) t)) >>= _) _ _ s'
    refine wpAny_bind (wpAny_holding ?_)
    unfold setAdd
    refine wpAny_holding (wpAny_bind ((strKind prog w).pyHash (k := val i) (by show Value.isStrOf (val i) (.str (val i) t) = true; simp [Value.isStrOf]) ?_))
    refine set_add (s := { s' with toks := s'.toks + 1 }) hS' (by have := hM.2.2; omega) fun b h' es' ep' hsb hS2 hc => ?_
    refine wpAny_pure ⟨plainId_quiet F.plain_set_update_loop _, ih (i + 1) _ es' ep' (by omega) hlt (W.frame _ s' _ _ hst' (Nat.le_succ _) fun b hb o e => ?_) hS2 (hM.step hel hc) fun s'' es'' ep'' hm'' hS'' hM'' => ?_⟩
    · rw [hsb.2 b (fun h : b = S => hSf (by rw [← h]; exact hb))]
      exact e
    · refine hR s'' es'' ep'' (Moved.trans W.gtrans ((hm.mono mo).then_heap (Nat.le_succ _) fun b o hb e => ?_) hm'') hS'' hM''
      rw [hsb.2 b (fun h : b = S => hb (by rw [h]; exact List.mem_cons_self))]
      exact e
end
section
variable {prog : Program} {w : World} {A : Around} {E : Value → Shared → Prop} {s : Shared}
theorem strs_at : ∀ {vs : List Value} {ss : List Str}, StrsAre vs ss → ∀ (i : Nat) (v : Value), vs[i]? = some v → ∃ t, v = .str (ss.getD i ⟨#[]⟩) t
  | _, _, .nil, i, v, h => by simp at h
  | _, _, .cons x t r, 0, v, h => by cases h; exact ⟨t, rfl⟩
  | _, _, .cons x t r, i + 1, v, h => by
    have := strs_at r i v (by simpa using h)
    simpa using this
theorem set_of_strs {l : Addr} {items : Array Value} {ss : List Str} {Q : Value → Shared → Prop} (hh : A.handled = none) (hl : s.heap.IsList l items) (hi : StrsAre items.toList ss) (hb : items.size + 1 < scanBound)
    (h : ∀ (h' : Heap) (tk : Nat) es ep, SetS prog w h' s.heap.objs.size es ep → MetS (fun i => ss.getD i ⟨#[]⟩) items.size es → (∀ b o, b < s.heap.objs.size → s.heap.get? b = some o → h'.get? b = some o) → Q (.ref s.heap.objs.size) { s with heap := h', toks := tk }) :
    wpAny (model prog w) A (call (.type "set") [.ref l]) Q E s := by
  obtain ⟨c, tl, hmro⟩ := F.called_set.mro
  have hmade := F.called_set.made
  have hsub := F.called_set.sub
  refine wpAny_call (codeAny_of_tree ?_)
  show wpAny _ _ (callAny (.type "set") _) _ _ _
  refine wpAny_pure ⟨Code.quiet_builtin _ (by decide +kernel), codeAny_builtin F.entry_type_call ?_⟩
  rw [Around.under_plain (weight_type_call_type "set" [.ref l] []) rfl]
  have q1 := F.called_set.notType
  have q2 := F.called_set.canCreate
  have q3 := F.typeCall_set_1 (.ref l)
  repeat (any_goals (first | assumption | wp_step))
  refine codeAny_mono (code_set_new_1 (.ref l) (E := E) (Q₁ := fun ob s₁ => ∃ led : Bool, ob = .ref s.heap.objs.size ∧ s₁ = { s with heap := s.heap.push { cls := .type "set", dict := none, data := .set #[] 0 (.fresh 0 0 led) } }) fun led => ⟨led, rfl, rfl⟩) fun r s₁ hr => ?_
  cases r with
  | error e => exact hr
  | ok fl =>
    cases fl with
    | ret ob =>
      obtain ⟨led, rfl, rfl⟩ := hr
      generalize hN : s.heap.push { cls := .type "set", dict := none, data := .set #[] 0 (.fresh 0 0 led) } = N
      have sN : N.objs.size = s.heap.objs.size + 1 := by rw [← hN]; exact Heap.size_push ..
      have hS : N.get? s.heap.objs.size = some { cls := .type "set", dict := none, data := .set #[] 0 (.fresh 0 0 led) } := by rw [← hN]; exact Heap.get?_push_size _ rfl
      have kN : ∀ b o, s.heap.get? b = some o → N.get? b = some o := fun b o e => by rw [← hN]; exact Heap.get?_push_of_some _ e
      have hT : Shared.TypeIs { s with heap := N } (.ref s.heap.objs.size) "set" := ⟨_, hS, rfl⟩
      have q4 := F.called_set.init.lookup
      have q5 := F.called_set.init.bind (.ref s.heap.objs.size)
      repeat (any_goals (first | assumption | wp_step))
      refine codeAny_mono (codeAny_call_builtin (R := wants (fun r s₂ => r = .none ∧ ∃ h' tk es ep, s₂ = { s with heap := h', toks := tk } ∧ SetS prog w h' s.heap.objs.size es ep ∧ MetS (fun i => ss.getD i ⟨#[]⟩) items.size es ∧
          (∀ b o, b < s.heap.objs.size → s.heap.get? b = some o → h'.get? b = some o)) E) F.called_set.init.plain F.entry_set_init (check_set_init_1 hT ?_)) fun r₂ s₂ hr₂ => ?_
      · obtain ⟨ol, hol, hcl, nl, hdl⟩ := hl
        obtain ⟨ocls, odict, odata, oslots⟩ := ol
        simp only at hcl hdl
        subst hcl; subst hdl
        have hol' := kN _ _ hol
        have q6 := F.sub_list_set
        have q7 := F.sub_list_frozenset
        have q8 : (Value.type "list" == Value.type "dict") = false := by decide
        have hl1 : N.IsList l items := ⟨_, hol', rfl, nl, rfl⟩
        unfold Builtin.«set.__init__» noKeywords Builtin.Frozenset.updateFrom
        generalize hPI : pyIter = PI
        wp_walk
        subst hPI
        refine wpAny_pyIter_list hl1 (wpAny_bind (wpAny_runValue ?_))
        have hlS : l < s.heap.objs.size := Heap.lt_size hol
        have hh3 : A.in1.in1.in1.handled = none := by simp [hh]
        have hneI : l ≠ N.objs.size := by rw [sN]; exact Nat.ne_of_lt (Nat.lt_succ_of_lt hlS)
        have hSf : s.heap.objs.size ∉ [N.objs.size, l] := by
          rw [sN]
          simp only [List.mem_cons, List.not_mem_nil, or_false, not_or]
          exact ⟨Nat.ne_of_lt (Nat.lt_succ_self _), Nat.ne_of_gt hlS⟩
        refine set_fill ((Walks.list hh3 _ l hneI items).toS) s.heap.objs.size hSf (fun i => ss.getD i ⟨#[]⟩) (fun i v hv => strs_at hi i v (by rw [Array.getElem?_toList]; exact hv)) hb (items.size - 0) 0 _ #[] 0 (by omega) (Nat.zero_le _) ⟨⟨_, Heap.get?_push_size _ rfl, rfl, rfl⟩, (hl1.push _)⟩ ?_ (MetS.zero _) ?_
        · exact ⟨_, _, Heap.get?_push_of_some _ hS, ⟨rfl, rfl, rfl⟩, rfl, fun e he => by simp at he, by unfold scanBound; decide, by rfl, fun h => absurd h (by simp)⟩
        · intro s' es ep hm hS' hM
          obtain ⟨h', g', d', tk', os'⟩ := s'
          have eg : g' = s.gens := hm.gens
          have ed : d' = s.drawn := hm.drawn
          have eo : os' = s.os := hm.os
          subst eg; subst ed; subst eo
          refine wpAny_pure (wpAny_pure ⟨rfl, h', tk', es, ep, rfl, hS', hM, fun b o hb' e => ?_⟩)
          refine hm.heap b o ?_ (Heap.get?_push_of_some _ (kN _ _ e))
          simp only [List.mem_cons, List.not_mem_nil, or_false, not_or]
          exact ⟨Nat.ne_of_lt hb', by rw [sN]; exact Nat.ne_of_lt (Nat.lt_succ_of_lt hb')⟩
      · cases r₂ with
        | error e => exact hr₂
        | ok fl₂ =>
          cases fl₂ with
          | ret r =>
            obtain ⟨rfl, h', tk, es, ep, rfl, hS', hM, hk'⟩ := hr₂
            repeat (any_goals (first | assumption | wp_step))
            exact h _ _ _ _ hS' hM hk'
          | _ => exact hr₂.elim
    | _ => exact hr.elim
end
end L2
namespace L2
open PySem PyProof.Rows
section
variable {prog : Program} {w : World} {A : Around} {E : Value → Shared → Prop} {s : Shared}
theorem sorted_walk {x : Value} {Q : Value → Shared → Prop} (hc : wpAny (model prog w) A.in1 (collect x) (fun vs s' => ∃ ss, StrsAre vs ss ∧ vs.length < 64 ∧
      ∀ (h2 : Heap) (its : List Value) (ss' : List Str) (e : Nat), (∀ b o, s'.heap.get? b = some o → h2.get? b = some o) → h2.get? s'.heap.objs.size = some (seqObj "list" its.toArray e) → StrsAre its ss' → ss'.Perm ss → sortedS ss' = true → Q (.ref s'.heap.objs.size) { s' with heap := h2 }) E s) :
    wpAny (model prog w) A (call (.builtin "sorted") [x]) Q E s := by
  refine Calls.call_function_entry kind_sorted plain_sorted entry_sorted (args_sorted1 _) ?_
  unfold Builtin.«sorted»
  refine wpAny_bind (m := checkCount "sorted" 1 1 _) (wpAny_pure (wpAny_bind (wpAny_mono hc ?_ fun _ _ e => e)))
  rintro vs s' ⟨ss, hS, h64, fin⟩
  refine wpAny_bind (wpAny_newList ?_ (by rw [sizeLine_eq]; omega))
  have oG : (s'.heap.push (seqObj "list" vs.toArray 0)).get? s'.heap.objs.size = some (seqObj "list" vs.toArray 0) := Heap.get?_push_size _ rfl
  show wpAny _ _ _ _ _ { s' with heap := s'.heap.push (seqObj "list" vs.toArray 0) }
  refine wpAny_bind (wpAny_holding (wpAny_call_entry slot_list_sort ⟨_, oG, rfl⟩ entry_list_sort (list_sort_treeK strKind_oneLt oG hS.keysOf (fun v₁ v₂ rest e => keyKind_strs (by rw [← e]; exact hS)) h64 fun st' hp hs => ⟨_, rfl, ?_⟩) (args_list_sort _)))
  obtain ⟨ss', h1, h2, h3⟩ := sorted_out_str hS hp hs
  obtain ⟨e, he⟩ := sortedHeap_at (out := (arrOf st').map (·.2)) oG
  refine wpAny_pure ⟨_, rfl, fin _ ((arrOf st').map (·.2)).toList ss' e (fun b o hb => ?_) he h1 h2 h3⟩
  have hlt : b < s'.heap.objs.size := Heap.lt_size hb
  rw [sortedHeap_old (Nat.ne_of_lt hlt) (by rw [size_push']; exact Nat.lt_succ_of_lt hlt), Heap.get?_push_ne _ _ _ (Nat.ne_of_lt hlt)]
  exact hb
theorem items_strs {order : List Value} {acc : Array Value} {n : Nat} (hn : order.length = n) (h : ItemsOf (fun i v => order[i]? = some v) acc n) : acc.toList = order := by
  refine List.ext_getElem? fun i => ?_
  rw [Array.getElem?_toList]
  by_cases hi : i < n
  · have hi' : i < acc.size := by rw [h.1]; exact hi
    rw [Array.getElem?_eq_getElem hi']
    exact (h.2 i _ (Array.getElem?_eq_getElem hi')).symm
  · rw [Array.getElem?_eq_none (by rw [h.1]; omega), List.getElem?_eq_none (by omega)]
theorem elems_strs {es : Array (Int × Value)} (hel : ElemsOf (PySem.strKind prog w) es.toList) {order : List Value} (hp : order.Perm (es.toList.map (·.2))) : StrsAre order (order.map strOf) :=
  strsAre_map order fun v hv => by
    obtain ⟨e, he, rfl⟩ := List.mem_map.mp (hp.mem_iff.mp hv)
    obtain ⟨⟨k, hk, _⟩, _⟩ := hel e he
    obtain ⟨t, et⟩ := isStr_scan hk
    exact ⟨k, t, et⟩
theorem sorted_set {a : Addr} {es : Array (Int × Value)} {ep : Nat} {Q : Value → Shared → Prop} (hh : A.handled = none) (S : SetS prog w s.heap a es ep) (h1 : es.size ≠ 1) (h64 : es.size < 64)
    (h : ∀ (h2 : Heap) d tk l (its : List Value) (out : List Str) (e : Nat), (∀ b o, s.heap.get? b = some o → h2.get? b = some o) → s.heap.objs.size ≤ l → h2.get? l = some (seqObj "list" its.toArray e) → StrsAre its out → out.Perm (es.toList.map nameOf) → sortedS out = true → Q (.ref l) { s with heap := h2, drawn := d, toks := tk }) :
    wpAny (model prog w) A (call (.builtin "sorted") [.ref a]) Q E s := by
  obtain ⟨o, t, ho, hx, hd, hel, hb, hf, hpl⟩ := id S
  have ha : a < s.heap.objs.size := Heap.lt_size ho
  refine sorted_walk (any_collect (.inl rfl) ⟨o, ho, hx.1⟩ ?_)
  refine iter_set (s := { s with heap := s.heap.push { cls := .type "list", data := .seq #[] } }) hh (S.keep fun o e => Heap.get?_push_of_some _ e) h1 fun I h' d order fp St hp W st kp hI hfp => ?_
  have z1 : (s.heap.push { cls := .type "list", data := .seq #[] }).objs.size = s.heap.objs.size + 1 := Heap.size_push ..
  rw [z1] at hI hfp
  have hl : order.length = es.size := by rw [hp.length_eq, List.length_map, Array.length_toList]
  refine ⟨I, fp, [I], es.size, _, _, rfl, W.toS, st, ?_, fits_of_scanBound hb, kp, fun acc s3 hacc hm hz => ?_⟩
  · intro hm
    rcases hfp _ hm with z | z
    · exact Nat.lt_irrefl _ (z ▸ ha)
    · exact Nat.not_succ_le_self _ z
  have eo := items_strs hl hacc
  rw [eo]
  refine ⟨_, elems_strs hel hp, by rw [hl]; exact h64, fun h2 its ss' e k2 g2 a1 a2 a3 => ?_⟩
  obtain ⟨h3, g3, d3, tk3, os3⟩ := s3
  have eos : os3 = s.os := hm.os
  have egs : g3 = s.gens := hm.gens
  subst eos egs
  have kk : ∀ b o, s.heap.get? b = some o → h3.get? b = some o := fun b o e => by
    have hb' : b < s.heap.objs.size := Heap.lt_size e
    refine hm.heap b o ?_ (kp _ _ (Heap.get?_push_of_some _ e))
    simp only [List.mem_cons, List.not_mem_nil, or_false, not_or]
    exact ⟨Nat.ne_of_lt hb', Nat.ne_of_lt (Nat.lt_of_lt_of_le hb' (Nat.le_of_succ_le hI))⟩
  refine h h2 d3 tk3 _ its ss' e (fun b o e => k2 _ _ (kk _ _ e)) ?_ g2 a1 ?_ a3
  · exact Nat.le_of_lt hz
  · refine a2.trans ?_
    have := hp.map strOf
    rw [List.map_map] at this
    exact this
end
end L2
namespace L2
open PySem PySem.Spec PyProof.Rows
def leS (a b : Str) : Prop := a.cps.toList ≤ b.cps.toList
theorem lt_le {a b : Str} : ltCps b.cps.toList a.cps.toList = false ↔ leS a b := by
  rw [ltCps_eq, decide_eq_false_iff_not]
  exact Iff.rfl
theorem leS.trans {a b c : Str} (h1 : leS a b) (h2 : leS b c) : leS a c := List.le_trans h1 h2
theorem leS.anti {a b : Str} (h1 : leS a b) (h2 : leS b a) : a = b := by
  have := List.le_antisymm h1 h2
  cases a; cases b
  simp at this
  rw [this]
theorem rising_all : ∀ (p : Str) (l : List Str), risingS p l = true → ∀ x ∈ l, leS p x
  | p, [], _, x, hx => by cases hx
  | p, y :: r, h, x, hx => by
    have h : (!ltCps y.cps.toList p.cps.toList && risingS y r) = true := h
    rw [Bool.and_eq_true, Bool.not_eq_true'] at h
    have h1 := lt_le.mp h.1
    rcases List.mem_cons.mp hx with rfl | z
    · exact h1
    · exact h1.trans (rising_all y r h.2 x z)
theorem sorted_all : ∀ (x : Str) (l : List Str), sortedS (x :: l) = true → (∀ y ∈ l, leS x y) ∧ sortedS l = true
  | x, l, h => ⟨rising_all x l h, by
    cases l with
    | nil => rfl
    | cons y r =>
      have h : (!ltCps y.cps.toList x.cps.toList && risingS y r) = true := h
      rw [Bool.and_eq_true] at h
      exact h.2⟩
theorem sorted_one : ∀ (l m : List Str), sortedS l = true → sortedS m = true → l.Nodup → m.Nodup → (∀ x, x ∈ l ↔ x ∈ m) → l = m
  | [], [], _, _, _, _, _ => rfl
  | [], y :: m, _, _, _, _, h => by have := (h y).mpr (List.mem_cons_self ..); cases this
  | x :: l, [], _, _, _, _, h => by have := (h x).mp (List.mem_cons_self ..); cases this
  | x :: l, y :: m, s1, s2, n1, n2, h => by
    have a1 := sorted_all x l s1
    have a2 := sorted_all y m s2
    have e : x = y := by
      rcases List.mem_cons.mp ((h x).mp (List.mem_cons_self ..)) with z | z
      · exact z
      · rcases List.mem_cons.mp ((h y).mpr (List.mem_cons_self ..)) with q | q
        · exact q.symm
        · exact (a1.1 y q).anti (a2.1 x z)
    subst e
    rw [List.nodup_cons] at n1 n2
    rw [sorted_one l m a1.2 a2.2 n1.2 n2.2 fun z => ?_]
    constructor
    · intro hz
      rcases List.mem_cons.mp ((h z).mp (List.mem_cons_of_mem _ hz)) with q | q
      · exact absurd (q ▸ hz) n1.1
      · exact q
    · intro hz
      rcases List.mem_cons.mp ((h z).mpr (List.mem_cons_of_mem _ hz)) with q | q
      · exact absurd (q ▸ hz) n2.1
      · exact q
theorem nodup_len {α : Type} [DecidableEq α] : ∀ (l m : List α), l.Nodup → (∀ x ∈ l, x ∈ m) → l.length ≤ m.length
  | [], m, _, _ => Nat.zero_le _
  | x :: l, m, n, h => by
    rw [List.nodup_cons] at n
    have := nodup_len l (m.erase x) n.2 fun y hy => (List.mem_erase_of_ne (fun z : y = x => n.1 (z ▸ hy))).mpr (h y (List.mem_cons_of_mem _ hy))
    have e := List.length_erase_of_mem (h x (List.mem_cons_self ..))
    have p := List.length_pos_of_mem (h x (List.mem_cons_self ..))
    simp only [List.length_cons]
    omega
theorem sum_at {x : Str} {v : Int} : ∀ (l : List Str), l.Nodup → x ∈ l → (l.map fun a => if a = x then v else 0).sum = v
  | [], _, h => by cases h
  | y :: l, n, h => by
    rw [List.nodup_cons] at n
    rw [List.map_cons, List.sum_cons]
    have zero : ∀ m : List Str, x ∉ m → (m.map fun a => if a = x then v else 0).sum = 0 := fun m => by
      induction m with
      | nil => intro _; rfl
      | cons z m ih =>
        intro hm
        rw [List.map_cons, List.sum_cons, ih fun q => hm (List.mem_cons_of_mem _ q), if_neg fun q : z = x => hm (by rw [← q]; exact List.mem_cons_self ..)]
        rfl
    by_cases e : y = x
    · rw [if_pos e, zero l (e ▸ n.1)]
      omega
    · rw [if_neg e, sum_at l n.2 ((List.mem_cons.mp h).resolve_left fun q => e q.symm)]
      omega
end L2
set_option Elab.async false
set_option linter.all false
set_option maxRecDepth 100000
set_option maxHeartbeats 4000000
namespace L2
open PySem PySem.Spec PyProof.Rows
section
variable {κ : Type} [DecidableEq κ]
def putK (kvs : List (κ × V)) (k : κ) (v : V) : List (κ × V) :=
  if (kvs.any fun kv => decide (kv.1 = k)) = true then kvs.map (fun kv => if kv.1 = k then (kv.1, v) else kv) else kvs ++ [(k, v)]
theorem length_putK (kvs : List (κ × V)) (k : κ) (v : V) : (putK kvs k v).length ≤ kvs.length + 1 := by
  unfold putK
  split
  · rw [List.length_map]; omega
  · rw [List.length_append, List.length_cons, List.length_nil]; omega
theorem KV.any {kvs : List (κ × V)} {vs : List (κ × Value)} (r : KV kvs vs) (k : κ) : (kvs.any fun kv => decide (kv.1 = k)) = vs.any fun kv => decide (kv.1 = k) := by
  unfold KV at r
  induction r with
  | nil => rfl
  | cons h t ih => rw [List.any_cons, List.any_cons, ih, h.1]
theorem KV.repl {kvs : List (κ × V)} {vs : List (κ × Value)} (r : KV kvs vs) (k : κ) {y : V} {u : Value} (ry : RelV y u) :
    KV (kvs.map fun kv => if kv.1 = k then (kv.1, y) else kv) (vs.map fun kv => if kv.1 = k then (kv.1, u) else kv) := by
  unfold KV at r ⊢
  induction r with
  | nil => exact .nil
  | @cons p q ps qs h t ih =>
    rw [List.map_cons, List.map_cons]
    refine .cons ?_ ih
    obtain ⟨h1, h2⟩ := h
    by_cases e : p.1 = k
    · rw [if_pos e, if_pos (h1.symm.trans e)]; exact ⟨h1, ry⟩
    · rw [if_neg e, if_neg (fun z => e (h1.trans z))]; exact ⟨h1, h2⟩
theorem KV.put {kvs : List (κ × V)} {vs : List (κ × Value)} (r : KV kvs vs) (k : κ) {y : V} {u : Value} (ry : RelV y u) : KV (putK kvs k y) (stored vs k u) := by
  unfold putK stored
  rw [r.any k]
  by_cases e : (vs.any fun kv => decide (kv.1 = k)) = true
  · rw [if_pos e, if_pos e]; exact r.repl k ry
  · rw [if_neg e, if_neg e]; exact Paired.snoc r ⟨rfl, ry⟩
theorem KV.keys {kvs : List (κ × V)} {vs : List (κ × Value)} (r : KV kvs vs) : kvs.map (·.1) = vs.map (·.1) := by
  unfold KV at r
  induction r with
  | nil => rfl
  | cons h t ih => rw [List.map_cons, List.map_cons, ih, h.1]
end
theorem kV_is {P : Program} {w : World} {k : Key} {u : Value} (r : RelV (kV k) u) : (mixKind P w).is k u = true := by
  cases k with
  | inl i => obtain ⟨t, e⟩ := (show ∃ t, u = Value.int i t from r); subst e; exact mixKind_int P w i t
  | inr x => obtain ⟨t, e⟩ := (show ∃ t, u = Value.str x t from r); subst e; exact mixKind_str P w x t
theorem dk_of {P : Program} {w : World} {H : Hp} {h : Heap} {a : Addr} {kvs : List (Key × V)} (ok : HOk P w H h) (e : H a = some (.dK kvs)) : kvs.length ≤ sizeLine ∧ (a == sysModules) = false ∧ ∃ vs, KV kvs vs ∧ h.DictOf (mixKind P w) a vs :=
  show ObjOk P w H h a (.dK kvs) from ok a _ e
def sDPutK (td ty tv : TE) : TS := fun D σ H => tv σ H fun v H1 => td σ H1 fun x H2 => ty σ H2 fun y H3 => ∃ a kvs k, x = .ref a ∧ H3 a = some (.dK kvs) ∧ y = kV k ∧ kvs.length < sizeLine ∧ D.nx σ (upd H3 a (.dK (putK kvs k v)))
section
variable {X : Cx} {o i e value : Expr} {pos pos' : Pos} {td ty tv : TE}
theorem inv_big {pins : List (Addr × Obj)} {σ : St} {H : Hp} {s : Shared} (I : Inv X pins σ H s) : sysModules < s.heap.objs.size := by
  have h : mainGlobals < s.heap.objs.size := (I.mod.glob.keeps I.bk).lt
  exact Nat.lt_trans (by decide) h
theorem ps_dputK (ho : PE X o td) (hi : PE X i ty) (hv : PE X value tv) (hs : swapsWith value (some (.Subscript o i pos')) pos.line X.env = pure false) :
    PS X (.Assign [.Subscript o i pos'] value pos) (sDPutK td ty tv) := by
  unfold PE at ho hi hv
  unfold PS
  intro pins s σ H D I h
  refine wpAny_Assign_Subscript (thn (hv pins s σ H _ I h) fun r s1 ⟨v, H1, I1, rv, q1⟩ => thn (ho pins s1 σ H1 _ I1 q1) fun u s2 ⟨x, H2, I2, rx, q2⟩ => thn (hi pins s2 σ H2 _ I2 q2) fun iv s3 ⟨y, H3, I3, ry, a, kvs, k, ex, e, ey, hl, q3⟩ => ?_) hs
  subst ex ey
  obtain rfl : u = Value.ref a := rx
  obtain ⟨z, hd, vs, rel, dd⟩ := dk_of I3.hok e
  have hz : vs.length ≤ sizeLine := by rw [← Paired.length rel]; exact z
  have hl' : (putK kvs k v).length ≤ sizeLine := by have := length_putK kvs k v; omega
  refine wpAny_setItem_pairs (hsz := hz) (kV_is ry) dd fun h' dd' hs => ⟨σ, _, I3.write (x := a) (e := a) (o := .dK (putK kvs k v)) (by rw [e]; exact True.intro) (.inl rfl) (fun b q hb z => (hs.2 b hb).trans z) (let ⟨q, _, _, hq, _⟩ := dd'; ⟨q, hq⟩) ⟨hl', hd, _, rel.put k rv, dd'⟩, q3⟩
def tDNewK : TE := fun _ H Q => ∀ p, H p = none → Q (.ref p) (upd H p (.dK []))
theorem pe_dnewK : PE X (.Dict [] [] pos) tDNewK := by
  unfold PE
  intro pins s σ H Q I h
  exact wpAny_Dict_empty ⟨.ref s.heap.objs.size, _, I.laid (a := s.heap.objs.size) (o := .dK []) (t' := s.toks) (fun _ _ q => Heap.get?_push_of_some _ q) (Nat.le_refl _) ⟨Nat.zero_le _, beq_eq_false_iff_ne.mpr (Ne.symm (Nat.ne_of_lt (inv_big I))), [], .nil, Heap.DictOf.new s.heap⟩, rfl, h _ (I.hok.fresh (Nat.le_refl _))⟩
end
theorem strs_vals : ∀ {ss : List Str} {vs : List Value}, StrsAre vs ss → Vals (ss.map V.str) vs
  | _, _, .nil => .nil
  | _, _, .cons x t r => .cons ⟨t, rfl⟩ (strs_vals r)
theorem vals_strs : ∀ {ss : List Str} {vs : List Value}, Vals (ss.map V.str) vs → StrsAre vs ss
  | [], _, .nil => .nil
  | x :: ss, _, .cons r rr => by
    obtain ⟨t, rfl⟩ := r
    exact .cons x t (vals_strs rr)
theorem strs_mk : ∀ (l : List Value) (ss : List Str), l.length = ss.length → (∀ (i : Nat) v x, l[i]? = some v → ss[i]? = some x → ∃ t, v = .str x t) → StrsAre l ss
  | [], [], _, _ => .nil
  | [], y :: ss, hl, _ => by simp at hl
  | v :: l, [], hl, _ => by simp at hl
  | v :: l, x :: ss, hl, h => by
    obtain ⟨t, rfl⟩ := h 0 v x rfl rfl
    exact .cons x t (strs_mk l ss (by simpa using hl) fun i u y a b => h (i + 1) u y a b)
theorem strs_len : ∀ {ss : List Str} {vs : List Value}, StrsAre vs ss → vs.length = ss.length
  | _, _, .nil => rfl
  | _, _, .cons x t r => congrArg (· + 1) (strs_len r)
section
variable {prog : Program} {w : World} {A : Around} {E : Value → Shared → Prop} {s : Shared}
theorem sorted_dict {d : Addr} {vs : List (Key × Value)} {ss : List Str} {Q : Value → Shared → Prop} (hh : A.handled = none) (hd : (d == sysModules) = false) (D : s.heap.DictOf (mixKind prog w) d vs) (hk : vs.map (·.1) = ss.map Sum.inr) (h64 : ss.length < 64)
    (h : ∀ (h2 : Heap) tk l (its : List Value) (out : List Str) (e : Nat), (∀ b o, s.heap.get? b = some o → h2.get? b = some o) → s.heap.objs.size ≤ l → h2.get? l = some (seqObj "list" its.toArray e) → StrsAre its out → out.Perm ss → sortedS out = true → Q (.ref l) { s with heap := h2, toks := tk }) :
    wpAny (model prog w) A (call (.builtin "sorted") [.ref d]) Q E s := by
  obtain ⟨ep, D1⟩ := D.dictAt
  have ha : d < s.heap.objs.size := D1.lt_size
  have hvl : vs.length = ss.length := by have := congrArg List.length hk; simpa using this
  refine sorted_walk (any_collect (.inr rfl) D.typeIs ?_)
  have z1 : (s.heap.push { cls := .type "list", data := .seq #[] }).objs.size = s.heap.objs.size + 1 := Heap.size_push ..
  refine wpAny_pyIter_dict (s := { s with heap := s.heap.push { cls := .type "list", data := .seq #[] } }) hd (D1.push _) ?_
  refine ⟨(s.heap.push { cls := .type "list", data := .seq #[] }).objs.size, [(s.heap.push { cls := .type "list", data := .seq #[] }).objs.size, d], [(s.heap.push { cls := .type "list", data := .seq #[] }).objs.size], vs.length, _, _, rfl, (Walks.dictKeys (knd := mixKind prog w) (A := A.in1.in1) hh _ d (by rw [z1]; exact Nat.ne_of_lt (Nat.lt_succ_of_lt ha)) vs ep).toS, ⟨⟨_, Heap.get?_push_size _ rfl, rfl, rfl⟩, (D1.push _).push _⟩, ?_, ?_, fun b o e => Heap.get?_push_of_some _ e, fun acc s3 hacc hm hz => ?_⟩
  · rw [z1]
    simp only [List.mem_cons, List.not_mem_nil, or_false, not_or]
    exact ⟨Nat.ne_of_lt (Nat.lt_succ_self _), Nat.ne_of_gt ha⟩
  · rw [hvl, sizeLine_eq]; omega
  have hal : acc.toList.length = ss.length := by rw [Array.length_toList, hacc.1, hvl]
  have hS : StrsAre acc.toList ss := strs_mk _ _ hal fun i v x hv hx => by
    obtain ⟨k, y, e1, e2⟩ := hacc.2 i v (by rw [← Array.getElem?_toList]; exact hv)
    have := congrArg (fun l => l[i]?) hk
    simp only [List.getElem?_map, e1, hx, Option.map_some] at this
    obtain rfl : k = Sum.inr x := by injection this
    exact Value.isStrOf_shape e2
  refine ⟨ss, hS, by rw [hal]; exact h64, fun h2 its ss' e k2 g2 a1 a2 a3 => ?_⟩
  obtain ⟨h3, g3, d3, tk3, os3⟩ := s3
  have eos : os3 = s.os := hm.os
  have egs : g3 = s.gens := hm.gens
  have eds : d3 = s.drawn := hm.drawn
  subst eos egs eds
  have kk : ∀ b o, s.heap.get? b = some o → h3.get? b = some o := fun b o e => by
    have hb' : b < s.heap.objs.size := Heap.lt_size e
    refine hm.heap b o ?_ (Heap.get?_push_of_some _ (Heap.get?_push_of_some _ e))
    rw [z1]
    simp only [List.mem_cons, List.not_mem_nil, or_false, not_or]
    exact ⟨Nat.ne_of_lt hb', Nat.ne_of_lt (Nat.lt_succ_of_lt hb')⟩
  exact h h2 tk3 _ its ss' e (fun b o e => k2 _ _ (kk _ _ e)) (Nat.le_of_lt hz) g2 a1 a2 a3
end
theorem Inv.drew {X : Cx} {pins : List (Addr × Obj)} {σ : St} {H : Hp} {s : Shared} (I : Inv X pins σ H s) (d : Drawn) : Inv X pins σ H { s with drawn := d } :=
  I.step (h' := s.heap) (H' := H) (g' := s.gens) (t' := s.toks) (d' := d) (ch := []) (fun _ z => nomatch z) (fun b o _ _ _ e _ => e) (fun b o _ _ _ e _ => ⟨o.slots, e⟩) (fun _ _ _ _ n => n) (fun b o _ e => ⟨o, e⟩) (fun _ _ e => e) (fun _ _ _ e => e) (fun b ps e => ⟨#[], by rw [e]; simp⟩) (fun _ h => h) I.hok I.bare
section
variable {X : Cx}
theorem lst_new {pins : List (Addr × Obj)} {σ : St} {H : Hp} {s : Shared} {Q : VK} {h2 : Heap} {tk : Nat} {l : Addr} {its : List Value} {out : List Str} {e : Nat} (I : Inv X pins σ H s) (k : ∀ b o, s.heap.get? b = some o → h2.get? b = some o) (hl : s.heap.objs.size ≤ l) (hg : h2.get? l = some (seqObj "list" its.toArray e)) (hS : StrsAre its out) (h64 : out.length < 64)
    (q : ∀ p, H p = none → Q (.ref p) (upd H p (.lst (out.map V.str)))) : EP X pins σ Q (.ref l) { s with heap := h2, toks := tk } :=
  ⟨.ref l, _, I.laid (t' := tk) k hl (show ObjOk X.prog X.w _ h2 _ (.lst (out.map V.str)) from ⟨by rw [List.length_map, sizeLine_eq]; omega, its, e, strs_vals hS, hg⟩), rfl, q _ (I.hok.fresh hl)⟩
theorem call_sortedD (hc : X.calm = true) : CallR X (.builtin "sorted") (fun xs H Q => ∃ (d : Addr) (kvs : List (Key × V)) (ss : List Str), xs = [.ref d] ∧ H d = some (.dK kvs) ∧ kvs.map (·.1) = ss.map Sum.inr ∧ ss.length < 64 ∧
    ∀ out : List Str, out.Perm ss → sortedS out = true → ∀ p, H p = none → Q (.ref p) (upd H p (.lst (out.map V.str)))) := by
  unfold CallR
  intro pins s σ H xs us Q I r h
  obtain ⟨d, kvs, ss, rfl, hd, hk, h64, q⟩ := h
  obtain ⟨u, rfl, ru⟩ := r.one
  obtain rfl : u = Value.ref d := ru
  obtain ⟨z, hs, vs, rel, dd⟩ := dk_of I.hok hd
  refine sorted_dict (I.ok.hd hc) hs dd (by rw [← rel.keys]; exact hk) h64 fun h2 tk l its out e k hl hg hS hp ho => ?_
  exact lst_new I k hl hg hS (by rw [hp.length_eq]; exact h64) (q out hp ho)
def tSS (K : PySem.W.Frag) (ta : TA) : TE := fun σ H Q => ta σ H fun vs H1 => ∃ (l : Addr) (ss : List Str), vs = [.ref l] ∧ SqL K H1 l (ss.map V.str) ∧ ss.length ≤ 1000 ∧ (∀ ts : List Str, ts.Nodup → (∀ x, x ∈ ts ↔ x ∈ ss) → ts.length < 64 ∧ ts.length ≠ 1) ∧
  ∀ out : List Str, out.Nodup → (∀ x, x ∈ out ↔ x ∈ ss) → sortedS out = true → ∀ p, H1 p = none → Q (.ref p) (upd H1 p (.lst (out.map V.str)))
theorem pe_sset {e : Expr} {ta : TA} {p pos p2 pos2 : Pos} (hc : X.calm = true) (hg : Gl X "sorted") (hm : X.mg "sorted" = none) (hg2 : Gl X "set") (hm2 : X.mg "set" = none) (ha : PA X [e] ta) (h1 : starred e = false := by rfl) :
    PE X (.Call (.Name "sorted" p2) [.Call (.Name "set" p) [e] [] pos] [] pos2) (tSS X.K ta) := by
  unfold PE
  unfold PA at ha
  intro pins s σ H Q I h
  refine wpAny_Call_Name_kw (ld_blt I hg hm boot_sorted ?_ (by decide) (by decide))
  refine PyProof.Rows.callWith_builtin1 ?_ (star_cons rfl) rfl
  rw [star_cons rfl]
  show wpAny _ _ (spliced ((false, eval _ X.env) :: backTo pos2 (starEach [] X.env))) _ _ s
  refine Calls.spliced_cons ?_
  refine Call_ (ld_blt I hg2 hm2 PyProof.Rows.boot_set (PyProof.Rows.callWith_type1 (thn (ha pos pins s σ H _ I h) fun us s1 ⟨vs, H1, I1, r1, q1⟩ => ?_) (star_cons h1) rfl))
  obtain ⟨l, ss, ev, hL, hlen, hnd, q⟩ := q1
  subst ev
  obtain ⟨u, rfl, ru⟩ := r1.one
  obtain rfl : u = Value.ref l := ru
  obtain ⟨its, rv, pl, hz⟩ := I1.list hL
  have hst := vals_strs rv
  have hil : its.length = ss.length := strs_len hst
  refine set_of_strs (I1.ok.hd hc) pl.isList (by simpa using hst) (by rw [List.size_toArray, hil]; unfold scanBound; omega) fun h' tk es ep S M kp => ?_
  refine Calls.spliced_nil ?_
  have mem : ∀ x, x ∈ es.toList.map nameOf ↔ x ∈ ss := fun x => by
    rw [M.2.1 x]
    constructor
    · rintro ⟨j, hj, e⟩
      have hj' : j < ss.length := by rw [← hil]; simpa using hj
      have e : ss.getD j ⟨#[]⟩ = x := e
      rw [List.getD_eq_getElem?_getD, List.getElem?_eq_getElem hj'] at e
      have e : ss[j] = x := e
      rw [← e]
      exact List.getElem_mem hj'
    · intro hx
      obtain ⟨j, hj, e⟩ := List.mem_iff_getElem.mp hx
      refine ⟨j, by rw [List.size_toArray, hil]; exact hj, ?_⟩
      show ss.getD j ⟨#[]⟩ = x
      rw [List.getD_eq_getElem?_getD, List.getElem?_eq_getElem hj]
      exact e
  obtain ⟨c1, c2⟩ := hnd _ M.1 mem
  rw [List.length_map, Array.length_toList] at c1 c2
  have kp' : ∀ b o, s1.heap.get? b = some o → h'.get? b = some o := fun b o e => kp b o (Heap.lt_size e) e
  have z0 : s1.heap.objs.size < h'.objs.size := let ⟨_, _, g, _⟩ := S; Heap.lt_size g
  refine sorted_set (s := { s1 with heap := h', toks := tk }) (I1.ok.hd hc) S c2 c1 fun h2 d tk2 l2 its2 out e2 k2 hl2 hg2 hS2 hp2 ho2 => ?_
  refine lst_new (s := { s1 with drawn := d }) (I1.drew d) (fun b o e => k2 b o (kp' b o e)) (Nat.le_trans (Nat.le_of_lt z0) hl2) hg2 hS2 (by rw [hp2.length_eq, List.length_map, Array.length_toList]; exact c1) (q out ?_ (fun x => ?_) ho2)
  · exact (hp2.nodup_iff).mpr M.1
  · rw [hp2.mem_iff]; exact mem x
end
end L2
set_option maxHeartbeats 4000000
seal L2.PE L2.PT L2.PW L2.PA L2.PS L2.PSs L2.PC L2.PG L2.PGs L2.PI L2.PTs L2.PO L2.OpR L2.UnR L2.CallR L2.IxR L2.SlR L2.MtR L2.MtM L2.TruR L2.PSet L2.PIp
namespace Tt
open PySem
def top (i : Nat) : Stmt := PySem.Challenge.pw_twicetold_k06_whole_all_nought.main.body.getD i (.Pass ⟨0, 0, 0, 0⟩)
abbrev sRefused : Stmt := top 2
abbrev sNoPosting : Stmt := top 3
abbrev sStruck : Stmt := top 4
abbrev sSameAccount : Stmt := top 5
abbrev sNoAmount : Stmt := top 6
abbrev sClosed : Stmt := top 7
abbrev sNoDays : Stmt := top 8
abbrev sNotYet : Stmt := top 9
abbrev sEff : Stmt := top 15
abbrev sBal : Stmt := top 17
abbrev sBalsOf : Stmt := top 18
abbrev sAccsOf : Stmt := top 19
abbrev sSheet : Stmt := top 20
abbrev sLines : Stmt := top 21
abbrev sNews : Stmt := top 22
abbrev sCof : Stmt := top 23
abbrev sKnown : Stmt := top 25
abbrev sSides : Stmt := top 27
abbrev sLedger : Stmt := top 28
abbrev sBalances : Stmt := top 30
abbrev sBehind : Stmt := top 31
abbrev sAnswer : Stmt := top 32
abbrev sCarry : Stmt := top 33
abbrev sRoom : Stmt := top 35
abbrev sDraw : Stmt := top 36
abbrev sWhole : Stmt := top 37
abbrev sAt : Stmt := top 38
abbrev sAcc : Stmt := top 39
abbrev sPen : Stmt := top 40
abbrev sMar : Stmt := top 41
abbrev sDeeds : Stmt := top 42
abbrev sBar : Stmt := top 43
abbrev sStep : Stmt := top 44
abbrev sChg : Stmt := top 45
abbrev sDoes : Stmt := top 46
abbrev sHas : Stmt := top 47
abbrev sSnapped : Stmt := top 48
abbrev sAlike : Stmt := top 49
abbrev sAllNamed : Stmt := top 50
abbrev sLaw : Stmt := top 51
end Tt
namespace Tt
open PySem L2
def accts : List Str := [("" : Str), "Cash ~", "cash", "cash box", "corn", "rent", Txt.mul "r" 40]
def noN (n : Int) : Str := (("No. " : Str) ++ ((toString n : String) : Str)) ++ (" " : Str)
theorem noN_head (n : Int) : (noN n).cps[0]? = some 78 := by
  have e : (noN n).cps = ((("No. " : Str).cps ++ ((toString n : String) : Str).cps) ++ (" " : Str).cps) := rfl
  have z : ("No. " : Str).cps = #[78, 111, 46, 32] := by decide +kernel
  rw [e, z, Array.getElem?_append_left (by rw [Array.size_append]; exact Nat.lt_of_lt_of_le (by decide : 0 < 4) (Nat.le_add_right 4 _)), Array.getElem?_append_left (by decide)]
  rfl
theorem noN_out (n : Int) : noN n ∉ accts := fun h => by
  have q : ∀ a ∈ accts, a.cps[0]? ≠ some 78 := by decide +kernel
  exact q _ h (noN_head n)
theorem num_len : ∀ k : Fin 40, (((toString (k.val : Int) : String) : Str)).length ≤ 4 := by decide +kernel
theorem num_len' {n : Int} (h0 : 0 ≤ n) (h : n < 40) : (((toString n : String) : Str)).length ≤ 4 := by
  have q := num_len ⟨n.toNat, by omega⟩
  have e : ((n.toNat : Nat) : Int) = n := by omega
  simpa [e] using q
def nms (o : Str) : Prop := o ∈ accts ∨ ∃ n : Int, 0 ≤ n ∧ n < 40 ∧ o = noN n
structure Pen (o t : Str) (a : Int) : Prop where
  ne : o ≠ t
  pos : 1 ≤ a
  one : nms o
  oth : nms t
def lo4 : List Str := [("cash" : Str), "", "corn", "rent"]
def hi3 : List Str := [("Cash ~" : Str), "cash box", Txt.mul "r" 40]
theorem lo_in : ∀ a ∈ lo4, a ∈ accts := by decide +kernel
theorem hi_in : ∀ a ∈ hi3, a ∈ accts := by decide +kernel
theorem lo_hi : ∀ a ∈ lo4, ∀ b ∈ hi3, a ≠ b := by decide +kernel
theorem pick4 {i : Int} (h0 : 0 ≤ i) (h : i < 4) : ∃ z : Int, atI ([2, 0, 4, 5].map V.int) i = some (.int z) ∧ atI (accts.map V.str) z = some (.str (lo4.getD i.toNat "")) := by
  have : i = 0 ∨ i = 1 ∨ i = 2 ∨ i = 3 := by omega
  rcases this with rfl | rfl | rfl | rfl
  · exact ⟨2, rfl, rfl⟩
  · exact ⟨0, rfl, rfl⟩
  · exact ⟨4, rfl, rfl⟩
  · exact ⟨5, rfl, rfl⟩
theorem pick3 {i : Int} (h0 : 0 ≤ i) (h : i < 3) : ∃ z : Int, atI ([1, 3, 6].map V.int) i = some (.int z) ∧ atI (accts.map V.str) z = some (.str (hi3.getD i.toNat "")) := by
  have : i = 0 ∨ i = 1 ∨ i = 2 := by omega
  rcases this with rfl | rfl | rfl
  · exact ⟨1, rfl, rfl⟩
  · exact ⟨3, rfl, rfl⟩
  · exact ⟨6, rfl, rfl⟩
theorem getD_in {xs : List Str} {i : Int} (h0 : 0 ≤ i) (h : i < xs.length) : xs.getD i.toNat "" ∈ xs := by
  have hj : i.toNat < xs.length := by omega
  rw [List.getD_eq_getElem?_getD, List.getElem?_eq_getElem hj]
  exact List.getElem_mem hj
theorem lo_ne {i j : Int} (h0 : 0 ≤ i) (h1 : i < 4) (h2 : 0 ≤ j) (h3 : j < 4) (h : i ≠ j) : lo4.getD i.toNat "" ≠ lo4.getD j.toNat "" := by
  have q : ∀ a b : Fin 4, a ≠ b → lo4.getD a.val "" ≠ lo4.getD b.val "" := by decide +kernel
  exact q ⟨i.toNat, by omega⟩ ⟨j.toNat, by omega⟩ fun z => h (by have := congrArg Fin.val z; simp at this; omega)
theorem nodraw {x m : Int} (h : 0 < m) : 0 ≤ x % m ∧ x % m < m := ⟨Int.emod_nonneg _ (by omega), Int.emod_lt_of_pos _ h⟩
def spDraw : Sp := fun vs H Q _ => ∃ n p m : Int, vs = [.int n, .int p, .int m] ∧ 0 < p ∧ 0 < m ∧ Q (.int (n * 48271 % p % m)) H
def spWhole : Sp := fun vs H Q _ => ∃ n : Int, vs = [.int n] ∧ Q (.bl true) H
def spAt (K : PySem.W.Frag) : Sp := fun vs H Q _ => ∃ (a : Addr) (ns : List Int) (k : Int), vs = [.ref a, .int k] ∧ SqL K H a (ns.map V.int) ∧ 0 ≤ k ∧ Q (.int (ns.getD k.toNat 0)) H
def spAcc : Sp := fun vs H Q _ => vs = [] ∧ ∀ p, H p = none → Q (.ref p) (upd H p (.lst (accts.map V.str)))
def spPen : Sp := fun vs H Q _ => ∃ c k : Int, vs = [.int c, .int k] ∧ 0 ≤ k ∧ ∀ (d : Int) (o t : Str) (a : Int) (p : Addr) (H' : Hp), Pen o t a → Same H H' → H p = none → H' p = some (.tup [.int d, .str o, .str t, .int a]) → Q (.ref p) H'
structure TopB (mg : Str → Option Value) : Prop where
  len : mg "len" = none
  isi : mg "isinstance" = none
  int : mg "int" = none
  bool : mg "bool" = none
  str : mg "str" = none
  range : mg "range" = none
section
variable {P : Program} {w : World} {K : PySem.W.Frag} {mg : Str → Option Value} {base : Heap}
theorem scDraw : FnScope ["_law_number", "_law_prime", "_law_many"] ["_law_number", "_law_prime", "_law_many"] (defScope sDraw) := ⟨rfl, rfl, rfl, by decide +kernel, rfl, by decide +kernel, by decide +kernel⟩
theorem ok_draw {f : Addr} {fd : FuncData} (F : Fun K "_law_draw" "_law_draw" sDraw f fd) : FnOk P w K mg base CX0 1 f fd ["_law_number", "_law_prime", "_law_many"] spDraw := by
  refine F.ok scDraw (fun vs H Q E h => ?_) (fun cdv A outer s H vs Q E hr h => ?_)
  · obtain ⟨n, p, m, rfl, _⟩ := h
    rfl
  · obtain ⟨n, p, m, rfl, hp, hm, k⟩ := h
    refine ⟨_, pss_one (ps_ret (pe_op op_mod (pe_op op_mod (pe_op op_mul (pv 0) pe_int) (pv 1)) (pv 2))), ?_⟩
    exact ⟨_, rfl, _, _, rfl, rfl, .inr ⟨by decide, by decide⟩, _, rfl, _, _, rfl, rfl, hp, _, rfl, _, _, rfl, rfl, hm, k⟩
theorem scWhole : FnScope ["_law_found"] ["_law_found"] (defScope sWhole) := ⟨rfl, rfl, rfl, by decide +kernel, rfl, by decide +kernel, by decide +kernel⟩
theorem kit_ii : PySem.W.kitOne K (.type "int") (.type "int") = some true := by rfl
theorem kit_ib : PySem.W.kitOne K (.type "int") (.type "bool") = some false := by rfl
theorem ok_whole {f : Addr} {fd : FuncData} (F : Fun K "_law_whole" "_law_whole" sWhole f fd) (B : TopB mg) : FnOk P w K mg base CX0 1 f fd ["_law_found"] spWhole := by
  refine F.ok scWhole (fun vs H Q E h => ?_) (fun cdv A outer s H vs Q E hr h => ?_)
  · obtain ⟨n, rfl, _⟩ := h
    rfl
  · obtain ⟨n, rfl, k⟩ := h
    refine ⟨_, pss_one (ps_ret (pe_and (pcB call_isinst (by rfl) B.isi PyProof.Rows.boot_isinstance (pa2 (pv 0) (pe_bltn (v := .ty "int") (by rfl) B.int PyProof.Rows.boot_int rfl)))
      (pe_one (pe_not (pcB call_isinst (by rfl) B.isi PyProof.Rows.boot_isinstance (pa2 (pv 0) (pe_bltn (v := .ty "bool") (by rfl) B.bool PyProof.Rows.boot_bool rfl))))))), ?_⟩
    refine ⟨_, rfl, _, _, _, _, rfl, TyOf.int n, kit_ii, true, rfl, iteT ?_⟩
    exact ⟨_, rfl, _, _, _, _, rfl, TyOf.int n, kit_ib, false, rfl, k⟩
theorem scAt : FnScope ["_law_script", "_law_k"] ["_law_script", "_law_k"] (defScope sAt) := ⟨rfl, rfl, rfl, by decide +kernel, rfl, by decide +kernel, by decide +kernel⟩
theorem ok_at {f : Addr} {fd : FuncData} (F : Fun K "_law_at" "_law_at" sAt f fd) (B : TopB mg) : FnOk P w K mg base CX0 1 f fd ["_law_script", "_law_k"] (spAt K) := by
  refine F.ok scAt (fun vs H Q E h => ?_) (fun cdv A outer s H vs Q E hr h => ?_)
  · obtain ⟨a, ns, k, rfl, _⟩ := h
    rfl
  · obtain ⟨a, ns, k, rfl, hS, h0, kk⟩ := h
    refine ⟨_, pss_cons (ps_if (pt_cmpR op_lt (pv 1) (pcB call_len_seq (by rfl) B.len PySem.boot_len (pa1 (pv 0))) (nomark _)) (pss_one (ps_ret (pe_ix ix_list (pv 0) (pv 1) (fun _ _ => rfl)))) pss_nil)
      (pss_one (ps_ret pe_int)), ?_⟩
    refine ⟨_, rfl, _, rfl, a, _, rfl, .inl hS, _, _, rfl, rfl, _, rfl, ?_⟩
    rw [List.length_map]
    by_cases hk : k < (ns.length : Int)
    · rw [decide_eq_true hk]
      refine iteT ?_
      have hj : k.toNat < ns.length := by omega
      refine ⟨_, rfl, _, rfl, a, _, k, .int (ns.getD k.toNat 0), rfl, rfl, hS, ?_, kk⟩
      have e : atI (ns.map V.int) ((k.toNat : Nat) : Int) = some (.int (ns.getD k.toNat 0)) := atI_nat (by
        rw [List.getElem?_map, List.getElem?_eq_getElem hj, List.getD_eq_getElem?_getD, List.getElem?_eq_getElem hj]
        rfl)
      rwa [show ((k.toNat : Nat) : Int) = k by omega] at e
    · rw [decide_eq_false hk]
      refine iteF ?_
      have e : ns.getD k.toNat 0 = 0 := by
        rw [List.getD_eq_getElem?_getD, List.getElem?_eq_none (by omega)]
        rfl
      rw [e] at kk
      exact kk
theorem scAcc : FnScope [] [] (defScope sAcc) := ⟨rfl, rfl, rfl, by decide +kernel, rfl, by decide +kernel, by decide +kernel⟩
theorem r40 : MulOk ("r" : Str) 40 := ⟨by decide, fun _ _ => by decide +kernel, fun _ _ => by decide +kernel⟩
theorem ok_acc {f : Addr} {fd : FuncData} (F : Fun K "_law_accounts" "_law_accounts" sAcc f fd) : FnOk P w K mg base CX0 1 f fd [] spAcc := by
  refine F.ok scAcc (fun vs H Q E h => ?_) (fun cdv A outer s H vs Q E hr h => ?_)
  · obtain ⟨rfl, _⟩ := h
    rfl
  · obtain ⟨rfl, k⟩ := h
    refine ⟨_, pss_one (ps_ret (pe_lst (pa7 pe_str pe_str pe_str pe_str pe_str pe_str (pe_op op_mulS pe_str pe_int)))), ?_⟩
    exact ⟨_, _, rfl, rfl, r40, by decide, k⟩
end
end Tt
namespace Tt
open PySem L2
section
variable {P : Program} {w : World} {K : PySem.W.Frag} {mg : Str → Option Value} {base : Heap}
theorem scPen : FnScope ["_law_cell", "_law_k", "_law_names", "_law_rest", "_law_seed", "_law_far", "_law_one", "_law_other", "_law_day", "_law_amount"] ["_law_cell", "_law_k"] (defScope sPen) := ⟨rfl, rfl, rfl, by decide +kernel, rfl, by decide +kernel, by decide +kernel⟩
theorem big_ok : PySem.IntMulOk (10 ^ 50) (10 ^ 50) := by unfold PySem.IntMulOk; decide +kernel
theorem log_ok {n : Int} (h0 : 0 ≤ n) (h : n < 40) : n.natAbs.log2 < 1920 := by
  have : n.natAbs.log2 ≤ n.natAbs := Nat.log2_le_self _
  omega
theorem two {α : Type} {a b : α} {i : Int} (h0 : 0 ≤ i) (h : i < 2) : ∃ v, atI [a, b] i = some v ∧ (v = a ∨ v = b) := by
  have : i = 0 ∨ i = 1 := by omega
  rcases this with rfl | rfl
  · exact ⟨a, rfl, .inl rfl⟩
  · exact ⟨b, rfl, .inr rfl⟩
theorem four {α : Type} {a b c d : α} {i : Int} (h0 : 0 ≤ i) (h : i < 4) : ∃ v, atI [a, b, c, d] i = some v ∧ (v = a ∨ v = b ∨ v = c ∨ v = d) := by
  have : i = 0 ∨ i = 1 ∨ i = 2 ∨ i = 3 := by omega
  rcases this with rfl | rfl | rfl | rfl
  · exact ⟨a, rfl, .inl rfl⟩
  · exact ⟨b, rfl, .inr (.inl rfl)⟩
  · exact ⟨c, rfl, .inr (.inr (.inl rfl))⟩
  · exact ⟨d, rfl, .inr (.inr (.inr rfl))⟩
theorem ok_pen {f fD fA : Addr} {fd fdD fdA : FuncData} (F : Fun K "_law_penned" "_law_penned" sPen f fd) (B : TopB mg) (FD : Fun K "_law_draw" "_law_draw" sDraw fD fdD) (bD : Binds K fdD ["_law_number", "_law_prime", "_law_many"] []) (mD : mg "_law_draw" = some (.ref fD))
    (FA : Fun K "_law_accounts" "_law_accounts" sAcc fA fdA) (bA : Binds K fdA [] []) (mA : mg "_law_accounts" = some (.ref fA)) : FnOk P w K mg base CX0 2 f fd ["_law_cell", "_law_k"] spPen := by
  have GD : FnOk P w K mg base CX0 1 fD fdD ["_law_number", "_law_prime", "_law_many"] spDraw := ok_draw FD
  have GA : FnOk P w K mg base CX0 1 fA fdA [] spAcc := ok_acc FA
  refine F.ok scPen (fun vs H Q E h => ?_) (fun cdv A outer s H vs Q E hr h => ?_)
  · obtain ⟨c, k, rfl, _⟩ := h
    rfl
  · obtain ⟨c, k, rfl, hk, kk⟩ := h
    have nd := scPen.nd
    refine ⟨_, pss_cons (ps_set (i := 2) nd rfl (Or.inl rfl) (pe_call0 GA hr rfl mA FA.kp bA .nil pass0))
      (pss_cons (ps_set (i := 3) nd rfl (Or.inl rfl) (pe_op op_fdiv (pv 0) pe_int))
      (pss_cons (ps_set (i := 4) nd rfl (Or.inl rfl) (pe_op op_add (pv 0) (pe_op op_mul pe_int (pv 1))))
      (pss_cons (ps_set (i := 5) nd rfl (Or.inl rfl) (pcall GD hr rfl mD FD.kp bD .nil pass0 (pa3 (pv 4) pe_int pe_int)))
      (pss_cons (ps_set (i := 6) nd rfl (Or.inl rfl) (pe_ix ix_list (pv 2) (pe_ix ix_list (pe_lst (pa4 pe_int pe_int pe_int pe_int)) (pe_op op_mod (pe_op op_add (pv 3) (pv 1)) pe_int) (fun _ _ => rfl)) (fun _ _ => rfl)))
      (pss_cons (ps_set (i := 7) nd rfl (Or.inl rfl) (pe_ix ix_list (pv 2) (pe_ix ix_list (pe_lst (pa4 pe_int pe_int pe_int pe_int)) (pe_op op_mod (pe_op op_add (pe_op op_add (pe_op op_add (pv 3) (pv 1)) pe_int) (pv 5)) pe_int) (fun _ _ => rfl)) (fun _ _ => rfl)))
      (pss_join (ps_if (pt_cmpR op_eq (pe_op op_mod (pv 0) pe_int) pe_int (nomark _)) (pss_one (ps_set (i := 7) nd rfl (Or.inl rfl) (pe_ix ix_list (pv 2) (pe_ix ix_list (pe_lst (pa3 pe_int pe_int pe_int)) (pv 5) (fun _ _ => rfl)) (fun _ _ => rfl)))) pss_nil)
      (pss_join (ps_if (pt_cmpR op_eq (pe_op op_mod (pv 0) pe_int) pe_int (nomark _)) (pss_cons (ps_set (i := 7) nd rfl (Or.inl rfl) (pv 6)) (pss_one (ps_set (i := 6) nd rfl (Or.inl rfl) (pe_ix ix_list (pv 2) (pe_ix ix_list (pe_lst (pa3 pe_int pe_int pe_int)) (pv 5) (fun _ _ => rfl)) (fun _ _ => rfl))))) pss_nil)
      (pss_join (ps_if (pt_cmpR op_eq (pe_op op_mod (pv 0) pe_int) pe_int (nomark _)) (pss_one (ps_set (i := 7) nd rfl (Or.inl rfl) (pe_op op_add_str (pe_op op_add_str pe_str (pcT call_str_int (by rfl) B.str PyProof.Rows.boot_str (pa1 (pe_op op_mod (pv 3) pe_int)))) pe_str))) pss_nil)
      (pss_cons (ps_set (i := 8) nd rfl (Or.inl rfl) (pe_op op_sub (pcall GD hr rfl mD FD.kp bD .nil pass0 (pa3 (pv 4) pe_int pe_int)) pe_int))
      (pss_cons (ps_set (i := 9) nd rfl (Or.inl rfl) (pe_op op_add pe_int (pcall GD hr rfl mD FD.kp bD .nil pass0 (pa3 (pv 4) pe_int pe_int))))
      (pss_join (ps_if (pt_cmpR op_eq (pe_op op_mod (pv 0) pe_int) pe_int (nomark _)) (pss_one (ps_set (i := 8) nd rfl (Or.inl rfl) (pe_ix ix_list (pe_lst (pa4 (pe_op op_pow pe_int pe_int) (pe_un un_neg (pe_op op_pow pe_int pe_int)) pe_int (pe_op op_sub (pe_op op_mod (pv 0) pe_int) pe_int))) (pe_op op_mod (pv 3) pe_int) (fun _ _ => rfl)))) pss_nil)
      (pss_join (ps_if (pt_cmpR op_eq (pe_op op_mod (pv 0) pe_int) pe_int (nomark _)) (pss_one (ps_set (i := 8) nd rfl (Or.inl rfl) (pe_op op_mulB (pe_op op_mod (pv 0) (pe_op op_sub (pe_op op_mulB (pe_op op_pow pe_int pe_int) (pe_op op_pow pe_int pe_int)) pe_int)) (pe_ix ix_list (pe_lst (pa2 pe_int (pe_un un_neg pe_int))) (pe_op op_mod (pv 1) pe_int) (fun _ _ => rfl))))) pss_nil)
      (pss_join (ps_if (pt_cmpR op_eq (pe_op op_mod (pv 0) pe_int) pe_int (nomark _)) (pss_one (ps_set (i := 9) nd rfl (Or.inl rfl) (pe_ix ix_list (pe_lst (pa2 (pe_op op_add (pe_op op_pow pe_int pe_int) (pv 1)) (pe_op op_add pe_int (pe_op op_mod (pv 0) (pe_op op_sub (pe_op op_mulB (pe_op op_pow pe_int pe_int) (pe_op op_pow pe_int pe_int)) pe_int))))) (pe_op op_mod (pv 3) pe_int) (fun _ _ => rfl)))) pss_nil)
      (pss_join (ps_if (pt_cmpR op_gt (pe_op op_mod (pv 0) pe_int) pe_int (nomark _)) (pss_one (ps_set (i := 9) nd rfl (Or.inl rfl) (pe_op op_add pe_int (pe_op op_mod (pe_op op_mul (pv 0) pe_int) (pe_op op_pow pe_int pe_int))))) pss_nil)
      (pss_one (ps_ret (pe_tup (pa4 (pv 8) (pv 6) (pv 7) (pv 9))))))))))))))))))), ?_⟩
    have M0 : (0 : Int) < 10 ^ 50 * 10 ^ 50 - 1 := by decide +kernel
    refine ⟨rfl, fun nl hnl => ?_⟩
    refine ⟨_, rfl, _, _, rfl, rfl, ⟨by decide, by decide⟩, ?_⟩
    refine ⟨_, rfl, _, rfl, _, _, rfl, rfl, .inl ⟨by decide, by decide⟩, _, _, rfl, rfl, ?_⟩
    refine ⟨_, rfl, _, _, _, rfl, by decide, by decide, ?_⟩
    generalize hfar : (c + 7919 * k) * 48271 % 1009 % 3 = far
    have hf0 : 0 ≤ far ∧ far < 3 := by rw [← hfar]; exact nodraw (by decide)
    have hnl' : SqL K (upd H nl (.lst (accts.map V.str))) nl (accts.map V.str) := SqL.of upd_same
    have s0 : Same H (upd H nl (.lst (accts.map V.str))) := Same.upd0 hnl
    generalize upd H nl (.lst (accts.map V.str)) = H1 at hnl' s0 ⊢
    have q1 := nodraw (x := c / 16 + k) (m := 4) (by decide)
    obtain ⟨z1, e1, e1'⟩ := pick4 q1.1 q1.2
    refine ⟨_, rfl, lz, fun l1 hl1 => ?_⟩
    refine ⟨_, rfl, _, rfl, _, _, rfl, rfl, _, _, rfl, rfl, pz _, l1, _, _, .int z1, rfl, rfl, SqL.of upd_same, e1, ?_⟩
    have s1 := s0.upd (o := .lst ([2, 0, 4, 5].map V.int)) hl1
    have n1 := (Same.upd0 (o := .lst ([2, 0, 4, 5].map V.int)) hl1).seq hnl'
    refine ⟨nl, _, z1, _, rfl, rfl, n1, e1', ?_⟩
    replace s1 : Same H (upd H1 l1 (.lst [.int 2, .int 0, .int 4, .int 5])) := s1
    replace n1 : SqL K (upd H1 l1 (.lst [.int 2, .int 0, .int 4, .int 5])) nl (accts.map V.str) := n1
    generalize upd H1 l1 (.lst [.int 2, .int 0, .int 4, .int 5]) = H2 at s1 n1 ⊢
    have q2 := nodraw (x := c / 16 + k + 1 + far) (m := 4) (by decide)
    obtain ⟨z2, e2, e2'⟩ := pick4 q2.1 q2.2
    refine ⟨_, rfl, lz, fun l2 hl2 => ?_⟩
    refine ⟨_, rfl, _, rfl, _, _, rfl, rfl, _, _, rfl, rfl, _, rfl, _, _, rfl, rfl, _, _, rfl, rfl, pz _, l2, _, _, .int z2, rfl, rfl, SqL.of upd_same, e2, ?_⟩
    have s2 : Same H (upd H2 l2 (.lst [.int 2, .int 0, .int 4, .int 5])) := s1.upd hl2
    have n2 : SqL K (upd H2 l2 (.lst [.int 2, .int 0, .int 4, .int 5])) nl (accts.map V.str) := (Same.upd0 hl2).seq n1
    refine ⟨nl, _, z2, _, rfl, rfl, n2, e2', ?_⟩
    generalize upd H2 l2 (.lst [.int 2, .int 0, .int 4, .int 5]) = H3 at s2 n2 ⊢
    have hne : lo4.getD ((c / 16 + k) % 4).toNat "" ≠ lo4.getD ((c / 16 + k + 1 + far) % 4).toNat "" := lo_ne q1.1 q1.2 q2.1 q2.2 (by omega)
    have g1 : lo4.getD ((c / 16 + k) % 4).toNat "" ∈ lo4 := getD_in q1.1 q1.2
    have g2 : lo4.getD ((c / 16 + k + 1 + far) % 4).toNat "" ∈ lo4 := getD_in q2.1 q2.2
    generalize lo4.getD ((c / 16 + k) % 4).toNat "" = o1 at hne g1 ⊢
    generalize lo4.getD ((c / 16 + k + 1 + far) % 4).toNat "" = t1 at hne g2 ⊢
    have pick : ∀ (H4 : Hp), SqL K H4 nl (accts.map V.str) → ∀ l, H4 l = none → ∃ z : Int, atI [V.int 1, V.int 3, V.int 6] far = some (.int z) ∧ SqL K (upd H4 l (.lst [.int 1, .int 3, .int 6])) nl (accts.map V.str) ∧ atI (accts.map V.str) z = some (.str (hi3.getD far.toNat "")) := fun H4 h4 l hl => by
      obtain ⟨z, a1, a2⟩ := pick3 hf0.1 hf0.2
      exact ⟨z, a1, (Same.upd0 hl).seq h4, a2⟩
    have hhi : hi3.getD far.toNat "" ∈ hi3 := getD_in hf0.1 hf0.2
    refine ⟨fun σ H4 => ∃ t2 : Str, σ = [some (.int c), some (.int k), some (.ref nl), some (.int (c / 16)), some (.int (c + 7919 * k)), some (.int far), some (.str o1), some (.str t2), none, none] ∧ o1 ≠ t2 ∧ t2 ∈ accts ∧ Same H H4 ∧ SqL K H4 nl (accts.map V.str), ?_, ?_⟩
    · refine ⟨_, rfl, _, _, rfl, rfl, pz _, rfl, _, rfl, ?_⟩
      refine ite2 (fun _ => ?_) (fun _ => ⟨t1, rfl, hne, lo_in _ g2, s2, n2⟩)
      refine ⟨_, rfl, lz, fun l hl => ?_⟩
      obtain ⟨z, a1, a2, a3⟩ := pick _ n2 l hl
      exact ⟨_, rfl, l, _, _, .int z, rfl, rfl, SqL.of upd_same, a1, nl, _, z, _, rfl, rfl, a2, a3, _, rfl, lo_hi _ g1 _ hhi, hi_in _ hhi, s2.upd hl, a2⟩
    rintro σ4 H4 ⟨t2, rfl, hne2, ht2, s4, n4⟩
    refine ⟨fun σ H5 => ∃ o3 t3 : Str, σ = [some (.int c), some (.int k), some (.ref nl), some (.int (c / 16)), some (.int (c + 7919 * k)), some (.int far), some (.str o3), some (.str t3), none, none] ∧ o3 ≠ t3 ∧ o3 ∈ accts ∧ t3 ∈ accts ∧ Same H H5, ?_, ?_⟩
    · refine ⟨_, rfl, _, _, rfl, rfl, pz _, rfl, _, rfl, ?_⟩
      refine ite2 (fun _ => ?_) (fun _ => ⟨o1, t2, rfl, hne2, lo_in _ g1, ht2, s4⟩)
      refine ⟨_, rfl, _, rfl, lz, fun l hl => ?_⟩
      obtain ⟨z, a1, a2, a3⟩ := pick _ n4 l hl
      exact ⟨_, rfl, l, _, _, .int z, rfl, rfl, SqL.of upd_same, a1, nl, _, z, _, rfl, rfl, a2, a3, _, _, rfl, (lo_hi _ g1 _ hhi).symm, hi_in _ hhi, lo_in _ g1, s4.upd hl⟩
    rintro σ5 H5 ⟨o3, t3, rfl, hne3, ho3, ht3, s5⟩
    refine ⟨fun σ H6 => ∃ t4 : Str, σ = [some (.int c), some (.int k), some (.ref nl), some (.int (c / 16)), some (.int (c + 7919 * k)), some (.int far), some (.str o3), some (.str t4), none, none] ∧ o3 ≠ t4 ∧ nms t4 ∧ Same H H6, ?_, ?_⟩
    · refine ⟨_, rfl, _, _, rfl, rfl, pz _, rfl, _, rfl, ?_⟩
      refine ite2 (fun _ => ?_) (fun _ => ⟨t3, rfl, hne3, .inl ht3, s5⟩)
      have q3 := nodraw (x := c / 16) (m := 40) (by decide)
      have q4 := num_len' q3.1 q3.2
      have q5 : ("No. " : Str).length = 4 := by decide +kernel
      have q6 : (" " : Str).length = 1 := by decide +kernel
      refine ⟨_, rfl, _, _, rfl, rfl, pz _, _, rfl, log_ok q3.1 q3.2, _, _, rfl, rfl, ?_, _, _, rfl, rfl, ?_, ?_⟩
      · rw [q5]
        exact Nat.le_trans (Nat.add_le_add_left q4 4) (by decide)
      · rw [PySem.strLen_append, q5, q6]
        exact Nat.le_trans (Nat.add_le_add_right (Nat.add_le_add_left q4 4) 1) (by decide)
      · exact ⟨noN (c / 16 % 40), rfl, fun z => noN_out _ (z ▸ ho3), .inr ⟨_, q3.1, q3.2, rfl⟩, s5⟩
    rintro σ6 H6 ⟨t4, rfl, hne4, ht4, s6⟩
    refine ⟨_, rfl, _, _, _, rfl, by decide, by decide, _, _, rfl, rfl, ?_⟩
    refine ⟨_, rfl, _, _, _, rfl, by decide, by decide, _, _, rfl, rfl, ?_⟩
    have ha : 1 ≤ 1 + (c + 7919 * k) * 48271 % 1019 % 9 := by have := (nodraw (x := (c + 7919 * k) * 48271 % 1019) (m := 9) (by decide)).1; omega
    refine ⟨fun σ H7 => ∃ d a1 : Int, σ = [some (.int c), some (.int k), some (.ref nl), some (.int (c / 16)), some (.int (c + 7919 * k)), some (.int far), some (.str o3), some (.str t4), some (.int d), some (.int a1)] ∧ 1 ≤ a1 ∧ Same H H7, ?_, ?_⟩
    · refine ⟨_, rfl, _, _, rfl, rfl, pz _, rfl, _, rfl, ?_⟩
      refine ite2 (fun _ => ?_) (fun _ => ⟨_, _, rfl, ha, s6⟩)
      refine ⟨_, _, rfl, rfl, ⟨by decide, by decide, by decide⟩, _, _, rfl, rfl, ⟨by decide, by decide, by decide⟩, _, rfl, _, rfl, _, _, rfl, rfl, pz _, _, _, rfl, rfl, lz, fun l hl => ?_⟩
      have q3 := nodraw (x := c / 16) (m := 4) (by decide)
      refine ⟨_, rfl, _, _, rfl, rfl, pz _, ?_⟩
      obtain ⟨v, e, hv⟩ := four (a := V.int (10 ^ (9 : Int).toNat)) (b := V.int (-10 ^ (9 : Int).toNat)) (c := V.int 0) (d := V.int (c % 2001 - 1000)) q3.1 q3.2
      have : ∃ d : Int, v = .int d := by rcases hv with rfl | rfl | rfl | rfl <;> exact ⟨_, rfl⟩
      obtain ⟨d, rfl⟩ := this
      exact ⟨l, _, _, _, rfl, rfl, SqL.of upd_same, e, d, _, rfl, ha, s6.upd hl⟩
    rintro σ7 H7 ⟨d2, a1, rfl, ha, s7⟩
    refine ⟨fun σ H8 => ∃ d : Int, σ = [some (.int c), some (.int k), some (.ref nl), some (.int (c / 16)), some (.int (c + 7919 * k)), some (.int far), some (.str o3), some (.str t4), some (.int d), some (.int a1)] ∧ Same H H8, ?_, ?_⟩
    · refine ⟨_, rfl, _, _, rfl, rfl, pz _, rfl, _, rfl, ?_⟩
      refine ite2 (fun _ => ?_) (fun _ => ⟨d2, rfl, s7⟩)
      refine ⟨_, rfl, _, _, rfl, rfl, ⟨by decide, by decide, by decide⟩, _, _, rfl, rfl, ⟨by decide, by decide, by decide⟩, _, _, rfl, rfl, big_ok, _, _, rfl, rfl, _, _, rfl, rfl, M0, _, rfl, lz, fun l hl => ?_⟩
      have q3 := nodraw (x := k) (m := 2) (by decide)
      refine ⟨_, rfl, _, _, rfl, rfl, pz _, ?_⟩
      obtain ⟨v, e, hv⟩ := two (a := V.int 1) (b := V.int (-1)) q3.1 q3.2
      have : ∃ z : Int, v = .int z ∧ -2 < z ∧ z < 2 := by rcases hv with rfl | rfl <;> exact ⟨_, rfl, by decide, by decide⟩
      obtain ⟨z, rfl, hz1, hz2⟩ := this
      exact ⟨l, _, _, _, rfl, rfl, SqL.of upd_same, e, _, _, rfl, rfl, PySem.IntMulOk.of_right (PySem.intBits_le_64 (by omega) (by omega)), _, rfl, s7.upd hl⟩
    rintro σ8 H8 ⟨d3, rfl, s8⟩
    refine ⟨fun σ H9 => ∃ a : Int, σ = [some (.int c), some (.int k), some (.ref nl), some (.int (c / 16)), some (.int (c + 7919 * k)), some (.int far), some (.str o3), some (.str t4), some (.int d3), some (.int a)] ∧ 1 ≤ a ∧ Same H H9, ?_, ?_⟩
    · refine ⟨_, rfl, _, _, rfl, rfl, pz _, rfl, _, rfl, ?_⟩
      refine ite2 (fun _ => ?_) (fun _ => ⟨a1, rfl, ha, s8⟩)
      refine ⟨_, _, rfl, rfl, ⟨by decide, by decide, by decide⟩, _, rfl, _, _, rfl, rfl, _, rfl, _, _, rfl, rfl, ⟨by decide, by decide, by decide⟩, _, _, rfl, rfl, ⟨by decide, by decide, by decide⟩, _, _, rfl, rfl, big_ok, _, _, rfl, rfl, _, _, rfl, rfl, M0, _, _, rfl, rfl, lz, fun l hl => ?_⟩
      have q3 := nodraw (x := c / 16) (m := 2) (by decide)
      have q4 := nodraw (x := c) M0
      refine ⟨_, rfl, _, _, rfl, rfl, pz _, ?_⟩
      obtain ⟨v, e, hv⟩ := two (a := V.int (10 ^ (15 : Int).toNat + k)) (b := V.int (1 + c % (10 ^ (50 : Int).toNat * 10 ^ (50 : Int).toNat - 1))) q3.1 q3.2
      have : ∃ a : Int, v = .int a ∧ 1 ≤ a := by
        rcases hv with rfl | rfl
        · have h15 : (1 : Int) ≤ 10 ^ (15 : Int).toNat := by decide +kernel
          exact ⟨_, rfl, by omega⟩
        · refine ⟨_, rfl, ?_⟩
          have := q4.1
          have e : (10 : Int) ^ (50 : Int).toNat * 10 ^ (50 : Int).toNat - 1 = 10 ^ 50 * 10 ^ 50 - 1 := rfl
          rw [e]
          generalize c % (10 ^ 50 * 10 ^ 50 - 1) = z at this ⊢
          omega
      obtain ⟨a, rfl, h1⟩ := this
      exact ⟨l, _, _, _, rfl, rfl, SqL.of upd_same, e, a, rfl, h1, s8.upd hl⟩
    rintro σ9 H9 ⟨a2, rfl, ha2, s9⟩
    refine ⟨fun σ H10 => ∃ a : Int, σ = [some (.int c), some (.int k), some (.ref nl), some (.int (c / 16)), some (.int (c + 7919 * k)), some (.int far), some (.str o3), some (.str t4), some (.int d3), some (.int a)] ∧ 1 ≤ a ∧ Same H H10, ?_, ?_⟩
    · refine ⟨_, rfl, _, _, rfl, rfl, pz _, _, _, rfl, rfl, _, rfl, ?_⟩
      refine ite2 (fun _ => ?_) (fun _ => ⟨a2, rfl, ha2, s9⟩)
      refine ⟨_, rfl, _, _, rfl, rfl, .inr ⟨by decide, by decide⟩, _, _, rfl, rfl, ⟨by decide, by decide, by decide⟩, _, _, rfl, rfl, pz _, _, _, rfl, rfl, _, rfl, ?_, s9⟩
      have := (nodraw (x := c * 48271) (m := 10 ^ (9 : Int).toNat) (by decide)).1
      omega
    rintro σ10 H10 ⟨a3, rfl, ha3, s10⟩
    refine ⟨_, rfl, _, rfl, _, rfl, _, rfl, lz, fun p hp => ?_⟩
    exact kk d3 o3 t4 a3 p _ ⟨hne4, ha3, .inl ho3, ht4⟩ (s10.upd hp) (s10.free hp) upd_same
end
end Tt
namespace Tt
open PySem L2
def spAlike : Sp := fun vs H Q _ => ∃ (x y : V) (p : PV), vs = [x, y] ∧ Deep H p x ∧ Deep H p y ∧ p.size ≤ 1000000 ∧ ∀ H', Same H H' → Q (.bl true) H'
structure TopL (mg : Str → Option Value) : Prop where
  list : mg "list" = none
  tuple : mg "tuple" = none
section
variable {P : Program} {w : World} {K : PySem.W.Frag} {mg : Str → Option Value} {base : Heap}
theorem kl (t : String) (h : t = "list" ∨ t = "tuple" ∨ t = "int" ∨ t = "str" ∨ t = "NoneType") : PySem.W.kitAny K (.type t) (["list", "tuple"].map Value.type) = some (decide (t = "list" ∨ t = "tuple")) := by
  rcases h with rfl | rfl | rfl | rfl | rfl <;> rfl
theorem k_is : PySem.W.kitOne K (.type "int") (.type "str") = some false := by rfl
theorem k_ss : PySem.W.kitOne K (.type "str") (.type "str") = some true := by rfl
def PairOk (H0 H : Hp) (z : V) (p : PV) : Prop := ∃ (a : Addr) (x y : V), z = .ref a ∧ H a = some (.tup [x, y]) ∧ Deep H0 p x ∧ Deep H0 p y
def AlW (x0 y0 : V) (l : Addr) (H : Hp) (m : Nat) (σ : St) (H1 : Hp) : Prop := ∃ (ts : List (V × PV)) (x3 x4 : Option V), σ = [some x0, some y0, some (.ref l), x3, x4] ∧ H1 l = some (.lst (ts.map (·.1))) ∧ Same H H1 ∧ (∀ t ∈ ts, PairOk H H1 t.1 t.2) ∧
  PV.sizes (ts.map (·.2)) = m ∧ m ≤ 1000000
theorem k_l {T : String} (h : T = "list" ∨ T = "tuple") : PySem.W.kitOne K (.type T) (.type "list") = some (decide (T = "list")) := by rcases h with rfl | rfl <;> rfl
theorem k_t {T : String} (h : T = "list" ∨ T = "tuple") : PySem.W.kitOne K (.type T) (.type "tuple") = some (decide (T = "tuple")) := by rcases h with rfl | rfl <;> rfl
abbrev NAl : List Str := ["_law_found", "_law_due", "_law_todo", "_law_pair", "_law_k"]
theorem scAlike : FnScope NAl ["_law_found", "_law_due"] (defScope sAlike) := ⟨rfl, rfl, rfl, by decide +kernel, rfl, by decide +kernel, by decide +kernel⟩
theorem ok_alike {f fW : Addr} {fd fdW : FuncData} (F : Fun K "_law_alike" "_law_alike" sAlike f fd) (B : TopB mg) (L : TopL mg) (FW : Fun K "_law_whole" "_law_whole" sWhole fW fdW) (bW : Binds K fdW ["_law_found"] []) (mW : mg "_law_whole" = some (.ref fW)) :
    FnOk P w K mg base CX0 2 f fd ["_law_found", "_law_due"] spAlike := by
  have GW : FnOk P w K mg base CX0 1 fW fdW ["_law_found"] spWhole := ok_whole FW B
  refine F.ok scAlike (fun vs H Q E h => ?_) (fun cdv A outer s H vs Q E hr h => ?_)
  · obtain ⟨x, y, p, rfl, _⟩ := h
    rfl
  · obtain ⟨x0, y0, p0, rfl, d1, d2, hsz, kk⟩ := h
    have nd := scAlike.nd
    have hu := Nat.lt_of_succ_lt (hu_of hr)
    refine ⟨_, (pss_cons (ps_set (i := 2) nd rfl (Or.inl rfl) (pe_lst (pa1 (pe_tup (pa2 (pv 0) (pv 1))))))
      (pss_cons (ps_while PassesOwn.never (pt_cmpR (op_ne_nil hu) (pv 2) (pe_lst pa_nil) (nomark _)) (pss_cons (ps_set (i := 3) nd rfl (Or.inl rfl) (p_pop (pv 2)))
      (pss_one (ps_if (pt_val (pcB call_isinstT (by rfl) B.isi PyProof.Rows.boot_isinstance (pa2 (pe_ix ix_tup (pv 3) pe_int (fun _ _ => rfl)) (pe_tup (pa2 (pe_bltn (v := .ty "list") (by rfl) L.list PyProof.Rows.boot_list rfl) (pe_bltn (v := .ty "tuple") (by rfl) L.tuple PyProof.Rows.boot_tuple rfl)))))) (pss_cons (ps_if (pt_cmpR op_ne (pcB call_isinst (by rfl) B.isi PyProof.Rows.boot_isinstance (pa2 (pe_ix ix_tup (pv 3) pe_int (fun _ _ => rfl)) (pe_bltn (v := .ty "list") (by rfl) L.list PyProof.Rows.boot_list rfl))) (pcB call_isinst (by rfl) B.isi PyProof.Rows.boot_isinstance (pa2 (pe_ix ix_tup (pv 3) pe_int (fun _ _ => rfl)) (pe_bltn (v := .ty "list") (by rfl) L.list PyProof.Rows.boot_list rfl))) (nomark _)) (pss_one (ps_ret pe_bl)) pss_nil)
      (pss_cons (ps_if (pt_cmpR op_ne (pcB call_isinst (by rfl) B.isi PyProof.Rows.boot_isinstance (pa2 (pe_ix ix_tup (pv 3) pe_int (fun _ _ => rfl)) (pe_bltn (v := .ty "tuple") (by rfl) L.tuple PyProof.Rows.boot_tuple rfl))) (pcB call_isinst (by rfl) B.isi PyProof.Rows.boot_isinstance (pa2 (pe_ix ix_tup (pv 3) pe_int (fun _ _ => rfl)) (pe_bltn (v := .ty "tuple") (by rfl) L.tuple PyProof.Rows.boot_tuple rfl))) (nomark _)) (pss_one (ps_ret pe_bl)) pss_nil)
      (pss_cons (ps_if (pt_cmpR op_ne (pcB call_len_seq (by rfl) B.len PySem.boot_len (pa1 (pe_ix ix_tup (pv 3) pe_int (fun _ _ => rfl)))) (pcB call_len_seq (by rfl) B.len PySem.boot_len (pa1 (pe_ix ix_tup (pv 3) pe_int (fun _ _ => rfl)))) (nomark _)) (pss_one (ps_ret pe_bl)) pss_nil)
      (pss_one (ps_for PassesOwn.never rfl (prange1 (by rfl) B.range (pa1 (pcB call_len_seq (by rfl) B.len PySem.boot_len (pa1 (pe_ix ix_tup (pv 3) pe_int (fun _ _ => rfl)))))) (pg_name (i := 4) nd rfl (Or.inl rfl)) (pss_one (ps_expr (p_append (pv 2) (pe_tup (pa2 (pe_ix ix_seq (pe_ix ix_tup (pv 3) pe_int (fun _ _ => rfl)) (pv 4) (fun _ _ => rfl)) (pe_ix ix_seq (pe_ix ix_tup (pv 3) pe_int (fun _ _ => rfl)) (pv 4) (fun _ _ => rfl)))))))))))) (pss_one (ps_if (pt_cmp (pc_isN (pe_ix ix_tup (pv 3) pe_int (fun _ _ => rfl)))) (pss_one (ps_if (pt_cmp (pc_notN (pe_ix ix_tup (pv 3) pe_int (fun _ _ => rfl)))) (pss_one (ps_ret pe_bl)) pss_nil)) (pss_one (ps_if (pt_val (pcB call_isinst (by rfl) B.isi PyProof.Rows.boot_isinstance (pa2 (pe_ix ix_tup (pv 3) pe_int (fun _ _ => rfl)) (pe_bltn (v := .ty "str") (by rfl) B.str PyProof.Rows.boot_str rfl)))) (pss_one (ps_if (PW.pt (pw_or (pt_not (pt_val (pcB call_isinst (by rfl) B.isi PyProof.Rows.boot_isinstance (pa2 (pe_ix ix_tup (pv 3) pe_int (fun _ _ => rfl)) (pe_bltn (v := .ty "str") (by rfl) B.str PyProof.Rows.boot_str rfl))))) (pw_or1 (pt_cmpR op_ne (pe_ix ix_tup (pv 3) pe_int (fun _ _ => rfl)) (pe_ix ix_tup (pv 3) pe_int (fun _ _ => rfl)) (nomark _))))) (pss_one (ps_ret pe_bl)) pss_nil)) (pss_one (ps_if (PW.pt (pw_or (pt_not (pt_val (pcall GW hr (by rfl) mW FW.kp bW .nil pass0 (pa1 (pe_ix ix_tup (pv 3) pe_int (fun _ _ => rfl)))))) (pw_or1 (pt_cmpR op_ne (pe_ix ix_tup (pv 3) pe_int (fun _ _ => rfl)) (pe_ix ix_tup (pv 3) pe_int (fun _ _ => rfl)) (nomark _))))) (pss_one (ps_ret pe_bl)) pss_nil))))))))))
      (pss_one (ps_ret pe_bl)))), ?_⟩
    refine ⟨_, rfl, _, rfl, lz, fun q0 hq0 => ⟨lz, fun l hl => ?_⟩⟩
    have hlH : H l = none := (Same.upd0 hq0).free hl
    refine ⟨AlW x0 y0 l H, ⟨p0.size, [(.ref q0, p0)], _, _, rfl, upd_same, (Same.upd0 hq0).upd hl, fun t ht => ?_, by simp [PV.sizes], hsz⟩, ?_⟩
    · obtain rfl : t = (.ref q0, p0) := by simpa using ht
      exact ⟨q0, x0, y0, rfl, (upd_ne (ne_of_none upd_same hl)).trans upd_same, d1, d2⟩
    rintro m σ H1 ⟨ts, x3, x4, rfl, hl1, s1, hts, hm, hm1⟩
    refine ⟨_, rfl, lz, fun e he => ⟨l, e, _, rfl, rfl, (upd_ne (ne_of_none hl1 he)).trans hl1, upd_same, _, rfl, ?_⟩⟩
    rcases List.eq_nil_or_concat ts with rfl | ⟨ts', t, ets⟩
    · exact iteF (kk _ (s1.upd he))
    rw [List.concat_eq_append] at ets
    subst ets
    have hlen : (ts' ++ [t]).length ≤ 1000000 := by
      have := PV.sizes_len ((ts' ++ [t]).map (·.2))
      rw [List.length_map] at this
      omega
    have ne : (((ts' ++ [t]).map (·.1)).isEmpty) = false := by simp
    rw [ne]
    refine iteT ⟨fun σ' H' => ∃ m', m' < m ∧ AlW x0 y0 l H m' σ' H', fun _ _ h => h, ?_⟩
    have hl2 : (upd H1 e (.lst [])) l = some (.lst ((ts' ++ [t]).map (·.1))) := (upd_ne (ne_of_none hl1 he)).trans hl1
    refine ⟨_, rfl, tyl hl2, l, _, t.1, rfl, rfl, hl2, by simp, ?_⟩
    obtain ⟨a, x, y, ea, ha, dx, dy⟩ := hts t (by simp)
    have hae : a ≠ e := ne_of_none ha he
    have hal : a ≠ l := ne_of ha hl1 (by intro z; cases z)
    have ha2 : upd (upd H1 e (.lst [])) l (.lst ((ts' ++ [t]).map (·.1)).dropLast) a = some (.tup [x, y]) := by rw [upd_ne hal, upd_ne hae]; exact ha
    have s2 : Same H (upd (upd H1 e (.lst [])) l (.lst ((ts' ++ [t]).map (·.1)).dropLast)) := (s1.upd he).put hlH
    have hl3 : upd (upd H1 e (.lst [])) l (.lst ((ts' ++ [t]).map (·.1)).dropLast) l = some (.lst (ts'.map (·.1))) := by rw [upd_same, List.map_append, List.map_cons, List.map_nil, List.dropLast_concat]
    have hts2 : ∀ t2 ∈ ts', PairOk H (upd (upd H1 e (.lst [])) l (.lst ((ts' ++ [t]).map (·.1)).dropLast)) t2.1 t2.2 := fun t2 h2 => by
      obtain ⟨a2, x2, y2, e2, h2a, d⟩ := hts t2 (List.mem_append_left _ h2)
      exact ⟨a2, x2, y2, e2, by rw [upd_ne (ne_of h2a hl1 (by intro z; cases z)), upd_ne (ne_of_none h2a he)]; exact h2a, d⟩
    generalize upd (upd H1 e (.lst [])) l (.lst ((ts' ++ [t]).map (·.1)).dropLast) = H2 at ha2 s2 hl3 hts2 ⊢
    obtain ⟨z, p⟩ := t
    have ea' : z = .ref a := ea
    subst ea'
    have hm2 : PV.sizes (ts'.map (·.2)) + p.size = m := by
      rw [List.map_append, PV.sizes_append] at hm
      simpa [PV.sizes] using hm
    have hp1 := p.size_pos
    have next : ∀ H3, Same H2 H3 → ∃ m', m' < m ∧ AlW x0 y0 l H m' [some x0, some y0, some (.ref l), some (.ref a), x4] H3 := fun H3 s3 =>
      ⟨_, (by omega : PV.sizes (ts'.map (·.2)) < m), ts', _, _, rfl, s3 _ _ hl3, s2.trans s3, fun t ht => by
        obtain ⟨a2, x2, y2, e2, h2a, d⟩ := hts2 t ht
        exact ⟨a2, x2, y2, e2, s3 _ _ h2a, d⟩, rfl, by omega⟩
    have T2 : SqT K H2 a [x, y] := SqT.of ha2
    refine ⟨_, rfl, a, _, 1, y, rfl, rfl, T2, rfl, lz, fun tp htp => ?_⟩
    have s3 : Same H2 (upd H2 tp (.tup [.ty "list", .ty "tuple"])) := Same.upd0 htp
    have h3 : upd H2 tp (.tup [.ty "list", .ty "tuple"]) tp = some (.tup (["list", "tuple"].map V.ty)) := upd_same
    generalize upd H2 tp (.tup [.ty "list", .ty "tuple"]) = H3 at s3 h3 ⊢
    have T3 : SqT K H3 a [x, y] := s3.tup T2
    rcases deep_cases dx dy with ⟨ep, rfl, rfl⟩ | ⟨i, ep, rfl, rfl⟩ | ⟨s, ep, rfl, rfl⟩ | ⟨T, ps, xs, ys, ax, ay, hT, rfl, rfl, hps, hxl, hyl, hdx, hdy, hS⟩
    · refine ⟨_, tp, _, _, _, rfl, h3, TyOf.non, kl "NoneType" (by simp), _, rfl, iteF ?_⟩
      refine ⟨_, rfl, a, _, 1, .non, rfl, rfl, T3, rfl, _, rfl, iteT ?_⟩
      exact ⟨_, rfl, a, _, 0, .non, rfl, rfl, T3, rfl, _, rfl, iteF (next _ s3)⟩
    · refine ⟨_, tp, _, _, _, rfl, h3, TyOf.int i, kl "int" (by simp), _, rfl, iteF ?_⟩
      refine ⟨_, rfl, a, _, 1, .int i, rfl, rfl, T3, rfl, _, rfl, iteF ?_⟩
      refine ⟨_, rfl, a, _, 1, .int i, rfl, rfl, T3, rfl, _, _, _, _, rfl, TyOf.int i, k_is, _, rfl, iteF ?_⟩
      refine ⟨_, rfl, a, _, 0, .int i, rfl, rfl, T3, rfl, i, rfl, true, rfl, iteF ?_⟩
      exact ⟨_, rfl, a, _, 0, .int i, rfl, rfl, T3, rfl, _, rfl, a, _, 1, .int i, rfl, rfl, T3, rfl, rfl, _, rfl, iteNS rfl (next _ s3)⟩
    · refine ⟨_, tp, _, _, _, rfl, h3, TyOf.str s, kl "str" (by simp), _, rfl, iteF ?_⟩
      refine ⟨_, rfl, a, _, 1, .str s, rfl, rfl, T3, rfl, _, rfl, iteF ?_⟩
      refine ⟨_, rfl, a, _, 1, .str s, rfl, rfl, T3, rfl, _, _, _, _, rfl, TyOf.str s, k_ss, _, rfl, iteT ?_⟩
      refine ⟨_, rfl, a, _, 0, .str s, rfl, rfl, T3, rfl, _, _, _, _, rfl, TyOf.str s, k_ss, _, rfl, iteF ?_⟩
      exact ⟨_, rfl, a, _, 0, .str s, rfl, rfl, T3, rfl, _, rfl, a, _, 1, .str s, rfl, rfl, T3, rfl, rfl, _, rfl, iteNS rfl (next _ s3)⟩
    · have hps : p.size = 1 + PV.sizes ps := hps
      obtain ⟨tx3, ty3, qx3, qy3⟩ := hS K H3 (s2.trans s3)
      have hb : decide (T = "list" ∨ T = "tuple") = true := decide_eq_true hT
      refine ⟨_, tp, _, _, _, rfl, h3, ty3, kl T (by rcases hT with z | z <;> simp [z]), _, rfl, ?_⟩
      rw [hb]
      refine iteT ?_
      refine ⟨_, rfl, a, _, 0, .ref ax, rfl, rfl, T3, rfl, _, _, _, _, rfl, tx3, k_l hT, _, rfl, a, _, 1, .ref ay, rfl, rfl, T3, rfl, _, _, _, _, rfl, ty3, k_l hT, rfl, _, rfl, iteNS rfl ?_⟩
      refine ⟨_, rfl, a, _, 0, .ref ax, rfl, rfl, T3, rfl, _, _, _, _, rfl, tx3, k_t hT, _, rfl, a, _, 1, .ref ay, rfl, rfl, T3, rfl, _, _, _, _, rfl, ty3, k_t hT, rfl, _, rfl, iteNS rfl ?_⟩
      refine ⟨_, rfl, a, _, 0, .ref ax, rfl, rfl, T3, rfl, ax, xs, rfl, qx3, _, rfl, a, _, 1, .ref ay, rfl, rfl, T3, rfl, ay, ys, rfl, qy3, rfl, _, rfl, ?_⟩
      refine iteNS (by rw [hxl, hyl]) ?_
      have hsize : ts'.length + ps.length ≤ 1000000 := by
        have h1 := PV.sizes_len (ts'.map (·.2))
        have h2 := PV.sizes_len ps
        rw [List.length_map] at h1
        omega
      refine ⟨_, rfl, a, _, 1, .ref ay, rfl, rfl, T3, rfl, ay, ys, rfl, qy3, _, rfl, by omega, by omega, for_range (lo := 0) (n := ((ys.length : Nat) : Int).toNat)
        (fun i σ H4 => ∃ (cs : List (V × PV)) (x4 : Option V), σ = [some x0, some y0, some (.ref l), some (.ref a), x4] ∧ H4 l = some (.lst ((ts' ++ cs).map (·.1))) ∧ Same H H4 ∧ (∀ t ∈ ts' ++ cs, PairOk H H4 t.1 t.2) ∧ cs.map (·.2) = ps.take i ∧ H4 a = some (.tup [.ref ax, .ref ay]))
        ⟨[], x4, rfl, by rw [List.append_nil]; exact s3 _ _ hl3, s2.trans s3, fun t ht => ?_, by simp, s3 _ _ ha2⟩ ?_ ?_⟩
      · rw [List.append_nil] at ht
        obtain ⟨a2, x2, y2, e2, h2a, d⟩ := hts2 t ht
        exact ⟨a2, x2, y2, e2, s3 _ _ h2a, d⟩
      · rintro i σ H4 hi ⟨cs, x4, rfl, hl4, s4, hts4, hcs, ha4⟩
        have hi' : i < ps.length := by omega
        obtain ⟨tx4, ty4, qx4, qy4⟩ := hS K H4 s4
        have ex : atI xs (0 + (i : Int)) = some xs[i] := by rw [Int.zero_add]; exact atI_nat (by simp)
        have ey : atI ys (0 + (i : Int)) = some ys[i] := by rw [Int.zero_add]; exact atI_nat (by simp)
        have T4 : SqT K H4 a [.ref ax, .ref ay] := SqT.of ha4
        have hcl : cs.length = i := by
          have := congrArg List.length hcs
          rw [List.length_map, List.length_take] at this
          omega
        refine ⟨_, rfl, tyl hl4, _, rfl, a, _, 0, .ref ax, rfl, rfl, T4, rfl, _, rfl, seqIx qx4 ex ⟨_, rfl, a, _, 1, .ref ay, rfl, rfl, T4, rfl, _, rfl, seqIx qy4 ey ⟨lz, fun q hq => ?_⟩⟩⟩
        have hl5 := (upd_ne (o := .tup [xs[i], ys[i]]) (ne_of_none hl4 hq)).trans hl4
        refine ⟨l, _, _, rfl, rfl, hl5, ?_, ?_⟩
        · rw [List.length_map, List.length_append]
          exact Nat.lt_of_le_of_lt (m := 1000000) (by omega) (by decide)
        have hqa : a ≠ q := ne_of_none ha4 hq
        have hal4 : a ≠ l := ne_of ha4 hl4 (by intro z; cases z)
        have hql : q ≠ l := fun z => by rw [z, hl4] at hq; cases hq
        refine ⟨cs ++ [(.ref q, ps[i])], _, rfl, ?_, (s4.upd hq).put hlH, fun t ht => ?_, ?_, ?_⟩
        · rw [upd_same, ← List.append_assoc, List.map_append (l₁ := ts' ++ cs)]
          rfl
        · rw [← List.append_assoc] at ht
          rcases List.mem_append.mp ht with z | z
          · obtain ⟨a2, x2, y2, e2, h2a, d⟩ := hts4 t z
            exact ⟨a2, x2, y2, e2, by rw [upd_ne (ne_of h2a hl4 (by intro z; cases z)), upd_ne (ne_of_none h2a hq)]; exact h2a, d⟩
          · obtain rfl : t = (.ref q, ps[i]) := by simpa using z
            exact ⟨q, xs[i], ys[i], rfl, by rw [upd_ne hql, upd_same], hdx i _ _ (by simp) (by simp), hdy i _ _ (by simp) (by simp)⟩
        · rw [List.map_append, hcs, List.take_add_one, List.getElem?_eq_getElem hi']
          rfl
        · rw [upd_ne hal4, upd_ne hqa]
          exact ha4
      · rintro σ H4 ⟨cs, x4, rfl, hl4, s4, hts4, hcs, ha4⟩
        have hcs' : cs.map (·.2) = ps := by rw [hcs]; exact List.take_of_length_le (by omega)
        refine ⟨PV.sizes ((ts' ++ cs).map (·.2)), ?_, ts' ++ cs, _, _, rfl, hl4, s4, hts4, rfl, ?_⟩
        · rw [List.map_append, PV.sizes_append, hcs']; omega
        · rw [List.map_append, PV.sizes_append, hcs']; omega
end
end Tt
namespace Tt
open PySem L2
abbrev Ct := Int × Str × Str × Int
def CtAt (H : Hp) : Option Ct → V → Prop
  | none, v => v = .non
  | some (d, o, t, a), v => ∃ p, v = .ref p ∧ H p = some (.tup [.int d, .str o, .str t, .int a])
theorem CtAt.same {H H' : Hp} {c : Option Ct} {v : V} (e : Same H H') (h : CtAt H c v) : CtAt H' c v := by
  match c, h with
  | none, h => exact h
  | some (d, o, t, a), ⟨p, e1, e2⟩ => exact ⟨p, e1, e _ _ e2⟩
def doesI (c : Option Ct) (n : Str) (day : Int) : Int := match c with
  | none => 0
  | some (d, o, t, a) => if day < d then 0 else a * ((if t = n then 1 else 0) - (if o = n then 1 else 0))
def CtNe (c : Option Ct) : Prop := ∀ d o t a, c = some (d, o, t, a) → o ≠ t
structure CtsV (H : Hp) (vs : List V) (cs : List (Option Ct)) : Prop where
  len : vs.length = cs.length
  at' : ∀ (i : Nat) (v : V) (c : Option Ct), vs[i]? = some v → cs[i]? = some c → CtAt H c v
theorem CtsV.same {H H' : Hp} {vs : List V} {cs : List (Option Ct)} (e : Same H H') (h : CtsV H vs cs) : CtsV H' vs cs := ⟨h.len, fun i v c h1 h2 => (h.at' i v c h1 h2).same e⟩
theorem CtsV.nil {H : Hp} : CtsV H [] [] := ⟨rfl, fun i v c h => by simp at h⟩
theorem CtsV.snoc {H : Hp} {vs : List V} {cs : List (Option Ct)} {v : V} {c : Option Ct} (h : CtsV H vs cs) (hc : CtAt H c v) : CtsV H (vs ++ [v]) (cs ++ [c]) := by
  refine ⟨by rw [List.length_append, List.length_append, h.len]; rfl, fun i v' c' h1 h2 => ?_⟩
  by_cases hi : i < vs.length
  · rw [List.getElem?_append_left hi] at h1
    rw [List.getElem?_append_left (by rw [← h.len]; exact hi)] at h2
    exact h.at' i v' c' h1 h2
  · have h1' := (List.getElem?_eq_some_iff.mp h1).1
    rw [List.length_append] at h1'
    have e : i = vs.length := by simp at h1'; omega
    subst e
    rw [List.getElem?_append_right (Nat.le_refl _), Nat.sub_self] at h1
    rw [h.len, List.getElem?_append_right (Nat.le_refl _), Nat.sub_self] at h2
    cases h1
    cases h2
    exact hc
def hasI (cs : List (Option Ct)) (n : Str) (day : Int) : Int := (cs.map fun c => doesI c n day).sum
theorem hasI_snoc (cs : List (Option Ct)) (c : Option Ct) (n : Str) (day : Int) : hasI (cs ++ [c]) n day = hasI cs n day + doesI c n day := by simp [hasI]
def spDoes : Sp := fun vs H Q _ => ∃ (v : V) (c : Option Ct) (n : Str) (day : Int), vs = [v, .str n, .int day] ∧ CtAt H c v ∧ Q (.int (doesI c n day)) H
def spHas (K : PySem.W.Frag) : Sp := fun vs H Q _ => ∃ (l : Addr) (zs : List V) (cs : List (Option Ct)) (n : Str) (day : Int), vs = [.ref l, .str n, .int day] ∧ SqL K H l zs ∧ CtsV H zs cs ∧ Q (.int (hasI cs n day)) H
def spRoom (K : PySem.W.Frag) : Sp := fun vs H Q _ => ∃ (a : Addr) (ns : List Int) (m b : Int), vs = [.ref a, .int m, .int b] ∧ SqL K H a (ns.map V.int) ∧ ns.length ≤ 63 ∧ Q (.int m) H
section
variable {P : Program} {w : World} {K : PySem.W.Frag} {mg : Str → Option Value} {base : Heap}
theorem scDoes : FnScope ["_law_content", "_law_account", "_law_day", "_law_gets"] ["_law_content", "_law_account", "_law_day"] (defScope sDoes) := ⟨rfl, rfl, rfl, by decide +kernel, rfl, by decide +kernel, by decide +kernel⟩
theorem ok_does {f : Addr} {fd : FuncData} (F : Fun K "_law_does" "_law_does" sDoes f fd) (B : TopB mg) : FnOk P w K mg base CX0 1 f fd ["_law_content", "_law_account", "_law_day"] spDoes := by
  refine F.ok scDoes (fun vs H Q E h => ?_) (fun cdv A outer s H vs Q E hr h => ?_)
  · obtain ⟨v, c, n, day, rfl, _⟩ := h
    rfl
  · obtain ⟨v, c, n, day, rfl, hc, k⟩ := h
    have nd := scDoes.nd
    refine ⟨_, (pss_cons (ps_if (PW.pt (pw_or (pt_cmp (pc_isN (pv 0))) (pw_or1 (pt_cmpR op_gt (pe_ix ix_tup (pv 0) pe_int (fun _ _ => rfl)) (pv 2) (nomark _))))) (pss_one (ps_ret pe_int)) pss_nil)
      (pss_cons (ps_set (i := 3) nd rfl (Or.inl rfl) (pcT call_int1 (by rfl) B.int PyProof.Rows.boot_int (pa1 (pe_cmpR op_eq (pe_ix ix_tup (pv 0) pe_int (fun _ _ => rfl)) (pv 1) (nomark _)))))
      (pss_one (ps_ret (pe_op op_mul (pe_ix ix_tup (pv 0) pe_int (fun _ _ => rfl)) (pe_op op_sub (pv 3) (pcT call_int1 (by rfl) B.int PyProof.Rows.boot_int (pa1 (pe_cmpR op_eq (pe_ix ix_tup (pv 0) pe_int (fun _ _ => rfl)) (pv 1) (nomark _)))))))))), ?_⟩
    match c, hc, k with
    | none, hc, k =>
      have hv : v = .non := hc
      subst hv
      exact ⟨_, rfl, true, rfl, iteT (iteT k)⟩
    | some (d, o, t, a), ⟨p, hv, hp⟩, k =>
      subst hv
      have T : SqT K H p [.int d, .str o, .str t, .int a] := SqT.of hp
      refine ⟨_, rfl, false, rfl, iteF ?_⟩
      refine ⟨_, rfl, p, _, 0, .int d, rfl, rfl, T, rfl, _, rfl, _, _, rfl, rfl, _, rfl, ?_⟩
      by_cases h1 : day < d
      · rw [decide_eq_true h1]
        have e : doesI (some (d, o, t, a)) n day = 0 := by simp [doesI, h1]
        rw [e] at k
        exact iteT k
      · rw [decide_eq_false h1]
        refine iteF ?_
        refine ⟨_, rfl, p, _, 2, .str t, rfl, rfl, T, rfl, _, rfl, rfl, .inr ⟨_, rfl, ?_⟩⟩
        refine ⟨_, rfl, p, _, 3, .int a, rfl, rfl, T, rfl, _, rfl, _, rfl, p, _, 1, .str o, rfl, rfl, T, rfl, _, rfl, rfl, .inr ⟨_, rfl, _, _, rfl, rfl, _, _, rfl, rfl, ?_, ?_⟩⟩
        · refine .inr ?_
          by_cases h2 : V.str t = V.str n <;> by_cases h3 : V.str o = V.str n <;> simp only [h2, h3, decide_true, decide_false, if_true, if_false] <;> decide
        · have e : doesI (some (d, o, t, a)) n day = a * ((if decide (V.str t = V.str n) = true then 1 else 0) - (if decide (V.str o = V.str n) = true then 1 else 0)) := by
            simp [doesI, h1]
          rw [e] at k
          exact k
theorem scHas : FnScope ["_law_contents", "_law_account", "_law_day", "_law_total", "_law_content"] ["_law_contents", "_law_account", "_law_day"] (defScope sHas) := ⟨rfl, rfl, rfl, by decide +kernel, rfl, by decide +kernel, by decide +kernel⟩
theorem ok_has {f fDo : Addr} {fd fdDo : FuncData} (F : Fun K "_law_has" "_law_has" sHas f fd) (B : TopB mg) (FDo : Fun K "_law_does" "_law_does" sDoes fDo fdDo) (bDo : Binds K fdDo ["_law_content", "_law_account", "_law_day"] []) (mDo : mg "_law_does" = some (.ref fDo)) :
    FnOk P w K mg base CX0 2 f fd ["_law_contents", "_law_account", "_law_day"] (spHas K) := by
  have GDo : FnOk P w K mg base CX0 1 fDo fdDo ["_law_content", "_law_account", "_law_day"] spDoes := ok_does FDo B
  refine F.ok scHas (fun vs H Q E h => ?_) (fun cdv A outer s H vs Q E hr h => ?_)
  · obtain ⟨l, zs, cs, n, day, rfl, _⟩ := h
    rfl
  · obtain ⟨l, zs, cs, n, day, rfl, hl, hc, k⟩ := h
    have nd := scHas.nd
    refine ⟨_, (pss_cons (ps_set (i := 3) nd rfl (Or.inl rfl) pe_int)
      (pss_cons (ps_for PassesOwn.never rfl (pi_list (pv 0)) (pg_name (i := 4) nd rfl (Or.inl rfl)) (pss_one (ps_set (i := 3) nd rfl (Or.inl rfl) (pe_op op_add (pv 3) (pcall GDo hr (by rfl) mDo FDo.kp bDo .nil pass0 (pa3 (pv 4) (pv 1) (pv 2)))))))
      (pss_one (ps_ret (pv 3))))), ?_⟩
    refine ⟨_, rfl, l, rfl, ⟨_, hl⟩, for_list (K := K) (a := l) (xs := zs) (fun i σ H2 => H2 = H ∧ ∃ x, σ = [some (.ref l), some (.str n), some (.int day), some (.int (hasI (cs.take i) n day)), x]) ⟨rfl, _, rfl⟩ (fun i σ H2 _ h => h.1 ▸ hl) ?_ ?_⟩
    · rintro i y σ H2 hi ⟨rfl, x, rfl⟩
      have hi' : i < cs.length := by rw [← hc.len]; exact (List.getElem?_eq_some_iff.mp hi).1
      have hci : cs[i]? = some cs[i] := by simp
      refine ⟨_, rfl, _, rfl, _, rfl, _, rfl, y, cs[i], n, day, rfl, hc.at' i y _ hi hci, _, _, rfl, rfl, rfl, some y, ?_⟩
      rw [List.take_add_one, hci]
      show _ = [_, _, _, some (V.int (hasI (cs.take i ++ [cs[i]]) n day)), _]
      rw [hasI_snoc]
      rfl
    · rintro σ H2 ⟨rfl, x, rfl⟩
      rw [hc.len, List.take_length]
      exact ⟨_, rfl, k⟩
theorem scRoom : FnScope ["_law_script", "_law_most", "_law_bound"] ["_law_script", "_law_most", "_law_bound"] (defScope sRoom) := ⟨rfl, rfl, rfl, by decide +kernel, rfl, by decide +kernel, by decide +kernel⟩
theorem ok_room {f : Addr} {fd : FuncData} (F : Fun K "_law_room" "_law_room" sRoom f fd) (B : TopB mg) : FnOk P w K mg base CX0 1 f fd ["_law_script", "_law_most", "_law_bound"] (spRoom K) := by
  refine F.ok scRoom (fun vs H Q E h => ?_) (fun cdv A outer s H vs Q E hr h => ?_)
  · obtain ⟨a, ns, m, b, rfl, _⟩ := h
    rfl
  · obtain ⟨a, ns, m, b, rfl, hS, hl, k⟩ := h
    refine ⟨_, (pss_cons (ps_if (pt_cmpR op_gt (pcB call_len_seq (by rfl) B.len PySem.boot_len (pa1 (pv 0))) pe_int (nomark _)) (pss_one (ps_ret (pv 2))) pss_nil)
      (pss_one (ps_ret (pv 1)))), ?_⟩
    refine ⟨_, rfl, a, _, rfl, .inl hS, _, _, rfl, rfl, _, rfl, ?_⟩
    have : ¬ (63 : Int) < ((ns.map V.int).length : Int) := by rw [List.length_map]; omega
    rw [decide_eq_false this]
    exact iteF ⟨_, rfl, k⟩
end
end Tt
namespace Tt
open PySem L2
theorem CtAt.put {H : Hp} {c : Option Ct} {v : V} (h : CtAt H c v) {l : Addr} {xs ys : List V} (hl : H l = some (.lst xs)) : CtAt (upd H l (.lst ys)) c v := by
  match c, h with
  | none, h => exact h
  | some (d, o, t, a), ⟨p, e, hp⟩ => exact ⟨p, e, by rw [upd_ne (ne_of hp hl (by intro z; cases z))]; exact hp⟩
theorem CtsV.put {H : Hp} {zs : List V} {cs : List (Option Ct)} (h : CtsV H zs cs) {l : Addr} {xs ys : List V} (hl : H l = some (.lst xs)) : CtsV (upd H l (.lst ys)) zs cs := ⟨h.len, fun i v c h1 h2 => (h.at' i v c h1 h2).put hl⟩
theorem sizes_le {α : Type} (f : α → PV) (k : Nat) : ∀ (l : List α), (∀ a ∈ l, (f a).size ≤ k) → PV.sizes (l.map f) ≤ l.length * k
  | [], _ => Nat.zero_le _
  | a :: l, h => by
    have h1 := sizes_le f k l fun b hb => h b (List.mem_cons_of_mem _ hb)
    have h2 := h a List.mem_cons_self
    rw [List.map_cons, List.length_cons, Nat.succ_mul]
    show (f a).size + PV.sizes (l.map f) ≤ _
    omega
theorem pv1 (v : V) : (pvOf v).size ≤ 1 := by cases v <;> simp [pvOf, PV.size]
theorem row_size (row : List V) : (PV.tup (row.map pvOf)).size ≤ 1 + row.length := by
  show 1 + PV.sizes _ ≤ _
  have := sizes_le pvOf 1 row fun v _ => pv1 v
  omega
theorem rows_size {rows : List (List V)} {k : Nat} (h : ∀ row ∈ rows, row.length ≤ k) : (PV.lst (rows.map fun row => .tup (row.map pvOf))).size ≤ 1 + rows.length * (1 + k) := by
  show 1 + PV.sizes _ ≤ _
  have := sizes_le (fun row : List V => PV.tup (row.map pvOf)) (1 + k) rows fun row hr => Nat.le_trans (row_size row) (by have := h row hr; omega)
  omega
end Tt
namespace Tt
open PySem L2
def lineA (d : Int) (i : Nat) (o t : Str) (a : Int) (n : Str) : List (List V) := if o = n then [[.int d, .int i, .str t, .int (a * -1)]] else []
def lineB (d : Int) (i : Nat) (o t : Str) (a : Int) (n : Str) : List (List V) := if t = n then [[.int d, .int i, .str o, .int (a * 1)]] else []
def lineOf (i : Nat) (c : Option Ct) (n : Str) (f l : Int) : List (List V) := match c with
  | none => []
  | some (d, o, t, a) => if f ≤ d ∧ d ≤ l then lineA d i o t a n ++ lineB d i o t a n else []
def linesTo (cs : List (Option Ct)) (n : Str) (f l : Int) (k : Nat) : List (List V) := (List.range k).flatMap fun i => lineOf i (cs.getD i none) n f l
theorem linesTo_succ (cs : List (Option Ct)) (n : Str) (f l : Int) (k : Nat) : linesTo cs n f l (k + 1) = linesTo cs n f l k ++ lineOf k (cs.getD k none) n f l := by
  unfold linesTo
  rw [List.range_succ, List.flatMap_append]
  simp
theorem lineOf_len {i : Nat} {c : Option Ct} {n : Str} {f l : Int} (h : CtNe c) : (lineOf i c n f l).length ≤ 1 := by
  match c, h with
  | none, _ => exact Nat.zero_le _
  | some (d, o, t, a), h =>
    have hne := h d o t a rfl
    unfold lineOf lineA lineB
    by_cases h1 : o = n <;> by_cases h2 : t = n <;> simp only [h1, h2, if_true, if_false] <;> (try split) <;> simp
    exact absurd (h1.trans h2.symm) hne
theorem lineOf_mem {i : Nat} {c : Option Ct} {n : Str} {f l : Int} {row : List V} (h : row ∈ lineOf i c n f l) : ∃ d x y, row = [V.int d, V.int (i : Int), x, y] ∧ scalar x = true ∧ scalar y = true := by
  match c, h with
  | none, h => cases h
  | some (d, o, t, a), h =>
    unfold lineOf at h
    simp only at h
    split at h
    · rcases List.mem_append.mp h with z | z
      · unfold lineA at z
        split at z
        · obtain rfl : row = _ := by simpa using z
          exact ⟨d, _, _, rfl, rfl, rfl⟩
        · cases z
      · unfold lineB at z
        split at z
        · obtain rfl : row = _ := by simpa using z
          exact ⟨d, _, _, rfl, rfl, rfl⟩
        · cases z
    · cases h
theorem linesTo_len {cs : List (Option Ct)} {n : Str} {f l : Int} (h : ∀ c ∈ cs, CtNe c) : ∀ k, k ≤ cs.length → (linesTo cs n f l k).length ≤ k
  | 0, _ => by simp [linesTo]
  | k + 1, hk => by
    rw [linesTo_succ, List.length_append]
    have h1 := linesTo_len (n := n) (f := f) (l := l) h k (by omega)
    have hk' : k < cs.length := by omega
    have h2 : (lineOf k (cs.getD k none) n f l).length ≤ 1 := lineOf_len (h _ (by rw [List.getD_eq_getElem?_getD, List.getElem?_eq_getElem hk']; exact List.getElem_mem hk'))
    omega
theorem linesTo_num {cs : List (Option Ct)} {n : Str} {f l : Int} : ∀ (k : Nat) (row : List V), row ∈ linesTo cs n f l k → ∃ d x y, ∃ i : Nat, i < k ∧ row = [V.int d, V.int (i : Int), x, y] ∧ scalar x = true ∧ scalar y = true
  | 0, row, h => by simp [linesTo] at h
  | k + 1, row, h => by
    rw [linesTo_succ] at h
    rcases List.mem_append.mp h with z | z
    · obtain ⟨d, x, y, i, hi, e⟩ := linesTo_num k row z
      exact ⟨d, x, y, i, by omega, e⟩
    · obtain ⟨d, x, y, e⟩ := lineOf_mem z
      exact ⟨d, x, y, k, by omega, e⟩
theorem linesTo_rows2 {cs : List (Option Ct)} {n : Str} {f l : Int} (h : ∀ c ∈ cs, CtNe c) : ∀ k, k ≤ cs.length → Rows2 (linesTo cs n f l k)
  | 0, _ => ⟨fun row hr => by simp [linesTo] at hr, fun i j x y _ hx => by simp [linesTo] at hx⟩
  | k + 1, hk => by
    have ih := linesTo_rows2 (n := n) (f := f) (l := l) h k (by omega)
    have hk' : k < cs.length := by omega
    have h2 : (lineOf k (cs.getD k none) n f l).length ≤ 1 := lineOf_len (h _ (by rw [List.getD_eq_getElem?_getD, List.getElem?_eq_getElem hk']; exact List.getElem_mem hk'))
    have len : (linesTo cs n f l (k + 1)).length = (linesTo cs n f l k).length + (lineOf k (cs.getD k none) n f l).length := by rw [linesTo_succ, List.length_append]
    have old : ∀ (i : Nat) x, i < (linesTo cs n f l k).length → (linesTo cs n f l (k + 1))[i]? = some x → (linesTo cs n f l k)[i]? = some x := fun i x hi hx => by
      rw [linesTo_succ, List.getElem?_append_left hi] at hx
      exact hx
    have new : ∀ (i : Nat) x, ¬ i < (linesTo cs n f l k).length → (linesTo cs n f l (k + 1))[i]? = some x → x ∈ lineOf k (cs.getD k none) n f l := fun i x hi hx => by
      rw [linesTo_succ, List.getElem?_append_right (by omega)] at hx
      exact List.mem_of_getElem? hx
    refine ⟨fun row hr => ?_, fun i j x y hij hx hy => ?_⟩
    · obtain ⟨d, x, y, i, _, e, _⟩ := linesTo_num (k + 1) row hr
      exact ⟨d, i, [x, y], e⟩
    · have hli := (List.getElem?_eq_some_iff.mp hx).1
      have hlj := (List.getElem?_eq_some_iff.mp hy).1
      by_cases hi : i < (linesTo cs n f l k).length <;> by_cases hj : j < (linesTo cs n f l k).length
      · exact ih.ne i j x y hij (old i x hi hx) (old j y hj hy)
      · obtain ⟨d1, x1, y1, i1, h1, e1, _⟩ := linesTo_num k x (List.mem_of_getElem? (old i x hi hx))
        obtain ⟨d2, x2, y2, e2, _⟩ := lineOf_mem (new j y hj hy)
        intro a b rest c d rest' ea eb
        rw [e1] at ea; rw [e2] at eb
        cases ea; cases eb
        exact .inr (by omega)
      · obtain ⟨d1, x1, y1, i1, h1, e1, _⟩ := linesTo_num k y (List.mem_of_getElem? (old j y hj hy))
        obtain ⟨d2, x2, y2, e2, _⟩ := lineOf_mem (new i x hi hx)
        intro a b rest c d rest' ea eb
        rw [e2] at ea; rw [e1] at eb
        cases ea; cases eb
        exact .inr (by omega)
      · omega
def spListed (K : PySem.W.Frag) : Sp := fun vs H Q _ => ∃ (l : Addr) (zs : List V) (cs : List (Option Ct)) (n : Str) (f la : Int), vs = [.ref l, .str n, .int f, .int la] ∧ SqL K H l zs ∧ CtsV H zs cs ∧ cs.length < 64 ∧ (∀ c ∈ cs, CtNe c) ∧
  ∀ D zs' rows' H', Same H H' → H D = none → H' D = some (.lst zs') → SortedRows (linesTo cs n f la cs.length) rows' → RowsAt H' zs' rows' → Q (.ref D) H'
structure TopS (mg : Str → Option Value) : Prop where
  sorted : mg "sorted" = none
end Tt
namespace Tt
open PySem L2
theorem lineOf_form {i : Nat} {c : Option Ct} {n : Str} {f l : Int} {row : List V} (h : row ∈ lineOf i c n f l) : ∃ d x a, row = [V.int d, V.int (i : Int), V.str x, V.int a] := by
  match c, h with
  | none, h => cases h
  | some (d, o, t, a), h =>
    unfold lineOf at h
    simp only at h
    split at h
    · rcases List.mem_append.mp h with z | z
      · unfold lineA at z
        split at z
        · obtain rfl : row = _ := by simpa using z
          exact ⟨d, _, _, rfl⟩
        · cases z
      · unfold lineB at z
        split at z
        · obtain rfl : row = _ := by simpa using z
          exact ⟨d, _, _, rfl⟩
        · cases z
    · cases h
theorem linesTo_form {cs : List (Option Ct)} {n : Str} {f l : Int} {k : Nat} {row : List V} (h : row ∈ linesTo cs n f l k) : ∃ d x a, ∃ i : Nat, row = [V.int d, V.int (i : Int), V.str x, V.int a] := by
  unfold linesTo at h
  obtain ⟨i, _, hi⟩ := List.mem_flatMap.mp h
  obtain ⟨d, x, a, e⟩ := lineOf_form hi
  exact ⟨d, x, a, i, e⟩
theorem sorted_one {rows r1 r2 : List (List V)} (hf : ∀ row ∈ rows, rowOk row) (h1 : SortedRows rows r1) (h2 : SortedRows rows r2) : r1 = r2 := by
  refine List.Perm.eq_of_pairwise (le := fun x y => rowLt x y = true) (fun a b ha hb hab hba => ?_) h1.2 h2.2 (h1.1.trans h2.1.symm)
  obtain ⟨x, y, r, rfl⟩ := hf a (h1.1.mem_iff.mp ha)
  obtain ⟨x', y', r', rfl⟩ := hf b (h2.1.mem_iff.mp hb)
  rw [rowLt_int] at hab hba
  simp only [Bool.or_eq_true, Bool.and_eq_true, decide_eq_true_eq] at hab hba
  omega
def amt (row : List V) : Int := match row with
  | [_, _, _, .int a] => a
  | _ => 0
def sheetPV (b1 : Int) (rows : List (List V)) (b2 : Int) : PV := .tup [.int b1, .lst (rows.map fun row => .tup (row.map pvOf)), .int b2]
theorem sheet_deep {H : Hp} {p D : Addr} {b1 b2 : Int} {zs : List V} {rows : List (List V)} (hp : H p = some (.tup [.int b1, .ref D, .int b2])) (hD : H D = some (.lst zs)) (hR : RowsAt H zs rows) (hs : ∀ row ∈ rows, row.all scalar = true) : Deep H (sheetPV b1 rows b2) (.ref p) := by
  refine .tup hp rfl fun i q x hq hx => ?_
  match i, hq, hx with
  | 0, hq, hx => cases hq; cases hx; exact .int _
  | 1, hq, hx => cases hq; cases hx; exact hR.deep hD hs
  | 2, hq, hx => cases hq; cases hx; exact .int _
  | i + 3, hq, hx => simp at hq
theorem sorted_form {cs : List (Option Ct)} {n : Str} {f l : Int} {k : Nat} {rows : List (List V)} (hs : SortedRows (linesTo cs n f l k) rows) {row : List V} (h : row ∈ rows) : ∃ d x a, ∃ i : Nat, row = [V.int d, V.int (i : Int), V.str x, V.int a] := linesTo_form (hs.1.mem_iff.mp h)
end Tt
namespace Tt
open PySem L2
def newsOf (cs ls : List (Option Ct)) (n : Str) (day : Int) (i : Nat) : List (List V) :=
  if doesI (cs.getD i none) n day = doesI (ls.getD i none) n day then [] else [[.int i, .int (doesI (cs.getD i none) n day), .int (doesI (ls.getD i none) n day)]]
def newsTo (cs ls : List (Option Ct)) (n : Str) (day : Int) (k : Nat) : List (List V) := (List.range k).flatMap fun i => newsOf cs ls n day i
theorem newsTo_succ (cs ls : List (Option Ct)) (n : Str) (day : Int) (k : Nat) : newsTo cs ls n day (k + 1) = newsTo cs ls n day k ++ newsOf cs ls n day k := by
  unfold newsTo
  rw [List.range_succ, List.flatMap_append]
  simp
theorem newsTo_len (cs ls : List (Option Ct)) (n : Str) (day : Int) : ∀ k, (newsTo cs ls n day k).length ≤ k
  | 0 => by simp [newsTo]
  | k + 1 => by
    rw [newsTo_succ, List.length_append]
    have := newsTo_len cs ls n day k
    have : (newsOf cs ls n day k).length ≤ 1 := by unfold newsOf; split <;> simp
    omega
theorem newsTo_scalar (cs ls : List (Option Ct)) (n : Str) (day : Int) (k : Nat) : ∀ row ∈ newsTo cs ls n day k, row.all scalar = true := fun row h => by
  unfold newsTo at h
  obtain ⟨i, _, hi⟩ := List.mem_flatMap.mp h
  unfold newsOf at hi
  split at hi
  · cases hi
  · obtain rfl : row = _ := by simpa using hi
    rfl
structure TopM (mg : Str → Option Value) : Prop where
  max : mg "max" = none
end Tt
namespace Tt
open PySem L2
def spMar : Sp := fun vs H Q _ => ∃ (p : Addr) (d : Int) (o t : Str) (a c : Int), vs = [.ref p, .int c] ∧ H p = some (.tup [.int d, .str o, .str t, .int a]) ∧
  ∀ (d' : Int) (o' t' : Str) (a' : Int) (p' : Addr) (H' : Hp), o' = o → (t' = t ∨ t' = o) → Same H H' → H' p' = some (.tup [.int d', .str o', .str t', .int a']) → Q (.ref p') H'
section
variable {P : Program} {w : World} {K : PySem.W.Frag} {mg : Str → Option Value} {base : Heap}
theorem scMar : FnScope ["_law_content", "_law_cell", "_law_rest"] ["_law_content", "_law_cell"] (defScope sMar) := ⟨rfl, rfl, rfl, by decide +kernel, rfl, by decide +kernel, by decide +kernel⟩
theorem three {α : Type} {a b c : α} {i : Int} (h0 : 0 ≤ i) (h : i < 3) : ∃ v, atI [a, b, c] i = some v ∧ (v = a ∨ v = b ∨ v = c) := by
  have : i = 0 ∨ i = 1 ∨ i = 2 := by omega
  rcases this with rfl | rfl | rfl
  · exact ⟨a, rfl, .inl rfl⟩
  · exact ⟨b, rfl, .inr (.inl rfl)⟩
  · exact ⟨c, rfl, .inr (.inr rfl)⟩
theorem pow60 : (0 : Int) < 10 ^ (60 : Int).toNat := by decide +kernel
theorem ok_mar {f : Addr} {fd : FuncData} (F : Fun K "_law_marred" "_law_marred" sMar f fd) : FnOk P w K mg base CX0 1 f fd ["_law_content", "_law_cell"] spMar := by
  refine F.ok scMar (fun vs H Q E h => ?_) (fun cdv A outer s H vs Q E hr h => ?_)
  · obtain ⟨p, d, o, t, a, c, rfl, _⟩ := h
    rfl
  · obtain ⟨p, d, o, t, a, c, rfl, hp, kk⟩ := h
    have nd := scMar.nd
    refine ⟨_, (pss_cons (ps_set (i := 2) nd rfl (Or.inl rfl) (pe_op op_fdiv (pv 1) pe_int))
      (pss_join (ps_if (pt_cmpR op_eq (pe_op op_mod (pv 1) pe_int) pe_int (nomark _)) (pss_one (ps_set (i := 0) nd rfl (Or.inl rfl) (pe_op op_catT (pe_slice sl_tup (pv 0) po_none (po_some pe_int)) (pe_tup (pa2 (pe_ix ix_tup (pv 0) pe_int (fun _ _ => rfl)) (pe_ix ix_tup (pv 0) pe_int (fun _ _ => rfl))))))) pss_nil)
      (pss_join (ps_if (PW.pt (pw_or (pt_cmpR op_eq (pe_op op_mod (pv 1) pe_int) pe_int (nomark _)) (pw_or1 (PW.pt (pw_and (pt_cmpR op_eq (pe_op op_mod (pv 1) pe_int) pe_int (nomark _)) (pw_and1 (pt_cmpR op_eq (pe_op op_mod (pv 2) pe_int) pe_int (nomark _)))))))) (pss_one (ps_set (i := 0) nd rfl (Or.inl rfl) (pe_op op_catT (pe_slice sl_tup (pv 0) po_none (po_some pe_int)) (pe_tup (pa1 (pe_ix ix_list (pe_lst (pa3 pe_int (pe_un un_neg pe_int) (pe_op op_sub (pe_un un_neg pe_int) (pe_op op_mod (pv 2) (pe_op op_pow pe_int pe_int))))) (pe_op op_mod (pe_op op_fdiv (pv 2) pe_int) pe_int) (fun _ _ => rfl))))))) pss_nil)
      (pss_join (ps_if (PW.pt (pw_and (pt_cmpR op_eq (pe_op op_mod (pv 1) pe_int) pe_int (nomark _)) (pw_and1 (pt_cmpR op_eq (pe_op op_mod (pv 2) pe_int) pe_int (nomark _))))) (pss_one (ps_set (i := 0) nd rfl (Or.inl rfl) (pe_op op_catT (pe_tup (pa1 (pe_un un_neg pe_int))) (pe_slice sl_tup (pv 0) (po_some pe_int) po_none)))) pss_nil)
      (pss_one (ps_ret (pv 0))))))), ?_⟩
    refine ⟨_, rfl, _, _, rfl, rfl, ⟨by decide, by decide⟩, ?_⟩
    refine ⟨fun σ H1 => ∃ (p1 : Addr) (t1 : Str) (a1 : Int), σ = [some (.ref p1), some (.int c), some (.int (c / 16))] ∧ H1 p1 = some (.tup [.int d, .str o, .str t1, .int a1]) ∧ (t1 = t ∨ t1 = o) ∧ Same H H1, ?_, ?_⟩
    · refine ⟨_, rfl, _, _, rfl, rfl, pz _, rfl, _, rfl, ?_⟩
      refine ite2 (fun _ => ?_) (fun _ => ⟨p, t, a, rfl, hp, .inl rfl, Same.refl H⟩)
      have T : SqT K H p [.int d, .str o, .str t, .int a] := SqT.of hp
      refine ⟨_, rfl, _, rfl, p, _, rfl, T, by show ¬ (HT.sIx 4 0 none = 0 ∧ HT.sIx 4 4 (some 2) = 4); decide, fun q1 hq1 => ?_⟩
      have T1 := (Same.upd0 (o := .tup (cutV [V.int d, .str o, .str t, .int a] none (some 2))) hq1).tup T
      refine ⟨_, rfl, p, _, 1, .str o, rfl, rfl, T1, rfl, _, rfl, p, _, 3, .int a, rfl, rfl, T1, rfl, lz, fun q2 hq2 => ?_⟩
      refine ⟨q1, q2, [.int d, .str o], [.str o, .int a], rfl, rfl, SqT.of ((Same.upd0 hq2) _ _ upd_same), SqT.of upd_same, by simp, lz, fun z => absurd z (by simp), fun _ q3 hq3 => ?_⟩
      exact ⟨q3, o, a, rfl, upd_same, .inr rfl, ((Same.upd0 hq1).upd hq2).upd hq3⟩
    rintro σ1 H1 ⟨p1, t1, a1, rfl, hp1, ht1, s1⟩
    refine ⟨fun σ H2 => ∃ (p2 : Addr) (a2 : Int), σ = [some (.ref p2), some (.int c), some (.int (c / 16))] ∧ H2 p2 = some (.tup [.int d, .str o, .str t1, .int a2]) ∧ Same H H2, ?_, ?_⟩
    · have T : SqT K H1 p1 [.int d, .str o, .str t1, .int a1] := SqT.of hp1
      refine ⟨_, rfl, _, _, rfl, rfl, pz _, rfl, _, rfl, ?_⟩
      refine ite2 (fun _ => iteT ?_) (fun _ => ?_)
      · skip
        refine ⟨_, rfl, _, rfl, p1, _, rfl, T, by show ¬ (HT.sIx 4 0 none = 0 ∧ HT.sIx 4 4 (some 3) = 4); decide, fun q1 hq1 => ?_⟩
        refine ⟨_, rfl, _, rfl, _, rfl, _, _, rfl, rfl, ⟨by decide, by decide, by decide⟩, _, _, rfl, rfl, pow60, _, _, rfl, rfl, lz, fun l hl => ?_⟩
        have q3 := nodraw (x := c / 16 / 2) (m := 3) (by decide)
        obtain ⟨v, e, hv⟩ := three (a := V.int 0) (b := V.int (-1)) (c := V.int (-2 - c / 16 % 10 ^ (60 : Int).toNat)) q3.1 q3.2
        have : ∃ z : Int, v = .int z := by rcases hv with rfl | rfl | rfl <;> exact ⟨_, rfl⟩
        obtain ⟨z, rfl⟩ := this
        refine ⟨_, rfl, _, _, rfl, rfl, ⟨by decide, by decide⟩, _, _, rfl, rfl, pz _, l, _, _, _, rfl, rfl, SqL.of upd_same, e, lz, fun q2 hq2 => ?_⟩
        refine ⟨q1, q2, [.int d, .str o, .str t1], [.int z], rfl, rfl, SqT.of ((Same.upd0 hq2) _ _ ((Same.upd0 hl) _ _ upd_same)), SqT.of upd_same, by simp, lz, fun z => absurd z (by simp), fun _ q3 hq3 => ?_⟩
        exact ⟨q3, z, rfl, upd_same, ((s1.upd hq1).upd hl |>.upd hq2).upd hq3⟩
      refine ⟨_, rfl, _, _, rfl, rfl, pz _, rfl, _, rfl, ?_⟩
      refine ite2 (fun _ => ?_) (fun _ => iteF ⟨p1, a1, rfl, hp1, s1⟩)
      refine ⟨_, rfl, _, _, rfl, rfl, pz _, rfl, _, rfl, ?_⟩
      refine ite2' (fun _ => ?_) (fun _ => ⟨p1, a1, rfl, hp1, s1⟩)
      · skip
        refine ⟨_, rfl, _, rfl, p1, _, rfl, T, by show ¬ (HT.sIx 4 0 none = 0 ∧ HT.sIx 4 4 (some 3) = 4); decide, fun q1 hq1 => ?_⟩
        refine ⟨_, rfl, _, rfl, _, rfl, _, _, rfl, rfl, ⟨by decide, by decide, by decide⟩, _, _, rfl, rfl, pow60, _, _, rfl, rfl, lz, fun l hl => ?_⟩
        have q3 := nodraw (x := c / 16 / 2) (m := 3) (by decide)
        obtain ⟨v, e, hv⟩ := three (a := V.int 0) (b := V.int (-1)) (c := V.int (-2 - c / 16 % 10 ^ (60 : Int).toNat)) q3.1 q3.2
        have : ∃ z : Int, v = .int z := by rcases hv with rfl | rfl | rfl <;> exact ⟨_, rfl⟩
        obtain ⟨z, rfl⟩ := this
        refine ⟨_, rfl, _, _, rfl, rfl, ⟨by decide, by decide⟩, _, _, rfl, rfl, pz _, l, _, _, _, rfl, rfl, SqL.of upd_same, e, lz, fun q2 hq2 => ?_⟩
        refine ⟨q1, q2, [.int d, .str o, .str t1], [.int z], rfl, rfl, SqT.of ((Same.upd0 hq2) _ _ ((Same.upd0 hl) _ _ upd_same)), SqT.of upd_same, by simp, lz, fun z => absurd z (by simp), fun _ q3 hq3 => ?_⟩
        exact ⟨q3, z, rfl, upd_same, ((s1.upd hq1).upd hl |>.upd hq2).upd hq3⟩
    rintro σ2 H2 ⟨p2, a2, rfl, hp2, s2⟩
    refine ⟨fun σ H3 => ∃ (p3 : Addr) (d3 : Int), σ = [some (.ref p3), some (.int c), some (.int (c / 16))] ∧ H3 p3 = some (.tup [.int d3, .str o, .str t1, .int a2]) ∧ Same H H3, ?_, ?_⟩
    · have T : SqT K H2 p2 [.int d, .str o, .str t1, .int a2] := SqT.of hp2
      refine ⟨_, rfl, _, _, rfl, rfl, pz _, rfl, _, rfl, ?_⟩
      refine ite2 (fun _ => ?_) (fun _ => iteF ⟨p2, d, rfl, hp2, s2⟩)
      refine ⟨_, rfl, _, _, rfl, rfl, pz _, rfl, _, rfl, ?_⟩
      refine ite2' (fun _ => ?_) (fun _ => ⟨p2, d, rfl, hp2, s2⟩)
      refine ⟨_, rfl, lz, fun q1 hq1 => ?_⟩
      refine ⟨_, rfl, _, rfl, p2, _, rfl, (Same.upd0 hq1).tup T, by show ¬ (HT.sIx 4 0 (some 1) = 0 ∧ HT.sIx 4 4 none = 4); decide, fun q2 hq2 => ?_⟩
      refine ⟨q1, q2, [.int (-5)], [.str o, .str t1, .int a2], rfl, rfl, SqT.of ((Same.upd0 hq2) _ _ upd_same), SqT.of upd_same, by simp, lz, fun z => absurd z (by simp), fun _ q3 hq3 => ?_⟩
      exact ⟨q3, -5, rfl, upd_same, ((s2.upd hq1).upd hq2).upd hq3⟩
    rintro σ3 H3 ⟨p3, d3, rfl, hp3, s3⟩
    exact ⟨_, rfl, kk d3 o t1 a2 p3 H3 rfl ht1 s3 hp3⟩
end
end Tt
namespace Tt
open PySem L2
inductive Deed where
  | move (c : Ct) | right (n : Int) (c : Ct) | strike (n : Int) | close (d : Int) | bal (a : Str) (d h : Int) | sheet (a : Str) (f l h : Int) | news (a : Str) (d h l : Int)
def Deed.row : Deed → List V
  | .move (d, o, t, a) => [.str "move", .int d, .str o, .str t, .int a]
  | .right n (d, o, t, a) => [.str "right", .int n, .int d, .str o, .str t, .int a]
  | .strike n => [.str "strike", .int n]
  | .close d => [.str "close", .int d]
  | .bal a d h => [.str "balance", .str a, .int d, .int h]
  | .sheet a f l h => [.str "sheet", .str a, .int f, .int l, .int h]
  | .news a d h l => [.str "news", .str a, .int d, .int h, .int l]
def ctNm (c : Ct) : Prop := nms c.2.1 ∧ nms c.2.2.1
def Deed.nm : Deed → Prop
  | .move c => ctNm c
  | .right _ c => ctNm c
  | _ => True
def CtNm (H : Hp) (v : V) : Prop := ∃ (p : Addr) (d : Int) (o t : Str) (a : Int), v = .ref p ∧ H p = some (.tup [.int d, .str o, .str t, .int a]) ∧ nms o ∧ nms t
theorem CtNm.same {H H' : Hp} {v : V} (e : Same H H') (h : CtNm H v) : CtNm H' v := let ⟨p, d, o, t, a, h1, h2, h3⟩ := h; ⟨p, d, o, t, a, h1, e _ _ h2, h3⟩
theorem CtNm.put {H : Hp} {v : V} {l : Addr} {xs ys : List V} (h : CtNm H v) (hl : H l = some (.lst xs)) : CtNm (upd H l (.lst ys)) v :=
  let ⟨p, d, o, t, a, h1, h2, h3⟩ := h; ⟨p, d, o, t, a, h1, by rw [upd_ne (ne_of h2 hl (by intro z; cases z))]; exact h2, h3⟩
structure DI (H H2 : Hp) (mr hl : Addr) (mz hz : List V) (dds : List Deed) (i : Nat) : Prop where
  same : Same H H2
  mrn : H mr = none
  hln : H hl = none
  ne : hl ≠ mr
  made : H2 mr = some (.lst mz)
  rows : RowsAt H2 mz (dds.map Deed.row)
  held : H2 hl = some (.lst hz)
  all : ∀ v ∈ hz, CtNm H2 v
  len : dds.length = i
  few : hz.length ≤ i
  nm : ∀ d ∈ dds, d.nm
section
variable {H H2 H3 : Hp} {mr hl : Addr} {mz hz : List V} {dds : List Deed} {i : Nat}
theorem DI.grow (D : DI H H2 mr hl mz hz dds i) (e : Same H2 H3) : DI H H3 mr hl mz hz dds i :=
  ⟨D.same.trans e, D.mrn, D.hln, D.ne, e _ _ D.made, D.rows.same e, e _ _ D.held, fun v hv => (D.all v hv).same e, D.len, D.few, D.nm⟩
theorem DI.set (D : DI H H2 mr hl mz hz dds i) (j : Nat) {v : V} (hv : CtNm H2 v) : DI H (upd H2 hl (.lst (hz.set j v))) mr hl mz (hz.set j v) dds i := by
  refine ⟨D.same.put D.hln, D.mrn, D.hln, D.ne, by rw [upd_ne (Ne.symm D.ne)]; exact D.made, D.rows.put D.held, upd_same, fun u hu => ?_, D.len, by rw [List.length_set]; exact D.few, D.nm⟩
  rcases List.mem_or_eq_of_mem_set hu with z | z
  · exact (D.all u z).put D.held
  · rw [z]; exact hv.put D.held
theorem DI.told (D : DI H H2 mr hl mz hz dds i) {q : Addr} {d : Deed} (hq : H2 q = some (.tup d.row)) (hn : d.nm) : DI H (upd H2 mr (.lst (mz ++ [.ref q]))) mr hl (mz ++ [.ref q]) hz (dds ++ [d]) (i + 1) := by
  refine ⟨D.same.put D.mrn, D.mrn, D.hln, D.ne, upd_same, ?_, by rw [upd_ne D.ne]; exact D.held, fun v hv => (D.all v hv).put D.made, by rw [List.length_append, D.len]; rfl, by have := D.few; omega, fun x hx => ?_⟩
  · rw [List.map_append]
    exact (D.rows.snoc hq).put D.made
  · rcases List.mem_append.mp hx with z | z
    · exact D.nm x z
    · have : x = d := by simpa using z
      rw [this]; exact hn
end
section
variable {H H2 H3 : Hp} {mr hl : Addr} {mz hz : List V} {dds : List Deed} {i : Nat}
theorem DI.aside (D : DI H H2 mr hl mz hz dds i) {l : Addr} {xs ys : List V} (hn : H l = none) (h : H2 l = some (.lst xs)) (n1 : l ≠ mr) (n2 : l ≠ hl) : DI H (upd H2 l (.lst ys)) mr hl mz hz dds i :=
  ⟨D.same.put hn, D.mrn, D.hln, D.ne, by rw [upd_ne (Ne.symm n1)]; exact D.made, D.rows.put h, by rw [upd_ne (Ne.symm n2)]; exact D.held, fun v hv => (D.all v hv).put h, D.len, D.few, D.nm⟩
theorem DI.held' (D : DI H H2 mr hl mz hz dds i) {l : Addr} {ys : List V} (hn : H l = none) (h : H2 l = some (.lst ys)) (n1 : l ≠ mr) (ha : ∀ v ∈ ys, CtNm H2 v) (hf : ys.length ≤ i) : DI H H2 mr l mz ys dds i :=
  ⟨D.same, D.mrn, hn, n1, D.made, D.rows, h, ha, D.len, hf, D.nm⟩
theorem DI.room (D : DI H H2 mr hl mz hz dds i) (h : i < 63) : mz.length < sizeLine := by
  rw [D.rows.len, List.length_map, D.len]
  exact Nat.lt_of_lt_of_le h (by decide)
end
def spDeeds (K : PySem.W.Frag) : Sp := fun vs H Q _ => ∃ (a : Addr) (ns : List Int), vs = [.ref a] ∧ SqL K H a (ns.map V.int) ∧ ns.length ≤ 63 ∧ ∀ (D : Addr) (mz : List V) (dds : List Deed) (H' : Hp), Same H H' → H D = none → H' D = some (.lst mz) → RowsAt H' mz (dds.map Deed.row) →
  dds.length = ns.length → (∀ d ∈ dds, d.nm) → Q (.ref D) H'
section
variable {P : Program} {w : World} {K : PySem.W.Frag} {mg : Str → Option Value} {base : Heap}
abbrev NDe : List Str := ["_law_cells", "_law_made", "_law_held", "_law_k", "_law_rest", "_law_pick", "_law_content", "_law_good", "_law_number", "_law_account", "_law_hours", "_law_far", "_law_days", "_law_last"]
abbrev DS (cl mr hl : Addr) (i : Nat) (rest pick : Int) (cp : Addr) (x7 x8 x9 x10 x11 x12 x13 : Option V) : St :=
  [some (.ref cl), some (.ref mr), some (.ref hl), some (.int (0 + (i : Int))), some (.int rest), some (.int pick), some (.ref cp), x7, x8, x9, x10, x11, x12, x13]
theorem scDeeds : FnScope NDe ["_law_cells"] (defScope sDeeds) := ⟨rfl, rfl, rfl, by decide +kernel, rfl, by decide +kernel, by decide +kernel⟩
theorem ok_deeds {f fD fA fP fM : Addr} {fd fdD fdA fdP fdM : FuncData} (F : Fun K "_law_deeds" "_law_deeds" sDeeds f fd) (B : TopB mg)
    (FD : Fun K "_law_draw" "_law_draw" sDraw fD fdD) (bD : Binds K fdD ["_law_number", "_law_prime", "_law_many"] []) (mD : mg "_law_draw" = some (.ref fD))
    (FA : Fun K "_law_accounts" "_law_accounts" sAcc fA fdA) (bA : Binds K fdA [] []) (mA : mg "_law_accounts" = some (.ref fA))
    (FP : Fun K "_law_penned" "_law_penned" sPen fP fdP) (bP : Binds K fdP ["_law_cell", "_law_k"] []) (mP : mg "_law_penned" = some (.ref fP))
    (FM : Fun K "_law_marred" "_law_marred" sMar fM fdM) (bM : Binds K fdM ["_law_content", "_law_cell"] []) (mM : mg "_law_marred" = some (.ref fM)) : FnOk P w K mg base CX0 3 f fd ["_law_cells"] (spDeeds K) := by
  have GP : FnOk P w K mg base CX0 2 fP fdP ["_law_cell", "_law_k"] spPen := ok_pen FP B FD bD mD FA bA mA
  have GM : FnOk P w K mg base CX0 1 fM fdM ["_law_content", "_law_cell"] spMar := ok_mar FM
  refine F.ok scDeeds (fun vs H Q E h => ?_) (fun cdv A outer s H vs Q E hr h => ?_)
  · obtain ⟨a, ns, rfl, _⟩ := h
    rfl
  · obtain ⟨cl, ns, rfl, hS, hlen, kk⟩ := h
    have nd := scDeeds.nd
    have hr1 : Room 1 _ := hr.mono (by decide)
    refine ⟨_, (pss_cons (ps_set (i := 1) nd rfl (Or.inl rfl) (pe_lst pa_nil))
      (pss_cons (ps_set (i := 2) nd rfl (Or.inl rfl) (pe_lst pa_nil))
      (pss_cons (ps_for PassesOwn.never rfl (prange1 (by rfl) B.range (pa1 (pcB call_len_seq (by rfl) B.len PySem.boot_len (pa1 (pv 0))))) (pg_name (i := 3) nd rfl (Or.inl rfl)) (pss_cons (ps_set (i := 4) nd rfl (Or.inl rfl) (pe_op op_fdiv (pe_ix ix_list (pv 0) (pv 3) (fun _ _ => rfl)) pe_int))
      (pss_cons (ps_set (i := 5) nd rfl (Or.inl rfl) (pe_op op_mod (pe_op op_add (pe_ix ix_list (pv 0) (pv 3) (fun _ _ => rfl)) (pe_op op_mul pe_int (pv 3))) pe_int))
      (pss_cons (ps_set (i := 6) nd rfl (Or.inl rfl) (pcall GM hr1 (by rfl) mM FM.kp bM .nil pass0 (pa2 (pcall GP hr (by rfl) mP FP.kp bP .nil pass0 (pa2 (pe_ix ix_list (pv 0) (pv 3) (fun _ _ => rfl)) (pv 3))) (pe_ix ix_list (pv 0) (pv 3) (fun _ _ => rfl)))))
      (pss_join (ps_set (i := 7) nd rfl (Or.inl rfl) (pe_and (pe_cmpR op_ne (pe_ix ix_tup (pv 6) pe_int (fun _ _ => rfl)) (pe_ix ix_tup (pv 6) pe_int (fun _ _ => rfl)) (nomark _)) (pe_one (pe_cmpR op_gt (pe_ix ix_tup (pv 6) pe_int (fun _ _ => rfl)) pe_int (nomark _)))))
      (pss_cons (ps_set (i := 8) nd rfl (Or.inl rfl) (pe_op op_mod (pe_op op_fdiv (pv 4) pe_int) (pe_op op_add (pcB call_len_seq (by rfl) B.len PySem.boot_len (pa1 (pv 2))) pe_int)))
      (pss_join (ps_if (pt_cmpR op_eq (pe_op op_mod (pe_ix ix_list (pv 0) (pv 3) (fun _ _ => rfl)) pe_int) pe_int (nomark _)) (pss_one (ps_set (i := 8) nd rfl (Or.inl rfl) (pe_ix ix_list (pe_lst (pa3 (pe_un un_neg pe_int) (pe_op op_pow pe_int pe_int) (pe_op op_sub (pe_un un_neg pe_int) (pe_op op_mod (pv 4) (pe_op op_pow pe_int pe_int))))) (pe_op op_mod (pv 4) pe_int) (fun _ _ => rfl)))) pss_nil)
      (pss_join (ps_if (PW.pt (pw_and (pt_not (pt_val (pv 7))) (pw_and1 (pt_cmpR op_eq (pe_op op_mod (pv 4) pe_int) pe_int (nomark _))))) (pss_one (ps_set (i := 8) nd rfl (Or.inl rfl) (pe_ix ix_list (pe_lst (pa2 (pcB call_len_seq (by rfl) B.len PySem.boot_len (pa1 (pv 2))) (pe_un un_neg pe_int))) (pe_op op_mod (pe_ix ix_list (pv 0) (pe_op op_mod (pe_op op_add (pv 3) pe_int) (pcB call_len_seq (by rfl) B.len PySem.boot_len (pa1 (pv 0)))) (fun _ _ => rfl)) pe_int) (fun _ _ => rfl)))) pss_nil)
      (pss_join (ps_if (PW.pt (pw_and (pt_val (pv 7)) (pw_and (pt_cmpR op_in_seq (pv 5) (pe_lst (pa3 pe_int pe_int pe_int)) rfl) (pw_and (pt_cmpR op_le pe_int (pv 8) (nomark _)) (pw_and1 (pt_cmpR op_lt (pv 8) (pcB call_len_seq (by rfl) B.len PySem.boot_len (pa1 (pv 2))) (nomark _))))))) (pss_join (ps_if (pt_cmpR op_eq (pe_op op_mod (pv 4) pe_int) pe_int (nomark _)) (pss_one (ps_set (i := 6) nd rfl (Or.inl rfl) (pe_ix ix_list (pv 2) (pv 8) (fun _ _ => rfl)))) pss_nil)
      (pss_one (ps_asg (pv 6) (pg_sub (pv 2) (pv 8) set_list)))) pss_nil)
      (pss_join (ps_set (i := 9) nd rfl (Or.inl rfl) (pe_ix ix_list (pe_lst (pa2 (pe_ix ix_tup (pv 6) pe_int (fun _ _ => rfl)) pe_str)) (pcT call_int1 (by rfl) B.int PyProof.Rows.boot_int (pa1 (pe_cmpR op_eq (pe_op op_mod (pe_ix ix_list (pv 0) (pv 3) (fun _ _ => rfl)) pe_int) pe_int (nomark _)))) (fun _ _ => rfl)))
      (pss_cons (ps_set (i := 10) nd rfl (Or.inl rfl) (pe_lst (pa2 (pe_op op_mod (pe_op op_add (pe_op op_fdiv (pv 4) pe_int) (pe_op op_mul pe_int (pv 3))) (pe_op op_add (pv 3) pe_int)) (pe_op op_mod (pe_op op_add (pe_op op_fdiv (pv 4) pe_int) (pe_op op_fdiv (pv 3) pe_int)) (pe_op op_add (pv 3) pe_int)))))
      (pss_join (ps_if (pt_cmpR op_eq (pe_op op_mod (pe_ix ix_list (pv 0) (pv 3) (fun _ _ => rfl)) pe_int) pe_int (nomark _)) (pss_one (ps_asg (pe_ix ix_list (pe_lst (pa3 (pe_un un_neg pe_int) (pe_op op_pow pe_int pe_int) (pe_op op_sub (pe_un un_neg pe_int) (pe_op op_mod (pv 4) (pe_op op_pow pe_int pe_int))))) (pe_op op_mod (pe_op op_fdiv (pv 4) pe_int) pe_int) (fun _ _ => rfl)) (pg_sub (pv 10) (pe_op op_mod (pv 4) pe_int) set_list))) pss_nil)
      (pss_one (ps_if (pt_cmpR op_lt (pv 5) pe_int (nomark _)) (pss_cons (ps_expr (p_append (pv 1) (pe_op op_catT (pe_tup (pa1 pe_str)) (pv 6))))
      (pss_one (ps_set (i := 2) nd rfl (Or.inl rfl) (pe_op op_cat (pv 2) (pe_op op_rep (pe_lst (pa1 (pv 6))) (pcT call_int1 (by rfl) B.int PyProof.Rows.boot_int (pa1 (pv 7)))))))) (pss_one (ps_if (pt_cmpR op_lt (pv 5) pe_int (nomark _)) (pss_one (ps_expr (p_append (pv 1) (pe_op op_catT (pe_tup (pa2 pe_str (pv 8))) (pv 6))))) (pss_one (ps_if (pt_cmpR op_eq (pv 5) pe_int (nomark _)) (pss_one (ps_expr (p_append (pv 1) (pe_tup (pa2 pe_str (pv 8)))))) (pss_one (ps_if (pt_cmpR op_eq (pv 5) pe_int (nomark _)) (pss_cons (ps_set (i := 11) nd rfl (Or.inl rfl) (pe_op op_mulB (pe_op op_mod (pe_ix ix_list (pv 0) (pv 3) (fun _ _ => rfl)) (pe_op op_pow pe_int pe_int)) (pe_ix ix_list (pe_lst (pa2 pe_int (pe_un un_neg pe_int))) (pe_op op_mod (pv 3) pe_int) (fun _ _ => rfl))))
      (pss_cons (ps_set (i := 12) nd rfl (Or.inl rfl) (pe_lst (pa3 (pe_op op_add (pe_op op_sub (pe_op op_fdiv (pv 3) pe_int) pe_int) (pe_op op_mod (pv 4) pe_int)) (pe_op op_mod (pv 4) pe_int) (pv 11))))
      (pss_one (ps_expr (p_append (pv 1) (pe_tup (pa2 pe_str (pe_ix ix_list (pv 12) (pe_ix ix_list (pe_lst (pa9 pe_int pe_int pe_int pe_int pe_int pe_int pe_int pe_int pe_int)) (pe_op op_mod (pv 4) pe_int) (fun _ _ => rfl)) (fun _ _ => rfl))))))))) (pss_one (ps_if (pt_cmpR op_lt (pv 5) pe_int (nomark _)) (pss_one (ps_expr (p_append (pv 1) (pe_tup (pa4 pe_str (pv 9) (pe_ix ix_tup (pv 6) pe_int (fun _ _ => rfl)) (pe_ix ix_list (pv 10) pe_int (fun _ _ => rfl))))))) (pss_one (ps_if (pt_cmpR op_eq (pv 5) pe_int (nomark _)) (pss_cons (ps_set (i := 13) nd rfl (Or.inl rfl) (pe_op op_add (pe_op op_sub (pe_ix ix_tup (pv 6) pe_int (fun _ _ => rfl)) pe_int) (pe_op op_mod (pv 4) pe_int)))
      (pss_one (ps_expr (p_append (pv 1) (pe_tup (pa5 pe_str (pv 9) (pe_op op_sub (pe_ix ix_tup (pv 6) pe_int (fun _ _ => rfl)) pe_int) (pv 13) (pe_ix ix_list (pv 10) pe_int (fun _ _ => rfl)))))))) (pss_one (ps_expr (p_append (pv 1) (pe_tup (pa5 pe_str (pv 9) (pe_ix ix_tup (pv 6) pe_int (fun _ _ => rfl)) (pe_ix ix_list (pv 10) pe_int (fun _ _ => rfl)) (pe_ix ix_list (pv 10) pe_int (fun _ _ => rfl)))))))))))))))))))))))))))))))
      (pss_one (ps_ret (pv 1)))))), ?_⟩
    refine ⟨lz, fun mr hmr => ⟨lz, fun hl0 hhl0 => ?_⟩⟩
    have hmH : H mr = none := hmr
    have hhH : H hl0 = none := (Same.upd0 hmr).free hhl0
    have hne0 : hl0 ≠ mr := fun z => by rw [z, upd_same] at hhl0; cases hhl0
    have D0 : DI H (upd (upd H mr (.lst [])) hl0 (.lst [])) mr hl0 [] [] [] 0 :=
      ⟨(Same.upd0 hmr).upd hhl0, hmH, hhH, hne0, (upd_ne (Ne.symm hne0)).trans upd_same, RowsAt.nil, upd_same, fun v hv => absurd hv (by simp), rfl, Nat.le_refl _, fun d hd => absurd hd (by simp)⟩
    generalize upd (upd H mr (.lst [])) hl0 (.lst []) = H1 at D0 ⊢
    refine ⟨_, rfl, cl, _, rfl, .inl (D0.same.seq hS), _, rfl, by omega, by rw [List.length_map]; omega, for_range (lo := 0) (n := (((ns.map V.int).length : Nat) : Int).toNat)
      (fun i σ H2 => ∃ (hl : Addr) (mz hz : List V) (dds : List Deed) (x3 x4 x5 x6 x7 x8 x9 x10 x11 x12 x13 : Option V), σ = [some (.ref cl), some (.ref mr), some (.ref hl), x3, x4, x5, x6, x7, x8, x9, x10, x11, x12, x13] ∧ DI H H2 mr hl mz hz dds i)
      ⟨hl0, [], [], [], _, _, _, _, _, _, _, _, _, _, _, rfl, D0⟩ ?_ ?_⟩
    · rintro i σ H2 hi ⟨hl, mz, hz, dds, x3, x4, x5, x6, x7, x8, x9, x10, x11, x12, x13, rfl, D⟩
      rw [List.length_map] at hi
      have hi' : i < ns.length := by omega
      have eK : ∀ j : Nat, (hj : j < ns.length) → atI (ns.map V.int) ((j : Nat) : Int) = some (.int ns[j]) := fun j hj => atI_nat (by simp [hj])
      have e0 : atI (ns.map V.int) (0 + (i : Int)) = some (.int ns[i]) := by rw [Int.zero_add]; exact eK i hi'
      refine ⟨_, rfl, _, rfl, cl, _, _, _, rfl, rfl, D.same.seq hS, e0, _, _, rfl, rfl, ⟨by decide, by decide⟩, ?_⟩
      refine ⟨_, rfl, _, rfl, cl, _, _, _, rfl, rfl, D.same.seq hS, e0, _, rfl, _, _, rfl, rfl, .inl ⟨by decide, by decide⟩, _, _, rfl, rfl, _, _, rfl, rfl, pz _, ?_⟩
      refine ⟨_, rfl, _, rfl, cl, _, _, _, rfl, rfl, D.same.seq hS, e0, _, rfl, _, _, rfl, by omega, fun d o t am p H3 pen s3 hf hp => ?_⟩
      refine ⟨_, rfl, _, rfl, cl, _, _, _, rfl, rfl, (D.same.trans s3).seq hS, e0, p, d, o, t, am, _, rfl, hp, fun d1 o1 t1 a1 p1 H4 ho1 ht1 s4 hp1 => ?_⟩
      have D4 := (D.grow s3).grow s4
      have no1 : nms o1 := by rw [ho1]; exact pen.one
      have nt1 : nms t1 := by rcases ht1 with z | z; · rw [z]; exact pen.oth
                              · rw [z]; exact pen.one
      have T1 : SqT K H4 p1 [.int d1, .str o1, .str t1, .int a1] := SqT.of hp1
      generalize hcell : ns[i] = cell at e0 ⊢
      refine ⟨fun σ H5 => H5 = H4 ∧ ∃ (rest pick : Int) (good : Bool), σ = DS cl mr hl i rest pick p1 (some (.bl good)) x8 x9 x10 x11 x12 x13, ?_, ?_⟩
      · refine ⟨_, rfl, p1, _, 1, .str o1, rfl, rfl, T1, rfl, _, rfl, p1, _, 2, .str t1, rfl, rfl, T1, rfl, rfl, _, rfl, ?_⟩
        refine ite2 (fun _ => ?_) (fun _ => ?_)
        · exact ⟨_, rfl, p1, _, 3, .int a1, rfl, rfl, T1, rfl, _, _, rfl, rfl, rfl, _, _, _, rfl⟩
        · exact ⟨rfl, _, _, _, rfl⟩
      rintro σ5 H5 ⟨rfl, rest, pick, good, rfl⟩
      have big : ∀ x : Int, ∃ z : Int, atI [V.int (-1), V.int (10 ^ (9 : Int).toNat), V.int (-2 - rest % 10 ^ (60 : Int).toNat)] (x % 3) = some (.int z) := fun x => by
        have q3 := nodraw (x := x) (m := 3) (by decide)
        obtain ⟨v, e, hv⟩ := three (a := V.int (-1)) (b := V.int (10 ^ (9 : Int).toNat)) (c := V.int (-2 - rest % 10 ^ (60 : Int).toNat)) q3.1 q3.2
        rcases hv with rfl | rfl | rfl <;> exact ⟨_, e⟩
      refine ⟨_, rfl, _, _, rfl, rfl, ⟨by decide, by decide⟩, _, rfl, hl, hz, rfl, .inl (SqL.of D4.held), _, _, rfl, rfl, _, _, rfl, rfl, by show (0 : Int) < _; omega, ?_⟩
      refine ⟨fun σ H6 => Same H5 H6 ∧ ∃ num : Int, σ = DS cl mr hl i rest pick p1 (some (.bl good)) (some (.int num)) x9 x10 x11 x12 x13, ?_, ?_⟩
      · refine ⟨_, rfl, _, rfl, cl, _, _, _, rfl, rfl, D4.same.seq hS, e0, _, _, rfl, rfl, pz _, rfl, _, rfl, ?_⟩
        refine ite2 (fun _ => ?_) (fun _ => ⟨Same.refl _, _, rfl⟩)
        refine ⟨_, rfl, _, _, rfl, rfl, ⟨by decide, by decide, by decide⟩, _, rfl, _, rfl, _, _, rfl, rfl, ⟨by decide, by decide, by decide⟩, _, _, rfl, rfl, pow60, _, _, rfl, rfl, lz, fun l hl1 => ?_⟩
        obtain ⟨z, ez⟩ := big rest
        exact ⟨_, rfl, _, _, rfl, rfl, pz _, l, _, _, _, rfl, rfl, SqL.of upd_same, ez, Same.upd0 hl1, _, rfl⟩
      rintro σ6 H6 ⟨s6, num, rfl⟩
      have D6 := D4.grow s6
      refine ⟨fun σ H7 => Same H6 H7 ∧ ∃ num : Int, σ = DS cl mr hl i rest pick p1 (some (.bl good)) (some (.int num)) x9 x10 x11 x12 x13, ?_, ?_⟩
      · refine ⟨_, rfl, _, rfl, ?_⟩
        cases good with
        | true => exact iteF (iteF ⟨Same.refl _, num, rfl⟩)
        | false =>
          refine iteT ?_
          refine ⟨_, rfl, _, _, rfl, rfl, pz _, rfl, _, rfl, ?_⟩
          refine ite2' (fun _ => ?_) (fun _ => ⟨Same.refl _, num, rfl⟩)
          refine ⟨_, rfl, hl, hz, rfl, .inl (SqL.of D6.held), _, rfl, lz, fun l hl1 => ?_⟩
          have hn0 : (0 : Int) < ((ns.map V.int).length : Int) := by rw [List.length_map]; omega
          have q3 := nodraw (x := 0 + (i : Int) + 1) hn0
          obtain ⟨v, e, hv⟩ := atI_some (xs := ns.map V.int) q3.1 q3.2
          obtain ⟨z, _, rfl⟩ := List.mem_map.mp hv
          refine ⟨_, rfl, _, rfl, _, _, rfl, rfl, _, rfl, cl, _, rfl, .inl ((D6.same.upd hl1).seq hS), _, _, rfl, rfl, hn0, cl, _, _, _, rfl, rfl, (D6.same.upd hl1).seq hS, e, ?_⟩
          have q4 := nodraw (x := z) (m := 2) (by decide)
          obtain ⟨v2, e2, hv2⟩ := two (a := V.int (hz.length : Int)) (b := V.int (-1)) q4.1 q4.2
          have : ∃ z : Int, v2 = .int z := by rcases hv2 with rfl | rfl <;> exact ⟨_, rfl⟩
          obtain ⟨z2, rfl⟩ := this
          exact ⟨_, _, rfl, rfl, pz _, l, _, _, _, rfl, rfl, SqL.of upd_same, e2, Same.upd0 hl1, _, rfl⟩
      rintro σ7 H7 ⟨s7, num, rfl⟩
      have D7 := D6.grow s7
      have N7 : CtNm H7 (.ref p1) := ⟨p1, d1, o1, t1, a1, rfl, s7 _ _ (s6 _ _ hp1), no1, nt1⟩
      refine ⟨fun σ H8 => ∃ (hz : List V) (cp : Addr), σ = DS cl mr hl i rest pick cp (some (.bl good)) (some (.int num)) x9 x10 x11 x12 x13 ∧ DI H H8 mr hl mz hz dds i ∧ CtNm H8 (.ref cp), ?_, ?_⟩
      · refine ⟨_, rfl, _, rfl, ?_⟩
        cases good with
        | false => exact iteF (iteF ⟨hz, p1, rfl, D7, N7⟩)
        | true =>
          refine iteT ?_
          refine ⟨_, rfl, lz, fun l hl1 => ⟨l, _, rfl, .inl (SqL.of upd_same), rfl, rfl, _, rfl, ?_⟩⟩
          have D8 := D7.grow (Same.upd0 (o := .lst [.int 7, .int 8, .int 9]) hl1)
          have N8 := N7.same (Same.upd0 (o := .lst [.int 7, .int 8, .int 9]) hl1)
          refine ite2 (fun _ => ?_) (fun _ => iteF ⟨hz, p1, rfl, D8, N8⟩)
          · refine ⟨_, rfl, _, _, rfl, rfl, _, rfl, ?_⟩
            by_cases h0 : 0 ≤ num
            · rw [decide_eq_true h0]
              refine iteT ?_
              refine ⟨_, rfl, _, rfl, hl, hz, rfl, .inl (SqL.of D8.held), _, _, rfl, rfl, _, rfl, ?_⟩
              by_cases h1 : num < ((hz.length : Nat) : Int)
              · rw [decide_eq_true h1]
                refine iteT ?_
                obtain ⟨v, e, hv⟩ := atI_some (xs := hz) h0 h1
                have hix : ixN hz.length num = some num.toNat := by unfold ixN; rw [if_pos h0, if_pos h1]
                refine ⟨fun σ H9 => H9 = upd H7 l (.lst [.int 7, .int 8, .int 9]) ∧ ∃ cp : Addr, σ = DS cl mr hl i rest pick cp (some (.bl true)) (some (.int num)) x9 x10 x11 x12 x13 ∧ CtNm H9 (.ref cp), ?_, ?_⟩
                · refine ⟨_, rfl, _, _, rfl, rfl, pz _, rfl, _, rfl, ?_⟩
                  refine ite2 (fun _ => ?_) (fun _ => ⟨rfl, p1, rfl, N8⟩)
                  obtain ⟨cp, dc, oc, tc, ac, rfl, hcp, hno, hnt⟩ := D8.all v hv
                  exact ⟨_, rfl, _, rfl, hl, hz, num, _, rfl, rfl, SqL.of D8.held, e, rfl, cp, rfl, cp, dc, oc, tc, ac, rfl, hcp, hno, hnt⟩
                rintro σ9 H9 ⟨rfl, cp, rfl, hcp⟩
                exact ⟨_, rfl, _, rfl, _, rfl, hl, hz, num, num.toNat, rfl, rfl, D8.held, hix, _, cp, rfl, D8.set _ hcp, hcp.put D8.held⟩
              · rw [decide_eq_false h1]
                exact iteF ⟨hz, p1, rfl, D8, N8⟩
            · rw [decide_eq_false h0]
              exact iteF (iteF ⟨hz, p1, rfl, D8, N8⟩)
      rintro σ8 H8 ⟨hz2, cp, rfl, D8, N8⟩
      obtain ⟨p2, d2, o2, t2, a2, ep, hp2, no2, nt2⟩ := N8
      cases ep
      have T8 : SqT K H8 cp [.int d2, .str o2, .str t2, .int a2] := SqT.of hp2
      refine ⟨fun σ H9 => Same H8 H9 ∧ ∃ acc : Str, σ = DS cl mr hl i rest pick cp (some (.bl good)) (some (.int num)) (some (.str acc)) x10 x11 x12 x13, ?_, ?_⟩
      · refine ⟨_, rfl, cp, _, 1, .str o2, rfl, rfl, T8, rfl, lz, fun l hl1 => ?_⟩
        obtain ⟨acc, eacc⟩ : ∃ acc : Str, atI [V.str o2, V.str "none"] (if (decide (V.int (cell % 31) = V.int 6)) = true then 1 else 0) = some (.str acc) := by split <;> exact ⟨_, rfl⟩
        exact ⟨_, rfl, _, rfl, cl, _, _, _, rfl, rfl, (D8.same.upd hl1).seq hS, e0, _, _, rfl, rfl, pz _, rfl, .inr ⟨_, rfl, l, _, _, _, rfl, rfl, SqL.of upd_same, eacc, Same.upd0 hl1, acc, rfl⟩⟩
      rintro σ9 H9 ⟨s9, acc, rfl⟩
      have D9 := D8.grow s9
      refine ⟨_, rfl, _, _, rfl, rfl, ⟨by decide, by decide⟩, _, rfl, _, _, rfl, rfl, .inl ⟨by decide, by decide⟩, _, _, rfl, rfl, _, rfl, _, _, rfl, rfl, _, _, rfl, rfl, by show (0 : Int) < _; omega,
        _, rfl, _, _, rfl, rfl, ⟨by decide, by decide⟩, _, rfl, _, _, rfl, rfl, ⟨by decide, by decide⟩, _, _, rfl, rfl, _, rfl, _, _, rfl, rfl, _, _, rfl, rfl, by show (0 : Int) < _; omega, lz, fun ho hho0 => ?_⟩
      have hoH : H ho = none := D9.same.free hho0
      have nho1 : ho ≠ mr := fun z => by rw [z, D9.made] at hho0; cases hho0
      have nho2 : ho ≠ hl := fun z => by rw [z, D9.held] at hho0; cases hho0
      refine ⟨fun σ H10 => ∃ h0 h1 : Int, σ = DS cl mr hl i rest pick cp (some (.bl good)) (some (.int num)) (some (.str acc)) (some (.ref ho)) x11 x12 x13 ∧ DI H H10 mr hl mz hz2 dds i ∧ H10 ho = some (.lst [.int h0, .int h1]) ∧ H10 cp = some (.tup [.int d2, .str o2, .str t2, .int a2]), ?_, ?_⟩
      · have sH := Same.upd0 (o := .lst [.int ((rest / 4 + 3 * (0 + (i : Int))) % (0 + (i : Int) + 2)), .int ((rest / 5 + (0 + (i : Int)) / 2) % (0 + (i : Int) + 2))]) hho0
        have D10 := D9.grow sH
        have hc10 := sH _ _ (s9 _ _ hp2)
        refine ⟨_, rfl, _, rfl, cl, _, _, _, rfl, rfl, D10.same.seq hS, e0, _, _, rfl, rfl, pz _, rfl, _, rfl, ?_⟩
        refine ite2 (fun _ => ?_) (fun _ => ⟨_, _, rfl, D10, upd_same, hc10⟩)
        refine ⟨_, rfl, _, _, rfl, rfl, ⟨by decide, by decide, by decide⟩, _, rfl, _, rfl, _, _, rfl, rfl, ⟨by decide, by decide, by decide⟩, _, _, rfl, rfl, pow60, _, _, rfl, rfl, lz, fun l hl1 => ?_⟩
        obtain ⟨z, ez⟩ := big (rest / 2)
        have q4 := nodraw (x := rest) (m := 2) (by decide)
        have hix : ixN 2 (rest % 2) = some (rest % 2).toNat := by unfold ixN; rw [if_pos q4.1, if_pos (by omega)]
        have D11 := D10.grow (Same.upd0 (o := .lst [.int (-1), .int (10 ^ (9 : Int).toNat), .int (-2 - rest % 10 ^ (60 : Int).toNat)]) hl1)
        have hho1 := (Same.upd0 (o := .lst [.int (-1), .int (10 ^ (9 : Int).toNat), .int (-2 - rest % 10 ^ (60 : Int).toNat)]) hl1) ho _ upd_same
        have hc11 := (Same.upd0 (o := .lst [.int (-1), .int (10 ^ (9 : Int).toNat), .int (-2 - rest % 10 ^ (60 : Int).toNat)]) hl1) cp _ hc10
        have two2 : rest % 2 = 0 ∨ rest % 2 = 1 := by omega
        refine ⟨_, rfl, _, _, rfl, rfl, ⟨by decide, by decide⟩, _, _, rfl, rfl, pz _, l, _, _, _, rfl, rfl, SqL.of upd_same, ez, _, rfl, _, rfl, _, _, rfl, rfl, pz _, ho, _, _, _, rfl, rfl, hho1, hix, ?_⟩
        rcases two2 with e2 | e2
        · simp only [e2]
          exact ⟨_, _, rfl, D11.aside hoH hho1 nho1 nho2, upd_same, by rw [upd_ne (ne_of hc11 hho1 (by intro z; cases z))]; exact hc11⟩
        · simp only [e2]
          exact ⟨_, _, rfl, D11.aside hoH hho1 nho1 nho2, upd_same, by rw [upd_ne (ne_of hc11 hho1 (by intro z; cases z))]; exact hc11⟩
      rintro σ10 H10 ⟨h0, h1, rfl, D, hho, hcp⟩
      have T : SqT K H10 cp [.int d2, .str o2, .str t2, .int a2] := SqT.of hcp
      have hi63 : i < 63 := by omega
      refine ⟨_, rfl, _, _, rfl, rfl, _, rfl, ite2' (fun _ => ?_) (fun _ => ?_)⟩
      · -- move
        refine ⟨_, rfl, tyl D.made, lz, fun q1 hq1 => ⟨_, rfl, q1, cp, [.str "move"], [.int d2, .str o2, .str t2, .int a2], rfl, rfl, SqT.of upd_same, (Same.upd0 hq1).tup T, by simp, lz, fun z => absurd z (by simp), fun _ q hq => ?_⟩⟩
        have s1 := (Same.upd0 (o := .tup [.str "move"]) hq1).upd (o := .tup ([.str "move"] ++ [.int d2, .str o2, .str t2, .int a2])) hq
        have D2 := D.grow s1
        refine ⟨mr, mz, _, rfl, rfl, D2.made, D2.room hi63, ?_⟩
        have D3 := D2.told (d := .move (d2, o2, t2, a2)) (q := q) upd_same ⟨no2, nt2⟩
        have hc3 : CtNm (upd (upd (upd H10 q1 (.tup [.str "move"])) q (.tup ([.str "move"] ++ [.int d2, .str o2, .str t2, .int a2]))) mr (.lst (mz ++ [.ref q]))) (.ref cp) := CtNm.put ⟨cp, d2, o2, t2, a2, rfl, s1 _ _ hcp, no2, nt2⟩ D2.made
        generalize upd (upd (upd H10 q1 (.tup [.str "move"])) q (.tup ([.str "move"] ++ [.int d2, .str o2, .str t2, .int a2]))) mr (.lst (mz ++ [.ref q])) = H12 at D3 hc3 ⊢
        refine ⟨_, rfl, _, rfl, lz, fun l1 hl1 => ?_⟩
        have D4 := D3.grow (Same.upd0 (o := .lst [.ref cp]) hl1)
        have hc4 := hc3.same (Same.upd0 (o := .lst [.ref cp]) hl1)
        refine ⟨_, rfl, .inr ⟨_, rfl, l1, _, [.ref cp], rfl, rfl, upd_same, by split <;> decide, by split <;> decide, by split <;> exact lz, fun l2 hl2 => ?_⟩⟩
        have hg : ∀ v ∈ (List.replicate (if good = true then (1 : Int) else 0).toNat [V.ref cp]).flatten, v = .ref cp := fun v hv => by
          cases good <;> simp at hv
          exact hv
        have hgl : (List.replicate (if good = true then (1 : Int) else 0).toNat [V.ref cp]).flatten.length ≤ 1 := by cases good <;> simp
        generalize (List.replicate (if good = true then (1 : Int) else 0).toNat [V.ref cp]).flatten = more at hg hgl ⊢
        have D5 := D4.grow (Same.upd0 (o := .lst more) hl2)
        have hc5 := hc4.same (Same.upd0 (o := .lst more) hl2)
        refine ⟨hl, l2, hz2, more, rfl, rfl, D5.held, upd_same, ?_, fun l3 hl3 => ?_⟩
        · have := D.few
          exact Nat.le_trans (Nat.add_le_add this hgl) (Nat.le_trans (by omega : i + 1 ≤ 64) (by decide))
        have D6 := D5.grow (Same.upd0 (o := .lst (hz2 ++ more)) hl3)
        have hc6 := hc5.same (Same.upd0 (o := .lst (hz2 ++ more)) hl3)
        refine ⟨l3, _, _, _, _, _, _, _, _, _, _, _, _, _, _, rfl, D6.held' (D5.same.free hl3) upd_same (fun z => by rw [z, D5.made] at hl3; cases hl3) (fun v hv => ?_) ?_⟩
        · rcases List.mem_append.mp hv with z | z
          · exact D6.all v z
          · rw [hg v z]; exact hc6
        · rw [List.length_append]; have := D.few; omega
      refine ⟨_, rfl, _, _, rfl, rfl, _, rfl, ite2' (fun _ => ?_) (fun _ => ?_)⟩
      · -- right
        refine ⟨_, rfl, tyl D.made, _, rfl, lz, fun q1 hq1 => ⟨_, rfl, q1, cp, [.str "right", .int num], [.int d2, .str o2, .str t2, .int a2], rfl, rfl, SqT.of upd_same, (Same.upd0 hq1).tup T, by simp, lz, fun z => absurd z (by simp), fun _ q hq => ?_⟩⟩
        have s1 := (Same.upd0 (o := .tup [.str "right", .int num]) hq1).upd (o := .tup ([.str "right", .int num] ++ [.int d2, .str o2, .str t2, .int a2])) hq
        have D2 := D.grow s1
        exact ⟨mr, mz, _, rfl, rfl, D2.made, D2.room hi63, hl, _, _, _, _, _, _, _, _, _, _, _, _, _, _, rfl, D2.told (d := .right num (d2, o2, t2, a2)) (q := q) upd_same ⟨no2, nt2⟩⟩
      refine ⟨_, rfl, rfl, _, rfl, ite2' (fun _ => ?_) (fun _ => ?_)⟩
      · -- strike
        refine ⟨_, rfl, tyl D.made, _, rfl, lz, fun q hq => ?_⟩
        have D2 := D.grow (Same.upd0 (o := .tup [.str "strike", .int num]) hq)
        exact ⟨mr, mz, _, rfl, rfl, D2.made, D2.room hi63, hl, _, _, _, _, _, _, _, _, _, _, _, _, _, _, rfl, D2.told (d := .strike num) (q := q) upd_same trivial⟩
      refine ⟨_, rfl, rfl, _, rfl, ite2' (fun _ => ?_) (fun _ => ?_)⟩
      · -- close
        refine ⟨_, rfl, _, rfl, cl, _, _, _, rfl, rfl, D.same.seq hS, e0, _, _, rfl, rfl, ⟨by decide, by decide, by decide⟩, _, _, rfl, rfl, pow60, _, rfl, lz, fun l1 hl1 => ?_⟩
        have q4 := nodraw (x := 0 + (i : Int)) (m := 2) (by decide)
        obtain ⟨v, e, hv⟩ := two (a := V.int 1) (b := V.int (-1)) q4.1 q4.2
        have : ∃ z : Int, v = .int z ∧ -2 < z ∧ z < 2 := by rcases hv with rfl | rfl <;> exact ⟨_, rfl, by decide, by decide⟩
        obtain ⟨sg, rfl, hz1, hz2'⟩ := this
        refine ⟨_, rfl, _, _, rfl, rfl, pz _, l1, _, _, _, rfl, rfl, SqL.of upd_same, e, _, _, rfl, rfl, PySem.IntMulOk.of_right (PySem.intBits_le_64 (by omega) (by omega)), ?_⟩
        have D1 := D.grow (Same.upd0 (o := .lst [.int 1, .int (-1)]) hl1)
        refine ⟨_, rfl, _, _, rfl, rfl, ⟨by decide, by decide⟩, _, _, rfl, rfl, _, rfl, _, _, rfl, rfl, pz _, _, _, rfl, rfl, _, rfl, _, _, rfl, rfl, pz _, _, rfl, lz, fun dl hdl => ?_⟩
        have D2 := D1.grow (Same.upd0 (o := .lst [.int ((0 + (i : Int)) / 8 - 4 + rest % 2), .int (rest % 50), .int (cell % 10 ^ (60 : Int).toNat * sg)]) hdl)
        refine ⟨_, rfl, tyl D2.made, _, rfl, lz, fun l5 hl5 => ?_⟩
        have q9 := nodraw (x := rest) (m := 9) (by decide)
        obtain ⟨v, e, hv⟩ := atI_some (xs := [V.int 0, V.int 0, V.int 0, V.int 0, V.int 0, V.int 1, V.int 0, V.int 2, V.int 0]) q9.1 q9.2
        have : ∃ z : Int, v = .int z ∧ 0 ≤ z ∧ z < 3 := by
          simp only [List.mem_cons, List.not_mem_nil, or_false] at hv
          rcases hv with rfl | rfl | rfl | rfl | rfl | rfl | rfl | rfl | rfl <;> exact ⟨_, rfl, by decide, by decide⟩
        obtain ⟨ix, rfl, hx0, hx3⟩ := this
        obtain ⟨v2, e2, hv2⟩ := three (a := V.int ((0 + (i : Int)) / 8 - 4 + rest % 2)) (b := V.int (rest % 50)) (c := V.int (cell % 10 ^ (60 : Int).toNat * sg)) hx0 hx3
        have : ∃ z : Int, v2 = .int z := by rcases hv2 with rfl | rfl | rfl <;> exact ⟨_, rfl⟩
        obtain ⟨dy, rfl⟩ := this
        have D3 := D2.grow (Same.upd0 (o := .lst [.int 0, .int 0, .int 0, .int 0, .int 0, .int 1, .int 0, .int 2, .int 0]) hl5)
        refine ⟨_, rfl, _, _, rfl, rfl, pz _, l5, _, _, _, rfl, rfl, SqL.of upd_same, e, dl, _, _, _, rfl, rfl, SqL.of ((Same.upd0 hl5) _ _ upd_same), e2, lz, fun q hq => ?_⟩
        have D4 := D3.grow (Same.upd0 (o := .tup [.str "close", .int dy]) hq)
        exact ⟨mr, mz, _, rfl, rfl, D4.made, D4.room hi63, hl, _, _, _, _, _, _, _, _, _, _, _, _, _, _, rfl, D4.told (d := .close dy) (q := q) upd_same trivial⟩
      refine ⟨_, rfl, _, _, rfl, rfl, _, rfl, ite2' (fun _ => ?_) (fun _ => ?_)⟩
      · -- balance
        refine ⟨_, rfl, tyl D.made, _, rfl, _, rfl, cp, _, 0, .int d2, rfl, rfl, T, rfl, _, rfl, ho, _, 0, .int h0, rfl, rfl, SqL.of hho, rfl, lz, fun q hq => ?_⟩
        have D2 := D.grow (Same.upd0 (o := .tup [.str "balance", .str acc, .int d2, .int h0]) hq)
        exact ⟨mr, mz, _, rfl, rfl, D2.made, D2.room hi63, hl, _, _, _, _, _, _, _, _, _, _, _, _, _, _, rfl, D2.told (d := .bal acc d2 h0) (q := q) upd_same trivial⟩
      refine ⟨_, rfl, rfl, _, rfl, ite2' (fun _ => ?_) (fun _ => ?_)⟩
      · -- sheet
        refine ⟨_, rfl, cp, _, 0, .int d2, rfl, rfl, T, rfl, _, _, rfl, rfl, _, rfl, _, _, rfl, rfl, pz _, _, _, rfl, rfl, ?_⟩
        refine ⟨_, rfl, tyl D.made, _, rfl, _, rfl, cp, _, 0, .int d2, rfl, rfl, T, rfl, _, _, rfl, rfl, _, rfl, _, rfl, ho, _, 0, .int h0, rfl, rfl, SqL.of hho, rfl, lz, fun q hq => ?_⟩
        have D2 := D.grow (Same.upd0 (o := .tup [.str "sheet", .str acc, .int (d2 - 4), .int (d2 - 5 + rest % 9), .int h0]) hq)
        exact ⟨mr, mz, _, rfl, rfl, D2.made, D2.room hi63, hl, _, _, _, _, _, _, _, _, _, _, _, _, _, _, rfl, D2.told (d := .sheet acc (d2 - 4) (d2 - 5 + rest % 9) h0) (q := q) upd_same trivial⟩
      · -- news
        refine ⟨_, rfl, tyl D.made, _, rfl, _, rfl, cp, _, 0, .int d2, rfl, rfl, T, rfl, _, rfl, ho, _, 0, .int h0, rfl, rfl, SqL.of hho, rfl, _, rfl, ho, _, 1, .int h1, rfl, rfl, SqL.of hho, rfl, lz, fun q hq => ?_⟩
        have D2 := D.grow (Same.upd0 (o := .tup [.str "news", .str acc, .int d2, .int h0, .int h1]) hq)
        exact ⟨mr, mz, _, rfl, rfl, D2.made, D2.room hi63, hl, _, _, _, _, _, _, _, _, _, _, _, _, _, _, rfl, D2.told (d := .news acc d2 h0 h1) (q := q) upd_same trivial⟩
    · rintro σ H2 ⟨hl, mz, hz, dds, x3, x4, x5, x6, x7, x8, x9, x10, x11, x12, x13, rfl, D⟩
      exact ⟨_, rfl, kk mr mz dds H2 D.same D.mrn D.made D.rows (by have := D.len; rw [List.length_map] at this; omega) D.nm⟩
end
end Tt
namespace Tt
open PySem L2
def effI (d : Int) (o t : Str) (a : Int) (n : Str) (day : Int) : Int := if day < d then 0 else if n = o then -a else if n = t then a else 0
def spEff : Sp := fun vs H Q _ => ∃ (n : Str) (day : Int), (vs = [.non, .str n, .int day] ∧ Q (.int 0) H) ∨
  ∃ (p : Addr) (d : Int) (o t : Str) (a : Int), vs = [.ref p, .str n, .int day] ∧ H p = some (.tup [.int d, .str o, .str t, .int a]) ∧ Q (.int (effI d o t a n day)) H
structure TopC (mg : Str → Option Value) : Prop where
  day : ∃ u, mg "DAY" = some u ∧ RelV (.int 0) u
  one : ∃ u, mg "ONE" = some u ∧ RelV (.int 1) u
  oth : ∃ u, mg "OTHER" = some u ∧ RelV (.int 2) u
  amt : ∃ u, mg "AMOUNT" = some u ∧ RelV (.int 3) u
section
variable {P : Program} {w : World} {K : PySem.W.Frag} {mg : Str → Option Value} {base : Heap}
theorem scEff : FnScope ["content", "account", "day"] ["content", "account", "day"] (defScope sEff) := ⟨rfl, rfl, rfl, by decide +kernel, rfl, by decide +kernel, by decide +kernel⟩
theorem ok_eff {f : Addr} {fd : FuncData} (F : Fun K "effect" "effect" sEff f fd) (C : TopC mg) : FnOk P w K mg base CX0 1 f fd ["content", "account", "day"] spEff := by
  obtain ⟨uD, mD, rD⟩ := C.day
  obtain ⟨u1, m1, r1⟩ := C.one
  obtain ⟨u2, m2, r2⟩ := C.oth
  obtain ⟨u3, m3, r3⟩ := C.amt
  refine F.ok scEff (fun vs H Q E h => ?_) (fun cdv A outer s H vs Q E hr h => ?_)
  · obtain ⟨n, day, ⟨rfl, _⟩ | ⟨p, d, o, t, a, rfl, _⟩⟩ := h <;> rfl
  · refine ⟨_, pss_cons (ps_if (PW.pt (pw_or (pt_cmp (pc_isN (pv 0))) (pw_or1 (pt_cmpR op_gt (pe_ix ix_tup (pv 0) (pe_glob (by rfl) mD rD) (fun _ _ => rfl)) (pv 2) (nomark _))))) (pss_one (ps_ret pe_int)) pss_nil)
      (pss_cons (ps_if (pt_cmpR op_eq (pv 1) (pe_ix ix_tup (pv 0) (pe_glob (by rfl) m1 r1) (fun _ _ => rfl)) (nomark _)) (pss_one (ps_ret (pe_un un_neg (pe_ix ix_tup (pv 0) (pe_glob (by rfl) m3 r3) (fun _ _ => rfl))))) pss_nil)
      (pss_cons (ps_if (pt_cmpR op_eq (pv 1) (pe_ix ix_tup (pv 0) (pe_glob (by rfl) m2 r2) (fun _ _ => rfl)) (nomark _)) (pss_one (ps_ret (pe_ix ix_tup (pv 0) (pe_glob (by rfl) m3 r3) (fun _ _ => rfl)))) pss_nil)
      (pss_one (ps_ret pe_int)))), ?_⟩
    obtain ⟨n, day, ⟨rfl, k⟩ | ⟨p, d, o, t, a, rfl, hp, k⟩⟩ := h
    · exact ⟨_, rfl, true, rfl, iteT (iteT k)⟩
    · refine ⟨_, rfl, false, rfl, iteF ?_⟩
      have hT : SqT K H p [.int d, .str o, .str t, .int a] := SqT.of hp
      refine ⟨_, rfl, p, _, 0, .int d, rfl, rfl, hT, rfl, _, rfl, _, _, rfl, rfl, _, rfl, ?_⟩
      refine ite2 (fun c => ?_) (fun c => ?_)
      · have e : effI d o t a n day = 0 := by unfold effI; rw [if_pos (of_decide_eq_true c)]
        rw [e] at k
        exact k
      · have c' : ¬ day < d := fun z => c (decide_eq_true z)
        refine ⟨_, rfl, _, rfl, p, _, 1, .str o, rfl, rfl, hT, rfl, rfl, _, rfl, ?_⟩
        refine ite2 (fun c1 => ?_) (fun c1 => ?_)
        · have z : n = o := by have := of_decide_eq_true c1; injection this
          have e : effI d o t a n day = -a := by unfold effI; rw [if_neg c', if_pos z]
          rw [e] at k
          exact ⟨_, rfl, p, _, 3, .int a, rfl, rfl, hT, rfl, _, rfl, k⟩
        · have z : ¬ n = o := fun z => c1 (by rw [z]; simp)
          refine ⟨_, rfl, _, rfl, p, _, 2, .str t, rfl, rfl, hT, rfl, rfl, _, rfl, ?_⟩
          refine ite2 (fun c2 => ?_) (fun c2 => ?_)
          · have z2 : n = t := by have := of_decide_eq_true c2; injection this
            have e : effI d o t a n day = a := by unfold effI; rw [if_neg c', if_neg z, if_pos z2]
            rw [e] at k
            exact ⟨_, rfl, p, _, 3, .int a, rfl, rfl, hT, rfl, k⟩
          · have z2 : ¬ n = t := fun z => c2 (by rw [z]; simp)
            have e : effI d o t a n day = 0 := by unfold effI; rw [if_neg c', if_neg z, if_neg z2]
            rw [e] at k
            exact k
theorem eff_does {d : Int} {o t : Str} {a : Int} (n : Str) (day : Int) (h : o ≠ t) : effI d o t a n day = doesI (some (d, o, t, a)) n day := by
  unfold effI
  show _ = if day < d then 0 else a * ((if t = n then 1 else 0) - (if o = n then 1 else 0))
  by_cases h0 : day < d
  · rw [if_pos h0, if_pos h0]
  · rw [if_neg h0, if_neg h0]
    by_cases h1 : n = o
    · subst h1
      rw [if_pos rfl, if_neg (fun z => h z.symm), if_pos rfl]
      omega
    · rw [if_neg h1]
      by_cases h2 : n = t
      · subst h2
        rw [if_pos rfl, if_pos rfl, if_neg (fun z => h z)]
        omega
      · rw [if_neg h2, if_neg (fun z => h2 z.symm), if_neg (fun z => h1 z.symm)]
        omega
def spEffC : Sp := fun vs H Q _ => ∃ (v : V) (c : Option Ct) (n : Str) (day : Int), vs = [v, .str n, .int day] ∧ CtAt H c v ∧ CtNe c ∧ Q (.int (doesI c n day)) H
theorem ok_effC {f : Addr} {fd : FuncData} (F : Fun K "effect" "effect" sEff f fd) (C : TopC mg) : FnOk P w K mg base CX0 1 f fd ["content", "account", "day"] spEffC := by
  refine (ok_eff F C).imp fun vs H Q E h => ?_
  obtain ⟨v, c, n, day, e, hc, hne, q⟩ := h
  match c, hc, hne, q with
  | none, hc, _, q => exact ⟨n, day, .inl ⟨by rw [e, show v = .non from hc], q⟩⟩
  | some (d, o, t, a), ⟨p, ev, hp⟩, hne, q => exact ⟨n, day, .inr ⟨p, d, o, t, a, by rw [e, ev], hp, by rw [eff_does n day (hne d o t a rfl)]; exact q⟩⟩
end
end Tt
namespace Tt
open PySem L2
structure Book where
  hour : Int
  vers : List (List (Int × Option Ct))
  closed : Option Int
def book0 : Book := ⟨0, [], none⟩
def knownFrom : Option Ct → List (Int × Option Ct) → Int → Option Ct
  | acc, [], _ => acc
  | acc, (t, c) :: r, h => if h < t then acc else match c with
    | none => none
    | some c => knownFrom (some c) r h
theorem known_gt {acc c : Option Ct} {t h : Int} {r : List (Int × Option Ct)} (q : h < t) : knownFrom acc ((t, c) :: r) h = acc := by unfold knownFrom; rw [if_pos q]
theorem known_none {acc : Option Ct} {t h : Int} {r : List (Int × Option Ct)} (q : ¬ h < t) : knownFrom acc ((t, none) :: r) h = none := by unfold knownFrom; rw [if_neg q]
theorem known_some {acc : Option Ct} {c : Ct} {t h : Int} {r : List (Int × Option Ct)} (q : ¬ h < t) : knownFrom acc ((t, some c) :: r) h = knownFrom (some c) r h := by
  show (if h < t then acc else knownFrom (some c) r h) = _
  rw [if_neg q]
def knownI (vs : List (Int × Option Ct)) (h : Int) : Option Ct := knownFrom none vs h
def Book.at (B : Book) (h : Int) : List (Option Ct) := B.vers.map fun vs => knownI vs h
def shut (B : Book) (d : Int) : Bool := match B.closed with
  | none => false
  | some c => decide (d ≤ c)
def tSame : Str := "same account"
def tAmt : Str := "no amount"
def tNo : Str := "no posting"
def tStr : Str := "struck"
def tClo : Str := "closed"
def tDays : Str := "no days"
def tYet : Str := "not yet"
def sides (c : Ct) : Option Str := if c.2.1 = c.2.2.1 then some tSame else if c.2.2.2 < 1 then some tAmt else none
def free (B : Book) (d : Int) : Option Str := if shut B d = true then some tClo else none
def hasP (B : Book) (n : Int) : Bool := decide (0 ≤ n) && decide (n < B.vers.length)
def standI (B : Book) (n : Int) : Option Ct := knownI (B.vers.getD n.toNat []) B.hour
def noHour (B : Book) (h : Int) : Option Str := if h < 0 ∨ B.hour < h then some tYet else none
def barP (B : Book) : Deed → Option Str
  | .move c => (sides c).or (free B c.1)
  | .right n c => if hasP B n = true then (match standI B n with
    | none => some tStr
    | some st => ((sides c).or (free B st.1)).or (free B c.1)) else some tNo
  | .strike n => if hasP B n = true then (match standI B n with
    | none => some tStr
    | some st => free B st.1) else some tNo
  | .close d => free B d
  | .bal _ _ h => noHour B h
  | .sheet _ f l h => if l < f then some tDays else noHour B h
  | .news _ _ h l => (noHour B h).or (noHour B l)
def nextP (B : Book) : Deed → Book
  | .move c => ⟨B.hour + 1, B.vers ++ [[(B.hour + 1, some c)]], B.closed⟩
  | .right n c => ⟨B.hour + 1, B.vers.set n.toNat (B.vers.getD n.toNat [] ++ [(B.hour + 1, some c)]), B.closed⟩
  | .strike n => ⟨B.hour + 1, B.vers.set n.toNat (B.vers.getD n.toNat [] ++ [(B.hour + 1, none)]), B.closed⟩
  | .close d => ⟨B.hour + 1, B.vers, some d⟩
  | _ => B
def rowsPV (rows : List (List V)) : PV := .lst (rows.map fun row => .tup (row.map pvOf))
def AnsP (B : Book) : Deed → PV → Prop
  | .move _ => fun p => p = .int B.vers.length
  | .right _ _ => fun p => p = .int (B.hour + 1)
  | .strike _ => fun p => p = .int (B.hour + 1)
  | .close _ => fun p => p = .int (B.hour + 1)
  | .bal a d h => fun p => p = .int (hasI (B.at h) a d)
  | .sheet a f l h => fun p => ∃ rows, SortedRows (linesTo (B.at h) a f l (B.at h).length) rows ∧ p = sheetPV (hasI (B.at h) a (f - 1)) rows (hasI (B.at h) a l)
  | .news a d h l => fun p => p = rowsPV (newsTo (B.at h) (B.at l) a d (max (B.at h).length (B.at l).length))
def stepB (B : Book) (d : Deed) : Book := match barP B d with
  | some _ => B
  | none => nextP B d
def StepA (B : Book) (d : Deed) (p : PV) : Prop := match barP B d with
  | some t => p = .str t
  | none => AnsP B d p
structure BkOk (B : Book) : Prop where
  h0 : 0 ≤ B.hour
  ne : ∀ vs ∈ B.vers, ∀ x ∈ vs, CtNe x.2
  few : (B.vers.length : Int) ≤ B.hour
  lens : ∀ vs ∈ B.vers, (vs.length : Int) ≤ B.hour
theorem bk0 : BkOk book0 := ⟨Int.le_refl _, fun vs h => by (cases h), Int.le_refl _, fun vs h => by (cases h)⟩
theorem known_ne {acc : Option Ct} {vs : List (Int × Option Ct)} {h : Int} (ha : CtNe acc) (hv : ∀ x ∈ vs, CtNe x.2) : CtNe (knownFrom acc vs h) := by
  induction vs generalizing acc with
  | nil => exact ha
  | cons x r ih =>
    obtain ⟨t, c⟩ := x
    unfold knownFrom
    split
    · exact ha
    · have hc := hv (t, c) List.mem_cons_self
      cases c with
      | none => exact fun _ _ _ _ z => by cases z
      | some c => exact ih hc fun y hy => hv y (List.mem_cons_of_mem _ hy)
theorem BkOk.at {B : Book} (h : BkOk B) (t : Int) : ∀ c ∈ B.at t, CtNe c := fun c hc => by
  obtain ⟨vs, hvs, rfl⟩ := List.mem_map.mp hc
  exact known_ne (fun _ _ _ _ z => by cases z) (h.ne vs hvs)
theorem sides_ne {c : Ct} (h : sides c = none) : c.2.1 ≠ c.2.2.1 ∧ 1 ≤ c.2.2.2 := by
  unfold sides at h
  split at h
  · cases h
  · split at h
    · cases h
    · exact ⟨by assumption, by omega⟩
theorem ctne_of {c : Ct} (h : sides c = none) : CtNe (some c) := fun d o t a e => by
  have := (sides_ne h).1
  cases e
  exact this
theorem or_none {a b : Option Str} (h : a.or b = none) : a = none ∧ b = none := by
  cases a with
  | none => exact ⟨rfl, by simpa using h⟩
  | some x => cases h
theorem bar_sides {B : Book} {d : Deed} (h : barP B d = none) : (∀ c, d = .move c → sides c = none) ∧ ∀ n c, d = .right n c → sides c = none := by
  refine ⟨fun c e => ?_, fun n c e => ?_⟩
  · subst e
    exact (or_none h).1
  · subst e
    have h : (if hasP B n = true then (match standI B n with
      | none => some tStr
      | some st => ((sides c).or (free B st.1)).or (free B c.1)) else some tNo) = none := h
    by_cases h1 : hasP B n = true
    · rw [if_pos h1] at h
      cases h2 : standI B n with
      | none => rw [h2] at h; cases h
      | some st =>
        rw [h2] at h
        exact (or_none (or_none h).1).1
    · rw [if_neg h1] at h
      cases h
theorem getD_mem {vers : List (List (Int × Option Ct))} {i : Nat} {x : Int × Option Ct} (h : x ∈ vers.getD i []) : ∃ vs ∈ vers, x ∈ vs := by
  by_cases hi : i < vers.length
  · rw [List.getD_eq_getElem?_getD, List.getElem?_eq_getElem hi] at h
    exact ⟨_, List.getElem_mem hi, h⟩
  · rw [List.getD_eq_getElem?_getD, List.getElem?_eq_none (by omega)] at h
    cases h
theorem lenD {B : Book} (k : BkOk B) (i : Nat) : ((B.vers.getD i []).length : Int) ≤ B.hour := by
  by_cases hi : i < B.vers.length
  · rw [List.getD_eq_getElem?_getD, List.getElem?_eq_getElem hi]
    exact k.lens _ (List.getElem_mem hi)
  · rw [List.getD_eq_getElem?_getD, List.getElem?_eq_none (by omega)]
    exact k.h0
theorem BkOk.put {B : Book} (k : BkOk B) (i : Nat) {c : Option Ct} (hc : CtNe c) : BkOk ⟨B.hour + 1, B.vers.set i (B.vers.getD i [] ++ [(B.hour + 1, c)]), B.closed⟩ := by
  have h0 := k.h0
  have hd := lenD k i
  refine ⟨by show 0 ≤ B.hour + 1; omega, fun vs hvs x hx => ?_, ?_, fun vs hvs => ?_⟩
  · rcases List.mem_or_eq_of_mem_set hvs with z | z
    · exact k.ne vs z x hx
    · subst z
      rcases List.mem_append.mp hx with y | y
      · obtain ⟨vs, h1, h2⟩ := getD_mem y
        exact k.ne vs h1 x h2
      · obtain rfl : x = _ := by simpa using y
        exact hc
  · have := k.few
    show ((B.vers.set i _).length : Int) ≤ B.hour + 1
    rw [List.length_set]
    omega
  · show (vs.length : Int) ≤ B.hour + 1
    rcases List.mem_or_eq_of_mem_set hvs with z | z
    · have := k.lens vs z
      omega
    · subst z
      rw [List.length_append]
      show (((B.vers.getD i []).length + 1 : Nat) : Int) ≤ B.hour + 1
      omega
theorem BkOk.next {B : Book} {d : Deed} (k : BkOk B) (h : barP B d = none) : BkOk (nextP B d) := by
  have h0 := k.h0
  cases d with
  | move c =>
    refine ⟨by show 0 ≤ B.hour + 1; omega, fun vs hvs x hx => ?_, ?_, fun vs hvs => ?_⟩
    · rcases List.mem_append.mp hvs with z | z
      · exact k.ne vs z x hx
      · obtain rfl : vs = _ := by simpa using z
        obtain rfl : x = _ := by simpa using hx
        exact ctne_of ((bar_sides h).1 c rfl)
    · have := k.few
      show ((B.vers ++ [[(B.hour + 1, some c)]]).length : Int) ≤ B.hour + 1
      rw [List.length_append]
      show ((B.vers.length + 1 : Nat) : Int) ≤ _
      omega
    · show (vs.length : Int) ≤ B.hour + 1
      rcases List.mem_append.mp hvs with z | z
      · have := k.lens vs z
        omega
      · obtain rfl : vs = _ := by simpa using z
        show (1 : Int) ≤ _
        omega
  | right n c => exact k.put n.toNat (ctne_of ((bar_sides h).2 n c rfl))
  | strike n => exact k.put n.toNat (fun _ _ _ _ z => by cases z)
  | close d =>
    refine ⟨by show 0 ≤ B.hour + 1; omega, k.ne, ?_, fun vs hvs => ?_⟩
    · have := k.few
      show (B.vers.length : Int) ≤ B.hour + 1
      omega
    · have := k.lens vs hvs
      show (vs.length : Int) ≤ B.hour + 1
      omega
  | bal a d h => exact k
  | sheet a f l h => exact k
  | news a d h l => exact k
theorem BkOk.step {B : Book} (k : BkOk B) (d : Deed) : BkOk (stepB B d) := by
  unfold stepB
  split
  · exact k
  · exact k.next (by assumption)
theorem hour_step (B : Book) (d : Deed) : (stepB B d).hour ≤ B.hour + 1 := by
  unfold stepB
  split
  · show B.hour ≤ _; omega
  · cases d <;> (first | exact Int.le_refl _ | (show B.hour ≤ _; omega))
end Tt
namespace Tt
open PySem L2
structure TopX (mg : Str → Option Value) (R : Addr) : Prop where
  exc : mg "Exception" = none
  ref : mg "Refused" = some (.ref R)
section
variable {P : Program} {w : World} {K : PySem.W.Frag} {mg : Str → Option Value} {base : Heap} {R : Addr}
theorem scRI : FnScope ["self", "words"] ["self", "words"] (defScope (inClass sRefused 0)) := ⟨rfl, rfl, rfl, by decide +kernel, rfl, by decide +kernel, by decide +kernel⟩
theorem ok_RI {f : Addr} {fd : FuncData} (F : Fun K "__init__" "Refused.__init__" (inClass sRefused 0) f fd) (X : TopX mg R) : FnOk P w K mg base CX0 1 f fd ["self", "words"] (spRI K R) := by
  refine F.ok scRI (fun vs H Q E h => ?_) (fun cdv A outer s H vs Q E hr h => ?_)
  · obtain ⟨e, C, t, rfl, _⟩ := h
    rfl
  · refine ⟨_, pss_cons (ps_expr (pe_excInit (R := R) (by rfl) X.exc (pa2 (pv 0) (pv 1)))) (pss_one (ps_words (R := R) (pv 0) (pv 1))), ?_⟩
    obtain ⟨e, C, t, rfl, he, Y, q⟩ := h
    exact ⟨_, rfl, _, rfl, e, C, none, _, rfl, he, Y, _, rfl, _, rfl, e, C, rfl, he, Y, q⟩
theorem scXI_NoPosting : FnScope ["self"] ["self"] (defScope (inClass sNoPosting 0)) := ⟨rfl, rfl, rfl, by decide +kernel, rfl, by decide +kernel, by decide +kernel⟩
theorem ok_XI_NoPosting {f fR : Addr} {fd fdR : FuncData} (F : Fun K "__init__" "NoPosting.__init__" (inClass sNoPosting 0) f fd) (X : TopX mg R) (FR : Fun K "__init__" "Refused.__init__" (inClass sRefused 0) fR fdR) (bR : Binds K fdR ["self", "words"] []) (CR : CFn K R "__init__" fR) : FnOk P w K mg base CX0 2 f fd ["self"] (spXI K R tNo) := by
  have GR : FnOk P w K mg base CX0 1 fR fdR ["self", "words"] (spRI K R) := ok_RI FR X
  refine F.ok scXI_NoPosting (fun vs H Q E h => ?_) (fun cdv A outer s H vs Q E hr h => ?_)
  · obtain ⟨e, C, rfl, _⟩ := h
    rfl
  · refine ⟨_, pss_one (ps_expr (pe_clsFn CR GR hr (by rfl) X.ref bR .nil pass0 (pa2 (pv 0) pe_str))), ?_⟩
    obtain ⟨e, C, rfl, he, Y, q⟩ := h
    exact ⟨_, rfl, e, C, _, rfl, he, Y, q⟩
theorem scXI_Struck : FnScope ["self"] ["self"] (defScope (inClass sStruck 0)) := ⟨rfl, rfl, rfl, by decide +kernel, rfl, by decide +kernel, by decide +kernel⟩
theorem ok_XI_Struck {f fR : Addr} {fd fdR : FuncData} (F : Fun K "__init__" "Struck.__init__" (inClass sStruck 0) f fd) (X : TopX mg R) (FR : Fun K "__init__" "Refused.__init__" (inClass sRefused 0) fR fdR) (bR : Binds K fdR ["self", "words"] []) (CR : CFn K R "__init__" fR) : FnOk P w K mg base CX0 2 f fd ["self"] (spXI K R tStr) := by
  have GR : FnOk P w K mg base CX0 1 fR fdR ["self", "words"] (spRI K R) := ok_RI FR X
  refine F.ok scXI_Struck (fun vs H Q E h => ?_) (fun cdv A outer s H vs Q E hr h => ?_)
  · obtain ⟨e, C, rfl, _⟩ := h
    rfl
  · refine ⟨_, pss_one (ps_expr (pe_clsFn CR GR hr (by rfl) X.ref bR .nil pass0 (pa2 (pv 0) pe_str))), ?_⟩
    obtain ⟨e, C, rfl, he, Y, q⟩ := h
    exact ⟨_, rfl, e, C, _, rfl, he, Y, q⟩
theorem scXI_SameAccount : FnScope ["self"] ["self"] (defScope (inClass sSameAccount 0)) := ⟨rfl, rfl, rfl, by decide +kernel, rfl, by decide +kernel, by decide +kernel⟩
theorem ok_XI_SameAccount {f fR : Addr} {fd fdR : FuncData} (F : Fun K "__init__" "SameAccount.__init__" (inClass sSameAccount 0) f fd) (X : TopX mg R) (FR : Fun K "__init__" "Refused.__init__" (inClass sRefused 0) fR fdR) (bR : Binds K fdR ["self", "words"] []) (CR : CFn K R "__init__" fR) : FnOk P w K mg base CX0 2 f fd ["self"] (spXI K R tSame) := by
  have GR : FnOk P w K mg base CX0 1 fR fdR ["self", "words"] (spRI K R) := ok_RI FR X
  refine F.ok scXI_SameAccount (fun vs H Q E h => ?_) (fun cdv A outer s H vs Q E hr h => ?_)
  · obtain ⟨e, C, rfl, _⟩ := h
    rfl
  · refine ⟨_, pss_one (ps_expr (pe_clsFn CR GR hr (by rfl) X.ref bR .nil pass0 (pa2 (pv 0) pe_str))), ?_⟩
    obtain ⟨e, C, rfl, he, Y, q⟩ := h
    exact ⟨_, rfl, e, C, _, rfl, he, Y, q⟩
theorem scXI_NoAmount : FnScope ["self"] ["self"] (defScope (inClass sNoAmount 0)) := ⟨rfl, rfl, rfl, by decide +kernel, rfl, by decide +kernel, by decide +kernel⟩
theorem ok_XI_NoAmount {f fR : Addr} {fd fdR : FuncData} (F : Fun K "__init__" "NoAmount.__init__" (inClass sNoAmount 0) f fd) (X : TopX mg R) (FR : Fun K "__init__" "Refused.__init__" (inClass sRefused 0) fR fdR) (bR : Binds K fdR ["self", "words"] []) (CR : CFn K R "__init__" fR) : FnOk P w K mg base CX0 2 f fd ["self"] (spXI K R tAmt) := by
  have GR : FnOk P w K mg base CX0 1 fR fdR ["self", "words"] (spRI K R) := ok_RI FR X
  refine F.ok scXI_NoAmount (fun vs H Q E h => ?_) (fun cdv A outer s H vs Q E hr h => ?_)
  · obtain ⟨e, C, rfl, _⟩ := h
    rfl
  · refine ⟨_, pss_one (ps_expr (pe_clsFn CR GR hr (by rfl) X.ref bR .nil pass0 (pa2 (pv 0) pe_str))), ?_⟩
    obtain ⟨e, C, rfl, he, Y, q⟩ := h
    exact ⟨_, rfl, e, C, _, rfl, he, Y, q⟩
theorem scXI_Closed : FnScope ["self"] ["self"] (defScope (inClass sClosed 0)) := ⟨rfl, rfl, rfl, by decide +kernel, rfl, by decide +kernel, by decide +kernel⟩
theorem ok_XI_Closed {f fR : Addr} {fd fdR : FuncData} (F : Fun K "__init__" "Closed.__init__" (inClass sClosed 0) f fd) (X : TopX mg R) (FR : Fun K "__init__" "Refused.__init__" (inClass sRefused 0) fR fdR) (bR : Binds K fdR ["self", "words"] []) (CR : CFn K R "__init__" fR) : FnOk P w K mg base CX0 2 f fd ["self"] (spXI K R tClo) := by
  have GR : FnOk P w K mg base CX0 1 fR fdR ["self", "words"] (spRI K R) := ok_RI FR X
  refine F.ok scXI_Closed (fun vs H Q E h => ?_) (fun cdv A outer s H vs Q E hr h => ?_)
  · obtain ⟨e, C, rfl, _⟩ := h
    rfl
  · refine ⟨_, pss_one (ps_expr (pe_clsFn CR GR hr (by rfl) X.ref bR .nil pass0 (pa2 (pv 0) pe_str))), ?_⟩
    obtain ⟨e, C, rfl, he, Y, q⟩ := h
    exact ⟨_, rfl, e, C, _, rfl, he, Y, q⟩
theorem scXI_NoDays : FnScope ["self"] ["self"] (defScope (inClass sNoDays 0)) := ⟨rfl, rfl, rfl, by decide +kernel, rfl, by decide +kernel, by decide +kernel⟩
theorem ok_XI_NoDays {f fR : Addr} {fd fdR : FuncData} (F : Fun K "__init__" "NoDays.__init__" (inClass sNoDays 0) f fd) (X : TopX mg R) (FR : Fun K "__init__" "Refused.__init__" (inClass sRefused 0) fR fdR) (bR : Binds K fdR ["self", "words"] []) (CR : CFn K R "__init__" fR) : FnOk P w K mg base CX0 2 f fd ["self"] (spXI K R tDays) := by
  have GR : FnOk P w K mg base CX0 1 fR fdR ["self", "words"] (spRI K R) := ok_RI FR X
  refine F.ok scXI_NoDays (fun vs H Q E h => ?_) (fun cdv A outer s H vs Q E hr h => ?_)
  · obtain ⟨e, C, rfl, _⟩ := h
    rfl
  · refine ⟨_, pss_one (ps_expr (pe_clsFn CR GR hr (by rfl) X.ref bR .nil pass0 (pa2 (pv 0) pe_str))), ?_⟩
    obtain ⟨e, C, rfl, he, Y, q⟩ := h
    exact ⟨_, rfl, e, C, _, rfl, he, Y, q⟩
theorem scXI_NotYet : FnScope ["self"] ["self"] (defScope (inClass sNotYet 0)) := ⟨rfl, rfl, rfl, by decide +kernel, rfl, by decide +kernel, by decide +kernel⟩
theorem ok_XI_NotYet {f fR : Addr} {fd fdR : FuncData} (F : Fun K "__init__" "NotYet.__init__" (inClass sNotYet 0) f fd) (X : TopX mg R) (FR : Fun K "__init__" "Refused.__init__" (inClass sRefused 0) fR fdR) (bR : Binds K fdR ["self", "words"] []) (CR : CFn K R "__init__" fR) : FnOk P w K mg base CX0 2 f fd ["self"] (spXI K R tYet) := by
  have GR : FnOk P w K mg base CX0 1 fR fdR ["self", "words"] (spRI K R) := ok_RI FR X
  refine F.ok scXI_NotYet (fun vs H Q E h => ?_) (fun cdv A outer s H vs Q E hr h => ?_)
  · obtain ⟨e, C, rfl, _⟩ := h
    rfl
  · refine ⟨_, pss_one (ps_expr (pe_clsFn CR GR hr (by rfl) X.ref bR .nil pass0 (pa2 (pv 0) pe_str))), ?_⟩
    obtain ⟨e, C, rfl, he, Y, q⟩ := h
    exact ⟨_, rfl, e, C, _, rfl, he, Y, q⟩
end
end Tt
namespace Tt
open PySem L2
def cdV : Option Int → V
  | none => .non
  | some d => .int d
def TK (H H' : Hp) : Prop := ∀ b xs, H b = some (.tup xs) → H' b = some (.tup xs)
theorem TK.of {H H' : Hp} (e : Same H H') : TK H H' := fun b xs h => e b _ h
theorem TK.trans {H H1 H2 : Hp} (a : TK H H1) (b : TK H1 H2) : TK H H2 := fun c xs h => b c xs (a c xs h)
theorem TK.upd {H : Hp} {a : Addr} {o : HO} (h : ∀ xs, H a ≠ some (.tup xs)) : TK H (L2.upd H a o) := fun b xs q => by
  rw [upd_ne (fun z => h xs (by rw [← z]; exact q))]
  exact q
theorem CtAt.tk {H H' : Hp} {c : Option Ct} {v : V} (e : TK H H') (h : CtAt H c v) : CtAt H' c v := by
  match c, h with
  | none, h => exact h
  | some (d, o, t, a), ⟨p, e1, e2⟩ => exact ⟨p, e1, e _ _ e2⟩
def VerAt (H : Hp) (x : Int × Option Ct) (v : V) : Prop := ∃ p cv, v = .ref p ∧ H p = some (.tup [.int x.1, cv]) ∧ CtAt H x.2 cv
theorem VerAt.tk {H H' : Hp} {x : Int × Option Ct} {v : V} (e : TK H H') (h : VerAt H x v) : VerAt H' x v := let ⟨p, cv, h1, h2, h3⟩ := h; ⟨p, cv, h1, e _ _ h2, h3.tk e⟩
structure VersV (H : Hp) (zs : List V) (vs : List (Int × Option Ct)) : Prop where
  len : zs.length = vs.length
  at' : ∀ (i : Nat) (z : V) (x : Int × Option Ct), zs[i]? = some z → vs[i]? = some x → VerAt H x z
theorem VersV.tk {H H' : Hp} {zs : List V} {vs : List (Int × Option Ct)} (e : TK H H') (h : VersV H zs vs) : VersV H' zs vs := ⟨h.len, fun i z x h1 h2 => (h.at' i z x h1 h2).tk e⟩
theorem VersV.one {H : Hp} {v : V} {x : Int × Option Ct} (h : VerAt H x v) : VersV H [v] [x] := ⟨rfl, fun i z y h1 h2 => by
  match i, h1, h2 with
  | 0, h1, h2 => cases h1; cases h2; exact h
  | i + 1, h1, h2 => simp at h1⟩
theorem VersV.snoc {H : Hp} {zs : List V} {vs : List (Int × Option Ct)} {v : V} {x : Int × Option Ct} (h : VersV H zs vs) (hx : VerAt H x v) : VersV H (zs ++ [v]) (vs ++ [x]) := by
  have hl := h.len
  refine ⟨by rw [List.length_append, List.length_append, hl]; rfl, fun i z y h1 h2 => ?_⟩
  by_cases hi : i < zs.length
  · rw [List.getElem?_append_left hi] at h1
    rw [List.getElem?_append_left (by omega)] at h2
    exact h.at' i z y h1 h2
  · have h1' := (List.getElem?_eq_some_iff.mp h1).1
    rw [List.length_append] at h1'
    have e : i = zs.length := by simp at h1'; omega
    subst e
    rw [List.getElem?_append_right (Nat.le_refl _), Nat.sub_self] at h1
    rw [hl, List.getElem?_append_right (Nat.le_refl _), Nat.sub_self] at h2
    cases h1
    cases h2
    exact hx
structure Bk (CL : Addr) (H : Hp) (B : Book) (a hl : Addr) (vis : List Addr) : Prop where
  ins : ∃ dx, H a = some (.ins CL dx [("hour", .int B.hour), ("histories", .ref hl), ("closed_day", cdV B.closed)])
  hist : H hl = some (.lst (vis.map V.ref))
  nd : vis.Nodup
  out : hl ∉ vis
  len : vis.length = B.vers.length
  each : ∀ (i : Nat) (v : Addr) (vs : List (Int × Option Ct)), vis[i]? = some v → B.vers[i]? = some vs → ∃ zs, H v = some (.lst zs) ∧ VersV H zs vs
theorem Bk.same {CL : Addr} {H H' : Hp} {B : Book} {a hl : Addr} {vis : List Addr} (h : Bk CL H B a hl vis) (e : Same H H') : Bk CL H' B a hl vis :=
  ⟨let ⟨dx, q⟩ := h.ins; ⟨dx, e _ _ q⟩, e _ _ h.hist, h.nd, h.out, h.len, fun i v vs h1 h2 => let ⟨zs, q1, q2⟩ := h.each i v vs h1 h2; ⟨zs, e _ _ q1, q2.tk (.of e)⟩⟩
def SameX (a hl : Addr) (vis : List Addr) (H H' : Hp) : Prop := ∀ b o, H b = some o → b ≠ a → b ≠ hl → b ∉ vis → H' b = some o
def NewX (vis vis' : List Addr) (H : Hp) : Prop := ∀ b ∈ vis', b ∈ vis ∨ H b = none
theorem SameX.of {a hl : Addr} {vis : List Addr} {H H' : Hp} (e : Same H H') : SameX a hl vis H H' := fun b o q _ _ _ => e b o q
theorem NewX.refl (vis : List Addr) (H : Hp) : NewX vis vis H := fun b hb => .inl hb
def spKnown (K : PySem.W.Frag) : Sp := fun vs H Q _ => ∃ (l : Addr) (zs : List V) (us : List (Int × Option Ct)) (h : Int), vs = [.ref l, .int h] ∧ SqL K H l zs ∧ VersV H zs us ∧ ∀ v, CtAt H (knownI us h) v → Q v H
section
variable {P : Program} {w : World} {K : PySem.W.Frag} {mg : Str → Option Value} {base : Heap}
abbrev NKn : List Str := ["versions", "hour", "content", "since", "told"]
theorem scKnown : FnScope NKn ["versions", "hour"] (defScope sKnown) := ⟨rfl, rfl, rfl, by decide +kernel, rfl, by decide +kernel, by decide +kernel⟩
theorem ok_known {f : Addr} {fd : FuncData} (F : Fun K "known" "known" sKnown f fd) : FnOk P w K mg base CX0 1 f fd ["versions", "hour"] (spKnown K) := by
  refine F.ok scKnown (fun vs H Q E h => ?_) (fun cdv A outer s H vs Q E hr h => ?_)
  · obtain ⟨l, zs, us, h, rfl, _⟩ := h
    rfl
  · obtain ⟨l, zs, us, h, rfl, hl, hv, k⟩ := h
    have nd := scKnown.nd
    refine ⟨_, (pss_cons (ps_set (i := 2) nd rfl (Or.inl rfl) pe_non)
      (pss_cons (ps_for PassesOwn.never rfl (pi_list (pv 0)) (pg_tup rfl (pgs_cons (pg_name (i := 3) nd rfl (Or.inl rfl)) (pgs_cons (pg_name (i := 4) nd rfl (Or.inl rfl)) pgs_nil)))
        (pss_cons (ps_if (pt_cmpR op_gt (pv 3) (pv 1) (nomark _)) (pss_one (ps_ret (pv 2))) pss_nil)
        (pss_cons (ps_if (pt_cmp (pc_isN (pv 4))) (pss_one (ps_ret pe_non)) pss_nil)
        (pss_one (ps_set (i := 2) nd rfl (Or.inl rfl) (pv 4))))))
      (pss_one (ps_ret (pv 2))))), ?_⟩
    refine ⟨_, rfl, l, rfl, ⟨_, hl⟩, for_list (K := K) (a := l) (xs := zs) (fun i σ H2 => H2 = H ∧ ∃ (x3 x4 : Option V) (v : V) (acc : Option Ct), σ = [some (.ref l), some (.int h), some v, x3, x4] ∧ CtAt H acc v ∧ knownFrom acc (us.drop i) h = knownI us h)
      ⟨rfl, _, _, _, none, rfl, rfl, rfl⟩ (fun i σ H2 _ z => z.1 ▸ hl) ?_ ?_⟩
    · rintro i y σ H2 hy ⟨rfl, x3, x4, v, acc, rfl, hacc, hk⟩
      have hi : i < us.length := by rw [← hv.len]; exact (List.getElem?_eq_some_iff.mp hy).1
      have hu : us[i]? = some us[i] := by simp
      obtain ⟨p, cv, rfl, hp, hc⟩ := hv.at' i y _ hy hu
      have ed : us.drop i = us[i] :: us.drop (i + 1) := List.drop_eq_getElem_cons hi
      rw [ed] at hk
      generalize us[i] = x at hp hc hk
      obtain ⟨t, c⟩ := x
      refine ⟨p, _, rfl, SqT.of hp, rfl, _, _, rfl, _, _, rfl, rfl, ?_⟩
      refine ⟨_, rfl, _, rfl, _, _, rfl, rfl, _, rfl, ?_⟩
      refine ite2' (fun c1 => ?_) (fun c1 => ?_)
      · have c1 : h < t := c1
        rw [known_gt c1] at hk
        exact ⟨_, rfl, k _ (by rw [← hk]; exact hacc)⟩
      · have c1 : ¬ h < t := c1
        match c, hc, hk with
        | none, hc, hk =>
          rw [known_none c1] at hk
          have hc : cv = .non := hc
          subst hc
          refine ⟨_, rfl, true, rfl, iteT ?_⟩
          exact k _ (by rw [← hk]; rfl)
        | some c, hc, hk =>
          rw [known_some c1] at hk
          have hn : cv ≠ .non := by
            obtain ⟨d, o, t', a⟩ := c
            obtain ⟨q, e, _⟩ := hc
            rw [e]
            intro z
            cases z
          refine ⟨_, rfl, _, rfl, ?_⟩
          rw [decide_eq_false hn]
          refine iteF ?_
          exact ⟨_, rfl, rfl, _, _, _, some c, rfl, hc, hk⟩
    · rintro σ H2 ⟨rfl, x3, x4, v, acc, rfl, hacc, hk⟩
      refine ⟨_, rfl, k _ ?_⟩
      rw [← hk, hv.len, List.drop_length]
      exact hacc
end
end Tt
namespace Tt
open PySem L2
structure LCls (K : PySem.W.Frag) (CL : Addr) : Prop where
  cl : Cls K CL
  hour : NoAttr K CL "hour"
  hist : NoAttr K CL "histories"
  clo : NoAttr K CL "closed_day"
structure XAll (P : Program) (w : World) (K : PySem.W.Frag) (mg : Str → Option Value) (base : Heap) (R : Addr) : Prop where
  nop : ExcC P w K mg base R "NoPosting" tNo
  str : ExcC P w K mg base R "Struck" tStr
  same : ExcC P w K mg base R "SameAccount" tSame
  amt : ExcC P w K mg base R "NoAmount" tAmt
  clo : ExcC P w K mg base R "Closed" tClo
  days : ExcC P w K mg base R "NoDays" tDays
  yet : ExcC P w K mg base R "NotYet" tYet
def RfsOr (K : PySem.W.Frag) (R : Addr) (o : Option Str) (H : Hp) (E : XK) (good : Prop) : Prop := match o with
  | some t => Rfs K R t H E
  | none => good
theorem RfsOr.yes {K : PySem.W.Frag} {R : Addr} {o : Option Str} {t : Str} {H : Hp} {E : XK} {good : Prop} (e : o = some t) (h : RfsOr K R o H E good) : Rfs K R t H E := by rw [e] at h; exact h
theorem RfsOr.no {K : PySem.W.Frag} {R : Addr} {o : Option Str} {H : Hp} {E : XK} {good : Prop} (e : o = none) (h : RfsOr K R o H E good) : good := by rw [e] at h; exact h
theorem RfsOr.imp {K : PySem.W.Frag} {R : Addr} {o : Option Str} {H H1 : Hp} {E : XK} {g g' : Prop} (h : RfsOr K R o H E g) (e : Same H H1) (f : g → g') : RfsOr K R o H1 E g' := by
  cases o with
  | none => exact f h
  | some t => exact Rfs.grow h e
theorem RfsOr.fst {K : PySem.W.Frag} {R : Addr} {a b : Option Str} {H : Hp} {E : XK} {g : Prop} (h : RfsOr K R (a.or b) H E g) : RfsOr K R a H E (RfsOr K R b H E g) := by
  cases a with
  | none => simpa [RfsOr] using h
  | some t => exact h
def sidesI (o t : Str) (a : Int) : Option Str := if o = t then some tSame else if a < 1 then some tAmt else none
def spSides (K : PySem.W.Frag) (R : Addr) : Sp := fun vs H Q E => ∃ (o t : Str) (a : Int), vs = [.str o, .str t, .int a] ∧ RfsOr K R (sidesI o t a) H E (Q .non H)
def spFree (K : PySem.W.Frag) (CL R : Addr) : Sp := fun vs H Q E => ∃ (a hl : Addr) (vis : List Addr) (B : Book) (d : Int), vs = [.ref a, .int d] ∧ Bk CL H B a hl vis ∧ RfsOr K R (free B d) H E (Q .non H)
def spHour (K : PySem.W.Frag) (CL R : Addr) : Sp := fun vs H Q E => ∃ (a hl : Addr) (vis : List Addr) (B : Book) (h : Int), vs = [.ref a, .int h] ∧ Bk CL H B a hl vis ∧ RfsOr K R (noHour B h) H E (Q .non H)
def spHasP (CL : Addr) : Sp := fun vs H Q _ => ∃ (a hl : Addr) (vis : List Addr) (B : Book) (n : Int), vs = [.ref a, .int n] ∧ Bk CL H B a hl vis ∧ Q (.bl (hasP B n)) H
def standO (B : Book) (n : Int) : Option Str := if hasP B n = true then (match standI B n with
  | none => some tStr
  | some _ => none) else some tNo
def spStand (K : PySem.W.Frag) (CL R : Addr) : Sp := fun vs H Q E => ∃ (a hl : Addr) (vis : List Addr) (B : Book) (n : Int), vs = [.ref a, .int n] ∧ Bk CL H B a hl vis ∧ RfsOr K R (standO B n) H E (∀ st v, hasP B n = true → standI B n = some st → CtAt H (some st) v → Q v H)
section
variable {P : Program} {w : World} {K : PySem.W.Frag} {mg : Str → Option Value} {base : Heap} {CL R : Addr}
theorem scSides : FnScope ["one", "other", "amount"] ["one", "other", "amount"] (defScope sSides) := ⟨rfl, rfl, rfl, by decide +kernel, rfl, by decide +kernel, by decide +kernel⟩
theorem ok_sides {f : Addr} {fd : FuncData} (F : Fun K "check_sides" "check_sides" sSides f fd) (XA : XAll P w K mg base R) : FnOk P w K mg base (CXR P w) 4 f fd ["one", "other", "amount"] (spSides K R) := by
  refine F.okR scSides (fun vs H Q E h => ?_) (fun cdv A outer s H vs Q E hr h => ?_)
  · obtain ⟨o, t, a, rfl, _⟩ := h
    rfl
  · obtain ⟨o, t, a, rfl, k⟩ := h
    refine ⟨_, pss_cons (ps_if (pt_cmpR op_eq (pv 0) (pv 1) (nomark _)) (pss_one (ps_refuse XA.same hr (by rfl))) pss_nil)
      (pss_one (ps_if (pt_cmpR op_lt (pv 2) pe_int (nomark _)) (pss_one (ps_refuse XA.amt hr (by rfl))) pss_nil)), ?_⟩
    refine ⟨_, rfl, _, rfl, rfl, _, rfl, ?_⟩
    refine ite2' (fun c => ?_) (fun c => ?_)
    · have c : o = t := by injection c
      exact k.yes (by unfold sidesI; rw [if_pos c])
    · have c : ¬ o = t := fun z => c (by rw [z])
      refine ⟨_, rfl, _, _, rfl, rfl, _, rfl, ?_⟩
      refine ite2' (fun c2 => ?_) (fun c2 => ?_)
      · have c2 : a < 1 := c2
        exact k.yes (by unfold sidesI; rw [if_neg c, if_pos c2])
      · have c2 : ¬ a < 1 := c2
        exact k.no (by unfold sidesI; rw [if_neg c, if_neg c2])
abbrev mCF : Stmt := inClass sLedger 13
abbrev mCH : Stmt := inClass sLedger 14
abbrev mHP : Stmt := inClass sLedger 10
abbrev mSC : Stmt := inClass sLedger 11
theorem scFree : FnScope ["self", "day"] ["self", "day"] (defScope mCF) := ⟨rfl, rfl, rfl, by decide +kernel, rfl, by decide +kernel, by decide +kernel⟩
theorem ok_free {f : Addr} {fd : FuncData} (F : Fun K "check_free" "Ledger.check_free" mCF f fd) (L : LCls K CL) (XA : XAll P w K mg base R) : FnOk P w K mg base (CXR P w) 4 f fd ["self", "day"] (spFree K CL R) := by
  refine F.okR scFree (fun vs H Q E h => ?_) (fun cdv A outer s H vs Q E hr h => ?_)
  · obtain ⟨a, hl, vis, B, d, rfl, _⟩ := h
    rfl
  · obtain ⟨a, hl, vis, B, d, rfl, hB, k⟩ := h
    obtain ⟨dx, hI⟩ := hB.ins
    refine ⟨_, pss_one (ps_if (PW.pt (pw_and (pt_cmp (pc_notN (pe_fld (pv 0) rfl))) (pw_and1 (pt_cmpR op_le (pv 1) (pe_fld (pv 0) rfl) (nomark _))))) (pss_one (ps_refuse XA.clo hr (by rfl))) pss_nil), ?_⟩
    refine ⟨_, rfl, a, CL, dx, _, _, rfl, hI, L.cl, L.clo, rfl, _, rfl, ?_⟩
    cases hc : B.closed with
    | none =>
      refine iteF (iteF ?_)
      exact k.no (by unfold free shut; rw [hc]; rfl)
    | some c =>
      have hI' : H a = some (.ins CL dx [("hour", .int B.hour), ("histories", .ref hl), ("closed_day", .int c)]) := by rw [hI, hc]; rfl
      refine iteT ?_
      refine ⟨_, rfl, _, rfl, a, CL, dx, _, _, rfl, hI', L.cl, L.clo, rfl, _, _, rfl, rfl, _, rfl, ?_⟩
      refine ite2' (fun c1 => ?_) (fun c1 => ?_)
      · have c1 : d ≤ c := c1
        exact k.yes (by unfold free shut; rw [hc]; show (if decide (d ≤ c) = true then _ else _) = _; rw [if_pos (decide_eq_true c1)])
      · have c1 : ¬ d ≤ c := c1
        exact k.no (by unfold free shut; rw [hc]; show (if decide (d ≤ c) = true then _ else _) = _; rw [if_neg (fun z => c1 (of_decide_eq_true z))])
theorem scHourC : FnScope ["self", "hour"] ["self", "hour"] (defScope mCH) := ⟨rfl, rfl, rfl, by decide +kernel, rfl, by decide +kernel, by decide +kernel⟩
theorem ok_hour {f : Addr} {fd : FuncData} (F : Fun K "check_hour" "Ledger.check_hour" mCH f fd) (L : LCls K CL) (XA : XAll P w K mg base R) : FnOk P w K mg base (CXR P w) 4 f fd ["self", "hour"] (spHour K CL R) := by
  refine F.okR scHourC (fun vs H Q E h => ?_) (fun cdv A outer s H vs Q E hr h => ?_)
  · obtain ⟨a, hl, vis, B, d, rfl, _⟩ := h
    rfl
  · obtain ⟨a, hl, vis, B, h, rfl, hB, k⟩ := h
    obtain ⟨dx, hI⟩ := hB.ins
    refine ⟨_, pss_one (ps_if (PW.pt (pw_or (pt_cmpR op_lt (pv 1) pe_int (nomark _)) (pw_or1 (pt_cmpR op_gt (pv 1) (pe_fld (pv 0) rfl) (nomark _))))) (pss_one (ps_refuse XA.yet hr (by rfl))) pss_nil), ?_⟩
    refine ⟨_, rfl, _, _, rfl, rfl, _, rfl, ?_⟩
    refine ite2' (fun c1 => ?_) (fun c1 => ?_)
    · have c1 : h < 0 := c1
      exact iteT (k.yes (by unfold noHour; rw [if_pos (.inl c1)]))
    · have c1 : ¬ h < 0 := c1
      refine ⟨_, rfl, _, rfl, a, CL, dx, _, _, rfl, hI, L.cl, L.hour, rfl, _, _, rfl, rfl, _, rfl, ?_⟩
      refine ite2' (fun c2 => ?_) (fun c2 => ?_)
      · have c2 : B.hour < h := c2
        exact k.yes (by unfold noHour; rw [if_pos (.inr c2)])
      · have c2 : ¬ B.hour < h := c2
        exact k.no (by unfold noHour; rw [if_neg (fun z => z.elim c1 c2)])
theorem scHasP : FnScope ["self", "number"] ["self", "number"] (defScope mHP) := ⟨rfl, rfl, rfl, by decide +kernel, rfl, by decide +kernel, by decide +kernel⟩
theorem ok_hasP {f : Addr} {fd : FuncData} (F : Fun K "has_posting" "Ledger.has_posting" mHP f fd) (B0 : TopB mg) (L : LCls K CL) : FnOk P w K mg base CX0 1 f fd ["self", "number"] (spHasP CL) := by
  refine F.ok scHasP (fun vs H Q E h => ?_) (fun cdv A outer s H vs Q E hr h => ?_)
  · obtain ⟨a, hl, vis, B, n, rfl, _⟩ := h
    rfl
  · obtain ⟨a, hl, vis, B, n, rfl, hB, k⟩ := h
    obtain ⟨dx, hI⟩ := hB.ins
    refine ⟨_, pss_one (ps_ret (pe_chain op_le op_lt pe_int (pv 1) (pcB call_len_seq (by rfl) B0.len PySem.boot_len (pa1 (pe_fld (pv 0) rfl))))), ?_⟩
    refine ⟨_, rfl, _, _, rfl, rfl, _, rfl, ?_⟩
    refine ite2' (fun c1 => ?_) (fun c1 => ?_)
    · have c1 : 0 ≤ n := c1
      refine ⟨_, rfl, a, CL, dx, _, _, rfl, hI, L.cl, L.hist, rfl, hl, _, rfl, .inl (SqL.of hB.hist), _, _, rfl, rfl, ?_⟩
      have e : hasP B n = decide (n < ((vis.map V.ref).length : Int)) := by
        unfold hasP
        rw [decide_eq_true c1, List.length_map, hB.len]
        rfl
      rw [e] at k
      exact k
    · have c1 : ¬ 0 ≤ n := c1
      have e : hasP B n = false := by
        unfold hasP
        rw [decide_eq_false c1]
        rfl
      rw [e] at k
      exact k
theorem scStand : FnScope ["self", "number", "content"] ["self", "number"] (defScope mSC) := ⟨rfl, rfl, rfl, by decide +kernel, rfl, by decide +kernel, by decide +kernel⟩
theorem hasP_ix {B : Book} {n : Int} (h : hasP B n = true) : 0 ≤ n ∧ n.toNat < B.vers.length ∧ ((n.toNat : Nat) : Int) = n := by
  unfold hasP at h
  rw [Bool.and_eq_true] at h
  have h1 := of_decide_eq_true h.1
  have h2 := of_decide_eq_true h.2
  omega
theorem ok_stand {f fH fK : Addr} {fd fdH fdK : FuncData} (F : Fun K "standing_content" "Ledger.standing_content" mSC f fd) (B0 : TopB mg) (L : LCls K CL) (XA : XAll P w K mg base R)
    (FH : Fun K "has_posting" "Ledger.has_posting" mHP fH fdH) (bH : Binds K fdH ["self", "number"] []) (mH : Meth K CL "has_posting" fH)
    (FK : Fun K "known" "known" sKnown fK fdK) (bK : Binds K fdK ["versions", "hour"] []) (mK : mg "known" = some (.ref fK)) : FnOk P w K mg base (CXR P w) 4 f fd ["self", "number"] (spStand K CL R) := by
  have GH : FnOk P w K mg base CX0 1 fH fdH ["self", "number"] (spHasP CL) := ok_hasP FH B0 L
  have GK : FnOk P w K mg base CX0 1 fK fdK ["versions", "hour"] (spKnown K) := ok_known FK
  refine F.okR scStand (fun vs H Q E h => ?_) (fun cdv A outer s H vs Q E hr h => ?_)
  · obtain ⟨a, hl, vis, B, n, rfl, _⟩ := h
    rfl
  · obtain ⟨a, hl, vis, B, n, rfl, hB, k⟩ := h
    obtain ⟨dx, hI⟩ := hB.ins
    have nd := scStand.nd
    have hr1 : Room 1 _ := hr.mono (by decide)
    refine ⟨_, pss_cons (ps_if (pt_not (pt_val (pe_meth (pv 0) L.cl mH GH hr1 bH .nil pass0 (pa1 (pv 1))))) (pss_one (ps_refuse XA.nop hr (by rfl))) pss_nil)
      (pss_cons (ps_set (i := 2) nd rfl (Or.inl rfl) (pcall GK hr1 (by rfl) mK FK.kp bK .nil pass0 (pa2 (pe_ix ix_list (pe_fld (pv 0) rfl) (pv 1) (fun _ _ => rfl)) (pe_fld (pv 0) rfl))))
      (pss_cons (ps_if (pt_cmp (pc_isN (pv 2))) (pss_one (ps_refuse XA.str hr (by rfl))) pss_nil)
      (pss_one (ps_ret (pv 2))))), ?_⟩
    refine ⟨_, rfl, a, dx, _, rfl, hI, rfl, _, rfl, a, hl, vis, B, n, rfl, hB, _, rfl, ?_⟩
    cases hp : hasP B n with
    | false =>
      refine iteT ?_
      exact k.yes (by unfold standO; rw [hp]; rfl)
    | true =>
      refine iteF ?_
      obtain ⟨h0, hlt, hn⟩ := hasP_ix hp
      have hv : n.toNat < vis.length := by rw [hB.len]; exact hlt
      have ev : vis[n.toNat]? = some vis[n.toNat] := by simp
      have eb : B.vers[n.toNat]? = some B.vers[n.toNat] := by simp
      obtain ⟨zs, hz, hvs⟩ := hB.each _ _ _ ev eb
      have e1 : atI (vis.map V.ref) n = some (.ref vis[n.toNat]) := by
        have := atI_nat (xs := vis.map V.ref) (j := n.toNat) (v := .ref vis[n.toNat]) (by rw [List.getElem?_map, ev]; rfl)
        rwa [hn] at this
      have es : standI B n = knownI B.vers[n.toNat] B.hour := by
        unfold standI
        rw [List.getD_eq_getElem?_getD, eb]
        rfl
      refine ⟨_, rfl, a, CL, dx, _, _, rfl, hI, L.cl, L.hist, rfl, _, rfl, hl, _, _, _, rfl, rfl, SqL.of hB.hist, e1, _, rfl, a, CL, dx, _, _, rfl, hI, L.cl, L.hour, rfl, _, zs, _, B.hour, rfl, SqL.of hz, hvs, fun v hc => ?_⟩
      rw [← es] at hc
      cases hst : standI B n with
      | none =>
        rw [hst] at hc
        have hc : v = .non := hc
        subst hc
        refine ⟨_, rfl, true, rfl, iteT ?_⟩
        exact k.yes (by unfold standO; rw [hp, hst]; rfl)
      | some st =>
        rw [hst] at hc
        have hn : v ≠ .non := by
          obtain ⟨d, o, t', a'⟩ := st
          obtain ⟨q, e, _⟩ := hc
          rw [e]
          intro z
          cases z
        refine ⟨_, rfl, _, rfl, ?_⟩
        rw [decide_eq_false hn]
        refine iteF ⟨_, rfl, ?_⟩
        exact k.no (by unfold standO; rw [hp, hst]; rfl) st v hp hst hc
end
end Tt
namespace Tt
open PySem L2
theorem put_hour (h x : V) (y z : V) : putF "hour" x [("hour", h), ("histories", y), ("closed_day", z)] = ([("hour", x), ("histories", y), ("closed_day", z)] : List (Str × V)) := by rfl
theorem put_clo (x : V) (h y z : V) : putF "closed_day" x [("hour", h), ("histories", y), ("closed_day", z)] = ([("hour", h), ("histories", y), ("closed_day", x)] : List (Str × V)) := by rfl
theorem lit_ne {H : Hp} {a b : Addr} {CL dx : Addr} {fs : List (Str × V)} {xs : List V} (h : H a = some (.ins CL dx fs)) (h' : H b = some (.lst xs)) : a ≠ b := ne_of h h' (by intro z; cases z)
theorem ref_inj {xs ys : List Addr} {v : Addr} : (xs.map V.ref ++ [V.ref v]) = ((xs ++ [v]).map V.ref) := by rw [List.map_append]; rfl
section
variable {CL a hl : Addr} {vis : List Addr} {B : Book} {H : Hp}
theorem Bk.own (hB : Bk CL H B a hl vis) {dx : Addr} {h : Int} {c : Option Int} : Bk CL (upd H a (.ins CL dx [("hour", .int h), ("histories", .ref hl), ("closed_day", cdV c)])) ⟨h, B.vers, c⟩ a hl vis := by
  obtain ⟨dx0, hI⟩ := hB.ins
  have tk : TK H (upd H a (.ins CL dx [("hour", .int h), ("histories", .ref hl), ("closed_day", cdV c)])) := TK.upd (fun xs z => by rw [hI] at z; cases z)
  have nl : ∀ {b : Addr} {xs : List V}, H b = some (.lst xs) → b ≠ a := fun q => Ne.symm (lit_ne hI q)
  refine ⟨⟨dx, upd_same⟩, by rw [upd_ne (nl hB.hist)]; exact hB.hist, hB.nd, hB.out, hB.len, fun i v vs h1 h2 => ?_⟩
  obtain ⟨zs, q1, q2⟩ := hB.each i v vs h1 h2
  exact ⟨zs, by rw [upd_ne (nl q1)]; exact q1, q2.tk tk⟩
theorem Bk.own_same (_ : Bk CL H B a hl vis) {o : HO} : SameX a hl vis H (upd H a o) := fun b u q h1 _ _ => by rw [upd_ne h1]; exact q
theorem SameX.trans {H1 H2 : Hp} (x : SameX a hl vis H H1) (y : SameX a hl vis H1 H2) : SameX a hl vis H H2 := fun b o q h1 h2 h3 => y b o (x b o q h1 h2 h3) h1 h2 h3
theorem Bk.tell (hB : Bk CL H B a hl vis) {i : Nat} {v p : Addr} {zs : List V} {us : List (Int × Option Ct)} {t : Int} {c : Option Ct} (hv : vis[i]? = some v) (hu : B.vers[i]? = some us) (hz : H v = some (.lst zs)) (hvs : VersV H zs us) {cv : V} (hc : CtAt H c cv) (hp : H p = none) :
    Bk CL (upd (upd H p (.tup [.int t, cv])) v (.lst (zs ++ [.ref p]))) ⟨B.hour, B.vers.set i (us ++ [(t, c)]), B.closed⟩ a hl vis ∧ SameX a hl vis H (upd (upd H p (.tup [.int t, cv])) v (.lst (zs ++ [.ref p]))) := by
  obtain ⟨dx, hI⟩ := hB.ins
  have s1 : Same H (upd H p (.tup [.int t, cv])) := Same.upd0 hp
  have hmem : v ∈ vis := List.mem_of_getElem? hv
  have tk : TK H (upd (upd H p (.tup [.int t, cv])) v (.lst (zs ++ [.ref p]))) := (TK.of s1).trans (TK.upd (fun xs z => by rw [s1 _ _ hz] at z; cases z))
  have np : p ≠ v := fun z => by rw [z, hz] at hp; cases hp
  refine ⟨⟨⟨dx, by rw [upd_ne (lit_ne hI hz)]; exact s1 _ _ hI⟩, ?_, hB.nd, hB.out, by rw [List.length_set]; exact hB.len, fun j u us' h1 h2 => ?_⟩, fun b o q h1 h2 h3 => ?_⟩
  · rw [upd_ne (fun z => hB.out (by rw [z]; exact hmem))]
    exact s1 _ _ hB.hist
  · have hi : i < B.vers.length := (List.getElem?_eq_some_iff.mp hu).1
    have h2 : (B.vers.set i (us ++ [(t, c)]))[j]? = some us' := h2
    by_cases hj : j = i
    · subst hj
      rw [hv] at h1; cases h1
      rw [List.getElem?_set_self hi] at h2
      cases h2
      refine ⟨_, upd_same, (hvs.tk tk).snoc ⟨p, cv, rfl, ?_, hc.tk tk⟩⟩
      rw [upd_ne np]
      exact upd_same
    · rw [List.getElem?_set_ne (Ne.symm hj)] at h2
      obtain ⟨zs', q1, q2⟩ := hB.each j u us' h1 h2
      refine ⟨zs', ?_, q2.tk tk⟩
      have nu : u ≠ v := fun z => by
        subst z
        exact hj ((List.getElem?_inj (List.getElem?_eq_some_iff.mp h1).1 hB.nd).mp (h1.trans hv.symm))
      rw [upd_ne nu]
      exact s1 _ _ q1
  · rw [upd_ne (fun z => h3 (by rw [z]; exact hmem))]
    exact s1 _ _ q
theorem Bk.more (hB : Bk CL H B a hl vis) {v p : Addr} {t : Int} {c : Option Ct} {cv : V} (hc : CtAt H c cv) (hp : H p = none) (hv : upd H p (.tup [.int t, cv]) v = none) :
    Bk CL (upd (upd (upd H p (.tup [.int t, cv])) v (.lst [.ref p])) hl (.lst (vis.map V.ref ++ [.ref v]))) ⟨B.hour, B.vers ++ [[(t, c)]], B.closed⟩ a hl (vis ++ [v]) ∧
    SameX a hl vis H (upd (upd (upd H p (.tup [.int t, cv])) v (.lst [.ref p])) hl (.lst (vis.map V.ref ++ [.ref v]))) ∧ NewX vis (vis ++ [v]) H := by
  obtain ⟨dx, hI⟩ := hB.ins
  have s1 : Same H (upd H p (.tup [.int t, cv])) := Same.upd0 hp
  have s2 : Same H (upd (upd H p (.tup [.int t, cv])) v (.lst [.ref p])) := s1.upd hv
  have hvH : H v = none := s1.free hv
  have np : p ≠ v := fun z => by rw [← z, upd_same] at hv; cases hv
  have tk : TK H (upd (upd (upd H p (.tup [.int t, cv])) v (.lst [.ref p])) hl (.lst (vis.map V.ref ++ [.ref v]))) := (TK.of s2).trans (TK.upd (fun xs z => by rw [s2 _ _ hB.hist] at z; cases z))
  have nv : ∀ u ∈ vis, u ≠ v := fun u hu z => by
    obtain ⟨i, hi, e⟩ := List.getElem_of_mem hu
    have e1 : vis[i]? = some u := by rw [List.getElem?_eq_getElem hi, e]
    have hi' : i < B.vers.length := by rw [← hB.len]; exact hi
    obtain ⟨zs, q, _⟩ := hB.each i u _ e1 (List.getElem?_eq_getElem hi')
    rw [z, hvH] at q
    cases q
  have nhl : hl ≠ v := fun z => by
    have := hB.hist
    rw [z, hvH] at this
    cases this
  have npl : p ≠ hl := fun z => by
    have := hB.hist
    rw [← z, hp] at this
    cases this
  refine ⟨⟨⟨dx, by rw [upd_ne (lit_ne hI hB.hist)]; exact s2 _ _ hI⟩, by rw [← ref_inj (ys := [])]; exact upd_same, ?_, ?_, ?_, fun j u us' h1 h2 => ?_⟩, fun b o q h1 h2 h3 => by rw [upd_ne h2]; exact s2 _ _ q, fun b hb => ?_⟩
  · exact List.nodup_append.mpr ⟨hB.nd, by simp, fun x hx y hy => by
      obtain rfl : y = v := by simpa using hy
      exact nv x hx⟩
  · intro z
    rcases List.mem_append.mp z with y | y
    · exact hB.out y
    · exact nhl (by simpa using y)
  · rw [List.length_append, List.length_append, hB.len]
    rfl
  · have h2 : (B.vers ++ [[(t, c)]])[j]? = some us' := h2
    by_cases hj : j < vis.length
    · rw [List.getElem?_append_left hj] at h1
      rw [List.getElem?_append_left (by rw [← hB.len]; exact hj)] at h2
      obtain ⟨zs', q1, q2⟩ := hB.each j u us' h1 h2
      refine ⟨zs', ?_, q2.tk tk⟩
      rw [upd_ne (fun z => hB.out (by rw [← z]; exact List.mem_of_getElem? h1))]
      exact s2 _ _ q1
    · have h1' := (List.getElem?_eq_some_iff.mp h1).1
      rw [List.length_append] at h1'
      have e : j = vis.length := by simp at h1'; omega
      subst e
      rw [List.getElem?_append_right (Nat.le_refl _), Nat.sub_self] at h1
      rw [hB.len, List.getElem?_append_right (Nat.le_refl _), Nat.sub_self] at h2
      cases h1
      cases h2
      refine ⟨[.ref p], by rw [upd_ne (Ne.symm nhl)]; exact upd_same, VersV.one ⟨p, cv, rfl, ?_, hc.tk tk⟩⟩
      rw [upd_ne npl, upd_ne np]
      exact upd_same
  · rcases List.mem_append.mp hb with y | y
    · exact .inl y
    · obtain rfl : b = v := by simpa using y
      exact .inr hvH
end
def Done (CL : Addr) (B' : Book) (a hl : Addr) (vis : List Addr) (H : Hp) (Q : VK) (v : V) : Prop := ∀ H' vis', Bk CL H' B' a hl vis' → SameX a hl vis H H' → NewX vis vis' H → Q v H'
def spTell (CL : Addr) : Sp := fun vs H Q _ => ∃ (a hl : Addr) (vis : List Addr) (B : Book) (n : Int) (cv : V) (c : Option Ct), vs = [.ref a, .int n, cv] ∧ Bk CL H B a hl vis ∧ hasP B n = true ∧ CtAt H c cv ∧ BkOk B ∧ B.hour ≤ 62 ∧
  Done CL ⟨B.hour + 1, B.vers.set n.toNat (B.vers.getD n.toNat [] ++ [(B.hour + 1, c)]), B.closed⟩ a hl vis H Q (.int (B.hour + 1))
section
variable {P : Program} {w : World} {K : PySem.W.Frag} {mg : Str → Option Value} {base : Heap} {CL R : Addr}
abbrev mIN : Stmt := inClass sLedger 0
abbrev mMV : Stmt := inClass sLedger 1
abbrev mPR : Stmt := inClass sLedger 2
abbrev mSK : Stmt := inClass sLedger 3
abbrev mCD : Stmt := inClass sLedger 4
abbrev mTV : Stmt := inClass sLedger 12
theorem scTell : FnScope ["self", "number", "content"] ["self", "number", "content"] (defScope mTV) := ⟨rfl, rfl, rfl, by decide +kernel, rfl, by decide +kernel, by decide +kernel⟩
theorem small62 {n : Nat} {h : Int} (h1 : (n : Int) ≤ h) (h2 : h ≤ 62) : n < sizeLine := Nat.lt_of_le_of_lt (m := 62) (by omega) (by decide)
theorem ok_tell {f : Addr} {fd : FuncData} (F : Fun K "tell_version" "Ledger.tell_version" mTV f fd) (L : LCls K CL) : FnOk P w K mg base CX0 1 f fd ["self", "number", "content"] (spTell CL) := by
  refine F.ok scTell (fun vs H Q E h => ?_) (fun cdv A outer s H vs Q E hr h => ?_)
  · obtain ⟨a, hl, vis, B, n, cv, c, rfl, _⟩ := h
    rfl
  · obtain ⟨a, hl, vis, B, n, cv, c, rfl, hB, hp, hc, ok, h62, k⟩ := h
    obtain ⟨dx, hI⟩ := hB.ins
    refine ⟨_, pss_cons (ps_fldaug (pv 0) pe_int in_add)
      (pss_cons (ps_expr (p_append (pe_ix ix_list (pe_fld (pv 0) rfl) (pv 1) (fun _ _ => rfl)) (pe_tup (pa2 (pe_fld (pv 0) rfl) (pv 2)))))
      (pss_one (ps_ret (pe_fld (pv 0) rfl)))), ?_⟩
    refine ⟨_, rfl, a, CL, dx, _, _, rfl, hI, L.cl, L.hour, rfl, _, _, rfl, rfl, dx, _, hI, (by decide : 3 < 1000), ?_⟩
    rw [put_hour]
    have hB1 : Bk CL (upd H a (.ins CL dx [("hour", .int (B.hour + 1)), ("histories", .ref hl), ("closed_day", cdV B.closed)])) ⟨B.hour + 1, B.vers, B.closed⟩ a hl vis := hB.own
    have x1 : SameX a hl vis H (upd H a (.ins CL dx [("hour", .int (B.hour + 1)), ("histories", .ref hl), ("closed_day", cdV B.closed)])) := hB.own_same
    have hc1 : CtAt (upd H a (.ins CL dx [("hour", .int (B.hour + 1)), ("histories", .ref hl), ("closed_day", cdV B.closed)])) c cv := hc.tk (TK.upd (fun xs z => by rw [hI] at z; cases z))
    have hI1 : upd H a (.ins CL dx [("hour", .int (B.hour + 1)), ("histories", .ref hl), ("closed_day", cdV B.closed)]) a = some (.ins CL dx [("hour", .int (B.hour + 1)), ("histories", .ref hl), ("closed_day", cdV B.closed)]) := upd_same
    generalize upd H a (.ins CL dx [("hour", .int (B.hour + 1)), ("histories", .ref hl), ("closed_day", cdV B.closed)]) = H1 at hB1 x1 hc1 hI1 ⊢
    obtain ⟨h0, hlt, hn⟩ := hasP_ix hp
    have hv : n.toNat < vis.length := by rw [hB.len]; exact hlt
    have ev : vis[n.toNat]? = some vis[n.toNat] := by simp
    have eb : B.vers[n.toNat]? = some B.vers[n.toNat] := by simp
    obtain ⟨zs, hz, hvs⟩ := hB1.each _ _ _ ev eb
    have e1 : atI (vis.map V.ref) n = some (.ref vis[n.toNat]) := by
      have := atI_nat (xs := vis.map V.ref) (j := n.toNat) (v := .ref vis[n.toNat]) (by rw [List.getElem?_map, ev]; rfl)
      rwa [hn] at this
    refine ⟨_, rfl, a, CL, dx, _, _, rfl, hI1, L.cl, L.hist, rfl, _, rfl, hl, _, _, _, rfl, rfl, SqL.of hB1.hist, e1, tyl hz, _, rfl, a, CL, dx, _, _, rfl, hI1, L.cl, L.hour, rfl, _, rfl, lz, fun p hpn => ?_⟩
    have s2 : Same H1 (upd H1 p (.tup [.int (B.hour + 1), cv])) := Same.upd0 hpn
    have hsz : zs.length < sizeLine := small62 (h := B.hour) (by rw [hvs.len]; exact ok.lens _ (List.getElem_mem hlt)) h62
    refine ⟨_, zs, _, rfl, rfl, s2 _ _ hz, hsz, ?_⟩
    obtain ⟨hB3, x3⟩ := hB1.tell (t := B.hour + 1) ev eb hz hvs hc1 hpn
    obtain ⟨dx3, hI3⟩ := hB3.ins
    refine ⟨_, rfl, a, CL, dx3, _, _, rfl, hI3, L.cl, L.hour, rfl, ?_⟩
    have eg : B.vers.getD n.toNat [] = B.vers[n.toNat] := by rw [List.getD_eq_getElem?_getD, eb]; rfl
    rw [eg] at k
    exact k _ vis hB3 (x1.trans x3) (NewX.refl _ _)
def spMove (K : PySem.W.Frag) (CL R : Addr) : Sp := fun vs H Q E => ∃ (a hl : Addr) (vis : List Addr) (B : Book) (d : Int) (o t : Str) (am : Int), vs = [.ref a, .int d, .str o, .str t, .int am] ∧ Bk CL H B a hl vis ∧ BkOk B ∧ B.hour ≤ 62 ∧
  RfsOr K R (barP B (.move (d, o, t, am))) H E (Done CL (nextP B (.move (d, o, t, am))) a hl vis H Q (.int B.vers.length))
theorem scMove : FnScope ["self", "day", "one", "other", "amount"] ["self", "day", "one", "other", "amount"] (defScope mMV) := ⟨rfl, rfl, rfl, by decide +kernel, rfl, by decide +kernel, by decide +kernel⟩
theorem ok_move {f fS fF : Addr} {fd fdS fdF : FuncData} (F : Fun K "move" "Ledger.move" mMV f fd) (B0 : TopB mg) (L : LCls K CL) (XA : XAll P w K mg base R)
    (FS : Fun K "check_sides" "check_sides" sSides fS fdS) (bS : Binds K fdS ["one", "other", "amount"] []) (mS : mg "check_sides" = some (.ref fS))
    (FF : Fun K "check_free" "Ledger.check_free" mCF fF fdF) (bF : Binds K fdF ["self", "day"] []) (mF : Meth K CL "check_free" fF) : FnOk P w K mg base (CXR P w) 5 f fd ["self", "day", "one", "other", "amount"] (spMove K CL R) := by
  have GS : FnOk P w K mg base (CXR P w) 4 fS fdS ["one", "other", "amount"] (spSides K R) := ok_sides FS XA
  have GF : FnOk P w K mg base (CXR P w) 4 fF fdF ["self", "day"] (spFree K CL R) := ok_free FF L XA
  refine F.okR scMove (fun vs H Q E h => ?_) (fun cdv A outer s H vs Q E hr h => ?_)
  · obtain ⟨a, hl, vis, B, d, o, t, am, rfl, _⟩ := h
    rfl
  · obtain ⟨a, hl, vis, B, d, o, t, am, rfl, hB, ok, h62, k⟩ := h
    obtain ⟨dx, hI⟩ := hB.ins
    refine ⟨_, pss_cons (ps_expr (pcall GS hr (by rfl) mS FS.kp bS .nil passR (pa3 (pv 2) (pv 3) (pv 4))))
      (pss_cons (ps_expr (pe_meth (pv 0) L.cl mF GF hr bF .nil passR (pa1 (pv 1))))
      (pss_cons (ps_fldaug (pv 0) pe_int in_add)
      (pss_cons (ps_expr (p_append (pe_fld (pv 0) rfl) (pe_lst (pa1 (pe_tup (pa2 (pe_fld (pv 0) rfl) (pe_tup (pa4 (pv 1) (pv 2) (pv 3) (pv 4)))))))))
      (pss_one (ps_ret (pe_op op_sub (pcB call_len_seq (by rfl) B0.len PySem.boot_len (pa1 (pe_fld (pv 0) rfl))) pe_int)))))), ?_⟩
    have k1 : RfsOr K R (sidesI o t am) H E (RfsOr K R (free B d) H E (Done CL (nextP B (.move (d, o, t, am))) a hl vis H Q (.int B.vers.length))) := RfsOr.fst k
    refine ⟨_, rfl, _, rfl, _, rfl, o, t, am, rfl, k1.imp (Same.refl _) fun k2 => ?_⟩
    refine ⟨_, rfl, a, dx, _, rfl, hI, rfl, _, rfl, a, hl, vis, B, d, rfl, hB, RfsOr.imp k2 (Same.refl _) fun k3 => ?_⟩
    refine ⟨_, rfl, a, CL, dx, _, _, rfl, hI, L.cl, L.hour, rfl, _, _, rfl, rfl, dx, _, hI, (by decide : 3 < 1000), ?_⟩
    rw [put_hour]
    have hB1 : Bk CL (upd H a (.ins CL dx [("hour", .int (B.hour + 1)), ("histories", .ref hl), ("closed_day", cdV B.closed)])) ⟨B.hour + 1, B.vers, B.closed⟩ a hl vis := hB.own
    have x1 : SameX a hl vis H (upd H a (.ins CL dx [("hour", .int (B.hour + 1)), ("histories", .ref hl), ("closed_day", cdV B.closed)])) := hB.own_same
    have hI1 : upd H a (.ins CL dx [("hour", .int (B.hour + 1)), ("histories", .ref hl), ("closed_day", cdV B.closed)]) a = some (.ins CL dx [("hour", .int (B.hour + 1)), ("histories", .ref hl), ("closed_day", cdV B.closed)]) := upd_same
    have fr1 : ∀ b, upd H a (.ins CL dx [("hour", .int (B.hour + 1)), ("histories", .ref hl), ("closed_day", cdV B.closed)]) b = none → H b = none := fun b q => by
      by_cases z : b = a
      · rw [z, upd_same] at q; cases q
      · rw [upd_ne z] at q; exact q
    generalize upd H a (.ins CL dx [("hour", .int (B.hour + 1)), ("histories", .ref hl), ("closed_day", cdV B.closed)]) = H1 at hB1 x1 hI1 fr1 ⊢
    refine ⟨_, rfl, a, CL, dx, _, _, rfl, hI1, L.cl, L.hist, rfl, tyl hB1.hist, _, rfl, a, CL, dx, _, _, rfl, hI1, L.cl, L.hour, rfl, _, rfl, _, rfl, _, rfl, _, rfl, lz, fun q hq => ?_⟩
    have s2 : Same H1 (upd H1 q (.tup [.int d, .str o, .str t, .int am])) := Same.upd0 hq
    have hq2 : CtAt (upd H1 q (.tup [.int d, .str o, .str t, .int am])) (some (d, o, t, am)) (.ref q) := ⟨q, rfl, upd_same⟩
    have hB2 := hB1.same s2
    generalize upd H1 q (.tup [.int d, .str o, .str t, .int am]) = H2 at s2 hq2 hB2 ⊢
    refine ⟨lz, fun p hp => ⟨lz, fun v hv => ?_⟩⟩
    have s3 : Same H2 (upd (upd H2 p (.tup [.int (B.hour + 1), .ref q])) v (.lst [.ref p])) := (Same.upd0 hp).upd hv
    have hsz : (vis.map V.ref).length < sizeLine := small62 (h := B.hour) (by rw [List.length_map, hB.len]; exact ok.few) h62
    refine ⟨hl, _, _, rfl, rfl, s3 _ _ hB2.hist, hsz, ?_⟩
    obtain ⟨hB3, x3, n3⟩ := hB2.more (t := B.hour + 1) (c := some (d, o, t, am)) hq2 hp hv
    obtain ⟨dx3, hI3⟩ := hB3.ins
    refine ⟨_, rfl, a, CL, dx3, _, _, rfl, hI3, L.cl, L.hist, rfl, hl, _, rfl, .inl (SqL.of hB3.hist), _, _, rfl, rfl, ?_⟩
    have e : (((vis ++ [v]).map V.ref).length : Int) - 1 = (B.vers.length : Int) := by
      rw [List.length_map, List.length_append, hB.len]
      show ((B.vers.length + 1 : Nat) : Int) - 1 = _
      omega
    show Q (.int ((((vis ++ [v]).map V.ref).length : Int) - 1)) _
    rw [e]
    exact k3 _ (vis ++ [v]) hB3 ((x1.trans (SameX.of s2)).trans x3) fun b hb => (n3 b hb).imp_right fun z => fr1 b (s2.free z)
end
def hideB (H : Hp) (a hl : Addr) (vis : List Addr) : Hp := fun b => if b = a ∨ b = hl ∨ b ∈ vis then none else H b
theorem hide_eq {H : Hp} {a hl : Addr} {vis : List Addr} {b : Addr} (h1 : b ≠ a) (h2 : b ≠ hl) (h3 : b ∉ vis) : hideB H a hl vis b = H b := by
  unfold hideB
  rw [if_neg (fun z => z.elim h1 fun z => z.elim h2 h3)]
theorem hide_some {H : Hp} {a hl : Addr} {vis : List Addr} {b : Addr} {o : HO} (h : hideB H a hl vis b = some o) : b ≠ a ∧ b ≠ hl ∧ b ∉ vis ∧ H b = some o := by
  unfold hideB at h
  split at h
  · cases h
  · rename_i z
    exact ⟨fun y => z (.inl y), fun y => z (.inr (.inl y)), fun y => z (.inr (.inr y)), h⟩
theorem hide_sub {H : Hp} {a hl : Addr} {vis : List Addr} : Same (hideB H a hl vis) H := fun b o h => (hide_some h).2.2.2
section
variable {CL a hl : Addr} {vis : List Addr} {B : Book} {H H' : Hp}
theorem Bk.lstv (hB : Bk CL H B a hl vis) {v : Addr} (h : v ∈ vis) : ∃ zs, H v = some (.lst zs) := by
  obtain ⟨i, hi, e⟩ := List.getElem_of_mem h
  have e1 : vis[i]? = some v := by rw [List.getElem?_eq_getElem hi, e]
  have hi' : i < B.vers.length := by rw [← hB.len]; exact hi
  obtain ⟨zs, q, _⟩ := hB.each i v _ e1 (List.getElem?_eq_getElem hi')
  exact ⟨zs, q⟩
theorem Bk.hideT (hB : Bk CL H B a hl vis) {q : Addr} {row : List V} (h : H q = some (.tup row)) : hideB H a hl vis q = some (.tup row) := by
  obtain ⟨dx, hI⟩ := hB.ins
  rw [hide_eq (ne_of h hI (by intro z; cases z)) (ne_of h hB.hist (by intro z; cases z)) (fun z => ?_)]
  · exact h
  · obtain ⟨zs, e⟩ := hB.lstv z
    rw [h] at e
    cases e
theorem Bk.hideN (hB : Bk CL H B a hl vis) {D : Addr} {o : HO} (hD : H D = none) (h : H' D = some o) : hideB H' a hl vis D = some o := by
  obtain ⟨dx, hI⟩ := hB.ins
  rw [hide_eq (Ne.symm (ne_of_none hI hD)) (Ne.symm (ne_of_none hB.hist hD)) (fun z => ?_)]
  · exact h
  · obtain ⟨zs, e⟩ := hB.lstv z
    rw [hD] at e
    cases e
theorem Bk.hideR (hB : Bk CL H B a hl vis) {zs : List V} {rows : List (List V)} (h : RowsAt H zs rows) : RowsAt (hideB H a hl vis) zs rows := ⟨h.len, fun i z row h1 h2 => let ⟨q, e1, e2⟩ := h.at' i z row h1 h2; ⟨q, e1, hB.hideT e2⟩⟩
theorem hide_step {vis' : List Addr} (x : SameX a hl vis H H') (n : NewX vis vis' H) : Same (hideB H a hl vis) (hideB H' a hl vis') := fun b o h => by
  obtain ⟨h1, h2, h3, h4⟩ := hide_some h
  rw [hide_eq h1 h2 (fun z => ?_)]
  · exact x b o h4 h1 h2 h3
  · rcases n b z with y | y
    · exact h3 y
    · rw [h4] at y; cases y
end
end Tt
namespace Tt
open PySem L2
def restR (B : Book) (n : Int) (c : Ct) : Option Str := match standI B n with
  | none => none
  | some st => ((sides c).or (free B st.1)).or (free B c.1)
def restS (B : Book) (n : Int) : Option Str := match standI B n with
  | none => none
  | some st => free B st.1
theorem barR {B : Book} {n : Int} {c : Ct} : barP B (.right n c) = (standO B n).or (restR B n c) := by
  show (if hasP B n = true then (match standI B n with
    | none => some tStr
    | some st => ((sides c).or (free B st.1)).or (free B c.1)) else some tNo) = _
  unfold standO restR
  by_cases h1 : hasP B n = true
  · rw [if_pos h1, if_pos h1]
    cases standI B n <;> rfl
  · rw [if_neg h1, if_neg h1]
    rfl
theorem barS {B : Book} {n : Int} : barP B (.strike n) = (standO B n).or (restS B n) := by
  show (if hasP B n = true then (match standI B n with
    | none => some tStr
    | some st => free B st.1) else some tNo) = _
  unfold standO restS
  by_cases h1 : hasP B n = true
  · rw [if_pos h1, if_pos h1]
    cases standI B n <;> rfl
  · rw [if_neg h1, if_neg h1]
    rfl
def spRight (K : PySem.W.Frag) (CL R : Addr) : Sp := fun vs H Q E => ∃ (a hl : Addr) (vis : List Addr) (B : Book) (n d : Int) (o t : Str) (am : Int), vs = [.ref a, .int n, .int d, .str o, .str t, .int am] ∧ Bk CL H B a hl vis ∧ BkOk B ∧ B.hour ≤ 62 ∧
  RfsOr K R (barP B (.right n (d, o, t, am))) H E (Done CL (nextP B (.right n (d, o, t, am))) a hl vis H Q (.int (B.hour + 1)))
def spStrike (K : PySem.W.Frag) (CL R : Addr) : Sp := fun vs H Q E => ∃ (a hl : Addr) (vis : List Addr) (B : Book) (n : Int), vs = [.ref a, .int n] ∧ Bk CL H B a hl vis ∧ BkOk B ∧ B.hour ≤ 62 ∧
  RfsOr K R (barP B (.strike n)) H E (Done CL (nextP B (.strike n)) a hl vis H Q (.int (B.hour + 1)))
def spClose (K : PySem.W.Frag) (CL R : Addr) : Sp := fun vs H Q E => ∃ (a hl : Addr) (vis : List Addr) (B : Book) (d : Int), vs = [.ref a, .int d] ∧ Bk CL H B a hl vis ∧
  RfsOr K R (barP B (.close d)) H E (Done CL (nextP B (.close d)) a hl vis H Q (.int (B.hour + 1)))
def spInit (CL : Addr) : Sp := fun vs H Q _ => ∃ (a dx : Addr), vs = [.ref a] ∧ H a = some (.ins CL dx []) ∧ ∀ H' hl, Bk CL H' book0 a hl [] → (∀ b o, H b = some o → b ≠ a → H' b = some o) → H hl = none → Q .non H'
section
variable {P : Program} {w : World} {K : PySem.W.Frag} {mg : Str → Option Value} {base : Heap} {CL R : Addr}
abbrev NPR : List Str := ["self", "number", "day", "one", "other", "amount", "standing"]
theorem scRight : FnScope NPR ["self", "number", "day", "one", "other", "amount"] (defScope mPR) := ⟨rfl, rfl, rfl, by decide +kernel, rfl, by decide +kernel, by decide +kernel⟩
theorem ok_right {f fS fF fH fK fSC fT : Addr} {fd fdS fdF fdH fdK fdSC fdT : FuncData} (F : Fun K "put_right" "Ledger.put_right" mPR f fd) (B0 : TopB mg) (C : TopC mg) (L : LCls K CL) (XA : XAll P w K mg base R)
    (FS : Fun K "check_sides" "check_sides" sSides fS fdS) (bS : Binds K fdS ["one", "other", "amount"] []) (mS : mg "check_sides" = some (.ref fS))
    (FF : Fun K "check_free" "Ledger.check_free" mCF fF fdF) (bF : Binds K fdF ["self", "day"] []) (mF : Meth K CL "check_free" fF)
    (FH : Fun K "has_posting" "Ledger.has_posting" mHP fH fdH) (bH : Binds K fdH ["self", "number"] []) (mH : Meth K CL "has_posting" fH)
    (FK : Fun K "known" "known" sKnown fK fdK) (bK : Binds K fdK ["versions", "hour"] []) (mK : mg "known" = some (.ref fK))
    (FSC : Fun K "standing_content" "Ledger.standing_content" mSC fSC fdSC) (bSC : Binds K fdSC ["self", "number"] []) (mSC' : Meth K CL "standing_content" fSC)
    (FT : Fun K "tell_version" "Ledger.tell_version" mTV fT fdT) (bT : Binds K fdT ["self", "number", "content"] []) (mT : Meth K CL "tell_version" fT) : FnOk P w K mg base (CXR P w) 5 f fd ["self", "number", "day", "one", "other", "amount"] (spRight K CL R) := by
  have GS : FnOk P w K mg base (CXR P w) 4 fS fdS ["one", "other", "amount"] (spSides K R) := ok_sides FS XA
  have GF : FnOk P w K mg base (CXR P w) 4 fF fdF ["self", "day"] (spFree K CL R) := ok_free FF L XA
  have GSC : FnOk P w K mg base (CXR P w) 4 fSC fdSC ["self", "number"] (spStand K CL R) := ok_stand FSC B0 L XA FH bH mH FK bK mK
  have GT : FnOk P w K mg base CX0 1 fT fdT ["self", "number", "content"] (spTell CL) := ok_tell FT L
  obtain ⟨uD, mD, rD⟩ := C.day
  refine F.okR scRight (fun vs H Q E h => ?_) (fun cdv A outer s H vs Q E hr h => ?_)
  · obtain ⟨a, hl, vis, B, n, d, o, t, am, rfl, _⟩ := h
    rfl
  · obtain ⟨a, hl, vis, B, n, d, o, t, am, rfl, hB, ok, h62, k⟩ := h
    obtain ⟨dx, hI⟩ := hB.ins
    have nd := scRight.nd
    have hr1 : Room 1 _ := hr.mono (by decide)
    refine ⟨_, pss_cons (ps_set (i := 6) nd rfl (Or.inl rfl) (pe_meth (pv 0) L.cl mSC' GSC hr bSC .nil passR (pa1 (pv 1))))
      (pss_cons (ps_expr (pcall GS hr (by rfl) mS FS.kp bS .nil passR (pa3 (pv 3) (pv 4) (pv 5))))
      (pss_cons (ps_expr (pe_meth (pv 0) L.cl mF GF hr bF .nil passR (pa1 (pe_ix ix_tup (pv 6) (pe_glob (by rfl) mD rD) (fun _ _ => rfl)))))
      (pss_cons (ps_expr (pe_meth (pv 0) L.cl mF GF hr bF .nil passR (pa1 (pv 2))))
      (pss_one (ps_ret (pe_meth (pv 0) L.cl mT GT hr1 bT .nil pass0 (pa2 (pv 1) (pe_tup (pa4 (pv 2) (pv 3) (pv 4) (pv 5)))))))))), ?_⟩
    rw [barR] at k
    refine ⟨_, rfl, a, dx, _, rfl, hI, rfl, _, rfl, a, hl, vis, B, n, rfl, hB, k.fst.imp (Same.refl _) fun k1 st v hp hst hc => ?_⟩
    have er : restR B n (d, o, t, am) = ((sides (d, o, t, am)).or (free B st.1)).or (free B d) := by unfold restR; rw [hst]
    rw [er] at k1
    have k2 : RfsOr K R (sidesI o t am) H E (RfsOr K R (free B st.1) H E (RfsOr K R (free B d) H E (Done CL (nextP B (.right n (d, o, t, am))) a hl vis H Q (.int (B.hour + 1))))) := RfsOr.fst (RfsOr.fst k1)
    obtain ⟨d', o', t', a'⟩ := st
    obtain ⟨p, rfl, hpt⟩ := hc
    refine ⟨_, rfl, _, rfl, _, rfl, o, t, am, rfl, k2.imp (Same.refl _) fun k3 => ?_⟩
    refine ⟨_, rfl, a, dx, _, rfl, hI, rfl, _, rfl, p, _, 0, .int d', rfl, rfl, SqT.of hpt, rfl, a, hl, vis, B, d', rfl, hB, RfsOr.imp k3 (Same.refl _) fun k4 => ?_⟩
    refine ⟨_, rfl, a, dx, _, rfl, hI, rfl, _, rfl, a, hl, vis, B, d, rfl, hB, RfsOr.imp k4 (Same.refl _) fun k5 => ?_⟩
    refine ⟨_, rfl, a, dx, _, rfl, hI, rfl, _, rfl, _, rfl, _, rfl, _, rfl, _, rfl, lz, fun q hq => ?_⟩
    have s2 : Same H (upd H q (.tup [.int d, .str o, .str t, .int am])) := Same.upd0 hq
    refine ⟨a, hl, vis, B, n, _, some (d, o, t, am), rfl, hB.same s2, hp, ⟨q, rfl, upd_same⟩, ok, h62, fun H' vis' hB' x' n' => ?_⟩
    exact k5 H' vis' hB' ((SameX.of s2).trans x') fun b hb => (n' b hb).imp_right fun z => s2.free z
theorem scStrike : FnScope ["self", "number", "standing"] ["self", "number"] (defScope mSK) := ⟨rfl, rfl, rfl, by decide +kernel, rfl, by decide +kernel, by decide +kernel⟩
theorem ok_strike {f fF fH fK fSC fT : Addr} {fd fdF fdH fdK fdSC fdT : FuncData} (F : Fun K "strike" "Ledger.strike" mSK f fd) (B0 : TopB mg) (C : TopC mg) (L : LCls K CL) (XA : XAll P w K mg base R)
    (FF : Fun K "check_free" "Ledger.check_free" mCF fF fdF) (bF : Binds K fdF ["self", "day"] []) (mF : Meth K CL "check_free" fF)
    (FH : Fun K "has_posting" "Ledger.has_posting" mHP fH fdH) (bH : Binds K fdH ["self", "number"] []) (mH : Meth K CL "has_posting" fH)
    (FK : Fun K "known" "known" sKnown fK fdK) (bK : Binds K fdK ["versions", "hour"] []) (mK : mg "known" = some (.ref fK))
    (FSC : Fun K "standing_content" "Ledger.standing_content" mSC fSC fdSC) (bSC : Binds K fdSC ["self", "number"] []) (mSC' : Meth K CL "standing_content" fSC)
    (FT : Fun K "tell_version" "Ledger.tell_version" mTV fT fdT) (bT : Binds K fdT ["self", "number", "content"] []) (mT : Meth K CL "tell_version" fT) : FnOk P w K mg base (CXR P w) 5 f fd ["self", "number"] (spStrike K CL R) := by
  have GF : FnOk P w K mg base (CXR P w) 4 fF fdF ["self", "day"] (spFree K CL R) := ok_free FF L XA
  have GSC : FnOk P w K mg base (CXR P w) 4 fSC fdSC ["self", "number"] (spStand K CL R) := ok_stand FSC B0 L XA FH bH mH FK bK mK
  have GT : FnOk P w K mg base CX0 1 fT fdT ["self", "number", "content"] (spTell CL) := ok_tell FT L
  obtain ⟨uD, mD, rD⟩ := C.day
  refine F.okR scStrike (fun vs H Q E h => ?_) (fun cdv A outer s H vs Q E hr h => ?_)
  · obtain ⟨a, hl, vis, B, n, rfl, _⟩ := h
    rfl
  · obtain ⟨a, hl, vis, B, n, rfl, hB, ok, h62, k⟩ := h
    obtain ⟨dx, hI⟩ := hB.ins
    have nd := scStrike.nd
    have hr1 : Room 1 _ := hr.mono (by decide)
    refine ⟨_, pss_cons (ps_set (i := 2) nd rfl (Or.inl rfl) (pe_meth (pv 0) L.cl mSC' GSC hr bSC .nil passR (pa1 (pv 1))))
      (pss_cons (ps_expr (pe_meth (pv 0) L.cl mF GF hr bF .nil passR (pa1 (pe_ix ix_tup (pv 2) (pe_glob (by rfl) mD rD) (fun _ _ => rfl)))))
      (pss_one (ps_ret (pe_meth (pv 0) L.cl mT GT hr1 bT .nil pass0 (pa2 (pv 1) pe_non))))), ?_⟩
    rw [barS] at k
    refine ⟨_, rfl, a, dx, _, rfl, hI, rfl, _, rfl, a, hl, vis, B, n, rfl, hB, k.fst.imp (Same.refl _) fun k1 st v hp hst hc => ?_⟩
    have er : restS B n = free B st.1 := by unfold restS; rw [hst]
    rw [er] at k1
    obtain ⟨d', o', t', a'⟩ := st
    obtain ⟨p, rfl, hpt⟩ := hc
    refine ⟨_, rfl, a, dx, _, rfl, hI, rfl, _, rfl, p, _, 0, .int d', rfl, rfl, SqT.of hpt, rfl, a, hl, vis, B, d', rfl, hB, RfsOr.imp k1 (Same.refl _) fun k4 => ?_⟩
    exact ⟨_, rfl, a, dx, _, rfl, hI, rfl, _, rfl, a, hl, vis, B, n, _, none, rfl, hB, hp, rfl, ok, h62, k4⟩
theorem scClose : FnScope ["self", "day"] ["self", "day"] (defScope mCD) := ⟨rfl, rfl, rfl, by decide +kernel, rfl, by decide +kernel, by decide +kernel⟩
theorem ok_close {f fF : Addr} {fd fdF : FuncData} (F : Fun K "close_days" "Ledger.close_days" mCD f fd) (L : LCls K CL) (XA : XAll P w K mg base R)
    (FF : Fun K "check_free" "Ledger.check_free" mCF fF fdF) (bF : Binds K fdF ["self", "day"] []) (mF : Meth K CL "check_free" fF) : FnOk P w K mg base (CXR P w) 5 f fd ["self", "day"] (spClose K CL R) := by
  have GF : FnOk P w K mg base (CXR P w) 4 fF fdF ["self", "day"] (spFree K CL R) := ok_free FF L XA
  refine F.okR scClose (fun vs H Q E h => ?_) (fun cdv A outer s H vs Q E hr h => ?_)
  · obtain ⟨a, hl, vis, B, d, rfl, _⟩ := h
    rfl
  · obtain ⟨a, hl, vis, B, d, rfl, hB, k⟩ := h
    obtain ⟨dx, hI⟩ := hB.ins
    refine ⟨_, pss_cons (ps_expr (pe_meth (pv 0) L.cl mF GF hr bF .nil passR (pa1 (pv 1))))
      (pss_cons (ps_fld (pv 0) (pv 1) rfl)
      (pss_cons (ps_fldaug (pv 0) pe_int in_add)
      (pss_one (ps_ret (pe_fld (pv 0) rfl))))), ?_⟩
    refine ⟨_, rfl, a, dx, _, rfl, hI, rfl, _, rfl, a, hl, vis, B, d, rfl, hB, RfsOr.imp k (Same.refl _) fun k1 => ?_⟩
    refine ⟨_, rfl, _, rfl, a, CL, dx, _, rfl, hI, L.cl, L.clo, (by decide : 3 < 1000), ?_⟩
    rw [put_clo]
    refine ⟨_, rfl, a, CL, dx, _, _, rfl, upd_same, L.cl, L.hour, rfl, _, _, rfl, rfl, dx, _, upd_same, (by decide : 3 < 1000), ?_⟩
    rw [put_hour, upd_upd]
    refine ⟨_, rfl, a, CL, dx, _, _, rfl, upd_same, L.cl, L.hour, rfl, ?_⟩
    exact k1 _ vis (hB.own (c := some d)) hB.own_same (NewX.refl _ _)
theorem scInitL : FnScope ["self"] ["self"] (defScope mIN) := ⟨rfl, rfl, rfl, by decide +kernel, rfl, by decide +kernel, by decide +kernel⟩
theorem ok_initL {f : Addr} {fd : FuncData} (F : Fun K "__init__" "Ledger.__init__" mIN f fd) (L : LCls K CL) : FnOk P w K mg base CX0 1 f fd ["self"] (spInit CL) := by
  refine F.ok scInitL (fun vs H Q E h => ?_) (fun cdv A outer s H vs Q E hr h => ?_)
  · obtain ⟨a, dx, rfl, _⟩ := h
    rfl
  · obtain ⟨a, dx, rfl, hI, k⟩ := h
    refine ⟨_, pss_cons (ps_fld (pv 0) pe_int rfl) (pss_cons (ps_fld (pv 0) (pe_lst pa_nil) rfl) (pss_one (ps_fld (pv 0) pe_non rfl))), ?_⟩
    refine ⟨_, rfl, a, CL, dx, _, rfl, hI, L.cl, L.hour, (by decide : 0 < 1000), ?_⟩
    refine ⟨lz, fun hl hhl => ?_⟩
    have na : hl ≠ a := fun z => by rw [z, upd_same] at hhl; cases hhl
    have hhl' : H hl = none := by rw [upd_ne na] at hhl; exact hhl
    refine ⟨_, rfl, a, CL, dx, _, rfl, (upd_ne (Ne.symm na)).trans upd_same, L.cl, L.hist, (by decide : 1 < 1000), ?_⟩
    refine ⟨_, rfl, a, CL, dx, _, rfl, upd_same, L.cl, L.clo, (by decide : 2 < 1000), ?_⟩
    refine k _ hl ⟨⟨dx, upd_same⟩, ?_, List.nodup_nil, by simp, rfl, fun i v vs h1 h2 => by simp at h1⟩ (fun b o q hb => ?_) hhl'
    · rw [upd_ne na, upd_ne na]
      exact upd_same
    · have nb : b ≠ hl := ne_of_none q hhl'
      rw [upd_ne hb, upd_ne hb, upd_ne nb, upd_ne hb]
      exact q
end
end Tt
namespace Tt
open PySem L2
def spBal (K : PySem.W.Frag) : Sp := fun vs H Q _ => ∃ (l : Addr) (zs : List V) (cs : List (Option Ct)) (n : Str) (day : Int), vs = [.ref l, .str n, .int day] ∧ SqL K H l zs ∧ CtsV H zs cs ∧ (∀ c ∈ cs, CtNe c) ∧ cs.length < 64 ∧
  ∀ H', Same H H' → Q (.int (hasI cs n day)) H'
structure TopU (mg : Str → Option Value) : Prop where
  sum : mg "sum" = none
section
variable {P : Program} {w : World} {K : PySem.W.Frag} {mg : Str → Option Value} {base : Heap}
abbrev NBal : List Str := ["contents", "account", "day"]
theorem scBal : FnScope NBal ["contents", "account", "day"] (defScope sBal) := ⟨rfl, rfl, rfl, by decide +kernel, rfl, by decide +kernel, by decide +kernel⟩
theorem ok_bal {f fE : Addr} {fd fdE : FuncData} (F : Fun K "balance_of" "balance_of" sBal f fd) (C : TopC mg) (U : TopU mg)
    (FE : Fun K "effect" "effect" sEff fE fdE) (bE : Binds K fdE ["content", "account", "day"] []) (mE : mg "effect" = some (.ref fE)) : FnOk P w K mg base CX0 2 f fd ["contents", "account", "day"] (spBal K) := by
  have GE : FnOk P w K mg base CX0 1 fE fdE ["content", "account", "day"] spEffC := ok_effC FE C
  refine F.ok scBal (fun vs H Q E h => ?_) (fun cdv A outer s H vs Q E hr h => ?_)
  · obtain ⟨l, zs, cs, n, day, rfl, _⟩ := h
    rfl
  · obtain ⟨l, zs, cs, n, day, rfl, hl, hc, hne, h64, k⟩ := h
    have nd := scBal.nd
    refine ⟨_, pss_one (ps_ret (pcB (call_sumL rfl) (by rfl) U.sum PyProof.Rows.boot_sum (pa1 (pe_comp (x := "content") (fr := ["account", "day"]) (ix := [1, 2]) (NN := NBal) (sx := defScope sBal) ⟨rfl, by decide +kernel, by decide +kernel, rfl, by decide +kernel, by decide +kernel, by decide +kernel, rfl⟩ rfl rfl rfl
      (pi_list (pv 0)) (fun _ _ _ _ _ => pts_nil) (fun cl s H fp C => pcall GE hr (by rfl) mE FE.kp bE .nil pass0 (pa3 (pv 0) (pv 1) (pv 2))))))), ?_⟩
    have hlz : zs.length < sizeLine := Nat.lt_of_lt_of_le (m := 64) (by rw [hc.len]; exact h64) (by decide)
    refine ⟨_, rfl, l, rfl, ⟨_, hl⟩, comp_list (K := K) (a := l) (xs := zs) (fun i ys H2 => H2 = H ∧ ys = (cs.take i).map fun c => V.int (doesI c n day)) hlz (fun i ys H2 h => by rw [h.2]; simp; omega) (fun i ys H2 h => h.1 ▸ hl) ⟨rfl, rfl⟩ ?_ ?_⟩
    · rintro i x ys H2 hx ⟨rfl, rfl⟩
      refine tAll_if ?_
      have hi' : i < cs.length := by rw [← hc.len]; exact (List.getElem?_eq_some_iff.mp hx).1
      have hci : cs[i]? = some cs[i] := by simp
      refine ⟨_, rfl, _, rfl, _, rfl, x, cs[i], n, day, rfl, hc.at' i x _ hx hci, hne _ (List.getElem_mem hi'), rfl, ?_⟩
      rw [List.take_add_one, hci, List.map_append]
      rfl
    · rintro ys H2 ⟨rfl, rfl⟩ D hD
      refine ⟨D, cs.map fun c => doesI c n day, rfl, SqL.of (upd_same.trans ?_), k _ (Same.upd0 hD)⟩
      rw [hc.len, List.take_length, List.map_map]
      rfl
theorem line_one {d : Int} {i : Nat} {o t : Str} {a : Int} {n : Str} {fi la : Int} (h : o ≠ t) (h1 : fi ≤ d) (h2 : d ≤ la) : lineOf i (some (d, o, t, a)) n fi la = if n = o then [[.int d, .int i, .str t, .int (-a)]] else if n = t then [[.int d, .int i, .str o, .int a]] else [] := by
  show (if fi ≤ d ∧ d ≤ la then lineA d i o t a n ++ lineB d i o t a n else []) = _
  have z2 : fi ≤ d ∧ d ≤ la := ⟨h1, h2⟩
  rw [if_pos z2]
  unfold lineA lineB
  by_cases c1 : n = o
  · subst c1
    rw [if_pos rfl, if_neg (fun z => h z.symm), if_pos rfl, List.append_nil, show a * -1 = -a by omega]
  · rw [if_neg (fun z => c1 z.symm), if_neg c1]
    by_cases c2 : n = t
    · subst c2
      rw [if_pos rfl, if_pos rfl, Int.mul_one]
      rfl
    · rw [if_neg (fun z => c2 z.symm), if_neg c2]
      rfl
theorem line_none {d : Int} {i : Nat} {o t : Str} {a : Int} {n : Str} {fi la : Int} (h : ¬ (fi ≤ d ∧ d ≤ la)) : lineOf i (some (d, o, t, a)) n fi la = [] := by
  show (if fi ≤ d ∧ d ≤ la then lineA d i o t a n ++ lineB d i o t a n else []) = _
  rw [if_neg h]
abbrev NLo : List Str := ["contents", "account", "first", "last", "lines", "number", "content"]
structure TopN (mg : Str → Option Value) : Prop where
  enum : mg "enumerate" = none
theorem scLines : FnScope NLo ["contents", "account", "first", "last"] (defScope sLines) := ⟨rfl, rfl, rfl, by decide +kernel, rfl, by decide +kernel, by decide +kernel⟩
theorem row_put2 {H H4 : Hp} {r q : Addr} {ys : List V} {rows : List (List V)} {row : List V} (s4 : Same H H4) (hrH : H r = none) (hr4 : H4 r = some (.lst ys)) (hR : RowsAt H4 ys rows) (hq : H4 q = none) :
    upd (upd H4 q (.tup row)) r (.lst (ys ++ [.ref q])) r = some (.lst (ys ++ [.ref q])) ∧ RowsAt (upd (upd H4 q (.tup row)) r (.lst (ys ++ [.ref q]))) (ys ++ [.ref q]) (rows ++ [row]) ∧
    Same H (upd (upd H4 q (.tup row)) r (.lst (ys ++ [.ref q]))) := by
  have e6 := Same.upd0 (o := .tup row) hq
  exact ⟨upd_same, ((hR.same e6).snoc upd_same).put (e6 _ _ hr4), (s4.trans e6).put hrH⟩
theorem ok_lines {f : Addr} {fd : FuncData} (F : Fun K "lines_of" "lines_of" sLines f fd) (C : TopC mg) (S : TopS mg) (N : TopN mg) : FnOk P w K mg base CX0 1 f fd ["contents", "account", "first", "last"] (spListed K) := by
  obtain ⟨uD, mD, rD⟩ := C.day
  obtain ⟨u1, m1, r1⟩ := C.one
  obtain ⟨u2, m2, r2⟩ := C.oth
  obtain ⟨u3, m3, r3⟩ := C.amt
  refine F.ok scLines (fun vs H Q E h => ?_) (fun cdv A outer s H vs Q E hr h => ?_)
  · obtain ⟨l, zs, cs, n, f, la, rfl, _⟩ := h
    rfl
  · obtain ⟨l, zs, cs, n, fi, la, rfl, hl, hc, h64, hne, kk⟩ := h
    have nd := scLines.nd
    refine ⟨_, (pss_cons (ps_set (i := 4) nd rfl (Or.inl rfl) (pe_lst pa_nil))
      (pss_cons (ps_for PassesOwn.never rfl (pi_enum (by rfl) N.enum (pa1 (pv 0))) (pg_tup rfl (pgs_cons (pg_name (i := 5) nd rfl (Or.inl rfl)) (pgs_cons (pg_name (i := 6) nd rfl (Or.inl rfl)) pgs_nil)))
        (pss_one (ps_if (PW.pt (pw_and (pt_cmp (pc_notN (pv 6))) (pw_and1 (pt_chain op_le op_le (pv 2) (pe_ix ix_tup (pv 6) (pe_glob (by rfl) mD rD) (fun _ _ => rfl)) (pv 3)))))
          (pss_one (ps_if (pt_cmpR op_eq (pv 1) (pe_ix ix_tup (pv 6) (pe_glob (by rfl) m1 r1) (fun _ _ => rfl)) (nomark _))
            (pss_one (ps_expr (p_append (pv 4) (pe_tup (pa4 (pe_ix ix_tup (pv 6) (pe_glob (by rfl) mD rD) (fun _ _ => rfl)) (pv 5) (pe_ix ix_tup (pv 6) (pe_glob (by rfl) m2 r2) (fun _ _ => rfl)) (pe_un un_neg (pe_ix ix_tup (pv 6) (pe_glob (by rfl) m3 r3) (fun _ _ => rfl))))))))
            (pss_one (ps_if (pt_cmpR op_eq (pv 1) (pe_ix ix_tup (pv 6) (pe_glob (by rfl) m2 r2) (fun _ _ => rfl)) (nomark _))
              (pss_one (ps_expr (p_append (pv 4) (pe_tup (pa4 (pe_ix ix_tup (pv 6) (pe_glob (by rfl) mD rD) (fun _ _ => rfl)) (pv 5) (pe_ix ix_tup (pv 6) (pe_glob (by rfl) m1 r1) (fun _ _ => rfl)) (pe_ix ix_tup (pv 6) (pe_glob (by rfl) m3 r3) (fun _ _ => rfl))))))) pss_nil)))) pss_nil)))
      (pss_one (ps_ret (pcB call_sortedR (by rfl) S.sorted PyProof.Rows.boot_sorted (pa1 (pv 4))))))), ?_⟩
    refine ⟨lz, fun r hr0 => ?_⟩
    have hrH : H r = none := hr0
    have s1 : Same H (upd H r (.lst [])) := Same.upd0 hr0
    have hr1 : upd H r (.lst []) r = some (.lst []) := upd_same
    generalize upd H r (.lst []) = H1 at s1 hr1 ⊢
    refine ⟨_, rfl, l, rfl, ⟨_, s1.seq hl⟩, for_enum (K := K) (a := l) (xs := zs)
      (fun i σ H2 => ∃ (x5 x6 : Option V) (ys : List V), σ = [some (.ref l), some (.str n), some (.int fi), some (.int la), some (.ref r), x5, x6] ∧ H2 r = some (.lst ys) ∧ RowsAt H2 ys (linesTo cs n fi la i) ∧ Same H H2)
      ⟨_, _, [], rfl, hr1, RowsAt.nil, s1⟩ (fun i σ H2 _ h => let ⟨_, _, _, _, _, _, s2⟩ := h; s2.seq hl) ?_ ?_⟩
    · rintro i x σ H2 T hx ⟨x5, x6, ys, rfl, hr2, hR, s2⟩ hT
      have hi' : i < zs.length := (List.getElem?_eq_some_iff.mp hx).1
      have hic : i < cs.length := by rw [← hc.len]; exact hi'
      have ec : cs[i]? = some cs[i] := by simp
      have ed : cs.getD i none = cs[i] := by rw [List.getD_eq_getElem?_getD, ec]; rfl
      have sT : Same H2 (upd H2 T (.tup [.int i, x])) := Same.upd0 hT
      have hat := ((hc.at' i _ _ hx ec).same s2).same sT
      have hlen : (linesTo cs n fi la i).length ≤ i := linesTo_len hne i (by omega)
      have hnei := hne _ (List.getElem_mem hic)
      refine ⟨T, _, rfl, SqT.of upd_same, rfl, _, _, rfl, _, _, rfl, rfl, ?_⟩
      have step : linesTo cs n fi la (i + 1) = linesTo cs n fi la i ++ lineOf i cs[i] n fi la := by rw [linesTo_succ, ed]
      have hrT := sT _ _ hr2
      have hRT := hR.same sT
      have s2T := s2.trans sT
      generalize upd H2 T (.tup [.int i, x]) = H3 at sT hat hrT hRT s2T ⊢
      generalize cs[i] = c at hat step hnei ⊢
      have hsz : ys.length < sizeLine := by
        rw [hR.len]
        exact Nat.lt_of_le_of_lt (m := 200) (by omega) (by decide)
      match c, hat, hnei with
      | none, hv, _ =>
        have hv : x = .non := hv
        subst hv
        refine ⟨_, rfl, _, rfl, iteF (iteF ?_)⟩
        exact ⟨_, _, ys, rfl, hrT, by rw [step]; simpa [lineOf] using hRT, s2T⟩
      | some (d, o, t, a), ⟨p, hv, hp⟩, hnei =>
        subst hv
        have T2 : SqT K H3 p [.int d, .str o, .str t, .int a] := SqT.of hp
        have hot := hnei d o t a rfl
        refine ⟨_, rfl, true, rfl, iteT ?_⟩
        refine ⟨_, rfl, _, rfl, p, _, 0, .int d, rfl, rfl, T2, rfl, _, _, rfl, rfl, _, rfl, ?_⟩
        by_cases h1 : fi ≤ d
        · rw [decide_eq_true h1]
          refine iteT ?_
          refine ⟨_, rfl, _, _, rfl, rfl, _, rfl, ?_⟩
          by_cases h2 : d ≤ la
          · rw [decide_eq_true h2]
            refine iteT ?_
            rw [line_one hot h1 h2] at step
            refine ⟨_, rfl, _, rfl, p, _, 1, .str o, rfl, rfl, T2, rfl, rfl, _, rfl, ?_⟩
            refine ite2' (fun c1 => ?_) (fun c1 => ?_)
            · have z : n = o := by injection c1
              rw [if_pos z] at step
              refine ⟨_, rfl, tyl hrT, _, rfl, p, _, 0, .int d, rfl, rfl, T2, rfl, _, rfl, _, rfl, p, _, 2, .str t, rfl, rfl, T2, rfl, _, rfl, p, _, 3, .int a, rfl, rfl, T2, rfl, _, rfl, lz, fun q hq => ?_⟩
              obtain ⟨g1, g2, g3⟩ := row_put2 (row := [.int d, .int (i : Int), .str t, .int (-a)]) s2T hrH hrT hRT hq
              exact ⟨r, ys, _, rfl, rfl, (Same.upd0 hq) _ _ hrT, hsz, _, _, _, rfl, g1, by rw [step]; exact g2, g3⟩
            · have z : ¬ n = o := fun z => c1 (by rw [z])
              rw [if_neg z] at step
              refine ⟨_, rfl, _, rfl, p, _, 2, .str t, rfl, rfl, T2, rfl, rfl, _, rfl, ?_⟩
              refine ite2' (fun c2 => ?_) (fun c2 => ?_)
              · have z2 : n = t := by injection c2
                rw [if_pos z2] at step
                refine ⟨_, rfl, tyl hrT, _, rfl, p, _, 0, .int d, rfl, rfl, T2, rfl, _, rfl, _, rfl, p, _, 1, .str o, rfl, rfl, T2, rfl, _, rfl, p, _, 3, .int a, rfl, rfl, T2, rfl, lz, fun q hq => ?_⟩
                obtain ⟨g1, g2, g3⟩ := row_put2 (row := [.int d, .int (i : Int), .str o, .int a]) s2T hrH hrT hRT hq
                exact ⟨r, ys, _, rfl, rfl, (Same.upd0 hq) _ _ hrT, hsz, _, _, _, rfl, g1, by rw [step]; exact g2, g3⟩
              · have z2 : ¬ n = t := fun z => c2 (by rw [z])
                rw [if_neg z2] at step
                exact ⟨_, _, ys, rfl, hrT, by rw [step]; simpa using hRT, s2T⟩
          · rw [decide_eq_false h2]
            refine iteF ?_
            exact ⟨_, _, ys, rfl, hrT, by rw [step, line_none (fun z => h2 z.2)]; simpa using hRT, s2T⟩
        · rw [decide_eq_false h1]
          refine iteF ⟨_, rfl, iteF ?_⟩
          exact ⟨_, _, ys, rfl, hrT, by rw [step, line_none (fun z => h1 z.1)]; simpa using hRT, s2T⟩
    · rintro σ H2 ⟨x5, x6, ys, rfl, hr2, hR, s2⟩
      rw [hc.len] at hR
      have h1 := linesTo_len (n := n) (f := fi) (l := la) hne cs.length (Nat.le_refl _)
      refine ⟨_, rfl, r, ys, _, rfl, SqL.of hr2, hR, by omega, linesTo_rows2 hne _ (Nat.le_refl _), fun D zs' rows' hD hs hR' => ?_⟩
      exact kk D zs' rows' _ (s2.upd hD) (s2.free hD) upd_same hs (hR'.same (Same.upd0 hD))
def spSheet (K : PySem.W.Frag) : Sp := fun vs H Q _ => ∃ (l : Addr) (zs : List V) (cs : List (Option Ct)) (n : Str) (f la : Int), vs = [.ref l, .str n, .int f, .int la] ∧ SqL K H l zs ∧ CtsV H zs cs ∧ cs.length < 64 ∧ (∀ c ∈ cs, CtNe c) ∧
  ∀ p D zs' rows' H', Same H H' → H p = none → H D = none → H' p = some (.tup [.int (hasI cs n (f - 1)), .ref D, .int (hasI cs n la)]) → H' D = some (.lst zs') → SortedRows (linesTo cs n f la cs.length) rows' → RowsAt H' zs' rows' → Q (.ref p) H'
abbrev NSh : List Str := ["contents", "account", "first", "last", "ahead"]
theorem scSheet : FnScope NSh ["contents", "account", "first", "last"] (defScope sSheet) := ⟨rfl, rfl, rfl, by decide +kernel, rfl, by decide +kernel, by decide +kernel⟩
theorem ok_sheet {f fB fL fE : Addr} {fd fdB fdL fdE : FuncData} (F : Fun K "sheet_of" "sheet_of" sSheet f fd) (C : TopC mg) (S : TopS mg) (N : TopN mg) (U : TopU mg)
    (FB : Fun K "balance_of" "balance_of" sBal fB fdB) (bB : Binds K fdB ["contents", "account", "day"] []) (mB : mg "balance_of" = some (.ref fB))
    (FL : Fun K "lines_of" "lines_of" sLines fL fdL) (bL : Binds K fdL ["contents", "account", "first", "last"] []) (mL : mg "lines_of" = some (.ref fL))
    (FE : Fun K "effect" "effect" sEff fE fdE) (bE : Binds K fdE ["content", "account", "day"] []) (mE : mg "effect" = some (.ref fE)) : FnOk P w K mg base CX0 3 f fd ["contents", "account", "first", "last"] (spSheet K) := by
  have GB : FnOk P w K mg base CX0 2 fB fdB ["contents", "account", "day"] (spBal K) := ok_bal FB C U FE bE mE
  have GL : FnOk P w K mg base CX0 1 fL fdL ["contents", "account", "first", "last"] (spListed K) := ok_lines FL C S N
  refine F.ok scSheet (fun vs H Q E h => ?_) (fun cdv A outer s H vs Q E hr h => ?_)
  · obtain ⟨l, zs, cs, n, f, la, rfl, _⟩ := h
    rfl
  · obtain ⟨l, zs, cs, n, fi, la, rfl, hl, hc, h64, hne, kk⟩ := h
    have nd := scSheet.nd
    have hr1 : Room 1 _ := hr.mono (by decide)
    refine ⟨_, (pss_cons (ps_set (i := 4) nd rfl (Or.inl rfl) (pcall GB hr (by rfl) mB FB.kp bB .nil pass0 (pa3 (pv 0) (pv 1) (pe_op op_sub (pv 2) pe_int))))
      (pss_one (ps_ret (pe_tup (pa3 (pv 4) (pcall GL hr1 (by rfl) mL FL.kp bL .nil pass0 (pa4 (pv 0) (pv 1) (pv 2) (pv 3))) (pcall GB hr (by rfl) mB FB.kp bB .nil pass0 (pa3 (pv 0) (pv 1) (pv 3)))))))), ?_⟩
    refine ⟨_, rfl, _, rfl, _, rfl, _, _, rfl, rfl, l, zs, cs, n, _, rfl, hl, hc, hne, h64, fun H1 s1 => ?_⟩
    refine ⟨_, rfl, _, rfl, _, rfl, _, rfl, _, rfl, l, zs, cs, n, fi, la, rfl, s1.seq hl, hc.same s1, h64, hne, fun D zs' rows' H2 s2 hD hD2 hs hR => ?_⟩
    have s12 := s1.trans s2
    refine ⟨_, rfl, _, rfl, _, rfl, l, zs, cs, n, la, rfl, s12.seq hl, hc.same s12, hne, h64, fun H3 s3 => ?_⟩
    refine ⟨lz, fun p hp => ?_⟩
    have s4 : Same H3 (upd H3 p (.tup [.int (hasI cs n (fi - 1)), .ref D, .int (hasI cs n la)])) := Same.upd0 hp
    have s13 := s12.trans s3
    exact kk p D zs' rows' _ (s13.trans s4) (s13.free hp) (s1.free hD) upd_same (s4 _ _ (s3 _ _ hD2)) hs ((hR.same s3).same s4)
end
end Tt
namespace Tt
open PySem L2
def spCof (K : PySem.W.Frag) : Sp := fun vs H Q _ => ∃ (l : Addr) (zs : List V) (cs : List (Option Ct)) (i : Nat), vs = [.ref l, .int (i : Int)] ∧ SqL K H l zs ∧ CtsV H zs cs ∧ ∀ v, CtAt H (cs.getD i none) v → Q v H
def spNews (K : PySem.W.Frag) : Sp := fun vs H Q _ => ∃ (l m : Addr) (zs ys : List V) (cs ls : List (Option Ct)) (n : Str) (day : Int), vs = [.ref l, .ref m, .str n, .int day] ∧ SqL K H l zs ∧ CtsV H zs cs ∧ SqL K H m ys ∧ CtsV H ys ls ∧ cs.length ≤ 1000 ∧ ls.length ≤ 1000 ∧ (∀ c ∈ cs, CtNe c) ∧ (∀ c ∈ ls, CtNe c) ∧
  ∀ D us H', Same H H' → H D = none → H' D = some (.lst us) → RowsAt H' us (newsTo cs ls n day (max cs.length ls.length)) → Q (.ref D) H'
theorem getD_ne {cs : List (Option Ct)} (h : ∀ c ∈ cs, CtNe c) (i : Nat) : CtNe (cs.getD i none) := by
  by_cases hi : i < cs.length
  · rw [List.getD_eq_getElem?_getD, List.getElem?_eq_getElem hi]
    exact h _ (List.getElem_mem hi)
  · rw [List.getD_eq_getElem?_getD, List.getElem?_eq_none (by omega)]
    exact fun _ _ _ _ e => by cases e
section
variable {P : Program} {w : World} {K : PySem.W.Frag} {mg : Str → Option Value} {base : Heap}
theorem scCof : FnScope ["contents", "number"] ["contents", "number"] (defScope sCof) := ⟨rfl, rfl, rfl, by decide +kernel, rfl, by decide +kernel, by decide +kernel⟩
theorem ok_cof {f : Addr} {fd : FuncData} (F : Fun K "content_of" "content_of" sCof f fd) (B : TopB mg) : FnOk P w K mg base CX0 1 f fd ["contents", "number"] (spCof K) := by
  refine F.ok scCof (fun vs H Q E h => ?_) (fun cdv A outer s H vs Q E hr h => ?_)
  · obtain ⟨l, zs, cs, i, rfl, _⟩ := h
    rfl
  · obtain ⟨l, zs, cs, i, rfl, hl, hc, k⟩ := h
    refine ⟨_, pss_cons (ps_if (pt_cmpR op_lt (pv 1) (pcB call_len_seq (by rfl) B.len PySem.boot_len (pa1 (pv 0))) (nomark _)) (pss_one (ps_ret (pe_ix ix_list (pv 0) (pv 1) (fun _ _ => rfl)))) pss_nil)
      (pss_one (ps_ret pe_non)), ?_⟩
    refine ⟨_, rfl, _, rfl, l, _, rfl, .inl hl, _, _, rfl, rfl, _, rfl, ?_⟩
    refine ite2' (fun c => ?_) (fun c => ?_)
    · have hz : i < zs.length := by omega
      have hi : i < cs.length := by rw [← hc.len]; exact hz
      have ez : zs[i]? = some zs[i] := by simp
      have ec : cs[i]? = some cs[i] := by simp
      refine ⟨_, rfl, _, rfl, l, _, _, zs[i], rfl, rfl, hl, atI_nat ez, k _ ?_⟩
      rw [List.getD_eq_getElem?_getD, ec]
      exact hc.at' i _ _ ez ec
    · have hi : ¬ i < cs.length := by rw [← hc.len]; omega
      refine k _ ?_
      rw [List.getD_eq_getElem?_getD, List.getElem?_eq_none (by omega)]
      rfl
abbrev NNw : List Str := ["contents", "later", "account", "day", "news", "number", "before", "after"]
theorem scNews : FnScope NNw ["contents", "later", "account", "day"] (defScope sNews) := ⟨rfl, rfl, rfl, by decide +kernel, rfl, by decide +kernel, by decide +kernel⟩
theorem ok_news {f fE fC : Addr} {fd fdE fdC : FuncData} (F : Fun K "news_of" "news_of" sNews f fd) (B : TopB mg) (C : TopC mg) (X : TopM mg)
    (FE : Fun K "effect" "effect" sEff fE fdE) (bE : Binds K fdE ["content", "account", "day"] []) (mE : mg "effect" = some (.ref fE))
    (FC : Fun K "content_of" "content_of" sCof fC fdC) (bC : Binds K fdC ["contents", "number"] []) (mC : mg "content_of" = some (.ref fC)) : FnOk P w K mg base CX0 2 f fd ["contents", "later", "account", "day"] (spNews K) := by
  have GE : FnOk P w K mg base CX0 1 fE fdE ["content", "account", "day"] spEffC := ok_effC FE C
  have GC : FnOk P w K mg base CX0 1 fC fdC ["contents", "number"] (spCof K) := ok_cof FC B
  refine F.ok scNews (fun vs H Q E h => ?_) (fun cdv A outer s H vs Q E hr h => ?_)
  · obtain ⟨l, m, zs, ys, cs, ls, n, day, rfl, _⟩ := h
    rfl
  · obtain ⟨l, m, zs, ys, cs, ls, n, day, rfl, hl, hc, hm, hd, h1000, h1000', hne, hne', kk⟩ := h
    have nd := scNews.nd
    have hcl := hc.len
    have hdl := hd.len
    refine ⟨_, (pss_cons (ps_set (i := 4) nd rfl (Or.inl rfl) (pe_lst pa_nil))
      (pss_cons (ps_for PassesOwn.never rfl (prange1 (by rfl) B.range (pa1 (pcB (call_max2 rfl) (by rfl) X.max PyProof.Rows.boot_max (pa2 (pcB call_len_seq (by rfl) B.len PySem.boot_len (pa1 (pv 0))) (pcB call_len_seq (by rfl) B.len PySem.boot_len (pa1 (pv 1))))))) (pg_name (i := 5) nd rfl (Or.inl rfl))
        (pss_cons (ps_set (i := 6) nd rfl (Or.inl rfl) (pcall GE hr (by rfl) mE FE.kp bE .nil pass0 (pa3 (pcall GC hr (by rfl) mC FC.kp bC .nil pass0 (pa2 (pv 0) (pv 5))) (pv 2) (pv 3))))
        (pss_cons (ps_set (i := 7) nd rfl (Or.inl rfl) (pcall GE hr (by rfl) mE FE.kp bE .nil pass0 (pa3 (pcall GC hr (by rfl) mC FC.kp bC .nil pass0 (pa2 (pv 1) (pv 5))) (pv 2) (pv 3))))
        (pss_one (ps_if (pt_cmpR op_ne (pv 6) (pv 7) (nomark _)) (pss_one (ps_expr (p_append (pv 4) (pe_tup (pa3 (pv 5) (pv 6) (pv 7)))))) pss_nil)))))
      (pss_one (ps_ret (pv 4))))), ?_⟩
    refine ⟨lz, fun r hr0 => ?_⟩
    have s1 : Same H (upd H r (.lst [])) := Same.upd0 hr0
    have hr1 : upd H r (.lst []) r = some (.lst []) := upd_same
    generalize upd H r (.lst []) = H1 at s1 hr1 ⊢
    have emax : (if ((ys.length : Nat) : Int) > ((zs.length : Nat) : Int) then ((ys.length : Nat) : Int) else ((zs.length : Nat) : Int)) = ((max cs.length ls.length : Nat) : Int) := by split <;> omega
    refine ⟨_, rfl, l, _, rfl, .inl (s1.seq hl), _, rfl, m, _, rfl, .inl (s1.seq hm), _, _, rfl, _, rfl, by rw [emax]; omega, by rw [emax]; omega, ?_⟩
    rw [emax, Int.toNat_natCast]
    refine for_range (lo := 0) (n := max cs.length ls.length)
      (fun i σ H2 => ∃ (x5 x6 x7 : Option V) (us : List V), σ = [some (.ref l), some (.ref m), some (.str n), some (.int day), some (.ref r), x5, x6, x7] ∧ H2 r = some (.lst us) ∧ RowsAt H2 us (newsTo cs ls n day i) ∧ Same H H2)
      ⟨_, _, _, [], rfl, hr1, RowsAt.nil, s1⟩ ?_ ?_
    · rintro i σ H2 hi ⟨x5, x6, x7, us, rfl, hr2, hR, s2⟩
      rw [Int.zero_add]
      refine ⟨_, rfl, _, rfl, l, zs, cs, i, rfl, s2.seq hl, hc.same s2, fun v hv => ?_⟩
      refine ⟨_, rfl, _, rfl, v, _, n, day, rfl, hv, getD_ne hne i, ?_⟩
      refine ⟨_, rfl, _, rfl, m, ys, ls, i, rfl, s2.seq hm, hd.same s2, fun v' hv' => ?_⟩
      refine ⟨_, rfl, _, rfl, v', _, n, day, rfl, hv', getD_ne hne' i, ?_⟩
      refine ⟨_, rfl, _, rfl, rfl, _, rfl, ?_⟩
      by_cases e : doesI (cs.getD i none) n day = doesI (ls.getD i none) n day
      · refine iteNS (by rw [e]) ?_
        exact ⟨_, _, _, us, rfl, hr2, by rw [newsTo_succ]; unfold newsOf; rw [if_pos e, List.append_nil]; exact hR, s2⟩
      · rw [decide_eq_false (show ¬ V.int (doesI (cs.getD i none) n day) = V.int (doesI (ls.getD i none) n day) from fun z => e (by injection z))]
        refine iteT ?_
        refine ⟨_, rfl, tyl hr2, _, rfl, _, rfl, _, rfl, lz, fun q hq => ?_⟩
        have s6 := Same.upd0 (o := .tup [.int (i : Int), .int (doesI (cs.getD i none) n day), .int (doesI (ls.getD i none) n day)]) hq
        refine ⟨r, us, _, rfl, rfl, s6 _ _ hr2, ?_, _, _, _, _, rfl, upd_same, ?_, (s2.trans s6).put hr0⟩
        · rw [hR.len]
          exact Nat.lt_of_le_of_lt (Nat.le_trans (newsTo_len cs ls n day i) (by omega : i ≤ 1000)) (by decide)
        · rw [newsTo_succ]
          have e2 : newsOf cs ls n day i = [[.int (i : Int), .int (doesI (cs.getD i none) n day), .int (doesI (ls.getD i none) n day)]] := by unfold newsOf; rw [if_neg e]
          rw [e2]
          exact ((hR.same s6).snoc upd_same).put (s6 _ _ hr2)
    · rintro σ H2 ⟨x5, x6, x7, us, rfl, hr2, hR, s2⟩
      exact ⟨_, rfl, kk r us H2 s2 hr0 hr2 hR⟩
end
end Tt
namespace Tt
open PySem L2
abbrev mBA : Stmt := inClass sLedger 5
abbrev mSH : Stmt := inClass sLedger 6
abbrev mNW : Stmt := inClass sLedger 7
abbrev mCA : Stmt := inClass sLedger 8
def spCon (CL : Addr) : Sp := fun vs H Q _ => ∃ (a hl : Addr) (vis : List Addr) (B : Book) (h : Int), vs = [.ref a, .int h] ∧ Bk CL H B a hl vis ∧ BkOk B ∧ B.hour ≤ 62 ∧ ∀ D zs H', Same H H' → H D = none → H' D = some (.lst zs) → CtsV H' zs (B.at h) → Q (.ref D) H'
def spBalM (K : PySem.W.Frag) (CL R : Addr) : Sp := fun vs H Q E => ∃ (a hl : Addr) (vis : List Addr) (B : Book) (n : Str) (d h : Int), vs = [.ref a, .str n, .int d, .int h] ∧ Bk CL H B a hl vis ∧ BkOk B ∧ B.hour ≤ 62 ∧
  RfsOr K R (barP B (.bal n d h)) H E (∀ H', Same H H' → Q (.int (hasI (B.at h) n d)) H')
def spSheM (K : PySem.W.Frag) (CL R : Addr) : Sp := fun vs H Q E => ∃ (a hl : Addr) (vis : List Addr) (B : Book) (n : Str) (f l h : Int), vs = [.ref a, .str n, .int f, .int l, .int h] ∧ Bk CL H B a hl vis ∧ BkOk B ∧ B.hour ≤ 62 ∧
  RfsOr K R (barP B (.sheet n f l h)) H E (∀ p pv H', Same H H' → AnsP B (.sheet n f l h) pv → Deep (hideB H' a hl vis) pv (.ref p) → Q (.ref p) H')
def spNewM (K : PySem.W.Frag) (CL R : Addr) : Sp := fun vs H Q E => ∃ (a hl : Addr) (vis : List Addr) (B : Book) (n : Str) (d h l : Int), vs = [.ref a, .str n, .int d, .int h, .int l] ∧ Bk CL H B a hl vis ∧ BkOk B ∧ B.hour ≤ 62 ∧
  RfsOr K R (barP B (.news n d h l)) H E (∀ p pv H', Same H H' → AnsP B (.news n d h l) pv → Deep (hideB H' a hl vis) pv (.ref p) → Q (.ref p) H')
theorem at_len (B : Book) (h : Int) : (B.at h).length = B.vers.length := by unfold Book.at; rw [List.length_map]
section
variable {P : Program} {w : World} {K : PySem.W.Frag} {mg : Str → Option Value} {base : Heap} {CL R : Addr}
theorem scCon : FnScope ["self", "hour"] ["self", "hour"] (defScope mCA) := ⟨rfl, rfl, rfl, by decide +kernel, rfl, by decide +kernel, by decide +kernel⟩
theorem ok_con {f fK : Addr} {fd fdK : FuncData} (F : Fun K "contents_at" "Ledger.contents_at" mCA f fd) (L : LCls K CL)
    (FK : Fun K "known" "known" sKnown fK fdK) (bK : Binds K fdK ["versions", "hour"] []) (mK : mg "known" = some (.ref fK)) : FnOk P w K mg base CX0 2 f fd ["self", "hour"] (spCon CL) := by
  have GK : FnOk P w K mg base CX0 1 fK fdK ["versions", "hour"] (spKnown K) := ok_known FK
  refine F.ok scCon (fun vs H Q E h => ?_) (fun cdv A outer s H vs Q E hr h => ?_)
  · obtain ⟨a, hl, vis, B, h, rfl, _⟩ := h
    rfl
  · obtain ⟨a, hl, vis, B, h, rfl, hB, ok, h62, k⟩ := h
    obtain ⟨dx, hI⟩ := hB.ins
    refine ⟨_, pss_one (ps_ret (pe_comp (x := "versions") (fr := ["hour"]) (ix := [1]) (NN := ["self", "hour"]) (sx := defScope mCA) ⟨rfl, by decide +kernel, by decide +kernel, rfl, by decide +kernel, by decide +kernel, by decide +kernel, rfl⟩ rfl rfl rfl
      (pi_list (pe_fld (pv 0) rfl)) (fun _ _ _ _ _ => pts_nil) (fun cl s H fp C => pcall GK hr (by rfl) mK FK.kp bK .nil pass0 (pa2 (pv 0) (pv 1))))), ?_⟩
    have hlz : (vis.map V.ref).length < sizeLine := small62 (h := B.hour) (by rw [List.length_map, hB.len]; exact ok.few) h62
    refine ⟨_, rfl, a, CL, dx, _, _, rfl, hI, L.cl, L.hist, rfl, hl, rfl, ⟨_, SqL.of hB.hist⟩, comp_list (K := K) (a := hl) (xs := vis.map V.ref) (fun i ys H2 => H2 = H ∧ CtsV H ys ((B.at h).take i)) hlz (fun i ys H2 q => by rw [q.2.len, List.length_take]; omega) (fun i ys H2 q => q.1 ▸ SqL.of hB.hist) ⟨rfl, CtsV.nil⟩ ?_ ?_⟩
    · rintro i x ys H2 hx ⟨rfl, hc⟩
      refine tAll_if ?_
      have hi : i < vis.length := by have := (List.getElem?_eq_some_iff.mp hx).1; rw [List.length_map] at this; exact this
      have ev : vis[i]? = some vis[i] := by simp
      have hib : i < B.vers.length := by rw [← hB.len]; exact hi
      have eb : B.vers[i]? = some B.vers[i] := by simp
      obtain rfl : x = .ref vis[i] := by rw [List.getElem?_map, ev] at hx; cases hx; rfl
      obtain ⟨zs, hz, hvs⟩ := hB.each _ _ _ ev eb
      refine ⟨_, rfl, _, rfl, _, zs, _, h, rfl, SqL.of hz, hvs, fun v hv => ⟨rfl, ?_⟩⟩
      have ea : (B.at h)[i]? = some (knownI B.vers[i] h) := by unfold Book.at; rw [List.getElem?_map, eb]; rfl
      rw [List.take_add_one, ea]
      exact hc.snoc hv
    · rintro ys H2 ⟨rfl, hc⟩ D hD
      have e : (B.at h).take (vis.map V.ref).length = B.at h := by rw [List.length_map, hB.len, ← at_len B h, List.take_length]
      rw [e] at hc
      exact k D ys _ (Same.upd0 hD) hD upd_same (hc.same (Same.upd0 hD))
theorem scBalM : FnScope ["self", "account", "day", "hour"] ["self", "account", "day", "hour"] (defScope mBA) := ⟨rfl, rfl, rfl, by decide +kernel, rfl, by decide +kernel, by decide +kernel⟩
theorem at64 {B : Book} (ok : BkOk B) (h62 : B.hour ≤ 62) (h : Int) : (B.at h).length < 64 := by
  rw [at_len]
  have := ok.few
  omega
theorem ok_balM {f fC fK fO fB fE : Addr} {fd fdC fdK fdO fdB fdE : FuncData} (F : Fun K "balance" "Ledger.balance" mBA f fd) (C : TopC mg) (U : TopU mg) (L : LCls K CL) (XA : XAll P w K mg base R)
    (FC : Fun K "check_hour" "Ledger.check_hour" mCH fC fdC) (bC : Binds K fdC ["self", "hour"] []) (mC : Meth K CL "check_hour" fC)
    (FK : Fun K "known" "known" sKnown fK fdK) (bK : Binds K fdK ["versions", "hour"] []) (mK : mg "known" = some (.ref fK))
    (FO : Fun K "contents_at" "Ledger.contents_at" mCA fO fdO) (bO : Binds K fdO ["self", "hour"] []) (mO : Meth K CL "contents_at" fO)
    (FB : Fun K "balance_of" "balance_of" sBal fB fdB) (bB : Binds K fdB ["contents", "account", "day"] []) (mB : mg "balance_of" = some (.ref fB))
    (FE : Fun K "effect" "effect" sEff fE fdE) (bE : Binds K fdE ["content", "account", "day"] []) (mE : mg "effect" = some (.ref fE)) : FnOk P w K mg base (CXR P w) 5 f fd ["self", "account", "day", "hour"] (spBalM K CL R) := by
  have GC : FnOk P w K mg base (CXR P w) 4 fC fdC ["self", "hour"] (spHour K CL R) := ok_hour FC L XA
  have GO : FnOk P w K mg base CX0 2 fO fdO ["self", "hour"] (spCon CL) := ok_con FO L FK bK mK
  have GB : FnOk P w K mg base CX0 2 fB fdB ["contents", "account", "day"] (spBal K) := ok_bal FB C U FE bE mE
  refine F.okR scBalM (fun vs H Q E h => ?_) (fun cdv A outer s H vs Q E hr h => ?_)
  · obtain ⟨a, hl, vis, B, n, d, h, rfl, _⟩ := h
    rfl
  · obtain ⟨a, hl, vis, B, n, d, h, rfl, hB, ok, h62, k⟩ := h
    obtain ⟨dx, hI⟩ := hB.ins
    have hr2 : Room 2 _ := hr.mono (by decide)
    refine ⟨_, pss_cons (ps_expr (pe_meth (pv 0) L.cl mC GC hr bC .nil passR (pa1 (pv 3))))
      (pss_one (ps_ret (pcall GB hr2 (by rfl) mB FB.kp bB .nil pass0 (pa3 (pe_meth (pv 0) L.cl mO GO hr2 bO .nil pass0 (pa1 (pv 3))) (pv 1) (pv 2))))), ?_⟩
    refine ⟨_, rfl, a, dx, _, rfl, hI, rfl, _, rfl, a, hl, vis, B, h, rfl, hB, RfsOr.imp k (Same.refl _) fun k1 => ?_⟩
    refine ⟨_, rfl, a, dx, _, rfl, hI, rfl, _, rfl, a, hl, vis, B, h, rfl, hB, ok, h62, fun D zs H1 s1 hD hD1 hc => ?_⟩
    refine ⟨_, rfl, _, rfl, D, zs, B.at h, n, d, rfl, SqL.of hD1, hc, ok.at h, at64 ok h62 h, fun H2 s2 => ?_⟩
    exact k1 H2 (s1.trans s2)
theorem scSheM : FnScope ["self", "account", "first", "last", "hour"] ["self", "account", "first", "last", "hour"] (defScope mSH) := ⟨rfl, rfl, rfl, by decide +kernel, rfl, by decide +kernel, by decide +kernel⟩
theorem ok_sheM {f fC fK fO fB fE fL fS : Addr} {fd fdC fdK fdO fdB fdE fdL fdS : FuncData} (F : Fun K "sheet" "Ledger.sheet" mSH f fd) (C : TopC mg) (U : TopU mg) (S : TopS mg) (N : TopN mg) (L : LCls K CL) (XA : XAll P w K mg base R)
    (FC : Fun K "check_hour" "Ledger.check_hour" mCH fC fdC) (bC : Binds K fdC ["self", "hour"] []) (mC : Meth K CL "check_hour" fC)
    (FK : Fun K "known" "known" sKnown fK fdK) (bK : Binds K fdK ["versions", "hour"] []) (mK : mg "known" = some (.ref fK))
    (FO : Fun K "contents_at" "Ledger.contents_at" mCA fO fdO) (bO : Binds K fdO ["self", "hour"] []) (mO : Meth K CL "contents_at" fO)
    (FB : Fun K "balance_of" "balance_of" sBal fB fdB) (bB : Binds K fdB ["contents", "account", "day"] []) (mB : mg "balance_of" = some (.ref fB))
    (FE : Fun K "effect" "effect" sEff fE fdE) (bE : Binds K fdE ["content", "account", "day"] []) (mE : mg "effect" = some (.ref fE))
    (FL : Fun K "lines_of" "lines_of" sLines fL fdL) (bL : Binds K fdL ["contents", "account", "first", "last"] []) (mL : mg "lines_of" = some (.ref fL))
    (FS : Fun K "sheet_of" "sheet_of" sSheet fS fdS) (bS : Binds K fdS ["contents", "account", "first", "last"] []) (mS : mg "sheet_of" = some (.ref fS)) : FnOk P w K mg base (CXR P w) 5 f fd ["self", "account", "first", "last", "hour"] (spSheM K CL R) := by
  have GC : FnOk P w K mg base (CXR P w) 4 fC fdC ["self", "hour"] (spHour K CL R) := ok_hour FC L XA
  have GO : FnOk P w K mg base CX0 2 fO fdO ["self", "hour"] (spCon CL) := ok_con FO L FK bK mK
  have GS : FnOk P w K mg base CX0 3 fS fdS ["contents", "account", "first", "last"] (spSheet K) := ok_sheet FS C S N U FB bB mB FL bL mL FE bE mE
  refine F.okR scSheM (fun vs H Q E h => ?_) (fun cdv A outer s H vs Q E hr h => ?_)
  · obtain ⟨a, hl, vis, B, n, f, l, h, rfl, _⟩ := h
    rfl
  · obtain ⟨a, hl, vis, B, n, fi, la, h, rfl, hB, ok, h62, k⟩ := h
    obtain ⟨dx, hI⟩ := hB.ins
    have hr2 : Room 2 _ := hr.mono (by decide)
    have hr3 : Room 3 _ := hr.mono (by decide)
    refine ⟨_, pss_cons (ps_if (pt_cmpR op_gt (pv 2) (pv 3) (nomark _)) (pss_one (ps_refuse XA.days hr3 (by rfl))) pss_nil)
      (pss_cons (ps_expr (pe_meth (pv 0) L.cl mC GC hr bC .nil passR (pa1 (pv 4))))
      (pss_one (ps_ret (pcall GS hr3 (by rfl) mS FS.kp bS .nil pass0 (pa4 (pe_meth (pv 0) L.cl mO GO hr2 bO .nil pass0 (pa1 (pv 4))) (pv 1) (pv 2) (pv 3)))))), ?_⟩
    refine ⟨_, rfl, _, rfl, _, _, rfl, rfl, _, rfl, ?_⟩
    have k : RfsOr K R (if la < fi then some tDays else noHour B h) H E _ := k
    refine ite2' (fun c1 => ?_) (fun c1 => ?_)
    · have c1 : la < fi := c1
      exact k.yes (by rw [if_pos c1])
    · have c1 : ¬ la < fi := c1
      rw [if_neg c1] at k
      refine ⟨_, rfl, a, dx, _, rfl, hI, rfl, _, rfl, a, hl, vis, B, h, rfl, hB, RfsOr.imp k (Same.refl _) fun k1 => ?_⟩
      refine ⟨_, rfl, a, dx, _, rfl, hI, rfl, _, rfl, a, hl, vis, B, h, rfl, hB, ok, h62, fun D zs H1 s1 hD hD1 hc => ?_⟩
      refine ⟨_, rfl, _, rfl, _, rfl, D, zs, B.at h, n, fi, la, rfl, SqL.of hD1, hc, at64 ok h62 h, ok.at h, fun p D' zs' rows' H2 s2 _ hDn hp hD' hs hR => ?_⟩
      have hB2 := hB.same (s1.trans s2)
      refine k1 p _ H2 (s1.trans s2) ⟨rows', hs, rfl⟩ (sheet_deep (hB2.hideT hp) (hB.hideN (s1.free hDn) hD') (hB2.hideR hR) fun row hr => ?_)
      obtain ⟨d, x, am, i, rfl⟩ := sorted_form hs hr
      rfl
theorem scNewM : FnScope ["self", "account", "day", "hour", "later"] ["self", "account", "day", "hour", "later"] (defScope mNW) := ⟨rfl, rfl, rfl, by decide +kernel, rfl, by decide +kernel, by decide +kernel⟩
theorem ok_newM {f fC fK fO fE fF fN : Addr} {fd fdC fdK fdO fdE fdF fdN : FuncData} (F : Fun K "news" "Ledger.news" mNW f fd) (B0 : TopB mg) (C : TopC mg) (M : TopM mg) (L : LCls K CL) (XA : XAll P w K mg base R)
    (FC : Fun K "check_hour" "Ledger.check_hour" mCH fC fdC) (bC : Binds K fdC ["self", "hour"] []) (mC : Meth K CL "check_hour" fC)
    (FK : Fun K "known" "known" sKnown fK fdK) (bK : Binds K fdK ["versions", "hour"] []) (mK : mg "known" = some (.ref fK))
    (FO : Fun K "contents_at" "Ledger.contents_at" mCA fO fdO) (bO : Binds K fdO ["self", "hour"] []) (mO : Meth K CL "contents_at" fO)
    (FE : Fun K "effect" "effect" sEff fE fdE) (bE : Binds K fdE ["content", "account", "day"] []) (mE : mg "effect" = some (.ref fE))
    (FF : Fun K "content_of" "content_of" sCof fF fdF) (bF : Binds K fdF ["contents", "number"] []) (mF : mg "content_of" = some (.ref fF))
    (FN : Fun K "news_of" "news_of" sNews fN fdN) (bN : Binds K fdN ["contents", "later", "account", "day"] []) (mN : mg "news_of" = some (.ref fN)) : FnOk P w K mg base (CXR P w) 5 f fd ["self", "account", "day", "hour", "later"] (spNewM K CL R) := by
  have GC : FnOk P w K mg base (CXR P w) 4 fC fdC ["self", "hour"] (spHour K CL R) := ok_hour FC L XA
  have GO : FnOk P w K mg base CX0 2 fO fdO ["self", "hour"] (spCon CL) := ok_con FO L FK bK mK
  have GN : FnOk P w K mg base CX0 2 fN fdN ["contents", "later", "account", "day"] (spNews K) := ok_news FN B0 C M FE bE mE FF bF mF
  refine F.okR scNewM (fun vs H Q E h => ?_) (fun cdv A outer s H vs Q E hr h => ?_)
  · obtain ⟨a, hl, vis, B, n, d, h, l, rfl, _⟩ := h
    rfl
  · obtain ⟨a, hl, vis, B, n, d, h, l, rfl, hB, ok, h62, k⟩ := h
    obtain ⟨dx, hI⟩ := hB.ins
    have hr2 : Room 2 _ := hr.mono (by decide)
    refine ⟨_, pss_cons (ps_expr (pe_meth (pv 0) L.cl mC GC hr bC .nil passR (pa1 (pv 3))))
      (pss_cons (ps_expr (pe_meth (pv 0) L.cl mC GC hr bC .nil passR (pa1 (pv 4))))
      (pss_one (ps_ret (pcall GN hr2 (by rfl) mN FN.kp bN .nil pass0 (pa4 (pe_meth (pv 0) L.cl mO GO hr2 bO .nil pass0 (pa1 (pv 3))) (pe_meth (pv 0) L.cl mO GO hr2 bO .nil pass0 (pa1 (pv 4))) (pv 1) (pv 2)))))), ?_⟩
    have k0 : RfsOr K R (noHour B h) H E (RfsOr K R (noHour B l) H E _) := RfsOr.fst k
    refine ⟨_, rfl, a, dx, _, rfl, hI, rfl, _, rfl, a, hl, vis, B, h, rfl, hB, RfsOr.imp k0 (Same.refl _) fun k1 => ?_⟩
    refine ⟨_, rfl, a, dx, _, rfl, hI, rfl, _, rfl, a, hl, vis, B, l, rfl, hB, RfsOr.imp k1 (Same.refl _) fun k2 => ?_⟩
    refine ⟨_, rfl, a, dx, _, rfl, hI, rfl, _, rfl, a, hl, vis, B, h, rfl, hB, ok, h62, fun D zs H1 s1 hD hD1 hc => ?_⟩
    refine ⟨_, rfl, a, dx, _, rfl, s1 _ _ hI, rfl, _, rfl, a, hl, vis, B, l, rfl, hB.same s1, ok, h62, fun D2 ys H2 s2 hD2 hD22 hd => ?_⟩
    have l1 := at64 ok h62 h
    have l2 := at64 ok h62 l
    refine ⟨_, rfl, _, rfl, D, D2, zs, ys, B.at h, B.at l, n, d, rfl, SqL.of (s2 _ _ hD1), hc.same s2, SqL.of hD22, hd, by omega, by omega, ok.at h, ok.at l, fun D3 us H3 s3 hDn hD3 hR => ?_⟩
    have hB3 := hB.same ((s1.trans s2).trans s3)
    exact k2 D3 _ H3 ((s1.trans s2).trans s3) rfl ((hB3.hideR hR).deep (hB.hideN ((s1.trans s2).free hDn) hD3) (newsTo_scalar _ _ _ _ _))
end
end Tt
namespace Tt
open PySem L2
def spCarry (K : PySem.W.Frag) (CL R : Addr) : Sp := fun vs H Q E => ∃ (a hl p : Addr) (vis : List Addr) (B : Book) (d : Deed), vs = [.ref a, .ref p] ∧ Bk CL H B a hl vis ∧ BkOk B ∧ B.hour ≤ 62 ∧ H p = some (.tup d.row) ∧
  RfsOr K R (barP B d) H E (∀ v pv H' vis', AnsP B d pv → Deep (hideB H' a hl vis') pv v → Bk CL H' (nextP B d) a hl vis' → SameX a hl vis H H' → NewX vis vis' H → Q v H')
def spAnswer (CL : Addr) : Sp := fun vs H Q _ => ∃ (a hl p : Addr) (vis : List Addr) (B : Book) (d : Deed), vs = [.ref a, .ref p] ∧ Bk CL H B a hl vis ∧ BkOk B ∧ B.hour ≤ 62 ∧ H p = some (.tup d.row) ∧
  ∀ v pv H' vis', StepA B d pv → Deep (hideB H' a hl vis') pv v → Bk CL H' (stepB B d) a hl vis' → SameX a hl vis H H' → NewX vis vis' H → Q v H'
structure LM (P : Program) (w : World) (K : PySem.W.Frag) (mg : Str → Option Value) (base : Heap) (CL R : Addr) : Prop where
  mv : ∃ f fd, FnOk P w K mg base (CXR P w) 5 f fd ["self", "day", "one", "other", "amount"] (spMove K CL R) ∧ Binds K fd ["self", "day", "one", "other", "amount"] [] ∧ Meth K CL "move" f
  pr : ∃ f fd, FnOk P w K mg base (CXR P w) 5 f fd ["self", "number", "day", "one", "other", "amount"] (spRight K CL R) ∧ Binds K fd ["self", "number", "day", "one", "other", "amount"] [] ∧ Meth K CL "put_right" f
  sk : ∃ f fd, FnOk P w K mg base (CXR P w) 5 f fd ["self", "number"] (spStrike K CL R) ∧ Binds K fd ["self", "number"] [] ∧ Meth K CL "strike" f
  cd : ∃ f fd, FnOk P w K mg base (CXR P w) 5 f fd ["self", "day"] (spClose K CL R) ∧ Binds K fd ["self", "day"] [] ∧ Meth K CL "close_days" f
  ba : ∃ f fd, FnOk P w K mg base (CXR P w) 5 f fd ["self", "account", "day", "hour"] (spBalM K CL R) ∧ Binds K fd ["self", "account", "day", "hour"] [] ∧ Meth K CL "balance" f
  sh : ∃ f fd, FnOk P w K mg base (CXR P w) 5 f fd ["self", "account", "first", "last", "hour"] (spSheM K CL R) ∧ Binds K fd ["self", "account", "first", "last", "hour"] [] ∧ Meth K CL "sheet" f
  nw : ∃ f fd, FnOk P w K mg base (CXR P w) 5 f fd ["self", "account", "day", "hour", "later"] (spNewM K CL R) ∧ Binds K fd ["self", "account", "day", "hour", "later"] [] ∧ Meth K CL "news" f
section
variable {P : Program} {w : World} {K : PySem.W.Frag} {mg : Str → Option Value} {base : Heap} {CL R : Addr}
theorem scCarry : FnScope ["ledger", "deed", "name"] ["ledger", "deed"] (defScope sCarry) := ⟨rfl, rfl, rfl, by decide +kernel, rfl, by decide +kernel, by decide +kernel⟩
theorem ifN {x y : Str} {A B : Prop} (h : x ≠ y) (q : B) : if decide (V.str x = V.str y) = true then A else B := by
  rw [decide_eq_false (fun z => h (by injection z)), if_neg Bool.false_ne_true]
  exact q
theorem ifY {x : Str} {A B : Prop} (q : A) : if decide (V.str x = V.str x) = true then A else B := by
  rw [decide_eq_true rfl, if_pos rfl]
  exact q
theorem ok_carry {f : Addr} {fd : FuncData} (F : Fun K "carry_out" "carry_out" sCarry f fd) (L : LCls K CL) (G : LM P w K mg base CL R) : FnOk P w K mg base (CXR P w) 6 f fd ["ledger", "deed"] (spCarry K CL R) := by
  obtain ⟨f1, d1, G1, b1, m1⟩ := G.mv
  obtain ⟨f2, d2, G2, b2, m2⟩ := G.pr
  obtain ⟨f3, d3, G3, b3, m3⟩ := G.sk
  obtain ⟨f4, d4, G4, b4, m4⟩ := G.cd
  obtain ⟨f5, d5, G5, b5, m5⟩ := G.ba
  obtain ⟨f6, d6, G6, b6, m6⟩ := G.sh
  obtain ⟨f7, d7, G7, b7, m7⟩ := G.nw
  refine F.okR scCarry (fun vs H Q E h => ?_) (fun cdv A outer s H vs Q E hr h => ?_)
  · obtain ⟨a, hl, p, vis, B, d, rfl, _⟩ := h
    rfl
  · obtain ⟨a, hl, p, vis, B, d, rfl, hB, ok, h62, hp, k⟩ := h
    obtain ⟨dx, hI⟩ := hB.ins
    have nd := scCarry.nd
    refine ⟨_, pss_cons (ps_set (i := 2) nd rfl (Or.inl rfl) (pe_ix ix_tup (pv 1) pe_int (fun _ _ => rfl)))
      (pss_cons (ps_if (pt_cmpR op_eq (pv 2) pe_str (nomark _)) (pss_one (ps_ret (pe_meth (pv 0) L.cl m1 G1 hr b1 .nil passR (pa4 (pe_ix ix_tup (pv 1) pe_int (fun _ _ => rfl)) (pe_ix ix_tup (pv 1) pe_int (fun _ _ => rfl)) (pe_ix ix_tup (pv 1) pe_int (fun _ _ => rfl)) (pe_ix ix_tup (pv 1) pe_int (fun _ _ => rfl)))))) pss_nil)
      (pss_cons (ps_if (pt_cmpR op_eq (pv 2) pe_str (nomark _)) (pss_one (ps_ret (pe_meth (pv 0) L.cl m2 G2 hr b2 .nil passR (pa5 (pe_ix ix_tup (pv 1) pe_int (fun _ _ => rfl)) (pe_ix ix_tup (pv 1) pe_int (fun _ _ => rfl)) (pe_ix ix_tup (pv 1) pe_int (fun _ _ => rfl)) (pe_ix ix_tup (pv 1) pe_int (fun _ _ => rfl)) (pe_ix ix_tup (pv 1) pe_int (fun _ _ => rfl)))))) pss_nil)
      (pss_cons (ps_if (pt_cmpR op_eq (pv 2) pe_str (nomark _)) (pss_one (ps_ret (pe_meth (pv 0) L.cl m3 G3 hr b3 .nil passR (pa1 (pe_ix ix_tup (pv 1) pe_int (fun _ _ => rfl)))))) pss_nil)
      (pss_cons (ps_if (pt_cmpR op_eq (pv 2) pe_str (nomark _)) (pss_one (ps_ret (pe_meth (pv 0) L.cl m4 G4 hr b4 .nil passR (pa1 (pe_ix ix_tup (pv 1) pe_int (fun _ _ => rfl)))))) pss_nil)
      (pss_cons (ps_if (pt_cmpR op_eq (pv 2) pe_str (nomark _)) (pss_one (ps_ret (pe_meth (pv 0) L.cl m5 G5 hr b5 .nil passR (pa3 (pe_ix ix_tup (pv 1) pe_int (fun _ _ => rfl)) (pe_ix ix_tup (pv 1) pe_int (fun _ _ => rfl)) (pe_ix ix_tup (pv 1) pe_int (fun _ _ => rfl)))))) pss_nil)
      (pss_cons (ps_if (pt_cmpR op_eq (pv 2) pe_str (nomark _)) (pss_one (ps_ret (pe_meth (pv 0) L.cl m6 G6 hr b6 .nil passR (pa4 (pe_ix ix_tup (pv 1) pe_int (fun _ _ => rfl)) (pe_ix ix_tup (pv 1) pe_int (fun _ _ => rfl)) (pe_ix ix_tup (pv 1) pe_int (fun _ _ => rfl)) (pe_ix ix_tup (pv 1) pe_int (fun _ _ => rfl)))))) pss_nil)
      (pss_one (ps_ret (pe_meth (pv 0) L.cl m7 G7 hr b7 .nil passR (pa4 (pe_ix ix_tup (pv 1) pe_int (fun _ _ => rfl)) (pe_ix ix_tup (pv 1) pe_int (fun _ _ => rfl)) (pe_ix ix_tup (pv 1) pe_int (fun _ _ => rfl)) (pe_ix ix_tup (pv 1) pe_int (fun _ _ => rfl)))))))))))), ?_⟩
    have T : SqT K H p d.row := SqT.of hp
    cases d with
    | move c =>
      obtain ⟨d, o, t, am⟩ := c
      refine ⟨_, rfl, p, _, 0, .str "move", rfl, rfl, T, rfl, ?_⟩
      refine ⟨_, rfl, rfl, _, rfl, ifY ?_⟩
      refine ⟨_, rfl, a, dx, _, rfl, hI, rfl, _, rfl, p, _, 1, _, rfl, rfl, T, rfl, _, rfl, p, _, 2, _, rfl, rfl, T, rfl, _, rfl, p, _, 3, _, rfl, rfl, T, rfl, _, rfl, p, _, 4, _, rfl, rfl, T, rfl, a, hl, vis, B, d, o, t, am, rfl, hB, ok, h62, RfsOr.imp k (Same.refl _) fun k1 H' vis' hB' x' n' => ?_⟩
      exact k1 _ _ H' vis' rfl (.int _) hB' x' n'
    | right n c =>
      obtain ⟨d, o, t, am⟩ := c
      refine ⟨_, rfl, p, _, 0, .str "right", rfl, rfl, T, rfl, ?_⟩
      refine ⟨_, rfl, rfl, _, rfl, ifN (by decide +kernel) ?_⟩
      refine ⟨_, rfl, rfl, _, rfl, ifY ?_⟩
      refine ⟨_, rfl, a, dx, _, rfl, hI, rfl, _, rfl, p, _, 1, _, rfl, rfl, T, rfl, _, rfl, p, _, 2, _, rfl, rfl, T, rfl, _, rfl, p, _, 3, _, rfl, rfl, T, rfl, _, rfl, p, _, 4, _, rfl, rfl, T, rfl, _, rfl, p, _, 5, _, rfl, rfl, T, rfl, a, hl, vis, B, n, d, o, t, am, rfl, hB, ok, h62, RfsOr.imp k (Same.refl _) fun k1 H' vis' hB' x' n' => ?_⟩
      exact k1 _ _ H' vis' rfl (.int _) hB' x' n'
    | strike n =>
      refine ⟨_, rfl, p, _, 0, .str "strike", rfl, rfl, T, rfl, ?_⟩
      refine ⟨_, rfl, rfl, _, rfl, ifN (by decide +kernel) ?_⟩
      refine ⟨_, rfl, rfl, _, rfl, ifN (by decide +kernel) ?_⟩
      refine ⟨_, rfl, rfl, _, rfl, ifY ?_⟩
      refine ⟨_, rfl, a, dx, _, rfl, hI, rfl, _, rfl, p, _, 1, _, rfl, rfl, T, rfl, a, hl, vis, B, n, rfl, hB, ok, h62, RfsOr.imp k (Same.refl _) fun k1 H' vis' hB' x' n' => ?_⟩
      exact k1 _ _ H' vis' rfl (.int _) hB' x' n'
    | close d =>
      refine ⟨_, rfl, p, _, 0, .str "close", rfl, rfl, T, rfl, ?_⟩
      refine ⟨_, rfl, rfl, _, rfl, ifN (by decide +kernel) ?_⟩
      refine ⟨_, rfl, rfl, _, rfl, ifN (by decide +kernel) ?_⟩
      refine ⟨_, rfl, rfl, _, rfl, ifN (by decide +kernel) ?_⟩
      refine ⟨_, rfl, rfl, _, rfl, ifY ?_⟩
      refine ⟨_, rfl, a, dx, _, rfl, hI, rfl, _, rfl, p, _, 1, _, rfl, rfl, T, rfl, a, hl, vis, B, d, rfl, hB, RfsOr.imp k (Same.refl _) fun k1 H' vis' hB' x' n' => ?_⟩
      exact k1 _ _ H' vis' rfl (.int _) hB' x' n'
    | bal n d h =>
      refine ⟨_, rfl, p, _, 0, .str "balance", rfl, rfl, T, rfl, ?_⟩
      refine ⟨_, rfl, rfl, _, rfl, ifN (by decide +kernel) ?_⟩
      refine ⟨_, rfl, rfl, _, rfl, ifN (by decide +kernel) ?_⟩
      refine ⟨_, rfl, rfl, _, rfl, ifN (by decide +kernel) ?_⟩
      refine ⟨_, rfl, rfl, _, rfl, ifN (by decide +kernel) ?_⟩
      refine ⟨_, rfl, rfl, _, rfl, ifY ?_⟩
      refine ⟨_, rfl, a, dx, _, rfl, hI, rfl, _, rfl, p, _, 1, _, rfl, rfl, T, rfl, _, rfl, p, _, 2, _, rfl, rfl, T, rfl, _, rfl, p, _, 3, _, rfl, rfl, T, rfl, a, hl, vis, B, n, d, h, rfl, hB, ok, h62, RfsOr.imp k (Same.refl _) fun k1 H' s' => ?_⟩
      exact k1 _ _ H' vis rfl (.int _) (hB.same s') (SameX.of s') (NewX.refl _ _)
    | sheet n fi la h =>
      refine ⟨_, rfl, p, _, 0, .str "sheet", rfl, rfl, T, rfl, ?_⟩
      refine ⟨_, rfl, rfl, _, rfl, ifN (by decide +kernel) ?_⟩
      refine ⟨_, rfl, rfl, _, rfl, ifN (by decide +kernel) ?_⟩
      refine ⟨_, rfl, rfl, _, rfl, ifN (by decide +kernel) ?_⟩
      refine ⟨_, rfl, rfl, _, rfl, ifN (by decide +kernel) ?_⟩
      refine ⟨_, rfl, rfl, _, rfl, ifN (by decide +kernel) ?_⟩
      refine ⟨_, rfl, rfl, _, rfl, ifY ?_⟩
      refine ⟨_, rfl, a, dx, _, rfl, hI, rfl, _, rfl, p, _, 1, _, rfl, rfl, T, rfl, _, rfl, p, _, 2, _, rfl, rfl, T, rfl, _, rfl, p, _, 3, _, rfl, rfl, T, rfl, _, rfl, p, _, 4, _, rfl, rfl, T, rfl, a, hl, vis, B, n, fi, la, h, rfl, hB, ok, h62, RfsOr.imp k (Same.refl _) fun k1 q pv H' s' ha hd => ?_⟩
      exact k1 _ pv H' vis ha hd (hB.same s') (SameX.of s') (NewX.refl _ _)
    | news n d h l =>
      refine ⟨_, rfl, p, _, 0, .str "news", rfl, rfl, T, rfl, ?_⟩
      refine ⟨_, rfl, rfl, _, rfl, ifN (by decide +kernel) ?_⟩
      refine ⟨_, rfl, rfl, _, rfl, ifN (by decide +kernel) ?_⟩
      refine ⟨_, rfl, rfl, _, rfl, ifN (by decide +kernel) ?_⟩
      refine ⟨_, rfl, rfl, _, rfl, ifN (by decide +kernel) ?_⟩
      refine ⟨_, rfl, rfl, _, rfl, ifN (by decide +kernel) ?_⟩
      refine ⟨_, rfl, rfl, _, rfl, ifN (by decide +kernel) ?_⟩
      refine ⟨_, rfl, a, dx, _, rfl, hI, rfl, _, rfl, p, _, 1, _, rfl, rfl, T, rfl, _, rfl, p, _, 2, _, rfl, rfl, T, rfl, _, rfl, p, _, 3, _, rfl, rfl, T, rfl, _, rfl, p, _, 4, _, rfl, rfl, T, rfl, a, hl, vis, B, n, d, h, l, rfl, hB, ok, h62, RfsOr.imp k (Same.refl _) fun k1 q pv H' s' ha hd => ?_⟩
      exact k1 _ pv H' vis ha hd (hB.same s') (SameX.of s') (NewX.refl _ _)
theorem scAnswer : FnScope ["ledger", "deed", "refusal"] ["ledger", "deed"] (defScope sAnswer) := ⟨rfl, rfl, rfl, by decide +kernel, rfl, by decide +kernel, by decide +kernel⟩
theorem ok_answer {f fC : Addr} {fd fdC : FuncData} (F : Fun K "answer" "answer" sAnswer f fd) (L : LCls K CL) (G : LM P w K mg base CL R) (X : TopX mg R) (YR : XCls K R R)
    (FC : Fun K "carry_out" "carry_out" sCarry fC fdC) (bC : Binds K fdC ["ledger", "deed"] []) (mC : mg "carry_out" = some (.ref fC)) : FnOk P w K mg base CX0 7 f fd ["ledger", "deed"] (spAnswer CL) := by
  have GC : FnOk P w K mg base (CXR P w) 6 fC fdC ["ledger", "deed"] (spCarry K CL R) := ok_carry FC L G
  refine F.ok scAnswer (fun vs H Q E h => ?_) (fun cdv A outer s H vs Q E hr h => ?_)
  · obtain ⟨a, hl, p, vis, B, d, rfl, _⟩ := h
    rfl
  · obtain ⟨a, hl, p, vis, B, d, rfl, hB, ok, h62, hp, k⟩ := h
    have nd := scAnswer.nd
    refine ⟨_, pss_one (ps_tryWords (R := R) (i := 2) rfl rfl rfl (fun pn xe E hx => pcall GC hr (by rfl) mC FC.kp bC .nil hx (pa2 (pv 0) (pv 1))) (by rfl) X.ref YR nd rfl rfl), ?_⟩
    refine ⟨_, rfl, _, rfl, a, hl, p, vis, B, d, rfl, hB, ok, h62, hp, ?_⟩
    cases hb : barP B d with
    | none =>
      refine fun v pv H' vis' ha hd hB' x' n' => k v pv H' vis' ?_ hd ?_ x' n'
      · unfold StepA; rw [hb]; exact ha
      · unfold stepB; rw [hb]; exact hB'
    | some t =>
      refine fun C dx H' YC s' _ hxd => ⟨C, dx, t, rfl, rfl, YC, hxd, k _ (.str t) H' vis ?_ (.str t) ?_ (SameX.of s') (NewX.refl _ _)⟩
      · unfold StepA; rw [hb]
      · unfold stepB; rw [hb]; exact hB.same s'
end
end Tt
namespace Tt
open PySem L2
def runB (B : Book) (ds : List Deed) : Book := ds.foldl stepB B
theorem run_snoc (B : Book) (ds : List Deed) (d : Deed) : runB B (ds ++ [d]) = stepB (runB B ds) d := by unfold runB; rw [List.foldl_append]; rfl
structure RunA (ds : List Deed) (ps : List PV) : Prop where
  len : ps.length = ds.length
  at' : ∀ (i : Nat) (d : Deed) (p : PV), ds[i]? = some d → ps[i]? = some p → StepA (runB book0 (ds.take i)) d p
theorem run_ok (ds : List Deed) : BkOk (runB book0 ds) ∧ (runB book0 ds).hour ≤ ds.length := by
  suffices h : ∀ (ds : List Deed) (B : Book), BkOk B → BkOk (runB B ds) ∧ (runB B ds).hour ≤ B.hour + ds.length by
    have := h ds book0 bk0
    refine ⟨this.1, ?_⟩
    have h2 := this.2
    have e : book0.hour = 0 := rfl
    omega
  intro ds
  induction ds with
  | nil => exact fun B h => ⟨h, by show B.hour ≤ B.hour + ((0 : Nat) : Int); omega⟩
  | cons d ds ih =>
    intro B h
    obtain ⟨h1, h2⟩ := ih (stepB B d) (h.step d)
    refine ⟨h1, ?_⟩
    have := hour_step B d
    have h2 : (runB B (d :: ds)).hour ≤ (stepB B d).hour + ds.length := h2
    rw [List.length_cons]
    show _ ≤ B.hour + ((ds.length + 1 : Nat) : Int)
    omega
structure DeepsV (H : Hp) (ys : List V) (ps : List PV) : Prop where
  len : ys.length = ps.length
  at' : ∀ (i : Nat) (p : PV) (y : V), ps[i]? = some p → ys[i]? = some y → Deep H p y
structure LedgerOk (P : Program) (w : World) (K : PySem.W.Frag) (mg : Str → Option Value) (base : Heap) (CL : Addr) : Prop where
  mkl : ∃ fI fdI, Mk K CL fI ∧ FnOk P w K mg base CX0 1 fI fdI ["self"] (spInit CL) ∧ Binds K fdI ["self"] [] ∧ mg "Ledger" = some (.ref CL)
  an : ∃ fA fdA, FnOk P w K mg base CX0 7 fA fdA ["ledger", "deed"] (spAnswer CL) ∧ Binds K fdA ["ledger", "deed"] [] ∧ mg "answer" = some (.ref fA) ∧ PySem.W.keepIn K (.ref fA) = true
structure LI (CL : Addr) (H H2 : Hp) (a hl : Addr) (vis : List Addr) (ds : List Deed) : Prop where
  bk : Bk CL H2 (runB book0 ds) a hl vis
  same : Same H (hideB H2 a hl vis)
theorem LI.step {CL : Addr} {H H2 H3 : Hp} {a hl : Addr} {vis vis' : List Addr} {ds : List Deed} {d : Deed} (h : LI CL H H2 a hl vis ds) (hB : Bk CL H3 (stepB (runB book0 ds) d) a hl vis') (x : SameX a hl vis H2 H3) (n : NewX vis vis' H2) : LI CL H H3 a hl vis' (ds ++ [d]) :=
  ⟨by rw [run_snoc]; exact hB, h.same.trans (hide_step x n)⟩
theorem LI.start {CL : Addr} {H H1 : Hp} {a hl dx : Addr} (ha : H a = none) (hdx : H dx = none) (hB : Bk CL H1 book0 a hl []) (hk : ∀ b o, upd (upd H dx (.own a)) a (.ins CL dx []) b = some o → b ≠ a → H1 b = some o) (hhl : upd (upd H dx (.own a)) a (.ins CL dx []) hl = none) : LI CL H H1 a hl [] [] := by
  refine ⟨hB, fun b o q => ?_⟩
  have nb : b ≠ a := ne_of_none q ha
  have nd : b ≠ dx := ne_of_none q hdx
  have e : upd (upd H dx (.own a)) a (.ins CL dx []) b = some o := by rw [upd_ne nb, upd_ne nd]; exact q
  rw [hide_eq nb (fun z => ?_) (by simp)]
  · exact hk b o e nb
  · rw [← z, e] at hhl; cases hhl
end Tt
namespace Tt
open PySem L2
def Deed.chg : Deed → Bool
  | .move _ => true
  | .right _ _ => true
  | .strike _ => true
  | .close _ => true
  | _ => false
theorem known_cut {acc : Option Ct} {vs : List (Int × Option Ct)} {t h : Int} {c : Option Ct} (ht : h < t) : knownFrom acc (vs ++ [(t, c)]) h = knownFrom acc vs h := by
  induction vs generalizing acc with
  | nil => exact known_gt ht
  | cons x r ih =>
    obtain ⟨t', c'⟩ := x
    by_cases q : h < t'
    · rw [List.cons_append, known_gt q, known_gt q]
    · cases c' with
      | none => rw [List.cons_append, known_none q, known_none q]
      | some c' => rw [List.cons_append, known_some q, known_some q]; exact ih
theorem known_later {acc : Option Ct} {vs : List (Int × Option Ct)} {h h' : Int} (hv : ∀ x ∈ vs, x.1 ≤ h) (hh : h ≤ h') : knownFrom acc vs h' = knownFrom acc vs h := by
  induction vs generalizing acc with
  | nil => rfl
  | cons x r ih =>
    obtain ⟨t', c'⟩ := x
    have h1 : t' ≤ h := hv (t', c') List.mem_cons_self
    cases c' with
    | none => rw [known_none (by omega), known_none (by omega)]
    | some c' => rw [known_some (by omega), known_some (by omega)]; exact ih fun y hy => hv y (List.mem_cons_of_mem _ hy)
theorem known_told {acc c : Option Ct} {vs : List (Int × Option Ct)} {h : Int} {st : Ct} (hv : ∀ x ∈ vs, x.1 ≤ h) (hs : knownFrom acc vs h = some st) : knownFrom acc (vs ++ [(h + 1, c)]) (h + 1) = c := by
  induction vs generalizing acc with
  | nil =>
    cases c with
    | none => exact known_none (by omega)
    | some c => exact known_some (by omega)
  | cons x r ih =>
    obtain ⟨t', c'⟩ := x
    have h1 : t' ≤ h := hv (t', c') List.mem_cons_self
    cases c' with
    | none => rw [known_none (by omega)] at hs; cases hs
    | some c' =>
      rw [known_some (by omega)] at hs
      rw [List.cons_append, known_some (by omega)]
      exact ih (fun y hy => hv y (List.mem_cons_of_mem _ hy)) hs
def BkT (B : Book) : Prop := ∀ vs ∈ B.vers, ∀ x ∈ vs, x.1 ≤ B.hour
def nextC (cs : List (Option Ct)) : Deed → List (Option Ct)
  | .move c => cs ++ [some c]
  | .right n c => cs.set n.toNat (some c)
  | .strike n => cs.set n.toNat none
  | _ => cs
theorem bat_len (B : Book) (h : Int) : (B.at h).length = B.vers.length := List.length_map ..
theorem BkT.mono {vers : List (List (Int × Option Ct))} {h : Int} (ht : ∀ vs ∈ vers, ∀ x ∈ vs, x.1 ≤ h) {i : Nat} {c : Option Ct} : ∀ vs ∈ vers.set i (vers.getD i [] ++ [(h + 1, c)]), ∀ x ∈ vs, x.1 ≤ h + 1 := fun vs hvs x hx => by
  rcases List.mem_or_eq_of_mem_set hvs with z | z
  · have := ht vs z x hx; omega
  · subst z
    rcases List.mem_append.mp hx with y | y
    · obtain ⟨vs, h1, h2⟩ := getD_mem y
      have := ht vs h1 x h2; omega
    · obtain rfl : x = _ := by simpa using y
      exact Int.le_refl _
theorem BkT.next {B : Book} {d : Deed} (ht : BkT B) : BkT (nextP B d) := by
  cases d with
  | move c =>
    intro vs hvs x hx
    show x.1 ≤ B.hour + 1
    rcases List.mem_append.mp hvs with z | z
    · have := ht vs z x hx; omega
    · obtain rfl : vs = _ := by simpa using z
      obtain rfl : x = _ := by simpa using hx
      exact Int.le_refl _
  | right n c => exact BkT.mono ht
  | strike n => exact BkT.mono ht
  | close d => exact fun vs hvs x hx => by have := ht vs hvs x hx; show x.1 ≤ B.hour + 1; omega
  | bal a d h => exact ht
  | sheet a f l h => exact ht
  | news a d h l => exact ht
theorem map_known_later {B : Book} (ht : BkT B) : (B.vers.map fun vs => knownI vs (B.hour + 1)) = B.at B.hour := List.map_congr_left fun vs hvs => known_later (ht vs hvs) (by omega)
theorem put_at {B : Book} {i : Nat} {c : Option Ct} (hi : i < B.vers.length) {h : Int} (hh : h ≤ B.hour) : (Book.at ⟨B.hour + 1, B.vers.set i (B.vers.getD i [] ++ [(B.hour + 1, c)]), B.closed⟩ h) = B.at h := by
  show (B.vers.set i _).map (fun vs => knownI vs h) = _
  rw [List.map_set]
  show (B.at h).set i (knownI (B.vers.getD i [] ++ [(B.hour + 1, c)]) h) = B.at h
  have e : knownI (B.vers.getD i [] ++ [(B.hour + 1, c)]) h = (B.at h)[i]'(by rw [bat_len]; exact hi) := by
    unfold knownI
    rw [known_cut (by omega)]
    unfold Book.at
    rw [List.getElem_map, List.getD_eq_getElem?_getD, List.getElem?_eq_getElem hi]
    rfl
  rw [e, List.set_getElem_self]
theorem put_now {B : Book} (ht : BkT B) {i : Nat} {c : Option Ct} {st : Ct} (hi : i < B.vers.length) (hs : knownI (B.vers.getD i []) B.hour = some st) : (Book.at ⟨B.hour + 1, B.vers.set i (B.vers.getD i [] ++ [(B.hour + 1, c)]), B.closed⟩ (B.hour + 1)) = (B.at B.hour).set i c := by
  show (B.vers.set i _).map (fun vs => knownI vs (B.hour + 1)) = _
  rw [List.map_set, map_known_later ht]
  have : knownI (B.vers.getD i [] ++ [(B.hour + 1, c)]) (B.hour + 1) = c := known_told (fun x hx => by obtain ⟨vs, h1, h2⟩ := getD_mem hx; exact ht vs h1 x h2) hs
  rw [this]
theorem stand_of {B : Book} {d : Deed} (h : barP B d = none) : (∀ n c, d = .right n c → hasP B n = true ∧ ∃ st, standI B n = some st) ∧ ∀ n, d = .strike n → hasP B n = true ∧ ∃ st, standI B n = some st := by
  refine ⟨fun n c e => ?_, fun n e => ?_⟩
  · subst e
    have h : (if hasP B n = true then (match standI B n with
      | none => some tStr
      | some st => ((sides c).or (free B st.1)).or (free B c.1)) else some tNo) = none := h
    by_cases h1 : hasP B n = true
    · rw [if_pos h1] at h
      cases h2 : standI B n with
      | none => rw [h2] at h; cases h
      | some st => exact ⟨h1, st, rfl⟩
    · rw [if_neg h1] at h; cases h
  · subst e
    have h : (if hasP B n = true then (match standI B n with
      | none => some tStr
      | some st => free B st.1) else some tNo) = none := h
    by_cases h1 : hasP B n = true
    · rw [if_pos h1] at h
      cases h2 : standI B n with
      | none => rw [h2] at h; cases h
      | some st => exact ⟨h1, st, rfl⟩
    · rw [if_neg h1] at h; cases h
theorem has_lt {B : Book} {n : Int} (h : hasP B n = true) : 0 ≤ n ∧ n.toNat < B.vers.length := by
  unfold hasP at h
  simp only [Bool.and_eq_true, decide_eq_true_eq] at h
  omega
theorem next_hour {B : Book} {d : Deed} (hd : d.chg = true) : (nextP B d).hour = B.hour + 1 := by
  cases d <;> first | rfl | cases hd
theorem next_now {B : Book} {d : Deed} (ht : BkT B) (h : barP B d = none) (hd : d.chg = true) : (nextP B d).at (B.hour + 1) = nextC (B.at B.hour) d := by
  cases d with
  | move c =>
    show (B.vers ++ [[(B.hour + 1, some c)]]).map (fun vs => knownI vs (B.hour + 1)) = B.at B.hour ++ [some c]
    rw [List.map_append, map_known_later ht]
    congr 1
    show [knownI [(B.hour + 1, some c)] (B.hour + 1)] = _
    rw [show knownI [(B.hour + 1, some c)] (B.hour + 1) = some c from known_some (by omega)]
  | right n c =>
    obtain ⟨h1, st, h2⟩ := (stand_of h).1 n c rfl
    exact put_now ht (has_lt h1).2 h2
  | strike n =>
    obtain ⟨h1, st, h2⟩ := (stand_of h).2 n rfl
    exact put_now ht (has_lt h1).2 h2
  | close d => exact map_known_later ht
  | _ => cases hd
theorem next_at {B : Book} {d : Deed} (h : barP B d = none) {t : Int} (hh : t ≤ B.hour) : ∃ k, (nextP B d).at t = B.at t ++ List.replicate k none := by
  cases d with
  | move c =>
    refine ⟨1, ?_⟩
    show (B.vers ++ [[(B.hour + 1, some c)]]).map (fun vs => knownI vs t) = _
    rw [List.map_append]
    congr 1
    show [knownI [(B.hour + 1, some c)] t] = _
    rw [show knownI [(B.hour + 1, some c)] t = none from known_gt (by omega)]
    rfl
  | right n c =>
    obtain ⟨h1, st, h2⟩ := (stand_of h).1 n c rfl
    exact ⟨0, by rw [List.replicate_zero, List.append_nil]; exact put_at (has_lt h1).2 hh⟩
  | strike n =>
    obtain ⟨h1, st, h2⟩ := (stand_of h).2 n rfl
    exact ⟨0, by rw [List.replicate_zero, List.append_nil]; exact put_at (has_lt h1).2 hh⟩
  | close d => exact ⟨0, by rw [List.replicate_zero, List.append_nil]; rfl⟩
  | bal a d h => exact ⟨0, by rw [List.replicate_zero, List.append_nil]; rfl⟩
  | sheet a f l h => exact ⟨0, by rw [List.replicate_zero, List.append_nil]; rfl⟩
  | news a d h l => exact ⟨0, by rw [List.replicate_zero, List.append_nil]; rfl⟩
structure Snap (B : Book) (css : List (List (Option Ct))) : Prop where
  len : (css.length : Int) = B.hour + 1
  at' : ∀ (h : Nat) (cs : List (Option Ct)), css[h]? = some cs → ∃ k, B.at h = cs ++ List.replicate k none
  last : css[B.hour.toNat]? = some (B.at B.hour)
  ts : BkT B
theorem snap0 : Snap book0 [[]] := ⟨rfl, fun h cs e => ⟨0, by
  match h, e with
  | 0, e => cases e; rfl⟩, rfl, fun vs h => by (cases h)⟩
theorem Snap.next {B : Book} {css : List (List (Option Ct))} (S : Snap B css) (ok : 0 ≤ B.hour) {d : Deed} (h : barP B d = none) (hd : d.chg = true) : Snap (nextP B d) (css ++ [nextC (B.at B.hour) d]) := by
  have hl := S.len
  refine ⟨?_, fun t cs e => ?_, ?_, S.ts.next⟩
  · rw [List.length_append, next_hour hd]
    show ((css.length + 1 : Nat) : Int) = _
    omega
  · by_cases ht : t < css.length
    · rw [List.getElem?_append_left ht] at e
      obtain ⟨k, ek⟩ := S.at' t cs e
      obtain ⟨j, ej⟩ := next_at (B := B) h (t := (t : Int)) (by omega)
      refine ⟨k + j, ?_⟩
      rw [ej, ek, List.append_assoc, List.replicate_append_replicate]
    · have h1 := (List.getElem?_eq_some_iff.mp e).1
      rw [List.length_append] at h1
      have e1 : t = css.length := by simp at h1; omega
      subst e1
      rw [List.getElem?_append_right (Nat.le_refl _), Nat.sub_self] at e
      cases e
      refine ⟨0, ?_⟩
      rw [List.replicate_zero, List.append_nil, hl]
      exact next_now S.ts h hd
  · rw [next_hour hd, next_now S.ts h hd]
    have : (B.hour + 1).toNat = css.length := by omega
    rw [this, List.getElem?_append_right (Nat.le_refl _), Nat.sub_self]
    rfl
def stepV (B : Book) (d : Deed) : V := match barP B d with
  | some t => .str t
  | none => match d with
    | .move _ => .int B.vers.length
    | _ => .int (B.hour + 1)
theorem has_pad (cs : List (Option Ct)) (n : Str) (day : Int) : ∀ k, hasI (cs ++ List.replicate k none) n day = hasI cs n day
  | 0 => by rw [List.replicate_zero, List.append_nil]
  | k + 1 => by
    rw [List.replicate_succ', ← List.append_assoc, hasI_snoc, has_pad cs n day k]
    show _ + 0 = _
    omega
def freeC (closed : Option Int) (d : Int) : Option Str := match closed with
  | none => none
  | some c => if d ≤ c then some tClo else none
theorem free_eq (B : Book) (d : Int) : free B d = freeC B.closed d := by
  unfold free freeC shut
  cases B.closed with
  | none => rfl
  | some c => simp only [decide_eq_true_eq]
def barC (cs : List (Option Ct)) (closed : Option Int) : Deed → Option Str
  | .move c => (sides c).or (freeC closed c.1)
  | .right n c => if 0 ≤ n ∧ n < cs.length then (match cs.getD n.toNat none with
    | none => some tStr
    | some st => ((sides c).or (freeC closed st.1)).or (freeC closed c.1)) else some tNo
  | .strike n => if 0 ≤ n ∧ n < cs.length then (match cs.getD n.toNat none with
    | none => some tStr
    | some st => freeC closed st.1) else some tNo
  | .close d => freeC closed d
  | _ => none
theorem stand_eq {B : Book} {n : Int} (h : 0 ≤ n ∧ n < (B.at B.hour).length) : (B.at B.hour).getD n.toNat none = standI B n := by
  rw [bat_len] at h
  unfold standI Book.at
  rw [List.getD_eq_getElem?_getD, List.getD_eq_getElem?_getD, List.getElem?_map, List.getElem?_eq_getElem (by omega)]
  rfl
theorem has_eq (B : Book) (n : Int) : (hasP B n = true) = (0 ≤ n ∧ n < ((B.at B.hour).length : Int)) := by
  rw [bat_len]
  unfold hasP
  simp only [Bool.and_eq_true, decide_eq_true_eq]
theorem bar_eq {B : Book} {d : Deed} (hd : d.chg = true) : barP B d = barC (B.at B.hour) B.closed d := by
  cases d with
  | move c => show (sides c).or (free B c.1) = _; rw [free_eq]; rfl
  | right n c =>
    show (if hasP B n = true then (match standI B n with
      | none => some tStr
      | some st => ((sides c).or (free B st.1)).or (free B c.1)) else some tNo) = (if 0 ≤ n ∧ n < ((B.at B.hour).length : Int) then (match (B.at B.hour).getD n.toNat none with
      | none => some tStr
      | some st => ((sides c).or (freeC B.closed st.1)).or (freeC B.closed c.1)) else some tNo)
    by_cases h : 0 ≤ n ∧ n < ((B.at B.hour).length : Int)
    · rw [if_pos h, if_pos (by rw [has_eq]; exact h), stand_eq h]
      cases standI B n with
      | none => rfl
      | some st => simp only [free_eq]
    · rw [if_neg h, if_neg (by rw [has_eq]; exact h)]
  | strike n =>
    show (if hasP B n = true then (match standI B n with
      | none => some tStr
      | some st => free B st.1) else some tNo) = (if 0 ≤ n ∧ n < ((B.at B.hour).length : Int) then (match (B.at B.hour).getD n.toNat none with
      | none => some tStr
      | some st => freeC B.closed st.1) else some tNo)
    by_cases h : 0 ≤ n ∧ n < ((B.at B.hour).length : Int)
    · rw [if_pos h, if_pos (by rw [has_eq]; exact h), stand_eq h]
      cases standI B n with
      | none => rfl
      | some st => simp only [free_eq]
    · rw [if_neg h, if_neg (by rw [has_eq]; exact h)]
  | close d => show free B d = _; rw [free_eq]; rfl
  | _ => cases hd
end Tt
namespace Tt
open PySem L2
def spChg : Sp := fun vs H Q _ => ∃ (p : Addr) (d : Deed), vs = [.ref p] ∧ H p = some (.tup d.row) ∧ ∀ H', Same H H' → Q (.bl d.chg) H'
section
variable {P : Program} {w : World} {K : PySem.W.Frag} {mg : Str → Option Value} {base : Heap}
theorem scChg : FnScope ["_law_deed"] ["_law_deed"] (defScope sChg) := ⟨rfl, rfl, rfl, by decide +kernel, rfl, by decide +kernel, by decide +kernel⟩
theorem ok_chg {f : Addr} {fd : FuncData} (F : Fun K "_law_changes" "_law_changes" sChg f fd) : FnOk P w K mg base CX0 1 f fd ["_law_deed"] spChg := by
  refine F.ok scChg (fun vs H Q E h => ?_) (fun cdv A outer s H vs Q E hr h => ?_)
  · obtain ⟨p, d, rfl, _⟩ := h
    rfl
  · obtain ⟨p, d, rfl, hp, k⟩ := h
    refine ⟨_, (pss_one (ps_ret (pe_cmpR op_in_seq (pe_ix ix_tup (pv 0) pe_int (fun _ _ => rfl)) (pe_lst (pa4 pe_str pe_str pe_str pe_str)) rfl))), ?_⟩
    have T : SqT K H p d.row := SqT.of hp
    cases d <;> exact ⟨_, rfl, p, _, 0, _, rfl, rfl, T, rfl, lz, fun l hl => ⟨l, _, rfl, .inl (SqL.of upd_same), rfl, rfl, k _ (Same.upd0 hl)⟩⟩
end
end Tt
namespace Tt
open PySem L2
theorem free_min {closed : Option Int} {a b M : Int} (h : M = a ∨ M = b) (ha : M ≤ a) (hb : M ≤ b) : (freeC closed a).or (freeC closed b) = freeC closed M := by
  cases closed with
  | none => rfl
  | some c =>
    show (if a ≤ c then some tClo else none).or (if b ≤ c then some tClo else none) = if M ≤ c then some tClo else none
    by_cases h1 : a ≤ c
    · rw [if_pos h1, if_pos (show M ≤ c by omega)]; rfl
    · rw [if_neg h1]
      by_cases h2 : b ≤ c
      · rw [if_pos h2, if_pos (show M ≤ c by omega)]; rfl
      · rw [if_neg h2, if_neg (show ¬ M ≤ c by omega)]; rfl
def BarD (cs : List (Option Ct)) : Deed → List Int → Prop
  | .right n _ => fun days => 0 ≤ n ∧ n < cs.length ∧ ∃ st : Ct, cs.getD n.toNat none = some st ∧ days = [st.1]
  | .strike n => fun days => 0 ≤ n ∧ n < cs.length ∧ ∃ st : Ct, cs.getD n.toNat none = some st ∧ days = [st.1]
  | _ => fun days => days = []
def spBar (K : PySem.W.Frag) : Sp := fun vs H Q _ => ∃ (nl p : Addr) (zs : List V) (cs : List (Option Ct)) (closed : Option Int) (d : Deed), vs = [.ref nl, cdV closed, .ref p] ∧ SqL K H nl zs ∧ CtsV H zs cs ∧ H p = some (.tup d.row) ∧ d.chg = true ∧
  ∀ H', Same H H' → Q (.str ((barC cs closed d).getD "")) H'
theorem cts_get {H : Hp} {zs : List V} {cs : List (Option Ct)} (h : CtsV H zs cs) {m : Nat} (hm : m < cs.length) : ∃ v, zs[m]? = some v ∧ atI zs (m : Int) = some v ∧ CtAt H (cs.getD m none) v := by
  have hz : m < zs.length := by rw [h.len]; exact hm
  have e1 : zs[m]? = some zs[m] := by simp
  have e2 : cs[m]? = some cs[m] := by simp
  exact ⟨_, e1, atI_nat e1, by rw [List.getD_eq_getElem?_getD, e2]; exact h.at' m _ _ e1 e2⟩
section
variable {P : Program} {w : World} {K : PySem.W.Frag} {mg : Str → Option Value} {base : Heap}
abbrev NBa : List Str := ["_law_now", "_law_closed", "_law_deed", "_law_days", "_law_content"]
theorem scBar : FnScope NBa ["_law_now", "_law_closed", "_law_deed"] (defScope sBar) := ⟨rfl, rfl, rfl, by decide +kernel, rfl, by decide +kernel, by decide +kernel⟩
theorem ok_bar {f : Addr} {fd : FuncData} (F : Fun K "_law_barred" "_law_barred" sBar f fd) (B : TopB mg) (M : mg "min" = none) : FnOk P w K mg base CX0 1 f fd ["_law_now", "_law_closed", "_law_deed"] (spBar K) := by
  refine F.ok scBar (fun vs H Q E h => ?_) (fun cdv A outer s H vs Q E hr h => ?_)
  · obtain ⟨nl, p, zs, cs, closed, d, rfl, _⟩ := h
    rfl
  · obtain ⟨nl, p, zs, cs, closed, d, rfl, hn, hc, hp, hd, k⟩ := h
    have nd := scBar.nd
    refine ⟨_, (pss_cons (ps_set (i := 3) nd rfl (Or.inl rfl) (pe_lst pa_nil))
      (pss_join (ps_if (pt_cmpR op_in_seq (pe_ix ix_tup (pv 2) pe_int (fun _ _ => rfl)) (pe_lst (pa2 pe_str pe_str)) rfl) (pss_cons (ps_if (PW.pt (pw_or (pt_cmpR op_lt (pe_ix ix_tup (pv 2) pe_int (fun _ _ => rfl)) pe_int (nomark _)) (pw_or1 (pt_cmpR op_ge (pe_ix ix_tup (pv 2) pe_int (fun _ _ => rfl)) (pcB call_len_seq (by rfl) B.len PySem.boot_len (pa1 (pv 0))) (nomark _))))) (pss_one (ps_ret pe_str)) pss_nil)
      (pss_cons (ps_if (pt_cmp (pc_isN (pe_ix ix_list (pv 0) (pe_ix ix_tup (pv 2) pe_int (fun _ _ => rfl)) (fun _ _ => rfl)))) (pss_one (ps_ret pe_str)) pss_nil)
      (pss_one (ps_expr (p_append (pv 3) (pe_ix ix_tup (pe_ix ix_list (pv 0) (pe_ix ix_tup (pv 2) pe_int (fun _ _ => rfl)) (fun _ _ => rfl)) pe_int (fun _ _ => rfl))))))) pss_nil)
      (pss_join (ps_if (pt_cmpR op_eq (pe_ix ix_tup (pv 2) pe_int (fun _ _ => rfl)) pe_str (nomark _)) (pss_one (ps_expr (p_append (pv 3) (pe_ix ix_tup (pv 2) pe_int (fun _ _ => rfl))))) (pss_one (ps_if (pt_cmpR op_ne (pe_ix ix_tup (pv 2) pe_int (fun _ _ => rfl)) pe_str (nomark _)) (pss_cons (ps_set (i := 4) nd rfl (Or.inl rfl) (pe_slice sl_tup (pv 2) (po_some (pe_un un_neg pe_int)) po_none))
      (pss_cons (ps_if (pt_cmpR op_eq (pe_ix ix_tup (pv 4) pe_int (fun _ _ => rfl)) (pe_ix ix_tup (pv 4) pe_int (fun _ _ => rfl)) (nomark _)) (pss_one (ps_ret pe_str)) pss_nil)
      (pss_cons (ps_if (pt_cmpR op_lt (pe_ix ix_tup (pv 4) pe_int (fun _ _ => rfl)) pe_int (nomark _)) (pss_one (ps_ret pe_str)) pss_nil)
      (pss_one (ps_expr (p_append (pv 3) (pe_ix ix_tup (pv 4) pe_int (fun _ _ => rfl)))))))) pss_nil)))
      (pss_cons (ps_if (PW.pt (pw_and (pt_cmp (pc_notN (pv 1))) (pw_and1 (pt_cmpR op_le (pcB (call_minL rfl) (by rfl) M PyProof.Rows.boot_min (pa1 (pv 3))) (pv 1) (nomark _))))) (pss_one (ps_ret pe_str)) pss_nil)
      (pss_one (ps_ret pe_str)))))), ?_⟩
    have kk : ∀ (t : Option Str) (H' : Hp), barC cs closed d = t → Same H H' → Q (.str (t.getD "")) H' := fun t H' e s => e ▸ k H' s
    have T : SqT K H p d.row := SqT.of hp
    have l1 : ([] : List V).length < sizeLine := by decide
    have l2 : ∀ x : V, ([x] : List V).length < sizeLine := fun x => by show 1 < sizeLine; decide
    refine ⟨lz, fun dl hdl => ?_⟩
    have s1 := Same.upd0 (o := .lst []) hdl
    have hdl1 : (upd H dl (.lst [])) dl = some (.lst []) := upd_same
    generalize upd H dl (.lst []) = H1 at s1 hdl1 ⊢
    refine ⟨fun σ H3 => ∃ days : List Int, σ = [some (.ref nl), some (cdV closed), some (.ref p), some (.ref dl), none] ∧ Same H H3 ∧ H3 dl = some (.lst (days.map V.int)) ∧ days.length ≤ 1 ∧ BarD cs d days, ?_, ?_⟩
    · have down : ∀ n : Int, (0 ≤ n ∧ n < cs.length → False) → (0 ≤ n ∧ n < (cs.length : Int)) = False := fun n h => propext ⟨h, False.elim⟩
      have old : ∀ (n : Int) (H2 : Hp), Same H1 H2 → 0 ≤ n → n < cs.length → ∃ v, atI zs n = some v ∧ CtAt H2 (cs.getD n.toNat none) v := fun n H2 e h0 h1 => by
        obtain ⟨m, rfl⟩ : ∃ m : Nat, n = (m : Int) := ⟨n.toNat, by omega⟩
        obtain ⟨v, _, e1, e2⟩ := cts_get hc (m := m) (by omega)
        exact ⟨v, e1, e2.same (s1.trans e)⟩
      match d, hd, T, kk with
      | .move (dd, o, t, a), _, T, kk =>
        refine ⟨_, rfl, p, _, 0, _, rfl, rfl, s1.tup T, rfl, lz, fun l hl => ⟨l, _, rfl, .inl (SqL.of upd_same), rfl, rfl, _, rfl, iteF ?_⟩⟩
        exact ⟨[], rfl, s1.upd hl, (Same.upd0 hl) _ _ hdl1, Nat.zero_le _, rfl⟩
      | .close dd, _, T, kk =>
        refine ⟨_, rfl, p, _, 0, _, rfl, rfl, s1.tup T, rfl, lz, fun l hl => ⟨l, _, rfl, .inl (SqL.of upd_same), rfl, rfl, _, rfl, iteF ?_⟩⟩
        exact ⟨[], rfl, s1.upd hl, (Same.upd0 hl) _ _ hdl1, Nat.zero_le _, rfl⟩
      | .right n (dd, o, t, a), _, T, kk =>
        refine ⟨_, rfl, p, _, 0, _, rfl, rfl, s1.tup T, rfl, lz, fun l hl => ⟨l, _, rfl, .inl (SqL.of upd_same), rfl, rfl, _, rfl, iteT ?_⟩⟩
        have s2 := s1.upd (o := .lst [V.str "right", V.str "strike"]) hl
        have s12 := Same.upd0 (o := .lst [V.str "right", V.str "strike"]) hl
        have hdl2 := s12 _ _ hdl1
        generalize upd H1 l (.lst [V.str "right", V.str "strike"]) = H2 at s2 s12 hdl2 ⊢
        have T2 := s2.tup T
        have n2 := s2.seq hn
        have no : (¬ (0 ≤ n ∧ n < (cs.length : Int))) → barC cs closed (.right n (dd, o, t, a)) = some tNo := fun z => if_neg z
        refine ⟨_, rfl, p, _, 1, .int n, rfl, rfl, T2, rfl, _, _, rfl, rfl, _, rfl, ?_⟩
        by_cases h0 : n < 0
        · rw [decide_eq_true h0]
          exact iteT (iteT (kk (some tNo) _ (no (by omega)) s2))
        rw [decide_eq_false h0]
        refine iteF ?_
        refine ⟨_, rfl, p, _, 1, .int n, rfl, rfl, T2, rfl, _, rfl, nl, zs, rfl, .inl n2, _, _, rfl, rfl, _, rfl, ?_⟩
        refine ite2' (fun c1 => ?_) (fun c1 => ?_)
        · exact kk (some tNo) _ (no (by have := hc.len; omega)) s2
        have h1 : n < (cs.length : Int) := by have := hc.len; omega
        have h0 : 0 ≤ n := by omega
        obtain ⟨v, ev, hv⟩ := old n H2 s12 h0 h1
        have eb : barC cs closed (.right n (dd, o, t, a)) = (match cs.getD n.toNat none with
          | none => some tStr
          | some st => ((sides (dd, o, t, a)).or (freeC closed st.1)).or (freeC closed dd)) := if_pos ⟨h0, h1⟩
        refine ⟨_, rfl, _, rfl, p, _, 1, .int n, rfl, rfl, T2, rfl, nl, zs, n, v, rfl, rfl, n2, ev, ?_⟩
        cases e : cs.getD n.toNat none with
        | none =>
          rw [e] at hv eb
          obtain rfl : v = .non := hv
          exact ⟨true, rfl, iteT (kk (some tStr) _ eb s2)⟩
        | some st =>
          rw [e] at hv
          obtain ⟨d0, o0, t0, a0⟩ := st
          obtain ⟨q, rfl, hq⟩ := hv
          refine ⟨false, rfl, iteF ?_⟩
          refine ⟨_, rfl, tyl hdl2, _, rfl, _, rfl, p, _, 1, .int n, rfl, rfl, T2, rfl, nl, zs, n, _, rfl, rfl, n2, ev, q, _, 0, .int d0, rfl, rfl, SqT.of hq, rfl, dl, _, _, rfl, rfl, hdl2, l1, ?_⟩
          exact ⟨[d0], rfl, s2.put hdl, upd_same, Nat.le_refl _, h0, h1, _, e, rfl⟩
      | .strike n, _, T, kk =>
        refine ⟨_, rfl, p, _, 0, _, rfl, rfl, s1.tup T, rfl, lz, fun l hl => ⟨l, _, rfl, .inl (SqL.of upd_same), rfl, rfl, _, rfl, iteT ?_⟩⟩
        have s2 := s1.upd (o := .lst [V.str "right", V.str "strike"]) hl
        have s12 := Same.upd0 (o := .lst [V.str "right", V.str "strike"]) hl
        have hdl2 := s12 _ _ hdl1
        generalize upd H1 l (.lst [V.str "right", V.str "strike"]) = H2 at s2 s12 hdl2 ⊢
        have T2 := s2.tup T
        have n2 := s2.seq hn
        have no : (¬ (0 ≤ n ∧ n < (cs.length : Int))) → barC cs closed (.strike n) = some tNo := fun z => if_neg z
        refine ⟨_, rfl, p, _, 1, .int n, rfl, rfl, T2, rfl, _, _, rfl, rfl, _, rfl, ?_⟩
        by_cases h0 : n < 0
        · rw [decide_eq_true h0]
          exact iteT (iteT (kk (some tNo) _ (no (by omega)) s2))
        rw [decide_eq_false h0]
        refine iteF ?_
        refine ⟨_, rfl, p, _, 1, .int n, rfl, rfl, T2, rfl, _, rfl, nl, zs, rfl, .inl n2, _, _, rfl, rfl, _, rfl, ?_⟩
        refine ite2' (fun c1 => ?_) (fun c1 => ?_)
        · exact kk (some tNo) _ (no (by have := hc.len; omega)) s2
        have h1 : n < (cs.length : Int) := by have := hc.len; omega
        have h0 : 0 ≤ n := by omega
        obtain ⟨v, ev, hv⟩ := old n H2 s12 h0 h1
        have eb : barC cs closed (.strike n) = (match cs.getD n.toNat none with
          | none => some tStr
          | some st => freeC closed st.1) := if_pos ⟨h0, h1⟩
        refine ⟨_, rfl, _, rfl, p, _, 1, .int n, rfl, rfl, T2, rfl, nl, zs, n, v, rfl, rfl, n2, ev, ?_⟩
        cases e : cs.getD n.toNat none with
        | none =>
          rw [e] at hv eb
          obtain rfl : v = .non := hv
          exact ⟨true, rfl, iteT (kk (some tStr) _ eb s2)⟩
        | some st =>
          rw [e] at hv
          obtain ⟨d0, o0, t0, a0⟩ := st
          obtain ⟨q, rfl, hq⟩ := hv
          refine ⟨false, rfl, iteF ?_⟩
          refine ⟨_, rfl, tyl hdl2, _, rfl, _, rfl, p, _, 1, .int n, rfl, rfl, T2, rfl, nl, zs, n, _, rfl, rfl, n2, ev, q, _, 0, .int d0, rfl, rfl, SqT.of hq, rfl, dl, _, _, rfl, rfl, hdl2, l1, ?_⟩
          exact ⟨[d0], rfl, s2.put hdl, upd_same, Nat.le_refl _, h0, h1, _, e, rfl⟩
    rintro σ2 H2 ⟨days, rfl, s2, hdl2, hdy, hD⟩
    have hdy' : (days.map V.int).length < sizeLine := by rw [List.length_map]; exact Nat.lt_of_le_of_lt hdy (by decide)
    refine ⟨fun σ H3 => ∃ (x4 : Option V) (days : List Int), σ = [some (.ref nl), some (cdV closed), some (.ref p), some (.ref dl), x4] ∧ Same H H3 ∧ H3 dl = some (.lst (days.map V.int)) ∧ 0 < days.length ∧ ∀ M ∈ days, (∀ a ∈ days, M ≤ a) → barC cs closed d = freeC closed M, ?_, ?_⟩
    · match d, hd, T, kk, hD with
      | .move (dd, o, t, a), _, T, kk, hD =>
        obtain rfl : days = [] := hD
        refine ⟨_, rfl, p, _, 0, _, rfl, rfl, s2.tup T, rfl, rfl, _, rfl, iteF ?_⟩
        refine ⟨_, rfl, p, _, 0, _, rfl, rfl, s2.tup T, rfl, rfl, _, rfl, iteT ?_⟩
        refine ⟨_, rfl, _, rfl, _, rfl, p, _, rfl, s2.tup T, by show ¬ (HT.sIx 5 0 (some (-4)) = 0 ∧ HT.sIx 5 5 none = 5); decide, fun q hq => ?_⟩
        have s3 := s2.upd (o := .tup [V.int dd, .str o, .str t, .int a]) hq
        have hdl3 := (Same.upd0 (o := .tup [V.int dd, .str o, .str t, .int a]) hq) _ _ hdl2
        have Tq : SqT K (upd H2 q (.tup [V.int dd, .str o, .str t, .int a])) q [V.int dd, .str o, .str t, .int a] := SqT.of upd_same
        refine ⟨_, rfl, q, _, 1, .str o, rfl, rfl, Tq, rfl, _, rfl, q, _, 2, .str t, rfl, rfl, Tq, rfl, rfl, _, rfl, ?_⟩
        refine ite2' (fun c1 => ?_) (fun c1 => ?_)
        · exact kk (some tSame) _ (by have e : o = t := by injection c1
                                      show (sides (dd, o, t, a)).or _ = _; unfold sides; rw [if_pos e]; rfl) s3
        have c1 : ¬ o = t := fun z => c1 (by rw [z])
        refine ⟨_, rfl, q, _, 3, .int a, rfl, rfl, Tq, rfl, _, _, rfl, rfl, _, rfl, ?_⟩
        refine ite2' (fun c2 => ?_) (fun c2 => ?_)
        · exact kk (some tAmt) _ (by show (sides (dd, o, t, a)).or _ = _; unfold sides; rw [if_neg c1, if_pos c2]; rfl) s3
        refine ⟨_, rfl, tyl hdl3, _, rfl, q, _, 0, .int dd, rfl, rfl, Tq, rfl, dl, _, _, rfl, rfl, hdl3, hdy', ?_⟩
        refine ⟨_, [dd], rfl, s3.put hdl, upd_same, Nat.one_pos, fun m hm _ => ?_⟩
        obtain rfl : m = dd := by simpa using hm
        show (sides (m, o, t, a)).or _ = _
        unfold sides; rw [if_neg c1, if_neg c2]; rfl
      | .right n (dd, o, t, a), _, T, kk, hD =>
        obtain ⟨h0, h1, st, e, rfl⟩ := hD
        have eb : barC cs closed (.right n (dd, o, t, a)) = ((sides (dd, o, t, a)).or (freeC closed st.1)).or (freeC closed dd) := by
          show (if _ then _ else _) = _
          rw [if_pos ⟨h0, h1⟩, e]
        refine ⟨_, rfl, p, _, 0, _, rfl, rfl, s2.tup T, rfl, rfl, _, rfl, iteF ?_⟩
        refine ⟨_, rfl, p, _, 0, _, rfl, rfl, s2.tup T, rfl, rfl, _, rfl, iteT ?_⟩
        refine ⟨_, rfl, _, rfl, _, rfl, p, _, rfl, s2.tup T, by show ¬ (HT.sIx 6 0 (some (-4)) = 0 ∧ HT.sIx 6 6 none = 6); decide, fun q hq => ?_⟩
        have s3 := s2.upd (o := .tup [V.int dd, .str o, .str t, .int a]) hq
        have hdl3 := (Same.upd0 (o := .tup [V.int dd, .str o, .str t, .int a]) hq) _ _ hdl2
        have Tq : SqT K (upd H2 q (.tup [V.int dd, .str o, .str t, .int a])) q [V.int dd, .str o, .str t, .int a] := SqT.of upd_same
        refine ⟨_, rfl, q, _, 1, .str o, rfl, rfl, Tq, rfl, _, rfl, q, _, 2, .str t, rfl, rfl, Tq, rfl, rfl, _, rfl, ?_⟩
        refine ite2' (fun c1 => ?_) (fun c1 => ?_)
        · exact kk (some tSame) _ (by have e : o = t := by injection c1
                                      rw [eb]; unfold sides; rw [if_pos e]; rfl) s3
        have c1 : ¬ o = t := fun z => c1 (by rw [z])
        refine ⟨_, rfl, q, _, 3, .int a, rfl, rfl, Tq, rfl, _, _, rfl, rfl, _, rfl, ?_⟩
        refine ite2' (fun c2 => ?_) (fun c2 => ?_)
        · exact kk (some tAmt) _ (by rw [eb]; unfold sides; rw [if_neg c1, if_pos c2]; rfl) s3
        refine ⟨_, rfl, tyl hdl3, _, rfl, q, _, 0, .int dd, rfl, rfl, Tq, rfl, dl, _, _, rfl, rfl, hdl3, hdy', ?_⟩
        refine ⟨_, [st.1, dd], rfl, s3.put hdl, upd_same, Nat.zero_lt_succ _, fun m hm hle => ?_⟩
        rw [eb]
        unfold sides
        rw [if_neg c1, if_neg c2]
        show (freeC closed st.1).or (freeC closed dd) = _
        exact free_min (by simpa using hm) (hle _ (by simp)) (hle _ (by simp))
      | .strike n, _, T, kk, hD =>
        obtain ⟨h0, h1, st, e, rfl⟩ := hD
        have eb : barC cs closed (.strike n) = freeC closed st.1 := by
          show (if _ then _ else _) = _
          rw [if_pos ⟨h0, h1⟩, e]
        refine ⟨_, rfl, p, _, 0, _, rfl, rfl, s2.tup T, rfl, rfl, _, rfl, iteF ?_⟩
        refine ⟨_, rfl, p, _, 0, _, rfl, rfl, s2.tup T, rfl, rfl, _, rfl, iteF ?_⟩
        refine ⟨_, [st.1], rfl, s2, hdl2, Nat.one_pos, fun m hm _ => ?_⟩
        obtain rfl : m = st.1 := by simpa using hm
        exact eb
      | .close dd, _, T, kk, hD =>
        obtain rfl : days = [] := hD
        refine ⟨_, rfl, p, _, 0, _, rfl, rfl, s2.tup T, rfl, rfl, _, rfl, iteT ?_⟩
        refine ⟨_, rfl, tyl hdl2, _, rfl, p, _, 1, .int dd, rfl, rfl, s2.tup T, rfl, dl, _, _, rfl, rfl, hdl2, hdy', ?_⟩
        refine ⟨_, [dd], rfl, s2.put hdl, upd_same, Nat.one_pos, fun m hm _ => ?_⟩
        obtain rfl : m = dd := by simpa using hm
        rfl
    rintro σ3 H3 ⟨x4, days, rfl, s3, hdl3, hpos, hm⟩
    have hex : ∃ M ∈ days, ∀ a ∈ days, M ≤ a := by
      clear hdl3 hm
      induction days with
      | nil => cases hpos
      | cons x r ih =>
        cases r with
        | nil => exact ⟨x, by simp, fun a ha => by have : a = x := by simpa using ha
                                                   omega⟩
        | cons y r =>
          obtain ⟨M, h1, h2⟩ := ih (Nat.zero_lt_succ _)
          by_cases hx : x ≤ M
          · exact ⟨x, by simp, fun a ha => by
              rcases List.mem_cons.mp ha with z | z
              · omega
              · have := h2 a z; omega⟩
          · exact ⟨M, List.mem_cons_of_mem _ h1, fun a ha => by
              rcases List.mem_cons.mp ha with z | z
              · omega
              · exact h2 a z⟩
    match closed, hm, kk with
    | none, hm, kk =>
      obtain ⟨M, h1, h2⟩ := hex
      exact ⟨_, rfl, false, rfl, iteF (iteF (kk none _ (hm M h1 h2) s3))⟩
    | some c, hm, kk =>
      refine ⟨_, rfl, true, rfl, iteT ?_⟩
      refine ⟨_, rfl, dl, days, rfl, SqL.of hdl3, hpos, fun M h1 h2 => ?_⟩
      have e := hm M h1 h2
      refine ⟨_, rfl, _, _, rfl, rfl, _, rfl, ?_⟩
      refine ite2' (fun c1 => ?_) (fun c1 => ?_)
      · exact kk (some tClo) _ (e.trans (if_pos c1)) s3
      · exact kk none _ (e.trans (if_neg c1)) s3
end
end Tt
namespace Tt
open PySem L2
def SameB (a : Addr) (H H' : Hp) : Prop := ∀ b o, H b = some o → b ≠ a → H' b = some o
theorem SameB.of {a : Addr} {H H' : Hp} (e : Same H H') : SameB a H H' := fun b o h _ => e b o h
theorem SameB.trans {a : Addr} {H H1 H2 : Hp} (e : SameB a H H1) (f : SameB a H1 H2) : SameB a H H2 := fun b o h n => f b o (e b o h n) n
theorem SameB.put {a : Addr} {H H' : Hp} {o : HO} (e : SameB a H H') : SameB a H (upd H' a o) := fun b o h n => by rw [upd_ne n]; exact e b o h n
theorem SameB.upd {a q : Addr} {H H' : Hp} {o : HO} (e : SameB a H H') (h : H' q = none) : SameB a H (L2.upd H' q o) := e.trans (.of (Same.upd0 h))
theorem SameB.same {a : Addr} {H0 H H' : Hp} (e : SameB a H H') (s : Same H0 H) (n : H0 a = none) : Same H0 H' := fun b o h => e b o (s b o h) (ne_of_none h n)
def SnAt (H : Hp) (cs : List (Option Ct)) (v : V) : Prop := ∃ l zs, v = .ref l ∧ H l = some (.lst zs) ∧ CtsV H zs cs
theorem SnAt.same {H H' : Hp} {cs : List (Option Ct)} {v : V} (e : Same H H') (h : SnAt H cs v) : SnAt H' cs v := let ⟨l, zs, h1, h2, h3⟩ := h; ⟨l, zs, h1, e _ _ h2, h3.same e⟩
structure SnsV (H : Hp) (sl : Addr) (vs : List V) (css : List (List (Option Ct))) : Prop where
  list : H sl = some (.lst vs)
  len : vs.length = css.length
  at' : ∀ (i : Nat) (v : V) (cs : List (Option Ct)), vs[i]? = some v → css[i]? = some cs → SnAt H cs v
  out : ∀ v ∈ vs, v ≠ .ref sl
theorem SnsV.same {H H' : Hp} {sl : Addr} {vs : List V} {css : List (List (Option Ct))} (e : Same H H') (h : SnsV H sl vs css) : SnsV H' sl vs css := ⟨e _ _ h.list, h.len, fun i v cs h1 h2 => (h.at' i v cs h1 h2).same e, h.out⟩
theorem SnsV.snoc {H : Hp} {sl : Addr} {vs : List V} {css : List (List (Option Ct))} {cs : List (Option Ct)} {l : Addr} (h : SnsV H sl vs css) (hc : SnAt H cs (.ref l)) (n : l ≠ sl) : SnsV (upd H sl (.lst (vs ++ [.ref l]))) sl (vs ++ [.ref l]) (css ++ [cs]) := by
  have hl := h.len
  have up : ∀ cs v, SnAt H cs v → v ≠ .ref sl → SnAt (upd H sl (.lst (vs ++ [.ref l]))) cs v := fun cs v ⟨l1, zs, e1, e2, e3⟩ q => ⟨l1, zs, e1, by rw [upd_ne (fun z => q (by rw [e1, z]))]; exact e2, e3.put h.list⟩
  refine ⟨upd_same, by rw [List.length_append, List.length_append, hl]; rfl, fun i v c h1 h2 => ?_, fun v hv => ?_⟩
  · by_cases hi : i < vs.length
    · rw [List.getElem?_append_left hi] at h1
      rw [List.getElem?_append_left (by omega)] at h2
      exact up _ _ (h.at' i v c h1 h2) (h.out v (List.mem_of_getElem? h1))
    · have h1' := (List.getElem?_eq_some_iff.mp h1).1
      rw [List.length_append] at h1'
      have e : i = vs.length := by simp at h1'; omega
      subst e
      rw [List.getElem?_append_right (Nat.le_refl _), Nat.sub_self] at h1
      rw [hl, List.getElem?_append_right (Nat.le_refl _), Nat.sub_self] at h2
      cases h1
      cases h2
      exact up _ _ hc (fun z => n (by injection z))
  · rcases List.mem_append.mp hv with z | z
    · exact h.out v z
    · obtain rfl : v = .ref l := by simpa using z
      exact fun z => n (by injection z)
theorem CtsV.set {H : Hp} {zs : List V} {cs : List (Option Ct)} {c : Option Ct} {v : V} (h : CtsV H zs cs) (hc : CtAt H c v) (j : Nat) : CtsV H (zs.set j v) (cs.set j c) := by
  have hl := h.len
  refine ⟨by rw [List.length_set, List.length_set, hl], fun i u x h1 h2 => ?_⟩
  rw [List.getElem?_set] at h1 h2
  by_cases e : j = i
  · rw [if_pos e] at h1 h2
    by_cases hj : j < zs.length
    · rw [if_pos (by omega)] at h1 h2
      cases h1
      cases h2
      exact hc
    · rw [if_neg (by omega)] at h1
      cases h1
  · rw [if_neg e] at h1 h2
    exact h.at' i u x h1 h2
theorem bar_txt {cs : List (Option Ct)} {closed : Option Int} {d : Deed} {t : Str} (hd : d.chg = true) (h : barC cs closed d = some t) : t = tNo ∨ t = tStr ∨ t = tSame ∨ t = tAmt ∨ t = tClo := by
  have fr : ∀ x, freeC closed x = some t → t = tClo := fun x z => by
    cases closed with
    | none => cases z
    | some c =>
      have z : (if x ≤ c then some tClo else none) = some t := z
      split at z <;> cases z
      rfl
  have sd : ∀ c, sides c = some t → t = tSame ∨ t = tAmt := fun c z => by
    unfold sides at z
    split at z
    · cases z; exact .inl rfl
    · split at z <;> cases z
      exact .inr rfl
  have orr : ∀ {a b : Option Str}, a.or b = some t → a = some t ∨ b = some t := fun {a b} z => by
    cases a with
    | none => exact .inr (by simpa using z)
    | some x => exact .inl (by simpa using z)
  have inn : ∀ {c : Ct}, sides c = some t → t = tNo ∨ t = tStr ∨ t = tSame ∨ t = tAmt ∨ t = tClo := fun z => by
    rcases sd _ z with q | q
    · exact .inr (.inr (.inl q))
    · exact .inr (.inr (.inr (.inl q)))
  have inf : ∀ {x : Int}, freeC closed x = some t → t = tNo ∨ t = tStr ∨ t = tSame ∨ t = tAmt ∨ t = tClo := fun z => .inr (.inr (.inr (.inr (fr _ z))))
  cases d with
  | move c =>
    rcases orr h with z | z
    · exact inn z
    · exact inf z
  | right n c =>
    have h : (if 0 ≤ n ∧ n < (cs.length : Int) then (match cs.getD n.toNat none with
      | none => some tStr
      | some st => ((sides c).or (freeC closed st.1)).or (freeC closed c.1)) else some tNo) = some t := h
    split at h
    · split at h
      · cases h; exact .inr (.inl rfl)
      · rcases orr h with z | z
        · rcases orr z with z | z
          · exact inn z
          · exact inf z
        · exact inf z
    · cases h; exact .inl rfl
  | strike n =>
    have h : (if 0 ≤ n ∧ n < (cs.length : Int) then (match cs.getD n.toNat none with
      | none => some tStr
      | some st => freeC closed st.1) else some tNo) = some t := h
    split at h
    · split at h
      · cases h; exact .inr (.inl rfl)
      · exact inf h
    · cases h; exact .inl rfl
  | close d => exact inf h
  | _ => cases hd
def NewV (vs vs' : List V) (H : Hp) : Prop := ∀ v ∈ vs', v ∈ vs ∨ ∃ l, v = V.ref l ∧ H l = none
theorem NewV.refl (vs : List V) (H : Hp) : NewV vs vs H := fun v h => .inl h
theorem NewV.snoc {vs : List V} {l : Addr} {H : Hp} (h : H l = none) : NewV vs (vs ++ [.ref l]) H := fun v hv => by
  rcases List.mem_append.mp hv with z | z
  · exact .inl z
  · exact .inr ⟨l, by simpa using z, h⟩
def spStep (K : PySem.W.Frag) : Sp := fun ws H Q _ => ∃ (sl p : Addr) (vs : List V) (css : List (List (Option Ct))) (B : Book) (d : Deed), ws = [.ref sl, cdV B.closed, .ref p] ∧ SnsV H sl vs css ∧ Snap B css ∧ BkOk B ∧ B.hour ≤ 62 ∧ H p = some (.tup d.row) ∧ d.chg = true ∧
  ∀ q vs' css' H', SameB sl H H' → NewV vs vs' H → H' q = some (.tup [stepV B d, cdV (stepB B d).closed]) → SnsV H' sl vs' css' → Snap (stepB B d) css' → (stepB B d).hour = (if (barP B d).isSome then B.hour else B.hour + 1) → Q (.ref q) H'
section
variable {P : Program} {w : World} {K : PySem.W.Frag} {mg : Str → Option Value} {base : Heap}
abbrev NSt : List Str := ["_law_snaps", "_law_closed", "_law_deed", "_law_now", "_law_text", "_law_later"]
theorem scStep : FnScope NSt ["_law_snaps", "_law_closed", "_law_deed"] (defScope sStep) := ⟨rfl, rfl, rfl, by decide +kernel, rfl, by decide +kernel, by decide +kernel⟩
theorem ok_step {f fB : Addr} {fd fdB : FuncData} (F : Fun K "_law_step" "_law_step" sStep f fd) (B : TopB mg) (L : TopL mg) (M : mg "min" = none) (FB : Fun K "_law_barred" "_law_barred" sBar fB fdB) (bB : Binds K fdB ["_law_now", "_law_closed", "_law_deed"] []) (mB : mg "_law_barred" = some (.ref fB)) :
    FnOk P w K mg base CX0 2 f fd ["_law_snaps", "_law_closed", "_law_deed"] (spStep K) := by
  have GB : FnOk P w K mg base CX0 1 fB fdB ["_law_now", "_law_closed", "_law_deed"] (spBar K) := ok_bar FB B M
  refine F.ok scStep (fun vs H Q E h => ?_) (fun cdv A outer s H vs Q E hr h => ?_)
  · obtain ⟨sl, p, vs, css, B, d, rfl, _⟩ := h
    rfl
  · obtain ⟨sl, p, vs, css, Bo, d, rfl, hV, hS, ok, h62, hp, hd, k⟩ := h
    have nd := scStep.nd
    refine ⟨_, (pss_cons (ps_set (i := 3) nd rfl (Or.inl rfl) (pe_ix ix_list (pv 0) (pe_un un_neg pe_int) (fun _ _ => rfl)))
      (pss_cons (ps_set (i := 4) nd rfl (Or.inl rfl) (pcall GB hr (by rfl) mB FB.kp bB .nil pass0 (pa3 (pv 3) (pv 1) (pv 2))))
      (pss_cons (ps_if (pt_cmpR op_ne (pv 4) pe_str (nomark _)) (pss_one (ps_ret (pe_tup (pa2 (pv 4) (pv 1))))) pss_nil)
      (pss_cons (ps_if (pt_cmpR op_eq (pe_ix ix_tup (pv 2) pe_int (fun _ _ => rfl)) pe_str (nomark _)) (pss_cons (ps_expr (p_append (pv 0) (pe_op op_cat (pv 3) (pe_lst (pa1 (pe_slice sl_tup (pv 2) (po_some (pe_un un_neg pe_int)) po_none))))))
      (pss_one (ps_ret (pe_tup (pa2 (pcB call_len_seq (by rfl) B.len PySem.boot_len (pa1 (pv 3))) (pv 1)))))) pss_nil)
      (pss_cons (ps_set (i := 5) nd rfl (Or.inl rfl) (pcT call_list_of (by rfl) L.list PyProof.Rows.boot_list (pa1 (pv 3))))
      (pss_cons (ps_if (pt_cmpR op_eq (pe_ix ix_tup (pv 2) pe_int (fun _ _ => rfl)) pe_str (nomark _)) (pss_one (ps_asg (pe_slice sl_tup (pv 2) (po_some (pe_un un_neg pe_int)) po_none) (pg_sub (pv 5) (pe_ix ix_tup (pv 2) pe_int (fun _ _ => rfl)) set_list))) pss_nil)
      (pss_cons (ps_if (pt_cmpR op_eq (pe_ix ix_tup (pv 2) pe_int (fun _ _ => rfl)) pe_str (nomark _)) (pss_one (ps_asg pe_non (pg_sub (pv 5) (pe_ix ix_tup (pv 2) pe_int (fun _ _ => rfl)) set_list))) pss_nil)
      (pss_cons (ps_expr (p_append (pv 0) (pv 5)))
      (pss_cons (ps_if (pt_cmpR op_eq (pe_ix ix_tup (pv 2) pe_int (fun _ _ => rfl)) pe_str (nomark _)) (pss_one (ps_set (i := 1) nd rfl (Or.inl rfl) (pe_ix ix_tup (pv 2) pe_int (fun _ _ => rfl)))) pss_nil)
      (pss_one (ps_ret (pe_tup (pa2 (pe_op op_sub (pcB call_len_seq (by rfl) B.len PySem.boot_len (pa1 (pv 0))) pe_int) (pv 1)))))))))))))), ?_⟩
    have hh0 := ok.h0
    have hsl := hS.len
    have hvl := hV.len
    obtain ⟨vs0, v0, ev⟩ : ∃ vs0 v0, vs = vs0 ++ [v0] := by
      rcases List.eq_nil_or_concat vs with z | ⟨a, b, z⟩
      · rw [z] at hvl; simp at hvl; rw [← hvl] at hsl; simp at hsl; omega
      · exact ⟨a, b, by simpa using z⟩
    have hl0 : vs0.length = Bo.hour.toNat := by rw [ev, List.length_append] at hvl; simp at hvl; omega
    have hn0 : SnAt H (Bo.at Bo.hour) v0 := hV.at' Bo.hour.toNat v0 _ (by rw [ev, ← hl0, List.getElem?_append_right (Nat.le_refl _), Nat.sub_self]; rfl) hS.last
    have e0 : atI vs (-1) = some v0 := by rw [ev]; exact atI_last _ _
    have nsl : v0 ≠ .ref sl := hV.out v0 (by rw [ev]; simp)
    obtain ⟨nl, zs, rfl, hnl, hcs⟩ := hn0
    refine ⟨_, rfl, _, rfl, sl, vs, _, _, rfl, rfl, SqL.of hV.list, e0, ?_⟩
    refine ⟨_, rfl, _, rfl, _, rfl, nl, p, zs, _, Bo.closed, d, rfl, SqL.of hnl, hcs, hp, hd, fun H1 s1 => ?_⟩
    have ebar := bar_eq (B := Bo) hd
    have hzl : zs.length = Bo.vers.length := by rw [hcs.len, bat_len]
    have hfew := ok.few
    have room : vs.length < sizeLine := Nat.lt_of_le_of_lt (m := 63) (by omega) (by decide)
    have hV1 := hV.same s1
    have T1 : SqT K H1 p d.row := SqT.of (s1 _ _ hp)
    have hnl1 := s1 _ _ hnl
    have hcs1 := hcs.same s1
    cases hb : barC (Bo.at Bo.hour) Bo.closed d with
    | some t =>
      have eS : stepB Bo d = Bo := by unfold stepB; rw [ebar, hb]
      have eV : stepV Bo d = .str t := by unfold stepV; rw [ebar, hb]
      have fin : ∀ q, H1 q = none → Q (.ref q) (upd H1 q (.tup [.str t, cdV Bo.closed])) := fun q hq => k q vs css _ (SameB.of (s1.upd hq)) (NewV.refl _ _) (by rw [upd_same, eS, eV]) (hV1.same (Same.upd0 hq)) (by rw [eS]; exact hS) (by rw [eS, ebar, hb]; rfl)
      rcases bar_txt hd hb with rfl | rfl | rfl | rfl | rfl
      · exact ⟨_, rfl, rfl, _, rfl, iteT ⟨_, rfl, _, rfl, lz, fin⟩⟩
      · exact ⟨_, rfl, rfl, _, rfl, iteT ⟨_, rfl, _, rfl, lz, fin⟩⟩
      · exact ⟨_, rfl, rfl, _, rfl, iteT ⟨_, rfl, _, rfl, lz, fin⟩⟩
      · exact ⟨_, rfl, rfl, _, rfl, iteT ⟨_, rfl, _, rfl, lz, fin⟩⟩
      · exact ⟨_, rfl, rfl, _, rfl, iteT ⟨_, rfl, _, rfl, lz, fin⟩⟩
    | none =>
      have hbn : barP Bo d = none := ebar.trans hb
      have eS : stepB Bo d = nextP Bo d := by unfold stepB; rw [hbn]
      have hS' := hS.next hh0 hbn hd
      have hH' : (nextP Bo d).hour = Bo.hour + 1 := next_hour hd
      refine ⟨_, rfl, rfl, _, rfl, iteF ?_⟩
      have k' : ∀ q vs' css' H', SameB sl H H' → NewV vs vs' H → H' q = some (.tup [stepV Bo d, cdV (nextP Bo d).closed]) → SnsV H' sl vs' css' → Snap (nextP Bo d) css' → Q (.ref q) H' := fun q vs' css' H' a a' b c e => k q vs' css' H' a a' (by rw [eS]; exact b) c (by rw [eS]; exact e) (by rw [eS, hH', hbn]; rfl)
      have fin : ∀ (l : Addr) (xs : List V) (H3 : Hp), Same H H3 → H3 l = some (.lst xs) → H l = none → CtsV H3 xs (nextC (Bo.at Bo.hour) d) → ∀ q, upd H3 sl (.lst (vs ++ [.ref l])) q = none → stepV Bo d = .int (((vs ++ [V.ref l]).length : Nat) - 1 : Int) → ∀ c, c = cdV (nextP Bo d).closed → Q (.ref q) (upd (upd H3 sl (.lst (vs ++ [.ref l]))) q (.tup [.int (((vs ++ [V.ref l]).length : Nat) - 1 : Int), c])) := fun l xs H3 s3 hl hln hc q hq eV c ec => by
        have n1 : l ≠ sl := fun z => by rw [z, hV.list] at hln; cases hln
        exact k' q _ _ _ ((SameB.of s3).put.upd hq) (NewV.snoc hln) (by rw [upd_same, eV, ec]) (((hV.same s3).snoc ⟨l, xs, rfl, hl, hc⟩ n1).same (Same.upd0 hq)) hS'
      have lenv : ∀ x : V, (((vs ++ [x]).length : Nat) - 1 : Int) = Bo.hour + 1 := fun x => by rw [List.length_append, hvl]; show ((css.length + 1 : Nat) : Int) - 1 = _; omega
      clear k
      match d, hd, hp, T1, hb, hbn, hS', k', fin with
      | .move (dd, o, t, a), hd, hp, T, hb, hbn, hS', k', fin =>
        refine ⟨_, rfl, p, _, 0, _, rfl, rfl, T, rfl, rfl, _, rfl, iteT ?_⟩
        refine ⟨_, rfl, tyl hV1.list, _, rfl, _, rfl, _, rfl, _, rfl, p, _, rfl, T, by show ¬ (HT.sIx 5 0 (some (-4)) = 0 ∧ HT.sIx 5 5 none = 5); decide, fun c hc => ?_⟩
        have s2 := Same.upd0 (o := .tup [V.int dd, .str o, .str t, .int a]) hc
        have hc2 : (upd H1 c (.tup [V.int dd, .str o, .str t, .int a])) c = some (.tup [V.int dd, .str o, .str t, .int a]) := upd_same
        refine ⟨lz, fun l1 hl1 => ?_⟩
        have s3 := s2.upd (o := .lst [.ref c]) hl1
        have hc3 := (Same.upd0 (o := .lst [.ref c]) hl1) _ _ hc2
        refine ⟨nl, l1, zs, [.ref c], rfl, rfl, s3 _ _ hnl1, upd_same, Nat.le_trans (m := 64) (by show zs.length + 1 ≤ 64; omega) (by decide), fun l2 hl2 => ?_⟩
        have s4 := s3.upd (o := .lst (zs ++ [.ref c])) hl2
        have hc4 := (Same.upd0 (o := .lst (zs ++ [.ref c])) hl2) _ _ hc3
        have n2 : l2 ≠ sl := Ne.symm (ne_of_none (s3 _ _ hV1.list) hl2)
        have V4 := hV1.same s4
        refine ⟨sl, vs, _, rfl, rfl, V4.list, room, ?_⟩
        have C4 : CtsV _ (zs ++ [V.ref c]) (Bo.at Bo.hour ++ [some (dd, o, t, a)]) := (hcs1.same s4).snoc (c := some (dd, o, t, a)) ⟨c, rfl, hc4⟩
        refine ⟨_, rfl, nl, zs, rfl, .inl (SqL.of (by rw [upd_ne (fun z => nsl (by rw [z]))]; exact s4 _ _ hnl1)), _, rfl, lz, fun q hq => ?_⟩
        refine k' q _ _ _ ((SameB.of (s1.trans s4)).put.upd hq) (NewV.snoc ((s1.trans s3).free hl2)) ?_ ((V4.snoc ⟨l2, _, rfl, upd_same, C4⟩ n2).same (Same.upd0 hq)) hS'
        have eV : stepV Bo (.move (dd, o, t, a)) = .int Bo.vers.length := by unfold stepV; rw [hbn]
        rw [upd_same, eV, ← hzl]
        rfl
      | .right n (dd, o, t, a), hd, hp, T, hb, hbn, hS', k', fin =>
        refine ⟨_, rfl, p, _, 0, _, rfl, rfl, T, rfl, rfl, _, rfl, iteF ?_⟩
        obtain ⟨h1, st, h2⟩ := (stand_of hbn).1 n _ rfl
        have h3 := has_lt h1
        have eV : stepV Bo (.right n (dd, o, t, a)) = .int (Bo.hour + 1) := by unfold stepV; rw [hbn]
        refine ⟨_, rfl, nl, zs, rfl, .inl (SqL.of hnl1), fun l hl => ?_⟩
        have s2 := Same.upd0 (o := .lst zs) hl
        refine ⟨_, rfl, p, _, 0, _, rfl, rfl, s2.tup T, rfl, rfl, _, rfl, iteT ?_⟩
        refine ⟨_, rfl, _, rfl, _, rfl, p, _, rfl, s2.tup T, by show ¬ (HT.sIx 6 0 (some (-4)) = 0 ∧ HT.sIx 6 6 none = 6); decide, fun c hc => ?_⟩
        have s3 := s2.upd (o := .tup [V.int dd, .str o, .str t, .int a]) hc
        have hl3 := (Same.upd0 (o := .tup [V.int dd, .str o, .str t, .int a]) hc) _ _ (upd_same (H := H1) (a := l) (o := .lst zs))
        have hc3 : (upd (upd H1 l (.lst zs)) c (.tup [V.int dd, .str o, .str t, .int a])) c = some (.tup [V.int dd, .str o, .str t, .int a]) := upd_same
        have hix : ixN zs.length n = some n.toNat := by unfold ixN; rw [if_pos h3.1, if_pos (by omega)]
        refine ⟨_, rfl, _, rfl, p, _, 1, .int n, rfl, rfl, s3.tup T, rfl, l, zs, n, n.toNat, rfl, rfl, hl3, hix, ?_⟩
        have s4 : Same H (upd (upd (upd H1 l (.lst zs)) c (.tup [V.int dd, .str o, .str t, .int a])) l (.lst (zs.set n.toNat (.ref c)))) := (s1.trans s3).put (s1.free hl)
        have V4 := hV.same s4
        have T4 : SqT K _ p (Deed.row (.right n (dd, o, t, a))) := SqT.of (s4 _ _ hp)
        have C4 := ((hcs1.same s3).set (c := some (dd, o, t, a)) ⟨c, rfl, hc3⟩ n.toNat).put (ys := zs.set n.toNat (.ref c)) hl3
        refine ⟨_, rfl, p, _, 0, _, rfl, rfl, T4, rfl, rfl, _, rfl, iteF ?_⟩
        refine ⟨_, rfl, tyl V4.list, _, rfl, sl, vs, _, rfl, rfl, V4.list, room, ?_⟩
        have T5 : SqT K (upd (upd (upd (upd H1 l (.lst zs)) c (.tup [V.int dd, .str o, .str t, .int a])) l (.lst (zs.set n.toNat (.ref c)))) sl (.lst (vs ++ [.ref l]))) p (Deed.row (.right n (dd, o, t, a))) := SqT.of (by rw [upd_ne (ne_of hp hV.list (by intro z; cases z))]; exact s4 _ _ hp)
        refine ⟨_, rfl, p, _, 0, _, rfl, rfl, T5, rfl, rfl, _, rfl, iteF ?_⟩
        exact ⟨_, rfl, sl, _, rfl, .inl (SqL.of upd_same), _, _, rfl, rfl, _, rfl, lz, fun q hq => fin l _ _ s4 upd_same (s1.free hl) C4 q hq (by rw [eV, lenv]) _ rfl⟩
      | .strike n, hd, hp, T, hb, hbn, hS', k', fin =>
        refine ⟨_, rfl, p, _, 0, _, rfl, rfl, T, rfl, rfl, _, rfl, iteF ?_⟩
        obtain ⟨h1, st, h2⟩ := (stand_of hbn).2 n rfl
        have h3 := has_lt h1
        have eV : stepV Bo (.strike n) = .int (Bo.hour + 1) := by unfold stepV; rw [hbn]
        refine ⟨_, rfl, nl, zs, rfl, .inl (SqL.of hnl1), fun l hl => ?_⟩
        have s3 := Same.upd0 (o := .lst zs) hl
        have hl3 := upd_same (H := H1) (a := l) (o := .lst zs)
        refine ⟨_, rfl, p, _, 0, _, rfl, rfl, s3.tup T, rfl, rfl, _, rfl, iteF ?_⟩
        refine ⟨_, rfl, p, _, 0, _, rfl, rfl, s3.tup T, rfl, rfl, _, rfl, iteT ?_⟩
        have hix : ixN zs.length n = some n.toNat := by unfold ixN; rw [if_pos h3.1, if_pos (by omega)]
        refine ⟨_, rfl, _, rfl, p, _, 1, .int n, rfl, rfl, s3.tup T, rfl, l, zs, n, n.toNat, rfl, rfl, hl3, hix, ?_⟩
        have s4 : Same H (upd (upd H1 l (.lst zs)) l (.lst (zs.set n.toNat .non))) := (s1.trans s3).put (s1.free hl)
        have V4 := hV.same s4
        have C4 := ((hcs1.same s3).set (c := none) (v := .non) rfl n.toNat).put (ys := zs.set n.toNat .non) hl3
        refine ⟨_, rfl, tyl V4.list, _, rfl, sl, vs, _, rfl, rfl, V4.list, room, ?_⟩
        have T5 : SqT K (upd (upd (upd H1 l (.lst zs)) l (.lst (zs.set n.toNat .non))) sl (.lst (vs ++ [.ref l]))) p (Deed.row (.strike n)) := SqT.of (by rw [upd_ne (ne_of hp hV.list (by intro z; cases z))]; exact s4 _ _ hp)
        refine ⟨_, rfl, p, _, 0, _, rfl, rfl, T5, rfl, rfl, _, rfl, iteF ?_⟩
        exact ⟨_, rfl, sl, _, rfl, .inl (SqL.of upd_same), _, _, rfl, rfl, _, rfl, lz, fun q hq => fin l _ _ s4 upd_same (s1.free hl) C4 q hq (by rw [eV, lenv]) _ rfl⟩
      | .close dd, hd, hp, T, hb, hbn, hS', k', fin =>
        refine ⟨_, rfl, p, _, 0, _, rfl, rfl, T, rfl, rfl, _, rfl, iteF ?_⟩
        have eV : stepV Bo (.close dd) = .int (Bo.hour + 1) := by unfold stepV; rw [hbn]
        refine ⟨_, rfl, nl, zs, rfl, .inl (SqL.of hnl1), fun l hl => ?_⟩
        have s3 := Same.upd0 (o := .lst zs) hl
        have hl3 := upd_same (H := H1) (a := l) (o := .lst zs)
        refine ⟨_, rfl, p, _, 0, _, rfl, rfl, s3.tup T, rfl, rfl, _, rfl, iteF ?_⟩
        refine ⟨_, rfl, p, _, 0, _, rfl, rfl, s3.tup T, rfl, rfl, _, rfl, iteF ?_⟩
        have s4 : Same H (upd H1 l (.lst zs)) := s1.trans s3
        have V4 := hV.same s4
        refine ⟨_, rfl, tyl V4.list, _, rfl, sl, vs, _, rfl, rfl, V4.list, room, ?_⟩
        have T5 : SqT K (upd (upd H1 l (.lst zs)) sl (.lst (vs ++ [.ref l]))) p (Deed.row (.close dd)) := SqT.of (by rw [upd_ne (ne_of hp hV.list (by intro z; cases z))]; exact s4 _ _ hp)
        refine ⟨_, rfl, p, _, 0, _, rfl, rfl, T5, rfl, rfl, _, rfl, iteT ?_⟩
        refine ⟨_, rfl, p, _, 1, .int dd, rfl, rfl, T5, rfl, ?_⟩
        exact ⟨_, rfl, sl, _, rfl, .inl (SqL.of upd_same), _, _, rfl, rfl, _, rfl, lz, fun q hq => fin l _ _ s4 upd_same (s1.free hl) (hcs1.same s3) q hq (by rw [eV, lenv]) _ rfl⟩
end
end Tt
namespace Tt
open PySem L2
end Tt
namespace Tt
open PySem L2
theorem snap_get {H : Hp} {sl : Addr} {vs : List V} {css : List (List (Option Ct))} {B : Book} (hV : SnsV H sl vs css) (hS : Snap B css) (ok : BkOk B) {h : Int} (h0 : 0 ≤ h) (h1 : h ≤ B.hour) :
    ∃ l zs cs k, atI vs h = some (.ref l) ∧ H l = some (.lst zs) ∧ CtsV H zs cs ∧ B.at h = cs ++ List.replicate k none ∧ (∀ c ∈ cs, CtNe c) ∧ (cs.length : Int) ≤ B.hour := by
  obtain ⟨m, rfl⟩ : ∃ m : Nat, h = (m : Int) := ⟨h.toNat, by omega⟩
  have hl := hS.len
  have hv := hV.len
  have hm : m < css.length := by omega
  have e1 : css[m]? = some css[m] := by simp
  have e2 : vs[m]? = some (vs[m]'(by omega)) := by simp
  obtain ⟨l, zs, e3, e4, e5⟩ := hV.at' m _ _ e2 e1
  obtain ⟨k, ek⟩ := hS.at' m _ e1
  refine ⟨l, zs, css[m], k, by rw [← e3]; exact atI_nat e2, e4, e5, ek, fun c hc => ok.at (m : Int) c (by rw [ek]; exact List.mem_append_left _ hc), ?_⟩
  have := bat_len B (m : Int)
  rw [ek, List.length_append] at this
  have := ok.few
  omega
end Tt
namespace Tt
open PySem L2
def FnAt (K : PySem.W.Frag) (mg : Str → Option Value) (nm : Str) (st : Stmt) (ps : List Str) : Prop := ∃ f fd, Fun K nm nm st f fd ∧ Binds K fd ps [] ∧ mg nm = some (.ref f)
def MethAt (K : PySem.W.Frag) (CL : Addr) (nm qual : Str) (st : Stmt) (ps : List Str) : Prop := ∃ f fd, Fun K nm qual st f fd ∧ Binds K fd ps [] ∧ Meth K CL nm f
def XAt (K : PySem.W.Frag) (mg : Str → Option Value) (R : Addr) (nm qual : Str) (st : Stmt) : Prop := ∃ C fI fdI, mg nm = some (.ref C) ∧ XCls K R C ∧ PySem.W.findIn K (.ref C) "__init__" = some (some (.ref fI)) ∧ PySem.W.isFn K (.ref fI) = true ∧ Fun K "__init__" qual st fI fdI ∧ Binds K fdI ["self"] []
section
variable {P : Program} {w : World} {K : PySem.W.Frag} {mg : Str → Option Value} {base : Heap} {CL R : Addr}
theorem ledger_ok (B0 : TopB mg) (C : TopC mg) (U : TopU mg) (S : TopS mg) (N : TopN mg) (M : TopM mg) (X : TopX mg R) (YR : XCls K R R)
    (aRI : ∃ fR fdR, Fun K "__init__" "Refused.__init__" (inClass sRefused 0) fR fdR ∧ Binds K fdR ["self", "words"] [] ∧ CFn K R "__init__" fR)
    (x1 : XAt K mg R "NoPosting" "NoPosting.__init__" (inClass sNoPosting 0)) (x2 : XAt K mg R "Struck" "Struck.__init__" (inClass sStruck 0)) (x3 : XAt K mg R "SameAccount" "SameAccount.__init__" (inClass sSameAccount 0)) (x4 : XAt K mg R "NoAmount" "NoAmount.__init__" (inClass sNoAmount 0))
    (x5 : XAt K mg R "Closed" "Closed.__init__" (inClass sClosed 0)) (x6 : XAt K mg R "NoDays" "NoDays.__init__" (inClass sNoDays 0)) (x7 : XAt K mg R "NotYet" "NotYet.__init__" (inClass sNotYet 0))
    (mL : mg "Ledger" = some (.ref CL)) (L : LCls K CL) (mkl : ∃ fI fdI, Fun K "__init__" "Ledger.__init__" mIN fI fdI ∧ Binds K fdI ["self"] [] ∧ Mk K CL fI)
    (m1 : MethAt K CL "move" "Ledger.move" mMV ["self", "day", "one", "other", "amount"]) (m2 : MethAt K CL "put_right" "Ledger.put_right" mPR ["self", "number", "day", "one", "other", "amount"]) (m3 : MethAt K CL "strike" "Ledger.strike" mSK ["self", "number"]) (m4 : MethAt K CL "close_days" "Ledger.close_days" mCD ["self", "day"])
    (m5 : MethAt K CL "balance" "Ledger.balance" mBA ["self", "account", "day", "hour"]) (m6 : MethAt K CL "sheet" "Ledger.sheet" mSH ["self", "account", "first", "last", "hour"]) (m7 : MethAt K CL "news" "Ledger.news" mNW ["self", "account", "day", "hour", "later"]) (m8 : MethAt K CL "contents_at" "Ledger.contents_at" mCA ["self", "hour"])
    (m9 : MethAt K CL "has_posting" "Ledger.has_posting" mHP ["self", "number"]) (m10 : MethAt K CL "standing_content" "Ledger.standing_content" mSC ["self", "number"]) (m11 : MethAt K CL "tell_version" "Ledger.tell_version" mTV ["self", "number", "content"]) (m12 : MethAt K CL "check_free" "Ledger.check_free" mCF ["self", "day"]) (m13 : MethAt K CL "check_hour" "Ledger.check_hour" mCH ["self", "hour"])
    (aE : FnAt K mg "effect" sEff ["content", "account", "day"]) (aB : FnAt K mg "balance_of" sBal ["contents", "account", "day"]) (aS : FnAt K mg "sheet_of" sSheet ["contents", "account", "first", "last"]) (aL : FnAt K mg "lines_of" sLines ["contents", "account", "first", "last"]) (aN : FnAt K mg "news_of" sNews ["contents", "later", "account", "day"]) (aCo : FnAt K mg "content_of" sCof ["contents", "number"])
    (aK : FnAt K mg "known" sKnown ["versions", "hour"]) (aSi : FnAt K mg "check_sides" sSides ["one", "other", "amount"]) (aA : FnAt K mg "answer" sAnswer ["ledger", "deed"]) (aC : FnAt K mg "carry_out" sCarry ["ledger", "deed"]) : LedgerOk P w K mg base CL := by
  obtain ⟨fR, fdR, FR, bR, CR⟩ := aRI
  obtain ⟨fE, fdE, FE, bE, mE⟩ := aE
  obtain ⟨fB, fdB, FB, bB, mB⟩ := aB
  obtain ⟨fS, fdS, FS, bS, mS⟩ := aS
  obtain ⟨fL, fdL, FL, bL, mLi⟩ := aL
  obtain ⟨fN, fdN, FN, bN, mN⟩ := aN
  obtain ⟨fCo, fdCo, FCo, bCo, mCo⟩ := aCo
  obtain ⟨fK, fdK, FK, bK, mK⟩ := aK
  obtain ⟨fSi, fdSi, FSi, bSi, mSi⟩ := aSi
  obtain ⟨fA, fdA, FA, bA, mA⟩ := aA
  obtain ⟨fC, fdC, FC, bC, mC⟩ := aC
  obtain ⟨f1, d1, F1, b1, n1⟩ := m1
  obtain ⟨f2, d2, F2, b2, n2⟩ := m2
  obtain ⟨f3, d3, F3, b3, n3⟩ := m3
  obtain ⟨f4, d4, F4, b4, n4⟩ := m4
  obtain ⟨f5, d5, F5, b5, n5⟩ := m5
  obtain ⟨f6, d6, F6, b6, n6⟩ := m6
  obtain ⟨f7, d7, F7, b7, n7⟩ := m7
  obtain ⟨f8, d8, F8, b8, n8⟩ := m8
  obtain ⟨f9, d9, F9, b9, n9⟩ := m9
  obtain ⟨f10, d10, F10, b10, n10⟩ := m10
  obtain ⟨f11, d11, F11, b11, n11⟩ := m11
  obtain ⟨f12, d12, F12, b12, n12⟩ := m12
  obtain ⟨f13, d13, F13, b13, n13⟩ := m13
  obtain ⟨fI, fdI, FI, bI, MI⟩ := mkl
  obtain ⟨C1, i1, j1, g1, Y1, h1, k1, E1, c1⟩ := x1
  obtain ⟨C2, i2, j2, g2, Y2, h2, k2, E2, c2⟩ := x2
  obtain ⟨C3, i3, j3, g3, Y3, h3, k3, E3, c3⟩ := x3
  obtain ⟨C4, i4, j4, g4, Y4, h4, k4, E4, c4⟩ := x4
  obtain ⟨C5, i5, j5, g5, Y5, h5, k5, E5, c5⟩ := x5
  obtain ⟨C6, i6, j6, g6, Y6, h6, k6, E6, c6⟩ := x6
  obtain ⟨C7, i7, j7, g7, Y7, h7, k7, E7, c7⟩ := x7
  have XA : XAll P w K mg base R :=
    ⟨⟨C1, i1, j1, g1, Y1, h1, k1, ok_XI_NoPosting E1 X FR bR CR, c1⟩, ⟨C2, i2, j2, g2, Y2, h2, k2, ok_XI_Struck E2 X FR bR CR, c2⟩, ⟨C3, i3, j3, g3, Y3, h3, k3, ok_XI_SameAccount E3 X FR bR CR, c3⟩, ⟨C4, i4, j4, g4, Y4, h4, k4, ok_XI_NoAmount E4 X FR bR CR, c4⟩,
     ⟨C5, i5, j5, g5, Y5, h5, k5, ok_XI_Closed E5 X FR bR CR, c5⟩, ⟨C6, i6, j6, g6, Y6, h6, k6, ok_XI_NoDays E6 X FR bR CR, c6⟩, ⟨C7, i7, j7, g7, Y7, h7, k7, ok_XI_NotYet E7 X FR bR CR, c7⟩⟩
  have LMs : LM P w K mg base CL R :=
    ⟨⟨f1, d1, ok_move F1 B0 L XA FSi bSi mSi F12 b12 n12, b1, n1⟩,
     ⟨f2, d2, ok_right F2 B0 C L XA FSi bSi mSi F12 b12 n12 F9 b9 n9 FK bK mK F10 b10 n10 F11 b11 n11, b2, n2⟩,
     ⟨f3, d3, ok_strike F3 B0 C L XA F12 b12 n12 F9 b9 n9 FK bK mK F10 b10 n10 F11 b11 n11, b3, n3⟩,
     ⟨f4, d4, ok_close F4 L XA F12 b12 n12, b4, n4⟩,
     ⟨f5, d5, ok_balM F5 C U L XA F13 b13 n13 FK bK mK F8 b8 n8 FB bB mB FE bE mE, b5, n5⟩,
     ⟨f6, d6, ok_sheM F6 C U S N L XA F13 b13 n13 FK bK mK F8 b8 n8 FB bB mB FE bE mE FL bL mLi FS bS mS, b6, n6⟩,
     ⟨f7, d7, ok_newM F7 B0 C M L XA F13 b13 n13 FK bK mK F8 b8 n8 FE bE mE FCo bCo mCo FN bN mN, b7, n7⟩⟩
  exact ⟨⟨fI, fdI, MI, ok_initL FI L, bI, mL⟩, ⟨fA, fdA, ok_answer FA L LMs X YR FC bC mC, bA, mA, FA.kp⟩⟩
end
end Tt
namespace Tt
open PySem L2
def spLaw (K : PySem.W.Frag) : Sp := fun vs H Q _ => ∃ (a : Addr) (ns : List Int), vs = [.ref a] ∧ SqL K H a (ns.map V.int) ∧ ns.length ≤ 63 ∧ ∀ H', Q (.bl true) H'
theorem cut_ints (ns : List Int) (lo m : Nat) : ∃ ms : List Int, cutV (ns.map V.int) (some (lo : Int)) (some ((lo : Int) + (m : Int))) = ms.map V.int ∧ ms.length ≤ m := by
  unfold cutV
  have e : ((lo : Int) + (m : Int)) = ((lo + m : Nat) : Int) := by omega
  rw [e, HT.sIx_nat, HT.sIx_nat, ← List.map_drop, ← List.map_take]
  exact ⟨_, rfl, by rw [List.length_take, List.length_drop, List.length_map]; omega⟩
theorem deed_scalar (d : Deed) : d.row.all scalar = true := by
  cases d with
  | move c => obtain ⟨a, b, c, e⟩ := c; rfl
  | right n c => obtain ⟨a, b, c, e⟩ := c; rfl
  | _ => rfl
theorem deed_len (d : Deed) : d.row.length ≤ 6 := by
  cases d with
  | move c => obtain ⟨a, b, c, e⟩ := c; show 5 ≤ 6; decide
  | right n c => obtain ⟨a, b, c, e⟩ := c; exact Nat.le_refl 6
  | strike n => show 2 ≤ 6; decide
  | close n => show 2 ≤ 6; decide
  | bal a d h => show 4 ≤ 6; decide
  | sheet a f l h => show 5 ≤ 6; decide
  | news a d h l => show 5 ≤ 6; decide
theorem deeds_scalar (ds : List Deed) : ∀ row ∈ ds.map Deed.row, row.all scalar = true := fun row h => by
  obtain ⟨d, _, rfl⟩ := List.mem_map.mp h
  exact deed_scalar d
theorem deeds_len (ds : List Deed) : ∀ row ∈ ds.map Deed.row, row.length ≤ 6 := fun row h => by
  obtain ⟨d, _, rfl⟩ := List.mem_map.mp h
  exact deed_len d
def deedsPV (ds : List Deed) : PV := .lst ((ds.map Deed.row).map fun row => .tup (row.map pvOf))
theorem deeds_deep {H : Hp} {l : Addr} {zs : List V} {ds : List Deed} (hR : RowsAt H zs (ds.map Deed.row)) (hl : H l = some (.lst zs)) : Deep H (deedsPV ds) (.ref l) := hR.deep hl (deeds_scalar ds)
theorem deeds_size (ds : List Deed) : (deedsPV ds).size ≤ 1 + ds.length * 7 := by
  have := rows_size (deeds_len ds)
  rw [List.length_map] at this
  exact this
end Tt
namespace Tt
open PySem L2
theorem step_ask {B : Book} {d : Deed} (h : d.chg = false) : stepB B d = B := by
  unfold stepB
  split
  · rfl
  · cases d <;> first | rfl | cases h
end Tt
namespace Tt
open PySem L2
def spSnapped (K : PySem.W.Frag) : Sp := fun vs H Q _ => ∃ (l : Addr) (zs : List V) (ds : List Deed), vs = [.ref l] ∧ SqL K H l zs ∧ RowsAt H zs (ds.map Deed.row) ∧ ds.length ≤ 62 ∧
  ∀ sl ws css H', Same H H' → H sl = none → SnsV H' sl ws css → (∀ v ∈ ws, ∃ l, v = V.ref l ∧ H l = none) → Snap (runB book0 ds) css → Q (.ref sl) H'
section
variable {P : Program} {w : World} {K : PySem.W.Frag} {mg : Str → Option Value} {base : Heap}
theorem scSnapped : FnScope ["_law_asked", "_law_snaps", "_law_closed", "_law_deed"] ["_law_asked"] (defScope sSnapped) := ⟨rfl, rfl, rfl, by decide +kernel, rfl, by decide +kernel, by decide +kernel⟩
theorem ok_snapped {f fC fS fB : Addr} {fd fdC fdS fdB : FuncData} (F : Fun K "_law_snapped" "_law_snapped" sSnapped f fd) (B : TopB mg) (L : TopL mg) (M : mg "min" = none)
    (FC : Fun K "_law_changes" "_law_changes" sChg fC fdC) (bC : Binds K fdC ["_law_deed"] []) (mC : mg "_law_changes" = some (.ref fC))
    (FS : Fun K "_law_step" "_law_step" sStep fS fdS) (bS : Binds K fdS ["_law_snaps", "_law_closed", "_law_deed"] []) (mS : mg "_law_step" = some (.ref fS))
    (FB : Fun K "_law_barred" "_law_barred" sBar fB fdB) (bB : Binds K fdB ["_law_now", "_law_closed", "_law_deed"] []) (mB : mg "_law_barred" = some (.ref fB)) : FnOk P w K mg base CX0 3 f fd ["_law_asked"] (spSnapped K) := by
  have GS : FnOk P w K mg base CX0 2 fS fdS ["_law_snaps", "_law_closed", "_law_deed"] (spStep K) := ok_step FS B L M FB bB mB
  have GC : FnOk P w K mg base CX0 1 fC fdC ["_law_deed"] spChg := ok_chg FC
  refine F.ok scSnapped (fun vs H Q E h => ?_) (fun cdv A outer s H vs Q E hr h => ?_)
  · obtain ⟨l, zs, ds, rfl, _⟩ := h
    rfl
  · obtain ⟨l, mz, dds, rfl, hl, hR, h62, k⟩ := h
    have nd := scSnapped.nd
    have hr1 : Room 1 _ := hr.mono (by decide)
    refine ⟨_, (pss_cons (ps_set (i := 1) nd rfl (Or.inl rfl) (pe_lst (pa1 (pe_lst pa_nil))))
      (pss_cons (ps_set (i := 2) nd rfl (Or.inl rfl) pe_non)
      (pss_cons (ps_for PassesOwn.never rfl (pi_list (pv 0)) (pg_name (i := 3) nd rfl (Or.inl rfl)) (pss_one (ps_if (pt_val (pcall GC hr1 (by rfl) mC FC.kp bC .nil pass0 (pa1 (pv 3)))) (pss_one (ps_set (i := 2) nd rfl (Or.inl rfl) (pe_ix ix_tup (pcall GS hr (by rfl) mS FS.kp bS .nil pass0 (pa3 (pv 1) (pv 2) (pv 3))) pe_int (fun _ _ => rfl)))) pss_nil)))
      (pss_one (ps_ret (pv 1)))))), ?_⟩
    refine ⟨lz, fun l0 hl0 => ⟨lz, fun sl hsl => ?_⟩⟩
    have a1 := Same.upd0 (o := .lst []) hl0
    have hl01 : upd H l0 (.lst []) l0 = some (.lst []) := upd_same
    have n1 : l0 ≠ sl := ne_of_none hl01 hsl
    have f1 : H sl = none := a1.free hsl
    have a2 := Same.upd0 (o := .lst [.ref l0]) hsl
    have hsl2 : upd (upd H l0 (.lst [])) sl (.lst [.ref l0]) sl = some (.lst [.ref l0]) := upd_same
    have V0 : SnsV (upd (upd H l0 (.lst [])) sl (.lst [.ref l0])) sl [.ref l0] [[]] := by
      refine ⟨hsl2, rfl, fun i v cs h1 h2 => ?_, fun v hv => ?_⟩
      · match i, h1, h2 with
        | 0, h1, h2 =>
          cases h1
          cases h2
          exact ⟨l0, [], rfl, a2 _ _ hl01, CtsV.nil⟩
        | i + 1, h1, h2 => simp at h1
      · obtain rfl : v = .ref l0 := by simpa using hv
        exact fun z => n1 (by injection z)
    have s02 : Same H (upd (upd H l0 (.lst [])) sl (.lst [.ref l0])) := a1.trans a2
    generalize upd (upd H l0 (.lst [])) sl (.lst [.ref l0]) = H2 at V0 s02 ⊢
    have hml : mz.length = dds.length := by rw [hR.len, List.length_map]
    refine ⟨_, rfl, l, rfl, ⟨_, s02.seq hl⟩, for_list (K := K) (a := l) (xs := mz) (fun i σ H3 => ∃ (x3 : Option V) (vs : List V) (css : List (List (Option Ct))), σ = [some (.ref l), some (.ref sl), some (cdV (runB book0 (dds.take i)).closed), x3] ∧ Same H H3 ∧ SnsV H3 sl vs css ∧ (∀ v ∈ vs, ∃ l, v = V.ref l ∧ H l = none) ∧ Snap (runB book0 (dds.take i)) css)
      ⟨_, _, _, rfl, s02, V0, fun v hv => ⟨l0, by simpa using hv, hl0⟩, snap0⟩ (fun i σ H3 _ h => by obtain ⟨_, _, _, _, s3, _⟩ := h; exact s3.seq hl) ?_ ?_⟩
    · rintro i y σ H3 hy ⟨x3, vs, css, rfl, s3, hV, hn, hSn⟩
      have hi : i < dds.length := by rw [← hml]; exact (List.getElem?_eq_some_iff.mp hy).1
      have ed : dds[i]? = some dds[i] := by simp
      have er : (dds.map Deed.row)[i]? = some dds[i].row := by rw [List.getElem?_map, ed]; rfl
      obtain ⟨p, rfl, hp⟩ := (hR.same s3).at' i y _ hy er
      have et : dds.take (i + 1) = dds.take i ++ [dds[i]] := by rw [List.take_add_one, ed]; rfl
      obtain ⟨ok, hh⟩ := run_ok (dds.take i)
      have hh62 : (runB book0 (dds.take i)).hour ≤ 62 := by rw [List.length_take] at hh; omega
      rw [et, run_snoc]
      generalize dds[i] = d at hp ⊢
      refine ⟨_, rfl, p, d, rfl, hp, fun H4 s4 => ⟨d.chg, rfl, ?_⟩⟩
      cases hc : d.chg with
      | false =>
        rw [step_ask hc]
        exact iteF ⟨_, vs, css, rfl, s3.trans s4, hV.same s4, hn, hSn⟩
      | true =>
        refine iteT ?_
        refine ⟨_, rfl, _, rfl, _, rfl, sl, p, vs, css, _, d, rfl, hV.same s4, hSn, ok, hh62, s4 _ _ hp, hc, fun q vs' css' H8 e8 n8 hq8 V8 S8 _ => ?_⟩
        refine ⟨q, _, 1, _, rfl, rfl, SqT.of hq8, rfl, ?_⟩
        refine ⟨_, vs', css', rfl, e8.same (s3.trans s4) f1, V8, fun v hv => ?_, S8⟩
        rcases n8 v hv with z | ⟨l', rfl, z⟩
        · exact hn v z
        · exact ⟨l', rfl, (s3.trans s4).free z⟩
    · rintro σ H3 ⟨x3, vs, css, rfl, s3, hV, hn, hSn⟩
      rw [hml, List.take_length] at hSn
      exact ⟨_, rfl, k sl vs css H3 s3 f1 hV hn hSn⟩
end
end Tt
namespace Tt
open PySem L2
def spBehind (K : PySem.W.Frag) (CL : Addr) : Sp := fun vs H Q _ => ∃ (l : Addr) (zs : List V) (ds : List Deed), vs = [.ref l] ∧ SqL K H l zs ∧ RowsAt H zs (ds.map Deed.row) ∧ ds.length ≤ 62 ∧
  ∀ a hl vis H', LI CL H H' a hl vis ds → Q (.ref a) H'
section
variable {P : Program} {w : World} {K : PySem.W.Frag} {mg : Str → Option Value} {base : Heap} {CL : Addr}
theorem scBehind : FnScope ["deeds", "ledger", "deed"] ["deeds"] (defScope sBehind) := ⟨rfl, rfl, rfl, by decide +kernel, rfl, by decide +kernel, by decide +kernel⟩
theorem ok_behind {f : Addr} {fd : FuncData} (F : Fun K "ledger_behind" "ledger_behind" sBehind f fd) (LO : LedgerOk P w K mg base CL) : FnOk P w K mg base CX0 8 f fd ["deeds"] (spBehind K CL) := by
  obtain ⟨fI, fdI, MI, GI, bI, mI⟩ := LO.mkl
  obtain ⟨fA, fdA, GA, bA, mA, kA⟩ := LO.an
  refine F.ok scBehind (fun vs H Q E h => ?_) (fun cdv A outer s H vs Q E hr h => ?_)
  · obtain ⟨l, zs, ds, rfl, _⟩ := h
    rfl
  · obtain ⟨l, zs, ds, rfl, hl0, hR, h62, k⟩ := h
    have nd := scBehind.nd
    have hr2 : Room 2 _ := hr.mono (by decide)
    refine ⟨_, pss_cons (ps_set (i := 1) nd rfl (Or.inl rfl) (pe_make0 MI GI hr2 (by rfl) mI bI .nil pass0))
      (pss_cons (ps_for PassesOwn.never rfl (pi_list (pv 0)) (pg_name (i := 2) nd rfl (Or.inl rfl)) (pss_one (ps_expr (pcall GA hr (by rfl) mA kA bA .nil pass0 (pa2 (pv 1) (pv 2))))))
      (pss_one (ps_ret (pv 1)))), ?_⟩
    refine fun a dx ha hdx hne => ⟨a, dx, rfl, upd_same, fun H1 hl hB hk hhl => ⟨rfl, ?_⟩⟩
    have I1 : LI CL H H1 a hl [] [] := LI.start ha hdx hB hk hhl
    have hzl : zs.length = ds.length := by rw [hR.len, List.length_map]
    have hS : ∀ {H2 vis ds'}, LI CL H H2 a hl vis ds' → Same H H2 := fun I => I.same.trans hide_sub
    refine ⟨_, rfl, l, rfl, ⟨_, (hS I1).seq hl0⟩, for_list (K := K) (a := l) (xs := zs) (fun i σ H2 => ∃ (x2 : Option V) (vis : List Addr), σ = [some (.ref l), some (.ref a), x2] ∧ LI CL H H2 a hl vis (ds.take i))
      ⟨_, [], rfl, I1⟩ (fun i σ H2 _ q => by obtain ⟨_, _, _, I⟩ := q; exact (hS I).seq hl0) ?_ ?_⟩
    · rintro i x σ H2 hx ⟨x2, vis, rfl, I2⟩
      have hi : i < ds.length := by rw [← hzl]; exact (List.getElem?_eq_some_iff.mp hx).1
      have ed : ds[i]? = some ds[i] := by simp
      have er : (ds.map Deed.row)[i]? = some ds[i].row := by rw [List.getElem?_map, ed]; rfl
      obtain ⟨p, rfl, hp⟩ := hR.at' i x _ hx er
      obtain ⟨ok, hh⟩ := run_ok (ds.take i)
      have hh62 : (runB book0 (ds.take i)).hour ≤ 62 := by rw [List.length_take] at hh; omega
      refine ⟨_, rfl, _, rfl, a, hl, p, vis, _, ds[i], rfl, I2.bk, ok, hh62, hS I2 _ _ hp, fun v pv H3 vis3 hst hd hB3 x3 n3 => ?_⟩
      have et : ds.take (i + 1) = ds.take i ++ [ds[i]] := by rw [List.take_add_one, ed]; rfl
      rw [et]
      exact ⟨_, vis3, rfl, I2.step hB3 x3 n3⟩
    · rintro σ H2 ⟨x2, vis, rfl, I2⟩
      rw [hzl, List.take_length] at I2
      exact ⟨_, rfl, k a hl vis H2 I2⟩
end
end Tt
namespace Tt
open PySem L2 PyProof.Rows
def ctNames : Option Ct → List Str
  | none => []
  | some c => [c.2.1, c.2.2.1]
def namesOf (cs : List (Option Ct)) : List Str := cs.flatMap ctNames
structure SNames (cs : List (Option Ct)) (out : List Str) : Prop where
  nd : out.Nodup
  mem : ∀ x, x ∈ out ↔ x ∈ namesOf cs
  srt : sortedS out = true
theorem SNames.one {cs : List (Option Ct)} {a b : List Str} (h : SNames cs a) (g : SNames cs b) : a = b := L2.sorted_one a b h.srt g.srt h.nd g.nd fun x => (h.mem x).trans (g.mem x).symm
def allN : List Str := accts ++ (List.range 40).map fun i => noN (i : Nat)
theorem nms_all {x : Str} (h : nms x) : x ∈ allN := by
  unfold allN
  rcases h with h | ⟨n, h0, h1, e⟩
  · exact List.mem_append_left _ h
  · refine List.mem_append_right _ (List.mem_map.mpr ⟨n.toNat, List.mem_range.mpr (by omega), ?_⟩)
    rw [e]
    congr 1
    omega
theorem names_few {ts : List Str} (hn : ts.Nodup) (h : ∀ x ∈ ts, nms x) : ts.length ≤ 47 := by
  have := nodup_len ts allN hn fun x hx => nms_all (h x hx)
  have e : allN.length = 47 := by
    unfold allN
    rw [List.length_append, List.length_map, List.length_range]
    rfl
  omega
theorem names_take {cs : List (Option Ct)} {i : Nat} (hi : i < cs.length) : namesOf (cs.take (i + 1)) = namesOf (cs.take i) ++ ctNames cs[i] := by
  unfold namesOf
  rw [List.take_add_one, List.getElem?_eq_getElem hi, List.flatMap_append]
  congr 1
  show List.flatMap ctNames [cs[i]] = _
  simp
theorem names_sub {cs : List (Option Ct)} {i : Nat} {x : Str} (h : x ∈ namesOf (cs.take i)) : x ∈ namesOf cs := by
  unfold namesOf at *
  obtain ⟨c, hc, hx⟩ := List.mem_flatMap.mp h
  exact List.mem_flatMap.mpr ⟨c, List.mem_of_mem_take hc, hx⟩
def addN (ss : List Str) (x : Str) : List Str := if x ∈ ss then ss else ss ++ [x]
theorem addN_mem (ss : List Str) (x y : Str) : y ∈ addN ss x ↔ y ∈ ss ∨ y = x := by
  unfold addN
  split
  · rename_i h
    exact ⟨.inl, fun z => z.elim id fun z => z ▸ h⟩
  · rw [List.mem_append, List.mem_singleton]
theorem addN_nd {ss : List Str} (h : ss.Nodup) (x : Str) : (addN ss x).Nodup := by
  unfold addN
  split
  · exact h
  · rename_i hx
    rw [List.nodup_append]
    exact ⟨h, by simp, fun a ha b hb => by rw [show b = x by simpa using hb]; exact fun z => hx (z ▸ ha)⟩
theorem putK_names {kvs : List (Key × V)} {ss : List Str} (h : kvs.map (·.1) = ss.map Sum.inr) (x : Str) (v : V) : (putK kvs (Sum.inr x) v).map (·.1) = (addN ss x).map Sum.inr := by
  have e : (kvs.any fun kv => decide (kv.1 = (Sum.inr x : Key))) = decide (x ∈ ss) := by
    have : (kvs.any fun kv => decide (kv.1 = (Sum.inr x : Key))) = (kvs.map (·.1)).any fun k => decide (k = (Sum.inr x : Key)) := by rw [List.any_map]; rfl
    rw [this, h, List.any_map]
    by_cases hx : x ∈ ss
    · rw [decide_eq_true hx]
      exact List.any_eq_true.mpr ⟨x, hx, by simp⟩
    · rw [decide_eq_false hx, List.any_eq_false]
      intro y hy
      simp only [Function.comp, decide_eq_true_eq]
      intro z
      injection z with z
      exact hx (z ▸ hy)
  unfold putK addN
  rw [e]
  by_cases hx : x ∈ ss
  · rw [if_pos (decide_eq_true hx), if_pos hx, List.map_map, ← h]
    refine List.map_congr_left fun kv _ => ?_
    simp only [Function.comp]
    split <;> rfl
  · rw [if_neg (by simp [hx]), if_neg hx, List.map_append, List.map_append, h]
    rfl
def balRows (cs : List (Option Ct)) (day : Int) (out : List Str) : List (List V) := (out.filter fun a => decide (hasI cs a day ≠ 0)).map fun a => [V.str a, V.int (hasI cs a day)]
def NmC (cs : List (Option Ct)) : Prop := ∀ x ∈ namesOf cs, nms x
def spAccs (K : PySem.W.Frag) : Sp := fun vs H Q _ => ∃ (l : Addr) (zs : List V) (cs : List (Option Ct)), vs = [.ref l] ∧ SqL K H l zs ∧ CtsV H zs cs ∧ NmC cs ∧ ∀ out D H', SNames cs out → Same H H' → H D = none → H' D = some (.lst (out.map V.str)) → Q (.ref D) H'
def spBalsOf (K : PySem.W.Frag) : Sp := fun vs H Q _ => ∃ (l : Addr) (zs : List V) (cs : List (Option Ct)) (day : Int), vs = [.ref l, .int day] ∧ SqL K H l zs ∧ CtsV H zs cs ∧ NmC cs ∧ (∀ c ∈ cs, CtNe c) ∧ cs.length < 64 ∧
  ∀ out D ys H', SNames cs out → Same H H' → H D = none → H' D = some (.lst ys) → RowsAt H' ys (balRows cs day out) → Q (.ref D) H'
section
variable {P : Program} {w : World} {K : PySem.W.Frag} {mg : Str → Option Value} {base : Heap}
abbrev NAcO : List Str := ["contents", "named", "content"]
theorem scAccs : FnScope NAcO ["contents"] (defScope sAccsOf) := ⟨rfl, rfl, rfl, by decide +kernel, rfl, by decide +kernel, by decide +kernel⟩
theorem ok_accs {f : Addr} {fd : FuncData} (F : Fun K "accounts_of" "accounts_of" sAccsOf f fd) (C : TopC mg) (S : TopS mg) : FnOk P w K mg base CX0 1 f fd ["contents"] (spAccs K) := by
  obtain ⟨u1, m1, r1⟩ := C.one
  obtain ⟨u2, m2, r2⟩ := C.oth
  refine F.ok scAccs (fun vs H Q E h => ?_) (fun cdv A outer s H vs Q E hr h => ?_)
  · obtain ⟨l, zs, cs, rfl, _⟩ := h
    rfl
  · obtain ⟨l, zs, cs, rfl, hl, hc, hnm, kk⟩ := h
    have nd := scAccs.nd
    refine ⟨_, (pss_cons (ps_set (i := 1) nd rfl (Or.inl rfl) pe_dnewK)
      (pss_cons (ps_for PassesOwn.never rfl (pi_list (pv 0)) (pg_name (i := 2) nd rfl (Or.inl rfl))
        (pss_one (ps_if (pt_cmp (pc_notN (pv 2)))
          (pss_cons (ps_dputK (pv 1) (pe_ix ix_tup (pv 2) (pe_glob (by rfl) m1 r1) (fun _ _ => rfl)) pe_bl rfl)
            (pss_one (ps_dputK (pv 1) (pe_ix ix_tup (pv 2) (pe_glob (by rfl) m2 r2) (fun _ _ => rfl)) pe_bl rfl))) pss_nil)))
      (pss_one (ps_ret (pcB (call_sortedD rfl) (by rfl) S.sorted PyProof.Rows.boot_sorted (pa1 (pv 1))))))), ?_⟩
    refine fun d hd0 => ?_
    have s1 : Same H (upd H d (.dK [])) := Same.upd0 hd0
    have hd1 : upd H d (.dK []) d = some (.dK []) := upd_same
    generalize upd H d (.dK []) = H1 at s1 hd1 ⊢
    refine ⟨_, rfl, l, rfl, ⟨_, s1.seq hl⟩, for_list (K := K) (a := l) (xs := zs)
      (fun i σ H2 => ∃ (x2 : Option V) (kvs : List (Key × V)) (ss : List Str), σ = [some (.ref l), some (.ref d), x2] ∧ H2 d = some (.dK kvs) ∧ kvs.map (·.1) = ss.map Sum.inr ∧ ss.Nodup ∧ (∀ x, x ∈ ss ↔ x ∈ namesOf (cs.take i)) ∧ Same H H2)
      ⟨_, [], [], rfl, hd1, rfl, List.nodup_nil, fun x => ⟨fun z => (by cases z), fun z => (by simp [namesOf] at z)⟩, s1⟩ (fun i σ H2 _ h => let ⟨_, _, _, _, _, _, _, _, s2⟩ := h; s2.seq hl) ?_ ?_⟩
    · rintro i x σ H2 hx ⟨x2, kvs, ss, rfl, hd2, hk, hn, hm, s2⟩
      have hic : i < cs.length := by rw [← hc.len]; exact (List.getElem?_eq_some_iff.mp hx).1
      have ec : cs[i]? = some cs[i] := by simp
      have hat := (hc.at' i _ _ hx ec).same s2
      have step := names_take hic
      have sub : ∀ y ∈ ctNames cs[i], y ∈ namesOf cs := fun y hy => names_sub (i := i + 1) (by rw [step]; exact List.mem_append_right _ hy)
      have few : ∀ {ts : List Str}, ts.Nodup → (∀ y ∈ ts, y ∈ namesOf cs) → ∀ {kv : List (Key × V)}, kv.map (·.1) = ts.map Sum.inr → kv.length < sizeLine := fun h1 h2 kv e => by
        have := names_few h1 fun y hy => hnm y (h2 y hy)
        have e := congrArg List.length e
        rw [List.length_map, List.length_map] at e
        exact Nat.lt_of_le_of_lt (m := 47) (by omega) (by decide)
      generalize cs[i] = c at hat step sub ⊢
      match c, hat, step, sub with
      | none, hv, step, _ =>
        have hv : x = .non := hv
        subst hv
        refine ⟨_, rfl, _, rfl, iteF ?_⟩
        exact ⟨_, kvs, ss, rfl, hd2, hk, hn, fun y => by rw [step, hm y]; simp [ctNames], s2⟩
      | some (dy, o, t, a), ⟨p, hv, hp⟩, step, sub =>
        subst hv
        have T2 : SqT K H2 p [.int dy, .str o, .str t, .int a] := SqT.of hp
        have in1 : ∀ y ∈ ss, y ∈ namesOf cs := fun y hy => names_sub ((hm y).mp hy)
        refine ⟨_, rfl, true, rfl, iteT ?_⟩
        refine ⟨_, rfl, _, rfl, p, _, 1, .str o, rfl, rfl, T2, rfl, d, kvs, Sum.inr o, rfl, hd2, rfl, few hn in1 hk, ?_⟩
        have hk1 := putK_names hk o (V.bl true)
        have hn1 := addN_nd hn o
        have hm1 := addN_mem ss o
        have hd3 : upd H2 d (.dK (putK kvs (Sum.inr o) (V.bl true))) d = some (.dK (putK kvs (Sum.inr o) (V.bl true))) := upd_same
        have s3 : Same H (upd H2 d (.dK (putK kvs (Sum.inr o) (V.bl true)))) := s2.put hd0
        have hp3 : upd H2 d (.dK (putK kvs (Sum.inr o) (V.bl true))) p = some (.tup [.int dy, .str o, .str t, .int a]) := by rw [upd_ne (ne_of hp hd2 (by intro z; cases z))]; exact hp
        generalize upd H2 d (.dK (putK kvs (Sum.inr o) (V.bl true))) = H3 at hd3 s3 hp3 ⊢
        generalize putK kvs (Sum.inr o) (V.bl true) = kvs1 at hk1 hd3
        generalize addN ss o = ss1 at hk1 hn1 hm1
        have T3 : SqT K H3 p [.int dy, .str o, .str t, .int a] := SqT.of hp3
        have in2 : ∀ y ∈ ss1, y ∈ namesOf cs := fun y hy => by
          rcases (hm1 y).mp hy with z | z
          · exact in1 y z
          · exact sub y (by rw [z]; simp [ctNames])
        refine ⟨_, rfl, _, rfl, p, _, 2, .str t, rfl, rfl, T3, rfl, d, kvs1, Sum.inr t, rfl, hd3, rfl, few hn1 in2 hk1, ?_⟩
        refine ⟨_, _, _, rfl, upd_same, putK_names hk1 t _, addN_nd hn1 t, fun y => ?_, s3.put hd0⟩
        rw [addN_mem, hm1 y, hm y, step, List.mem_append]
        simp [ctNames, or_assoc]
    · rintro σ H2 ⟨x2, kvs, ss, rfl, hd2, hk, hn, hm, s2⟩
      rw [hc.len, List.take_length] at hm
      have hlen := names_few hn fun y hy => hnm y ((hm y).mp hy)
      refine ⟨_, rfl, d, kvs, ss, rfl, hd2, hk, by omega, fun out hp ho D hD => ?_⟩
      exact kk out D _ ⟨hp.nodup_iff.mpr hn, fun x => by rw [hp.mem_iff]; exact hm x, ho⟩ (s2.trans (Same.upd0 hD)) (s2.free hD) upd_same
end
end Tt
namespace Tt
open PySem L2 PyProof.Rows
def balAll (cs : List (Option Ct)) (day : Int) (out : List Str) : List (List V) := out.map fun a => [V.str a, V.int (hasI cs a day)]
theorem filter_bal (cs : List (Option Ct)) (day : Int) (out : List Str) (i : Nat) (hi : i < out.length) : balRows cs day (out.take (i + 1)) = balRows cs day (out.take i) ++ (if hasI cs out[i] day = 0 then [] else [[V.str out[i], V.int (hasI cs out[i] day)]]) := by
  unfold balRows
  rw [List.take_add_one, List.getElem?_eq_getElem hi, List.filter_append, List.map_append]
  congr 1
  show List.map _ (List.filter _ [out[i]]) = _
  by_cases h : hasI cs out[i] day = 0
  · rw [if_pos h, List.filter_cons, if_neg (by simp [h])]
    rfl
  · rw [if_neg h, List.filter_cons, if_pos (by simp [h])]
    rfl
theorem bal_len (cs : List (Option Ct)) (day : Int) (out : List Str) : (balRows cs day out).length ≤ out.length := by
  unfold balRows
  rw [List.length_map]
  exact List.length_filter_le _ _
def spBalances (K : PySem.W.Frag) : Sp := fun vs H Q _ => ∃ (l : Addr) (zs : List V) (ds : List Deed) (day h : Int), vs = [.ref l, .int day, .int h] ∧ SqL K H l zs ∧ RowsAt H zs (ds.map Deed.row) ∧ ds.length ≤ 62 ∧ NmC ((runB book0 ds).at h) ∧
  ∀ out D ys H', SNames ((runB book0 ds).at h) out → Same H H' → H D = none → H' D = some (.lst ys) → RowsAt H' ys (balRows ((runB book0 ds).at h) day out) → Q (.ref D) H'
section
variable {P : Program} {w : World} {K : PySem.W.Frag} {mg : Str → Option Value} {base : Heap} {CL : Addr}
abbrev NBso : List Str := ["contents", "day", "pairs"]
theorem scBso : FnScope NBso ["contents", "day"] (defScope sBalsOf) := ⟨rfl, rfl, rfl, by decide +kernel, rfl, by decide +kernel, by decide +kernel⟩
theorem ok_balsOf {f fA fB fE : Addr} {fd fdA fdB fdE : FuncData} (F : Fun K "balances_of" "balances_of" sBalsOf f fd) (C : TopC mg) (S : TopS mg) (U : TopU mg)
    (FA : Fun K "accounts_of" "accounts_of" sAccsOf fA fdA) (bA : Binds K fdA ["contents"] []) (mA : mg "accounts_of" = some (.ref fA))
    (FB : Fun K "balance_of" "balance_of" sBal fB fdB) (bB : Binds K fdB ["contents", "account", "day"] []) (mB : mg "balance_of" = some (.ref fB))
    (FE : Fun K "effect" "effect" sEff fE fdE) (bE : Binds K fdE ["content", "account", "day"] []) (mE : mg "effect" = some (.ref fE)) : FnOk P w K mg base CX0 3 f fd ["contents", "day"] (spBalsOf K) := by
  have GA : FnOk P w K mg base CX0 1 fA fdA ["contents"] (spAccs K) := ok_accs FA C S
  have GB : FnOk P w K mg base CX0 2 fB fdB ["contents", "account", "day"] (spBal K) := ok_bal FB C U FE bE mE
  refine F.ok scBso (fun vs H Q E h => ?_) (fun cdv A outer s H vs Q E hr h => ?_)
  · obtain ⟨l, zs, cs, day, rfl, _⟩ := h
    rfl
  · obtain ⟨l, zs, cs, day, rfl, hl, hc, hnm, hne, h64, kk⟩ := h
    have nd := scBso.nd
    have hr1 : Room 1 _ := hr.mono (by decide)
    have hr2 : Room 2 _ := hr.mono (by decide)
    refine ⟨_, (pss_cons (ps_comp (x := "account") (fr := ["contents", "day"]) (ix := [0, 1]) (NN := NBso) (sx := defScope sBalsOf) ⟨rfl, by decide +kernel, by decide +kernel, rfl, by decide +kernel, by decide +kernel, by decide +kernel, rfl⟩ rfl rfl rfl nd (i := 2) rfl rfl (pi_list (pcall GA hr1 (by rfl) mA FA.kp bA .nil pass0 (pa1 (pv 0)))) (fun _ _ _ _ _ => pts_nil) (fun cl s H fp C => (pe_tup (pa2 (pv 0) (pcall GB hr2 (by rfl) mB FB.kp bB .nil pass0 (pa3 (pv 1) (pv 0) (pv 2)))))) (by rfl))
      (pss_one (ps_ret (pe_comp (x := "pair") (fr := []) (ix := []) (NN := NBso) (sx := defScope sBalsOf) ⟨rfl, by decide +kernel, by decide +kernel, rfl, by decide +kernel, by decide +kernel, by decide +kernel, rfl⟩ rfl rfl rfl (pi_list (pv 2)) (fun _ _ _ _ _ => (pts_one (pt_cmpR op_ne (pe_ix ix_tupC (pv 0) pe_int (fun _ _ => rfl)) pe_int (nomark _)))) (fun cl s H fp C => (pv 0)))))), ?_⟩
    refine ⟨_, rfl, l, zs, cs, rfl, hl, hc, hnm, fun out D1 H1 hS s1 hDn hD1 => ?_⟩
    have few : out.length ≤ 47 := names_few hS.nd fun x hx => hnm x ((hS.mem x).mp hx)
    have hol : (out.map V.str).length = out.length := List.length_map ..
    refine ⟨D1, rfl, ⟨_, SqL.of hD1⟩, comp_list (K := K) (a := D1) (xs := out.map V.str) (fun i ys H2 => ys.length ≤ i ∧ Same H1 H2 ∧ RowsAt H2 ys (balAll cs day (out.take i)))
      (Nat.lt_of_le_of_lt (m := 47) (by omega) (by decide)) (fun i ys H2 q => q.1) (fun i ys H2 q => SqL.of (q.2.1 _ _ hD1)) ⟨Nat.le_refl _, Same.refl _, RowsAt.nil⟩ ?_ ?_⟩
    · rintro i x ys H2 hx ⟨q1, q2, q3⟩
      refine tAll_if ?_
      have hi : i < out.length := by rw [← hol]; exact (List.getElem?_eq_some_iff.mp hx).1
      obtain rfl : V.str out[i] = x := by
        rw [List.getElem?_map, List.getElem?_eq_getElem hi] at hx
        injection hx
      have s2 := s1.trans q2
      refine ⟨_, rfl, _, rfl, _, rfl, _, rfl, l, zs, cs, out[i], day, rfl, s2.seq hl, hc.same s2, hne, h64, fun H3 s3 => ⟨lz, fun q hq => ?_⟩⟩
      have s4 := Same.upd0 (o := .tup [V.str out[i], V.int (hasI cs out[i] day)]) hq
      refine ⟨by rw [List.length_append]; show ys.length + 1 ≤ i + 1; omega, (q2.trans s3).trans s4, ?_⟩
      have e : balAll cs day (out.take (i + 1)) = balAll cs day (out.take i) ++ [[V.str out[i], V.int (hasI cs out[i] day)]] := by
        unfold balAll
        rw [List.take_add_one, List.getElem?_eq_getElem hi, List.map_append]
        rfl
      rw [e]
      exact (q3.same (s3.trans s4)).snoc upd_same
    rintro az H2 ⟨hazl, s2, hRz⟩ D2 hD2
    rw [hol, List.take_length] at hRz
    have s3 := Same.upd0 (o := .lst az) hD2
    have hD3 : upd H2 D2 (.lst az) D2 = some (.lst az) := upd_same
    have hR3 := hRz.same s3
    have s03 := (s1.trans s2).trans s3
    generalize upd H2 D2 (.lst az) = H3 at s3 hD3 hR3 s03 ⊢
    have haz : az.length = out.length := by rw [hR3.len]; unfold balAll; rw [List.length_map]
    refine ⟨_, rfl, D2, rfl, ⟨_, SqL.of hD3⟩, comp_list (K := K) (a := D2) (xs := az) (fun i ys H4 => H4 = H3 ∧ ys.length ≤ i ∧ RowsAt H4 ys (balRows cs day (out.take i)))
      (Nat.lt_of_le_of_lt (m := 47) (by omega) (by decide)) (fun i ys H2 q => q.2.1) (fun i ys H2 q => q.1 ▸ SqL.of hD3) ⟨rfl, Nat.le_refl _, RowsAt.nil⟩ ?_ ?_⟩
    · rintro i x ys H4 hx ⟨rfl, q2, q3⟩
      have hi : i < out.length := by rw [← haz]; exact (List.getElem?_eq_some_iff.mp hx).1
      have er : (balAll cs day out)[i]? = some [V.str out[i], V.int (hasI cs out[i] day)] := by
        unfold balAll
        rw [List.getElem?_map, List.getElem?_eq_getElem hi]
        rfl
      obtain ⟨p, rfl, hp⟩ := hR3.at' i x _ hx er
      refine ⟨_, rfl, p, _, 1, V.int (hasI cs out[i] day), rfl, rfl, SqT.of hp, rfl, rfl, !decide (V.int (hasI cs out[i] day) = V.int 0), rfl, ?_⟩
      rw [filter_bal cs day out i hi]
      by_cases hz : hasI cs out[i] day = 0
      · rw [decide_eq_true (by rw [hz] : V.int (hasI cs out[i] day) = V.int 0), if_pos hz, List.append_nil]
        exact iteF ⟨rfl, by omega, q3⟩
      · rw [decide_eq_false (fun z : V.int (hasI cs out[i] day) = V.int 0 => hz (by injection z)), if_neg hz]
        exact iteT ⟨_, rfl, rfl, by rw [List.length_append]; show ys.length + 1 ≤ i + 1; omega, q3.snoc hp⟩
    · rintro ys H4 ⟨rfl, q2, q3⟩ D4 hD4
      rw [haz, List.take_length] at q3
      have s5 := Same.upd0 (o := .lst ys) hD4
      exact kk out D4 ys _ hS (s03.trans s5) (s03.free hD4) upd_same (q3.same s5)
abbrev NBs : List Str := ["deeds", "day", "hour"]
theorem scBs : FnScope NBs ["deeds", "day", "hour"] (defScope sBalances) := ⟨rfl, rfl, rfl, by decide +kernel, rfl, by decide +kernel, by decide +kernel⟩
theorem ok_balances {f fo fB fC fK : Addr} {fd fdo fdB fdC fdK : FuncData} (F : Fun K "balances" "balances" sBalances f fd) (LC : LCls K CL) (LO : LedgerOk P w K mg base CL)
    (Fo : FnOk P w K mg base CX0 3 fo fdo ["contents", "day"] (spBalsOf K)) (ko : PySem.W.keepIn K (.ref fo) = true) (bo : Binds K fdo ["contents", "day"] []) (mo : mg "balances_of" = some (.ref fo))
    (FB : Fun K "ledger_behind" "ledger_behind" sBehind fB fdB) (bB : Binds K fdB ["deeds"] []) (mB : mg "ledger_behind" = some (.ref fB))
    (FC : Fun K "contents_at" "Ledger.contents_at" mCA fC fdC) (bC : Binds K fdC ["self", "hour"] []) (mC : Meth K CL "contents_at" fC)
    (FK : Fun K "known" "known" sKnown fK fdK) (bK : Binds K fdK ["versions", "hour"] []) (mK : mg "known" = some (.ref fK)) : FnOk P w K mg base CX0 9 f fd ["deeds", "day", "hour"] (spBalances K) := by
  have GB : FnOk P w K mg base CX0 8 fB fdB ["deeds"] (spBehind K CL) := ok_behind FB LO
  have GC : FnOk P w K mg base CX0 2 fC fdC ["self", "hour"] (spCon CL) := ok_con FC LC FK bK mK
  refine F.ok scBs (fun vs H Q E h => ?_) (fun cdv A outer s H vs Q E hr h => ?_)
  · obtain ⟨l, zs, ds, day, h, rfl, _⟩ := h
    rfl
  · obtain ⟨l, zs, ds, day, h, rfl, hl, hR, h62, hnm, kk⟩ := h
    have hr2 : Room 2 _ := hr.mono (by decide)
    have hr3 : Room 3 _ := hr.mono (by decide)
    refine ⟨_, pss_one (ps_ret (pcall Fo hr3 (by rfl) mo ko bo .nil pass0 (pa2 (pe_meth (pcall GB hr (by rfl) mB FB.kp bB .nil pass0 (pa1 (pv 0))) LC.cl mC GC hr2 bC .nil pass0 (pa1 (pv 2))) (pv 1)))), ?_⟩
    refine ⟨_, rfl, l, zs, ds, rfl, hl, hR, h62, fun a hl' vis H1 I1 => ?_⟩
    obtain ⟨dx, hI⟩ := I1.bk.ins
    have s1 : Same H H1 := I1.same.trans hide_sub
    obtain ⟨ok, hh⟩ := run_ok ds
    have hh62 : (runB book0 ds).hour ≤ 62 := by omega
    have hat := at_len (runB book0 ds) h
    have hf := ok.few
    refine ⟨a, dx, _, rfl, hI, rfl, _, rfl, a, hl', vis, _, h, rfl, I1.bk, ok, hh62, fun D zs' H2 s2 hD hD2 hc => ?_⟩
    refine ⟨_, rfl, D, zs', _, day, rfl, SqL.of hD2, hc, hnm, ok.at h, by omega, fun out D3 ys H3 hS s3 hD3n hD3 hR3 => ?_⟩
    exact kk out D3 ys H3 hS ((s1.trans s2).trans s3) (s1.free (s2.free hD3n)) hD3 hR3
end
end Tt
namespace Tt
open PySem L2 PyProof.Rows
theorem names_len (cs : List (Option Ct)) : (namesOf cs).length ≤ 2 * cs.length := by
  unfold namesOf
  induction cs with
  | nil => exact Nat.le_refl _
  | cons c cs ih =>
    rw [List.flatMap_cons, List.length_append, List.length_cons]
    have : (ctNames c).length ≤ 2 := by cases c; exact Nat.zero_le _; exact Nat.le_refl _
    omega
theorem names_two {cs : List (Option Ct)} (hne : ∀ c ∈ cs, CtNe c) {ts : List Str} (hm : ∀ x, x ∈ ts ↔ x ∈ namesOf cs) : ts.length ≠ 1 := fun h => by
  obtain ⟨x, rfl⟩ := List.length_eq_one_iff.mp h
  have hx := (hm x).mp (List.mem_singleton.mpr rfl)
  unfold namesOf at hx hm
  obtain ⟨c, hc, hx⟩ := List.mem_flatMap.mp hx
  cases c with
  | none => cases hx
  | some c =>
    obtain ⟨d, o, t, a⟩ := c
    have h1 : o = x := List.mem_singleton.mp ((hm o).mpr (List.mem_flatMap.mpr ⟨_, hc, by simp [ctNames]⟩))
    have h2 : t = x := List.mem_singleton.mp ((hm t).mpr (List.mem_flatMap.mpr ⟨_, hc, by simp [ctNames]⟩))
    exact hne _ hc d o t a rfl (h1.trans h2.symm)
def spAllN (K : PySem.W.Frag) : Sp := fun vs H Q _ => ∃ (l : Addr) (zs : List V) (cs : List (Option Ct)), vs = [.ref l] ∧ SqL K H l zs ∧ CtsV H zs cs ∧ NmC cs ∧ (∀ c ∈ cs, CtNe c) ∧ cs.length ≤ 100 ∧ ∀ out D H', SNames cs out → Same H H' → H D = none → H' D = some (.lst (out.map V.str)) → Q (.ref D) H'
section
variable {P : Program} {w : World} {K : PySem.W.Frag} {mg : Str → Option Value} {base : Heap}
abbrev NAn : List Str := ["_law_contents", "_law_names", "_law_content"]
theorem scAllN : FnScope NAn ["_law_contents"] (defScope sAllNamed) := ⟨rfl, rfl, rfl, by decide +kernel, rfl, by decide +kernel, by decide +kernel⟩
theorem ok_allN {f : Addr} {fd : FuncData} (F : Fun K "_law_all_named" "_law_all_named" sAllNamed f fd) (S : TopS mg) (hset : mg "set" = none) : FnOk P w K mg base CX0 1 f fd ["_law_contents"] (spAllN K) := by
  refine F.ok scAllN (fun vs H Q E h => ?_) (fun cdv A outer s H vs Q E hr h => ?_)
  · obtain ⟨l, zs, cs, rfl, _⟩ := h
    rfl
  · obtain ⟨l, zs, cs, rfl, hl, hc, hnm, hne, h100, kk⟩ := h
    have nd := scAllN.nd
    refine ⟨_, (pss_cons (ps_set (i := 1) nd rfl (Or.inl rfl) (pe_lst pa_nil))
      (pss_cons (ps_for PassesOwn.never rfl (pi_list (pv 0)) (pg_name (i := 2) nd rfl (Or.inl rfl)) (pss_one (ps_if (pt_cmp (pc_notN (pv 2))) (pss_one (ps_set (i := 1) nd rfl (Or.inl rfl) (pe_op op_cat (pv 1) (pe_lst (pa2 (pe_ix ix_tup (pv 2) pe_int (fun _ _ => rfl)) (pe_ix ix_tup (pv 2) pe_int (fun _ _ => rfl))))))) pss_nil)))
      (pss_one (ps_ret (pe_sset rfl (by rfl) S.sorted (by rfl) hset (pa1 (pv 1))))))), ?_⟩
    refine ⟨lz, fun r hr0 => ?_⟩
    have s1 : Same H (upd H r (.lst [])) := Same.upd0 hr0
    have hr1 : upd H r (.lst []) r = some (.lst []) := upd_same
    generalize upd H r (.lst []) = H1 at s1 hr1 ⊢
    refine ⟨_, rfl, l, rfl, ⟨_, s1.seq hl⟩, for_list (K := K) (a := l) (xs := zs)
      (fun i σ H2 => ∃ (x2 : Option V) (r : Addr), σ = [some (.ref l), some (.ref r), x2] ∧ H2 r = some (.lst ((namesOf (cs.take i)).map V.str)) ∧ Same H H2)
      ⟨_, r, rfl, hr1, s1⟩ (fun i σ H2 _ h => let ⟨_, _, _, _, s2⟩ := h; s2.seq hl) ?_ ?_⟩
    · rintro i x σ H2 hx ⟨x2, r, rfl, hr2, s2⟩
      have hic : i < cs.length := by rw [← hc.len]; exact (List.getElem?_eq_some_iff.mp hx).1
      have ec : cs[i]? = some cs[i] := by simp
      have hat := (hc.at' i _ _ hx ec).same s2
      have step := names_take hic
      have hln := names_len (cs.take i)
      rw [List.length_take] at hln
      generalize cs[i] = c at hat step ⊢
      match c, hat, step with
      | none, hv, step =>
        have hv : x = .non := hv
        subst hv
        refine ⟨_, rfl, _, rfl, iteF ?_⟩
        exact ⟨_, r, rfl, by rw [step]; simpa [ctNames] using hr2, s2⟩
      | some (dy, o, t, a), ⟨p, hv, hp⟩, step =>
        subst hv
        have T2 : SqT K H2 p [.int dy, .str o, .str t, .int a] := SqT.of hp
        refine ⟨_, rfl, true, rfl, iteT ?_⟩
        refine ⟨_, rfl, _, rfl, p, _, 1, .str o, rfl, rfl, T2, rfl, _, rfl, p, _, 2, .str t, rfl, rfl, T2, rfl, lz, fun q hq => ?_⟩
        have s3 := Same.upd0 (o := .lst [V.str o, V.str t]) hq
        refine ⟨r, q, _, _, rfl, rfl, s3 _ _ hr2, upd_same, Nat.le_trans (m := 202) (by rw [List.length_map]; show _ + 2 ≤ 202; omega) (by decide), fun r' hr' => ?_⟩
        refine ⟨_, r', rfl, ?_, (s2.trans s3).trans (Same.upd0 hr')⟩
        rw [step, List.map_append]
        exact upd_same
    · rintro σ H2 ⟨x2, r, rfl, hr2, s2⟩
      rw [hc.len, List.take_length] at hr2
      have hln := names_len cs
      refine ⟨_, rfl, r, namesOf cs, rfl, SqL.of hr2, by omega, fun ts h1 h2 => ⟨Nat.lt_of_le_of_lt (names_few h1 fun x hx => hnm x ((h2 x).mp hx)) (by decide), names_two hne h2⟩, fun out h1 h2 h3 D hD => ?_⟩
      exact kk out D _ ⟨h1, h2, h3⟩ (s2.trans (Same.upd0 hD)) (s2.free hD) upd_same
end
end Tt
namespace Tt
open PySem L2 PyProof.Rows
def VNm (B : Book) : Prop := ∀ vs ∈ B.vers, ∀ x ∈ vs, ∀ c, x.2 = some c → ctNm c
theorem known_nm {acc : Option Ct} {vs : List (Int × Option Ct)} {h : Int} (ha : ∀ c, acc = some c → ctNm c) (hv : ∀ x ∈ vs, ∀ c, x.2 = some c → ctNm c) : ∀ c, knownFrom acc vs h = some c → ctNm c := by
  induction vs generalizing acc with
  | nil => exact ha
  | cons x r ih =>
    obtain ⟨t, c⟩ := x
    unfold knownFrom
    split
    · exact ha
    · have hc := hv (t, c) List.mem_cons_self
      cases c with
      | none => exact fun _ z => by cases z
      | some c => exact ih hc fun y hy => hv y (List.mem_cons_of_mem _ hy)
theorem VNm.at {B : Book} (V : VNm B) (t : Int) : NmC (B.at t) := fun x hx => by
  unfold namesOf at hx
  obtain ⟨c, hc, hx⟩ := List.mem_flatMap.mp hx
  obtain ⟨vs, hvs, rfl⟩ := List.mem_map.mp hc
  cases e : knownFrom none vs t with
  | none => rw [show knownI vs t = none from e] at hx; cases hx
  | some c =>
    rw [show knownI vs t = some c from e] at hx
    have h := known_nm (fun _ z => by cases z) (V vs hvs) c e
    simp only [ctNames, List.mem_cons, List.not_mem_nil, or_false] at hx
    rcases hx with rfl | rfl
    · exact h.1
    · exact h.2
theorem VNm.put {B : Book} (V : VNm B) (i : Nat) {c : Option Ct} {h : Int} (hc : ∀ x, c = some x → ctNm x) : ∀ vs ∈ B.vers.set i (B.vers.getD i [] ++ [(h, c)]), ∀ x ∈ vs, ∀ c, x.2 = some c → ctNm c := fun vs hvs x hx => by
  rcases List.mem_or_eq_of_mem_set hvs with z | z
  · exact V vs z x hx
  · subst z
    rcases List.mem_append.mp hx with y | y
    · obtain ⟨vs, h1, h2⟩ := getD_mem y
      exact V vs h1 x h2
    · obtain rfl : x = _ := by simpa using y
      exact hc
theorem VNm.step {B : Book} {d : Deed} (V : VNm B) (h : d.nm) : VNm (stepB B d) := by
  unfold stepB
  split
  · exact V
  · match d, h with
    | .move c, h =>
      intro vs hvs x hx
      rcases List.mem_append.mp hvs with z | z
      · exact V vs z x hx
      · obtain rfl : vs = [(B.hour + 1, some c)] := by simpa using z
        obtain rfl : x = _ := by simpa using hx
        exact fun c' e => by cases e; exact h
    | .right n c, h => exact V.put n.toNat fun x e => by cases e; exact h
    | .strike n, _ => exact V.put n.toNat fun x e => by cases e
    | .close _, _ => exact V
    | .bal _ _ _, _ => exact V
    | .sheet _ _ _ _, _ => exact V
    | .news _ _ _ _, _ => exact V
theorem run_nm : ∀ (ds : List Deed) (B : Book), VNm B → (∀ d ∈ ds, d.nm) → VNm (runB B ds)
  | [], B, V, _ => V
  | d :: ds, B, V, h => run_nm ds (stepB B d) (V.step (h d List.mem_cons_self)) fun e he => h e (List.mem_cons_of_mem _ he)
theorem nm0 : VNm book0 := fun vs h => by (cases h)
theorem names_pad (cs : List (Option Ct)) (k : Nat) : namesOf (cs ++ List.replicate k none) = namesOf cs := by
  unfold namesOf
  rw [List.flatMap_append]
  have : ∀ k, List.flatMap ctNames (List.replicate k none) = [] := fun k => by
    induction k with
    | zero => rfl
    | succ k ih => rw [List.replicate_succ, List.flatMap_cons, ih]; rfl
  rw [this, List.append_nil]
theorem SNames.pad {cs : List (Option Ct)} {k : Nat} {out : List Str} (h : SNames (cs ++ List.replicate k none) out) : SNames cs out := ⟨h.nd, fun x => by rw [h.mem x, names_pad], h.srt⟩
theorem rows_pad (cs : List (Option Ct)) (k : Nat) (day : Int) (out : List Str) : balRows (cs ++ List.replicate k none) day out = balRows cs day out := by
  unfold balRows
  simp only [has_pad]
theorem sum_add (f g : Str → Int) : ∀ l : List Str, (l.map fun a => f a + g a).sum = (l.map f).sum + (l.map g).sum
  | [] => rfl
  | x :: l => by
    simp only [List.map_cons, List.sum_cons]
    rw [sum_add f g l]
    omega
theorem sum_zero : ∀ l : List Str, (l.map fun _ => (0 : Int)).sum = 0
  | [] => rfl
  | x :: l => by rw [List.map_cons, List.sum_cons, sum_zero l]; rfl
theorem does_zero {c : Option Ct} (hne : CtNe c) {out : List Str} (nd : out.Nodup) (h : ∀ x ∈ ctNames c, x ∈ out) (day : Int) : (out.map fun a => doesI c a day).sum = 0 := by
  cases c with
  | none => exact sum_zero out
  | some c =>
    obtain ⟨d, o, t, a⟩ := c
    have hot := hne d o t a rfl
    by_cases hd : day < d
    · have : (fun n : Str => doesI (some (d, o, t, a)) n day) = fun _ => 0 := by
        funext n
        show (if day < d then (0 : Int) else _) = 0
        rw [if_pos hd]
      rw [this]
      exact sum_zero out
    · have : (fun n : Str => doesI (some (d, o, t, a)) n day) = fun n => (if n = t then a else 0) + (if n = o then -a else 0) := by
        funext n
        show (if day < d then (0 : Int) else a * ((if t = n then 1 else 0) - (if o = n then 1 else 0))) = _
        rw [if_neg hd]
        by_cases h1 : n = t
        · subst h1
          rw [if_pos rfl, if_neg hot, if_pos rfl, if_neg (fun z => hot z.symm)]
          omega
        · rw [if_neg (fun z => h1 z.symm), if_neg h1]
          by_cases h2 : n = o
          · subst h2
            rw [if_pos rfl, if_pos rfl]
            omega
          · rw [if_neg (fun z => h2 z.symm), if_neg h2]
            omega
      rw [this, sum_add, sum_at out nd (h t (by simp [ctNames])), sum_at out nd (h o (by simp [ctNames]))]
      omega
theorem has_zero (day : Int) {out : List Str} (nd : out.Nodup) : ∀ (cs : List (Option Ct)), (∀ c ∈ cs, CtNe c) → (∀ x ∈ namesOf cs, x ∈ out) → (out.map fun a => hasI cs a day).sum = 0
  | [], _, _ => sum_zero out
  | c :: cs, hne, h => by
    have : (fun a => hasI (c :: cs) a day) = fun a => doesI c a day + hasI cs a day := by
      funext a
      simp [hasI]
    rw [this, sum_add, does_zero (hne c List.mem_cons_self) nd (fun x hx => h x (by unfold namesOf; rw [List.flatMap_cons]; exact List.mem_append_left _ hx)) day,
      has_zero day nd cs (fun c hc => hne c (List.mem_cons_of_mem _ hc)) fun x hx => h x (by unfold namesOf; rw [List.flatMap_cons]; exact List.mem_append_right _ hx)]
    rfl
theorem filter_sum (f : Str → Int) : ∀ l : List Str, ((l.filter fun a => decide (f a ≠ 0)).map f).sum = (l.map f).sum
  | [] => rfl
  | x :: l => by
    rw [List.filter_cons]
    by_cases h : f x = 0
    · rw [if_neg (by simp [h]), filter_sum f l, List.map_cons, List.sum_cons, h]
      omega
    · rw [if_pos (by simp [h]), List.map_cons, List.sum_cons, List.map_cons, List.sum_cons, filter_sum f l]
def rowHas : List V → Int
  | [_, .int n] => n
  | _ => 0
theorem bal_form {cs : List (Option Ct)} {day : Int} {out : List Str} : ∀ row ∈ balRows cs day out, ∃ a n, row = [V.str a, V.int n] := fun row h => by
  unfold balRows at h
  obtain ⟨a, _, rfl⟩ := List.mem_map.mp h
  exact ⟨_, _, rfl⟩
theorem bal_sum {cs : List (Option Ct)} {day : Int} {out : List Str} (hne : ∀ c ∈ cs, CtNe c) (hS : SNames cs out) : ((balRows cs day out).map rowHas).sum = 0 := by
  unfold balRows
  rw [List.map_map]
  have : (rowHas ∘ fun a => [V.str a, V.int (hasI cs a day)]) = fun a => hasI cs a day := by funext a; rfl
  rw [this, filter_sum (fun a => hasI cs a day)]
  exact has_zero day hS.nd cs hne fun x hx => (hS.mem x).mpr hx
theorem bal_scalar {cs : List (Option Ct)} {day : Int} {out : List Str} : ∀ row ∈ balRows cs day out, row.all scalar = true := fun row h => by
  obtain ⟨a, n, rfl⟩ := bal_form row h
  rfl
theorem bal_size (cs : List (Option Ct)) (day : Int) (out : List Str) (h : out.length ≤ 47) : (PV.lst ((balRows cs day out).map fun row => .tup (row.map pvOf))).size ≤ 1000000 := by
  have h1 := rows_size (rows := balRows cs day out) (k := 2) fun row h => by obtain ⟨a, n, rfl⟩ := bal_form row h; exact Nat.le_refl _
  have h2 := bal_len cs day out
  exact Nat.le_trans h1 (by omega)
end Tt
namespace Tt
open PySem L2
theorem snap_hour {H : Hp} {sl : Addr} {vs : List V} {css : List (List (Option Ct))} {B : Book} (hV : SnsV H sl vs css) (hS : Snap B css) : ((vs.length : Int) - 1) = B.hour := by
  rw [hV.len]
  have := hS.len
  omega
end Tt
namespace Tt
open PySem L2 PyProof.Rows
section
variable {P : Program} {w : World} {K : PySem.W.Frag} {mg : Str → Option Value} {base : Heap}
abbrev NLa : List Str := ["_law_script", "_law_asked", "_law_snaps", "_law_last", "_law_seed", "_law_hour", "_law_day", "_law_due", "_law_account", "_law_amount", "_law_handed", "_law_found"]
theorem scLaw : FnScope NLa ["_law_script"] (defScope sLaw) := ⟨rfl, rfl, rfl, by decide +kernel, rfl, by decide +kernel, by decide +kernel⟩
theorem ok_law {f : Addr} {fd : FuncData} {CL : Addr} (F : Fun K "law" "law" sLaw f fd) (B : TopB mg) (L : TopL mg) (S : TopS mg) (U : TopU mg) (M : mg "min" = none) (hset : mg "set" = none) (TC : TopC mg) (LC : LCls K CL)
    (aR : FnAt K mg "_law_room" sRoom ["_law_script", "_law_most", "_law_bound"])
    (aD : FnAt K mg "_law_draw" sDraw ["_law_number", "_law_prime", "_law_many"])
    (aW : FnAt K mg "_law_whole" sWhole ["_law_found"])
    (aT : FnAt K mg "_law_at" sAt ["_law_script", "_law_k"])
    (aA : FnAt K mg "_law_accounts" sAcc [])
    (aP : FnAt K mg "_law_penned" sPen ["_law_cell", "_law_k"])
    (aM : FnAt K mg "_law_marred" sMar ["_law_content", "_law_cell"])
    (aDe : FnAt K mg "_law_deeds" sDeeds ["_law_cells"])
    (aB : FnAt K mg "_law_barred" sBar ["_law_now", "_law_closed", "_law_deed"])
    (aS : FnAt K mg "_law_step" sStep ["_law_snaps", "_law_closed", "_law_deed"])
    (aC : FnAt K mg "_law_changes" sChg ["_law_deed"])
    (aDo : FnAt K mg "_law_does" sDoes ["_law_content", "_law_account", "_law_day"])
    (aH : FnAt K mg "_law_has" sHas ["_law_contents", "_law_account", "_law_day"])
    (aSn : FnAt K mg "_law_snapped" sSnapped ["_law_asked"])
    (aK : FnAt K mg "_law_alike" sAlike ["_law_found", "_law_due"])
    (aN : FnAt K mg "_law_all_named" sAllNamed ["_law_contents"])
    (aBa : FnAt K mg "balances" sBalances ["deeds", "day", "hour"])
    (aBo : FnAt K mg "balances_of" sBalsOf ["contents", "day"])
    (aAo : FnAt K mg "accounts_of" sAccsOf ["contents"])
    (aBl : FnAt K mg "balance_of" sBal ["contents", "account", "day"])
    (aE : FnAt K mg "effect" sEff ["content", "account", "day"])
    (aBe : FnAt K mg "ledger_behind" sBehind ["deeds"])
    (aKn : FnAt K mg "known" sKnown ["versions", "hour"])
    (mCa : MethAt K CL "contents_at" "Ledger.contents_at" mCA ["self", "hour"])
    (LO : LedgerOk P w K mg base CL) : FnOk P w K mg base CX0 10 f fd ["_law_script"] (spLaw K) := by
  obtain ⟨fR, fdR, FR, bR, mR⟩ := aR
  obtain ⟨fDr, fdDr, FDr, bDr, mDr⟩ := aD
  obtain ⟨fW, fdW, FW, bW, mW⟩ := aW
  obtain ⟨fT, fdT, FT, bT, mT⟩ := aT
  obtain ⟨fAc, fdAc, FAc, bAc, mAc⟩ := aA
  obtain ⟨fP, fdP, FP, bP, mP⟩ := aP
  obtain ⟨fM, fdM, FM, bM, mM⟩ := aM
  obtain ⟨fD, fdD, FD, bD, mD⟩ := aDe
  obtain ⟨fB, fdB, FB, bB, mB⟩ := aB
  obtain ⟨fS, fdS, FS, bS, mS⟩ := aS
  obtain ⟨fC, fdC, FC, bC, mC⟩ := aC
  obtain ⟨fDo, fdDo, FDo, bDo, mDo⟩ := aDo
  obtain ⟨fH, fdH, FH, bH, mH⟩ := aH
  obtain ⟨fSn, fdSn, FSn, bSn, mSn⟩ := aSn
  obtain ⟨fK, fdK, FK, bK, mK⟩ := aK
  obtain ⟨fN, fdN, FN, bN, mN⟩ := aN
  obtain ⟨fBa, fdBa, FBa, bBa, mBa⟩ := aBa
  obtain ⟨fBo, fdBo, FBo, bBo, mBo⟩ := aBo
  obtain ⟨fAo, fdAo, FAo, bAo, mAo⟩ := aAo
  obtain ⟨fBl, fdBl, FBl, bBl, mBl⟩ := aBl
  obtain ⟨fE, fdE, FE, bE, mE⟩ := aE
  obtain ⟨fBe, fdBe, FBe, bBe, mBe⟩ := aBe
  obtain ⟨fKn, fdKn, FKn, bKn, mKn⟩ := aKn
  obtain ⟨fCa, fdCa, FCa, bCa, nCa⟩ := mCa
  have GR : FnOk P w K mg base CX0 1 fR fdR ["_law_script", "_law_most", "_law_bound"] (spRoom K) := ok_room FR B
  have GT : FnOk P w K mg base CX0 1 fT fdT ["_law_script", "_law_k"] (spAt K) := ok_at FT B
  have GD : FnOk P w K mg base CX0 3 fD fdD ["_law_cells"] (spDeeds K) := ok_deeds FD B FDr bDr mDr FAc bAc mAc FP bP mP FM bM mM
  have GSn : FnOk P w K mg base CX0 3 fSn fdSn ["_law_asked"] (spSnapped K) := ok_snapped FSn B L M FC bC mC FS bS mS FB bB mB
  have GH : FnOk P w K mg base CX0 2 fH fdH ["_law_contents", "_law_account", "_law_day"] (spHas K) := ok_has FH B FDo bDo mDo
  have GK : FnOk P w K mg base CX0 2 fK fdK ["_law_found", "_law_due"] spAlike := ok_alike FK B L FW bW mW
  have GN : FnOk P w K mg base CX0 1 fN fdN ["_law_contents"] (spAllN K) := ok_allN FN S hset
  have GBo : FnOk P w K mg base CX0 3 fBo fdBo ["contents", "day"] (spBalsOf K) := ok_balsOf FBo TC S U FAo bAo mAo FBl bBl mBl FE bE mE
  have GBa : FnOk P w K mg base CX0 9 fBa fdBa ["deeds", "day", "hour"] (spBalances K) := ok_balances FBa LC LO GBo FBo.kp bBo mBo FBe bBe mBe FCa bCa nCa FKn bKn mKn
  refine F.ok scLaw (fun vs H Q E h => ?_) (fun cdv A outer s H vs Q E hr9 h => ?_)
  · obtain ⟨a, ns, rfl, _⟩ := h
    rfl
  · obtain ⟨a, ns, rfl, hS, hlen, kk⟩ := h
    have nd := scLaw.nd
    have M0 : (0 : Int) < 10 ^ 50 * 10 ^ 50 - 1 := by decide +kernel
    have hr1 : Room 1 _ := hr9.mono (by decide)
    have hr2 : Room 2 _ := hr9.mono (by decide)
    have hr3 : Room 3 _ := hr9.mono (by decide)
    refine ⟨_, (pss_cons (ps_set (i := 1) nd rfl (Or.inl rfl) (pcall GD hr3 (by rfl) mD FD.kp bD .nil pass0 (pa1 (pe_slice sl_list (pv 0) (po_some pe_int) (po_some (pe_op op_add pe_int (pcall GR hr1 (by rfl) mR FR.kp bR .nil pass0 (pa3 (pv 0) pe_int pe_int))))))))
      (pss_cons (ps_set (i := 2) nd rfl (Or.inl rfl) (pcall GSn hr3 (by rfl) mSn FSn.kp bSn .nil pass0 (pa1 (pv 1))))
      (pss_cons (ps_set (i := 3) nd rfl (Or.inl rfl) (pe_op op_sub (pcB call_len_seq (by rfl) B.len PySem.boot_len (pa1 (pv 2))) pe_int))
      (pss_cons (ps_set (i := 4) nd rfl (Or.inl rfl) (pcall GT hr1 (by rfl) mT FT.kp bT .nil pass0 (pa2 (pv 0) pe_int)))
      (pss_cons (ps_for PassesOwn.never rfl (pi_list (pe_lst (pa4 (pv 3) pe_int (pe_op op_mod (pv 4) (pe_op op_add (pv 3) pe_int)) (pe_op op_mod (pe_op op_fdiv (pv 4) pe_int) (pe_op op_add (pv 3) pe_int))))) (pg_name (i := 5) nd rfl (Or.inl rfl)) (pss_cons (ps_set (i := 6) nd rfl (Or.inl rfl) (pe_op op_sub (pe_op op_mod (pcall GT hr1 (by rfl) mT FT.kp bT .nil pass0 (pa2 (pv 0) pe_int)) pe_int) pe_int))
      (pss_join (ps_if (pt_cmpR op_eq (pe_op op_mod (pe_op op_add (pv 5) (pv 4)) pe_int) pe_int (nomark _)) (pss_one (ps_set (i := 6) nd rfl (Or.inl rfl) (pe_op op_mod (pcall GT hr1 (by rfl) mT FT.kp bT .nil pass0 (pa2 (pv 0) pe_int)) (pe_op op_sub (pe_op op_mulB (pe_op op_pow pe_int pe_int) (pe_op op_pow pe_int pe_int)) pe_int)))) pss_nil)
      (pss_cons (ps_set (i := 7) nd rfl (Or.inl rfl) (pe_lst pa_nil))
      (pss_cons (ps_for PassesOwn.never rfl (pi_list (pcall GN hr1 (by rfl) mN FN.kp bN .nil pass0 (pa1 (pe_ix ix_list (pv 2) (pv 5) (fun _ _ => rfl))))) (pg_name (i := 8) nd rfl (Or.inl rfl)) (pss_cons (ps_set (i := 9) nd rfl (Or.inl rfl) (pcall GH hr2 (by rfl) mH FH.kp bH .nil pass0 (pa3 (pe_ix ix_list (pv 2) (pv 5) (fun _ _ => rfl)) (pv 8) (pv 6))))
      (pss_one (ps_if (pt_cmpR op_ne (pv 9) pe_int (nomark _)) (pss_one (ps_expr (p_append (pv 7) (pe_tup (pa2 (pv 8) (pv 9)))))) pss_nil))))
      (pss_cons (ps_set (i := 10) nd rfl (Or.inl rfl) (pcT call_list_of (by rfl) L.list PyProof.Rows.boot_list (pa1 (pv 1))))
      (pss_cons (ps_set (i := 11) nd rfl (Or.inl rfl) (pcall GBa hr9 (by rfl) mBa FBa.kp bBa .nil pass0 (pa3 (pv 10) (pv 6) (pv 5))))
      (pss_cons (ps_if (PW.pt (pw_or (pt_not (pt_val (pcall GK hr2 (by rfl) mK FK.kp bK .nil pass0 (pa2 (pv 10) (pv 1))))) (pw_or1 (pt_not (pt_val (pcall GK hr2 (by rfl) mK FK.kp bK .nil pass0 (pa2 (pv 11) (pv 7)))))))) (pss_one (ps_ret pe_bl)) pss_nil)
      (pss_one (ps_if (pt_cmpR op_ne (pcB (call_sumL rfl) (by rfl) U.sum PyProof.Rows.boot_sum (pa1 (pe_comp (x := "_law_pair") (fr := []) (ix := []) (NN := NLa) (sx := defScope sLaw) ⟨rfl, by decide +kernel, by decide +kernel, rfl, by decide +kernel, by decide +kernel, by decide +kernel, rfl⟩ rfl rfl rfl (pi_list (pv 11)) (fun _ _ _ _ _ => pts_nil) (fun cl s H fp C => (pe_ix ix_tupC (pv 0) pe_int (fun _ _ => rfl)))))) pe_int (nomark _)) (pss_one (ps_ret pe_bl)) pss_nil))))))))))
      (pss_one (ps_ret pe_bl))))))), ?_⟩
    obtain ⟨ms, ems, hms⟩ := cut_ints ns 2 36
    refine ⟨_, rfl, _, rfl, _, rfl, a, ns, 36, 150, rfl, hS, hlen, _, _, rfl, rfl, _, rfl, a, _, rfl, hS, fun c0 hc0 => ?_⟩
    refine ⟨c0, ms, rfl, SqL.of (by rw [upd_same]; exact congrArg (fun x => some (HO.lst x)) ems), by omega, fun D mz dds H1 s1 hDn hD1 hR1 hl1 hnmD => ?_⟩
    have s01 : Same H H1 := (Same.upd0 hc0).trans s1
    have hml : mz.length = dds.length := by rw [hR1.len, List.length_map]
    have hd36 : dds.length ≤ 36 := by omega
    refine ⟨_, rfl, D, mz, dds, rfl, SqL.of hD1, hR1, by omega, fun sl ws css H4 s4 _ hV4 _ hSn => ?_⟩
    obtain ⟨ok, hh⟩ := run_ok dds
    have hh0 := ok.h0
    have el := snap_hour hV4 hSn
    have hB62 : (runB book0 dds).hour ≤ 62 := by omega
    have vnm := run_nm dds book0 nm0 hnmD
    generalize hBo : runB book0 dds = Bo at hSn ok hh hh0 el hB62 vnm
    refine ⟨_, rfl, sl, ws, rfl, .inl (SqL.of hV4.list), _, _, rfl, rfl, ?_⟩
    dsimp only
    rw [el]
    have hS4 := (s01.trans s4).seq hS
    have hD4 := s4 _ _ hD1
    have hR4 := hR1.same s4
    refine ⟨_, rfl, a, ns, 0, rfl, hS4, by decide, ?_⟩
    generalize ns.getD (0 : Int).toNat 0 = sd
    have hp1 : (0 : Int) < Bo.hour + 1 := by omega
    refine ⟨_, rfl, _, rfl, _, rfl, _, _, rfl, rfl, _, _, rfl, rfl, hp1, _, rfl, _, _, rfl, rfl, ⟨by decide, by decide⟩, _, rfl, _, _, rfl, rfl, _, _, rfl, rfl, hp1, lz, fun hl0 hhl0 => ?_⟩
    have hrs : ∀ v ∈ [V.int Bo.hour, V.int 0, V.int (sd % (Bo.hour + 1)), V.int (sd / 7 % (Bo.hour + 1))], ∃ h : Int, v = .int h ∧ 0 ≤ h ∧ h ≤ Bo.hour := by
      have m1 := Int.emod_nonneg sd (Int.ne_of_gt hp1)
      have m2 := Int.emod_lt_of_pos sd hp1
      have m3 := Int.emod_nonneg (sd / 7) (Int.ne_of_gt hp1)
      have m4 := Int.emod_lt_of_pos (sd / 7) hp1
      intro v hv
      simp only [List.mem_cons, List.not_mem_nil, or_false] at hv
      rcases hv with rfl | rfl | rfl | rfl
      · exact ⟨_, rfl, hh0, Int.le_refl _⟩
      · exact ⟨_, rfl, Int.le_refl _, hh0⟩
      · exact ⟨_, rfl, m1, by omega⟩
      · exact ⟨_, rfl, m3, by omega⟩
    have s5 := Same.upd0 (o := .lst [V.int Bo.hour, V.int 0, V.int (sd % (Bo.hour + 1)), V.int (sd / 7 % (Bo.hour + 1))]) hhl0
    have hl5 : upd H4 hl0 (.lst [V.int Bo.hour, V.int 0, V.int (sd % (Bo.hour + 1)), V.int (sd / 7 % (Bo.hour + 1))]) hl0 = some (.lst [V.int Bo.hour, V.int 0, V.int (sd % (Bo.hour + 1)), V.int (sd / 7 % (Bo.hour + 1))]) := upd_same
    have hD5 := s5 _ _ hD4
    have hR5 := hR4.same s5
    have hV5 := hV4.same s5
    have hS5 := s5.seq hS4
    generalize upd H4 hl0 (.lst [V.int Bo.hour, V.int 0, V.int (sd % (Bo.hour + 1)), V.int (sd / 7 % (Bo.hour + 1))]) = H5 at hl5 hD5 hR5 hV5 hS5 ⊢
    generalize [V.int Bo.hour, V.int 0, V.int (sd % (Bo.hour + 1)), V.int (sd / 7 % (Bo.hour + 1))] = hrl at hrs hl5
    refine ⟨hl0, rfl, ⟨_, SqL.of hl5⟩, for_list (K := K) (a := hl0) (xs := hrl) (fun i σ H6 => ∃ (x5 x6 x7 x8 x9 x10 x11 : Option V), σ = [some (.ref a), some (.ref D), some (.ref sl), some (.int Bo.hour), some (.int sd), x5, x6, x7, x8, x9, x10, x11] ∧ Same H5 H6)
      ⟨_, _, _, _, _, _, _, rfl, Same.refl _⟩ (fun i σ H6 _ h => by obtain ⟨_, _, _, _, _, _, _, _, s⟩ := h; exact SqL.of (s _ _ hl5)) ?_ ?_⟩
    · rintro i y σ H6 hy ⟨x5, x6, x7, x8, x9, x10, x11, rfl, s6⟩
      obtain ⟨h, rfl, h0, h1⟩ := hrs y (List.mem_of_getElem? hy)
      have hS6 := s6.seq hS5
      refine ⟨_, rfl, a, ns, 1, rfl, hS6, by decide, _, _, rfl, rfl, pz _, _, _, rfl, rfl, ?_⟩
      refine ⟨fun σ H7 => ∃ day : Int, σ = [some (.ref a), some (.ref D), some (.ref sl), some (.int Bo.hour), some (.int sd), some (.int h), some (.int day), x7, x8, x9, x10, x11] ∧ H7 = H6, ?_, ?_⟩
      · refine ⟨_, rfl, _, rfl, _, _, rfl, rfl, _, _, rfl, rfl, pz _, rfl, _, rfl, ?_⟩
        refine ite2 (fun _ => ?_) (fun _ => ⟨_, rfl, rfl⟩)
        exact ⟨_, rfl, a, ns, 1, rfl, hS6, by decide, _, _, rfl, rfl, ⟨by decide, by decide, by decide⟩, _, _, rfl, rfl, ⟨by decide, by decide, by decide⟩, _, _, rfl, rfl, big_ok, _, _, rfl, rfl, _, _, rfl, rfl, M0, _, rfl, rfl⟩
      rintro σ7 H7 ⟨day, rfl, rfl⟩
      refine ⟨lz, fun du hdu => ?_⟩
      have s7 := Same.upd0 (o := .lst []) hdu
      have hdu8 : upd H7 du (.lst []) du = some (.lst []) := upd_same
      have hV6 := hV5.same s6
      obtain ⟨l, zs, cs, k, e1, e2, e3, e4, hne, hcl⟩ := snap_get hV6 hSn ok h0 h1
      have hnm : NmC cs := fun x hx => vnm.at h x (by rw [e4, names_pad]; exact hx)
      have V8 := hV6.same s7
      generalize upd H7 du (.lst []) = H8 at s7 hdu8 V8 ⊢
      refine ⟨_, rfl, _, rfl, sl, ws, _, .ref l, rfl, rfl, SqL.of V8.list, e1, l, zs, cs, rfl, SqL.of (s7 _ _ e2), e3.same s7, hnm, hne, by omega, fun out Dn H9 hSN s9 hDnn hDn9 => ?_⟩
      have few : out.length ≤ 47 := names_few hSN.nd fun x hx => hnm x ((hSN.mem x).mp hx)
      have hdu9 := s9 _ _ hdu8
      have nDu : Dn ≠ du := Ne.symm (ne_of_none hdu8 hDnn)
      have hol : (out.map V.str).length = out.length := List.length_map ..
      have s79 := s7.trans s9
      refine ⟨Dn, rfl, ⟨_, SqL.of hDn9⟩, for_list (K := K) (a := Dn) (xs := out.map V.str) (fun i σ HA => ∃ (x8 x9 : Option V) (dz : List V), σ = [some (.ref a), some (.ref D), some (.ref sl), some (.int Bo.hour), some (.int sd), some (.int h), some (.int day), some (.ref du), x8, x9, x10, x11] ∧ HA du = some (.lst dz) ∧ RowsAt HA dz (balRows cs day (out.take i)) ∧ HA Dn = some (.lst (out.map V.str)) ∧ Same H7 HA)
        ⟨_, _, [], rfl, hdu9, RowsAt.nil, hDn9, s79⟩ (fun i σ HA _ q => by obtain ⟨_, _, _, _, _, _, q, _⟩ := q; exact SqL.of q) ?_ ?_⟩
      · rintro j x σ HA hx ⟨y8, y9, dz, rfl, hduA, hRA, hDnA, sA⟩
        have hj : j < out.length := by rw [← hol]; exact (List.getElem?_eq_some_iff.mp hx).1
        obtain rfl : V.str out[j] = x := by
          rw [List.getElem?_map, List.getElem?_eq_getElem hj] at hx
          injection hx
        have VA := hV6.same sA
        refine ⟨_, rfl, _, rfl, sl, ws, _, .ref l, rfl, rfl, SqL.of VA.list, e1, _, rfl, _, rfl, l, zs, cs, out[j], day, rfl, SqL.of (sA _ _ e2), e3.same sA, ?_⟩
        refine ⟨_, rfl, rfl, !decide (V.int (hasI cs out[j] day) = V.int 0), rfl, ?_⟩
        have step := filter_bal cs day out j hj
        by_cases hz : hasI cs out[j] day = 0
        · rw [decide_eq_true (by rw [hz] : V.int (hasI cs out[j] day) = V.int 0)]
          rw [if_pos hz, List.append_nil] at step
          exact iteF ⟨_, _, dz, rfl, hduA, by rw [step]; exact hRA, hDnA, sA⟩
        · rw [decide_eq_false (fun z : V.int (hasI cs out[j] day) = V.int 0 => hz (by injection z))]
          rw [if_neg hz] at step
          have hbl := bal_len cs day (out.take j)
          rw [List.length_take] at hbl
          have hsz : dz.length < sizeLine := by
            rw [hRA.len]
            exact Nat.lt_of_le_of_lt (m := 47) (by omega) (by decide)
          refine iteT ⟨_, rfl, tyl hduA, _, rfl, _, rfl, lz, fun q hq => ?_⟩
          obtain ⟨g1, g2, g3⟩ := row_put2 (row := [V.str out[j], V.int (hasI cs out[j] day)]) sA hdu hduA hRA hq
          exact ⟨du, dz, _, rfl, rfl, (Same.upd0 hq) _ _ hduA, hsz, _, _, _, rfl, g1, by rw [step]; exact g2, by rw [upd_ne nDu]; exact (Same.upd0 hq) _ _ hDnA, g3⟩
      rintro σA HA ⟨y8, y9, dz, rfl, hduA, hRA, hDnA, sA⟩
      rw [hol, List.take_length] at hRA
      have sA5 := s6.trans sA
      refine ⟨_, rfl, D, mz, rfl, .inl (SqL.of (sA5 _ _ hD5)), fun hd hhd => ?_⟩
      have sB := Same.upd0 (o := .lst mz) hhd
      have hdB : upd HA hd (.lst mz) hd = some (.lst mz) := upd_same
      have hRB := (hR5.same sA5).same sB
      have hDB := sB _ _ (sA5 _ _ hD5)
      have hduB := sB _ _ hduA
      have hRdB := hRA.same sB
      have s5B := sA5.trans sB
      generalize upd HA hd (.lst mz) = HB at hdB hRB hDB hduB hRdB s5B ⊢
      refine ⟨_, rfl, _, rfl, _, rfl, hd, mz, dds, day, h, rfl, SqL.of hdB, hRB, by omega, by rw [hBo]; exact vnm.at h, fun out2 D2 ys HC hS2 sC hD2n hD2 hR2 => ?_⟩
      rw [hBo, e4] at hS2 hR2
      obtain rfl := hS2.pad.one hSN
      rw [rows_pad] at hR2
      refine ⟨_, rfl, _, rfl, _, _, deedsPV dds, rfl, deeds_deep (hRB.same sC) (sC _ _ hdB), deeds_deep (hRB.same sC) (sC _ _ hDB), Nat.le_trans (deeds_size dds) (by omega), fun HE sE => ⟨true, rfl, iteF ?_⟩⟩
      have hR2E := hR2.same sE
      have hD2E := sE _ _ hD2
      refine ⟨_, rfl, _, rfl, _, _, _, rfl, hR2E.deep hD2E bal_scalar, (hRdB.same (sC.trans sE)).deep ((sC.trans sE) _ _ hduB) bal_scalar, bal_size cs day _ few, fun HF sF => ⟨true, rfl, iteF ?_⟩⟩
      have hR2F := hR2E.same sF
      have hD2F := sF _ _ hD2E
      have s5F := s5B.trans ((sC.trans sE).trans sF)
      have hz := bal_sum (day := day) hne hSN
      have hform : ∀ row ∈ balRows cs day out2, ∃ a n, row = [V.str a, V.int n] := bal_form
      have hrl := bal_len cs day out2
      generalize balRows cs day out2 = rows at hR2F hz hform hrl
      have hyl : ys.length = rows.length := hR2F.len
      refine ⟨_, rfl, D2, rfl, ⟨_, SqL.of hD2F⟩, comp_list (K := K) (a := D2) (xs := ys) (fun j us HG => HG = HF ∧ us = (rows.take j).map fun row => V.int (rowHas row)) (Nat.lt_of_le_of_lt (m := 47) (by omega) (by decide)) (fun j us HG q => by rw [q.2]; simp; omega) (fun j us HG q => q.1 ▸ SqL.of hD2F) ⟨rfl, rfl⟩ ?_ ?_⟩
      · rintro j x us HG hx ⟨rfl, rfl⟩
        refine tAll_if ?_
        have hj : j < rows.length := by rw [← hyl]; exact (List.getElem?_eq_some_iff.mp hx).1
        have hrj : rows[j]? = some rows[j] := by simp
        obtain ⟨a', n', er⟩ := hform rows[j] (List.getElem_mem hj)
        obtain ⟨q', rfl, hq'⟩ := hR2F.at' j x _ hx hrj
        rw [er] at hq'
        refine ⟨_, rfl, q', _, 1, .int n', rfl, rfl, SqT.of hq', rfl, rfl, ?_⟩
        rw [List.take_add_one, hrj, List.map_append]
        show _ = _ ++ [V.int (rowHas rows[j])]
        rw [er]
        rfl
      · rintro us HG ⟨rfl, rfl⟩ D3 hD3
        refine ⟨D3, rows.map rowHas, rfl, SqL.of (upd_same.trans ?_), ?_⟩
        · rw [hyl, List.take_length, List.map_map]
          rfl
        refine ⟨rfl, _, rfl, iteNS (congrArg V.int hz) ?_⟩
        exact ⟨_, _, _, _, _, _, _, rfl, s5F.trans (Same.upd0 hD3)⟩
    · rintro σ H6 ⟨x5, x6, x7, x8, x9, x10, x11, rfl, s6⟩
      exact kk _
end
end Tt
namespace PySem.W.Fast
def tw13640231089101254312 := 0
def tw9109015762315666529 := 0
def tw7827390540171934902 := 0
def tw11330955583224613801 := 0
def tw12577470742720254657 := 0
def tw7469902073682785212 := 0
def tw18415282229580026283 := 0
def tw12504329011265383590 := 0
def tw13013029490494683797 := 0
def tw5446628203718814345 := 0
def tw78691346105323369 := 0
def tw13780712723534928425 := 0
def tw1690499410040696988 := 0
def tw1560402450693266471 := 0
def tw17658215930212288046 := 0
def tw2957768504465993789 := 0
def tw1226830981718404589 := 0
def tw13604508992254216251 := 0
def tw17610710502400372384 := 0
def tw14257914864170106770 := 0
def tw5099623190385288584 := 0
def tw8070328129509549750 := 0
def tw11803362111080763378 := 0
def tw3628315506759805100 := 0
def tw15304190347251468030 := 0
def tw1399208946292702808 := 0
def tw11682209529239859814 := 0
def tw13622770728113335554 := 0
def tw15473253776876088872 := 0
def tw11135805038900140789 := 0
def tw8842422476852013751 := 0
def tw1458857698442022829 := 0
def tw13087641302831660103 := 0
def tw4373905541899065795 := 0
def tw8889689656756558461 := 0
def tw12050100326363341194 := 0
def tw6654401131312970796 := 0
def tw12131805533541359821 := 0
def tw1811893416414407189 := 0
def tw6804527753690130334 := 0
def tw2649746436304029600 := 0
def tw11048121509925866165 := 0
def tw7594793984368491284 := 0
def tw3859602140114431543 := 0
def tw12463451334364465271 := 0
def tw9628599766407473956 := 0
def tw2874248233690635886 := 0
def tw7865462171203472744 := 0
def tw16367977435242088864 := 0
def tw7102563803904014511 := 0
def tw2650533345509777168 := 0
def tw7148127757590545938 := 0
def tw14850785516233837038 := 0
def tw6856301328560461785 := 0
def tw13662878627601764314 := 0
def tw1451183666968010044 := 0
def tw15338492688807791565 := 0
def tw5037216294562418273 := 0
def tw17818746552478096943 := 0
def tw8616240483908841150 := 0
def tw6853793518182394963 := 0
def tw18074123944794412633 := 0
def tw11669978208164950430 := 0
def tw14697937335903956382 := 0
def tw4124053583424107375 := 0
def tw15891411668992963875 := 0
def tw506923407879830418 := 0
def tw72705930097467962 := 0
def tw18121755915039615799 := 0
def tw9756291632902671952 := 0
def tw8084393765542569954 := 0
def tw2111752468097214126 := 0
def tw7191667470077826368 := 0
def tw9659877796697467250 := 0
def tw17789313865616026872 := 0
def tw5676155303011806383 := 0
def tw17107365671257641641 := 0
def tw16128907249514204334 := 0
def tw8761753321865955345 := 0
def tw12085887647499510422 := 0
def tw4542576887312826719 := 0
def tw16274903273652650935 := 0
def tw7793346050471228038 := 0
def tw6200154136464331552 := 0
def tw14201480809833689504 := 0
def tw17530499610173620532 := 0
def tw9182348466315722528 := 0
def tw14280076633586649460 := 0
def tw2800483456291190807 := 0
def tw17930654513228221017 := 0
def tw7348711370298741879 := 0
def tw11839476181027865881 := 0
def tw12717734958558450076 := 0
def tw15467216062606378642 := 0
def tw5999203340252322868 := 0
def tw2994507100303275567 := 0
def tw15083630095769080475 := 0
def tw3449897519197262870 := 0
def tw7395604333887491046 := 0
def tw5609673525643507426 := 0
def tw12507723279761496644 := 0
def tw13671149934446698932 := 0
def tw11444768900488190806 := 0
def tw1354376638040325509 := 0
def tw2877832526455266749 := 0
def tw13330929255575543463 := 0
def tw7658149053588641585 := 0
def tw17931657550429957322 := 0
def tw8229947156670523431 := 0
def tw12697933465645922989 := 0
def tw4214316238455765845 := 0
def tw8422754635195435900 := 0
def tw4059959381086714739 := 0
def tw6162718564795039628 := 0
def tw15215593160203427164 := 0
def tw11390084815697863365 := 0
def tw2116881126839188248 := 0
def tw12555080466166819691 := 0
def tw3326635417911766777 := 0
def tw10480849137266933663 := 0
def tw2779996659636289497 := 0
def tw2791389584787936910 := 0
def tw3016997526007124096 := 0
def tw13930398064864402387 := 0
def tw2132147871519847394 := 0
def tw6387079938350964237 := 0
def tw16011477744740886110 := 0
def tw10500119812206094181 := 0
def tw11785951658329056005 := 0
def tw12953901432913114819 := 0
def tw6182700520024213980 := 0
def tw7773784938852771220 := 0
def tw18377953120177835605 := 0
def tw17383165806559177912 := 0
def tw10697911192208299694 := 0
def tw17456689854072343338 := 0
def tw5365797125723571299 := 0
def tw2591041098431510008 := 0
def tw16029830029781327223 := 0
def tw14375702999315744096 := 0
def tw5601430721002476071 := 0
def tw12669537069557558439 := 0
def tw11413055597493331089 := 0
def tw5790375273547993569 := 0
def tw14337824364355075315 := 0
def tw15564834007918692910 := 0
def tw4899427969447325303 := 0
def tw11807904220376483998 := 0
def tw18251474591913114173 := 0
def tw2540642864744018512 := 0
def tw16440240160260542688 := 0
def tw3361898616662060091 := 0
def tw11302837543946539197 := 0
def tw8846921407298546073 := 0
def tw16184023020316806597 := 0
def tw4558166779084478871 := 0
def tw1029097449115138924 := 0
def tw15412945437638418972 := 0
def tw13245738873700963238 := 0
def tw14307988330287689578 := 0
def tw9002823218294692651 := 0
def tw13078714855117497743 := 0
def tw2537447978105548871 := 0
def tw13877166214109823551 := 0
def tw10344000871079444132 := 0
def tw8021116661827441346 := 0
def tw10148956142693716871 := 0
def tw17056806149189578988 := 0
def tw8668868366243074591 := 0
def tw11027198124164194612 := 0
def tw2600819398040197242 := 0
def tw1104746464013441256 := 0
def tw9197336712467504959 := 0
def tw14295986874840492990 := 0
def tw3298829630025374901 := 0
def tw18331655268941748789 := 0
def tw12568861696003191920 := 0
def tw18126038444202321605 := 0
def tw13319079400841060672 := 0
def tw12612384082888446119 := 0
def tw12564493179308902308 := 0
def tw9346528416706173817 := 0
def tw8077604606712896920 := 0
def tw15300400736136169024 := 0
def tw4474545729049549203 := 0
def tw17577614282584874974 := 0
def tw2758025404854377710 := 0
def tw137359352797390639 := 0
def tw14727329568417631240 := 0
def tw2944592994005410472 := 0
def tw18031607534125795048 := 0
def tw7005674714426689694 := 0
def tw11423300232230911923 := 0
def tw17401339293697319989 := 0
def tw17339450329147132723 := 0
def tw11474621439094964203 := 0
def tw2707315671353896161 := 0
def tw16439463947846787998 := 0
def tw6261614660899926313 := 0
def tw5665614325943178677 := 0
def tw3969089520171356142 := 0
def tw7590253387099431288 := 0
def tw14809796876890606230 := 0
def tw6673418313075681209 := 0
def tw11053718735275409880 := 0
def tw1570241851557435888 := 0
def tw10720774874745409253 := 0
def tw10367763570821440068 := 0
def tw2203390632948738470 := 0
def tw9173040473181974050 := 0
def tw18408433813561378008 := 0
def tw10686074013842280155 := 0
def tw10660987169165898580 := 0
def tw4347177637208063157 := 0
def tw11104356280273520881 := 0
def tw13324269072480991662 := 0
def tw17381057679970054579 := 0
def tw13889292264341610245 := 0
def tw6232341612996935081 := 0
def tw4341542997302570650 := 0
def tw6897294363295747414 := 0
def tw1231323106956576226 := 0
def tw16336184440740736159 := 0
def tw3028327714809719438 := 0
def tw14285268993760554168 := 0
def tw7854661270945093864 := 0
def tw2389345860218391801 := 0
def tw15527946342922609509 := 0
def tw11557643761094399610 := 0
def tw13400064093192648079 := 0
def tw13408866624883495712 := 0
def tw3399331254452586784 := 0
def tw9403217385817028712 := 0
def tw11371787643045891567 := 0
def tw8206762767650075216 := 0
def tw14176998778650500342 := 0
def tw17511436968558122402 := 0
def tw14780118115387767688 := 0
def tw6528970495115593178 := 0
def tw3774368514326140141 := 0
def tw18216359372518147002 := 0
def tw6642873846020994280 := 0
def tw721477500709938528 := 0
def tw2569464716715210942 := 0
def tw9795788256608586862 := 0
def tw18031444352846780037 := 0
def tw3490275606224163142 := 0
def tw7681902123724159827 := 0
def tw17257255085858933231 := 0
def tw1612685283264553656 := 0
def tw4092472846474281600 := 0
def tw3838728410191843608 := 0
def tw12705219932690282521 := 0
def tw11126049789916736722 := 0
def tw11945632431355724055 := 0
def tw2234527611900984253 := 0
def tw5863175937009344585 := 0
def tw7966208167706859135 := 0
def tw3601154493813491174 := 0
def tw11686552258872090825 := 0
def tw15910980649192552222 := 0
def tw15207639073200837007 := 0
def tw7028301992630037594 := 0
def tw4196733833155994326 := 0
def tw8156491183203763218 := 0
def tw5349340155004388991 := 0
def tw5353028769981198284 := 0
def tw17691780259574749503 := 0
def tw15345045125743973230 := 0
def tw603124418972299504 := 0
def tw10161763638538335555 := 0
def tw17548152369746915708 := 0
def tw8726361147522760532 := 0
def tw15936311524658330001 := 0
def tw15942114336649139632 := 0
def tw8781568444113050605 := 0
def tw3442732876326832865 := 0
def tw17123738756198146477 := 0
def tw14138298985530391093 := 0
def tw11526508874296906227 := 0
def tw11496574280037414774 := 0
def tw16774666150410618651 := 0
def tw4540840589401177275 := 0
def tw7496214689182388077 := 0
def tw5630980851780048258 := 0
def tw6802822836388568226 := 0
def tw17296564199842879333 := 0
def tw17378927037374527087 := 0
def tw2774863635135927851 := 0
def tw6561942003380647837 := 0
def tw12967757156033886961 := 0
def tw16736449864044729295 := 0
def tw9046398685448859168 := 0
def tw11911175739576598022 := 0
def tw6077587452580204896 := 0
def tw11927853019087254528 := 0
def tw8301585234424954174 := 0
def tw4850587178403452908 := 0
def tw13436873910452907175 := 0
def tw3564629695535120802 := 0
def tw7979222948215613787 := 0
def tw4765630335020270418 := 0
def tw14120916831316581181 := 0
def tw988393709946960704 := 0
def tw14394440098575131967 := 0
def tw3498167420581390842 := 0
def tw12353381759337316340 := 0
def tw6908860590812712463 := 0
def tw3629144485489853977 := 0
def tw15360790038408229565 := 0
def tw8732458404487787723 := 0
def tw14450525872201445591 := 0
def tw7525375867883915396 := 0
def tw3872988330160811453 := 0
def tw8915216740033016438 := 0
def tw2290773215232984596 := 0
def tw6696666160514278714 := 0
def tw3061791469395070895 := 0
def tw15351339956594991924 := 0
def tw5911142794230709067 := 0
def tw10384850057782375388 := 0
def tw11760087449007387549 := 0
def tw16651106336207719031 := 0
def tw4327694250207648379 := 0
def tw6335771789800597148 := 0
def tw5323123317727688829 := 0
def tw9296748519668887372 := 0
def tw5989436188452885185 := 0
def tw11082734318052584298 := 0
def tw14227497826822676424 := 0
def tw10304250354266329090 := 0
def tw14467246575620271571 := 0
def tw9179243831381285898 := 0
def tw14348637876162822921 := 0
def tw10077455253494806376 := 0
def tw10544525498347090256 := 0
def tw151789522462642805 := 0
def tw11048286492625851392 := 0
def tw2843824706993401074 := 0
def tw2281678857409463952 := 0
def tw15588526355640082119 := 0
def tw8868809338049066806 := 0
def tw16659933011617361614 := 0
def tw13561330441156718997 := 0
def tw12660270389222110478 := 0
def tw9761441250475961783 := 0
def tw5190089851532876929 := 0
def tw17931628404864054410 := 0
def tw1493385022907075651 := 0
def tw4713318726077694757 := 0
def tw9644148315761996844 := 0
def tw9790760951457784121 := 0
def tw347773717385111734 := 0
def tw2907649781680138525 := 0
def tw9060634930322314542 := 0
def tw8445446522296101771 := 0
def tw13361957801831906675 := 0
def tw6219375102317013602 := 0
def tw6281365909232388227 := 0
def tw5801843381256029694 := 0
def tw429286703763397099 := 0
def tw8199810033564330275 := 0
def tw8982407032254161931 := 0
def tw4967198350420668839 := 0
def tw6559275535740491330 := 0
def tw12400983926627575297 := 0
def tw6929405231855655732 := 0
def tw1140369624533003163 := 0
def tw5147615499745738542 := 0
def tw18413396677323435422 := 0
def tw5802755918492271640 := 0
def tw14019035640514384349 := 0
def tw17667685881411782431 := 0
def tw196740053962864150 := 0
def tw677529857496994855 := 0
def tw1480151999336833841 := 0
def tw6874105888249774190 := 0
def tw518766804506338178 := 0
def tw5974840783266283445 := 0
def tw8116258010093073621 := 0
def tw3736786397543911403 := 0
def tw5926660915066373146 := 0
def tw10795442430966226645 := 0
def tw2117158000996163778 := 0
def tw17710174978153818945 := 0
def tw14279832138689401947 := 0
def tw14055575735973277445 := 0
def tw11569015803465887944 := 0
def tw4625153072500947616 := 0
def tw7077202289242281817 := 0
def tw14714283220328642019 := 0
def tw8209809397124263181 := 0
def tw17895045161482904899 := 0
def tw14524436639628347396 := 0
def tw9938906898069417819 := 0
def tw15485946739373249785 := 0
def tw10229640876531499623 := 0
def tw13171375154547867049 := 0
def tw944551315924881971 := 0
def tw4405203986945763123 := 0
def tw12378185547502834076 := 0
def tw1445563070760918441 := 0
def tw17256316197183370804 := 0
def tw9390048215976977840 := 0
def tw12033842460257351765 := 0
def tw16885125213540938638 := 0
def tw4670016366576687537 := 0
def tw18055508428383634837 := 0
def tw8627707732551440917 := 0
def tw962536579173723825 := 0
def tw3947974469394427287 := 0
def tw16668549825248673772 := 0
def tw183958269447272076 := 0
def tw13885352466392872624 := 0
def tw15263587793940620310 := 0
def tw8079514982947273799 := 0
def tw11689126487591959763 := 0
def tw3078912278764722241 := 0
def tw6258640588155293397 := 0
def tw8260109697398937649 := 0
def tw14651494376371577131 := 0
def tw17879825442491082401 := 0
def tw5517066322140639171 := 0
def tw2583827050410469848 := 0
def tw15230690008860698377 := 0
def tw12920731925838026055 := 0
def tw16671031017592782164 := 0
def tw1385969855294661251 := 0
def tw3816176419130953900 := 0
def tw6763214233828660214 := 0
def tw18327789226190535106 := 0
def tw8891264665463797005 := 0
def tw919087144070544564 := 0
def tw3504816979020317903 := 0
def tw3006183135074596457 := 0
def tw13682641456072559955 := 0
def tw16619487489459565720 := 0
def tw5706924659081089059 := 0
def tw310267256130487732 := 0
def tw4266710649578761321 := 0
def tw12681973393181075000 := 0
def tw9459700150662501696 := 0
def tw16557820620501221418 := 0
def tw8890883011472460809 := 0
def tw12823954687355557377 := 0
def tw2580718365106514513 := 0
def tw18358400110901702383 := 0
def tw16627280775268903471 := 0
def tw14933123631741519228 := 0
def tw138863153843680902 := 0
def tw4933411656091146935 := 0
def tw3497243609242561199 := 0
def tw14684787468196437364 := 0
def tw1119854367887363372 := 0
def tw3334152202121487331 := 0
def tw5397608695470897339 := 0
def tw1965522374659800579 := 0
def tw16199801135590498409 := 0
def tw11743279522972395634 := 0
def tw12171105582806846923 := 0
def tw4755749642936094531 := 0
def tw15617738816023144007 := 0
def tw2936485691039235080 := 0
def tw17124921058645751129 := 0
def tw1497690199756992372 := 0
def tw3633685730131583976 := 0
def tw13659392878797021625 := 0
def tw11111028498358756894 := 0
def tw4506576985815133152 := 0
def tw429961949693116462 := 0
def tw5888439480580351629 := 0
def tw2014891049655067939 := 0
def tw132384280740315595 := 0
def tw3666981271852155216 := 0
def tw2469224250224869060 := 0
def tw4615695451620653858 := 0
def tw17213557160368257557 := 0
def tw17662728742510008006 := 0
def tw14110739505758757781 := 0
def tw12923659961301155842 := 0
def tw2644859644819176062 := 0
def tw7086590718656343183 := 0
def tw10529921430020027358 := 0
def tw13224674240649216147 := 0
def tw5073876659960006635 := 0
def tw13103728156798793540 := 0
def tw10281431226104189208 := 0
def tw6606307746070117015 := 0
def tw929068638133541234 := 0
def tw16433199500169230029 := 0
def tw6428212096398048005 := 0
def tw16810171557583840683 := 0
def tw5532266133202223579 := 0
def tw15798817813615855089 := 0
def tw7282286479139170398 := 0
def tw3880804260356902311 := 0
def tw9989524747897574313 := 0
def tw3855084705272687508 := 0
def tw16290392028182772909 := 0
def tw4189266791241131206 := 0
def tw140026283954491472 := 0
def tw12621421565193668069 := 0
def tw1217781083754857454 := 0
def tw783047225641393166 := 0
def tw8114473904484052673 := 0
def tw12053059651926149441 := 0
def tw631526494231252846 := 0
def tw399427904902775451 := 0
def tw4863236966283704100 := 0
def tw2945701835804839232 := 0
def tw13100548661465714159 := 0
def tw10031120200396239284 := 0
def tw17090567657119043380 := 0
def tw7705768614950275429 := 0
def tw18065480119237095540 := 0
def tw5813866787703244296 := 0
def tw6455799878349815614 := 0
def tw14825049273590235787 := 0
def tw1421709141846944204 := 0
def tw4198170512719307094 := 0
def tw6620918659617358916 := 0
def tw9880844321319652209 := 0
def tw13483712153113452953 := 0
def tw10787495227803836842 := 0
def tw17945309161711437329 := 0
def tw15866002547823147672 := 0
def tw6772374935131338679 := 0
def tw10252222075229020413 := 0
def tw9963992536419065574 := 0
def tw5264962230109962308 := 0
def tw3855928775038002973 := 0
def tw16384771165266809768 := 0
def tw9460111744334533801 := 0
def tw9823598115208092232 := 0
def tw3689438511738177286 := 0
def tw16323447491425534951 := 0
def tw4695639961020354816 := 0
def tw5668423897023360366 := 0
def tw8979717459396032126 := 0
def tw4896774974828076111 := 0
def tw2883396656464119400 := 0
def tw11138294591155243509 := 0
def tw9685086868002846708 := 0
def tw197734770220652386 := 0
def tw6297980491638390026 := 0
def tw1703896411018272011 := 0
def tw8548645267897694787 := 0
def tw10534886818346308321 := 0
def tw4160281711115991190 := 0
end PySem.W.Fast
namespace Tt
open PySem L2
theorem all_mk {l : PySem.W.OpenLaw} {w : World} {K : PySem.W.Frag} {h : Heap} {mg : Str → Option Value} {fa : Addr} (KX : K.In h) (G : h.Ns mainGlobals mg) (hfa : mg "law" = some (.ref fa))
    {f1 f2 f3 f4 f5 f6 f7 f8 f9 f10 f11 f12 f13 f14 f15 f16 f17 f18 f19 f20 f21 f22 f23 f24 f25 f26 f27 f28 f29 f30 f31 g0 g1 g2 g3 g4 g5 g6 g7 h0 h1 h2 h3 h4 h5 h6 h7 h8 h9 h10 h11 h12 h13 CL C0 C1 C2 C3 C4 C5 C6 C7 : Addr}
    {nm0 q0 : Str} {N0 : Addr} {bs0 bm0 sub0 : List Value} {sn0 : List Str} {ab0 : Bool} {col0 : Option Bool} {dd0 : Option Addr} {k00 k10 k20 k30 k50 : Option Value}
    {nm1 q1 : Str} {N1 : Addr} {bs1 bm1 sub1 : List Value} {sn1 : List Str} {ab1 : Bool} {col1 : Option Bool} {dd1 : Option Addr} {k01 k11 k21 k31 k51 : Option Value}
    {nm2 q2 : Str} {N2 : Addr} {bs2 bm2 sub2 : List Value} {sn2 : List Str} {ab2 : Bool} {col2 : Option Bool} {dd2 : Option Addr} {k02 k12 k22 k32 k52 : Option Value}
    {nm3 q3 : Str} {N3 : Addr} {bs3 bm3 sub3 : List Value} {sn3 : List Str} {ab3 : Bool} {col3 : Option Bool} {dd3 : Option Addr} {k03 k13 k23 k33 k53 : Option Value}
    {nm4 q4 : Str} {N4 : Addr} {bs4 bm4 sub4 : List Value} {sn4 : List Str} {ab4 : Bool} {col4 : Option Bool} {dd4 : Option Addr} {k04 k14 k24 k34 k54 : Option Value}
    {nm5 q5 : Str} {N5 : Addr} {bs5 bm5 sub5 : List Value} {sn5 : List Str} {ab5 : Bool} {col5 : Option Bool} {dd5 : Option Addr} {k05 k15 k25 k35 k55 : Option Value}
    {nm6 q6 : Str} {N6 : Addr} {bs6 bm6 sub6 : List Value} {sn6 : List Str} {ab6 : Bool} {col6 : Option Bool} {dd6 : Option Addr} {k06 k16 k26 k36 k56 : Option Value}
    {nm7 q7 : Str} {N7 : Addr} {bs7 bm7 sub7 : List Value} {sn7 : List Str} {ab7 : Bool} {col7 : Option Bool} {dd7 : Option Addr} {k07 k17 k27 k37 k57 : Option Value}
    {t0 t1 t2 t3 : Tok}
    (af1 : PySem.W.nsIn K mainGlobals "law" = some (some (.ref f1)))
    (lf1 : K.lookup f1 = some ⟨ocf1, odf1, .func (PySem.W.fnOf "law" "law" (defArgs sLaw) (defBody sLaw) (defScope sLaw) .none kVf1 dcf1 pmf1 anf1 cdf1 ctf1), slf1⟩)
    (cf1 : PySem.W.codeIn K cdf1 "law" = true)
    (kf1 : PySem.W.keepIn K (.ref f1) = true)
    (af2 : PySem.W.nsIn K mainGlobals "_law_room" = some (some (.ref f2)))
    (lf2 : K.lookup f2 = some ⟨ocf2, odf2, .func (PySem.W.fnOf "_law_room" "_law_room" (defArgs sRoom) (defBody sRoom) (defScope sRoom) .none kVf2 dcf2 pmf2 anf2 cdf2 ctf2), slf2⟩)
    (cf2 : PySem.W.codeIn K cdf2 "_law_room" = true)
    (kf2 : PySem.W.keepIn K (.ref f2) = true)
    (af3 : PySem.W.nsIn K mainGlobals "_law_draw" = some (some (.ref f3)))
    (lf3 : K.lookup f3 = some ⟨ocf3, odf3, .func (PySem.W.fnOf "_law_draw" "_law_draw" (defArgs sDraw) (defBody sDraw) (defScope sDraw) .none kVf3 dcf3 pmf3 anf3 cdf3 ctf3), slf3⟩)
    (cf3 : PySem.W.codeIn K cdf3 "_law_draw" = true)
    (kf3 : PySem.W.keepIn K (.ref f3) = true)
    (af4 : PySem.W.nsIn K mainGlobals "_law_whole" = some (some (.ref f4)))
    (lf4 : K.lookup f4 = some ⟨ocf4, odf4, .func (PySem.W.fnOf "_law_whole" "_law_whole" (defArgs sWhole) (defBody sWhole) (defScope sWhole) .none kVf4 dcf4 pmf4 anf4 cdf4 ctf4), slf4⟩)
    (cf4 : PySem.W.codeIn K cdf4 "_law_whole" = true)
    (kf4 : PySem.W.keepIn K (.ref f4) = true)
    (af5 : PySem.W.nsIn K mainGlobals "_law_at" = some (some (.ref f5)))
    (lf5 : K.lookup f5 = some ⟨ocf5, odf5, .func (PySem.W.fnOf "_law_at" "_law_at" (defArgs sAt) (defBody sAt) (defScope sAt) .none kVf5 dcf5 pmf5 anf5 cdf5 ctf5), slf5⟩)
    (cf5 : PySem.W.codeIn K cdf5 "_law_at" = true)
    (kf5 : PySem.W.keepIn K (.ref f5) = true)
    (af6 : PySem.W.nsIn K mainGlobals "_law_accounts" = some (some (.ref f6)))
    (lf6 : K.lookup f6 = some ⟨ocf6, odf6, .func (PySem.W.fnOf "_law_accounts" "_law_accounts" (defArgs sAcc) (defBody sAcc) (defScope sAcc) .none kVf6 dcf6 pmf6 anf6 cdf6 ctf6), slf6⟩)
    (cf6 : PySem.W.codeIn K cdf6 "_law_accounts" = true)
    (kf6 : PySem.W.keepIn K (.ref f6) = true)
    (af7 : PySem.W.nsIn K mainGlobals "_law_penned" = some (some (.ref f7)))
    (lf7 : K.lookup f7 = some ⟨ocf7, odf7, .func (PySem.W.fnOf "_law_penned" "_law_penned" (defArgs sPen) (defBody sPen) (defScope sPen) .none kVf7 dcf7 pmf7 anf7 cdf7 ctf7), slf7⟩)
    (cf7 : PySem.W.codeIn K cdf7 "_law_penned" = true)
    (kf7 : PySem.W.keepIn K (.ref f7) = true)
    (af8 : PySem.W.nsIn K mainGlobals "_law_marred" = some (some (.ref f8)))
    (lf8 : K.lookup f8 = some ⟨ocf8, odf8, .func (PySem.W.fnOf "_law_marred" "_law_marred" (defArgs sMar) (defBody sMar) (defScope sMar) .none kVf8 dcf8 pmf8 anf8 cdf8 ctf8), slf8⟩)
    (cf8 : PySem.W.codeIn K cdf8 "_law_marred" = true)
    (kf8 : PySem.W.keepIn K (.ref f8) = true)
    (af9 : PySem.W.nsIn K mainGlobals "_law_deeds" = some (some (.ref f9)))
    (lf9 : K.lookup f9 = some ⟨ocf9, odf9, .func (PySem.W.fnOf "_law_deeds" "_law_deeds" (defArgs sDeeds) (defBody sDeeds) (defScope sDeeds) .none kVf9 dcf9 pmf9 anf9 cdf9 ctf9), slf9⟩)
    (cf9 : PySem.W.codeIn K cdf9 "_law_deeds" = true)
    (kf9 : PySem.W.keepIn K (.ref f9) = true)
    (af10 : PySem.W.nsIn K mainGlobals "_law_barred" = some (some (.ref f10)))
    (lf10 : K.lookup f10 = some ⟨ocf10, odf10, .func (PySem.W.fnOf "_law_barred" "_law_barred" (defArgs sBar) (defBody sBar) (defScope sBar) .none kVf10 dcf10 pmf10 anf10 cdf10 ctf10), slf10⟩)
    (cf10 : PySem.W.codeIn K cdf10 "_law_barred" = true)
    (kf10 : PySem.W.keepIn K (.ref f10) = true)
    (af11 : PySem.W.nsIn K mainGlobals "_law_step" = some (some (.ref f11)))
    (lf11 : K.lookup f11 = some ⟨ocf11, odf11, .func (PySem.W.fnOf "_law_step" "_law_step" (defArgs sStep) (defBody sStep) (defScope sStep) .none kVf11 dcf11 pmf11 anf11 cdf11 ctf11), slf11⟩)
    (cf11 : PySem.W.codeIn K cdf11 "_law_step" = true)
    (kf11 : PySem.W.keepIn K (.ref f11) = true)
    (af12 : PySem.W.nsIn K mainGlobals "_law_changes" = some (some (.ref f12)))
    (lf12 : K.lookup f12 = some ⟨ocf12, odf12, .func (PySem.W.fnOf "_law_changes" "_law_changes" (defArgs sChg) (defBody sChg) (defScope sChg) .none kVf12 dcf12 pmf12 anf12 cdf12 ctf12), slf12⟩)
    (cf12 : PySem.W.codeIn K cdf12 "_law_changes" = true)
    (kf12 : PySem.W.keepIn K (.ref f12) = true)
    (af13 : PySem.W.nsIn K mainGlobals "_law_does" = some (some (.ref f13)))
    (lf13 : K.lookup f13 = some ⟨ocf13, odf13, .func (PySem.W.fnOf "_law_does" "_law_does" (defArgs sDoes) (defBody sDoes) (defScope sDoes) .none kVf13 dcf13 pmf13 anf13 cdf13 ctf13), slf13⟩)
    (cf13 : PySem.W.codeIn K cdf13 "_law_does" = true)
    (kf13 : PySem.W.keepIn K (.ref f13) = true)
    (af14 : PySem.W.nsIn K mainGlobals "_law_has" = some (some (.ref f14)))
    (lf14 : K.lookup f14 = some ⟨ocf14, odf14, .func (PySem.W.fnOf "_law_has" "_law_has" (defArgs sHas) (defBody sHas) (defScope sHas) .none kVf14 dcf14 pmf14 anf14 cdf14 ctf14), slf14⟩)
    (cf14 : PySem.W.codeIn K cdf14 "_law_has" = true)
    (kf14 : PySem.W.keepIn K (.ref f14) = true)
    (af15 : PySem.W.nsIn K mainGlobals "_law_snapped" = some (some (.ref f15)))
    (lf15 : K.lookup f15 = some ⟨ocf15, odf15, .func (PySem.W.fnOf "_law_snapped" "_law_snapped" (defArgs sSnapped) (defBody sSnapped) (defScope sSnapped) .none kVf15 dcf15 pmf15 anf15 cdf15 ctf15), slf15⟩)
    (cf15 : PySem.W.codeIn K cdf15 "_law_snapped" = true)
    (kf15 : PySem.W.keepIn K (.ref f15) = true)
    (af16 : PySem.W.nsIn K mainGlobals "_law_alike" = some (some (.ref f16)))
    (lf16 : K.lookup f16 = some ⟨ocf16, odf16, .func (PySem.W.fnOf "_law_alike" "_law_alike" (defArgs sAlike) (defBody sAlike) (defScope sAlike) .none kVf16 dcf16 pmf16 anf16 cdf16 ctf16), slf16⟩)
    (cf16 : PySem.W.codeIn K cdf16 "_law_alike" = true)
    (kf16 : PySem.W.keepIn K (.ref f16) = true)
    (af17 : PySem.W.nsIn K mainGlobals "_law_all_named" = some (some (.ref f17)))
    (lf17 : K.lookup f17 = some ⟨ocf17, odf17, .func (PySem.W.fnOf "_law_all_named" "_law_all_named" (defArgs sAllNamed) (defBody sAllNamed) (defScope sAllNamed) .none kVf17 dcf17 pmf17 anf17 cdf17 ctf17), slf17⟩)
    (cf17 : PySem.W.codeIn K cdf17 "_law_all_named" = true)
    (kf17 : PySem.W.keepIn K (.ref f17) = true)
    (af18 : PySem.W.nsIn K mainGlobals "balances" = some (some (.ref f18)))
    (lf18 : K.lookup f18 = some ⟨ocf18, odf18, .func (PySem.W.fnOf "balances" "balances" (defArgs sBalances) (defBody sBalances) (defScope sBalances) .none kVf18 dcf18 pmf18 anf18 cdf18 ctf18), slf18⟩)
    (cf18 : PySem.W.codeIn K cdf18 "balances" = true)
    (kf18 : PySem.W.keepIn K (.ref f18) = true)
    (af19 : PySem.W.nsIn K mainGlobals "balances_of" = some (some (.ref f19)))
    (lf19 : K.lookup f19 = some ⟨ocf19, odf19, .func (PySem.W.fnOf "balances_of" "balances_of" (defArgs sBalsOf) (defBody sBalsOf) (defScope sBalsOf) .none kVf19 dcf19 pmf19 anf19 cdf19 ctf19), slf19⟩)
    (cf19 : PySem.W.codeIn K cdf19 "balances_of" = true)
    (kf19 : PySem.W.keepIn K (.ref f19) = true)
    (af20 : PySem.W.nsIn K mainGlobals "accounts_of" = some (some (.ref f20)))
    (lf20 : K.lookup f20 = some ⟨ocf20, odf20, .func (PySem.W.fnOf "accounts_of" "accounts_of" (defArgs sAccsOf) (defBody sAccsOf) (defScope sAccsOf) .none kVf20 dcf20 pmf20 anf20 cdf20 ctf20), slf20⟩)
    (cf20 : PySem.W.codeIn K cdf20 "accounts_of" = true)
    (kf20 : PySem.W.keepIn K (.ref f20) = true)
    (af21 : PySem.W.nsIn K mainGlobals "ledger_behind" = some (some (.ref f21)))
    (lf21 : K.lookup f21 = some ⟨ocf21, odf21, .func (PySem.W.fnOf "ledger_behind" "ledger_behind" (defArgs sBehind) (defBody sBehind) (defScope sBehind) .none kVf21 dcf21 pmf21 anf21 cdf21 ctf21), slf21⟩)
    (cf21 : PySem.W.codeIn K cdf21 "ledger_behind" = true)
    (kf21 : PySem.W.keepIn K (.ref f21) = true)
    (af22 : PySem.W.nsIn K mainGlobals "effect" = some (some (.ref f22)))
    (lf22 : K.lookup f22 = some ⟨ocf22, odf22, .func (PySem.W.fnOf "effect" "effect" (defArgs sEff) (defBody sEff) (defScope sEff) .none kVf22 dcf22 pmf22 anf22 cdf22 ctf22), slf22⟩)
    (cf22 : PySem.W.codeIn K cdf22 "effect" = true)
    (kf22 : PySem.W.keepIn K (.ref f22) = true)
    (af23 : PySem.W.nsIn K mainGlobals "balance_of" = some (some (.ref f23)))
    (lf23 : K.lookup f23 = some ⟨ocf23, odf23, .func (PySem.W.fnOf "balance_of" "balance_of" (defArgs sBal) (defBody sBal) (defScope sBal) .none kVf23 dcf23 pmf23 anf23 cdf23 ctf23), slf23⟩)
    (cf23 : PySem.W.codeIn K cdf23 "balance_of" = true)
    (kf23 : PySem.W.keepIn K (.ref f23) = true)
    (af24 : PySem.W.nsIn K mainGlobals "sheet_of" = some (some (.ref f24)))
    (lf24 : K.lookup f24 = some ⟨ocf24, odf24, .func (PySem.W.fnOf "sheet_of" "sheet_of" (defArgs sSheet) (defBody sSheet) (defScope sSheet) .none kVf24 dcf24 pmf24 anf24 cdf24 ctf24), slf24⟩)
    (cf24 : PySem.W.codeIn K cdf24 "sheet_of" = true)
    (kf24 : PySem.W.keepIn K (.ref f24) = true)
    (af25 : PySem.W.nsIn K mainGlobals "lines_of" = some (some (.ref f25)))
    (lf25 : K.lookup f25 = some ⟨ocf25, odf25, .func (PySem.W.fnOf "lines_of" "lines_of" (defArgs sLines) (defBody sLines) (defScope sLines) .none kVf25 dcf25 pmf25 anf25 cdf25 ctf25), slf25⟩)
    (cf25 : PySem.W.codeIn K cdf25 "lines_of" = true)
    (kf25 : PySem.W.keepIn K (.ref f25) = true)
    (af26 : PySem.W.nsIn K mainGlobals "news_of" = some (some (.ref f26)))
    (lf26 : K.lookup f26 = some ⟨ocf26, odf26, .func (PySem.W.fnOf "news_of" "news_of" (defArgs sNews) (defBody sNews) (defScope sNews) .none kVf26 dcf26 pmf26 anf26 cdf26 ctf26), slf26⟩)
    (cf26 : PySem.W.codeIn K cdf26 "news_of" = true)
    (kf26 : PySem.W.keepIn K (.ref f26) = true)
    (af27 : PySem.W.nsIn K mainGlobals "content_of" = some (some (.ref f27)))
    (lf27 : K.lookup f27 = some ⟨ocf27, odf27, .func (PySem.W.fnOf "content_of" "content_of" (defArgs sCof) (defBody sCof) (defScope sCof) .none kVf27 dcf27 pmf27 anf27 cdf27 ctf27), slf27⟩)
    (cf27 : PySem.W.codeIn K cdf27 "content_of" = true)
    (kf27 : PySem.W.keepIn K (.ref f27) = true)
    (af28 : PySem.W.nsIn K mainGlobals "known" = some (some (.ref f28)))
    (lf28 : K.lookup f28 = some ⟨ocf28, odf28, .func (PySem.W.fnOf "known" "known" (defArgs sKnown) (defBody sKnown) (defScope sKnown) .none kVf28 dcf28 pmf28 anf28 cdf28 ctf28), slf28⟩)
    (cf28 : PySem.W.codeIn K cdf28 "known" = true)
    (kf28 : PySem.W.keepIn K (.ref f28) = true)
    (af29 : PySem.W.nsIn K mainGlobals "check_sides" = some (some (.ref f29)))
    (lf29 : K.lookup f29 = some ⟨ocf29, odf29, .func (PySem.W.fnOf "check_sides" "check_sides" (defArgs sSides) (defBody sSides) (defScope sSides) .none kVf29 dcf29 pmf29 anf29 cdf29 ctf29), slf29⟩)
    (cf29 : PySem.W.codeIn K cdf29 "check_sides" = true)
    (kf29 : PySem.W.keepIn K (.ref f29) = true)
    (af30 : PySem.W.nsIn K mainGlobals "answer" = some (some (.ref f30)))
    (lf30 : K.lookup f30 = some ⟨ocf30, odf30, .func (PySem.W.fnOf "answer" "answer" (defArgs sAnswer) (defBody sAnswer) (defScope sAnswer) .none kVf30 dcf30 pmf30 anf30 cdf30 ctf30), slf30⟩)
    (cf30 : PySem.W.codeIn K cdf30 "answer" = true)
    (kf30 : PySem.W.keepIn K (.ref f30) = true)
    (af31 : PySem.W.nsIn K mainGlobals "carry_out" = some (some (.ref f31)))
    (lf31 : K.lookup f31 = some ⟨ocf31, odf31, .func (PySem.W.fnOf "carry_out" "carry_out" (defArgs sCarry) (defBody sCarry) (defScope sCarry) .none kVf31 dcf31 pmf31 anf31 cdf31 ctf31), slf31⟩)
    (cf31 : PySem.W.codeIn K cdf31 "carry_out" = true)
    (kf31 : PySem.W.keepIn K (.ref f31) = true)
    (xn0 : PySem.W.nsIn K mainGlobals "Refused" = some (some (.ref C0)))
    (xl0 : K.lookup C0 = some (XC nm0 q0 C0 N0 bs0 bm0 true sn0 sub0 ab0 col0 dd0 k00 k10 k20 k30 k50))
    (xm0 : XMro bm0)
    (xo0 : bm0.contains (.type "object") = true)
    (xr0 : (Value.ref C0 :: bm0).contains (.ref C0) = true)
    (xs0 : ∀ x : Addr, refuseLoop (.ref x) "__setattr__" bm0 = pure ())
    (xa0 : PySem.W.findIn K (.ref C0) "__getattribute__" = some (some (.builtin "BaseException.__getattribute__")))
    (xh0 : PySem.W.findIn K (.ref C0) "__getattr__" = some none)
    (xt0 : PySem.W.findIn K (.ref C0) "__setattr__" = some (some (.builtin "object.__setattr__")))
    (xw0 : PySem.W.findIn K (.ref C0) "words" = some none)
    (xk0 : PySem.W.keepIn K (.ref C0) = true)
    (xi0 : PySem.W.findIn K (.ref C0) "__init__" = some (some (.ref g0)))
    (xf0 : PySem.W.isFn K (.ref g0) = true)
    (lg0 : K.lookup g0 = some ⟨ocg0, odg0, .func (PySem.W.fnOf "__init__" "Refused.__init__" (defArgs (inClass sRefused 0)) (defBody (inClass sRefused 0)) (defScope (inClass sRefused 0)) .none kVg0 dcg0 pmg0 ang0 cdg0 ctg0), slg0⟩)
    (cg0 : PySem.W.codeIn K cdg0 "Refused.__init__" = true)
    (kg0 : PySem.W.keepIn K (.ref g0) = true)
    (xn1 : PySem.W.nsIn K mainGlobals "NoPosting" = some (some (.ref C1)))
    (xl1 : K.lookup C1 = some (XC nm1 q1 C1 N1 bs1 bm1 true sn1 sub1 ab1 col1 dd1 k01 k11 k21 k31 k51))
    (xm1 : XMro bm1)
    (xo1 : bm1.contains (.type "object") = true)
    (xr1 : (Value.ref C1 :: bm1).contains (.ref C0) = true)
    (xs1 : ∀ x : Addr, refuseLoop (.ref x) "__setattr__" bm1 = pure ())
    (xa1 : PySem.W.findIn K (.ref C1) "__getattribute__" = some (some (.builtin "BaseException.__getattribute__")))
    (xh1 : PySem.W.findIn K (.ref C1) "__getattr__" = some none)
    (xt1 : PySem.W.findIn K (.ref C1) "__setattr__" = some (some (.builtin "object.__setattr__")))
    (xw1 : PySem.W.findIn K (.ref C1) "words" = some none)
    (xk1 : PySem.W.keepIn K (.ref C1) = true)
    (xi1 : PySem.W.findIn K (.ref C1) "__init__" = some (some (.ref g1)))
    (xf1 : PySem.W.isFn K (.ref g1) = true)
    (lg1 : K.lookup g1 = some ⟨ocg1, odg1, .func (PySem.W.fnOf "__init__" "NoPosting.__init__" (defArgs (inClass sNoPosting 0)) (defBody (inClass sNoPosting 0)) (defScope (inClass sNoPosting 0)) .none kVg1 dcg1 pmg1 ang1 cdg1 ctg1), slg1⟩)
    (cg1 : PySem.W.codeIn K cdg1 "NoPosting.__init__" = true)
    (kg1 : PySem.W.keepIn K (.ref g1) = true)
    (xn2 : PySem.W.nsIn K mainGlobals "Struck" = some (some (.ref C2)))
    (xl2 : K.lookup C2 = some (XC nm2 q2 C2 N2 bs2 bm2 true sn2 sub2 ab2 col2 dd2 k02 k12 k22 k32 k52))
    (xm2 : XMro bm2)
    (xo2 : bm2.contains (.type "object") = true)
    (xr2 : (Value.ref C2 :: bm2).contains (.ref C0) = true)
    (xs2 : ∀ x : Addr, refuseLoop (.ref x) "__setattr__" bm2 = pure ())
    (xa2 : PySem.W.findIn K (.ref C2) "__getattribute__" = some (some (.builtin "BaseException.__getattribute__")))
    (xh2 : PySem.W.findIn K (.ref C2) "__getattr__" = some none)
    (xt2 : PySem.W.findIn K (.ref C2) "__setattr__" = some (some (.builtin "object.__setattr__")))
    (xw2 : PySem.W.findIn K (.ref C2) "words" = some none)
    (xk2 : PySem.W.keepIn K (.ref C2) = true)
    (xi2 : PySem.W.findIn K (.ref C2) "__init__" = some (some (.ref g2)))
    (xf2 : PySem.W.isFn K (.ref g2) = true)
    (lg2 : K.lookup g2 = some ⟨ocg2, odg2, .func (PySem.W.fnOf "__init__" "Struck.__init__" (defArgs (inClass sStruck 0)) (defBody (inClass sStruck 0)) (defScope (inClass sStruck 0)) .none kVg2 dcg2 pmg2 ang2 cdg2 ctg2), slg2⟩)
    (cg2 : PySem.W.codeIn K cdg2 "Struck.__init__" = true)
    (kg2 : PySem.W.keepIn K (.ref g2) = true)
    (xn3 : PySem.W.nsIn K mainGlobals "SameAccount" = some (some (.ref C3)))
    (xl3 : K.lookup C3 = some (XC nm3 q3 C3 N3 bs3 bm3 true sn3 sub3 ab3 col3 dd3 k03 k13 k23 k33 k53))
    (xm3 : XMro bm3)
    (xo3 : bm3.contains (.type "object") = true)
    (xr3 : (Value.ref C3 :: bm3).contains (.ref C0) = true)
    (xs3 : ∀ x : Addr, refuseLoop (.ref x) "__setattr__" bm3 = pure ())
    (xa3 : PySem.W.findIn K (.ref C3) "__getattribute__" = some (some (.builtin "BaseException.__getattribute__")))
    (xh3 : PySem.W.findIn K (.ref C3) "__getattr__" = some none)
    (xt3 : PySem.W.findIn K (.ref C3) "__setattr__" = some (some (.builtin "object.__setattr__")))
    (xw3 : PySem.W.findIn K (.ref C3) "words" = some none)
    (xk3 : PySem.W.keepIn K (.ref C3) = true)
    (xi3 : PySem.W.findIn K (.ref C3) "__init__" = some (some (.ref g3)))
    (xf3 : PySem.W.isFn K (.ref g3) = true)
    (lg3 : K.lookup g3 = some ⟨ocg3, odg3, .func (PySem.W.fnOf "__init__" "SameAccount.__init__" (defArgs (inClass sSameAccount 0)) (defBody (inClass sSameAccount 0)) (defScope (inClass sSameAccount 0)) .none kVg3 dcg3 pmg3 ang3 cdg3 ctg3), slg3⟩)
    (cg3 : PySem.W.codeIn K cdg3 "SameAccount.__init__" = true)
    (kg3 : PySem.W.keepIn K (.ref g3) = true)
    (xn4 : PySem.W.nsIn K mainGlobals "NoAmount" = some (some (.ref C4)))
    (xl4 : K.lookup C4 = some (XC nm4 q4 C4 N4 bs4 bm4 true sn4 sub4 ab4 col4 dd4 k04 k14 k24 k34 k54))
    (xm4 : XMro bm4)
    (xo4 : bm4.contains (.type "object") = true)
    (xr4 : (Value.ref C4 :: bm4).contains (.ref C0) = true)
    (xs4 : ∀ x : Addr, refuseLoop (.ref x) "__setattr__" bm4 = pure ())
    (xa4 : PySem.W.findIn K (.ref C4) "__getattribute__" = some (some (.builtin "BaseException.__getattribute__")))
    (xh4 : PySem.W.findIn K (.ref C4) "__getattr__" = some none)
    (xt4 : PySem.W.findIn K (.ref C4) "__setattr__" = some (some (.builtin "object.__setattr__")))
    (xw4 : PySem.W.findIn K (.ref C4) "words" = some none)
    (xk4 : PySem.W.keepIn K (.ref C4) = true)
    (xi4 : PySem.W.findIn K (.ref C4) "__init__" = some (some (.ref g4)))
    (xf4 : PySem.W.isFn K (.ref g4) = true)
    (lg4 : K.lookup g4 = some ⟨ocg4, odg4, .func (PySem.W.fnOf "__init__" "NoAmount.__init__" (defArgs (inClass sNoAmount 0)) (defBody (inClass sNoAmount 0)) (defScope (inClass sNoAmount 0)) .none kVg4 dcg4 pmg4 ang4 cdg4 ctg4), slg4⟩)
    (cg4 : PySem.W.codeIn K cdg4 "NoAmount.__init__" = true)
    (kg4 : PySem.W.keepIn K (.ref g4) = true)
    (xn5 : PySem.W.nsIn K mainGlobals "Closed" = some (some (.ref C5)))
    (xl5 : K.lookup C5 = some (XC nm5 q5 C5 N5 bs5 bm5 true sn5 sub5 ab5 col5 dd5 k05 k15 k25 k35 k55))
    (xm5 : XMro bm5)
    (xo5 : bm5.contains (.type "object") = true)
    (xr5 : (Value.ref C5 :: bm5).contains (.ref C0) = true)
    (xs5 : ∀ x : Addr, refuseLoop (.ref x) "__setattr__" bm5 = pure ())
    (xa5 : PySem.W.findIn K (.ref C5) "__getattribute__" = some (some (.builtin "BaseException.__getattribute__")))
    (xh5 : PySem.W.findIn K (.ref C5) "__getattr__" = some none)
    (xt5 : PySem.W.findIn K (.ref C5) "__setattr__" = some (some (.builtin "object.__setattr__")))
    (xw5 : PySem.W.findIn K (.ref C5) "words" = some none)
    (xk5 : PySem.W.keepIn K (.ref C5) = true)
    (xi5 : PySem.W.findIn K (.ref C5) "__init__" = some (some (.ref g5)))
    (xf5 : PySem.W.isFn K (.ref g5) = true)
    (lg5 : K.lookup g5 = some ⟨ocg5, odg5, .func (PySem.W.fnOf "__init__" "Closed.__init__" (defArgs (inClass sClosed 0)) (defBody (inClass sClosed 0)) (defScope (inClass sClosed 0)) .none kVg5 dcg5 pmg5 ang5 cdg5 ctg5), slg5⟩)
    (cg5 : PySem.W.codeIn K cdg5 "Closed.__init__" = true)
    (kg5 : PySem.W.keepIn K (.ref g5) = true)
    (xn6 : PySem.W.nsIn K mainGlobals "NoDays" = some (some (.ref C6)))
    (xl6 : K.lookup C6 = some (XC nm6 q6 C6 N6 bs6 bm6 true sn6 sub6 ab6 col6 dd6 k06 k16 k26 k36 k56))
    (xm6 : XMro bm6)
    (xo6 : bm6.contains (.type "object") = true)
    (xr6 : (Value.ref C6 :: bm6).contains (.ref C0) = true)
    (xs6 : ∀ x : Addr, refuseLoop (.ref x) "__setattr__" bm6 = pure ())
    (xa6 : PySem.W.findIn K (.ref C6) "__getattribute__" = some (some (.builtin "BaseException.__getattribute__")))
    (xh6 : PySem.W.findIn K (.ref C6) "__getattr__" = some none)
    (xt6 : PySem.W.findIn K (.ref C6) "__setattr__" = some (some (.builtin "object.__setattr__")))
    (xw6 : PySem.W.findIn K (.ref C6) "words" = some none)
    (xk6 : PySem.W.keepIn K (.ref C6) = true)
    (xi6 : PySem.W.findIn K (.ref C6) "__init__" = some (some (.ref g6)))
    (xf6 : PySem.W.isFn K (.ref g6) = true)
    (lg6 : K.lookup g6 = some ⟨ocg6, odg6, .func (PySem.W.fnOf "__init__" "NoDays.__init__" (defArgs (inClass sNoDays 0)) (defBody (inClass sNoDays 0)) (defScope (inClass sNoDays 0)) .none kVg6 dcg6 pmg6 ang6 cdg6 ctg6), slg6⟩)
    (cg6 : PySem.W.codeIn K cdg6 "NoDays.__init__" = true)
    (kg6 : PySem.W.keepIn K (.ref g6) = true)
    (xn7 : PySem.W.nsIn K mainGlobals "NotYet" = some (some (.ref C7)))
    (xl7 : K.lookup C7 = some (XC nm7 q7 C7 N7 bs7 bm7 true sn7 sub7 ab7 col7 dd7 k07 k17 k27 k37 k57))
    (xm7 : XMro bm7)
    (xo7 : bm7.contains (.type "object") = true)
    (xr7 : (Value.ref C7 :: bm7).contains (.ref C0) = true)
    (xs7 : ∀ x : Addr, refuseLoop (.ref x) "__setattr__" bm7 = pure ())
    (xa7 : PySem.W.findIn K (.ref C7) "__getattribute__" = some (some (.builtin "BaseException.__getattribute__")))
    (xh7 : PySem.W.findIn K (.ref C7) "__getattr__" = some none)
    (xt7 : PySem.W.findIn K (.ref C7) "__setattr__" = some (some (.builtin "object.__setattr__")))
    (xw7 : PySem.W.findIn K (.ref C7) "words" = some none)
    (xk7 : PySem.W.keepIn K (.ref C7) = true)
    (xi7 : PySem.W.findIn K (.ref C7) "__init__" = some (some (.ref g7)))
    (xf7 : PySem.W.isFn K (.ref g7) = true)
    (lg7 : K.lookup g7 = some ⟨ocg7, odg7, .func (PySem.W.fnOf "__init__" "NotYet.__init__" (defArgs (inClass sNotYet 0)) (defBody (inClass sNotYet 0)) (defScope (inClass sNotYet 0)) .none kVg7 dcg7 pmg7 ang7 cdg7 ctg7), slg7⟩)
    (cg7 : PySem.W.codeIn K cdg7 "NotYet.__init__" = true)
    (kg7 : PySem.W.keepIn K (.ref g7) = true)
    (rs : PySem.W.specialIn K (.ref C0) "__getattribute__" = some (some (.builtin "type.__getattribute__")))
    (rr : PySem.W.readsIn K C0 (.type "type") = true)
    (rf : PySem.W.findCls K (.ref C0) (.type "type") "__init__" = some (.val (.ref g0)))
    (ln : PySem.W.nsIn K mainGlobals "Ledger" = some (some (.ref CL)))
    (lg : PySem.W.plainGet K CL Str.empty = true)
    (lh : PySem.W.hasDictIn K CL = true)
    (lp : PySem.W.plainOver K CL = true)
    (ls : PySem.W.findIn K (.ref CL) "__setattr__" = some (some (.builtin "object.__setattr__")))
    (u1 : PySem.W.findIn K (.ref CL) "hour" = some none)
    (u2 : PySem.W.findIn K (.ref CL) "histories" = some none)
    (u3 : PySem.W.findIn K (.ref CL) "closed_day" = some none)
    (lm : PySem.W.makesIn K CL = true)
    (lk : PySem.W.keepIn K (.ref CL) = true)
    (me0 : PySem.W.findIn K (.ref CL) "__init__" = some (some (.ref h0)))
    (mf0 : PySem.W.isFn K (.ref h0) = true)
    (lh0 : K.lookup h0 = some ⟨och0, odh0, .func (PySem.W.fnOf "__init__" "Ledger.__init__" (defArgs mIN) (defBody mIN) (defScope mIN) .none kVh0 dch0 pmh0 anh0 cdh0 cth0), slh0⟩)
    (ch0 : PySem.W.codeIn K cdh0 "Ledger.__init__" = true)
    (kh0 : PySem.W.keepIn K (.ref h0) = true)
    (me1 : PySem.W.findIn K (.ref CL) "move" = some (some (.ref h1)))
    (mf1 : PySem.W.isFn K (.ref h1) = true)
    (lh1 : K.lookup h1 = some ⟨och1, odh1, .func (PySem.W.fnOf "move" "Ledger.move" (defArgs mMV) (defBody mMV) (defScope mMV) .none kVh1 dch1 pmh1 anh1 cdh1 cth1), slh1⟩)
    (ch1 : PySem.W.codeIn K cdh1 "Ledger.move" = true)
    (kh1 : PySem.W.keepIn K (.ref h1) = true)
    (me2 : PySem.W.findIn K (.ref CL) "put_right" = some (some (.ref h2)))
    (mf2 : PySem.W.isFn K (.ref h2) = true)
    (lh2 : K.lookup h2 = some ⟨och2, odh2, .func (PySem.W.fnOf "put_right" "Ledger.put_right" (defArgs mPR) (defBody mPR) (defScope mPR) .none kVh2 dch2 pmh2 anh2 cdh2 cth2), slh2⟩)
    (ch2 : PySem.W.codeIn K cdh2 "Ledger.put_right" = true)
    (kh2 : PySem.W.keepIn K (.ref h2) = true)
    (me3 : PySem.W.findIn K (.ref CL) "strike" = some (some (.ref h3)))
    (mf3 : PySem.W.isFn K (.ref h3) = true)
    (lh3 : K.lookup h3 = some ⟨och3, odh3, .func (PySem.W.fnOf "strike" "Ledger.strike" (defArgs mSK) (defBody mSK) (defScope mSK) .none kVh3 dch3 pmh3 anh3 cdh3 cth3), slh3⟩)
    (ch3 : PySem.W.codeIn K cdh3 "Ledger.strike" = true)
    (kh3 : PySem.W.keepIn K (.ref h3) = true)
    (me4 : PySem.W.findIn K (.ref CL) "close_days" = some (some (.ref h4)))
    (mf4 : PySem.W.isFn K (.ref h4) = true)
    (lh4 : K.lookup h4 = some ⟨och4, odh4, .func (PySem.W.fnOf "close_days" "Ledger.close_days" (defArgs mCD) (defBody mCD) (defScope mCD) .none kVh4 dch4 pmh4 anh4 cdh4 cth4), slh4⟩)
    (ch4 : PySem.W.codeIn K cdh4 "Ledger.close_days" = true)
    (kh4 : PySem.W.keepIn K (.ref h4) = true)
    (me5 : PySem.W.findIn K (.ref CL) "balance" = some (some (.ref h5)))
    (mf5 : PySem.W.isFn K (.ref h5) = true)
    (lh5 : K.lookup h5 = some ⟨och5, odh5, .func (PySem.W.fnOf "balance" "Ledger.balance" (defArgs mBA) (defBody mBA) (defScope mBA) .none kVh5 dch5 pmh5 anh5 cdh5 cth5), slh5⟩)
    (ch5 : PySem.W.codeIn K cdh5 "Ledger.balance" = true)
    (kh5 : PySem.W.keepIn K (.ref h5) = true)
    (me6 : PySem.W.findIn K (.ref CL) "sheet" = some (some (.ref h6)))
    (mf6 : PySem.W.isFn K (.ref h6) = true)
    (lh6 : K.lookup h6 = some ⟨och6, odh6, .func (PySem.W.fnOf "sheet" "Ledger.sheet" (defArgs mSH) (defBody mSH) (defScope mSH) .none kVh6 dch6 pmh6 anh6 cdh6 cth6), slh6⟩)
    (ch6 : PySem.W.codeIn K cdh6 "Ledger.sheet" = true)
    (kh6 : PySem.W.keepIn K (.ref h6) = true)
    (me7 : PySem.W.findIn K (.ref CL) "news" = some (some (.ref h7)))
    (mf7 : PySem.W.isFn K (.ref h7) = true)
    (lh7 : K.lookup h7 = some ⟨och7, odh7, .func (PySem.W.fnOf "news" "Ledger.news" (defArgs mNW) (defBody mNW) (defScope mNW) .none kVh7 dch7 pmh7 anh7 cdh7 cth7), slh7⟩)
    (ch7 : PySem.W.codeIn K cdh7 "Ledger.news" = true)
    (kh7 : PySem.W.keepIn K (.ref h7) = true)
    (me8 : PySem.W.findIn K (.ref CL) "contents_at" = some (some (.ref h8)))
    (mf8 : PySem.W.isFn K (.ref h8) = true)
    (lh8 : K.lookup h8 = some ⟨och8, odh8, .func (PySem.W.fnOf "contents_at" "Ledger.contents_at" (defArgs mCA) (defBody mCA) (defScope mCA) .none kVh8 dch8 pmh8 anh8 cdh8 cth8), slh8⟩)
    (ch8 : PySem.W.codeIn K cdh8 "Ledger.contents_at" = true)
    (kh8 : PySem.W.keepIn K (.ref h8) = true)
    (me9 : PySem.W.findIn K (.ref CL) "has_posting" = some (some (.ref h9)))
    (mf9 : PySem.W.isFn K (.ref h9) = true)
    (lh9 : K.lookup h9 = some ⟨och9, odh9, .func (PySem.W.fnOf "has_posting" "Ledger.has_posting" (defArgs mHP) (defBody mHP) (defScope mHP) .none kVh9 dch9 pmh9 anh9 cdh9 cth9), slh9⟩)
    (ch9 : PySem.W.codeIn K cdh9 "Ledger.has_posting" = true)
    (kh9 : PySem.W.keepIn K (.ref h9) = true)
    (me10 : PySem.W.findIn K (.ref CL) "standing_content" = some (some (.ref h10)))
    (mf10 : PySem.W.isFn K (.ref h10) = true)
    (lh10 : K.lookup h10 = some ⟨och10, odh10, .func (PySem.W.fnOf "standing_content" "Ledger.standing_content" (defArgs mSC) (defBody mSC) (defScope mSC) .none kVh10 dch10 pmh10 anh10 cdh10 cth10), slh10⟩)
    (ch10 : PySem.W.codeIn K cdh10 "Ledger.standing_content" = true)
    (kh10 : PySem.W.keepIn K (.ref h10) = true)
    (me11 : PySem.W.findIn K (.ref CL) "tell_version" = some (some (.ref h11)))
    (mf11 : PySem.W.isFn K (.ref h11) = true)
    (lh11 : K.lookup h11 = some ⟨och11, odh11, .func (PySem.W.fnOf "tell_version" "Ledger.tell_version" (defArgs mTV) (defBody mTV) (defScope mTV) .none kVh11 dch11 pmh11 anh11 cdh11 cth11), slh11⟩)
    (ch11 : PySem.W.codeIn K cdh11 "Ledger.tell_version" = true)
    (kh11 : PySem.W.keepIn K (.ref h11) = true)
    (me12 : PySem.W.findIn K (.ref CL) "check_free" = some (some (.ref h12)))
    (mf12 : PySem.W.isFn K (.ref h12) = true)
    (lh12 : K.lookup h12 = some ⟨och12, odh12, .func (PySem.W.fnOf "check_free" "Ledger.check_free" (defArgs mCF) (defBody mCF) (defScope mCF) .none kVh12 dch12 pmh12 anh12 cdh12 cth12), slh12⟩)
    (ch12 : PySem.W.codeIn K cdh12 "Ledger.check_free" = true)
    (kh12 : PySem.W.keepIn K (.ref h12) = true)
    (me13 : PySem.W.findIn K (.ref CL) "check_hour" = some (some (.ref h13)))
    (mf13 : PySem.W.isFn K (.ref h13) = true)
    (lh13 : K.lookup h13 = some ⟨och13, odh13, .func (PySem.W.fnOf "check_hour" "Ledger.check_hour" (defArgs mCH) (defBody mCH) (defScope mCH) .none kVh13 dch13 pmh13 anh13 cdh13 cth13), slh13⟩)
    (ch13 : PySem.W.codeIn K cdh13 "Ledger.check_hour" = true)
    (kh13 : PySem.W.keepIn K (.ref h13) = true)
    (z0 : PySem.W.nsIn K mainGlobals "DAY" = some (some (.int 0 t0)))
    (z1 : PySem.W.nsIn K mainGlobals "ONE" = some (some (.int 1 t1)))
    (z2 : PySem.W.nsIn K mainGlobals "OTHER" = some (some (.int 2 t2)))
    (z3 : PySem.W.nsIn K mainGlobals "AMOUNT" = some (some (.int 3 t3)))
    (y_len : PySem.W.nsIn K mainGlobals "len" = some none)
    (y_isinstance : PySem.W.nsIn K mainGlobals "isinstance" = some none)
    (y_int : PySem.W.nsIn K mainGlobals "int" = some none)
    (y_bool : PySem.W.nsIn K mainGlobals "bool" = some none)
    (y_str : PySem.W.nsIn K mainGlobals "str" = some none)
    (y_range : PySem.W.nsIn K mainGlobals "range" = some none)
    (y_list : PySem.W.nsIn K mainGlobals "list" = some none)
    (y_tuple : PySem.W.nsIn K mainGlobals "tuple" = some none)
    (y_max : PySem.W.nsIn K mainGlobals "max" = some none)
    (y_min : PySem.W.nsIn K mainGlobals "min" = some none)
    (y_sum : PySem.W.nsIn K mainGlobals "sum" = some none)
    (y_sorted : PySem.W.nsIn K mainGlobals "sorted" = some none)
    (y_enumerate : PySem.W.nsIn K mainGlobals "enumerate" = some none)
    (y_Exception : PySem.W.nsIn K mainGlobals "Exception" = some none)
    (y_set : PySem.W.nsIn K mainGlobals "set" = some none)
    :
    ∃ fd : FuncData, (∀ (s : Shared) (v : Value), BindsTo s fd ⟨[v], []⟩ [("_law_script", v)]) ∧ ∀ base : Heap, K.In base → base.Ns mainGlobals mg → FnOk l.prog w K mg base CX0 10 fa fd ["_law_script"] (spLaw K) := by
  have e := hfa.symm.trans (PySem.W.mg_of KX G af1)
  cases e
  have B : TopB mg := ⟨PySem.W.mg_none_of KX G y_len, PySem.W.mg_none_of KX G y_isinstance, PySem.W.mg_none_of KX G y_int, PySem.W.mg_none_of KX G y_bool, PySem.W.mg_none_of KX G y_str, PySem.W.mg_none_of KX G y_range⟩
  have TC : TopC mg := ⟨⟨_, PySem.W.mg_of KX G z0, _, rfl⟩, ⟨_, PySem.W.mg_of KX G z1, _, rfl⟩, ⟨_, PySem.W.mg_of KX G z2, _, rfl⟩, ⟨_, PySem.W.mg_of KX G z3, _, rfl⟩⟩
  have L : TopL mg := ⟨PySem.W.mg_none_of KX G y_list, PySem.W.mg_none_of KX G y_tuple⟩
  have X : TopM mg := ⟨PySem.W.mg_none_of KX G y_max⟩
  have S : TopS mg := ⟨PySem.W.mg_none_of KX G y_sorted⟩
  have U : TopU mg := ⟨PySem.W.mg_none_of KX G y_sum⟩
  have TN : TopN mg := ⟨PySem.W.mg_none_of KX G y_enumerate⟩
  have Ff1 := fun_mk (x := "law") (qual := "law") (st := sLaw) lf1 cf1 kf1
  have Ff2 := fun_mk (x := "_law_room") (qual := "_law_room") (st := sRoom) lf2 cf2 kf2
  have bf2 := Ff2.binds (ps := ["_law_script", "_law_most", "_law_bound"]) fun _ _ _ _ _ _ us hl => match us, hl with | [_, _, _], _ => rfl
  have Ff3 := fun_mk (x := "_law_draw") (qual := "_law_draw") (st := sDraw) lf3 cf3 kf3
  have bf3 := Ff3.binds (ps := ["_law_number", "_law_prime", "_law_many"]) fun _ _ _ _ _ _ us hl => match us, hl with | [_, _, _], _ => rfl
  have Ff4 := fun_mk (x := "_law_whole") (qual := "_law_whole") (st := sWhole) lf4 cf4 kf4
  have bf4 := Ff4.binds (ps := ["_law_found"]) fun _ _ _ _ _ _ us hl => match us, hl with | [_], _ => rfl
  have Ff5 := fun_mk (x := "_law_at") (qual := "_law_at") (st := sAt) lf5 cf5 kf5
  have bf5 := Ff5.binds (ps := ["_law_script", "_law_k"]) fun _ _ _ _ _ _ us hl => match us, hl with | [_, _], _ => rfl
  have Ff6 := fun_mk (x := "_law_accounts") (qual := "_law_accounts") (st := sAcc) lf6 cf6 kf6
  have bf6 := Ff6.binds (ps := []) fun _ _ _ _ _ _ us hl => match us, hl with | [], _ => rfl
  have Ff7 := fun_mk (x := "_law_penned") (qual := "_law_penned") (st := sPen) lf7 cf7 kf7
  have bf7 := Ff7.binds (ps := ["_law_cell", "_law_k"]) fun _ _ _ _ _ _ us hl => match us, hl with | [_, _], _ => rfl
  have Ff8 := fun_mk (x := "_law_marred") (qual := "_law_marred") (st := sMar) lf8 cf8 kf8
  have bf8 := Ff8.binds (ps := ["_law_content", "_law_cell"]) fun _ _ _ _ _ _ us hl => match us, hl with | [_, _], _ => rfl
  have Ff9 := fun_mk (x := "_law_deeds") (qual := "_law_deeds") (st := sDeeds) lf9 cf9 kf9
  have bf9 := Ff9.binds (ps := ["_law_cells"]) fun _ _ _ _ _ _ us hl => match us, hl with | [_], _ => rfl
  have Ff10 := fun_mk (x := "_law_barred") (qual := "_law_barred") (st := sBar) lf10 cf10 kf10
  have bf10 := Ff10.binds (ps := ["_law_now", "_law_closed", "_law_deed"]) fun _ _ _ _ _ _ us hl => match us, hl with | [_, _, _], _ => rfl
  have Ff11 := fun_mk (x := "_law_step") (qual := "_law_step") (st := sStep) lf11 cf11 kf11
  have bf11 := Ff11.binds (ps := ["_law_snaps", "_law_closed", "_law_deed"]) fun _ _ _ _ _ _ us hl => match us, hl with | [_, _, _], _ => rfl
  have Ff12 := fun_mk (x := "_law_changes") (qual := "_law_changes") (st := sChg) lf12 cf12 kf12
  have bf12 := Ff12.binds (ps := ["_law_deed"]) fun _ _ _ _ _ _ us hl => match us, hl with | [_], _ => rfl
  have Ff13 := fun_mk (x := "_law_does") (qual := "_law_does") (st := sDoes) lf13 cf13 kf13
  have bf13 := Ff13.binds (ps := ["_law_content", "_law_account", "_law_day"]) fun _ _ _ _ _ _ us hl => match us, hl with | [_, _, _], _ => rfl
  have Ff14 := fun_mk (x := "_law_has") (qual := "_law_has") (st := sHas) lf14 cf14 kf14
  have bf14 := Ff14.binds (ps := ["_law_contents", "_law_account", "_law_day"]) fun _ _ _ _ _ _ us hl => match us, hl with | [_, _, _], _ => rfl
  have Ff15 := fun_mk (x := "_law_snapped") (qual := "_law_snapped") (st := sSnapped) lf15 cf15 kf15
  have bf15 := Ff15.binds (ps := ["_law_asked"]) fun _ _ _ _ _ _ us hl => match us, hl with | [_], _ => rfl
  have Ff16 := fun_mk (x := "_law_alike") (qual := "_law_alike") (st := sAlike) lf16 cf16 kf16
  have bf16 := Ff16.binds (ps := ["_law_found", "_law_due"]) fun _ _ _ _ _ _ us hl => match us, hl with | [_, _], _ => rfl
  have Ff17 := fun_mk (x := "_law_all_named") (qual := "_law_all_named") (st := sAllNamed) lf17 cf17 kf17
  have bf17 := Ff17.binds (ps := ["_law_contents"]) fun _ _ _ _ _ _ us hl => match us, hl with | [_], _ => rfl
  have Ff18 := fun_mk (x := "balances") (qual := "balances") (st := sBalances) lf18 cf18 kf18
  have bf18 := Ff18.binds (ps := ["deeds", "day", "hour"]) fun _ _ _ _ _ _ us hl => match us, hl with | [_, _, _], _ => rfl
  have Ff19 := fun_mk (x := "balances_of") (qual := "balances_of") (st := sBalsOf) lf19 cf19 kf19
  have bf19 := Ff19.binds (ps := ["contents", "day"]) fun _ _ _ _ _ _ us hl => match us, hl with | [_, _], _ => rfl
  have Ff20 := fun_mk (x := "accounts_of") (qual := "accounts_of") (st := sAccsOf) lf20 cf20 kf20
  have bf20 := Ff20.binds (ps := ["contents"]) fun _ _ _ _ _ _ us hl => match us, hl with | [_], _ => rfl
  have Ff21 := fun_mk (x := "ledger_behind") (qual := "ledger_behind") (st := sBehind) lf21 cf21 kf21
  have bf21 := Ff21.binds (ps := ["deeds"]) fun _ _ _ _ _ _ us hl => match us, hl with | [_], _ => rfl
  have Ff22 := fun_mk (x := "effect") (qual := "effect") (st := sEff) lf22 cf22 kf22
  have bf22 := Ff22.binds (ps := ["content", "account", "day"]) fun _ _ _ _ _ _ us hl => match us, hl with | [_, _, _], _ => rfl
  have Ff23 := fun_mk (x := "balance_of") (qual := "balance_of") (st := sBal) lf23 cf23 kf23
  have bf23 := Ff23.binds (ps := ["contents", "account", "day"]) fun _ _ _ _ _ _ us hl => match us, hl with | [_, _, _], _ => rfl
  have Ff24 := fun_mk (x := "sheet_of") (qual := "sheet_of") (st := sSheet) lf24 cf24 kf24
  have bf24 := Ff24.binds (ps := ["contents", "account", "first", "last"]) fun _ _ _ _ _ _ us hl => match us, hl with | [_, _, _, _], _ => rfl
  have Ff25 := fun_mk (x := "lines_of") (qual := "lines_of") (st := sLines) lf25 cf25 kf25
  have bf25 := Ff25.binds (ps := ["contents", "account", "first", "last"]) fun _ _ _ _ _ _ us hl => match us, hl with | [_, _, _, _], _ => rfl
  have Ff26 := fun_mk (x := "news_of") (qual := "news_of") (st := sNews) lf26 cf26 kf26
  have bf26 := Ff26.binds (ps := ["contents", "later", "account", "day"]) fun _ _ _ _ _ _ us hl => match us, hl with | [_, _, _, _], _ => rfl
  have Ff27 := fun_mk (x := "content_of") (qual := "content_of") (st := sCof) lf27 cf27 kf27
  have bf27 := Ff27.binds (ps := ["contents", "number"]) fun _ _ _ _ _ _ us hl => match us, hl with | [_, _], _ => rfl
  have Ff28 := fun_mk (x := "known") (qual := "known") (st := sKnown) lf28 cf28 kf28
  have bf28 := Ff28.binds (ps := ["versions", "hour"]) fun _ _ _ _ _ _ us hl => match us, hl with | [_, _], _ => rfl
  have Ff29 := fun_mk (x := "check_sides") (qual := "check_sides") (st := sSides) lf29 cf29 kf29
  have bf29 := Ff29.binds (ps := ["one", "other", "amount"]) fun _ _ _ _ _ _ us hl => match us, hl with | [_, _, _], _ => rfl
  have Ff30 := fun_mk (x := "answer") (qual := "answer") (st := sAnswer) lf30 cf30 kf30
  have bf30 := Ff30.binds (ps := ["ledger", "deed"]) fun _ _ _ _ _ _ us hl => match us, hl with | [_, _], _ => rfl
  have Ff31 := fun_mk (x := "carry_out") (qual := "carry_out") (st := sCarry) lf31 cf31 kf31
  have bf31 := Ff31.binds (ps := ["ledger", "deed"]) fun _ _ _ _ _ _ us hl => match us, hl with | [_, _], _ => rfl
  have Fg0 := fun_mk (x := "__init__") (qual := "Refused.__init__") (st := (inClass sRefused 0)) lg0 cg0 kg0
  have bg0 := Fg0.binds (ps := ["self", "words"]) fun _ _ _ _ _ _ us hl => match us, hl with | [_, _], _ => rfl
  have Fg1 := fun_mk (x := "__init__") (qual := "NoPosting.__init__") (st := (inClass sNoPosting 0)) lg1 cg1 kg1
  have bg1 := Fg1.binds (ps := ["self"]) fun _ _ _ _ _ _ us hl => match us, hl with | [_], _ => rfl
  have Fg2 := fun_mk (x := "__init__") (qual := "Struck.__init__") (st := (inClass sStruck 0)) lg2 cg2 kg2
  have bg2 := Fg2.binds (ps := ["self"]) fun _ _ _ _ _ _ us hl => match us, hl with | [_], _ => rfl
  have Fg3 := fun_mk (x := "__init__") (qual := "SameAccount.__init__") (st := (inClass sSameAccount 0)) lg3 cg3 kg3
  have bg3 := Fg3.binds (ps := ["self"]) fun _ _ _ _ _ _ us hl => match us, hl with | [_], _ => rfl
  have Fg4 := fun_mk (x := "__init__") (qual := "NoAmount.__init__") (st := (inClass sNoAmount 0)) lg4 cg4 kg4
  have bg4 := Fg4.binds (ps := ["self"]) fun _ _ _ _ _ _ us hl => match us, hl with | [_], _ => rfl
  have Fg5 := fun_mk (x := "__init__") (qual := "Closed.__init__") (st := (inClass sClosed 0)) lg5 cg5 kg5
  have bg5 := Fg5.binds (ps := ["self"]) fun _ _ _ _ _ _ us hl => match us, hl with | [_], _ => rfl
  have Fg6 := fun_mk (x := "__init__") (qual := "NoDays.__init__") (st := (inClass sNoDays 0)) lg6 cg6 kg6
  have bg6 := Fg6.binds (ps := ["self"]) fun _ _ _ _ _ _ us hl => match us, hl with | [_], _ => rfl
  have Fg7 := fun_mk (x := "__init__") (qual := "NotYet.__init__") (st := (inClass sNotYet 0)) lg7 cg7 kg7
  have bg7 := Fg7.binds (ps := ["self"]) fun _ _ _ _ _ _ us hl => match us, hl with | [_], _ => rfl
  have Fh0 := fun_mk (x := "__init__") (qual := "Ledger.__init__") (st := mIN) lh0 ch0 kh0
  have bh0 := Fh0.binds (ps := ["self"]) fun _ _ _ _ _ _ us hl => match us, hl with | [_], _ => rfl
  have Fh1 := fun_mk (x := "move") (qual := "Ledger.move") (st := mMV) lh1 ch1 kh1
  have bh1 := Fh1.binds (ps := ["self", "day", "one", "other", "amount"]) fun _ _ _ _ _ _ us hl => match us, hl with | [_, _, _, _, _], _ => rfl
  have Fh2 := fun_mk (x := "put_right") (qual := "Ledger.put_right") (st := mPR) lh2 ch2 kh2
  have bh2 := Fh2.binds (ps := ["self", "number", "day", "one", "other", "amount"]) fun _ _ _ _ _ _ us hl => match us, hl with | [_, _, _, _, _, _], _ => rfl
  have Fh3 := fun_mk (x := "strike") (qual := "Ledger.strike") (st := mSK) lh3 ch3 kh3
  have bh3 := Fh3.binds (ps := ["self", "number"]) fun _ _ _ _ _ _ us hl => match us, hl with | [_, _], _ => rfl
  have Fh4 := fun_mk (x := "close_days") (qual := "Ledger.close_days") (st := mCD) lh4 ch4 kh4
  have bh4 := Fh4.binds (ps := ["self", "day"]) fun _ _ _ _ _ _ us hl => match us, hl with | [_, _], _ => rfl
  have Fh5 := fun_mk (x := "balance") (qual := "Ledger.balance") (st := mBA) lh5 ch5 kh5
  have bh5 := Fh5.binds (ps := ["self", "account", "day", "hour"]) fun _ _ _ _ _ _ us hl => match us, hl with | [_, _, _, _], _ => rfl
  have Fh6 := fun_mk (x := "sheet") (qual := "Ledger.sheet") (st := mSH) lh6 ch6 kh6
  have bh6 := Fh6.binds (ps := ["self", "account", "first", "last", "hour"]) fun _ _ _ _ _ _ us hl => match us, hl with | [_, _, _, _, _], _ => rfl
  have Fh7 := fun_mk (x := "news") (qual := "Ledger.news") (st := mNW) lh7 ch7 kh7
  have bh7 := Fh7.binds (ps := ["self", "account", "day", "hour", "later"]) fun _ _ _ _ _ _ us hl => match us, hl with | [_, _, _, _, _], _ => rfl
  have Fh8 := fun_mk (x := "contents_at") (qual := "Ledger.contents_at") (st := mCA) lh8 ch8 kh8
  have bh8 := Fh8.binds (ps := ["self", "hour"]) fun _ _ _ _ _ _ us hl => match us, hl with | [_, _], _ => rfl
  have Fh9 := fun_mk (x := "has_posting") (qual := "Ledger.has_posting") (st := mHP) lh9 ch9 kh9
  have bh9 := Fh9.binds (ps := ["self", "number"]) fun _ _ _ _ _ _ us hl => match us, hl with | [_, _], _ => rfl
  have Fh10 := fun_mk (x := "standing_content") (qual := "Ledger.standing_content") (st := mSC) lh10 ch10 kh10
  have bh10 := Fh10.binds (ps := ["self", "number"]) fun _ _ _ _ _ _ us hl => match us, hl with | [_, _], _ => rfl
  have Fh11 := fun_mk (x := "tell_version") (qual := "Ledger.tell_version") (st := mTV) lh11 ch11 kh11
  have bh11 := Fh11.binds (ps := ["self", "number", "content"]) fun _ _ _ _ _ _ us hl => match us, hl with | [_, _, _], _ => rfl
  have Fh12 := fun_mk (x := "check_free") (qual := "Ledger.check_free") (st := mCF) lh12 ch12 kh12
  have bh12 := Fh12.binds (ps := ["self", "day"]) fun _ _ _ _ _ _ us hl => match us, hl with | [_, _], _ => rfl
  have Fh13 := fun_mk (x := "check_hour") (qual := "Ledger.check_hour") (st := mCH) lh13 ch13 kh13
  have bh13 := Fh13.binds (ps := ["self", "hour"]) fun _ _ _ _ _ _ us hl => match us, hl with | [_, _], _ => rfl
  have Y0 : XCls K C0 C0 := ⟨⟨_, _, _, _, _, _, _, _, _, _, _, _, _, _, _, xl0, xm0, xo0, xr0, xs0⟩, xa0, xh0, xt0, xw0, xk0⟩
  have Y1 : XCls K C0 C1 := ⟨⟨_, _, _, _, _, _, _, _, _, _, _, _, _, _, _, xl1, xm1, xo1, xr1, xs1⟩, xa1, xh1, xt1, xw1, xk1⟩
  have Y2 : XCls K C0 C2 := ⟨⟨_, _, _, _, _, _, _, _, _, _, _, _, _, _, _, xl2, xm2, xo2, xr2, xs2⟩, xa2, xh2, xt2, xw2, xk2⟩
  have Y3 : XCls K C0 C3 := ⟨⟨_, _, _, _, _, _, _, _, _, _, _, _, _, _, _, xl3, xm3, xo3, xr3, xs3⟩, xa3, xh3, xt3, xw3, xk3⟩
  have Y4 : XCls K C0 C4 := ⟨⟨_, _, _, _, _, _, _, _, _, _, _, _, _, _, _, xl4, xm4, xo4, xr4, xs4⟩, xa4, xh4, xt4, xw4, xk4⟩
  have Y5 : XCls K C0 C5 := ⟨⟨_, _, _, _, _, _, _, _, _, _, _, _, _, _, _, xl5, xm5, xo5, xr5, xs5⟩, xa5, xh5, xt5, xw5, xk5⟩
  have Y6 : XCls K C0 C6 := ⟨⟨_, _, _, _, _, _, _, _, _, _, _, _, _, _, _, xl6, xm6, xo6, xr6, xs6⟩, xa6, xh6, xt6, xw6, xk6⟩
  have Y7 : XCls K C0 C7 := ⟨⟨_, _, _, _, _, _, _, _, _, _, _, _, _, _, _, xl7, xm7, xo7, xr7, xs7⟩, xa7, xh7, xt7, xw7, xk7⟩
  have X1 : XAt K mg C0 "NoPosting" "NoPosting.__init__" (inClass sNoPosting 0) := ⟨C1, _, _, PySem.W.mg_of KX G xn1, Y1, xi1, xf1, Fg1, bg1⟩
  have X2 : XAt K mg C0 "Struck" "Struck.__init__" (inClass sStruck 0) := ⟨C2, _, _, PySem.W.mg_of KX G xn2, Y2, xi2, xf2, Fg2, bg2⟩
  have X3 : XAt K mg C0 "SameAccount" "SameAccount.__init__" (inClass sSameAccount 0) := ⟨C3, _, _, PySem.W.mg_of KX G xn3, Y3, xi3, xf3, Fg3, bg3⟩
  have X4 : XAt K mg C0 "NoAmount" "NoAmount.__init__" (inClass sNoAmount 0) := ⟨C4, _, _, PySem.W.mg_of KX G xn4, Y4, xi4, xf4, Fg4, bg4⟩
  have X5 : XAt K mg C0 "Closed" "Closed.__init__" (inClass sClosed 0) := ⟨C5, _, _, PySem.W.mg_of KX G xn5, Y5, xi5, xf5, Fg5, bg5⟩
  have X6 : XAt K mg C0 "NoDays" "NoDays.__init__" (inClass sNoDays 0) := ⟨C6, _, _, PySem.W.mg_of KX G xn6, Y6, xi6, xf6, Fg6, bg6⟩
  have X7 : XAt K mg C0 "NotYet" "NotYet.__init__" (inClass sNotYet 0) := ⟨C7, _, _, PySem.W.mg_of KX G xn7, Y7, xi7, xf7, Fg7, bg7⟩
  have LC : LCls K CL := ⟨⟨lg, lh, lp, ls⟩, u1, u2, u3⟩
  have TX : TopX mg C0 := ⟨PySem.W.mg_none_of KX G y_Exception, PySem.W.mg_of KX G xn0⟩
  have LO : ∀ base : Heap, LedgerOk l.prog w K mg base CL := fun base => ledger_ok B TC U S TN X TX Y0 ⟨_, _, Fg0, bg0, ⟨rs, rr, rf, xf0, kg0⟩⟩ X1 X2 X3 X4 X5 X6 X7 (PySem.W.mg_of KX G ln) LC ⟨_, _, Fh0, bh0, ⟨lm, me0, mf0, lk⟩⟩ ⟨_, _, Fh1, bh1, ⟨me1, mf1, kh1⟩⟩ ⟨_, _, Fh2, bh2, ⟨me2, mf2, kh2⟩⟩ ⟨_, _, Fh3, bh3, ⟨me3, mf3, kh3⟩⟩ ⟨_, _, Fh4, bh4, ⟨me4, mf4, kh4⟩⟩ ⟨_, _, Fh5, bh5, ⟨me5, mf5, kh5⟩⟩ ⟨_, _, Fh6, bh6, ⟨me6, mf6, kh6⟩⟩ ⟨_, _, Fh7, bh7, ⟨me7, mf7, kh7⟩⟩ ⟨_, _, Fh8, bh8, ⟨me8, mf8, kh8⟩⟩ ⟨_, _, Fh9, bh9, ⟨me9, mf9, kh9⟩⟩ ⟨_, _, Fh10, bh10, ⟨me10, mf10, kh10⟩⟩ ⟨_, _, Fh11, bh11, ⟨me11, mf11, kh11⟩⟩ ⟨_, _, Fh12, bh12, ⟨me12, mf12, kh12⟩⟩ ⟨_, _, Fh13, bh13, ⟨me13, mf13, kh13⟩⟩ ⟨_, _, Ff22, bf22, PySem.W.mg_of KX G af22⟩ ⟨_, _, Ff23, bf23, PySem.W.mg_of KX G af23⟩ ⟨_, _, Ff24, bf24, PySem.W.mg_of KX G af24⟩ ⟨_, _, Ff25, bf25, PySem.W.mg_of KX G af25⟩ ⟨_, _, Ff26, bf26, PySem.W.mg_of KX G af26⟩ ⟨_, _, Ff27, bf27, PySem.W.mg_of KX G af27⟩ ⟨_, _, Ff28, bf28, PySem.W.mg_of KX G af28⟩ ⟨_, _, Ff29, bf29, PySem.W.mg_of KX G af29⟩ ⟨_, _, Ff30, bf30, PySem.W.mg_of KX G af30⟩ ⟨_, _, Ff31, bf31, PySem.W.mg_of KX G af31⟩
  exact ⟨PySem.W.fnOf "law" "law" (defArgs sLaw) (defBody sLaw) (defScope sLaw) .none kVf1 dcf1 pmf1 anf1 cdf1 ctf1, fun s v => .of_eq rfl, fun base _ _ => ok_law Ff1 B L S U (PySem.W.mg_none_of KX G y_min) (PySem.W.mg_none_of KX G y_set) TC LC ⟨_, _, Ff2, bf2, PySem.W.mg_of KX G af2⟩ ⟨_, _, Ff3, bf3, PySem.W.mg_of KX G af3⟩ ⟨_, _, Ff4, bf4, PySem.W.mg_of KX G af4⟩ ⟨_, _, Ff5, bf5, PySem.W.mg_of KX G af5⟩ ⟨_, _, Ff6, bf6, PySem.W.mg_of KX G af6⟩ ⟨_, _, Ff7, bf7, PySem.W.mg_of KX G af7⟩ ⟨_, _, Ff8, bf8, PySem.W.mg_of KX G af8⟩ ⟨_, _, Ff9, bf9, PySem.W.mg_of KX G af9⟩ ⟨_, _, Ff10, bf10, PySem.W.mg_of KX G af10⟩ ⟨_, _, Ff11, bf11, PySem.W.mg_of KX G af11⟩ ⟨_, _, Ff12, bf12, PySem.W.mg_of KX G af12⟩ ⟨_, _, Ff13, bf13, PySem.W.mg_of KX G af13⟩ ⟨_, _, Ff14, bf14, PySem.W.mg_of KX G af14⟩ ⟨_, _, Ff15, bf15, PySem.W.mg_of KX G af15⟩ ⟨_, _, Ff16, bf16, PySem.W.mg_of KX G af16⟩ ⟨_, _, Ff17, bf17, PySem.W.mg_of KX G af17⟩ ⟨_, _, Ff18, bf18, PySem.W.mg_of KX G af18⟩ ⟨_, _, Ff19, bf19, PySem.W.mg_of KX G af19⟩ ⟨_, _, Ff20, bf20, PySem.W.mg_of KX G af20⟩ ⟨_, _, Ff23, bf23, PySem.W.mg_of KX G af23⟩ ⟨_, _, Ff22, bf22, PySem.W.mg_of KX G af22⟩ ⟨_, _, Ff21, bf21, PySem.W.mg_of KX G af21⟩ ⟨_, _, Ff28, bf28, PySem.W.mg_of KX G af28⟩ ⟨_, _, Fh8, bh8, ⟨me8, mf8, kh8⟩⟩ (LO base)⟩
theorem walk {l : PySem.W.OpenLaw} {q : Program} {loose : List Str} {XP : (Str → Option Value) → Heap → Prop} {YP : World → Heap → Prop} {d : DefRec} {K : Params → PySem.W.Frag} (hn : l.most = some 63) (hdf : d.params.defaults = [])
    (hY : ∀ (w : World) (h : Heap), YP w h → (K w.params).In h)
    (F : ∀ (w : World) (mg : Str → Option Value) (fa : Addr) (h : Heap), (K w.params).In h → h.Ns mainGlobals mg → mg d.name = some (.ref fa) →
      ∃ fd : FuncData, (∀ (s : Shared) (u : Value), BindsTo s fd ⟨[u], []⟩ [("_law_script", u)]) ∧ ∀ base : Heap, (K w.params).In base → base.Ns mainGlobals mg → FnOk l.prog w (K w.params) mg base CX0 10 fa fd ["_law_script"] (spLaw (K w.params))) :
    PySem.W.WalkO q loose XP YP l.row.toRowW d [] (fun f vs => PySem.call f vs) :=
  L2.walk_of (n := 63) (k := 10) (x := "_law_script") (CX := fun _ => CX0) (sp := fun w => spLaw (K w.params)) hn (by decide) hdf ⟨rfl, by decide, by decide⟩ hY F (fun _ _ a ns hl _ hS => ⟨a, ns, rfl, hS, hl, fun _ => rfl⟩) fun _ _ _ _ _ z => z
end Tt
open PySem PySem.W PyProof.Rows
set_option maxRecDepth 100000 in
set_option maxHeartbeats 0 in
theorem PySem.Challenge.cw_twicetold_k06_whole_all_nought_holds : PySem.Challenge.rw_twicetold_k06_whole_all_nought.Holds := by
  w_on; o_law; k_head; (case hw => w_witness2)
  k_fill
  refine Tt.walk (l := PySem.Challenge.rw_twicetold_k06_whole_all_nought) rfl rfl (fun w h Y => PySem.W.kIn_of Y) ?F
  case F =>
    intro w mg fa h KX G hmg
    refine' Tt.all_mk KX G hmg ?af1 ?lf1 ?cf1 ?kf1 ?af2 ?lf2 ?cf2 ?kf2 ?af3 ?lf3 ?cf3 ?kf3 ?af4 ?lf4 ?cf4 ?kf4 ?af5 ?lf5 ?cf5 ?kf5 ?af6 ?lf6 ?cf6 ?kf6 ?af7 ?lf7 ?cf7 ?kf7 ?af8 ?lf8 ?cf8 ?kf8 ?af9 ?lf9 ?cf9 ?kf9 ?af10 ?lf10 ?cf10 ?kf10 ?af11 ?lf11 ?cf11 ?kf11 ?af12 ?lf12 ?cf12 ?kf12 ?af13 ?lf13 ?cf13 ?kf13 ?af14 ?lf14 ?cf14 ?kf14 ?af15 ?lf15 ?cf15 ?kf15 ?af16 ?lf16 ?cf16 ?kf16 ?af17 ?lf17 ?cf17 ?kf17 ?af18 ?lf18 ?cf18 ?kf18 ?af19 ?lf19 ?cf19 ?kf19 ?af20 ?lf20 ?cf20 ?kf20 ?af21 ?lf21 ?cf21 ?kf21 ?af22 ?lf22 ?cf22 ?kf22 ?af23 ?lf23 ?cf23 ?kf23 ?af24 ?lf24 ?cf24 ?kf24 ?af25 ?lf25 ?cf25 ?kf25 ?af26 ?lf26 ?cf26 ?kf26 ?af27 ?lf27 ?cf27 ?kf27 ?af28 ?lf28 ?cf28 ?kf28 ?af29 ?lf29 ?cf29 ?kf29 ?af30 ?lf30 ?cf30 ?kf30 ?af31 ?lf31 ?cf31 ?kf31 ?xn0 ?xl0 ?xm0 ?xo0 ?xr0 ?xs0 ?xa0 ?xh0 ?xt0 ?xw0 ?xk0 ?xi0 ?xf0 ?lg0 ?cg0 ?kg0 ?xn1 ?xl1 ?xm1 ?xo1 ?xr1 ?xs1 ?xa1 ?xh1 ?xt1 ?xw1 ?xk1 ?xi1 ?xf1 ?lg1 ?cg1 ?kg1 ?xn2 ?xl2 ?xm2 ?xo2 ?xr2 ?xs2 ?xa2 ?xh2 ?xt2 ?xw2 ?xk2 ?xi2 ?xf2 ?lg2 ?cg2 ?kg2 ?xn3 ?xl3 ?xm3 ?xo3 ?xr3 ?xs3 ?xa3 ?xh3 ?xt3 ?xw3 ?xk3 ?xi3 ?xf3 ?lg3 ?cg3 ?kg3 ?xn4 ?xl4 ?xm4 ?xo4 ?xr4 ?xs4 ?xa4 ?xh4 ?xt4 ?xw4 ?xk4 ?xi4 ?xf4 ?lg4 ?cg4 ?kg4 ?xn5 ?xl5 ?xm5 ?xo5 ?xr5 ?xs5 ?xa5 ?xh5 ?xt5 ?xw5 ?xk5 ?xi5 ?xf5 ?lg5 ?cg5 ?kg5 ?xn6 ?xl6 ?xm6 ?xo6 ?xr6 ?xs6 ?xa6 ?xh6 ?xt6 ?xw6 ?xk6 ?xi6 ?xf6 ?lg6 ?cg6 ?kg6 ?xn7 ?xl7 ?xm7 ?xo7 ?xr7 ?xs7 ?xa7 ?xh7 ?xt7 ?xw7 ?xk7 ?xi7 ?xf7 ?lg7 ?cg7 ?kg7 ?rs ?rr ?rf ?ln ?lg ?lh ?lp ?ls ?u1 ?u2 ?u3 ?lm ?lk ?me0 ?mf0 ?lh0 ?ch0 ?kh0 ?me1 ?mf1 ?lh1 ?ch1 ?kh1 ?me2 ?mf2 ?lh2 ?ch2 ?kh2 ?me3 ?mf3 ?lh3 ?ch3 ?kh3 ?me4 ?mf4 ?lh4 ?ch4 ?kh4 ?me5 ?mf5 ?lh5 ?ch5 ?kh5 ?me6 ?mf6 ?lh6 ?ch6 ?kh6 ?me7 ?mf7 ?lh7 ?ch7 ?kh7 ?me8 ?mf8 ?lh8 ?ch8 ?kh8 ?me9 ?mf9 ?lh9 ?ch9 ?kh9 ?me10 ?mf10 ?lh10 ?ch10 ?kh10 ?me11 ?mf11 ?lh11 ?ch11 ?kh11 ?me12 ?mf12 ?lh12 ?ch12 ?kh12 ?me13 ?mf13 ?lh13 ?ch13 ?kh13 ?z0 ?z1 ?z2 ?z3 ?y_len ?y_isinstance ?y_int ?y_bool ?y_str ?y_range ?y_list ?y_tuple ?y_max ?y_min ?y_sum ?y_sorted ?y_enumerate ?y_Exception ?y_set
    (case af1 => k_is); (case lf1 => k_is); (case cf1 => k_is); (case kf1 => k_is)
    (case af2 => k_is); (case lf2 => k_is); (case cf2 => k_is); (case kf2 => k_is)
    (case af3 => k_is); (case lf3 => k_is); (case cf3 => k_is); (case kf3 => k_is)
    (case af4 => k_is); (case lf4 => k_is); (case cf4 => k_is); (case kf4 => k_is)
    (case af5 => k_is); (case lf5 => k_is); (case cf5 => k_is); (case kf5 => k_is)
    (case af6 => k_is); (case lf6 => k_is); (case cf6 => k_is); (case kf6 => k_is)
    (case af7 => k_is); (case lf7 => k_is); (case cf7 => k_is); (case kf7 => k_is)
    (case af8 => k_is); (case lf8 => k_is); (case cf8 => k_is); (case kf8 => k_is)
    (case af9 => k_is); (case lf9 => k_is); (case cf9 => k_is); (case kf9 => k_is)
    (case af10 => k_is); (case lf10 => k_is); (case cf10 => k_is); (case kf10 => k_is)
    (case af11 => k_is); (case lf11 => k_is); (case cf11 => k_is); (case kf11 => k_is)
    (case af12 => k_is); (case lf12 => k_is); (case cf12 => k_is); (case kf12 => k_is)
    (case af13 => k_is); (case lf13 => k_is); (case cf13 => k_is); (case kf13 => k_is)
    (case af14 => k_is); (case lf14 => k_is); (case cf14 => k_is); (case kf14 => k_is)
    (case af15 => k_is); (case lf15 => k_is); (case cf15 => k_is); (case kf15 => k_is)
    (case af16 => k_is); (case lf16 => k_is); (case cf16 => k_is); (case kf16 => k_is)
    (case af17 => k_is); (case lf17 => k_is); (case cf17 => k_is); (case kf17 => k_is)
    (case af18 => k_is); (case lf18 => k_is); (case cf18 => k_is); (case kf18 => k_is)
    (case af19 => k_is); (case lf19 => k_is); (case cf19 => k_is); (case kf19 => k_is)
    (case af20 => k_is); (case lf20 => k_is); (case cf20 => k_is); (case kf20 => k_is)
    (case af21 => k_is); (case lf21 => k_is); (case cf21 => k_is); (case kf21 => k_is)
    (case af22 => k_is); (case lf22 => k_is); (case cf22 => k_is); (case kf22 => k_is)
    (case af23 => k_is); (case lf23 => k_is); (case cf23 => k_is); (case kf23 => k_is)
    (case af24 => k_is); (case lf24 => k_is); (case cf24 => k_is); (case kf24 => k_is)
    (case af25 => k_is); (case lf25 => k_is); (case cf25 => k_is); (case kf25 => k_is)
    (case af26 => k_is); (case lf26 => k_is); (case cf26 => k_is); (case kf26 => k_is)
    (case af27 => k_is); (case lf27 => k_is); (case cf27 => k_is); (case kf27 => k_is)
    (case af28 => k_is); (case lf28 => k_is); (case cf28 => k_is); (case kf28 => k_is)
    (case af29 => k_is); (case lf29 => k_is); (case cf29 => k_is); (case kf29 => k_is)
    (case af30 => k_is); (case lf30 => k_is); (case cf30 => k_is); (case kf30 => k_is)
    (case af31 => k_is); (case lf31 => k_is); (case cf31 => k_is); (case kf31 => k_is)
    (case xn0 => k_is); (case xl0 => k_is); (case xm0 => exact ⟨by rfl, by rfl, by rfl, by rfl⟩); (case xo0 => rfl)
    (case xr0 => rfl); (case xs0 => exact fun x => rfl); (case xa0 => k_is); (case xh0 => k_is)
    (case xt0 => k_is); (case xw0 => k_is); (case xk0 => k_is); (case xi0 => k_is)
    (case xf0 => k_is); (case lg0 => k_is); (case cg0 => k_is); (case kg0 => k_is)
    (case xn1 => k_is); (case xl1 => k_is); (case xm1 => exact ⟨by rfl, by rfl, by rfl, by rfl⟩); (case xo1 => rfl)
    (case xr1 => rfl); (case xs1 => exact fun x => rfl); (case xa1 => k_is); (case xh1 => k_is)
    (case xt1 => k_is); (case xw1 => k_is); (case xk1 => k_is); (case xi1 => k_is)
    (case xf1 => k_is); (case lg1 => k_is); (case cg1 => k_is); (case kg1 => k_is)
    (case xn2 => k_is); (case xl2 => k_is); (case xm2 => exact ⟨by rfl, by rfl, by rfl, by rfl⟩); (case xo2 => rfl)
    (case xr2 => rfl); (case xs2 => exact fun x => rfl); (case xa2 => k_is); (case xh2 => k_is)
    (case xt2 => k_is); (case xw2 => k_is); (case xk2 => k_is); (case xi2 => k_is)
    (case xf2 => k_is); (case lg2 => k_is); (case cg2 => k_is); (case kg2 => k_is)
    (case xn3 => k_is); (case xl3 => k_is); (case xm3 => exact ⟨by rfl, by rfl, by rfl, by rfl⟩); (case xo3 => rfl)
    (case xr3 => rfl); (case xs3 => exact fun x => rfl); (case xa3 => k_is); (case xh3 => k_is)
    (case xt3 => k_is); (case xw3 => k_is); (case xk3 => k_is); (case xi3 => k_is)
    (case xf3 => k_is); (case lg3 => k_is); (case cg3 => k_is); (case kg3 => k_is)
    (case xn4 => k_is); (case xl4 => k_is); (case xm4 => exact ⟨by rfl, by rfl, by rfl, by rfl⟩); (case xo4 => rfl)
    (case xr4 => rfl); (case xs4 => exact fun x => rfl); (case xa4 => k_is); (case xh4 => k_is)
    (case xt4 => k_is); (case xw4 => k_is); (case xk4 => k_is); (case xi4 => k_is)
    (case xf4 => k_is); (case lg4 => k_is); (case cg4 => k_is); (case kg4 => k_is)
    (case xn5 => k_is); (case xl5 => k_is); (case xm5 => exact ⟨by rfl, by rfl, by rfl, by rfl⟩); (case xo5 => rfl)
    (case xr5 => rfl); (case xs5 => exact fun x => rfl); (case xa5 => k_is); (case xh5 => k_is)
    (case xt5 => k_is); (case xw5 => k_is); (case xk5 => k_is); (case xi5 => k_is)
    (case xf5 => k_is); (case lg5 => k_is); (case cg5 => k_is); (case kg5 => k_is)
    (case xn6 => k_is); (case xl6 => k_is); (case xm6 => exact ⟨by rfl, by rfl, by rfl, by rfl⟩); (case xo6 => rfl)
    (case xr6 => rfl); (case xs6 => exact fun x => rfl); (case xa6 => k_is); (case xh6 => k_is)
    (case xt6 => k_is); (case xw6 => k_is); (case xk6 => k_is); (case xi6 => k_is)
    (case xf6 => k_is); (case lg6 => k_is); (case cg6 => k_is); (case kg6 => k_is)
    (case xn7 => k_is); (case xl7 => k_is); (case xm7 => exact ⟨by rfl, by rfl, by rfl, by rfl⟩); (case xo7 => rfl)
    (case xr7 => rfl); (case xs7 => exact fun x => rfl); (case xa7 => k_is); (case xh7 => k_is)
    (case xt7 => k_is); (case xw7 => k_is); (case xk7 => k_is); (case xi7 => k_is)
    (case xf7 => k_is); (case lg7 => k_is); (case cg7 => k_is); (case kg7 => k_is)
    (case rs => k_is); (case rr => k_is); (case rf => k_is); (case ln => k_is)
    (case lg => k_is); (case lh => k_is); (case lp => k_is); (case ls => k_is)
    (case u1 => k_is); (case u2 => k_is); (case u3 => k_is); (case lm => k_is)
    (case lk => k_is); (case me0 => k_is); (case mf0 => k_is); (case lh0 => k_is)
    (case ch0 => k_is); (case kh0 => k_is); (case me1 => k_is); (case mf1 => k_is)
    (case lh1 => k_is); (case ch1 => k_is); (case kh1 => k_is); (case me2 => k_is)
    (case mf2 => k_is); (case lh2 => k_is); (case ch2 => k_is); (case kh2 => k_is)
    (case me3 => k_is); (case mf3 => k_is); (case lh3 => k_is); (case ch3 => k_is)
    (case kh3 => k_is); (case me4 => k_is); (case mf4 => k_is); (case lh4 => k_is)
    (case ch4 => k_is); (case kh4 => k_is); (case me5 => k_is); (case mf5 => k_is)
    (case lh5 => k_is); (case ch5 => k_is); (case kh5 => k_is); (case me6 => k_is)
    (case mf6 => k_is); (case lh6 => k_is); (case ch6 => k_is); (case kh6 => k_is)
    (case me7 => k_is); (case mf7 => k_is); (case lh7 => k_is); (case ch7 => k_is)
    (case kh7 => k_is); (case me8 => k_is); (case mf8 => k_is); (case lh8 => k_is)
    (case ch8 => k_is); (case kh8 => k_is); (case me9 => k_is); (case mf9 => k_is)
    (case lh9 => k_is); (case ch9 => k_is); (case kh9 => k_is); (case me10 => k_is)
    (case mf10 => k_is); (case lh10 => k_is); (case ch10 => k_is); (case kh10 => k_is)
    (case me11 => k_is); (case mf11 => k_is); (case lh11 => k_is); (case ch11 => k_is)
    (case kh11 => k_is); (case me12 => k_is); (case mf12 => k_is); (case lh12 => k_is)
    (case ch12 => k_is); (case kh12 => k_is); (case me13 => k_is); (case mf13 => k_is)
    (case lh13 => k_is); (case ch13 => k_is); (case kh13 => k_is); (case z0 => k_is)
    (case z1 => k_is); (case z2 => k_is); (case z3 => k_is); (case y_len => k_is)
    (case y_isinstance => k_is); (case y_int => k_is); (case y_bool => k_is); (case y_str => k_is)
    (case y_range => k_is); (case y_list => k_is); (case y_tuple => k_is); (case y_max => k_is)
    (case y_min => k_is); (case y_sum => k_is); (case y_sorted => k_is); (case y_enumerate => k_is)
    (case y_Exception => k_is); (case y_set => k_is)
