import PyProof.Rows.All
import PySem.Challenge.RW_ascalls_k18_places_contents_stands
import HandS.ForMost
import HandS.ForExc
import HandS.Lambda
import KE.KDictKeyed
import HandS.Iter
import HandS.IsInst
import HandS.TupAny
import HandS.Text
import HandS.Deep
import PyProof.P3In
import HandS.Style
import HandS.FStr
import HandS.Dict
import HandS.SetFor
import HandS.Strs
import HandS.Defaults
import HandS.ExcInit
import HandS.ExcField
import HandS.Star
import PyProof.Rows.SortStr
import HandS.EndTab
import KE.GoesMore
import PyProof.StrOps2
import HandS.DictComp
import PyProof.Rows.IntBool
import HandS.Conv
import KE.KRevSl
import HandS.TupSets
import KE.SortData
import HandS.Zip
import PyProof.P3Eq
import Wide.All
import OpenK.AllK
import Wide.FinOn
set_option Elab.async false
set_option linter.all false
set_option maxRecDepth 100000
set_option maxHeartbeats 4000000
/-! PL1: values D as plain data, the store, the monad M of what a def does, and how they lie in the abstract heap of HandS. -/
namespace PL
open PySem PySem.Spec L2
variable {wW : World}
/-- plain data; ref: a changing object of the store; frz: a list that is read alone (the script) -/
inductive D where
  | non | bl (b : Bool) | int (i : Int) | str (x : Str) | tup (ds : List D) | lst (ds : List D) | frz (ds : List D) | ref (n : Nat)
  deriving Inhabited
/-- an object of the store; tab: where the lambdas of a def keep their code -/
inductive Ob where
  | dict (kvs : List (Key × D)) | lst (ds : List D) | ins (C : Addr) (fs : List (Str × D)) | tab (P : Addr) (q : Str) | nd (kvs : List (D × D))
abbrev Sto := List Ob
structure Exn where
  cls : Str
  fs : List (Str × D)
inductive Res (α : Type) where
  | ok (a : α) (s : Sto) | err (x : Exn) (s : Sto) | bad
def M (α : Type) := Sto → Res α
namespace M
def pure {α : Type} (a : α) : M α := fun s => .ok a s
def bind {α β : Type} (m : M α) (f : α → M β) : M β := fun s => match m s with
  | .ok a s' => f a s'
  | .err x s' => .err x s'
  | .bad => .bad
instance : Monad M where
  pure := M.pure
  bind := M.bind
def bad {α : Type} : M α := fun _ => .bad
def raise {α : Type} (x : Exn) : M α := fun s => .err x s
def get : M Sto := fun s => .ok s s
def set (s : Sto) : M Unit := fun _ => .ok () s
theorem pure_bind {α β : Type} (a : α) (f : α → M β) : (M.pure a).bind f = f a := rfl
theorem bind_pure {α : Type} (m : M α) : m.bind M.pure = m := by
  funext s; unfold bind pure; cases m s <;> rfl
theorem bind_assoc {α β γ : Type} (m : M α) (f : α → M β) (g : β → M γ) : (m.bind f).bind g = m.bind fun a => (f a).bind g := by
  funext s; unfold bind; cases m s <;> rfl
instance : LawfulMonad M := LawfulMonad.mk' (m := M) (id_map := fun x => bind_pure x) (pure_bind := fun a f => rfl) (bind_assoc := fun m f g => bind_assoc m f g)
end M
abbrev Mu := Nat → Option Addr
section
variable {K : PySem.W.Frag}
mutual
/-- the value v is the data d, by the fixed part G of the heap -/
inductive Rep (K : PySem.W.Frag) (G : Hp) (μ : Mu) : V → D → Prop
  | non : Rep K G μ .non .non
  | bl (b : Bool) : Rep K G μ (.bl b) (.bl b)
  | int (i : Int) : Rep K G μ (.int i) (.int i)
  | str (x : Str) : Rep K G μ (.str x) (.str x)
  | tup {a : Addr} {vs : List V} {ds : List D} : SqT K G a vs → RepL K G μ vs ds → Rep K G μ (.ref a) (.tup ds)
  | lst {a : Addr} {vs : List V} {ds : List D} : G a = some (.lst vs) → RepL K G μ vs ds → Rep K G μ (.ref a) (.lst ds)
  | frz {a : Addr} {vs : List V} {ds : List D} : SqL K G a vs → RepL K G μ vs ds → Rep K G μ (.ref a) (.frz ds)
  | ref {n : Nat} {a : Addr} : μ n = some a → Rep K G μ (.ref a) (.ref n)
inductive RepL (K : PySem.W.Frag) (G : Hp) (μ : Mu) : List V → List D → Prop
  | nil : RepL K G μ [] []
  | cons {v : V} {vs : List V} {d : D} {ds : List D} : Rep K G μ v d → RepL K G μ vs ds → RepL K G μ (v :: vs) (d :: ds)
end
def Sub (G G' : Hp) : Prop := ∀ a o, G a = some o → G' a = some o
def SubM (μ μ' : Mu) : Prop := ∀ n a, μ n = some a → μ' n = some a
theorem Sub.th {G H : Hp} (s : Sub G H) : ∀ a o, G a = some o → ∃ o', H a = some o' := fun a o h => ⟨o, s a o h⟩
theorem Sub.refl (G : Hp) : Sub G G := fun _ _ h => h
theorem Sub.trans {A B C : Hp} (x : Sub A B) (y : Sub B C) : Sub A C := fun a o h => y a o (x a o h)
theorem Sub.rd {G G' : Hp} (s : Sub G G') {a : Addr} {u : HO} (r : Rd G a u) : Rd G' a u := by
  rcases r with r | ⟨o, r⟩
  · exact .inl (s _ _ r)
  · exact .inr ⟨o, s _ _ r⟩
theorem Sub.sqT {G G' : Hp} (s : Sub G G') {a : Addr} {xs : List V} (r : SqT K G a xs) : SqT K G' a xs := r.imp s.rd id
theorem Sub.sqL {G G' : Hp} (s : Sub G G') {a : Addr} {xs : List V} (r : SqL K G a xs) : SqL K G' a xs := r.imp s.rd id
mutual
theorem Rep.mono {G G' : Hp} {μ μ' : Mu} (s : Sub G G') (m : SubM μ μ') : ∀ {v : V} {d : D}, Rep K G μ v d → Rep K G' μ' v d
  | _, _, .non => .non
  | _, _, .bl b => .bl b
  | _, _, .int i => .int i
  | _, _, .str x => .str x
  | _, _, .tup h r => .tup (s.sqT h) (RepL.mono s m r)
  | _, _, .lst h r => .lst (s _ _ h) (RepL.mono s m r)
  | _, _, .frz h r => .frz (s.sqL h) (RepL.mono s m r)
  | _, _, .ref h => .ref (m _ _ h)
theorem RepL.mono {G G' : Hp} {μ μ' : Mu} (s : Sub G G') (m : SubM μ μ') : ∀ {vs : List V} {ds : List D}, RepL K G μ vs ds → RepL K G' μ' vs ds
  | _, _, .nil => .nil
  | _, _, .cons h r => .cons (Rep.mono s m h) (RepL.mono s m r)
end
theorem RepL.length {G : Hp} {μ : Mu} : ∀ {vs : List V} {ds : List D}, RepL K G μ vs ds → vs.length = ds.length
  | _, _, .nil => rfl
  | _, _, .cons _ r => congrArg (· + 1) (RepL.length r)
theorem RepL.get {G : Hp} {μ : Mu} : ∀ {vs : List V} {ds : List D} {i : Nat} {d : D}, RepL K G μ vs ds → ds[i]? = some d → ∃ v, vs[i]? = some v ∧ Rep K G μ v d
  | _, _, _, _, .nil, e => by simp at e
  | _, _, 0, _, .cons h _, e => by simp at e; subst e; exact ⟨_, rfl, h⟩
  | _, _, i + 1, d, .cons _ r, e => by
    obtain ⟨v, h1, h2⟩ := RepL.get (i := i) (d := d) r (by simpa using e)
    exact ⟨v, by simpa using h1, h2⟩
theorem RepL.append {G : Hp} {μ : Mu} : ∀ {vs ws : List V} {ds es : List D}, RepL K G μ vs ds → RepL K G μ ws es → RepL K G μ (vs ++ ws) (ds ++ es)
  | _, _, _, _, .nil, s => s
  | _, _, _, _, .cons r t, s => .cons r (RepL.append t s)
theorem RepL.take {G : Hp} {μ : Mu} : ∀ {vs : List V} {ds : List D} (n : Nat), RepL K G μ vs ds → RepL K G μ (vs.take n) (ds.take n)
  | _, _, 0, _ => .nil
  | _, _, _ + 1, .nil => .nil
  | _, _, n + 1, .cons r t => .cons r (RepL.take n t)
theorem RepL.drop {G : Hp} {μ : Mu} : ∀ {vs : List V} {ds : List D} (n : Nat), RepL K G μ vs ds → RepL K G μ (vs.drop n) (ds.drop n)
  | _, _, 0, r => r
  | _, _, _ + 1, .nil => .nil
  | _, _, n + 1, .cons _ t => RepL.drop n t
theorem RepL.set {G : Hp} {μ : Mu} {v : V} {d : D} (r : Rep K G μ v d) : ∀ {vs : List V} {ds : List D} (i : Nat), RepL K G μ vs ds → RepL K G μ (vs.set i v) (ds.set i d)
  | _, _, _, .nil => .nil
  | _, _, 0, .cons _ t => .cons r t
  | _, _, i + 1, .cons q t => .cons q (RepL.set r i t)
mutual
/-- data as a key of a dict -/
def nkD : D → Option NestedKey
  | .non => some .none
  | .bl b => some (.num (if b = true then 1 else 0))
  | .int i => some (.num i)
  | .str x => some (.text x)
  | .tup ds => (nkL ds).map .tup
  | _ => none
def nkL : List D → Option (List NestedKey)
  | [] => some []
  | d :: ds => (nkD d).bind fun k => (nkL ds).map (k :: ·)
end
def entN (w : World) (x : NestedKey × Addr × Value) : DictEntry := ⟨x.1.hash w, .ref x.2.1, x.2.2⟩
/-- at a: a dict with tuples as keys; ks tells the keys and where their tuples stand -/
def RawN (w : World) (a : Addr) (ks : List (NestedKey × Addr)) (vs : List V) (h : Heap) : Prop :=
  ∃ xs : List (NestedKey × Addr × Value), xs.map (fun x => (x.1, x.2.1)) = ks ∧ Vals vs (xs.map (·.2.2)) ∧ (a == sysModules) = false ∧ xs.length ≤ sizeLine ∧
    ∃ o es ep, h.get? a = some o ∧ o.ExactDict ∧ o.data = .dict es ep ∧ es.toList = xs.map (entN w) ∧ (xs.map (·.1)).Nodup
/-- the pairs kvs, as they lie -/
structure NR (K : PySem.W.Frag) (G : Hp) (μ : Mu) (ks : List (NestedKey × Addr)) (vs : List V) (kvs : List (D × D)) : Prop where
  nk : kvs.map (fun q => nkD q.1) = ks.map (fun k => some k.1)
  dp : ∀ k ∈ ks, k.1.depth ≤ 8
  k : RepL K G μ (ks.map fun k => V.ref k.2) (kvs.map (·.1))
  v : RepL K G μ vs (kvs.map (·.2))
theorem NR.mono {G G' : Hp} {μ μ' : Mu} {ks : List (NestedKey × Addr)} {vs : List V} {kvs : List (D × D)} (x : NR K G μ ks vs kvs) (s : Sub G G') (m : SubM μ μ') : NR K G' μ' ks vs kvs := ⟨x.nk, x.dp, x.k.mono s m, x.v.mono s m⟩
/-- the store's object o at a -/
def OR (wW : World) (K : PySem.W.Frag) (G : Hp) (μ : Mu) (H : Hp) (a : Addr) : Ob → Prop
  | .dict kvs => ∃ ws, H a = some (.dK ws) ∧ ws.map (·.1) = kvs.map (·.1) ∧ RepL K G μ (ws.map (·.2)) (kvs.map (·.2))
  | .lst ds => ∃ vs, H a = some (.lst vs) ∧ RepL K G μ vs ds
  | .ins C fs => ∃ dx ws, H a = some (.ins C dx ws) ∧ ws.map (·.1) = fs.map (·.1) ∧ RepL K G μ (ws.map (·.2)) (fs.map (·.2))
  | .tab P q => a = P ∧ ∃ ps : Array Value, H a = some (.tbl ps) ∧ TriplesOk ps.toList ∧ ∀ (pos : Pos) (cv : Value), codeAmong pos ps.toList = some cv → ∃ c, cv = .ref c ∧ G c = some (LamX.CodeO c q)
  | .nd kvs => ∃ ks vs, H a = some (.ext (RawN wW a ks vs)) ∧ NR K G μ ks vs kvs
theorem OR.mono {G G' H H' : Hp} {μ μ' : Mu} {a : Addr} {o : Ob} (x : OR wW K G μ H a o) (s : Sub G G') (m : SubM μ μ') (e : ∀ u, H a = some u → H' a = some u) : OR wW K G' μ' H' a o := by
  cases o with
  | dict kvs => obtain ⟨ws, h, k, r⟩ := x; exact ⟨ws, e _ h, k, r.mono s m⟩
  | lst ds => obtain ⟨vs, h, r⟩ := x; exact ⟨vs, e _ h, r.mono s m⟩
  | ins C fs => obtain ⟨dx, ws, h, k, r⟩ := x; exact ⟨dx, ws, e _ h, k, r.mono s m⟩
  | tab P q => obtain ⟨e0, ps, h, t, k⟩ := x; exact ⟨e0, ps, e _ h, t, fun pos cv hc => let ⟨c, c1, c2⟩ := k pos cv hc; ⟨c, c1, s _ _ c2⟩⟩
  | nd kvs => obtain ⟨ks, vs, h, r⟩ := x; exact ⟨ks, vs, e _ h, r.mono s m⟩
theorem OR.there {G H : Hp} {μ : Mu} {a : Addr} {o : Ob} (x : OR wW K G μ H a o) : ∃ u, H a = some u := by
  cases o with
  | dict kvs => obtain ⟨ws, h, _⟩ := x; exact ⟨_, h⟩
  | lst ds => obtain ⟨vs, h, _⟩ := x; exact ⟨_, h⟩
  | ins C fs => obtain ⟨dx, ws, h, _⟩ := x; exact ⟨_, h⟩
  | tab P q => obtain ⟨_, ps, h, _⟩ := x; exact ⟨_, h⟩
  | nd kvs => obtain ⟨ks, vs, h, _⟩ := x; exact ⟨_, h⟩
/-- the abstract heap bears the store -/
structure Wd (wW : World) (K : PySem.W.Frag) (H G : Hp) (μ : Mu) (st : Sto) : Prop where
  imm : Sub G H
  obj : ∀ n o, st[n]? = some o → ∃ a, μ n = some a ∧ G a = none ∧ OR wW K G μ H a o
  inj : ∀ n m a, μ n = some a → μ m = some a → n = m
  dom : ∀ n a, μ n = some a → n < st.length
/-- from one state to a later one: what is not of the store stands as it was -/
structure Stp (H G : Hp) (μ : Mu) (H' G' : Hp) (μ' : Mu) : Prop where
  g : Sub G G'
  m : SubM μ μ'
  fr : ∀ a o, H a = some o → (∀ n, μ n ≠ some a) → H' a = some o
  th : ∀ a o, H a = some o → ∃ o', H' a = some o'
  ng : ∀ a, G a = none → G' a ≠ none → H a = none
  nm : ∀ n a, μ n = none → μ' n = some a → H a = none
section
variable {H G H1 G1 H2 G2 : Hp} {μ μ1 μ2 : Mu} {st st1 : Sto}
theorem Stp.refl : Stp H G μ H G μ := ⟨fun _ _ h => h, fun _ _ h => h, fun _ _ h _ => h, fun _ o h => ⟨o, h⟩, fun _ e n => absurd e n, fun _ _ e n => by rw [e] at n; cases n⟩
theorem Stp.trans (x : Stp H G μ H1 G1 μ1) (y : Stp H1 G1 μ1 H2 G2 μ2) : Stp H G μ H2 G2 μ2 where
  g := x.g.trans y.g
  m := fun n a h => y.m n a (x.m n a h)
  fr := fun a o h n => y.fr a o (x.fr a o h n) fun k e => by
    cases q : μ k with
    | some b =>
      have := x.m k b q
      rw [e] at this; cases this
      exact n k q
    | none => have := x.nm k a q e; rw [h] at this; cases this
  th := fun a o h => let ⟨o1, h1⟩ := x.th a o h; y.th a o1 h1
  ng := fun a e n => by
    cases q : G1 a with
    | some o => exact x.ng a e (by rw [q]; simp)
    | none =>
      have h1 := y.ng a q n
      cases r : H a with
      | none => rfl
      | some o => obtain ⟨o', h'⟩ := x.th a o r; rw [h1] at h'; cases h'
  nm := fun k a e n => by
    cases q : μ1 k with
    | some b =>
      have := y.m k b q
      rw [n] at this; cases this
      exact x.nm k a e q
    | none =>
      have h1 := y.nm k a q n
      cases r : H a with
      | none => rfl
      | some o => obtain ⟨o', h'⟩ := x.th a o r; rw [h1] at h'; cases h'
/-- a fresh address gets an object that is fixed -/
theorem Wd.new (w : Wd wW K H G μ st) {p : Addr} {o : HO} (hp : H p = none) : Wd wW K (upd H p o) (upd G p o) μ st ∧ Stp H G μ (upd H p o) (upd G p o) μ := by
  have gp : G p = none := by
    cases q : G p with
    | none => rfl
    | some u => have := w.imm _ _ q; rw [hp] at this; cases this
  have sg : Sub G (upd G p o) := fun a u h => by rw [upd_ne (ne_of_none h gp)]; exact h
  refine ⟨⟨fun a u h => ?_, fun n x e => ?_, w.inj, w.dom⟩, ⟨sg, fun _ _ h => h, fun a u h _ => by rw [upd_ne (ne_of_none h hp)]; exact h, fun a u h => ⟨u, by rw [upd_ne (ne_of_none h hp)]; exact h⟩, fun a e n => ?_, fun n a e q => by rw [e] at q; cases q⟩⟩
  · by_cases ha : a = p
    · subst ha; rw [upd_same] at h ⊢; exact h
    · rw [upd_ne ha] at h ⊢; exact w.imm _ _ h
  · obtain ⟨a, h1, h2, h3⟩ := w.obj n x e
    obtain ⟨u, hu⟩ := h3.there
    have ne : a ≠ p := ne_of_none hu hp
    exact ⟨a, h1, by rw [upd_ne ne]; exact h2, h3.mono sg (fun _ _ h => h) fun v hv => by rw [upd_ne ne]; exact hv⟩
  · by_cases ha : a = p
    · subst ha; exact hp
    · rw [upd_ne ha] at n; exact absurd e n
/-- .. an object that is not told -/
theorem Wd.lay (w : Wd wW K H G μ st) {p : Addr} {o : HO} (hp : H p = none) : Wd wW K (upd H p o) G μ st ∧ Stp H G μ (upd H p o) G μ := by
  refine ⟨⟨fun a u h => by rw [upd_ne (ne_of_none (w.imm _ _ h) hp)]; exact w.imm _ _ h, fun n x e => ?_, w.inj, w.dom⟩, ⟨fun _ _ h => h, fun _ _ h => h, fun a u h _ => by rw [upd_ne (ne_of_none h hp)]; exact h, fun a u h => ⟨u, by rw [upd_ne (ne_of_none h hp)]; exact h⟩, fun _ e n => absurd e n, fun n a e q => by rw [e] at q; cases q⟩⟩
  obtain ⟨a, h1, h2, h3⟩ := w.obj n x e
  obtain ⟨u, hu⟩ := h3.there
  have ne : a ≠ p := ne_of_none hu hp
  exact ⟨a, h1, h2, h3.mono (fun _ _ h => h) (fun _ _ h => h) fun v hv => by rw [upd_ne ne]; exact hv⟩
/-- a new object of the store -/
def muAdd (μ : Mu) (n : Nat) (p : Addr) : Mu := fun m => if m = n then some p else μ m
/-- an object of the store is changed -/
theorem Wd.write (w : Wd wW K H G μ st) {n : Nat} {p : Addr} {o : HO} {x y : Ob} (hs : st[n]? = some y) (hn : μ n = some p) (hx : OR wW K G μ (upd H p o) p x) : Wd wW K (upd H p o) G μ (st.set n x) ∧ Stp H G μ (upd H p o) G μ := by
  obtain ⟨p', e1, gp, q⟩ := w.obj n y hs
  rw [hn] at e1; cases e1
  obtain ⟨u0, hu0⟩ := q.there
  have hlt : n < st.length := (List.getElem?_eq_some_iff.mp hs).1
  refine ⟨⟨fun a u h => ?_, fun m z e => ?_, w.inj, fun m a e => by rw [List.length_set]; exact w.dom m a e⟩, ⟨fun _ _ h => h, fun _ _ h => h, fun a u h k => ?_, fun a u h => ?_, fun _ e n => absurd e n, fun m a e q => by rw [e] at q; cases q⟩⟩
  · have ne : a ≠ p := fun e => by rw [e, gp] at h; cases h
    rw [upd_ne ne]; exact w.imm _ _ h
  · by_cases hm : m = n
    · subst hm
      rw [List.getElem?_set_self hlt] at e
      cases e
      exact ⟨p, hn, gp, hx⟩
    · rw [List.getElem?_set_ne (Ne.symm hm)] at e
      obtain ⟨a, h1, h2, h3⟩ := w.obj m z e
      have ne : a ≠ p := fun e => hm (w.inj m n p (e ▸ h1) hn)
      exact ⟨a, h1, h2, h3.mono (fun _ _ h => h) (fun _ _ h => h) fun v hv => by rw [upd_ne ne]; exact hv⟩
  · have ne : a ≠ p := fun e => k n (e ▸ hn)
    rw [upd_ne ne]; exact h
  · by_cases ha : a = p
    · subst ha; exact ⟨o, upd_same⟩
    · exact ⟨u, by rw [upd_ne ha]; exact h⟩
end
end
end PL
set_option linter.all false
set_option maxRecDepth 100000
set_option maxHeartbeats 4000000
/-! PL2: slots, the judgements JE (an expression does f), JB (borrowed), JA (arguments), JS, JSs (statements), and their base rules. -/
namespace PL
open PySem PySem.Spec L2
variable {wW : World}
/-- a slot of a def: nothing known, a value, a list that this slot alone holds -/
inductive Slot where
  | no | val (d : D) | own (ds : List D)
  deriving Inhabited
abbrev En := List Slot
/-- a value that may be a list in its owner's hands -/
def BRep (K : PySem.W.Frag) (H G : Hp) (μ : Mu) (v : V) (d : D) : Prop :=
  Rep K G μ v d ∨ ∃ a vs ds, v = .ref a ∧ d = .lst ds ∧ H a = some (.lst vs) ∧ RepL K G μ vs ds ∧ True
/-- .. out of the store: what others do leaves it as it is -/
def BSt (K : PySem.W.Frag) (H G : Hp) (μ : Mu) (v : V) (d : D) : Prop :=
  Rep K G μ v d ∨ ∃ a vs ds, v = .ref a ∧ d = .lst ds ∧ H a = some (.lst vs) ∧ RepL K G μ vs ds ∧ ∀ n, μ n ≠ some a
structure ER (K : PySem.W.Frag) (H G : Hp) (μ : Mu) (H0 : Hp) (ρ : En) (σ : L2.St) : Prop where
  val : ∀ (i : Nat) d, ρ[i]? = some (.val d) → ∃ v, σ[i]? = some (some v) ∧ Rep K G μ v d
  own : ∀ (i : Nat) ds, ρ[i]? = some (.own ds) → ∃ a vs, σ[i]? = some (some (.ref a)) ∧ H a = some (.lst vs) ∧ RepL K G μ vs ds ∧ G a = none ∧ (∀ n, μ n ≠ some a) ∧ H0 a = none
  inj : ∀ (i j : Nat) ds es a, ρ[i]? = some (.own ds) → ρ[j]? = some (.own es) → σ[i]? = some (some (.ref a)) → σ[j]? = some (some (.ref a)) → i = j
  len : ρ.length = σ.length
  old : ∀ a o, H0 a = some o → ∃ o', H a = some o'
section
variable {K : PySem.W.Frag} {H G H1 G1 H0 : Hp} {μ μ1 : Mu} {ρ : En} {σ : L2.St} {v : V} {d : D}
theorem BSt.weak (r : BSt K H G μ v d) : BRep K H G μ v d := r.imp id fun ⟨a, vs, ds, h1, h2, h3, h4, _⟩ => ⟨a, vs, ds, h1, h2, h3, h4, trivial⟩
theorem BSt.step (r : BSt K H G μ v d) (s : Stp H G μ H1 G1 μ1) : BSt K H1 G1 μ1 v d := by
  rcases r with r | ⟨a, vs, ds, e1, e2, h, r, n⟩
  · exact .inl (r.mono s.g s.m)
  · refine .inr ⟨a, vs, ds, e1, e2, s.fr a _ h n, r.mono s.g s.m, fun k e => ?_⟩
    cases q : μ k with
    | some b => have := s.m k b q; rw [e] at this; cases this; exact n k q
    | none => have := s.nm k a q e; rw [h] at this; cases this
theorem ER.step (e : ER K H G μ H0 ρ σ) (s : Stp H G μ H1 G1 μ1) : ER K H1 G1 μ1 H0 ρ σ where
  val := fun i d q => let ⟨v, h1, h2⟩ := e.val i d q; ⟨v, h1, h2.mono s.g s.m⟩
  own := fun i ds q => by
    obtain ⟨a, vs, h1, h2, h3, h4, h5, h6⟩ := e.own i ds q
    refine ⟨a, vs, h1, s.fr a _ h2 h5, h3.mono s.g s.m, ?_, fun k e => ?_, h6⟩
    · cases q : G1 a with
      | none => rfl
      | some o => have := s.ng a h4 (by rw [q]; simp); rw [h2] at this; cases this
    · cases q : μ k with
      | some b => have := s.m k b q; rw [e] at this; cases this; exact h5 k q
      | none => have := s.nm k a q e; rw [h2] at this; cases this
  inj := e.inj
  len := e.len
  old := fun a o h => let ⟨o1, h1⟩ := e.old a o h; s.th a o1 h1
end
/-- how an exception lies -/
structure XRep (K : PySem.W.Frag) (mg : Str → Option Value) (G : Hp) (μ : Mu) (x : Exn) (c : Value) (dd : Option Addr) (H : Hp) : Prop where
  cls : mg x.cls = some c
  fs : ∃ d ws, dd = some d ∧ H d = some (.xd ws) ∧ ws.map (·.1) = x.fs.map (·.1) ∧ RepL K G μ (ws.map (·.2)) (x.fs.map (·.2))
/-- how a result lies: the heap ahead, the heap behind, its fixed part, the store's places, the result, its data -/
structure RR (β α : Type) where
  r : Hp → Hp → Hp → Mu → β → α → Prop
  anti : ∀ {H H1 H' G' : Hp} {μ' : Mu} {v : β} {a : α}, (∀ b o, H b = some o → ∃ o', H1 b = some o') → r H1 H' G' μ' v a → r H H' G' μ' v a
/-- what is wanted behind m, from (H, G, μ) on; R: how the result lies -/
def Post {α : Type} {β : Type} (wW : World) (K : PySem.W.Frag) (mg : Str → Option Value) (E : XK) (R : RR β α) (H G : Hp) (μ : Mu) (r : Res α) (Q : β → Hp → Prop) : Prop :=
  match r with
  | .ok a st' => ∀ v H' G' μ', Wd wW K H' G' μ' st' → Stp H G μ H' G' μ' → R.r H H' G' μ' v a → Q v H'
  | .err x st' => ∀ c dd H' G' μ', Wd wW K H' G' μ' st' → Stp H G μ H' G' μ' → XRep K mg G' μ' x c dd H' → E c dd H'
  | .bad => False
section
variable {K : PySem.W.Frag} {mg : Str → Option Value} {E : XK} {α β : Type} {R R' : RR β α} {H G H1 G1 : Hp} {μ μ1 : Mu} {r : Res α} {Q Q' : β → Hp → Prop}
theorem Post.step (p : Post wW K mg E R H G μ r Q) (s : Stp H G μ H1 G1 μ1) : Post wW K mg E R H1 G1 μ1 r Q := by
  cases r with
  | ok a st => exact fun v H' G' μ' w t q => p v H' G' μ' w (s.trans t) (R.anti s.th q)
  | err x st => exact fun c dd H' G' μ' w t q => p c dd H' G' μ' w (s.trans t) q
  | bad => exact p
theorem Post.imp (p : Post wW K mg E R H G μ r Q) (h : ∀ H0 H' G' μ' v a, R'.r H0 H' G' μ' v a → R.r H0 H' G' μ' v a) : Post wW K mg E R' H G μ r Q := by
  cases r with
  | ok a st => exact fun v H' G' μ' w t q => p v H' G' μ' w t (h _ _ _ _ _ _ q)
  | err x st => exact p
  | bad => exact p
/-- the way through a bind; what is wanted is still told from the first state on -/
theorem Post.raw {γ δ : Type} {R2 : RR δ γ} {m : M γ} {f : γ → M α} {st : Sto} {Q2 : δ → Hp → Prop} (p : Post wW K mg E R H G μ (m.bind f st) Q)
    (h : ∀ a st' v H' G' μ', Wd wW K H' G' μ' st' → Stp H G μ H' G' μ' → R2.r H H' G' μ' v a → Post wW K mg E R H G μ (f a st') Q → Q2 v H') : Post wW K mg E R2 H G μ (m st) Q2 := by
  unfold M.bind at p
  cases e : m st with
  | ok a st' =>
    rw [e] at p
    exact fun v H' G' μ' w t q => h a st' v H' G' μ' w t q p
  | err x st' =>
    rw [e] at p
    exact p
  | bad => rw [e] at p; exact p
theorem Post.bind {γ δ : Type} {R2 : RR δ γ} {m : M γ} {f : γ → M α} {st : Sto} {Q2 : δ → Hp → Prop} (p : Post wW K mg E R H G μ (m.bind f st) Q)
    (h : ∀ a st' v H' G' μ', Wd wW K H' G' μ' st' → Stp H G μ H' G' μ' → R2.r H H' G' μ' v a → Post wW K mg E R H' G' μ' (f a st') Q → Q2 v H') : Post wW K mg E R2 H G μ (m st) Q2 :=
  p.raw fun a st' v H' G' μ' w t q p' => h a st' v H' G' μ' w t q (p'.step t)
end
def rRep (K : PySem.W.Frag) : RR V D := ⟨fun _ _ G μ v d => Rep K G μ v d, fun _ h => h⟩
def rBRep (K : PySem.W.Frag) : RR V D := ⟨fun _ H G μ v d => BSt K H G μ v d, fun _ h => h⟩
def rRepL (K : PySem.W.Frag) : RR (List V) (List D) := ⟨fun _ _ G μ v d => RepL K G μ v d, fun _ h => h⟩
def rTrue : RR Bool Bool := ⟨fun _ _ _ _ v d => v = d, fun _ h => h⟩
/-- a list that was made, in no other's hands -/
def Fresh (K : PySem.W.Frag) (H H' G : Hp) (μ : Mu) (v : V) (ds : List D) : Prop := ∃ a vs, v = .ref a ∧ H' a = some (.lst vs) ∧ RepL K G μ vs ds ∧ G a = none ∧ (∀ n, μ n ≠ some a) ∧ H a = none
theorem none_before {H H1 : Hp} (t : ∀ b o, H b = some o → ∃ o', H1 b = some o') {a : Addr} (h : H1 a = none) : H a = none := by
  cases q : H a with
  | none => rfl
  | some o => obtain ⟨o', h'⟩ := t a o q; rw [h] at h'; cases h'
def rFresh (K : PySem.W.Frag) : RR V (List D) := ⟨fun H H' G μ v ds => Fresh K H H' G μ v ds, fun t ⟨a, vs, h1, h2, h3, h4, h5, h6⟩ => ⟨a, vs, h1, h2, h3, h4, h5, none_before t h6⟩⟩
/-- the reading of what does f -/
def Se {α β : Type} (X : Cx) (E : XK) (H0 : Hp) (R : RR β α) (f : En → M α)   : L2.St → Hp → (β → Hp → Prop) → Prop := fun σ H Q =>
  ∃ G μ st ρ, Wd X.w X.K H G μ st ∧ ER X.K H G μ H0 ρ σ ∧ Post X.w X.K X.mg E R H G μ (f ρ st) Q
/-- an expression that does f, without a change of the slots -/
def JE (X : Cx) (E : XK) (H0 : Hp) (f : En → M D) (e : Expr) : Prop := PE X e (Se X E H0 (rRep X.K) f)
def JB (X : Cx) (E : XK) (H0 : Hp) (f : En → M D) (e : Expr) : Prop := PE X e (Se X E H0 (rBRep X.K) f)
def JA (X : Cx) (E : XK) (H0 : Hp) (f : En → M (List D)) (es : List Expr) : Prop := PA X es (Se X E H0 (rRepL X.K) f)
def JT (X : Cx) (E : XK) (H0 : Hp) (f : En → M Bool) (e : Expr) : Prop := PT X e (Se X E H0 rTrue f)
section
variable {X : Cx} {E : XK} {H0 : Hp} {e a b : Expr} {f g : En → M D} {pos : Pos}
theorem PE.imp {t t' : TE} (h : PE X e t) (q : ∀ σ H Q, t' σ H Q → t σ H Q) : PE X e t' := ⟨fun pins s σ H Q I x => h.run pins s σ H Q I (q _ _ _ x)⟩
theorem PT.imp {t t' : TT} (h : PT X e t) (q : ∀ σ H Q, t' σ H Q → t σ H Q) : PT X e t' := ⟨fun pins s σ H Q I x => h.run pins s σ H Q I (q _ _ _ x)⟩
theorem PA.imp {es : List Expr} {t t' : TA} (h : PA X es t) (q : ∀ σ H Q, t' σ H Q → t σ H Q) : PA X es t' := ⟨fun pos pins s σ H Q I x => h.run pos pins s σ H Q I (q _ _ _ x)⟩
theorem PS.imp {st : Stmt} {t t' : TS} (h : PS X st t) (q : ∀ D σ H, t' D σ H → t D σ H) : PS X st t' := ⟨fun pins s σ H D I x => h.run pins s σ H D I (q _ _ _ x)⟩
theorem PSs.imp {st : List Stmt} {t t' : TS} (h : PSs X st t) (q : ∀ D σ H, t' D σ H → t D σ H) : PSs X st t' := ⟨fun pins s σ H D I x => h.run pins s σ H D I (q _ _ _ x)⟩
theorem JE.jb (h : JE X E H0 f e) : JB X E H0 f e := PE.imp h fun σ H Q ⟨G, μ, st, ρ, w, er, p⟩ => ⟨G, μ, st, ρ, w, er, p.imp fun _ _ _ _ _ _ r => .inl r⟩
/-! ### names and constants -/
def eVar (i : Nat) : En → M D := fun ρ => match ρ[i]? with
  | some (.val d) => M.pure d
  | _ => M.bad
/-- a name whose list is looked at -/
def eLook (i : Nat) : En → M D := fun ρ => match ρ[i]? with
  | some (.val d) => M.pure d
  | some (.own ds) => M.pure (.lst ds)
  | _ => M.bad
theorem je_var {i : Nat} {x : Str} (hN : X.N[i]? = some x) (hv : Vis X.env.scope x) (hd : (x == ("__debug__" : Str)) = false := by decide) (hcd : (x == ("__classdict__" : Str)) = false := by decide) : JE X E H0 (eVar i) (.Name x pos) := by
  refine PE.imp (pe_var hN hv hd hcd) fun σ H Q ⟨G, μ, st, ρ, w, er, p⟩ => ?_
  unfold eVar at p
  cases q : ρ[i]? with
  | none => rw [q] at p; exact p.elim
  | some s =>
    rw [q] at p
    cases s with
    | no => exact p.elim
    | own ds => exact p.elim
    | val d =>
      obtain ⟨v, h1, h2⟩ := er.val i d q
      exact ⟨v, h1, p v H G μ w .refl h2⟩
theorem jb_look {i : Nat} {x : Str} (hN : X.N[i]? = some x) (hv : Vis X.env.scope x) (hd : (x == ("__debug__" : Str)) = false := by decide) (hcd : (x == ("__classdict__" : Str)) = false := by decide) : JB X E H0 (eLook i) (.Name x pos) := by
  refine PE.imp (pe_var hN hv hd hcd) fun σ H Q ⟨G, μ, st, ρ, w, er, p⟩ => ?_
  unfold eLook at p
  cases q : ρ[i]? with
  | none => rw [q] at p; exact p.elim
  | some s =>
    rw [q] at p
    cases s with
    | no => exact p.elim
    | own ds =>
      obtain ⟨a, vs, h1, h2, h3, h4, h5, h6⟩ := er.own i ds q
      exact ⟨_, h1, p _ H G μ w .refl (.inr ⟨a, vs, ds, rfl, rfl, h2, h3, h5⟩)⟩
    | val d =>
      obtain ⟨v, h1, h2⟩ := er.val i d q
      exact ⟨v, h1, p v H G μ w .refl (.inl h2)⟩
def eC (d : D) : En → M D := fun _ => M.pure d
theorem je_c {v : V} {d : D} (h : PE X e (tC v)) (r : ∀ G μ, Rep X.K G μ v d) : JE X E H0 (eC d) e := PE.imp h fun σ H Q ⟨G, μ, st, ρ, w, er, p⟩ => p v H G μ w .refl (r G μ)
theorem je_int {i : Int} {j : Nat} : JE X E H0 (eC (.int i)) (.Constant (.int i) j pos) := je_c pe_int fun _ _ => .int i
theorem je_bl {b : Bool} {j : Nat} : JE X E H0 (eC (.bl b)) (.Constant (.bool b) j pos) := je_c pe_bl fun _ _ => .bl b
theorem je_non {j : Nat} : JE X E H0 (eC .non) (.Constant .none j pos) := je_c pe_non fun _ _ => .non
theorem je_str {x : Str} {j : Nat} : JE X E H0 (eC (.str x)) (.Constant (.str x) j pos) := je_c pe_str fun _ _ => .str x
/-! ### operators, by values -/
def e2 (p : D → D → M D) (f g : En → M D) : En → M D := fun ρ => (f ρ).bind fun x => (g ρ).bind fun y => p x y
/-- two operands that may be borrowed -/
def OpJ (X : Cx) (E : XK) (r : R2) (p : D → D → M D) : Prop :=
  ∀ (H G : Hp) (μ : Mu) (st : Sto) (x y : V) (dx dy : D) (Q : VK), Wd X.w X.K H G μ st → BRep X.K H G μ x dx → BRep X.K H G μ y dy → Post X.w X.K X.mg E (rRep X.K) H G μ (p dx dy st) Q → r x y H Q
theorem se2 {r : R2} {p : D → D → M D} (hp : OpJ X E r p) {ta tb : TE} (ha : ∀ σ H Q, Se X E H0 (rBRep X.K) f σ H Q → ta σ H Q) (hb : ∀ σ H Q, Se X E H0 (rBRep X.K) g σ H Q → tb σ H Q) :
    ∀ σ H Q, Se X E H0 (rRep X.K) (e2 p f g) σ H Q → tOp r ta tb σ H Q := by
  intro σ H Q ⟨G, μ, st, ρ, w, er, q⟩
  refine ha _ _ _ ⟨G, μ, st, ρ, w, er, Post.bind q fun dx st1 x H1 G1 μ1 w1 s1 r1 q1 => ?_⟩
  refine hb _ _ _ ⟨G1, μ1, st1, ρ, w1, er.step s1, Post.bind q1 fun dy st2 y H2 G2 μ2 w2 s2 r2 q2 => ?_⟩
  exact hp H2 G2 μ2 st2 x y dx dy Q w2 (r1.step s2).weak r2.weak q2
theorem je_op {op : Operator} {r : R2} {p : D → D → M D} (ho : OpR X (binaryOp op) r) (hp : OpJ X E r p) (ha : JB X E H0 f a) (hb : JB X E H0 g b) : JE X E H0 (e2 p f g) (.BinOp a op b pos) :=
  PE.imp (pe_op ho ha hb) (se2 hp (fun _ _ _ h => h) fun _ _ _ h => h)
theorem je_cmp {op : CmpOp} {r : R2} {p : D → D → M D} (ho : OpR X (compareOp op) r) (hp : OpJ X E r p) (ha : JB X E H0 f a) (hb : JB X E H0 g b) (hm : behindInMarks op b = false) : JE X E H0 (e2 p f g) (.Compare a [op] [b] pos) :=
  PE.imp (pe_cmpR ho ha hb hm) (se2 hp (fun _ _ _ h => h) fun _ _ _ h => h)
theorem je_ix {r : R2} {p : D → D → M D} (ho : IxR X r) (hp : OpJ X E r p) (ha : JB X E H0 f a) (hb : JB X E H0 g b) (hs : PlainIx b) : JE X E H0 (e2 p f g) (.Subscript a b pos) :=
  PE.imp (pe_ix ho ha hb hs) (se2 hp (fun _ _ _ h => h) fun _ _ _ h => h)
/-! ### arguments -/
def aNil : En → M (List D) := fun _ => M.pure []
def aCons (f : En → M D) (g : En → M (List D)) : En → M (List D) := fun ρ => (f ρ).bind fun x => (g ρ).bind fun xs => M.pure (x :: xs)
theorem ja_nil : JA X E H0 aNil [] := PA.imp pa_nil fun σ H Q ⟨G, μ, st, ρ, w, er, p⟩ => p [] H G μ w .refl .nil
theorem ja_cons {es : List Expr} {g : En → M (List D)} (ha : JE X E H0 f e) (hr : JA X E H0 g es) (hs : starEach (e :: es) X.env = (false, eval e X.env) :: starEach es X.env := by rfl) : JA X E H0 (aCons f g) (e :: es) := by
  refine PA.imp (pa_cons ha hr hs) fun σ H Q ⟨G, μ, st, ρ, w, er, q⟩ => ?_
  refine ⟨G, μ, st, ρ, w, er, Post.bind q fun dx st1 x H1 G1 μ1 w1 s1 r1 q1 => ?_⟩
  refine ⟨G1, μ1, st1, ρ, w1, er.step s1, Post.bind q1 fun dy st2 y H2 G2 μ2 w2 s2 r2 q2 => ?_⟩
  exact q2 _ H2 G2 μ2 w2 .refl (.cons (Rep.mono s2.g s2.m r1) r2)
/-! ### displays -/
def line (n : Nat) : M Unit := fun s => if n ≤ sizeLine then .ok () s else .bad
def eTup (g : En → M (List D)) : En → M D := fun ρ => (g ρ).bind fun xs => (line xs.length).bind fun _ => M.pure (.tup xs)
def eLst (g : En → M (List D)) : En → M D := fun ρ => (g ρ).bind fun xs => (line xs.length).bind fun _ => M.pure (.lst xs)
theorem Post.line {α β : Type} {R : RR β α} {H G : Hp} {μ : Mu} {n : Nat} {m : M α} {st : Sto} {Q : β → Hp → Prop} (p : Post X.w X.K X.mg E R H G μ ((line n).bind (fun _ => m) st) Q) : n ≤ sizeLine ∧ Post X.w X.K X.mg E R H G μ (m st) Q := by
  unfold M.bind PL.line at p
  by_cases h : n ≤ sizeLine
  · simp only [if_pos h] at p; exact ⟨h, p⟩
  · simp only [if_neg h] at p; exact p.elim
theorem je_tup {es : List Expr} {g : En → M (List D)} {k : Nat} (h : JA X E H0 g es) : JE X E H0 (eTup g) (.Tuple es k pos) := by
  refine PE.imp (pe_tup h) fun σ H Q ⟨G, μ, st, ρ, w, er, q⟩ => ?_
  refine ⟨G, μ, st, ρ, w, er, Post.bind q fun ds st1 xs H1 G1 μ1 w1 s1 r1 q1 => ?_⟩
  obtain ⟨hl, q1⟩ := q1.line
  refine ⟨by rw [RepL.length r1]; exact hl, fun p hp => ?_⟩
  obtain ⟨w2, s2⟩ := w1.new (o := .tup xs) hp
  exact q1 _ _ _ _ w2 s2 (.tup (.inl (.inl upd_same)) (RepL.mono s2.g s2.m r1))
theorem je_lst {es : List Expr} {g : En → M (List D)} (h : JA X E H0 g es) : JE X E H0 (eLst g) (.List es pos) := by
  refine PE.imp (pe_lst h) fun σ H Q ⟨G, μ, st, ρ, w, er, q⟩ => ?_
  refine ⟨G, μ, st, ρ, w, er, Post.bind q fun ds st1 xs H1 G1 μ1 w1 s1 r1 q1 => ?_⟩
  obtain ⟨hl, q1⟩ := q1.line
  refine ⟨by rw [RepL.length r1]; exact hl, fun p hp => ?_⟩
  obtain ⟨w2, s2⟩ := w1.new (o := .lst xs) hp
  exact q1 _ _ _ _ w2 s2 (.lst upd_same (RepL.mono s2.g s2.m r1))
/-! ### built-in calls with one argument, which may be borrowed -/
def e1 (p : D → M D) (f : En → M D) : En → M D := fun ρ => (f ρ).bind p
def C1J (X : Cx) (E : XK) (r : List V → Hp → VK → Prop) (p : D → M D) : Prop :=
  ∀ (H G : Hp) (μ : Mu) (st : Sto) (x : V) (dx : D) (Q : VK), Wd X.w X.K H G μ st → BRep X.K H G μ x dx → Post X.w X.K X.mg E (rRep X.K) H G μ (p dx st) Q → r [x] H Q
theorem pa_one {ta : TE} (ha : PE X e ta) (hs : starEach [e] X.env = (false, eval e X.env) :: starEach [] X.env := by rfl) : PA X [e] (tCons ta tNil) := pa_cons ha pa_nil hs
theorem se1 {r : List V → Hp → VK → Prop} {p : D → M D} (hp : C1J X E r p) : ∀ σ H Q, Se X E H0 (rRep X.K) (e1 p f) σ H Q → tCB r (tCons (Se X E H0 (rBRep X.K) f) tNil) σ H Q := by
  intro σ H Q ⟨G, μ, st, ρ, w, er, q⟩
  refine ⟨G, μ, st, ρ, w, er, Post.bind q fun dx st1 x H1 G1 μ1 w1 s1 r1 q1 => ?_⟩
  exact hp H1 G1 μ1 st1 x dx Q w1 r1.weak q1
theorem je_callB {x : Str} {id : String} {p0 : Pos} {r : List V → Hp → VK → Prop} {p : D → M D} (hc : CallR X (.builtin id) r) (hp : C1J X E r p) (hg : Gl X x) (hm : X.mg x = none) (hv : bootBuiltins x = some (.builtin id)) (ha : JB X E H0 f e) (hn : x ≠ "__name__" := by decide) (hdb : (x == ("__debug__" : Str)) = false := by decide)
    (hs : starEach [e] X.env = (false, eval e X.env) :: starEach [] X.env := by rfl) (hpl : (backTo pos (starEach [] X.env)).any (·.1) = false := by rfl) : JE X E H0 (e1 p f) (.Call (.Name x p0) [e] [] pos) :=
  PE.imp (pe_callB hc hg hm hv (pa_one ha hs) hn hdb hs hpl) (se1 hp)
theorem je_callTy {x : Str} {T : String} {p0 : Pos} {r : List V → Hp → VK → Prop} {p : D → M D} (hc : CallR X (.type T) r) (hp : C1J X E r p) (hg : Gl X x) (hm : X.mg x = none) (hv : bootBuiltins x = some (.type T)) (ha : JB X E H0 f e) (hn : x ≠ "__name__" := by decide) (hdb : (x == ("__debug__" : Str)) = false := by decide)
    (hs : starEach [e] X.env = (false, eval e X.env) :: starEach [] X.env := by rfl) (hpl : (backTo pos (starEach [] X.env)).any (·.1) = false := by rfl) : JE X E H0 (e1 p f) (.Call (.Name x p0) [e] [] pos) :=
  PE.imp (pe_callTy hc hg hm hv (pa_one ha hs) hn hdb hs hpl) (se1 hp)
/-! ### tests -/
def tBl (f : En → M D) : En → M Bool := fun ρ => (f ρ).bind fun d => match d with
  | .bl b => M.pure b
  | _ => M.bad
/-- a test by an expression that gives a bool -/
theorem jt_val (ha : JE X E H0 f e) (he : ∀ whole, isTrue e X.env whole = (do let v ← whole; standAt e.pos; holding [v] (truthy v)) := by intro _; rfl) : JT X E H0 (tBl f) e := by
  refine PT.imp (pt_val ha he) fun σ H Q ⟨G, μ, st, ρ, w, er, q⟩ => ?_
  refine ⟨G, μ, st, ρ, w, er, Post.bind q fun d st1 x H1 G1 μ1 w1 s1 r1 q1 => ?_⟩
  cases r1 with
  | bl b => exact ⟨b, rfl, q1 _ _ _ _ w1 .refl rfl⟩
  | _ => exact q1.elim
/-- a comparison as a test -/
theorem jt_cmp {op : CmpOp} {r : R2} {p : D → D → M D} (ho : OpR X (compareOp op) r) (hp : OpJ X E r p) (ha : JB X E H0 f a) (hb : JB X E H0 g b) (hm : behindInMarks op b = false) : JT X E H0 (tBl (e2 p f g)) (.Compare a [op] [b] pos) := by
  refine PT.imp (pt_cmpR ho ha hb hm) fun σ H Q ⟨G, μ, st, ρ, w, er, q⟩ => ?_
  refine se2 (f := f) (g := g) (p := p) (E := E) (H0 := H0) hp (fun _ _ _ h => h) (fun _ _ _ h => h) _ _ _ ⟨G, μ, st, ρ, w, er, Post.bind q fun d st1 x H1 G1 μ1 w1 s1 r1 q1 => ?_⟩
  cases r1 with
  | bl b => exact ⟨b, rfl, q1 _ _ _ _ w1 .refl rfl⟩
  | _ => exact q1.elim
def tNt (t : En → M Bool) : En → M Bool := fun ρ => (t ρ).bind fun b => M.pure (!b)
def tAn (t u : En → M Bool) : En → M Bool := fun ρ => (t ρ).bind fun b => if b = true then u ρ else M.pure false
def tOor (t u : En → M Bool) : En → M Bool := fun ρ => (t ρ).bind fun b => if b = true then M.pure true else u ρ
def JW (X : Cx) (E : XK) (H0 : Hp) (f : En → M Bool) (e : Expr) : Prop := PW X e (Se X E H0 rTrue f)
variable {t u : En → M Bool} {rest : List Expr}
theorem PW.imp {e : Expr} {t t' : TT} (h : PW X e t) (q : ∀ σ H Q, t' σ H Q → t σ H Q) : PW X e t' := ⟨fun wh pins s σ H Q I x => h.run wh pins s σ H Q I (q _ _ _ x)⟩
theorem JW.jt (h : JW X E H0 t e) : JT X E H0 t e := PW.pt h
theorem jt_not (ha : JT X E H0 t a) : JT X E H0 (tNt t) (.UnaryOp .Not a pos) := PT.imp (pt_not ha) fun σ H Q ⟨G, μ, st, ρ, w, er, q⟩ =>
  ⟨G, μ, st, ρ, w, er, Post.bind q fun d st1 x H1 G1 μ1 w1 s1 r1 q1 => by cases r1; exact q1 _ _ _ _ w1 .refl rfl⟩
theorem jw_and1 (ha : JT X E H0 t a) : JW X E H0 t (.BoolOp .And [a] pos) := pw_and1 ha
theorem jw_or1 (ha : JT X E H0 t a) : JW X E H0 t (.BoolOp .Or [a] pos) := pw_or1 ha
theorem jw_and (ha : JT X E H0 t a) (hb : JW X E H0 u (.BoolOp .And (b :: rest) pos)) : JW X E H0 (tAn t u) (.BoolOp .And (a :: b :: rest) pos) := PW.imp (pw_and ha hb) fun σ H Q ⟨G, μ, st, ρ, w, er, q⟩ =>
  ⟨G, μ, st, ρ, w, er, Post.bind q fun d st1 x H1 G1 μ1 w1 s1 r1 q1 => by
    cases r1
    cases d with
    | true => exact ⟨G1, μ1, st1, ρ, w1, er.step s1, q1⟩
    | false => exact q1 _ _ _ _ w1 .refl rfl⟩
theorem jw_or (ha : JT X E H0 t a) (hb : JW X E H0 u (.BoolOp .Or (b :: rest) pos)) : JW X E H0 (tOor t u) (.BoolOp .Or (a :: b :: rest) pos) := PW.imp (pw_or ha hb) fun σ H Q ⟨G, μ, st, ρ, w, er, q⟩ =>
  ⟨G, μ, st, ρ, w, er, Post.bind q fun d st1 x H1 G1 μ1 w1 s1 r1 q1 => by
    cases r1
    cases d with
    | false => exact ⟨G1, μ1, st1, ρ, w1, er.step s1, q1⟩
    | true => exact q1 _ _ _ _ w1 .refl rfl⟩
/-! ### .. as values -/
def vAnd (f g : En → M D) : En → M D := fun ρ => (f ρ).bind fun d => match d with
  | .bl true => g ρ
  | .bl false => M.pure (.bl false)
  | _ => M.bad
def vOr (f g : En → M D) : En → M D := fun ρ => (f ρ).bind fun d => match d with
  | .bl true => M.pure (.bl true)
  | .bl false => g ρ
  | _ => M.bad
def vNot (f : En → M D) : En → M D := fun ρ => (f ρ).bind fun d => match d with
  | .bl b => M.pure (.bl (!b))
  | _ => M.bad
theorem je_one {op : BoolOp} (h : JE X E H0 f a) : JE X E H0 f (.BoolOp op [a] pos) := pe_one h
theorem je_and (ha : JE X E H0 f a) (hb : JE X E H0 g (.BoolOp .And (b :: rest) pos)) : JE X E H0 (vAnd f g) (.BoolOp .And (a :: b :: rest) pos) := PE.imp (pe_and ha hb) fun σ H Q ⟨G, μ, st, ρ, w, er, q⟩ =>
  ⟨G, μ, st, ρ, w, er, Post.bind q fun d st1 x H1 G1 μ1 w1 s1 r1 q1 => by
    cases r1 with
    | bl b =>
      refine ⟨b, rfl, ?_⟩
      cases b with
      | true => exact ⟨G1, μ1, st1, ρ, w1, er.step s1, q1⟩
      | false => exact q1 _ _ _ _ w1 .refl (.bl false)
    | _ => exact q1.elim⟩
theorem je_not (ha : JE X E H0 f a) : JE X E H0 (vNot f) (.UnaryOp .Not a pos) := PE.imp (pe_not ha) fun σ H Q ⟨G, μ, st, ρ, w, er, q⟩ =>
  ⟨G, μ, st, ρ, w, er, Post.bind q fun d st1 x H1 G1 μ1 w1 s1 r1 q1 => by
    cases r1 with
    | bl b => exact ⟨b, rfl, q1 _ _ _ _ w1 .refl (.bl _)⟩
    | _ => exact q1.elim⟩
def eIf (t : En → M Bool) (f g : En → M D) : En → M D := fun ρ => (t ρ).bind fun b => if b = true then f ρ else g ρ
theorem je_if {c : Expr} (hc : JT X E H0 t c) (ha : JE X E H0 f a) (hb : JE X E H0 g b) : JE X E H0 (eIf t f g) (.IfExp c a b pos) := PE.imp (pe_ifExp hc ha hb) fun σ H Q ⟨G, μ, st, ρ, w, er, q⟩ =>
  ⟨G, μ, st, ρ, w, er, Post.bind q fun d st1 x H1 G1 μ1 w1 s1 r1 q1 => by
    cases r1
    cases d with
    | true => exact ⟨G1, μ1, st1, ρ, w1, er.step s1, q1⟩
    | false => exact ⟨G1, μ1, st1, ρ, w1, er.step s1, q1⟩⟩
end
end PL
set_option linter.all false
set_option maxRecDepth 100000
set_option maxHeartbeats 4000000
/-! PL3: lists that are made; statements; defs. -/
namespace PL
open PySem PySem.Spec L2
variable {wW : World}
section
variable {K : PySem.W.Frag} {H G H1 G1 H0 : Hp} {μ μ1 : Mu} {st : Sto} {ρ : En} {σ : L2.St} {v : V} {d : D}
/-- a list goes out of its owner's hands: it is fixed from now on -/
theorem Wd.freeze (w : Wd wW K H G μ st) {a : Addr} {o : HO} (h : H a = some o) (g : G a = none) (n : ∀ k, μ k ≠ some a) : Wd wW K H (upd G a o) μ st := by
  have sg : Sub G (upd G a o) := fun b u e => by rw [upd_ne (ne_of_none e g)]; exact e
  refine ⟨fun b u e => ?_, fun k x e => ?_, w.inj, w.dom⟩
  · by_cases hb : b = a
    · subst hb; rw [upd_same] at e; cases e; exact h
    · rw [upd_ne hb] at e; exact w.imm _ _ e
  · obtain ⟨b, h1, h2, h3⟩ := w.obj k x e
    have ne : b ≠ a := fun z => n k (z ▸ h1)
    exact ⟨b, h1, by rw [upd_ne ne]; exact h2, h3.mono sg (fun _ _ h => h) fun _ h => h⟩
theorem Stp.freeze (s : Stp H G μ H1 G1 μ1) {a : Addr} {o : HO} (g : G1 a = none) (h0 : H a = none) : Stp H G μ H1 (upd G1 a o) μ1 :=
  ⟨fun b u e => by rw [upd_ne (ne_of_none (s.g _ _ e) g)]; exact s.g _ _ e, s.m, s.fr, s.th, fun b e n => by
    by_cases hb : b = a
    · rw [hb]; exact h0
    · rw [upd_ne hb] at n; exact s.ng b e n, s.nm⟩
theorem subUpd {a : Addr} {o : HO} (g : G a = none) : Sub G (upd G a o) := fun b u e => by rw [upd_ne (ne_of_none e g)]; exact e
/-- an object out of the store and out of the fixed part is written -/
theorem Wd.over (w : Wd wW K H G μ st) {a : Addr} {o : HO} (g : G a = none) (n : ∀ k, μ k ≠ some a) : Wd wW K (upd H a o) G μ st := by
  refine ⟨fun b u e => ?_, fun k x e => ?_, w.inj, w.dom⟩
  · rw [upd_ne (fun z => by rw [z, g] at e; cases e)]; exact w.imm _ _ e
  · obtain ⟨b, h1, h2, h3⟩ := w.obj k x e
    have ne : b ≠ a := fun z => n k (z ▸ h1)
    exact ⟨b, h1, h2, h3.mono (fun _ _ h => h) (fun _ _ h => h) fun v hv => by rw [upd_ne ne]; exact hv⟩
theorem Stp.over (s : Stp H G μ H1 G1 μ1) {a : Addr} {o : HO} (h0 : H a = none) : Stp H G μ (upd H1 a o) G1 μ1 :=
  ⟨s.g, s.m, fun b u e n => by rw [upd_ne (ne_of_none e h0)]; exact s.fr b u e n, fun b u e => by
    obtain ⟨u', h'⟩ := s.th b u e
    by_cases hb : b = a
    · subst hb; exact ⟨o, upd_same⟩
    · exact ⟨u', by rw [upd_ne hb]; exact h'⟩, s.ng, s.nm⟩
theorem ER.set (e : ER K H G μ H0 ρ σ) {i : Nat} (hi : i < ρ.length) (r : Rep K G μ v d) : ER K H G μ H0 (ρ.set i (.val d)) (σ.set i (some v)) where
  val := fun j d' q => by
    by_cases h : i = j
    · subst h
      rw [List.getElem?_set_self hi] at q
      cases q
      exact ⟨v, List.getElem?_set_self (by rw [← e.len]; exact hi), r⟩
    · rw [List.getElem?_set_ne h] at q
      rw [List.getElem?_set_ne h]
      exact e.val j d' q
  own := fun j ds q => by
    by_cases h : i = j
    · subst h
      rw [List.getElem?_set_self hi] at q
      cases q
    · rw [List.getElem?_set_ne h] at q
      rw [List.getElem?_set_ne h]
      exact e.own j ds q
  inj := fun j k ds es a q1 q2 z1 z2 => by
    by_cases h : i = j
    · subst h
      rw [List.getElem?_set_self hi] at q1
      cases q1
    · by_cases h' : i = k
      · subst h'
        rw [List.getElem?_set_self hi] at q2
        cases q2
      · rw [List.getElem?_set_ne h] at q1 z1
        rw [List.getElem?_set_ne h'] at q2 z2
        exact e.inj j k ds es a q1 q2 z1 z2
  len := by rw [List.length_set, List.length_set]; exact e.len
  old := e.old
/-- a slot takes a list that was made -/
theorem ER.setOwn (e : ER K H G μ H0 ρ σ) {i : Nat} (hi : i < ρ.length) {a : Addr} {vs : List V} {ds : List D} (h : H a = some (.lst vs)) (r : RepL K G μ vs ds) (g : G a = none) (n : ∀ k, μ k ≠ some a) (h0 : H0 a = none)
    (fresh : ∀ (j : Nat) es, ρ[j]? = some (.own es) → σ[j]? ≠ some (some (.ref a))) : ER K H G μ H0 (ρ.set i (.own ds)) (σ.set i (some (.ref a))) where
  val := fun j d' q => by
    by_cases h : i = j
    · subst h
      rw [List.getElem?_set_self hi] at q
      cases q
    · rw [List.getElem?_set_ne h] at q
      rw [List.getElem?_set_ne h]
      exact e.val j d' q
  own := fun j ds' q => by
    by_cases hj : i = j
    · subst hj
      rw [List.getElem?_set_self hi] at q
      cases q
      exact ⟨a, vs, List.getElem?_set_self (by rw [← e.len]; exact hi), h, r, g, n, h0⟩
    · rw [List.getElem?_set_ne hj] at q
      rw [List.getElem?_set_ne hj]
      exact e.own j ds' q
  inj := fun j k es fs b q1 q2 z1 z2 => by
    have hi' : i < σ.length := by rw [← e.len]; exact hi
    by_cases hj : i = j <;> by_cases hk : i = k
    · exact hj.symm.trans hk
    · subst hj
      rw [List.getElem?_set_self hi'] at z1
      rw [List.getElem?_set_ne hk] at q2 z2
      cases z1
      exact absurd z2 (fresh k fs q2)
    · subst hk
      rw [List.getElem?_set_self hi'] at z2
      rw [List.getElem?_set_ne hj] at q1 z1
      cases z2
      exact absurd z1 (fresh j es q1)
    · rw [List.getElem?_set_ne hj] at q1 z1
      rw [List.getElem?_set_ne hk] at q2 z2
      exact e.inj j k es fs b q1 q2 z1 z2
  len := by rw [List.length_set, List.length_set]; exact e.len
  old := e.old
/-- slot i gives its list out -/
theorem ER.freeze (e : ER K H G μ H0 ρ σ) {i : Nat} {ds : List D} (hi : ρ[i]? = some (.own ds)) {a : Addr} {vs : List V} (ha : σ[i]? = some (some (.ref a))) (h : H a = some (.lst vs)) (r : RepL K G μ vs ds) (g : G a = none) :
    ER K H (upd G a (.lst vs)) μ H0 (ρ.set i (.val (.lst ds))) σ where
  val := fun j d' q => by
    have hl := (List.getElem?_eq_some_iff.mp hi).1
    by_cases h : i = j
    · subst h
      rw [List.getElem?_set_self hl] at q
      cases q
      exact ⟨_, ha, .lst upd_same (r.mono (subUpd g) fun _ _ h => h)⟩
    · rw [List.getElem?_set_ne h] at q
      obtain ⟨v, h1, h2⟩ := e.val j d' q
      exact ⟨v, h1, h2.mono (subUpd g) fun _ _ h => h⟩
  own := fun j es q => by
    have hl := (List.getElem?_eq_some_iff.mp hi).1
    by_cases hj : i = j
    · subst hj
      rw [List.getElem?_set_self hl] at q
      cases q
    · rw [List.getElem?_set_ne hj] at q
      obtain ⟨b, ws, h1, h2, h3, h4, h5, h6⟩ := e.own j es q
      refine ⟨b, ws, h1, h2, h3.mono (subUpd g) fun _ _ h => h, ?_, h5, h6⟩
      rw [upd_ne (fun z => hj (e.inj i j ds es a hi q ha (by rw [h1, z])))]
      exact h4
  inj := fun j k es fs b q1 q2 z1 z2 => by
    have hl := (List.getElem?_eq_some_iff.mp hi).1
    by_cases hj : i = j
    · subst hj
      rw [List.getElem?_set_self hl] at q1
      cases q1
    · by_cases hk : i = k
      · subst hk
        rw [List.getElem?_set_self hl] at q2
        cases q2
      · rw [List.getElem?_set_ne hj] at q1
        rw [List.getElem?_set_ne hk] at q2
        exact e.inj j k es fs b q1 q2 z1 z2
  len := by rw [List.length_set]; exact e.len
  old := e.old
end
/-! ### lists that are made -/
/-- an expression that makes a list -/
def JF (X : Cx) (E : XK) (H0 : Hp) (f : En → M (List D)) (e : Expr) : Prop := PE X e (Se X E H0 (rFresh X.K) f)
def eL (f : En → M (List D)) : En → M D := fun ρ => (f ρ).bind fun ds => M.pure (.lst ds)
section
variable {X : Cx} {E : XK} {H0 : Hp} {e a b : Expr} {f g : En → M D} {fl : En → M (List D)} {pos : Pos}
/-- .. given out at once -/
theorem JF.je (h : JF X E H0 fl e) : JE X E H0 (eL fl) e := PE.imp h fun σ H Q ⟨G, μ, st, ρ, w, er, q⟩ =>
  ⟨G, μ, st, ρ, w, er, Post.raw q fun ds st1 v H1 G1 μ1 w1 s1 r1 q1 => by
    obtain ⟨a, vs, rfl, h1, h2, h3, h4, h5⟩ := r1
    exact q1 _ _ _ _ (w1.freeze h1 h3 h4) (s1.freeze h3 h5) (.lst upd_same (h2.mono (subUpd h3) fun _ _ h => h))⟩
/-- a list display that stays in its maker's hands -/
def fLst (g : En → M (List D)) : En → M (List D) := fun ρ => (g ρ).bind fun xs => (line xs.length).bind fun _ => M.pure xs
theorem jf_lst {es : List Expr} {g : En → M (List D)} (h : JA X E H0 g es) : JF X E H0 (fLst g) (.List es pos) := by
  refine PE.imp (pe_lst h) fun σ H Q ⟨G, μ, st, ρ, w, er, q⟩ => ?_
  refine ⟨G, μ, st, ρ, w, er, Post.bind q fun ds st1 xs H1 G1 μ1 w1 s1 r1 q1 => ?_⟩
  obtain ⟨hl, q1⟩ := q1.line
  refine ⟨by rw [RepL.length r1]; exact hl, fun p hp => ?_⟩
  obtain ⟨w2, s2⟩ := w1.lay (o := .lst xs) hp
  have gp : G1 p = none := none_before w1.imm.th hp
  refine q1 _ _ _ _ w2 s2 ⟨p, xs, rfl, upd_same, r1, gp, fun k e => ?_, hp⟩
  obtain ⟨b, h1, _, h3⟩ := w1.obj k _ (List.getElem?_eq_getElem (w1.dom k p e))
  rw [e] at h1; cases h1
  obtain ⟨u, hu⟩ := h3.there
  rw [hp] at hu; cases hu
/-! ### statements -/
structure Ent where
  H : Hp
  G : Hp
  μ : Mu
inductive Fl where
  | nx | ret (d : D) | brk | ct
/-- what is wanted behind a statement, from the def's entry Φ on -/
def PostS (X : Cx) (E : XK) (Φ : Ent) (Dn : Ends) (r : Res (Fl × En)) : Prop :=
  match r with
  | .ok (fl, ρ') st' => ∀ σ' H' G' μ', Wd X.w X.K H' G' μ' st' → ER X.K H' G' μ' Φ.H ρ' σ' → Stp Φ.H Φ.G Φ.μ H' G' μ' → match fl with
    | .nx => Dn.nx σ' H'
    | .brk => Dn.bk σ' H'
    | .ct => Dn.ct σ' H'
    | .ret d => ∀ v, Rep X.K G' μ' v d → Dn.rt v H'
  | .err x st' => ∀ c dd H' G' μ', Wd X.w X.K H' G' μ' st' → Stp Φ.H Φ.G Φ.μ H' G' μ' → XRep X.K X.mg G' μ' x c dd H' → E c dd H'
  | .bad => False
def SeS (X : Cx) (E : XK) (Φ : Ent) (f : En → M (Fl × En)) : TS := fun Dn σ H =>
  ∃ G μ st ρ, Wd X.w X.K H G μ st ∧ ER X.K H G μ Φ.H ρ σ ∧ Stp Φ.H Φ.G Φ.μ H G μ ∧ PostS X E Φ Dn (f ρ st)
def JS (X : Cx) (E : XK) (Φ : Ent) (f : En → M (Fl × En)) (st : Stmt) : Prop := PS X st (SeS X E Φ f)
def JSs (X : Cx) (E : XK) (Φ : Ent) (f : En → M (Fl × En)) (st : List Stmt) : Prop := PSs X st (SeS X E Φ f)
section
variable {Φ : Ent} {Dn : Ends} {G H : Hp} {μ : Mu}
/-- the way from an expression into what follows in the def -/
theorem PostS.bind {γ δ : Type} {R2 : RR δ γ} {m : M γ} {k : γ → M (Fl × En)} {st : Sto} {Q2 : δ → Hp → Prop} (p : PostS X E Φ Dn (m.bind k st)) (s : Stp Φ.H Φ.G Φ.μ H G μ)
    (h : ∀ a st' v H' G' μ', Wd X.w X.K H' G' μ' st' → Stp H G μ H' G' μ' → Stp Φ.H Φ.G Φ.μ H' G' μ' → R2.r H H' G' μ' v a → PostS X E Φ Dn (k a st') → Q2 v H') : Post X.w X.K X.mg E R2 H G μ (m st) Q2 := by
  unfold M.bind at p
  cases e : m st with
  | ok a st' =>
    rw [e] at p
    exact fun v H' G' μ' w t q => h a st' v H' G' μ' w t (s.trans t) q p
  | err x st' =>
    rw [e] at p
    exact fun c dd H' G' μ' w t q => p c dd H' G' μ' w (s.trans t) q
  | bad => rw [e] at p; exact p
theorem PostS.nx {ρ : En} {st : Sto} {σ' : L2.St} {H' G' : Hp} {μ' : Mu} (p : PostS X E Φ Dn (M.pure (Fl.nx, ρ) st)) (w : Wd X.w X.K H' G' μ' st) (er : ER X.K H' G' μ' Φ.H ρ σ') (s : Stp Φ.H Φ.G Φ.μ H' G' μ') : Dn.nx σ' H' := p σ' H' G' μ' w er s
end
def sNil : En → M (Fl × En) := fun ρ => M.pure (.nx, ρ)
def sSeq (f g : En → M (Fl × En)) : En → M (Fl × En) := fun ρ => (f ρ).bind fun r => match r.1 with
  | .nx => g r.2
  | _ => M.pure r
section
variable {Φ : Ent} {s1 s2 : En → M (Fl × En)} {st0 : Stmt} {rest : List Stmt} {t : En → M Bool}
theorem jss_nil : JSs X E Φ sNil [] := PSs.imp pss_nil fun Dn σ H ⟨G, μ, st, ρ, w, er, s, p⟩ => p σ H G μ w er s
theorem seq_ok {Dn : Ends} {σ : L2.St} {H : Hp} (h : SeS X E Φ (sSeq s1 s2) Dn σ H) : SeS X E Φ s1 { Dn with nx := SeS X E Φ s2 Dn } σ H := by
  obtain ⟨G, μ, st, ρ, w, er, s, p⟩ := h
  refine ⟨G, μ, st, ρ, w, er, s, ?_⟩
  unfold sSeq M.bind at p
  cases e : s1 ρ st with
  | ok a st' =>
    rw [e] at p
    obtain ⟨fl, ρ'⟩ := a
    intro σ' H' G' μ' w' er' s'
    cases fl with
    | nx => exact ⟨G', μ', st', ρ', w', er', s', p⟩
    | ret d => exact p σ' H' G' μ' w' er' s'
    | brk => exact p σ' H' G' μ' w' er' s'
    | ct => exact p σ' H' G' μ' w' er' s'
  | err x st' => rw [e] at p; exact p
  | bad => rw [e] at p; exact p
theorem jss_cons (h1 : JS X E Φ s1 st0) (h2 : JSs X E Φ s2 rest) : JSs X E Φ (sSeq s1 s2) (st0 :: rest) := PSs.imp (pss_cons h1 h2) fun _ _ _ h => seq_ok h
theorem jss_one (h1 : JS X E Φ s1 st0) : JSs X E Φ s1 [st0] := pss_one h1
def sPass : En → M (Fl × En) := fun ρ => M.pure (.nx, ρ)
/-- an expression whose value is dropped -/
def sExpr (f : En → M D) : En → M (Fl × En) := fun ρ => (f ρ).bind fun _ => M.pure (.nx, ρ)
theorem js_expr (he : JB X E Φ.H f e) (hs : swapsWith e none pos.line X.env = pure false := by rfl) : JS X E Φ (sExpr f) (.Expr e pos) := PS.imp (ps_expr he hs) fun Dn σ H ⟨G, μ, st, ρ, w, er, s, p⟩ =>
  ⟨G, μ, st, ρ, w, er, p.bind s fun a st' v H' G' μ' w' s' t' r q => q.nx w' (er.step s') t'⟩
def sRet (f : En → M D) : En → M (Fl × En) := fun ρ => (f ρ).bind fun d => M.pure (.ret d, ρ)
theorem js_ret (he : JE X E Φ.H f e) : JS X E Φ (sRet f) (.Return (some e) pos) := PS.imp (ps_ret he) fun Dn σ H ⟨G, μ, st, ρ, w, er, s, p⟩ =>
  ⟨G, μ, st, ρ, w, er, p.bind s fun a st' v H' G' μ' w' s' t' r q => q σ H' G' μ' w' (er.step s') t' v r⟩
/-- i < length: the slot is there -/
def put (i : Nat) (x : Slot) (ρ : En) : M (Fl × En) := if i < ρ.length then M.pure (.nx, ρ.set i x) else M.bad
def sSet (i : Nat) (f : En → M D) : En → M (Fl × En) := fun ρ => (f ρ).bind fun d => put i (.val d) ρ
theorem put_val {i : Nat} {d : D} {v : V} {ρ : En} {σ : L2.St} {st : Sto} {H G : Hp} {μ : Mu} {Dn : Ends} (p : PostS X E Φ Dn (put i (.val d) ρ st)) (w : Wd X.w X.K H G μ st) (er : ER X.K H G μ Φ.H ρ σ) (s : Stp Φ.H Φ.G Φ.μ H G μ) (r : Rep X.K G μ v d) : Dn.nx (σ.set i (some v)) H := by
  unfold put at p
  by_cases h : i < ρ.length
  · rw [if_pos h] at p
    exact p.nx w (er.set h r) s
  · rw [if_neg h] at p
    exact p.elim
theorem js_set {i : Nat} {x : Str} {p' : Pos} (hN : X.N.Nodup) (hi : X.N[i]? = some x) (hx : Loc X.env.scope x) (he : JE X E Φ.H f e) (hs : swapsWith e (some (.Name x p')) pos.line X.env = pure false := by rfl) (hf : X.fn x = true ∨ X.env.scope.names.lookup x = some .local := by first | exact .inl rfl | exact .inr rfl | assumption) :
    JS X E Φ (sSet i f) (.Assign [.Name x p'] e pos) := PS.imp (ps_set hN hi hx he hs hf) fun Dn σ H ⟨G, μ, st, ρ, w, er, s, p⟩ =>
  ⟨G, μ, st, ρ, w, er, p.bind s fun a st' v H' G' μ' w' s' t' r q => put_val q w' (er.step s') t' r⟩
def sOwn (i : Nat) (f : En → M (List D)) : En → M (Fl × En) := fun ρ => (f ρ).bind fun ds => put i (.own ds) ρ
theorem put_own {i : Nat} {ds : List D} {v : V} {ρ : En} {σ : L2.St} {st : Sto} {H0 H G G0 : Hp} {μ μ0 : Mu} {Dn : Ends} (p : PostS X E Φ Dn (put i (.own ds) ρ st)) (w : Wd X.w X.K H G μ st) (er0 : ER X.K H0 G0 μ0 Φ.H ρ σ) (s : Stp H0 G0 μ0 H G μ) (s0 : Stp Φ.H Φ.G Φ.μ H0 G0 μ0)
    (r : Fresh X.K H0 H G μ v ds) : Dn.nx (σ.set i (some v)) H := by
  unfold put at p
  obtain ⟨a, vs, rfl, h1, h2, h3, h4, h5⟩ := r
  by_cases h : i < ρ.length
  · rw [if_pos h] at p
    refine p.nx w ((er0.step s).setOwn h h1 h2 h3 h4 (none_before s0.th h5) fun j es q z => ?_) (s0.trans s)
    obtain ⟨b, ws, z1, z2, _⟩ := er0.own j es q
    rw [z] at z1; cases z1
    rw [h5] at z2; cases z2
  · rw [if_neg h] at p
    exact p.elim
theorem js_own {i : Nat} {x : Str} {p' : Pos} (hN : X.N.Nodup) (hi : X.N[i]? = some x) (hx : Loc X.env.scope x) (he : JF X E Φ.H fl e) (hs : swapsWith e (some (.Name x p')) pos.line X.env = pure false := by rfl) (hf : X.fn x = true ∨ X.env.scope.names.lookup x = some .local := by first | exact .inl rfl | exact .inr rfl | assumption) :
    JS X E Φ (sOwn i fl) (.Assign [.Name x p'] e pos) := PS.imp (ps_set hN hi hx he hs hf) fun Dn σ H ⟨G, μ, st, ρ, w, er, s, p⟩ =>
  ⟨G, μ, st, ρ, w, er, p.bind s fun a st' v H' G' μ' w' s' t' r q => put_own q w' er s' s r⟩
/-- slot i gives its list out, ahead of a statement -/
def frz1 (i : Nat) (ρ : En) : En := match ρ[i]? with
  | some (.own ds) => ρ.set i (.val (.lst ds))
  | _ => ρ
def sFrz (i : Nat) (f : En → M (Fl × En)) : En → M (Fl × En) := fun ρ => f (frz1 i ρ)
theorem frz_ok {i : Nat} {Dn : Ends} {σ : L2.St} {H : Hp} (h : SeS X E Φ (sFrz i s1) Dn σ H) : SeS X E Φ s1 Dn σ H := by
  obtain ⟨G, μ, st, ρ, w, er, s, p⟩ := h
  unfold sFrz frz1 at p
  cases q : ρ[i]? with
  | none => rw [q] at p; exact ⟨G, μ, st, ρ, w, er, s, p⟩
  | some x =>
    rw [q] at p
    cases x with
    | no => exact ⟨G, μ, st, ρ, w, er, s, p⟩
    | val d => exact ⟨G, μ, st, ρ, w, er, s, p⟩
    | own ds =>
      obtain ⟨a, vs, h1, h2, h3, h4, h5, h6⟩ := er.own i ds q
      exact ⟨upd G a (.lst vs), μ, st, _, w.freeze h2 h4 h5, er.freeze q h1 h2 h3 h4, s.freeze h4 h6, p⟩
theorem js_frz {i : Nat} (h : JS X E Φ s1 st0) : JS X E Φ (sFrz i s1) st0 := PS.imp h fun _ _ _ x => frz_ok x
def sIf (t : En → M Bool) (f g : En → M (Fl × En)) : En → M (Fl × En) := fun ρ => (t ρ).bind fun b => if b = true then f ρ else g ρ
theorem js_if {c : Expr} {as bs : List Stmt} (hc : JT X E Φ.H t c) (ha : JSs X E Φ s1 as) (hb : JSs X E Φ s2 bs) : JS X E Φ (sIf t s1 s2) (.If c as bs pos) := PS.imp (ps_if hc ha hb) fun Dn σ H ⟨G, μ, st, ρ, w, er, s, p⟩ =>
  ⟨G, μ, st, ρ, w, er, p.bind s fun a st' v H' G' μ' w' s' t' r q => by
    cases r
    cases a with
    | true => exact ⟨G', μ', st', ρ, w', er.step s', t', q⟩
    | false => exact ⟨G', μ', st', ρ, w', er.step s', t', q⟩⟩
end
end
end PL
set_option linter.all false
set_option maxRecDepth 100000
set_option maxHeartbeats 4000000
/-! PL4: calls of own defs, a def by its body, targets, what is walked, for, list comprehensions, append and extend. -/
namespace PL
open PySem PySem.Spec L2
variable {wW : World}
/-! ### a def's promise: it does sem -/
def SpOf (wW : World) (K : PySem.W.Frag) (mg : Str → Option Value) (n : Nat) (sem : List D → M D) : Sp := fun vs H Q E =>
  ∃ G μ st ds, Wd wW K H G μ st ∧ RepL K G μ vs ds ∧ ds.length = n ∧ Post wW K mg E (rRep K) H G μ (sem ds st) Q
/-- no exception -/
def xNo : XK := fun _ _ _ => False
section
variable {X : Cx} {E : XK} {H0 : Hp} {e a b : Expr} {f g : En → M D} {es : List Expr} {ga : En → M (List D)} {pos p : Pos} {x : Str}
def eCall (n : Nat) (sem : List D → M D) (g : En → M (List D)) : En → M D := fun ρ => (g ρ).bind fun ds => if ds.length = n then sem ds else M.bad
theorem se_call {n : Nat} {sem : List D → M D} : ∀ σ H Q, Se X E H0 (rRep X.K) (eCall n sem ga) σ H Q → tCall (SpOf X.w X.K X.mg n sem) [] E (Se X E H0 (rRepL X.K) ga) σ H Q := by
  intro σ H Q ⟨G, μ, st, ρ, w, er, q⟩
  refine ⟨G, μ, st, ρ, w, er, Post.bind q fun ds st1 vs H1 G1 μ1 w1 s1 r1 q1 => ?_⟩
  by_cases h : ds.length = n
  · rw [if_pos h] at q1
    exact ⟨G1, μ1, st1, ds, w1, by rw [List.append_nil]; exact r1, h, q1⟩
  · rw [if_neg h] at q1
    exact q1.elim
theorem je_call {k n : Nat} {fa : Addr} {fd : FuncData} {ps : List Str} {sem : List D → M D} (F : FnOk X.prog X.w X.K X.mg X.base (L2.CX X.prog X.w) k fa fd ps (SpOf X.w X.K X.mg n sem)) (hr : Room k X.A) (hg : Gl X x) (hm : X.mg x = some (.ref fa)) (hk : PySem.W.keepIn X.K (.ref fa) = true) (hb : Binds X.K fd ps [])
    (hx : Passes (L2.CX X.prog X.w) X E) (ha : JA X E H0 ga (e :: es)) (hdb : (x == ("__debug__" : Str)) = false := by decide) (he : starEach (e :: es) X.env = (false, eval e X.env) :: starEach es X.env := by rfl) (hpl : (backTo pos (starEach es X.env)).any (·.1) = false := by rfl) :
    JE X E H0 (eCall n sem ga) (.Call (.Name x p) (e :: es) [] pos) := PE.imp (pe_call F hr hg hm hk hb .nil hx ha hdb he hpl) se_call
end
/-! ### a def by its body -/
section
variable {P : Program} {w : World} {K : PySem.W.Frag} {mg : Str → Option Value} {base : Heap}
/-- what a body does, run as a call -/
def runB (m : Nat) (f : En → M (Fl × En)) : List D → M D := fun ds => (f (ds.map Slot.val ++ List.replicate (m - ds.length) Slot.no)).bind fun r => match r.1 with
  | .ret d => M.pure d
  | .nx => M.pure .non
  | _ => M.bad
theorem er_start {N : List Str} {H G : Hp} {μ : Mu} {vs : List V} {ds : List D} (r : RepL K G μ vs ds) : ER K H G μ H (ds.map Slot.val ++ List.replicate (N.length - ds.length) Slot.no) (L2.start N vs) where
  val := fun i d q => by
    have hl := RepL.length r
    by_cases h : i < ds.length
    · rw [List.getElem?_append_left (by simpa using h), List.getElem?_map] at q
      cases e : ds[i]? with
      | none => rw [e] at q; cases q
      | some d' =>
        rw [e] at q; cases q
        obtain ⟨v, h1, h2⟩ := r.get e
        refine ⟨v, ?_, h2⟩
        unfold L2.start
        rw [List.getElem?_append_left (by simp [hl, h]), List.getElem?_map, h1]; rfl
    · rw [List.getElem?_append_right (by simpa using h), List.getElem?_replicate] at q
      split at q <;> cases q
  own := fun i d q => by
    by_cases h : i < ds.length
    · rw [List.getElem?_append_left (by simpa using h), List.getElem?_map] at q
      cases e : ds[i]? with
      | none => rw [e] at q; cases q
      | some d' => rw [e] at q; cases q
    · rw [List.getElem?_append_right (by simpa using h), List.getElem?_replicate] at q
      split at q <;> cases q
  inj := fun i j d e a q _ _ _ => by
    by_cases h : i < ds.length
    · rw [List.getElem?_append_left (by simpa using h), List.getElem?_map] at q
      cases e : ds[i]? with
      | none => rw [e] at q; cases q
      | some d' => rw [e] at q; cases q
    · rw [List.getElem?_append_right (by simpa using h), List.getElem?_replicate] at q
      split at q <;> cases q
  len := by unfold L2.start; simp [RepL.length r]
  old := fun _ o h => ⟨o, h⟩
theorem def_ok {x qual : Str} {st : Stmt} {fa : Addr} {fd : FuncData} {N ps : List Str} {k : Nat} {f : En → M (Fl × En)} (F : Fun K x qual st fa fd) (S : FnScope N ps (defScope st))
    (body : ∀ (cdv : Value) (A : Around) (outer : List Env) (s : Shared) (H G : Hp) (μ : Mu) (E : XK), Room k (A.deeper (PyProof.Rows.envOfC qual (defScope st) s.heap.objs.size fa cdv)) →
      JSs (cxOf (L2.CX P w) P w K mg base N qual (defScope st) fa cdv A outer s H E) E ⟨H, G, μ⟩ f (defBody st)) :
    FnOk P w K mg base (L2.CX P w) (k + 1) fa fd ps (SpOf w K mg ps.length (runB N.length f)) := by
  refine F.okX S (fun vs H Q E h => ?_) (fun cdv A outer s H vs Q E hr h => ?_)
  · obtain ⟨G, μ, st, ds, _, r, l, _⟩ := h
    rw [RepL.length r, l]
  · obtain ⟨G, μ, st0, ds, wd, r, l, q⟩ := h
    refine ⟨_, body cdv A outer s H G μ E hr, G, μ, st0, _, wd, er_start (N := N) r, .refl, ?_⟩
    unfold runB M.bind at q
    have hN : N.length - ds.length = N.length - ds.length := rfl
    cases e : f (ds.map Slot.val ++ List.replicate (N.length - ds.length) Slot.no) st0 with
    | ok a st' =>
      rw [e] at q
      obtain ⟨fl, ρ'⟩ := a
      intro σ' H' G' μ' w' er' s'
      cases fl with
      | nx => exact q .non H' G' μ' w' s' .non
      | ret d => exact fun v rv => q v H' G' μ' w' s' rv
      | brk => exact q.elim
      | ct => exact q.elim
    | err x st' =>
      rw [e] at q
      exact q
    | bad => rw [e] at q; exact q
/-- .. the same promise by another name of what it does -/
theorem FnOk.sem {k : Nat} {fa : Addr} {fd : FuncData} {ps : List Str} {n : Nat} {s1 s2 : List D → M D} (F : FnOk P w K mg base (L2.CX P w) k fa fd ps (SpOf w K mg n s1)) (h : ∀ ds, ds.length = n → s1 ds = s2 ds) : FnOk P w K mg base (L2.CX P w) k fa fd ps (SpOf w K mg n s2) :=
  F.imp fun vs H Q E ⟨G, μ, st, ds, wd, r, l, q⟩ => ⟨G, μ, st, ds, wd, r, l, by rw [h ds l]; exact q⟩
end
end PL
set_option linter.all false
set_option maxRecDepth 100000
set_option maxHeartbeats 4000000
/-! PL5: targets, what is walked, for, list comprehensions. -/
namespace PL
open PySem PySem.Spec L2
variable {wW : World}
/-! ### targets: a name, or a flat tuple of names -/
inductive Pt where
  | nm (i : Nat) | tp (is : List Nat)
def Pt.slots : Pt → List Nat
  | .nm i => [i]
  | .tp is => is
def setAll : List Nat → List D → En → Option En
  | [], [], ρ => some ρ
  | i :: is, d :: ds, ρ => if i < ρ.length then setAll is ds (ρ.set i (.val d)) else none
  | _, _, _ => none
/-- the items of a sequence that stands still -/
def seqD : D → Option (List D)
  | .tup ds => some ds
  | .lst ds => some ds
  | .frz ds => some ds
  | _ => none
def Pt.set : Pt → D → En → Option En
  | .nm i, d, ρ => if i < ρ.length then some (ρ.set i (.val d)) else none
  | .tp is, .tup ds, ρ => setAll is ds ρ
  | _, _, _ => none
def gNames : List Nat → TGs
  | [] => gNil
  | i :: is => gCons (gName i) (gNames is)
def Pt.g (K : PySem.W.Frag) : Pt → TG
  | .nm i => gName i
  | .tp is => gTup K is.length (gNames is)
section
variable {X : Cx} {E : XK} {H0 H G : Hp} {μ : Mu} {ρ ρ' : En} {σ : L2.St} {st : Sto}
theorem setAll_ok {Q : L2.St → Hp → Prop} : ∀ {is : List Nat} {ds : List D} {vs : List V} {ρ ρ' : En} {σ : L2.St}, setAll is ds ρ = some ρ' → RepL X.K G μ vs ds → ER X.K H G μ H0 ρ σ →
    (∀ σ', ER X.K H G μ H0 ρ' σ' → (∀ ws, (∀ i ∈ is, i ∈ ws) → wipe σ' ws = wipe σ ws) → Q σ' H) → gNames is vs σ H Q
  | [], [], _, ρ, ρ', σ, h, .nil, er, q => by
    unfold setAll at h; cases h
    exact ⟨rfl, q σ er fun _ _ => rfl⟩
  | i :: is, d :: ds, _, ρ, ρ', σ, h, .cons (v := v) (vs := vs) rv rr, er, q => by
    unfold setAll at h
    by_cases hi : i < ρ.length
    · rw [if_pos hi] at h
      refine ⟨v, vs, rfl, setAll_ok h rr (er.set hi rv) fun σ' e' w' => q σ' e' fun ws hm => ?_⟩
      rw [w' ws fun j hj => hm j (List.mem_cons_of_mem _ hj)]
      exact wipe_set (hm i List.mem_cons_self)
    · rw [if_neg hi] at h; cases h
  | [], _ :: _, _, _, _, _, h, _, _, _ => by unfold setAll at h; cases h
  | _ :: _, [], _, _, _, _, h, _, _, _ => by unfold setAll at h; cases h
where
  wipe_set {σ : L2.St} {i : Nat} {x : Option V} : ∀ {ws : List Nat}, i ∈ ws → wipe (σ.set i x) ws = wipe σ ws
    | w :: ws, h => by
      unfold wipe
      by_cases hw : i ∈ ws
      · rw [wipe_set hw]
      · have e : i = w := by
          rcases List.mem_cons.mp h with e | e
          · exact e
          · exact absurd e hw
        subst e
        have : ∀ {vs : List Nat} {τ : L2.St}, i ∉ vs → wipe (τ.set i x) vs = (wipe τ vs).set i x := by
          intro vs
          induction vs with
          | nil => intro τ _; rfl
          | cons v vs ih =>
            intro τ hv
            unfold wipe
            rw [ih fun z => hv (List.mem_cons_of_mem _ z)]
            exact List.set_comm _ _ fun z => hv (z ▸ List.mem_cons_self)
        rw [this hw, List.set_set]
theorem Pt.ok {Q : L2.St → Hp → Prop} {p : Pt} {d : D} {v : V} (h : p.set d ρ = some ρ') (w : Wd X.w X.K H G μ st) (r : Rep X.K G μ v d) (er : ER X.K H G μ H0 ρ σ)
    (q : ∀ σ', ER X.K H G μ H0 ρ' σ' → (∀ ws, (∀ i ∈ p.slots, i ∈ ws) → wipe σ' ws = wipe σ ws) → Q σ' H) : p.g X.K v σ H Q := by
  cases p with
  | nm i =>
    have h' : (if i < ρ.length then some (ρ.set i (.val d)) else none) = some ρ' := by cases d <;> exact h
    by_cases hi : i < ρ.length
    · rw [if_pos hi] at h'
      cases h'
      exact q _ (er.set hi r) fun ws hm => setAll_ok.wipe_set (hm i (List.mem_singleton.mpr rfl))
    · rw [if_neg hi] at h'; cases h'
  | tp is =>
    cases r with
    | @tup a vs ds hs rr =>
      have h' : setAll is ds ρ = some ρ' := h
      have hl : ∀ {is : List Nat} {ds : List D} {ρ ρ' : En}, setAll is ds ρ = some ρ' → ds.length = is.length := by
        intro is
        induction is with
        | nil => intro ds ρ ρ' h; cases ds with
          | nil => rfl
          | cons _ _ => unfold setAll at h; cases h
        | cons i is ih => intro ds ρ ρ' h; cases ds with
          | nil => unfold setAll at h; cases h
          | cons d ds =>
            unfold setAll at h
            split at h
            · exact congrArg (· + 1) (ih h)
            · cases h
      exact ⟨a, vs, rfl, w.imm.sqT hs, by rw [RepL.length rr, hl h'], setAll_ok h' rr er q⟩
    | _ => cases h
end
/-! ### what is walked -/
/-- from (G, μ) on the iterator gives ds, one by one -/
def ItR (wW : World) (K : PySem.W.Frag) (G : Hp) (μ : Mu) (J : It) (ds : List D) : Prop :=
  ds.length ≤ sizeLine ∧ ∀ H1 G1 μ1 st1, Wd wW K H1 G1 μ1 st1 → Sub G G1 → SubM μ μ1 →
    (∀ i, i < ds.length → J.go i H1 ∧ ∀ x H2, J.yld i H1 x H2 → ∃ G2, Wd wW K H2 G2 μ1 st1 ∧ Stp H1 G1 μ1 H2 G2 μ1 ∧ ∃ d, ds[i]? = some d ∧ Rep K G2 μ1 x d) ∧ ∀ i, ds.length ≤ i → J.stop i H1
def rIt (wW : World) (K : PySem.W.Frag) : RR It (List D) := ⟨fun _ _ G μ J ds => ItR wW K G μ J ds, fun _ h => h⟩
def JI (X : Cx) (E : XK) (H0 : Hp) (tg : Expr) (f : En → M (List D)) (iter : Expr) : Prop := PI X tg iter (Se X E H0 (rIt X.w X.K) f)
def opt {α : Type} (o : Option α) : M α := match o with
  | some a => M.pure a
  | none => M.bad
section
variable {X : Cx} {E : XK} {H0 : Hp} {e a b tg iter : Expr} {f g : En → M D} {es : List Expr} {pos p : Pos} {x : Str}
theorem PI.imp {t t' : TI} (h : PI X tg iter t) (q : ∀ σ H R, t' σ H R → t σ H R) : PI X tg iter t' := ⟨fun pins s σ H R I x => h.run pins s σ H R I (q _ _ _ x)⟩
theorem Post.opt {α β γ : Type} {R : RR β α} {H G : Hp} {μ : Mu} {o : Option γ} {k : γ → M α} {st : Sto} {Q : β → Hp → Prop} {K : PySem.W.Frag} {mg : Str → Option Value} (p : Post wW K mg E R H G μ ((opt o).bind k st) Q) : ∃ c, o = some c ∧ Post wW K mg E R H G μ (k c st) Q := by
  cases o with
  | none => exact p.elim
  | some c => exact ⟨c, rfl, p⟩
def charD (c : Nat) : D := .str ⟨#[c]⟩
/-- what is walked of a list or a tuple that stands still, of a text -/
def itD : D → Option (List D)
  | .str s => if s.length ≤ sizeLine then some (s.cps.toList.map charD) else none
  | d => seqD d
def iSeq (f : En → M D) : En → M (List D) := fun ρ => (f ρ).bind fun d => opt (itD d)
theorem its_ok {K : PySem.W.Frag} {G : Hp} {μ : Mu} {s : Str} (hz : s.length ≤ sizeLine) : ItR wW K G μ (Its s) (s.cps.toList.map charD) := by
  refine ⟨by rw [List.length_map, Array.length_toList]; exact hz, fun H1 G1 μ1 st1 w sg sm => ⟨fun i hi => ?_, fun i hi => ?_⟩⟩
  · have hi' : i < s.cps.size := by simpa using hi
    refine ⟨hi', fun x H2 ⟨e, c, hc, ex⟩ => ?_⟩
    subst e ex
    refine ⟨G1, w, .refl, charD c, ?_, .str _⟩
    rw [List.getElem?_map, Array.getElem?_toList, hc]
    rfl
  · show s.cps.size ≤ i
    simpa using hi
theorem itl_ok {K : PySem.W.Frag} {G : Hp} {μ : Mu} {a : Addr} {vs : List V} {ds : List D} (hl : SqL K G a vs) (r : RepL K G μ vs ds) (hz : vs.length ≤ sizeLine) : ItR wW K G μ (Itl K a) ds := by
  refine ⟨by rw [← RepL.length r]; exact hz, fun H1 G1 μ1 st1 w sg sm => ⟨fun i hi => ?_, fun i hi => ?_⟩⟩
  · have h1 : SqL K H1 a vs := (sg.trans w.imm).sqL hl
    obtain ⟨v, hv, rv⟩ := r.get (List.getElem?_eq_getElem hi)
    refine ⟨⟨vs, v, h1, hv⟩, fun x H2 ⟨e, hy⟩ => ?_⟩
    subst e
    have ex : x = v := Option.some.inj ((hy vs h1).symm.trans hv)
    subst ex
    exact ⟨G1, w, .refl, _, List.getElem?_eq_getElem hi, rv.mono sg sm⟩
  · exact ⟨vs, (sg.trans w.imm).sqL hl, by rw [RepL.length r]; exact hi⟩
theorem itt_ok {K : PySem.W.Frag} {G : Hp} {μ : Mu} {a : Addr} {vs : List V} {ds : List D} (hl : SqT K G a vs) (r : RepL K G μ vs ds) (hz : vs.length ≤ sizeLine) : ItR wW K G μ (Itt K a) ds := by
  refine ⟨by rw [← RepL.length r]; exact hz, fun H1 G1 μ1 st1 w sg sm => ⟨fun i hi => ?_, fun i hi => ?_⟩⟩
  · have h1 : SqT K H1 a vs := (sg.trans w.imm).sqT hl
    obtain ⟨v, hv, rv⟩ := r.get (List.getElem?_eq_getElem hi)
    refine ⟨⟨vs, v, h1, hv⟩, fun x H2 ⟨e, hy⟩ => ?_⟩
    subst e
    have ex : x = v := Option.some.inj ((hy vs h1).symm.trans hv)
    subst ex
    exact ⟨G1, w, .refl, _, List.getElem?_eq_getElem hi, rv.mono sg sm⟩
  · exact ⟨vs, (sg.trans w.imm).sqT hl, by rw [RepL.length r]; exact hi⟩
theorem ji_seq (he : JE X E H0 f iter) : JI X E H0 tg (iSeq f) iter := by
  refine ⟨fun pins s σ H R I ⟨G, μ, st, ρ, w, er, q⟩ => ?_⟩
  refine thn (he.run pins s σ H (fun x H1 => ∃ G1 μ1 st1 ds d, Wd X.w X.K H1 G1 μ1 st1 ∧ Rep X.K G1 μ1 x d ∧ itD d = some ds ∧ ∀ J, ItR X.w X.K G1 μ1 J ds → R J H1) I ⟨G, μ, st, ρ, w, er, Post.raw q fun d st1 v H1 G1 μ1 w1 s1 r1 q1 => ?_⟩) fun v s1 ⟨x, H1, I1, rx, G1, μ1, st1, ds, d, w1, r1, hd, q1⟩ => ?_
  · cases e : itD d with
    | none => rw [e] at q1; exact q1.elim
    | some ds =>
      rw [e] at q1
      exact ⟨G1, μ1, st1, ds, d, w1, r1, e, fun J hj => q1 J H1 G1 μ1 w1 s1 hj⟩
  · have goL : ∀ {a : Addr} {vs : List V}, x = .ref a → SqL X.K G1 a vs → RepL X.K G1 μ1 vs ds → wpAny (model X.prog X.w) X.A (pyIter v) (PIE X pins σ tg R) X.xe s1 := fun {a vs} e h r => by
      subst e
      cases rx
      have hq : SqL X.K H1 a vs := w1.imm.sqL h
      obtain ⟨its, rv, pl, hz⟩ := I1.list hq
      refine wpAny_pyIter_list pl.isList ?_
      refine ⟨s1.heap.objs.size, [s1.heap.objs.size], _, _, H1, rfl, I1.kept (t' := s1.toks) fun b o e => Heap.get?_push_of_some _ e, turn_list a _, ⟨_, Heap.get?_push_size _ rfl, rfl, rfl⟩, fun b hb => ?_, q1 _ (itl_ok h r hz)⟩
      have e : b = s1.heap.objs.size := by simpa using hb
      subst e
      exact I1.fpOk (Nat.le_refl _) (I1.hok.fresh (Nat.le_refl _))
    have goT : ∀ {a : Addr} {vs : List V}, x = .ref a → SqT X.K G1 a vs → RepL X.K G1 μ1 vs ds → wpAny (model X.prog X.w) X.A (pyIter v) (PIE X pins σ tg R) X.xe s1 := fun {a vs} e h r => by
      subst e
      cases rx
      have hq : SqT X.K H1 a vs := w1.imm.sqT h
      obtain ⟨its, rv, pl, hz⟩ := I1.tuple hq
      refine wpAny_pyIter_tuple (show s1.heap.IsTuple a its.toArray from pl) ?_
      refine ⟨s1.heap.objs.size, [s1.heap.objs.size], _, _, H1, rfl, I1.kept (t' := s1.toks) fun b o e => Heap.get?_push_of_some _ e, turn_tuple a _, ⟨_, Heap.get?_push_size _ rfl, rfl, rfl⟩, fun b hb => ?_, q1 _ (itt_ok h r hz)⟩
      have e : b = s1.heap.objs.size := by simpa using hb
      subst e
      exact I1.fpOk (Nat.le_refl _) (I1.hok.fresh (Nat.le_refl _))
    cases r1 with
    | tup h r => cases hd; exact goT rfl h r
    | lst h r => cases hd; exact goL rfl (.inl (.inl h)) r
    | frz h r => cases hd; exact goL rfl h r
    | str z =>
      have hd' : (if z.length ≤ sizeLine then some (z.cps.toList.map charD) else none) = some ds := hd
      by_cases hz : z.length ≤ sizeLine
      · rw [if_pos hz] at hd'
        cases hd'
        obtain ⟨tk, rfl⟩ := rx
        have q2 := q1 (Its z) (its_ok hz)
        cases ha : z.cps.all (· < 128) with
        | false =>
          have T := turn_str (P := X.prog) (w := X.w) (K := X.K) (tg := tg) s1.heap.objs.size z tk "str_iterator" (.inr rfl)
          exact wpAny_pyIter_wide ha (pi_one (tk := s1.toks) I1 _ T ⟨_, Heap.get?_push_size _ rfl, rfl, rfl⟩ q2)
        | true =>
          have T := turn_str (P := X.prog) (w := X.w) (K := X.K) (tg := tg) s1.heap.objs.size z tk "str_ascii_iterator" (.inl rfl)
          exact wpAny_pyIter_ascii ha (pi_one (tk := s1.toks) I1 _ T ⟨_, Heap.get?_push_size _ rfl, rfl, rfl⟩ q2)
      · rw [if_neg hz] at hd'; cases hd'
    | _ => cases hd
/-- range(n), range(a, b) -/
def rangeL (lo hi : Int) : M (List D) := fun s => if -(2 ^ 62) ≤ lo ∧ lo < 2 ^ 62 ∧ -(2 ^ 62) ≤ hi ∧ hi < 2 ^ 62 ∧ (hi - lo).toNat ≤ sizeLine then .ok ((List.range (hi - lo).toNat).map fun (i : Nat) => D.int (lo + (i : Int))) s else .bad
def iRange1 (g : En → M (List D)) : En → M (List D) := fun ρ => (g ρ).bind fun ds => match ds with
  | [.int n] => rangeL 0 n
  | _ => M.bad
theorem itr_ok {K : PySem.W.Frag} {G : Hp} {μ : Mu} {lo : Int} {n : Nat} (hz : n ≤ sizeLine) : ItR wW K G μ (Itr lo n) ((List.range n).map fun (i : Nat) => D.int (lo + (i : Int))) := by
  refine ⟨by simpa using hz, fun H1 G1 μ1 st1 w sg sm => ⟨fun i hi => ?_, fun i hi => ?_⟩⟩
  · have hi' : i < n := by simpa using hi
    refine ⟨hi', fun x H2 ⟨e, ex⟩ => ?_⟩
    subst e ex
    exact ⟨G1, w, .refl, .int (lo + i), by simp [hi'], .int _⟩
  · show n ≤ i
    simpa using hi
theorem Post.range {β : Type} {R : RR β (List D)} {K : PySem.W.Frag} {mg : Str → Option Value} {H G : Hp} {μ : Mu} {lo hi : Int} {st : Sto} {Q : β → Hp → Prop} (p : Post wW K mg E R H G μ (rangeL lo hi st) Q) :
    (-(2 ^ 62) ≤ lo ∧ lo < 2 ^ 62 ∧ -(2 ^ 62) ≤ hi ∧ hi < 2 ^ 62) ∧ (hi - lo).toNat ≤ sizeLine ∧ Post wW K mg E R H G μ (.ok ((List.range (hi - lo).toNat).map fun (i : Nat) => D.int (lo + (i : Int))) st) Q := by
  unfold rangeL at p
  split at p
  · rename_i h
    exact ⟨⟨h.1, h.2.1, h.2.2.1, h.2.2.2.1⟩, h.2.2.2.2, p⟩
  · exact p.elim
theorem ji_range1 {ga : En → M (List D)} (hg : Gl X "range") (hm : X.mg "range" = none) (ha : JA X E H0 ga [a]) (hs : starEach [a] X.env = [(false, eval a X.env)] := by rfl) : JI X E H0 tg (iRange1 ga) (.Call (.Name "range" p) [a] [] pos) := by
  refine PI.imp (pi_range1 hg hm ha hs) fun σ H R ⟨G, μ, st, ρ, w, er, q⟩ => ?_
  refine ⟨G, μ, st, ρ, w, er, Post.raw q fun ds st1 vs H1 G1 μ1 w1 s1 r1 q1 => ?_⟩
  cases r1 with
  | nil => exact q1.elim
  | cons h t =>
    cases t with
    | cons _ _ => cases h <;> exact q1.elim
    | nil =>
      cases h with
      | int n =>
        obtain ⟨⟨_, _, h1, h2⟩, hz, q2⟩ := Post.range q1
        refine ⟨n, rfl, h1, h2, ?_⟩
        rw [Int.sub_zero] at hz q2
        exact q2 _ _ _ _ w1 s1 (itr_ok hz)
      | _ => exact q1.elim
/-! ### for -/
def forL (bd : D → En → M (Fl × En)) : List D → En → M (Fl × En)
  | [], ρ => M.pure (.nx, ρ)
  | d :: ds, ρ => (bd d ρ).bind fun r => match r.1 with
    | .nx => forL bd ds r.2
    | .ct => forL bd ds r.2
    | .brk => M.pure (.nx, r.2)
    | .ret x => M.pure (.ret x, r.2)
def sFor (it : En → M (List D)) (p : Pt) (bd : En → M (Fl × En)) : En → M (Fl × En) := fun ρ => (it ρ).bind fun ds => forL (fun d ρ => (opt (p.set d ρ)).bind bd) ds ρ
section
variable {Φ : Ent} {it : En → M (List D)} {pt : Pt} {bd : En → M (Fl × En)} {body : List Stmt}
theorem PostS.opt {γ : Type} {o : Option γ} {k : γ → M (Fl × En)} {st : Sto} {Dn : Ends} (p : PostS X E Φ Dn ((opt o).bind k st)) : ∃ c, o = some c ∧ PostS X E Φ Dn (k c st) := by
  cases o with
  | none => exact p.elim
  | some c => exact ⟨c, rfl, p⟩
theorem Stp.sub {H G H1 G1 H2 G2 : Hp} {μ μ1 μ2 : Mu} (s : Stp H G μ H1 G1 μ1) (t : Stp H G1 μ1 H2 G2 μ2) : Stp H G μ H2 G2 μ2 where
  g := s.g.trans t.g
  m := fun n a h => t.m n a (s.m n a h)
  fr := fun a o h n => t.fr a o h fun k e => by
    cases q : μ k with
    | some b => have := s.m k b q; rw [e] at this; cases this; exact n k q
    | none => have := s.nm k a q e; rw [h] at this; cases this
  th := t.th
  ng := fun a e n => by
    cases q : G1 a with
    | some o => exact s.ng a e (by rw [q]; simp)
    | none => exact t.ng a q n
  nm := fun k a e n => by
    cases q : μ1 k with
    | some b => have := t.m k b q; rw [n] at this; cases this; exact s.nm k a e q
    | none => exact t.nm k a q n
theorem Stp.here {H G H1 G1 : Hp} {μ μ1 : Mu} (s : Stp H G μ H1 G1 μ1) : Stp H G1 μ1 H1 G1 μ1 where
  g := fun _ _ h => h
  m := fun _ _ h => h
  fr := fun a o h n => s.fr a o h fun k e => n k (s.m k a e)
  th := s.th
  ng := fun _ e n => absurd e n
  nm := fun _ _ e n => by rw [e] at n; cases n
theorem js_for (hp : PassesOwn (model X.prog X.w) X.A X.env X.xe) (hc : X.calm = true) (hi : JI X E Φ.H tg it iter) (hg : PG X tg (pt.g X.K)) (hb : ∀ G μ, JSs X E ⟨Φ.H, G, μ⟩ bd body)
    (hs : ∀ x, foldedSetIterable iter X.env x = pure x := by intro _; rfl) : JS X E Φ (sFor it pt bd) (.For tg iter body [] pos) := by
  refine ⟨fun pins s0 σ H Dn I ⟨G, μ, st, ρ, w, er, s, q⟩ => ?_⟩
  refine (ps_for hp hc hi hg (PSs.imp (t := fun Dn σ H => ∃ G μ, SeS X E ⟨Φ.H, G, μ⟩ bd Dn σ H) (t' := fun Dn σ H => ∃ G μ, SeS X E ⟨Φ.H, G, μ⟩ bd Dn σ H) ⟨fun pins s σ H D I ⟨G, μ, h⟩ => (hb G μ).run pins s σ H D I h⟩ fun _ _ _ h => h) hs).run pins s0 σ H Dn I ?_
  refine ⟨G, μ, st, ρ, w, er, PostS.bind q s fun ds st1 J H1 G1 μ1 w1 s1 t1 r1 q1 => ?_⟩
  obtain ⟨hz, hJ⟩ := r1
  have tT := Stp.here t1
  let W : Nat → Nat → L2.St → Hp → Prop := fun i m σ H => m = ds.length - i ∧ i ≤ ds.length ∧ ∃ G μ st ρ, Wd X.w X.K H G μ st ∧ ER X.K H G μ Φ.H ρ σ ∧ Stp Φ.H G1 μ1 H G μ ∧ PostS X E Φ Dn (forL (fun d ρ => (PL.opt (pt.set d ρ)).bind bd) (ds.drop i) ρ st)
  refine ⟨W, ⟨ds.length, by simp, Nat.zero_le _, G1, μ1, st1, ρ, w1, er.step s1, tT, q1⟩, ?_⟩
  rintro i m σ H ⟨rfl, hi, G, μ, st, ρ, w, er, t, q⟩
  obtain ⟨hgo, hstop⟩ := hJ H G μ st w t.g t.m
  by_cases hlt : i < ds.length
  · obtain ⟨go, hy⟩ := hgo i hlt
    refine .inr ⟨go, W (i + 1) (ds.length - (i + 1)), fun σ' H' h => ⟨_, by omega, h⟩, fun x H2 hx => ?_⟩
    obtain ⟨G2, w2, s2, d, hd, rd⟩ := hy x H2 hx
    rw [List.drop_eq_getElem_cons hlt] at q
    have ed : ds[i] = d := Option.some.inj ((List.getElem?_eq_getElem hlt).symm.trans hd)
    rw [ed] at q
    unfold forL at q
    rw [M.bind_assoc] at q
    obtain ⟨ρ2, hset, q⟩ := PostS.opt q
    have t2 : Stp Φ.H G1 μ1 H2 G2 μ := t.trans s2
    refine Pt.ok hset w2 rd (er.step s2) fun σ2 er2 _ => ⟨G1, μ1, G2, μ, st, ρ2, w2, er2, t2, ?_⟩
    unfold M.bind at q
    cases e : bd ρ2 st with
    | bad => rw [e] at q; exact q.elim
    | err x st' =>
      rw [e] at q
      exact fun c dd H' G' μ' w' s' r' => q c dd H' G' μ' w' (t1.sub s') r'
    | ok a st' =>
      rw [e] at q
      obtain ⟨fl, ρ'⟩ := a
      intro σ' H' G' μ' w' er' s'
      cases fl with
      | nx => exact ⟨rfl, hlt, G', μ', st', ρ', w', er', s', q⟩
      | ct => exact ⟨rfl, hlt, G', μ', st', ρ', w', er', s', q⟩
      | brk => exact q σ' H' G' μ' w' er' (t1.sub s')
      | ret d => exact q σ' H' G' μ' w' er' (t1.sub s')
  · have e : i = ds.length := by omega
    subst e
    rw [List.drop_length] at q
    exact .inl ⟨hstop _ (Nat.le_refl _), q σ H G μ w er (t1.sub t)⟩
end
end
end PL
set_option linter.all false
set_option maxRecDepth 100000
set_option maxHeartbeats 4000000
/-! PL6: list comprehensions with one clause. -/
namespace PL
open PySem PySem.Spec L2
variable {wW : World}
/-- no exception may leave m -/
def noX {α : Type} (m : M α) : M α := fun s => match m s with
  | .err _ _ => .bad
  | r => r
theorem noX_bind {α β : Type} (m : M α) (f : α → M β) : noX (m.bind f) = (noX m).bind fun a => noX (f a) := by
  funext s
  show (match (M.bind m f) s with | .err _ _ => .bad | r => r) = (M.bind (noX m) fun a => noX (f a)) s
  unfold M.bind noX
  cases m s <;> rfl
theorem noX_pure {α : Type} (a : α) : noX (M.pure a) = M.pure a := rfl
theorem noX_opt {α : Type} (o : Option α) : noX (opt o) = opt o := by cases o <;> rfl
def wipeE (ρ : En) : List Nat → En
  | [] => ρ
  | v :: vs => (wipeE ρ vs).set v .no
def lcL (set : D → En → Option En) (tt : En → M Bool) (te : En → M D) (ρ : En) : List D → M (List D)
  | [] => M.pure []
  | d :: ds => (opt (set d ρ)).bind fun ρ' => (tt ρ').bind fun b => if b = true then (te ρ').bind fun y => (lcL set tt te ρ ds).bind fun ys => M.pure (y :: ys) else lcL set tt te ρ ds
def eLc (it : En → M (List D)) (p : Pt) (vs : List Nat) (tt : En → M Bool) (te : En → M D) : En → M (List D) := fun ρ => (it ρ).bind fun ds => noX (lcL p.set tt te (wipeE ρ vs) ds)
def tTrue : En → M Bool := fun _ => M.pure true
section
variable {K : PySem.W.Frag} {mg : Str → Option Value} {E : XK} {H G HB GB H0 : Hp} {μ μB : Mu} {ρ : En} {σ : L2.St}
theorem Post.nbind {α β γ δ : Type} {R : RR β α} {R2 : RR δ γ} {m : M γ} {f : γ → M α} {st : Sto} {Q : β → Hp → Prop} {Q2 : δ → Hp → Prop} (p : Post wW K mg E R HB GB μB ((noX m).bind f st) Q)
    (h : ∀ a st' v H' G' μ', Wd wW K H' G' μ' st' → Stp H G μ H' G' μ' → R2.r H H' G' μ' v a → Post wW K mg E R HB GB μB (f a st') Q → Q2 v H') : Post wW K mg xNo R2 H G μ (m st) Q2 := by
  unfold M.bind noX at p
  cases e : m st with
  | ok a st' =>
    rw [e] at p
    exact fun v H' G' μ' w t q => h a st' v H' G' μ' w t q p
  | err x st' =>
    rw [e] at p
    exact p.elim
  | bad => rw [e] at p; exact p.elim
theorem ER.no1 (e : ER K H G μ H0 ρ σ) (v : Nat) : ER K H G μ H0 (ρ.set v .no) (σ.set v none) where
  val := fun j d q => by
    by_cases h : v = j
    · subst h
      by_cases hl : v < ρ.length
      · rw [List.getElem?_set_self hl] at q; cases q
      · rw [List.getElem?_eq_none (by rw [List.length_set]; omega)] at q; cases q
    · rw [List.getElem?_set_ne h] at q ⊢
      exact e.val j d q
  own := fun j d q => by
    by_cases h : v = j
    · subst h
      by_cases hl : v < ρ.length
      · rw [List.getElem?_set_self hl] at q; cases q
      · rw [List.getElem?_eq_none (by rw [List.length_set]; omega)] at q; cases q
    · rw [List.getElem?_set_ne h] at q ⊢
      exact e.own j d q
  inj := fun j k ds es a q1 q2 z1 z2 => by
    have no : ∀ (ds : List D), (ρ.set v Slot.no)[v]? ≠ some (.own ds) := fun ds q => by
      by_cases hl : v < ρ.length
      · rw [List.getElem?_set_self hl] at q; cases q
      · rw [List.getElem?_eq_none (by rw [List.length_set]; omega)] at q; cases q
    by_cases h : v = j
    · subst h; exact absurd q1 (no ds)
    · by_cases h' : v = k
      · subst h'; exact absurd q2 (no es)
      · rw [List.getElem?_set_ne h] at q1 z1
        rw [List.getElem?_set_ne h'] at q2 z2
        exact e.inj j k ds es a q1 q2 z1 z2
  len := by rw [List.length_set, List.length_set]; exact e.len
  old := e.old
theorem ER.wipe (e : ER K H G μ H0 ρ σ) : ∀ vs : List Nat, ER K H G μ H0 (wipeE ρ vs) (L2.wipe σ vs)
  | [] => e
  | v :: vs => (ER.wipe e vs).no1 v
end
section
variable {X : Cx} {E : XK} {H0 : Hp} {it : En → M (List D)} {pt : Pt} {vs : List Nat} {tt : En → M Bool} {te : En → M D}
theorem wipe_none : ∀ {vs : List Nat} {σ : L2.St} {v : Nat}, v ∈ vs → (L2.wipe σ vs).set v none = L2.wipe σ vs
  | w :: vs, σ, v, h => by
    unfold L2.wipe
    by_cases e : v = w
    · subst e; rw [List.set_set]
    · have hm : v ∈ vs := (List.mem_cons.mp h).resolve_left e
      rw [List.set_comm _ _ (fun z => e z.symm), wipe_none hm]
theorem wipe_sub : ∀ (ws vs : List Nat) (σ : L2.St), (∀ v ∈ ws, v ∈ vs) → L2.wipe (L2.wipe σ vs) ws = L2.wipe σ vs
  | [], _, _, _ => rfl
  | w :: ws, vs, σ, h => by
    show (L2.wipe (L2.wipe σ vs) ws).set w none = _
    rw [wipe_sub ws vs σ fun v hv => h v (List.mem_cons_of_mem _ hv), wipe_none (h w List.mem_cons_self)]
theorem wipe_idem (vs : List Nat) (σ : L2.St) : L2.wipe (L2.wipe σ vs) vs = L2.wipe σ vs := wipe_sub vs vs σ fun _ h => h
theorem lc_read (hv : ∀ i ∈ pt.slots, i ∈ vs) : ∀ (σ : L2.St) (H : Hp) (Q : VK), Se X E H0 (rFresh X.K) (eLc it pt vs tt te) σ H Q →
    tLc (Se X E H0 (rIt X.w X.K) it) (pt.g X.K) (Se X xNo H0 rTrue tt) (Se X xNo H0 (rRep X.K) te) vs σ H Q := by
  intro σ H Q ⟨G, μ, st, ρ, w, er, q⟩
  refine ⟨G, μ, st, ρ, w, er, Post.raw q fun ds st1 J H1 G1 μ1 w1 s1 r1 q0 => ?_⟩
  intro L hL
  obtain ⟨hz, hJ⟩ := r1
  have q1 := q0.step s1
  have er1 : ER X.K H1 G1 μ1 H0 (wipeE ρ vs) (L2.wipe σ vs) := (er.step s1).wipe vs
  have g1L : G1 L = none := none_before w1.imm.th hL
  obtain ⟨wL, sL⟩ := w1.lay (o := .lst []) hL
  have nL : ∀ n, μ1 n ≠ some L := fun k e => by
    obtain ⟨b, h1, _, h3⟩ := w1.obj k _ (List.getElem?_eq_getElem (w1.dom k L e))
    rw [e] at h1; cases h1
    obtain ⟨u, hu⟩ := h3.there
    rw [hL] at hu; cases hu
  -- L stays out of the fixed part and of the store
  have gL : ∀ {H' G' : Hp} {μ' : Mu}, Stp H1 G1 μ1 H' G' μ' → G1 L = none := fun _ => g1L
  let In : Nat → Hp → Prop := fun i H => ∃ G μ st acc accD, Wd X.w X.K H G μ st ∧ Stp H1 G1 μ1 H G μ ∧ H L = some (.lst acc) ∧ RepL X.K G μ acc accD ∧ G L = none ∧ (∀ n, μ n ≠ some L) ∧ acc.length ≤ i ∧
    Post X.w X.K X.mg E (rFresh X.K) H1 G1 μ1 (((noX (lcL pt.set tt te (wipeE ρ vs) (ds.drop i))).bind fun ys => M.pure (accD ++ ys)) st) Q
  refine ⟨fun i m H => m = ds.length - i ∧ i ≤ ds.length ∧ In i H, ⟨ds.length, by simp, Nat.zero_le _, G1, μ1, st1, [], [], wL, sL, upd_same, .nil, g1L, nL, Nat.zero_le _, ?_⟩, ?_⟩
  · show Post _ _ _ _ _ _ _ _ (((noX (lcL pt.set tt te (wipeE ρ vs) ds)).bind fun ys => M.pure ([] ++ ys)) st1) Q
    have e : (fun ys : List D => (M.pure ([] ++ ys) : M (List D))) = M.pure := rfl
    rw [e, M.bind_pure]
    exact q1
  · rintro i m H ⟨rfl, hi, G, μ, st, acc, accD, w, s, hH, ra, gL, nL, hacc, q⟩
    obtain ⟨hgo, hstop⟩ := hJ H G μ st w s.g s.m
    by_cases hlt : i < ds.length
    · obtain ⟨go, hy⟩ := hgo i hlt
      refine .inr ⟨go, In (i + 1), fun H' h => ⟨_, by omega, rfl, hlt, h⟩, fun x H2 hx => ?_⟩
      obtain ⟨G2, w2, s2, d, hd, rd⟩ := hy x H2 hx
      rw [List.drop_eq_getElem_cons hlt] at q
      have ed : ds[i] = d := Option.some.inj ((List.getElem?_eq_getElem hlt).symm.trans hd)
      rw [ed] at q
      unfold lcL at q
      rw [noX_bind, noX_opt, M.bind_assoc] at q
      obtain ⟨ρ2, hset, q⟩ := Post.opt q
      have t2 := s.trans s2
      refine Pt.ok hset w2 rd (er1.step t2) fun σ2 er2 hw => ⟨(hw vs hv).trans (wipe_idem vs σ), ?_⟩
      rw [noX_bind, M.bind_assoc] at q
      refine ⟨G2, μ, st, ρ2, w2, er2, Post.nbind q fun b st3 b' H3 G3 μ3 w3 s3 r3 q3 => ?_⟩
      cases r3
      have keep : ∀ {H' G' : Hp} {μ' : Mu}, Stp H G μ H' G' μ' → H' L = some (.lst acc) ∧ RepL X.K G' μ' acc accD ∧ G' L = none ∧ ∀ n, μ' n ≠ some L := fun {H' G' μ'} z => by
        refine ⟨z.fr L _ hH nL, ra.mono z.g z.m, ?_, fun n e => ?_⟩
        · cases e : G' L with
          | none => rfl
          | some o => have := z.ng L gL (by rw [e]; simp); rw [hH] at this; cases this
        · cases e' : μ n with
          | some b => have := z.m n b e'; rw [e] at this; cases this; exact nL n e'
          | none => have := z.nm n L e' e; rw [hH] at this; cases this
      cases b with
      | false =>
        obtain ⟨k1, k2, k3, k4⟩ := keep (s2.trans s3)
        exact ⟨G3, μ3, st3, acc, accD, w3, t2.trans s3, k1, k2, k3, k4, by omega, q3⟩
      | true =>
        have q3' : Post X.w X.K X.mg E (rFresh X.K) H1 G1 μ1 (((noX ((te ρ2).bind fun y => (lcL pt.set tt te (wipeE ρ vs) (ds.drop (i + 1))).bind fun ys => M.pure (y :: ys))).bind fun ys => M.pure (accD ++ ys)) st3) Q := q3
        rw [noX_bind, M.bind_assoc] at q3'
        refine ⟨G3, μ3, st3, ρ2, w3, er2.step s3, Post.nbind q3' fun dy st4 y H4 G4 μ4 w4 s4 r4 q4 => ?_⟩
        obtain ⟨k1, k2, k3, k4⟩ := keep ((s2.trans s3).trans s4)
        refine ⟨acc, k1, by omega, G4, μ4, st4, acc ++ [y], accD ++ [dy], w4.over k3 k4, ((t2.trans s3).trans s4).over hL, upd_same, k2.append (.cons r4 .nil), k3, k4, by rw [List.length_append, List.length_singleton]; omega, ?_⟩
        rw [noX_bind, M.bind_assoc] at q4
        have e : (fun a : List D => (noX (M.pure (dy :: a))).bind fun ys => M.pure (accD ++ ys)) = fun ys => M.pure ((accD ++ [dy]) ++ ys) := by
          funext ys
          rw [noX_pure, M.pure_bind, List.append_assoc]
          rfl
        rw [e] at q4
        exact q4
    · have e : i = ds.length := by omega
      subst e
      rw [List.drop_length] at q
      refine .inl ⟨hstop _ (Nat.le_refl _), ?_⟩
      have q' : Post X.w X.K X.mg E (rFresh X.K) H1 G1 μ1 (M.pure (accD ++ []) st) Q := q
      rw [List.append_nil] at q'
      exact q' (.ref L) H G μ w s ⟨L, acc, rfl, hH, ra, gL, nL, hL⟩
variable {elt tg iter : Expr} {ifs : List Expr} {scope : Scope} {own : List (Str × Nat)} {pos : Pos}
/-- the tests of a clause -/
def JTs (X : Cx) (E : XK) (H0 : Hp) (f : En → M Bool) (es : List Expr) : Prop := PTs X es (Se X E H0 rTrue f)
theorem jts_nil : JTs X E H0 tTrue [] := ⟨fun pins s σ H Q I ⟨G, μ, st, ρ, w, er, p⟩ => (pts_nil).run pins s σ H Q I (p true H G μ w .refl rfl)⟩
theorem jts_one {c : Expr} (h : JT X E H0 tt c) : JTs X E H0 tt [c] := pts_one h
theorem jf_lc (hc : X.calm = true) (hN : X.N.Nodup) (hi : JI X E H0 tg it iter) (ok : BlkOk X.N X.env.scope scope own) (hv : ∀ i ∈ pt.slots, i ∈ own.map (·.2))
    (hg : ∀ (s : Shared) (H : Hp) (C : Addr) (cl : List (Str × Addr)) (fp : List Addr), PG (X.blk s H scope (compEnvC scope cl C X.env) fp) tg (pt.g X.K))
    (ht : ∀ (s : Shared) (H : Hp) (C : Addr) (cl : List (Str × Addr)) (fp : List Addr), JTs (X.blk s H scope (compEnvC scope cl C X.env) fp) xNo H0 tt ifs)
    (he : ∀ (s : Shared) (H : Hp) (C : Addr) (cl : List (Str × Addr)) (fp : List Addr), JE (X.blk s H scope (compEnvC scope cl C X.env) fp) xNo H0 te elt) (hs : ∀ x, foldedSetIterable iter X.env x = pure x := by intro _; rfl) :
    JF X E H0 (eLc it pt (own.map (·.2)) tt te) (.ListComp elt [⟨tg, iter, ifs, 0⟩] scope pos) := PE.imp (pe_lc (tt := Se X xNo H0 rTrue tt) (te := Se X xNo H0 (rRep X.K) te) hc hN hi ok hg ht he hs) (lc_read hv)
/-- name = [..] on one line, the name a local of the def alone -/
theorem js_ownLc {Φ : Ent} {i : Nat} {y : Str} {py spos : Pos} (hc : X.calm = true) (hN : X.N.Nodup) (hy : X.N[i]? = some y) (hyl : X.env.scope.names.lookup y = some .local)
    (hsw : swapsWith (.ListComp elt [⟨tg, iter, ifs, 0⟩] scope pos) (some (.Name y py)) spos.line X.env = pure true) (hi : JI X E Φ.H tg it iter) (ok : BlkOk X.N X.env.scope scope own) (hv : ∀ i ∈ pt.slots, i ∈ own.map (·.2))
    (hg : ∀ (s : Shared) (H : Hp) (C : Addr) (cl : List (Str × Addr)) (fp : List Addr), PG (X.blk s H scope (compEnvC scope cl C X.env) fp) tg (pt.g X.K))
    (ht : ∀ (s : Shared) (H : Hp) (C : Addr) (cl : List (Str × Addr)) (fp : List Addr), JTs (X.blk s H scope (compEnvC scope cl C X.env) fp) xNo Φ.H tt ifs)
    (he : ∀ (s : Shared) (H : Hp) (C : Addr) (cl : List (Str × Addr)) (fp : List Addr), JE (X.blk s H scope (compEnvC scope cl C X.env) fp) xNo Φ.H te elt) (hs : ∀ x, foldedSetIterable iter X.env x = pure x := by intro _; rfl) :
    JS X E Φ (sOwn i (eLc it pt (own.map (·.2)) tt te)) (.Assign [.Name y py] (.ListComp elt [⟨tg, iter, ifs, 0⟩] scope pos) spos) := by
  refine PS.imp (ps_setLc (tt := Se X xNo Φ.H rTrue tt) (te := Se X xNo Φ.H (rRep X.K) te) hc hN hy hyl hsw hi ok hg ht he hs) fun Dn σ H ⟨G, μ, st, ρ, w, er, s, p⟩ => ?_
  refine lc_read hv _ _ _ ⟨G, μ, st, ρ, w, er, p.bind s fun ds st' v H' G' μ' w' s' t' r q => ?_⟩
  exact put_own q w' er s' s r
end
end PL
set_option linter.all false
set_option maxRecDepth 100000
set_option maxHeartbeats 4000000
/-! PL7: operators, comparisons, subscripts, slices, len, isinstance, all, any over data. -/
namespace PL
open PySem PySem.Spec L2
variable {wW : World}
mutual
def D.py : D → PyData
  | .non => .none
  | .bl b => .bool b
  | .int i => .int i
  | .str x => .str x
  | .tup ds => .tuple (pyL ds)
  | .lst ds => .list (pyL ds)
  | .frz ds => .list (pyL ds)
  | .ref _ => .dict []
def pyL : List D → List PyData
  | [] => []
  | d :: ds => d.py :: pyL ds
end
theorem pyL_map : ∀ ds : List D, pyL ds = ds.map D.py
  | [] => by unfold pyL; rfl
  | d :: ds => by unfold pyL; rw [pyL_map ds]; rfl
/-- data that may be compared: no object of the store, at most 64 deep, texts of real signs -/
def D.shp (d : D) : Bool := SeqAt.shaped d.py
def D.eqv (d e : D) : Bool := PyData.eqv d.py e.py
section
variable {K : PySem.W.Frag} {G H : Hp} {μ : Mu}
mutual
theorem Rep.dp (s : Sub G H) : ∀ {v : V} {d : D}, Rep K G μ v d → d.py.canLay0 = true → Dp K H v d.py
  | _, .non, .non, _ => by unfold D.py; exact .non
  | _, .bl b, .bl _, _ => by unfold D.py; exact .bl b
  | _, .int i, .int _, _ => by unfold D.py; exact .int i
  | _, .str x, .str _, _ => by unfold D.py; exact .str x
  | _, .tup ds, .tup h r, c => by
    unfold D.py
    exact .tup (s.sqT h) (RepL.dp s r (by simpa [D.py, PyData.canLay0] using c))
  | _, .lst ds, .lst h r, c => by
    unfold D.py
    exact .lst (.inl (.inl (s _ _ h))) (RepL.dp s r (by simpa [D.py, PyData.canLay0] using c))
  | _, .frz ds, .frz h r, c => by
    unfold D.py
    exact .lst (s.sqL h) (RepL.dp s r (by simpa [D.py, PyData.canLay0] using c))
  | _, .ref _, .ref _, c => by simp [D.py, PyData.canLay0] at c
theorem RepL.dp (s : Sub G H) : ∀ {vs : List V} {ds : List D}, RepL K G μ vs ds → PyData.canLayAll0 (pyL ds) = true → DpAll K H vs (pyL ds)
  | _, [], .nil, _ => by unfold pyL; exact .nil
  | _, d :: ds, .cons h r, c => by
    have c' : d.py.canLay0 = true ∧ PyData.canLayAll0 (pyL ds) = true := by simpa [pyL, PyData.canLayAll0] using c
    unfold pyL
    exact .cons (Rep.dp s h c'.1) (RepL.dp s r c'.2)
end
theorem BRep.dp (s : Sub G H) {v : V} {d : D} (r : BRep K H G μ v d) (c : d.shp = true) : Dp K H v d.py := by
  have c := SeqAt.canLay_of_shaped c
  rcases r with r | ⟨a, vs, ds, rfl, rfl, h, r, _⟩
  · exact r.dp s c
  · have c' : PyData.canLayAll0 (pyL ds) = true := by simpa [D.py, PyData.canLay0] using c
    exact .lst (.inl (.inl h)) (r.dp s c')
end
def bl (b : Bool) : M D := M.pure (.bl b)
def guardM {α : Type} (c : Bool) (m : M α) : M α := if c = true then m else M.bad
theorem Post.guard {K : PySem.W.Frag} {mg : Str → Option Value} {E : XK} {α β : Type} {R : RR β α} {H G : Hp} {μ : Mu} {c : Bool} {m : M α} {st : Sto} {Q : β → Hp → Prop} (p : Post wW K mg E R H G μ (guardM c m st) Q) : c = true ∧ Post wW K mg E R H G μ (m st) Q := by
  unfold guardM at p
  by_cases h : c = true
  · rw [if_pos h] at p; exact ⟨h, p⟩
  · rw [if_neg h] at p; exact p.elim
theorem Post.bl {K : PySem.W.Frag} {mg : Str → Option Value} {E : XK} {H G : Hp} {μ : Mu} {b : Bool} {st : Sto} {Q : VK} (p : Post wW K mg E (rRep K) H G μ (PL.bl b st) Q) (w : Wd wW K H G μ st) : Q (.bl b) H := p _ _ _ _ w .refl (.bl b)
section
variable {X : Cx} {E : XK} {H0 : Hp} {e a b c : Expr} {f g h : En → M D} {pos p0 : Pos}
/-! ### == and != of data -/
def eqM (x y : D) : M D := guardM (x.shp && y.shp) (PL.bl (x.eqv y))
def neM (x y : D) : M D := guardM (x.shp && y.shp) (PL.bl (!x.eqv y))
theorem o_eq : OpJ X E (rEqD X.K) eqM := fun H G μ st x y dx dy Q w rx ry p => by
  obtain ⟨c, p⟩ := p.guard
  rw [Bool.and_eq_true] at c
  exact ⟨_, _, rx.dp w.imm c.1, ry.dp w.imm c.2, c.1, c.2, p.bl w⟩
theorem o_ne : OpJ X E (rNeD X.K) neM := fun H G μ st x y dx dy Q w rx ry p => by
  obtain ⟨c, p⟩ := p.guard
  rw [Bool.and_eq_true] at c
  exact ⟨_, _, rx.dp w.imm c.1, ry.dp w.imm c.2, c.1, c.2, p.bl w⟩
/-! ### in, not in: a list, a tuple -/
def rInA (K : PySem.W.Frag) (neg : Bool) : R2 := fun x y H Q => ∃ d ds, Dp K H x d ∧ (Dp K H y (.list ds) ∨ Dp K H y (.tuple ds)) ∧ SeqAt.shaped d = true ∧ PyData.canLayAll0 ds = true ∧ Q (.bl (if neg then !ds.any fun z => PyData.eqv z d else ds.any fun z => PyData.eqv z d)) H
theorem op_notInA (hu : X.A.units + 65 < cLine) : OpR X (compareOp .NotIn) (rInA X.K true) := by
  intro pins s σ H x y v u Q I rx ry ⟨d, ds, hd, he, sd, cs, q⟩
  obtain ⟨as, r1⟩ := Dp.reads I d x v hd rx
  have hr := PyProof.Rows.room_in_shaped (xs := ds) sd hu
  rcases he with he | he
  · obtain ⟨bs, r2⟩ := Dp.reads I (.list ds) y u he ry
    exact SeqAt.notIn_list_reads r2 r1 cs (SeqAt.canLay_of_shaped sd) hr ⟨.bl _, H, I, rfl, q⟩
  · obtain ⟨bs, r2⟩ := Dp.reads I (.tuple ds) y u he ry
    exact SeqAt.notIn_tuple_reads r2 r1 cs (SeqAt.canLay_of_shaped sd) hr ⟨.bl _, H, I, rfl, q⟩
def strIn (s z : Str) : Bool := match s.cps.toList with
  | [c] => decide (c ∈ z.cps.toList)
  | _ => !(Builtin.Str.occurrences z s 0 z.length 1).isEmpty
theorem strIn_eq (s z : Str) : strIn s z = !(Builtin.Str.occurrences z s 0 z.length 1).isEmpty := by
  unfold strIn
  split
  · rename_i c h
    have e : s = ⟨#[c]⟩ := by
      cases s with
      | mk cps =>
        have : cps = #[c] := by
          have h' : cps.toList = [c] := h
          exact Array.toList_inj.mp h'
        rw [this]
    rw [e]
    exact (PySem.StrLaws.found_one z c).symm
  · rfl
def inM (x y : D) : M D := match y with
  | .str z => (match x with
    | .str s => PL.bl (strIn s z)
    | _ => M.bad)
  | y => guardM (x.shp && y.shp) (match seqD y with
    | some ds => PL.bl (ds.any fun z => z.eqv x)
    | none => M.bad)
def notInM (x y : D) : M D := match y with
  | .str z => (match x with
    | .str s => PL.bl (!strIn s z)
    | _ => M.bad)
  | y => guardM (x.shp && y.shp) (match seqD y with
    | some ds => PL.bl (!ds.any fun z => z.eqv x)
    | none => M.bad)
def rInB (K : PySem.W.Frag) (neg : Bool) : R2 := fun x y H Q => rInA K neg x y H Q ∨ ∃ i j, x = .str i ∧ y = .str j ∧ Q (.bl (if neg then !(!(Builtin.Str.occurrences j i 0 j.length 1).isEmpty) else !(Builtin.Str.occurrences j i 0 j.length 1).isEmpty)) H
theorem op_notInB (hu : X.A.units + 65 < cLine) : OpR X (compareOp .NotIn) (rInB X.K true) := (op_notInA hu).or op_notIn_str
theorem any_py (ds : List D) (x : D) : ((pyL ds).any fun z => PyData.eqv z x.py) = ds.any fun z => z.eqv x := by
  rw [pyL_map, List.any_map]; rfl
theorem BRep.str {K : PySem.W.Frag} {H G : Hp} {μ : Mu} {v : V} {x : Str} (r : BRep K H G μ v (.str x)) : v = .str x := by
  rcases r with r | ⟨_, _, _, _, e, _⟩
  · cases r; rfl
  · cases e
theorem BRep.int {K : PySem.W.Frag} {H G : Hp} {μ : Mu} {v : V} {x : Int} (r : BRep K H G μ v (.int x)) : v = .int x := by
  rcases r with r | ⟨_, _, _, _, e, _⟩
  · cases r; rfl
  · cases e
theorem shp_all {ds : List D} {y : D} (h : seqD y = some ds) (c : y.shp = true) : PyData.canLayAll0 (pyL ds) = true ∧ (y.py = .list (pyL ds) ∨ y.py = .tuple (pyL ds)) := by
  have c := SeqAt.canLay_of_shaped c
  cases y with
  | tup es => cases h; exact ⟨by simpa [D.py, PyData.canLay0] using c, .inr (by unfold D.py; rfl)⟩
  | lst es => cases h; exact ⟨by simpa [D.py, PyData.canLay0] using c, .inl (by unfold D.py; rfl)⟩
  | frz es => cases h; exact ⟨by simpa [D.py, PyData.canLay0] using c, .inl (by unfold D.py; rfl)⟩
  | _ => cases h
theorem o_notIn : OpJ X E (rInB X.K true) notInM := fun H G μ st x y dx dy Q w rx ry p => by
  have gen : ∀ {dy : D}, BRep X.K H G μ y dy → Post X.w X.K X.mg E (rRep X.K) H G μ (guardM (dx.shp && dy.shp) (match seqD dy with
    | some ds => PL.bl (!ds.any fun z => z.eqv dx)
    | none => M.bad) st) Q → rInB X.K true x y H Q := fun {dy} ry p => by
    obtain ⟨c, p⟩ := p.guard
    rw [Bool.and_eq_true] at c
    cases hs : seqD dy with
    | none => rw [hs] at p; exact p.elim
    | some ds =>
      rw [hs] at p
      obtain ⟨c1, c2⟩ := shp_all hs c.2
      have dp := ry.dp w.imm c.2
      refine .inl ⟨_, pyL ds, rx.dp w.imm c.1, ?_, c.1, c1, ?_⟩
      · rcases c2 with c2 | c2
        · rw [c2] at dp; exact .inl dp
        · rw [c2] at dp; exact .inr dp
      · rw [any_py]; exact p.bl w
  cases dy with
  | str z =>
    cases dx with
    | str s => exact .inr ⟨s, z, rx.str, ry.str, by rw [← strIn_eq]; exact p.bl w⟩
    | _ => exact p.elim
  | _ => exact gen ry p
end
end PL
set_option linter.all false
set_option maxRecDepth 100000
set_option maxHeartbeats 4000000
/-! PL8: orders, arithmetic, +, subscripts, slices, len, isinstance, all, any. -/
namespace PL
open PySem PySem.Spec L2
variable {wW : World}
section
variable {X : Cx} {E : XK} {H0 : Hp} {e a b c : Expr} {f g h : En → M D} {pos p0 : Pos}
theorem BRep.bl {K : PySem.W.Frag} {H G : Hp} {μ : Mu} {v : V} {x : Bool} (r : BRep K H G μ v (.bl x)) : v = .bl x := by
  rcases r with r | ⟨_, _, _, _, e, _⟩
  · cases r; rfl
  · cases e
theorem BRep.non {K : PySem.W.Frag} {H G : Hp} {μ : Mu} {v : V} (r : BRep K H G μ v .non) : v = .non := by
  rcases r with r | ⟨_, _, _, _, e, _⟩
  · cases r; rfl
  · cases e
/-- a sequence, where it stands now -/
theorem BRep.seq {K : PySem.W.Frag} {H G : Hp} {μ : Mu} {v : V} {d : D} {ds : List D} (s : Sub G H) (r : BRep K H G μ v d) (h : seqD d = some ds) : ∃ a vs, v = .ref a ∧ (SqL K H a vs ∨ SqT K H a vs) ∧ RepL K G μ vs ds := by
  rcases r with r | ⟨a, vs, es, rfl, rfl, h1, r, _⟩
  · cases r with
    | tup h1 r => cases h; exact ⟨_, _, rfl, .inr (s.sqT h1), r⟩
    | lst h1 r => cases h; exact ⟨_, _, rfl, .inl (.inl (.inl (s _ _ h1))), r⟩
    | frz h1 r => cases h; exact ⟨_, _, rfl, .inl (s.sqL h1), r⟩
    | _ => cases h
  · cases h; exact ⟨a, vs, rfl, .inl (.inl (.inl h1)), r⟩
theorem BRep.tup {K : PySem.W.Frag} {H G : Hp} {μ : Mu} {v : V} {ds : List D} (s : Sub G H) (r : BRep K H G μ v (.tup ds)) : ∃ a vs, v = .ref a ∧ SqT K G a vs ∧ RepL K G μ vs ds := by
  rcases r with r | ⟨_, _, _, _, e, _⟩
  · cases r with
    | tup h1 r => exact ⟨_, _, rfl, h1, r⟩
  · cases e
theorem BRep.lst {K : PySem.W.Frag} {H G : Hp} {μ : Mu} {v : V} {ds : List D} (s : Sub G H) (r : BRep K H G μ v (.lst ds)) : ∃ a vs, v = .ref a ∧ H a = some (.lst vs) ∧ RepL K G μ vs ds := by
  rcases r with r | ⟨a, vs, es, rfl, e, h1, r, _⟩
  · cases r with
    | lst h1 r => exact ⟨_, _, rfl, s _ _ h1, r⟩
  · cases e; exact ⟨a, vs, rfl, h1, r⟩
/-! ### orders -/
def ltS (i j : Str) : Bool := decide (i.cps.toList < j.cps.toList)
def ltM (x y : D) : M D := match x, y with
  | .int i, .int j => PL.bl (decide (i < j))
  | .str i, .str j => PL.bl (ltS i j)
  | _, _ => M.bad
def leM (x y : D) : M D := match x, y with
  | .int i, .int j => PL.bl (decide (i ≤ j))
  | .str i, .str j => PL.bl (!ltS j i)
  | _, _ => M.bad
def gtM (x y : D) : M D := match x, y with
  | .int i, .int j => PL.bl (decide (j < i))
  | .str i, .str j => PL.bl (ltS j i)
  | _, _ => M.bad
def geM (x y : D) : M D := match x, y with
  | .int i, .int j => PL.bl (decide (j ≤ i))
  | .str i, .str j => PL.bl (!ltS i j)
  | _, _ => M.bad
/-- two ints, or two texts -/
def rOrd (p : Int → Int → Bool) (q : Str → Str → Bool) : R2 := fun x y H Q => rI0 (fun i j => .bl (p i j)) x y H Q ∨ ∃ i j, x = .str i ∧ y = .str j ∧ Q (.bl (q i j)) H
def ordM (p : Int → Int → Bool) (q : Str → Str → Bool) (x y : D) : M D := match x, y with
  | .int i, .int j => PL.bl (p i j)
  | .str i, .str j => PL.bl (q i j)
  | _, _ => M.bad
theorem o_ord {p : Int → Int → Bool} {q : Str → Str → Bool} : OpJ X E (rOrd p q) (ordM p q) := fun H G μ st x y dx dy Q w rx ry h => by
  cases dx with
  | int i =>
    cases dy with
    | int j => exact .inl ⟨i, j, rx.int, ry.int, h.bl w⟩
    | _ => exact h.elim
  | str i =>
    cases dy with
    | str j => exact .inr ⟨i, j, rx.str, ry.str, h.bl w⟩
    | _ => exact h.elim
  | _ => cases dy <;> exact h.elim
theorem op_ltO : OpR X (compareOp .Lt) (rOrd (fun i j => decide (i < j)) ltS) := op_lt.or op_lt_str
theorem op_gtO : OpR X (compareOp .Gt) (rOrd (fun i j => decide (j < i)) fun i j => ltS j i) := op_gt.or op_gt_str
theorem op_geO : OpR X (compareOp .GtE) (rOrd (fun i j => decide (j ≤ i)) fun i j => !ltS i j) := op_ge.or op_ge_str
theorem o_lt : OpJ X E (rOrd (fun i j => decide (i < j)) ltS) ltM := o_ord
theorem o_gt : OpJ X E (rOrd (fun i j => decide (j < i)) fun i j => ltS j i) gtM := o_ord
theorem o_ge : OpJ X E (rOrd (fun i j => decide (j ≤ i)) fun i j => !ltS i j) geM := o_ord
/-- a op b op' c -/
def eCh (p q : D → D → M D) (f g h : En → M D) : En → M D := fun ρ => (f ρ).bind fun x => (g ρ).bind fun y => (p x y).bind fun z => match z with
  | .bl true => (h ρ).bind fun u => q y u
  | .bl false => M.pure (.bl false)
  | _ => M.bad
/-! ### arithmetic -/
def int2 (C : Int → Int → Bool) (p : Int → Int → Int) (x y : D) : M D := match x, y with
  | .int i, .int j => guardM (C i j) (M.pure (.int (p i j)))
  | _, _ => M.bad
theorem o_int {C : Int → Int → Prop} {C' : Int → Int → Bool} {p : Int → Int → Int} (hC : ∀ i j, C' i j = true → C i j) : OpJ X E (rI C fun i j => .int (p i j)) (int2 C' p) := fun H G μ st x y dx dy Q w rx ry h => by
  cases dx with
  | int i =>
    cases dy with
    | int j =>
      obtain ⟨c, h⟩ := Post.guard h
      exact ⟨i, j, rx.int, ry.int, hC i j c, h _ _ _ _ w .refl (.int _)⟩
    | _ => exact h.elim
  | _ => cases dy <;> exact h.elim
theorem o_int0 {p : Int → Int → Int} : OpJ X E (rI0 fun i j => .int (p i j)) (int2 (fun _ _ => true) p) := fun H G μ st x y dx dy Q w rx ry h => by
  cases dx with
  | int i =>
    cases dy with
    | int j =>
      obtain ⟨c, h⟩ := Post.guard h
      exact ⟨i, j, rx.int, ry.int, h _ _ _ _ w .refl (.int _)⟩
    | _ => exact h.elim
  | _ => cases dy <;> exact h.elim
abbrev subM := int2 (fun _ _ => true) fun i j => i - j
abbrev mulM := int2 (fun i j => decide ((-(2 ^ 64) < i ∧ i < 2 ^ 64) ∨ (-(2 ^ 64) < j ∧ j < 2 ^ 64))) fun i j => i * j
abbrev fdivM := int2 (fun _ j => decide (0 < j ∧ j < 1073741824)) fun i j => i / j
abbrev modM := int2 (fun _ j => decide (0 < j)) fun i j => i % j
abbrev powM := int2 (fun i j => decide (0 ≤ j ∧ j ≤ 1000000 ∧ i.natAbs < 2 ^ 64)) fun i j => i ^ j.toNat
theorem o_sub : OpJ X E (rI0 fun i j => .int (i - j)) subM := o_int0
theorem o_mul : OpJ X E (rI CMul fun i j => .int (i * j)) mulM := o_int fun i j h => by have q := of_decide_eq_true h; exact q
theorem o_fdiv : OpJ X E (rI CDiv fun i j => .int (i / j)) fdivM := o_int fun i j h => by have q := of_decide_eq_true h; exact q
theorem o_mod : OpJ X E (rI (fun _ j => 0 < j) fun i j => .int (i % j)) modM := o_int fun _ _ h => of_decide_eq_true h
theorem o_pow : OpJ X E (rI CPow fun i j => .int (i ^ j.toNat)) powM := o_int fun i j h => by have q := of_decide_eq_true h; exact q
/-- a + b: ints, texts, tuples -/
def addM (x y : D) : M D := match x, y with
  | .int i, .int j => M.pure (.int (i + j))
  | .str i, .str j => (line (i.length + j.length)).bind fun _ => M.pure (.str (i ++ j))
  | .tup xs, .tup ys => (line (xs.length + ys.length)).bind fun _ => M.pure (.tup (xs ++ ys))
  | .lst xs, .lst ys => (line (xs.length + ys.length)).bind fun _ => M.pure (.lst (xs ++ ys))
  | _, _ => M.bad
def rAddA (K : PySem.W.Frag) : R2 := fun x y H Q => rI0 (fun i j => .int (i + j)) x y H Q ∨ (∃ i j, x = .str i ∧ y = .str j ∧ i.length + j.length ≤ sizeLine ∧ Q (.str (i ++ j)) H) ∨ rCatA K x y H Q ∨ rCat x y H Q
theorem op_addA : OpR X (binaryOp .Add) (rAddA X.K) := op_add.or (op_add_str.or (op_catA.or op_cat))
theorem o_add : OpJ X E (rAddA X.K) addM := fun H G μ st x y dx dy Q w rx ry h => by
  cases dx with
  | int i =>
    cases dy with
    | int j => exact .inl ⟨i, j, rx.int, ry.int, h _ _ _ _ w .refl (.int _)⟩
    | _ => exact h.elim
  | str i =>
    cases dy with
    | str j =>
      obtain ⟨c, h⟩ := Post.line (X := X) h
      exact .inr (.inl ⟨i, j, rx.str, ry.str, c, h _ _ _ _ w .refl (.str _)⟩)
    | _ => exact h.elim
  | tup xs =>
    cases dy with
    | tup ys =>
      obtain ⟨c, h⟩ := Post.line (X := X) h
      obtain ⟨p, vs, rfl, h1, r1⟩ := rx.tup w.imm
      obtain ⟨q, us, rfl, h2, r2⟩ := ry.tup w.imm
      refine .inr (.inr (.inl ⟨p, q, vs, us, rfl, rfl, w.imm.sqT h1, w.imm.sqT h2, by rw [RepL.length r1, RepL.length r2]; exact c, fun e => ?_, fun _ e => ?_, fun _ _ l hl => ?_⟩))
      · subst e; cases r1; exact h _ _ _ _ w .refl (.tup h2 r2)
      · subst e; cases r2; rw [List.append_nil] at h; exact h _ _ _ _ w .refl (.tup h1 r1)
      · obtain ⟨w2, s2⟩ := w.new (o := .tup (vs ++ us)) hl
        exact h _ _ _ _ w2 s2 (.tup (.inl (.inl upd_same)) ((r1.append r2).mono s2.g s2.m))
    | _ => exact h.elim
  | lst xs =>
    cases dy with
    | lst ys =>
      obtain ⟨c, h⟩ := Post.line (X := X) h
      obtain ⟨p, vs, rfl, h1, r1⟩ := rx.lst w.imm
      obtain ⟨q, us, rfl, h2, r2⟩ := ry.lst w.imm
      refine .inr (.inr (.inr ⟨p, q, vs, us, rfl, rfl, h1, h2, by rw [RepL.length r1, RepL.length r2]; exact c, fun l hl => ?_⟩))
      obtain ⟨w2, s2⟩ := w.new (o := .lst (vs ++ us)) hl
      exact h _ _ _ _ w2 s2 (.lst upd_same ((r1.append r2).mono s2.g s2.m))
    | _ => exact h.elim
  | _ => cases dy <;> exact h.elim
def eNeg (f : En → M D) : En → M D := fun ρ => (f ρ).bind fun d => match d with
  | .int i => M.pure (.int (-i))
  | _ => M.bad
theorem je_neg (ha : JE X E H0 f a) : JE X E H0 (eNeg f) (.UnaryOp .USub a pos) := PE.imp (pe_un un_neg ha) fun σ H Q ⟨G, μ, st, ρ, w, er, q⟩ =>
  ⟨G, μ, st, ρ, w, er, Post.bind q fun d st1 x H1 G1 μ1 w1 s1 r1 q1 => by
    cases r1 with
    | int i => exact ⟨i, rfl, q1 _ _ _ _ w1 .refl (.int _)⟩
    | _ => exact q1.elim⟩
/-! ### len -/
def lenM (x : D) : M D := match x with
  | .str s => (line s.length).bind fun _ => M.pure (.int s.length)
  | x => (opt (seqD x)).bind fun ds => M.pure (.int ds.length)
theorem c_len : C1J X E (fun xs H Q => ∃ x n, xs = [x] ∧ LenV X.K x H n ∧ Q (.int n) H) lenM := fun H G μ st x dx Q w rx h => by
  have gen : ∀ {dx : D}, BRep X.K H G μ x dx → Post X.w X.K X.mg E (rRep X.K) H G μ ((opt (seqD dx)).bind (fun ds => M.pure (.int ds.length)) st) Q → ∃ x' n, [x] = [x'] ∧ LenV X.K x' H n ∧ Q (.int n) H := fun rx h => by
    obtain ⟨ds, hs, h⟩ := Post.opt h
    obtain ⟨p, vs, rfl, hq, r⟩ := rx.seq w.imm hs
    refine ⟨_, vs.length, rfl, hq.imp (fun h => ⟨vs, h, rfl⟩) (fun h => ⟨vs, h, rfl⟩), ?_⟩
    rw [RepL.length r]
    exact h _ _ _ _ w .refl (.int _)
  cases dx with
  | str s =>
    obtain ⟨c, h⟩ := Post.line (X := X) h
    cases rx.str
    exact ⟨_, s.length, rfl, ⟨c, rfl⟩, h _ _ _ _ w .refl (.int _)⟩
  | _ => exact gen rx h
/-! ### subscripts -/
def ixM (x y : D) : M D := match y with
  | .int i => (match x with
    | .str s => (line s.length).bind fun _ => (opt (atI s.cps.toList i)).bind fun c => M.pure (.str ⟨#[c]⟩)
    | x => (opt (seqD x)).bind fun ds => opt (atI ds i))
  | _ => M.bad
theorem RepL.atI {K : PySem.W.Frag} {G : Hp} {μ : Mu} {vs : List V} {ds : List D} {i : Int} {d : D} (r : RepL K G μ vs ds) (h : L2.atI ds i = some d) : ∃ v, L2.atI vs i = some v ∧ Rep K G μ v d := by
  unfold L2.atI at h ⊢
  rw [RepL.length r]
  cases e : ixN ds.length i with
  | none => rw [e] at h; cases h
  | some j =>
    rw [e] at h
    obtain ⟨v, h1, h2⟩ := r.get (i := j) h
    exact ⟨v, h1, h2⟩
theorem o_ix : OpJ X E (rIx X.K) ixM := fun H G μ st x y dx dy Q w rx ry h => by
  cases dy with
  | int i =>
    cases ry.int
    have gen : ∀ {dx : D}, BRep X.K H G μ x dx → Post X.w X.K X.mg E (rRep X.K) H G μ ((opt (seqD dx)).bind (fun ds => opt (atI ds i)) st) Q → rIx X.K x (.int i) H Q := fun rx h => by
      obtain ⟨ds, hs, h⟩ := Post.opt h
      obtain ⟨p, vs, rfl, hq, r⟩ := rx.seq w.imm hs
      cases e : L2.atI ds i with
      | none => rw [e] at h; exact h.elim
      | some d =>
        rw [e] at h
        obtain ⟨v, h1, h2⟩ := r.atI e
        rcases hq with hq | hq
        · exact .inl ⟨p, vs, i, v, rfl, rfl, hq, h1, h _ _ _ _ w .refl h2⟩
        · exact .inr (.inl ⟨p, vs, i, v, rfl, rfl, hq, h1, h _ _ _ _ w .refl h2⟩)
    cases dx with
    | str s =>
      obtain ⟨c, h⟩ := Post.line (X := X) h
      obtain ⟨k, hk, h⟩ := Post.opt h
      cases rx.str
      exact .inr (.inr ⟨s, i, k, rfl, rfl, c, hk, h _ _ _ _ w .refl (.str _)⟩)
    | _ => exact gen rx h
  | _ => exact h.elim
/-! ### slices -/
def cutD (ds : List D) (lo hi : Option Int) : List D := (ds.drop (HT.sIx ds.length 0 lo)).take (HT.sIx ds.length ds.length hi - HT.sIx ds.length 0 lo)
theorem RepL.cut {K : PySem.W.Frag} {G : Hp} {μ : Mu} {vs : List V} {ds : List D} (r : RepL K G μ vs ds) (lo hi : Option Int) : RepL K G μ (cutV vs lo hi) (cutD ds lo hi) := by
  unfold cutV cutD
  rw [RepL.length r]
  exact (r.drop _).take _
/-- a part of a slice -/
def oNo : En → M (Option Int) := fun _ => M.pure none
def oSo (f : En → M D) : En → M (Option Int) := fun ρ => (f ρ).bind fun d => match d with
  | .int i => M.pure (some i)
  | _ => M.bad
def rEq {α : Type} : RR α α := ⟨fun _ _ _ _ v d => v = d, fun _ h => h⟩
def JO (X : Cx) (E : XK) (H0 : Hp) (f : En → M (Option Int)) (e : Option Expr) : Prop := PO X e (Se X E H0 rEq f)
theorem PO.imp {o : Option Expr} {t t' : TO} (h : PO X o t) (q : ∀ σ H Q, t' σ H Q → t σ H Q) : PO X o t' := ⟨fun pins s σ H Q I x => h.run pins s σ H Q I (q _ _ _ x)⟩
theorem jo_no : JO X E H0 oNo none := PO.imp po_none fun σ H Q ⟨G, μ, st, ρ, w, er, q⟩ => q none H G μ w .refl rfl
theorem jo_so (ha : JE X E H0 f e) : JO X E H0 (oSo f) (some e) := PO.imp (po_some ha) fun σ H Q ⟨G, μ, st, ρ, w, er, q⟩ =>
  ⟨G, μ, st, ρ, w, er, Post.bind q fun d st1 x H1 G1 μ1 w1 s1 r1 q1 => by
    cases r1 with
    | int i => exact ⟨i, rfl, q1 _ _ _ _ w1 .refl rfl⟩
    | _ => exact q1.elim⟩
/-- x[lo:hi] of a tuple, a text, a list -/
def slM (x : D) (lo hi : Option Int) : M D := match x with
  | .str s => (line s.length).bind fun _ => M.pure (.str (cutS s lo hi))
  | .tup ds => M.pure (.tup (cutD ds lo hi))
  | .lst ds => M.pure (.lst (cutD ds lo hi))
  | .frz ds => M.pure (.lst (cutD ds lo hi))
  | _ => M.bad
def eSl (f : En → M D) (lo hi : En → M (Option Int)) : En → M D := fun ρ => (f ρ).bind fun x => (lo ρ).bind fun l => (hi ρ).bind fun h => slM x l h
def rSlB (K : PySem.W.Frag) : V → Option Int → Option Int → Hp → VK → Prop := fun x lo hi H Q => rSlS x lo hi H Q ∨ rSlA K x lo hi H Q ∨ rSlL K x lo hi H Q
theorem sl_any : SlR X (rSlB X.K) := sl_str.or (sl_tupA.or sl_list)
theorem je_slice {lo hi : Option Expr} {fl fh : En → M (Option Int)} {p2 : Pos} (ha : JB X E H0 f e) (hl : JO X E H0 fl lo) (hh : JO X E H0 fh hi) : JE X E H0 (eSl f fl fh) (.Subscript e (.Slice lo hi none p2) pos) := by
  refine PE.imp (pe_slice sl_any ha hl hh) fun σ H Q ⟨G, μ, st, ρ, w, er, q⟩ => ?_
  refine ⟨G, μ, st, ρ, w, er, Post.bind q fun dx st1 x H1 G1 μ1 w1 s1 r1 q1 => ?_⟩
  refine ⟨G1, μ1, st1, ρ, w1, er.step s1, Post.bind q1 fun l st2 l' H2 G2 μ2 w2 s2 r2 q2 => ?_⟩
  refine ⟨G2, μ2, st2, ρ, w2, (er.step s1).step s2, Post.bind q2 fun u st3 u' H3 G3 μ3 w3 s3 r3 q3 => ?_⟩
  cases r2
  cases r3
  have rx := ((r1.step s2).step s3).weak
  have mkL : ∀ {a : Addr} {vs : List V} {ds : List D}, x = .ref a → SqL X.K H3 a vs → RepL X.K G3 μ3 vs ds → Post X.w X.K X.mg E (rRep X.K) H3 G3 μ3 (M.pure (.lst (cutD ds l u)) st3) Q → rSlB X.K x l u H3 Q := fun {a vs ds} e h r q => by
    subst e
    refine .inr (.inr ⟨a, vs, rfl, h, fun p hp => ?_⟩)
    obtain ⟨w4, s4⟩ := w3.new (o := .lst (cutV vs l u)) hp
    exact q _ _ _ _ w4 s4 (.lst upd_same ((r.cut l u).mono s4.g s4.m))
  cases dx with
  | str s =>
    obtain ⟨c, q3⟩ := Post.line (X := X) q3
    cases rx.str
    exact .inl ⟨s, rfl, c, q3 _ _ _ _ w3 .refl (.str _)⟩
  | tup ds =>
    obtain ⟨a, vs, rfl, h1, r⟩ := rx.tup w3.imm
    refine .inr (.inl ⟨a, vs, rfl, w3.imm.sqT h1, fun hw => ?_, fun _ p hp => ?_⟩)
    · have e : cutD ds l u = ds := by
        unfold cutD
        rw [← RepL.length r, hw.1, hw.2, List.drop_zero, Nat.sub_zero, RepL.length r, List.take_length]
      have q4 : Post X.w X.K X.mg E (rRep X.K) H3 G3 μ3 (M.pure (.tup (cutD ds l u)) st3) Q := q3
      rw [e] at q4
      exact q4 _ _ _ _ w3 .refl (.tup h1 r)
    · obtain ⟨w4, s4⟩ := w3.new (o := .tup (cutV vs l u)) hp
      exact q3 _ _ _ _ w4 s4 (.tup (.inl (.inl upd_same)) ((r.cut l u).mono s4.g s4.m))
  | lst ds =>
    obtain ⟨a, vs, rfl, h1, r⟩ := rx.lst w3.imm
    exact mkL rfl (.inl (.inl h1)) r q3
  | frz ds =>
    rcases rx with rx | ⟨_, _, _, _, e, _⟩
    · cases rx with
      | frz h1 r => exact mkL rfl (w3.imm.sqL h1) r q3
    · cases e
  | _ => exact q3.elim
/-! ### isinstance -/
def tyN : D → Option String
  | .non => some "NoneType"
  | .bl _ => some "bool"
  | .int _ => some "int"
  | .str _ => some "str"
  | .tup _ => some "tuple"
  | .lst _ => some "list"
  | .frz _ => some "list"
  | .ref _ => none
def isiM (T : String) (d : D) : M D := match tyN d with
  | some t => (match kitB t T with
    | some b => PL.bl b
    | none => M.bad)
  | none => M.bad
theorem Rep.ty {K : PySem.W.Frag} {H G : Hp} {μ : Mu} {v : V} {d : D} {t : String} (s : Sub G H) (r : Rep K G μ v d) (h : tyN d = some t) : TyX K H v (.type t) := by
  cases r with
  | non => cases h; exact .base .non
  | bl b => cases h; exact .base (.bl b)
  | int b => cases h; exact .base (.int b)
  | str b => cases h; exact .base (.str b)
  | tup h1 _ =>
    cases h
    rcases s.sqT h1 with (q | ⟨o, q⟩) | ⟨o, its, n, q, c, _⟩
    · exact .base (.tup q)
    · exact .fTuple q
    · exact .kTuple q c
  | lst h1 _ => cases h; exact .base (.lst (s _ _ h1))
  | frz h1 _ =>
    cases h
    rcases s.sqL h1 with (q | ⟨o, q⟩) | ⟨o, its, n, q, c, _⟩
    · exact .base (.lst q)
    · exact .base (.frz q)
    · exact .kList q c
  | ref _ => cases h
theorem je_isi {T : String} {x : Str} {pI pT : Pos} (hg : Gl X "isinstance") (hm : X.mg "isinstance" = none) (hgT : Gl X x) (hmT : X.mg x = none) (hvT : bootBuiltins x = some (.type T)) (ha : JE X E H0 f e) (hn : x ≠ "__name__" := by decide) (hdb : (x == ("__debug__" : Str)) = false := by decide)
    (hs : starEach [e, .Name x pT] X.env = (false, eval e X.env) :: starEach [.Name x pT] X.env := by rfl) (hs2 : starEach [.Name x pT] X.env = (false, eval (.Name x pT) X.env) :: starEach [] X.env := by rfl) (hpl : (backTo pos (starEach [.Name x pT] X.env)).any (·.1) = false := by rfl) :
    JE X E H0 (e1 (isiM T) f) (.Call (.Name "isinstance" pI) [e, .Name x pT] [] pos) := by
  refine PE.imp (pe_callB call_isi hg hm (by decide +kernel) (pa_cons ha (pa_cons (pe_bltn (v := .ty T) hgT hmT hvT rfl hn hdb) pa_nil hs2) hs) (by decide) (by decide) hs hpl) fun σ H Q ⟨G, μ, st, ρ, w, er, q⟩ => ?_
  refine ⟨G, μ, st, ρ, w, er, Post.bind q fun d st1 x H1 G1 μ1 w1 s1 r1 q1 => ?_⟩
  unfold isiM at q1
  cases ht : tyN d with
  | none => rw [ht] at q1; exact q1.elim
  | some t =>
    rw [ht] at q1
    cases hb : kitB t T with
    | none => simp only [hb] at q1; exact q1.elim
    | some b =>
      simp only [hb] at q1
      exact ⟨x, .ty T, .type t, .type T, b, rfl, .ty T, r1.ty w1.imm ht, kit_ty hb, q1.bl w1⟩
/-! ### all, any -/
def bools : List D → Option (List Bool)
  | [] => some []
  | .bl b :: ds => (bools ds).map (b :: ·)
  | _ => none
theorem bools_rep {K : PySem.W.Frag} {G : Hp} {μ : Mu} : ∀ {vs : List V} {ds : List D} {bs : List Bool}, RepL K G μ vs ds → bools ds = some bs → vs = bs.map V.bl
  | _, [], _, .nil, h => by unfold bools at h; cases h; rfl
  | _, _ :: ds, _, .cons r0 r, h => by
    cases r0 with
    | bl b =>
      unfold bools at h
      cases e : bools ds with
      | none => rw [e] at h; cases h
      | some bs => rw [e] at h; cases h; rw [bools_rep r e]; rfl
    | _ => (unfold bools at h; cases h)
def allM (d : D) : M D := match d with
  | .lst ds => (opt (bools ds)).bind fun bs => PL.bl (bs.all id)
  | _ => M.bad
theorem c_all : C1J X E (rAll X.K) allM := fun H G μ st x dx Q w rx h => by
  cases dx with
  | lst ds =>
    obtain ⟨bs, hb, h⟩ := Post.opt h
    obtain ⟨p, vs, rfl, hq, r⟩ := rx.lst w.imm
    have e := bools_rep r hb
    subst e
    exact ⟨p, bs, rfl, .inl (.inl hq), h.bl w⟩
  | _ => exact h.elim
end
end PL
set_option linter.all false
set_option maxRecDepth 100000
set_option maxHeartbeats 4000000
/-! PL9: short words for a printed text: own defs by name, slots, tests; append and extend of a slot's list. -/
namespace PL
open PySem PySem.Spec L2
variable {wW : World}
/-- a def of the text that may be called by its name -/
structure Own (P : Program) (w : World) (K : PySem.W.Frag) (mg : Str → Option Value) (base : Heap) (k : Nat) (x : Str) (ps : List Str) (sem : List D → M D) : Prop where
  ex : ∃ fa fd, FnOk P w K mg base (L2.CX P w) k fa fd ps (SpOf w K mg ps.length sem) ∧ mg x = some (.ref fa) ∧ PySem.W.keepIn K (.ref fa) = true ∧ (∀ us : List Value, us.length = ps.length → bindArgs fd ⟨us, []⟩ = pure (ps.zip us)) ∧ ∃ oc od sl, K.lookup fa = some ⟨oc, od, .func fd, sl⟩
/-- .. as it stands behind the top -/
structure Fn0 (K : PySem.W.Frag) (mg : Str → Option Value) (x : Str) (st : Stmt) (ps : List Str) : Prop where
  ex : ∃ fa fd, Fun K x x st fa fd ∧ mg x = some (.ref fa) ∧ ∀ us : List Value, us.length = ps.length → bindArgs fd ⟨us, []⟩ = pure (ps.zip us)
theorem Own.mono {P : Program} {w : World} {K : PySem.W.Frag} {mg : Str → Option Value} {base : Heap} {j k : Nat} {x : Str} {ps : List Str} {sem : List D → M D} (o : Own P w K mg base j x ps sem) (h : j ≤ k) : Own P w K mg base k x ps sem :=
  let ⟨fa, fd, F, m, kp, b⟩ := o.ex; ⟨fa, fd, F.mono h, m, kp, b⟩
theorem Own.sem {P : Program} {w : World} {K : PySem.W.Frag} {mg : Str → Option Value} {base : Heap} {k : Nat} {x : Str} {ps : List Str} {s1 s2 : List D → M D} (o : Own P w K mg base k x ps s1) (h : ∀ ds, ds.length = ps.length → s1 ds = s2 ds) : Own P w K mg base k x ps s2 :=
  let ⟨fa, fd, F, m, kp, b⟩ := o.ex; ⟨fa, fd, FnOk.sem F h, m, kp, b⟩
theorem Fun.lk {K : PySem.W.Frag} {x y : Str} {st : Stmt} {fa : Addr} {fd : FuncData} (F : L2.Fun K x y st fa fd) : ∃ oc od sl, K.lookup fa = some ⟨oc, od, .func fd, sl⟩ := let ⟨oc, od, _, _, _, _, _, _, sl, _, l, _⟩ := F.ex; ⟨oc, od, sl, l⟩
theorem own_def {P : Program} {w : World} {K : PySem.W.Frag} {mg : Str → Option Value} {base : Heap} {k : Nat} {x : Str} {st : Stmt} {N ps : List Str} {f : En → M (Fl × En)} (F : Fn0 K mg x st ps) (S : FnScope N ps (defScope st))
    (body : ∀ (fa : Addr) (cdv : Value) (A : Around) (outer : List Env) (s : Shared) (H G : Hp) (μ : Mu) (E : XK), Room k (A.deeper (PyProof.Rows.envOfC x (defScope st) s.heap.objs.size fa cdv)) →
      JSs (cxOf (L2.CX P w) P w K mg base N x (defScope st) fa cdv A outer s H E) E ⟨H, G, μ⟩ f (defBody st)) :
    Own P w K mg base (k + 1) x ps (runB N.length f) := by
  obtain ⟨fa, fd, F, m, b⟩ := F.ex
  exact ⟨fa, fd, def_ok F S (body fa), m, F.kp, b, Fun.lk F⟩
theorem hv_of {A : Around} {k : Nat} (hr : Room k A) : A.units + 65 < cLine := by have := hr.un; omega
section
variable {X : Cx} {E : XK} {H0 : Hp} {e a b c : Expr} {f g h : En → M D} {es : List Expr} {pos p p0 : Pos} {x : Str} {ga : En → M (List D)}
theorem jv (i : Nat) {x : Str} {pos : Pos} (hN : X.N[i]? = some x := by rfl) (hv : Vis X.env.scope x := by first | exact Or.inl rfl | exact Or.inr (Or.inl rfl) | exact Or.inr (Or.inr rfl)) (hd : (x == ("__debug__" : Str)) = false := by decide)
    (hcd : (x == ("__classdict__" : Str)) = false := by decide) : JE X E H0 (eVar i) (.Name x pos) := je_var hN hv hd hcd
theorem jw (i : Nat) {x : Str} {pos : Pos} (hN : X.N[i]? = some x := by rfl) (hv : Vis X.env.scope x := by first | exact Or.inl rfl | exact Or.inr (Or.inl rfl) | exact Or.inr (Or.inr rfl)) (hd : (x == ("__debug__" : Str)) = false := by decide)
    (hcd : (x == ("__classdict__" : Str)) = false := by decide) : JB X E H0 (eLook i) (.Name x pos) := jb_look hN hv hd hcd
theorem jcall {k n : Nat} {ps : List Str} {sem : List D → M D} (C : Own X.prog X.w X.K X.mg X.base k x ps sem) (hr : Room k X.A) (hx : Passes (L2.CX X.prog X.w) X E) (ha : JA X E H0 ga (e :: es)) (hg : Gl X x := by rfl) (hdb : (x == ("__debug__" : Str)) = false := by decide)
    (he : starEach (e :: es) X.env = (false, eval e X.env) :: starEach es X.env := by rfl) (hpl : (backTo pos (starEach es X.env)).any (·.1) = false := by rfl) (hn : ps.length = n := by rfl) : JE X E H0 (eCall n sem ga) (.Call (.Name x p) (e :: es) [] pos) := by
  subst hn
  obtain ⟨fa, fd, F, m, kp, b, _⟩ := C.ex
  exact je_call F hr hg m kp (.all b) hx ha hdb he hpl
/-- in a block nothing leaves -/
theorem px : Passes (L2.CX X.prog X.w) X xNo := passL
/-- a def's body lets out what its caller takes -/
theorem pd (hs : X.stack = X.env :: X.outer) (hf : X.env.frame = some X.env.locals) (hex : X.ex = []) {E₁ : Value → Shared → Prop}
    (hx : X.xe = fun e s' => wpAny (model X.prog X.w) X.A (leaving X.env e) (fun _ s'' => L2.CX X.prog X.w X.outer X.H_0 X.s_0 E e s'') E₁ s') : Passes (L2.CX X.prog X.w) X E := passes_call (takes_of hs hf hex hx) fun _ _ _ _ h => h
/-! ### append, extend -/
variable {Φ : Ent} {i : Nat}
def sApp (i : Nat) (f : En → M D) : En → M (Fl × En) := fun ρ => match ρ[i]? with
  | some (.own ds) => (f ρ).bind fun d => (line (ds.length + 1)).bind fun _ => put i (.own (ds ++ [d])) ρ
  | _ => M.bad
def sExt (i : Nat) (f : En → M D) : En → M (Fl × En) := fun ρ => match ρ[i]? with
  | some (.own ds) => (f ρ).bind fun d => match d with
    | .lst es => (line (ds.length + es.length)).bind fun _ => put i (.own (ds ++ es)) ρ
    | _ => M.bad
  | _ => M.bad
theorem ER.upd {K : PySem.W.Frag} {H G H0 : Hp} {μ : Mu} {ρ : En} {σ : L2.St} (er : ER K H G μ H0 ρ σ) {ds : List D} (hi : ρ[i]? = some (.own ds)) {a : Addr} (ha : σ[i]? = some (some (.ref a))) {ws : List V} {es : List D} (r : RepL K G μ ws es)
    (g : G a = none) (n : ∀ k, μ k ≠ some a) (h0 : H0 a = none) : ER K (upd H a (.lst ws)) G μ H0 (ρ.set i (.own es)) σ where
  val := fun j d q => by
    have hl := (List.getElem?_eq_some_iff.mp hi).1
    by_cases hj : i = j
    · subst hj; rw [List.getElem?_set_self hl] at q; cases q
    · rw [List.getElem?_set_ne hj] at q; exact er.val j d q
  own := fun j ds' q => by
    have hl := (List.getElem?_eq_some_iff.mp hi).1
    by_cases hj : i = j
    · subst hj
      rw [List.getElem?_set_self hl] at q
      cases q
      exact ⟨a, ws, ha, upd_same, r, g, n, h0⟩
    · rw [List.getElem?_set_ne hj] at q
      obtain ⟨b, us, h1, h2, h3⟩ := er.own j ds' q
      have ne : b ≠ a := fun z => hj (er.inj i j ds ds' a hi q ha (by rw [h1, z]))
      exact ⟨b, us, h1, by rw [upd_ne ne]; exact h2, h3⟩
  inj := fun j k ds' es' b q1 q2 z1 z2 => by
    have hl := (List.getElem?_eq_some_iff.mp hi).1
    have back : ∀ {j : Nat} {es' : List D}, (ρ.set i (Slot.own es))[j]? = some (.own es') → ∃ fs, ρ[j]? = some (.own fs) := fun {j es'} q => by
      by_cases hj : i = j
      · subst hj; exact ⟨_, hi⟩
      · rw [List.getElem?_set_ne hj] at q; exact ⟨_, q⟩
    obtain ⟨_, b1⟩ := back q1
    obtain ⟨_, b2⟩ := back q2
    exact er.inj j k _ _ b b1 b2 z1 z2
  len := by rw [List.length_set]; exact er.len
  old := fun b o h => by
    by_cases hb : b = a
    · subst hb; exact ⟨_, upd_same⟩
    · obtain ⟨o', h'⟩ := er.old b o h; exact ⟨o', by rw [upd_ne hb]; exact h'⟩
theorem upd_end {Dn : Ends} {ρ : En} {σ : L2.St} {H G : Hp} {μ : Mu} {st : Sto} {ds es : List D} (w : Wd X.w X.K H G μ st) (er : ER X.K H G μ Φ.H ρ σ) (s : Stp Φ.H Φ.G Φ.μ H G μ) (hi : ρ[i]? = some (.own ds)) (q : PostS X E Φ Dn (put i (.own es) ρ st)) :
    ∃ a vs, σ[i]? = some (some (.ref a)) ∧ H a = some (.lst vs) ∧ RepL X.K G μ vs ds ∧ ∀ ws, RepL X.K G μ ws es → Dn.nx σ (upd H a (.lst ws)) := by
  obtain ⟨a, vs, h1, h2, h3, h4, h5, h6⟩ := er.own i ds hi
  refine ⟨a, vs, h1, h2, h3, fun ws r => ?_⟩
  unfold put at q
  have hl := (List.getElem?_eq_some_iff.mp hi).1
  rw [if_pos hl] at q
  exact q.nx (w.over h4 h5) (er.upd hi h1 r h4 h5 h6) (s.over h6)
theorem PostS.line {n : Nat} {m : M (Fl × En)} {st : Sto} {Dn : Ends} (p : PostS X E Φ Dn ((line n).bind (fun _ => m) st)) : n ≤ sizeLine ∧ PostS X E Φ Dn (m st) := by
  unfold M.bind PL.line at p
  by_cases h : n ≤ sizeLine
  · simp only [if_pos h] at p; exact ⟨h, p⟩
  · simp only [if_neg h] at p; exact p.elim
theorem js_app {x : Str} {p1 p2 pc ps : Pos} (hN : X.N[i]? = some x) (hv : Vis X.env.scope x) (he : JE X E Φ.H f e) (hd : (x == ("__debug__" : Str)) = false := by decide) (hcd : (x == ("__classdict__" : Str)) = false := by decide)
    (hb : ∀ {to : TE} {t : TA}, PE X (.Name x p1) to → PA X [e] t → PE X (.Call (.Attribute (.Name x p1) "append" p2) [e] [] pc) (tBM X.K "list" rAppend to t)) (ha : starEach [e] X.env = (false, eval e X.env) :: starEach [] X.env := by rfl)
    (hs : swapsWith (.Call (.Attribute (.Name x p1) "append" p2) [e] [] pc) none ps.line X.env = pure false := by rfl) : JS X E Φ (sApp i f) (.Expr (.Call (.Attribute (.Name x p1) "append" p2) [e] [] pc) ps) := by
  refine PS.imp (ps_expr (hb (pe_var hN hv hd hcd) (pa_one he ha)) hs) fun Dn σ H ⟨G, μ, st, ρ, w, er, s, q⟩ => ?_
  unfold sApp at q
  cases hi : ρ[i]? with
  | none => rw [hi] at q; exact q.elim
  | some x0 =>
   rw [hi] at q
   cases x0 with
   | no => exact q.elim
   | val d => exact q.elim
   | own ds =>
    obtain ⟨a0, vs0, h1, h2, h3, h4, h5, h6⟩ := er.own i ds hi
    refine ⟨_, h1, .inl ⟨rfl, _, .inl (.inl h2)⟩, G, μ, st, ρ, w, er, q.bind s fun d st1 v H1 G1 μ1 w1 s1 t1 r1 q1 => ?_⟩
    obtain ⟨hz, q2⟩ := q1.line
    obtain ⟨a, vs, k1, k2, k3, fin⟩ := upd_end w1 (er.step s1) t1 hi q2
    rw [h1] at k1; cases k1
    refine ⟨_, vs, v, rfl, rfl, k2, by rw [RepL.length k3]; omega, fin _ (k3.append (.cons r1 .nil))⟩
end
end PL
set_option linter.all false
set_option maxRecDepth 100000
set_option maxHeartbeats 4000000
/-! PL10: unpacking, pairs of assignments, is None, int, str, tuple, list, join, split, f-strings, enumerate. -/
namespace PL
open PySem PySem.Spec L2
variable {wW : World}
section
variable {X : Cx} {E : XK} {H0 : Hp} {e a b c tg : Expr} {f g h : En → M D} {es : List Expr} {pos p p0 : Pos} {x : Str} {ga : En → M (List D)} {Φ : Ent} {pt : Pt}
/-! ### unpacking -/
def sUn (pt : Pt) (f : En → M D) : En → M (Fl × En) := fun ρ => (f ρ).bind fun d => (opt (pt.set d ρ)).bind fun r => M.pure (.nx, r)
theorem js_un (he : JE X E Φ.H f e) (hg : PG X tg (pt.g X.K)) (hs : swapsWithSole [tg] e pos.line X.env = pure false := by rfl) (hw : swappedStores [tg] e X.env = pure none := by rfl)
    (h1 : (assignEach [tg] X.env).map (·.2) = [assign tg X.env] := by rfl) : JS X E Φ (sUn pt f) (.Assign [tg] e pos) := PS.imp (ps_asg he hg hs hw h1) fun Dn σ H ⟨G, μ, st, ρ, w, er, s, q⟩ =>
  ⟨G, μ, st, ρ, w, er, q.bind s fun d st' v H' G' μ' w' s' t' r q => by
    obtain ⟨ρ2, hset, q⟩ := PostS.opt q
    exact Pt.ok hset w' r (er.step s') fun σ2 er2 _ => q.nx w' er2 t'⟩
/-! ### a, b = x, y -/
def sPar (i j : Nat) (f g : En → M D) : En → M (Fl × En) := fun ρ => (f ρ).bind fun d => (g ρ).bind fun e => (opt (setAll [i, j] [d, e] ρ)).bind fun r => M.pure (.nx, r)
/-- .. the second a list that is made -/
def sParO (i j : Nat) (f : En → M D) (g : En → M (List D)) : En → M (Fl × En) := fun ρ => (f ρ).bind fun d => (g ρ).bind fun e => (opt (setAll [i] [d] ρ)).bind fun r => put j (.own e) r
/-! ### is None -/
def D.isN : D → Bool
  | .non => true
  | _ => false
def isNM (d : D) : M D := PL.bl d.isN
def notNM (d : D) : M D := PL.bl (!d.isN)
theorem Rep.isN {K : PySem.W.Frag} {G : Hp} {μ : Mu} {v : V} {d : D} (r : Rep K G μ v d) : decide (v = .non) = d.isN := by
  cases r <;> simp [D.isN]
variable {k1 : Nat} {p1 : Pos}
theorem jt_isN (ha : JE X E H0 f a) : JT X E H0 (tBl (e1 isNM f)) (.Compare a [.Is] [.Constant .none k1 p1] pos) := PT.imp (pt_cmp (pc_isN ha)) fun σ H Q ⟨G, μ, st, ρ, w, er, q⟩ => by
  have e : tBl (e1 isNM f) ρ = (f ρ).bind fun d => M.pure d.isN := M.bind_assoc _ _ _
  rw [e] at q
  exact ⟨G, μ, st, ρ, w, er, Post.bind q fun d st1 v H1 G1 μ1 w1 s1 r1 q1 => ⟨d.isN, by rw [Rep.isN r1], q1 _ _ _ _ w1 .refl rfl⟩⟩
theorem jt_notN (ha : JE X E H0 f a) : JT X E H0 (tBl (e1 notNM f)) (.Compare a [.IsNot] [.Constant .none k1 p1] pos) := PT.imp (pt_cmp (pc_notN ha)) fun σ H Q ⟨G, μ, st, ρ, w, er, q⟩ => by
  have e : tBl (e1 notNM f) ρ = (f ρ).bind fun d => M.pure (!d.isN) := M.bind_assoc _ _ _
  rw [e] at q
  exact ⟨G, μ, st, ρ, w, er, Post.bind q fun d st1 v H1 G1 μ1 w1 s1 r1 q1 => ⟨!d.isN, by rw [Rep.isN r1], q1 _ _ _ _ w1 .refl rfl⟩⟩
/-! ### int, str, tuple, list -/
def intM : D → M D
  | .int i => M.pure (.int i)
  | .bl b => M.pure (.int (if b then 1 else 0))
  | .str a => guardM (decide (a.length ≤ 640)) ((opt (PySem.intText? a)).bind fun n => M.pure (.int n))
  | _ => M.bad
theorem c_int : C1J X E (fun xs H Q => ((∃ i, xs = [.int i] ∧ Q (.int i) H) ∨ ∃ k, xs = [.bl k] ∧ Q (.int (if k then 1 else 0)) H) ∨ ∃ a n, xs = [.str a] ∧ PySem.intText? a = some n ∧ a.length ≤ 640 ∧ Q (.int n) H) intM := fun H G μ st x dx Q w rx h => by
  cases dx with
  | int i => cases rx.int; exact .inl (.inl ⟨i, rfl, h _ _ _ _ w .refl (.int _)⟩)
  | bl b => cases rx.bl; exact .inl (.inr ⟨b, rfl, h _ _ _ _ w .refl (.int _)⟩)
  | str a =>
    cases rx.str
    obtain ⟨c, h⟩ := Post.guard h
    obtain ⟨n, hn, h⟩ := Post.opt h
    exact .inr ⟨a, n, rfl, hn, of_decide_eq_true c, h _ _ _ _ w .refl (.int _)⟩
  | _ => exact h.elim
theorem call_intA : CallR X (.type "int") (fun xs H Q => ((∃ i, xs = [.int i] ∧ Q (.int i) H) ∨ ∃ k, xs = [.bl k] ∧ Q (.int (if k then 1 else 0)) H) ∨ ∃ a n, xs = [.str a] ∧ PySem.intText? a = some n ∧ a.length ≤ 640 ∧ Q (.int n) H) := call_int1.or call_int_str
def tupM (d : D) : M D := (opt (seqD d)).bind fun ds => M.pure (.tup ds)
theorem c_tup : C1J X E (fun xs H Q => ∃ p ys, xs = [.ref p] ∧ ((SqL X.K H p ys ∧ ∀ l, H l = none → Q (.ref l) (upd H l (.tup ys))) ∨ (SqT X.K H p ys ∧ Q (.ref p) H))) tupM := fun H G μ st x dx Q w rx h => by
  obtain ⟨ds, hs, h⟩ := Post.opt h
  have mk : ∀ {a : Addr} {vs : List V}, RepL X.K G μ vs ds → ∀ l, H l = none → Q (.ref l) (upd H l (.tup vs)) := fun r l hl => by
    obtain ⟨w2, s2⟩ := w.new (o := .tup _) hl
    exact h _ _ _ _ w2 s2 (.tup (.inl (.inl upd_same)) (r.mono s2.g s2.m))
  rcases rx with rx | ⟨a, vs, es, rfl, rfl, h1, r, _⟩
  · cases rx with
    | tup h1 r => cases hs; exact ⟨_, _, rfl, .inr ⟨w.imm.sqT h1, h _ _ _ _ w .refl (.tup h1 r)⟩⟩
    | @lst a vs es h1 r => cases hs; exact ⟨_, _, rfl, .inl ⟨.inl (.inl (w.imm _ _ h1)), mk (a := a) r⟩⟩
    | @frz a vs es h1 r => cases hs; exact ⟨_, _, rfl, .inl ⟨w.imm.sqL h1, mk (a := a) r⟩⟩
    | _ => cases hs
  · cases hs; exact ⟨a, vs, rfl, .inl ⟨.inl (.inl h1), mk (a := a) r⟩⟩
def lstM (d : D) : M D := (opt (seqD d)).bind fun ds => M.pure (.lst ds)
theorem c_lst : C1J X E (fun xs H Q => ∃ p ys, xs = [.ref p] ∧ (SqL X.K H p ys ∨ SqT X.K H p ys) ∧ ∀ l, H l = none → Q (.ref l) (upd H l (.lst ys))) lstM := fun H G μ st x dx Q w rx h => by
  obtain ⟨ds, hs, h⟩ := Post.opt h
  obtain ⟨a, vs, rfl, hq, r⟩ := rx.seq w.imm hs
  refine ⟨a, vs, rfl, hq, fun l hl => ?_⟩
  obtain ⟨w2, s2⟩ := w.new (o := .lst vs) hl
  exact h _ _ _ _ w2 s2 (.lst upd_same (r.mono s2.g s2.m))
/-! ### join, split -/
def strsD : List D → Option (List Str)
  | [] => some []
  | .str x :: ds => (strsD ds).map (x :: ·)
  | _ => none
theorem strs_rep {K : PySem.W.Frag} {G : Hp} {μ : Mu} : ∀ {vs : List V} {ds : List D} {xs : List Str}, RepL K G μ vs ds → strsD ds = some xs → vs = xs.map V.str
  | _, [], _, .nil, h => by unfold strsD at h; cases h; rfl
  | _, _ :: ds, _, .cons r0 r, h => by
    cases r0 with
    | str b =>
      unfold strsD at h
      cases e : strsD ds with
      | none => rw [e] at h; cases h
      | some bs => rw [e] at h; cases h; rw [strs_rep r e]; rfl
    | _ => (unfold strsD at h; cases h)
theorem rep_strs {K : PySem.W.Frag} {G : Hp} {μ : Mu} : ∀ (xs : List Str), RepL K G μ (xs.map V.str) (xs.map D.str)
  | [] => .nil
  | x :: xs => .cons (.str x) (rep_strs xs)
/-- a method of a text with one argument -/
def eM1 (q : Str → D → M D) (f g : En → M D) : En → M D := fun ρ => (f ρ).bind fun d => match d with
  | .str a => (g ρ).bind fun y => q a y
  | _ => M.bad
theorem se_m1 {r : V → List V → Hp → VK → Prop} {q : Str → D → M D} (hq : ∀ (H G : Hp) (μ : Mu) (st : Sto) (a : Str) (y : V) (dy : D) (Q : VK), Wd X.w X.K H G μ st → BRep X.K H G μ y dy → Post X.w X.K X.mg E (rRep X.K) H G μ (q a dy st) Q → r (.str a) [y] H Q) :
    ∀ σ H Q, Se X E H0 (rRep X.K) (eM1 q f g) σ H Q → tM1 r (Se X E H0 (rBRep X.K) f) (Se X E H0 (rBRep X.K) g) σ H Q := by
  intro σ H Q ⟨G, μ, st, ρ, w, er, k⟩
  refine ⟨G, μ, st, ρ, w, er, Post.bind k fun dx st1 x H1 G1 μ1 w1 s1 r1 k1 => ?_⟩
  cases dx with
  | str a =>
    have ex := r1.weak.str
    subst ex
    exact ⟨⟨a, rfl⟩, G1, μ1, st1, ρ, w1, er.step s1, Post.bind k1 fun dy st2 y H2 G2 μ2 w2 s2 r2 k2 => hq H2 G2 μ2 st2 a y dy Q w2 r2.weak k2⟩
  | _ => exact k1.elim
variable {apos : Pos}
/-! ### f-strings -/
/-! ### enumerate -/
def numb : Nat → List D → List D
  | _, [] => []
  | n, d :: ds => .tup [.int n, d] :: numb (n + 1) ds
theorem numb_len : ∀ (n : Nat) (ds : List D), (numb n ds).length = ds.length
  | _, [] => rfl
  | n, _ :: ds => congrArg (· + 1) (numb_len (n + 1) ds)
theorem numb_get : ∀ (n i : Nat) (ds : List D), (numb n ds)[i]? = (ds[i]?).map fun d => D.tup [.int ((n + i : Nat) : Int), d]
  | _, _, [] => by simp [numb]
  | n, 0, d :: ds => by simp [numb]
  | n, i + 1, d :: ds => by
    have := numb_get (n + 1) i ds
    simp only [numb, List.getElem?_cons_succ, this]
    rw [show n + 1 + i = n + (i + 1) by omega]
theorem ite_ok {K : PySem.W.Frag} {G : Hp} {μ : Mu} {a : Addr} {vs : List V} {ds : List D} (hl : SqL K G a vs) (r : RepL K G μ vs ds) (hz : ds.length ≤ sizeLine) : ItR wW K G μ (Ite K a) (numb 0 ds) := by
  refine ⟨by rw [numb_len]; exact hz, fun H1 G1 μ1 st1 w sg sm => ⟨fun i hi => ?_, fun i hi => ?_⟩⟩
  · rw [numb_len] at hi
    have h1 : SqL K H1 a vs := (sg.trans w.imm).sqL hl
    obtain ⟨v, hv, rv⟩ := r.get (List.getElem?_eq_getElem hi)
    refine ⟨⟨vs, v, h1, hv⟩, fun x H2 ⟨T, y, ex, hT, eH, hy⟩ => ?_⟩
    subst ex eH
    have ey : y = v := Option.some.inj ((hy vs h1).symm.trans hv)
    subst ey
    obtain ⟨w2, s2⟩ := w.new (o := .tup [.int (i : Nat), y]) hT
    refine ⟨_, w2, s2, _, by rw [numb_get, List.getElem?_eq_getElem hi]; rfl, ?_⟩
    rw [Nat.zero_add]
    exact .tup (.inl (.inl upd_same)) (.cons (.int _) (.cons ((rv.mono sg sm).mono s2.g s2.m) .nil))
  · rw [numb_len] at hi
    exact ⟨vs, (sg.trans w.imm).sqL hl, by rw [RepL.length r]; exact hi⟩
end
end PL
set_option linter.all false
set_option maxRecDepth 100000
set_option maxHeartbeats 4000000
/-! PL11: dicts of the store: displays, d[k], d[k] = v, k in d. -/
namespace PL
open PySem PySem.Spec L2
variable {wW : World}
/-- k in its place, or at the end -/
def putD (kvs : List (Key × D)) (k : Key) (d : D) : List (Key × D) := if (kvs.any fun q => decide (q.1 = k)) = true then kvs.map (fun q => if q.1 = k then (q.1, d) else q) else kvs ++ [(k, d)]
def valD (k : Key) : List (Key × D) → Option D
  | [] => none
  | p :: r => if p.1 = k then some p.2 else valD k r
def keyD : D → Option Key
  | .int i => some (.inl i)
  | .str x => some (.inr x)
  | _ => none
section
variable {K : PySem.W.Frag} {G H : Hp} {μ : Mu}
/-- the pairs ws are kvs; no key stands twice -/
structure KR (K : PySem.W.Frag) (G : Hp) (μ : Mu) (ws : List (Key × V)) (kvs : List (Key × D)) : Prop where
  k : ws.map (·.1) = kvs.map (·.1)
  v : RepL K G μ (ws.map (·.2)) (kvs.map (·.2))
theorem KR.nil : KR K G μ [] [] := ⟨rfl, .nil⟩
theorem KR.cons {k : Key} {v : V} {d : D} {ws : List (Key × V)} {kvs : List (Key × D)} (h : Rep K G μ v d) (r : KR K G μ ws kvs) : KR K G μ ((k, v) :: ws) ((k, d) :: kvs) := ⟨by simp [r.k], .cons h r.v⟩
theorem KR.split {ws : List (Key × V)} {p : Key × D} {kvs : List (Key × D)} (r : KR K G μ ws (p :: kvs)) : ∃ v ws', ws = (p.1, v) :: ws' ∧ Rep K G μ v p.2 ∧ KR K G μ ws' kvs := by
  obtain ⟨e, r⟩ := r
  cases ws with
  | nil => simp at e
  | cons q ws =>
    simp only [List.map_cons, List.cons.injEq] at e
    cases r with
    | cons h t => exact ⟨q.2, ws, by rw [← e.1], h, e.2, t⟩
def ValR (K : PySem.W.Frag) (G : Hp) (μ : Mu) (ws : List (Key × V)) (k : Key) : Option D → Prop
  | some d => ∃ v, valV ws k = some v ∧ Rep K G μ v d
  | none => valV ws k = none
theorem KR.val : ∀ {kvs : List (Key × D)} {ws : List (Key × V)} (r : KR K G μ ws kvs) (k : Key), ValR K G μ ws k (valD k kvs)
  | [], ws, r, k => by
    have : ws = [] := by simpa using r.k
    subst this; rfl
  | p :: kvs, ws, r, k => by
    obtain ⟨v, ws', rfl, h, t⟩ := r.split
    unfold valD
    by_cases e : p.1 = k
    · rw [if_pos e]; exact ⟨v, valV_pos (p := (p.1, v)) e, h⟩
    · rw [if_neg e]
      have ih := KR.val t k
      cases q : valD k kvs with
      | none => rw [q] at ih; exact (valV_neg (p := (p.1, v)) e).trans ih
      | some d => rw [q] at ih; obtain ⟨u, h1, h2⟩ := ih; exact ⟨u, (valV_neg (p := (p.1, v)) e).trans h1, h2⟩
theorem KR.any : ∀ {kvs : List (Key × D)} {ws : List (Key × V)} (r : KR K G μ ws kvs) (k : Key), (ws.any fun q => decide (q.1 = k)) = kvs.any fun q => decide (q.1 = k)
  | [], ws, r, k => by
    have : ws = [] := by simpa using r.k
    subst this; rfl
  | p :: kvs, ws, r, k => by
    obtain ⟨v, ws', rfl, h, t⟩ := r.split
    rw [List.any_cons, List.any_cons, KR.any t k]
theorem KR.mapp {k : Key} {v : V} {d : D} (h : Rep K G μ v d) : ∀ {kvs : List (Key × D)} {ws : List (Key × V)}, KR K G μ ws kvs → KR K G μ (ws.map fun q => if q.1 = k then (q.1, v) else q) (kvs.map fun q => if q.1 = k then (q.1, d) else q)
  | [], ws, r => by
    have : ws = [] := by simpa using r.k
    subst this; exact .nil
  | p :: kvs, ws, r => by
    obtain ⟨u, ws', rfl, hu, t⟩ := r.split
    rw [List.map_cons, List.map_cons]
    by_cases e : p.1 = k
    · rw [if_pos e, if_pos e]; exact .cons h (KR.mapp h t)
    · rw [if_neg e, if_neg e]; exact .cons hu (KR.mapp h t)
theorem KR.app {k : Key} {v : V} {d : D} (h : Rep K G μ v d) : ∀ {kvs : List (Key × D)} {ws : List (Key × V)}, KR K G μ ws kvs → KR K G μ (ws ++ [(k, v)]) (kvs ++ [(k, d)])
  | [], ws, r => by
    have : ws = [] := by simpa using r.k
    subst this; exact .cons h .nil
  | p :: kvs, ws, r => by
    obtain ⟨u, ws', rfl, hu, t⟩ := r.split
    exact .cons hu (KR.app h t)
theorem KR.put {k : Key} {v : V} {d : D} (h : Rep K G μ v d) {kvs : List (Key × D)} {ws : List (Key × V)} (r : KR K G μ ws kvs) : KR K G μ (putK ws k v) (putD kvs k d) := by
  unfold putK putD
  rw [r.any k]
  split
  · exact r.mapp h
  · exact r.app h
theorem KR.mono {G' : Hp} {μ' : Mu} {ws : List (Key × V)} {kvs : List (Key × D)} (r : KR K G μ ws kvs) (s : Sub G G') (m : SubM μ μ') : KR K G' μ' ws kvs := ⟨r.k, r.v.mono s m⟩
theorem OR.kr {a : Addr} {kvs : List (Key × D)} (x : OR wW K G μ H a (.dict kvs)) : ∃ ws, H a = some (.dK ws) ∧ KR K G μ ws kvs := let ⟨ws, h, k, r⟩ := x; ⟨ws, h, k, r⟩
theorem KR.or {a : Addr} {ws : List (Key × V)} {kvs : List (Key × D)} (r : KR K G μ ws kvs) (h : H a = some (.dK ws)) : OR wW K G μ H a (.dict kvs) := ⟨ws, h, r.k, r.v⟩
theorem rep_key {v : V} {d : D} {k : Key} (r : Rep K G μ v d) (h : keyD d = some k) : v = kV k := by
  cases r <;> cases h <;> rfl
theorem KR.len {ws : List (Key × V)} {kvs : List (Key × D)} (r : KR K G μ ws kvs) : ws.length = kvs.length := by
  have := congrArg List.length r.k
  simpa using this
end
/-! ### d[k], k in d, d[k] = v -/
def dictAt (n : Nat) : M (List (Key × D)) := fun st => match st[n]? with
  | some (.dict kvs) => .ok kvs st
  | _ => .bad
def refD : D → Option Nat
  | .ref n => some n
  | _ => none
def dgM (x y : D) : M D := (opt (refD x)).bind fun n => (opt (keyD y)).bind fun k => (dictAt n).bind fun kvs => opt (valD k kvs)
def setAt (n : Nat) (o : Ob) : M Unit := fun st => .ok () (st.set n o)
def dpM (x y v : D) : M Unit := (opt (refD x)).bind fun n => (opt (keyD y)).bind fun k => (dictAt n).bind fun kvs => guardM (decide (kvs.length < sizeLine)) (setAt n (.dict (putD kvs k v)))
section
variable {X : Cx} {E : XK} {H0 : Hp} {e a b c o i : Expr} {f g h : En → M D} {pos p p0 : Pos} {Φ : Ent}
theorem Post.dict {α β : Type} {K : PySem.W.Frag} {mg : Str → Option Value} {R : RR β α} {H G : Hp} {μ : Mu} {n : Nat} {k : List (Key × D) → M α} {st : Sto} {Q : β → Hp → Prop} (q : Post wW K mg E R H G μ ((dictAt n).bind k st) Q) : ∃ kvs, st[n]? = some (.dict kvs) ∧ Post wW K mg E R H G μ (k kvs st) Q := by
  unfold M.bind dictAt at q
  cases e : st[n]? with
  | none => rw [e] at q; exact q.elim
  | some o =>
    rw [e] at q
    cases o with
    | dict kvs => exact ⟨kvs, rfl, q⟩
    | lst _ => exact q.elim
    | ins _ _ => exact q.elim
    | tab _ _ => exact q.elim
    | nd _ => exact q.elim
theorem Rep.dict {K : PySem.W.Frag} {H G : Hp} {μ : Mu} {st : Sto} {v : V} {d : D} {n : Nat} {kvs : List (Key × D)} (r : Rep K G μ v d) (hn : refD d = some n) (w : Wd wW K H G μ st) (hs : st[n]? = some (.dict kvs)) : ∃ l ws, v = .ref l ∧ μ n = some l ∧ H l = some (.dK ws) ∧ KR K G μ ws kvs := by
  cases r with
  | ref hm =>
    cases hn
    obtain ⟨l, h1, h2, h3⟩ := w.obj n _ hs
    rw [hm] at h1; cases h1
    obtain ⟨ws, h4, h5⟩ := h3.kr
    exact ⟨_, ws, rfl, hm, h4, h5⟩
  | _ => cases hn
theorem je_dget (hu : X.A.units + 1 < cLine) (ho : JE X E H0 f o) (hi : JE X E H0 g i) (hs : NoSl i := by intro _ _; rfl) : JE X E H0 (e2 dgM f g) (.Subscript o i pos) := by
  refine PE.imp (pe_dget hu ho hi hs) fun σ H Q ⟨G, μ, st, ρ, w, er, q⟩ => ?_
  refine ⟨G, μ, st, ρ, w, er, Post.bind q fun dx st1 x H1 G1 μ1 w1 s1 r1 q1 => ⟨G1, μ1, st1, ρ, w1, er.step s1, Post.bind q1 fun dy st2 y H2 G2 μ2 w2 s2 r2 q2 => ?_⟩⟩
  obtain ⟨n, hn, q2⟩ := Post.opt q2
  obtain ⟨k, hk, q2⟩ := Post.opt q2
  obtain ⟨kvs, hd, q2⟩ := Post.dict q2
  obtain ⟨l, ws, rfl, _, h4, h5⟩ := (r1.mono s2.g s2.m).dict hn w2 hd
  have ey := rep_key r2 hk
  subst ey
  have hv := h5.val k
  cases e : valD k kvs with
  | none => rw [e] at q2; exact q2.elim
  | some d =>
    rw [e] at hv q2
    obtain ⟨v, h6, h7⟩ := hv
    exact ⟨l, v, rfl, by rw [← h6]; exact DGet.k h4, q2 _ _ _ _ w2 .refl h7⟩
def sDPut (fo fi fv : En → M D) : En → M (Fl × En) := fun ρ => (fv ρ).bind fun v => (fo ρ).bind fun x => (fi ρ).bind fun y => (dpM x y v).bind fun _ => M.pure (.nx, ρ)
theorem js_dput {value : Expr} {pos' : Pos} (hu : X.A.units + 1 < cLine) (ho : JE X E Φ.H f o) (hi : JE X E Φ.H g i) (hv : JE X E Φ.H h value) (hs : swapsWith value (some (.Subscript o i pos')) pos.line X.env = pure false := by rfl) :
    JS X E Φ (sDPut f g h) (.Assign [.Subscript o i pos'] value pos) := by
  refine PS.imp (ps_dput hu ho hi hv hs) fun Dn σ H ⟨G, μ, st, ρ, w, er, s, q⟩ => ?_
  refine ⟨G, μ, st, ρ, w, er, q.bind s fun dv st1 v H1 G1 μ1 w1 s1 t1 r1 q1 => ⟨G1, μ1, st1, ρ, w1, er.step s1, q1.bind t1 fun dx st2 x H2 G2 μ2 w2 s2 t2 r2 q2 =>
    ⟨G2, μ2, st2, ρ, w2, (er.step s1).step s2, q2.bind t2 fun dy st3 y H3 G3 μ3 w3 s3 t3 r3 q3 => ?_⟩⟩⟩
  have r1' := (r1.mono s2.g s2.m).mono s3.g s3.m
  unfold dpM at q3
  rw [M.bind_assoc] at q3
  obtain ⟨n, hn, q3⟩ := PostS.opt q3
  rw [M.bind_assoc] at q3
  obtain ⟨k, hk, q3⟩ := PostS.opt q3
  rw [M.bind_assoc] at q3
  unfold M.bind dictAt at q3
  cases e : st3[n]? with
  | none => rw [e] at q3; exact q3.elim
  | some ob =>
    rw [e] at q3
    cases ob with
    | lst _ => exact q3.elim
    | ins _ _ => exact q3.elim
    | tab _ _ => exact q3.elim
    | nd _ => exact q3.elim
    | dict kvs =>
      obtain ⟨l, ws, rfl, hm, h4, h5⟩ := (r2.mono s3.g s3.m).dict hn w3 e
      have ey := rep_key r3 hk
      subst ey
      by_cases hz : kvs.length < sizeLine
      · have q4 : PostS X E Φ Dn (.ok (.nx, ρ) (st3.set n (.dict (putD kvs k dv)))) := by
          have := q3
          simp only [guardM, hz, decide_true, if_true, setAt, M.pure] at this
          exact this
        obtain ⟨w4, s4⟩ := w3.write (x := .dict (putD kvs k dv)) (o := .dK (putK ws k v)) e hm ((h5.put r1').or upd_same)
        exact ⟨l, _, rfl, DPut.k h4 (by rw [h5.len]; exact hz), q4 _ _ _ _ w4 ((((er.step s1).step s2).step s3).step s4) (t3.trans s4)⟩
      · have : False := by
          have := q3
          simp only [guardM, hz, decide_false] at this
          exact this
        exact this.elim
/-! ### {'k': v, ..} -/
def aL : List (En → M D) → En → M (List D)
  | [], _ => M.pure []
  | f :: fs, ρ => (f ρ).bind fun x => (aL fs ρ).bind fun xs => M.pure (x :: xs)
def putAll (kvs more : List (Key × D)) : List (Key × D) := more.foldl (fun acc q => putD acc q.1 q.2) kvs
def newOb (o : Ob) : M D := fun st => .ok (.ref st.length) (st ++ [o])
def eDict (ks : List Str) (fs : List (En → M D)) : En → M D := fun ρ => (aL fs ρ).bind fun ds => newOb (.dict (putAll [] ((ks.map Sum.inr).zip ds)))
theorem KR.all {K : PySem.W.Frag} {G : Hp} {μ : Mu} : ∀ {vs : List V} {ds : List D} (ks : List Str) {ws : List (Key × V)} {kvs : List (Key × D)}, RepL K G μ vs ds → KR K G μ ws kvs → KR K G μ (mergeK ws ((ks.map Sum.inr).zip vs)) (putAll kvs ((ks.map Sum.inr).zip ds))
  | _, _, [], _, _, _, q => by simpa [mergeK, putAll] using q
  | _, _, k :: ks, _, _, .nil, q => by simpa [mergeK, putAll] using q
  | _, _, k :: ks, _, _, .cons h t, q => KR.all ks t (q.put h)
/-- the trees' readings -/
def trsOf (X : Cx) (E : XK) (H0 : Hp) : List Str → List (En → M D) → List (TE × TE)
  | k :: ks, f :: fs => (tC (.str k), Se X E H0 (rRep X.K) f) :: trsOf X E H0 ks fs
  | _, _ => []
theorem se_pairs : ∀ (fs : List (En → M D)) (ks : List Str) (σ : L2.St) (H : Hp) (Q' : List V → Hp → Prop) (Q : List (V × V) → Hp → Prop), ks.length = fs.length → Se X E H0 (rRepL X.K) (aL fs) σ H Q' → (∀ vs H', Q' vs H' → Q ((ks.map V.str).zip vs) H') → tPairs (trsOf X E H0 ks fs) σ H Q
  | [], [], σ, H, Q', Q, _, ⟨G, μ, st, ρ, w, er, q⟩, k => k [] H (q [] H G μ w .refl .nil)
  | f :: fs, x :: ks, σ, H, Q', Q, hl, ⟨G, μ, st, ρ, w, er, q⟩, k => by
    refine ⟨G, μ, st, ρ, w, er, Post.bind q fun d st1 v H1 G1 μ1 w1 s1 r1 q1 => ?_⟩
    refine se_pairs fs ks σ H1 (fun vs H' => Q' (v :: vs) H') _ (by simpa using hl) ⟨G1, μ1, st1, ρ, w1, er.step s1, Post.bind q1 fun ds st2 vs H2 G2 μ2 w2 s2 r2 q2 => q2 _ _ _ _ w2 .refl (.cons (r1.mono s2.g s2.m) r2)⟩ fun vs H' h => k (v :: vs) H' h
  | [], _ :: _, _, _, _, _, hl, _, _ => by simp at hl
  | _ :: _, [], _, _, _, _, hl, _, _ => by simp at hl
inductive JP (X : Cx) (E : XK) (H0 : Hp) (pos : Pos) : List Str → List (En → M D) → List (Option Expr) → List Expr → Prop
  | nil : JP X E H0 pos [] [] [] []
  | cons {k : Str} {j : Nat} {pk : Pos} {f : En → M D} {e : Expr} {ks : List Str} {fs : List (En → M D)} {kes : List (Option Expr)} {es : List Expr} : JE X E H0 f e → JP X E H0 pos ks fs kes es → JP X E H0 pos (k :: ks) (f :: fs) (some (.Constant (.str k) j pk) :: kes) (e :: es)
theorem JP.pps {ks : List Str} {fs : List (En → M D)} {kes : List (Option Expr)} {es : List Expr} (h : JP X E H0 pos ks fs kes es) : PPs X pos kes es (trsOf X E H0 ks fs) := by
  induction h with
  | nil => exact pps_nil
  | cons a b ih => exact pps_cons pe_str a ih
theorem JP.len {ks : List Str} {fs : List (En → M D)} {kes : List (Option Expr)} {es : List Expr} (h : JP X E H0 pos ks fs kes es) : ks.length = fs.length ∧ kes.length = fs.length ∧ es.length = fs.length ∧ kes.all (·.isSome) = true := by
  induction h with
  | nil => exact ⟨rfl, rfl, rfl, rfl⟩
  | cons a b ih => obtain ⟨h1, h2, h3, h4⟩ := ih; exact ⟨by simp [h1], by simp [h2], by simp [h3], by simp [h4]⟩
section
variable {K : PySem.W.Frag} {H G H1 G1 : Hp} {μ μ1 : Mu} {st : Sto}
/-- an object that nobody holds comes into the store -/
theorem Wd.adopt (w : Wd wW K H G μ st) {p : Addr} {o : HO} {x : Ob} (gp : G p = none) (np : ∀ n, μ n ≠ some p) (hx : OR wW K G (muAdd μ st.length p) (upd H p o) p x) : Wd wW K (upd H p o) G (muAdd μ st.length p) (st ++ [x]) := by
  have nn : μ st.length = none := by
    cases q : μ st.length with
    | none => rfl
    | some a => exact absurd (w.dom _ _ q) (Nat.lt_irrefl _)
  have sm : SubM μ (muAdd μ st.length p) := fun n a h => by
    unfold muAdd; rw [if_neg (fun e => by rw [e, nn] at h; cases h)]; exact h
  refine ⟨fun a u h => by rw [upd_ne (fun z => by rw [z, gp] at h; cases h)]; exact w.imm _ _ h, fun n y e => ?_, fun n m a e1 e2 => ?_, fun n a e => ?_⟩
  · by_cases hn : n = st.length
    · subst hn
      rw [List.getElem?_concat_length] at e
      cases e
      exact ⟨p, by unfold muAdd; rw [if_pos rfl], gp, hx⟩
    · have hlt : n < st.length := by
        have := (List.getElem?_eq_some_iff.mp e).1
        rw [List.length_append, List.length_singleton] at this
        omega
      rw [List.getElem?_append_left hlt] at e
      obtain ⟨a, h1, h2, h3⟩ := w.obj n y e
      have ne : a ≠ p := fun z => np n (z ▸ h1)
      exact ⟨a, sm _ _ h1, h2, h3.mono (fun _ _ h => h) sm fun v hv => by rw [upd_ne ne]; exact hv⟩
  · unfold muAdd at e1 e2
    by_cases h1 : n = st.length <;> by_cases h2 : m = st.length
    · rw [h1, h2]
    · rw [if_pos h1] at e1; rw [if_neg h2] at e2; cases e1; exact absurd e2 (np m)
    · rw [if_neg h1] at e1; rw [if_pos h2] at e2; cases e2; exact absurd e1 (np n)
    · rw [if_neg h1] at e1; rw [if_neg h2] at e2; exact w.inj n m a e1 e2
  · unfold muAdd at e
    rw [List.length_append, List.length_singleton]
    by_cases h1 : n = st.length
    · omega
    · rw [if_neg h1] at e
      have := w.dom n a e
      omega
theorem Stp.adopt (s : Stp H1 G1 μ1 H G μ) (w : Wd wW K H G μ st) {p : Addr} {o : HO} (h0 : H1 p = none) : Stp H1 G1 μ1 (upd H p o) G (muAdd μ st.length p) where
  g := s.g
  m := fun n a h => by
    have h' := s.m n a h
    have := w.dom n a h'
    unfold muAdd; rw [if_neg (by omega)]; exact h'
  fr := fun b u e n => by rw [upd_ne (ne_of_none e h0)]; exact s.fr b u e n
  th := fun b u e => by rw [upd_ne (ne_of_none e h0)]; exact s.th b u e
  ng := s.ng
  nm := fun n a e q => by
    unfold muAdd at q
    by_cases h1 : n = st.length
    · rw [if_pos h1] at q; cases q; exact h0
    · rw [if_neg h1] at q; exact s.nm n a e q
end
/-- the way through a bind from a later state on; what is wanted is told from the first one on -/
theorem Post.later {α β γ δ : Type} {K : PySem.W.Frag} {mg : Str → Option Value} {H G H1 G1 : Hp} {μ μ1 : Mu} {R : RR β α} {R2 : RR δ γ} {m : M γ} {f : γ → M α} {st : Sto} {Q : β → Hp → Prop} {Q2 : δ → Hp → Prop} (p : Post wW K mg E R H G μ (m.bind f st) Q) (s : Stp H G μ H1 G1 μ1)
    (h : ∀ a st' v H' G' μ', Wd wW K H' G' μ' st' → Stp H1 G1 μ1 H' G' μ' → R2.r H1 H' G' μ' v a → Post wW K mg E R H G μ (f a st') Q → Q2 v H') : Post wW K mg E R2 H1 G1 μ1 (m st) Q2 := by
  unfold M.bind at p
  cases e : m st with
  | ok a st' => rw [e] at p; exact fun v H' G' μ' w t q => h a st' v H' G' μ' w t q p
  | err x st' => rw [e] at p; exact fun c dd H' G' μ' w t q => p c dd H' G' μ' w (s.trans t) q
  | bad => rw [e] at p; exact p
theorem zip_keys : ∀ (ks : List Str) (vs : List V), (ks.map V.str).zip vs = ((ks.map Sum.inr).zip vs).map fun q => (kV q.1, q.2)
  | [], _ => by simp
  | _ :: _, [] => by simp
  | k :: ks, v :: vs => by
    have := zip_keys ks vs
    simp only [List.map_cons, List.zip_cons_cons, this]
    rfl
theorem je_dict {ks : List Str} {fs : List (En → M D)} {kes : List (Option Expr)} {es : List Expr} (h : JP X E H0 pos ks fs kes es) (h0 : kes ≠ [] := by simp) (h15 : fs.length ≤ 15 := by decide) : JE X E H0 (eDict ks fs) (.Dict kes es pos) := by
  obtain ⟨l1, l2, l3, l4⟩ := h.len
  refine PE.imp (pe_disp h.pps l4 (l2.trans l3.symm) h0 (by rw [l2]; exact h15)) fun σ H Q ⟨G, μ, st, ρ, w, er, q⟩ p hp => ?_
  have np : ∀ n, μ n ≠ some p := fun k e => by
    obtain ⟨b, h1, _, h3⟩ := w.obj k _ (List.getElem?_eq_getElem (w.dom k p e))
    rw [e] at h1; cases h1
    obtain ⟨u, hu⟩ := h3.there
    rw [hp] at hu; cases hu
  have gp : G p = none := none_before w.imm.th hp
  obtain ⟨w0, s0⟩ := w.lay (o := .dK []) hp
  refine se_pairs fs ks σ _ (fun vs H2 => H2 p = some (.dK []) ∧ Q (.ref p) (upd H2 p (.dK (mergeK [] ((ks.map Sum.inr).zip vs))))) _ l1 ⟨G, μ, st, ρ, w0, er.step s0, Post.later q s0 fun ds st2 vs H2 G2 μ2 w2 s2 r2 q2 => ?_⟩ fun vs H2 ⟨hH, hq⟩ => ?_
  · have hH : H2 p = some (.dK []) := s2.fr p _ upd_same np
    have g2 : G2 p = none := by
      cases e : G2 p with
      | none => rfl
      | some o => have := s2.ng p gp (by rw [e]; simp); rw [upd_same] at this; cases this
    have n2 : ∀ n, μ2 n ≠ some p := fun n e => by
      cases e' : μ n with
      | some b => have := s2.m n b e'; rw [e] at this; cases this; exact np n e'
      | none => have := s2.nm n p e' e; rw [upd_same] at this; cases this
    have kr : KR X.K G2 (muAdd μ2 st2.length p) (mergeK [] ((ks.map Sum.inr).zip vs)) (putAll [] ((ks.map Sum.inr).zip ds)) := KR.all ks (r2.mono (fun _ _ h => h) fun n a h => by
      have := w2.dom n a h
      unfold muAdd; rw [if_neg (by omega)]; exact h) .nil
    exact ⟨hH, q2 _ _ _ _ (w2.adopt g2 n2 (kr.or upd_same)) ((s0.trans s2).adopt w2 hp) (.ref (by unfold muAdd; rw [if_pos rfl]))⟩
  · refine ⟨hH, (ks.map Sum.inr).zip vs, zip_keys ks vs, ?_, hq⟩
    rw [List.length_zip, List.length_map]
    omega
end
end PL
set_option linter.all false
set_option maxRecDepth 100000
set_option maxHeartbeats 6000000
/-! PL12: set(xs) of a list of ints, sorted. -/
namespace PL
section
open PySem PySem.Spec PyProof.Rows L2
variable {wW : World}
variable {prog : Program} {w : World} {A : Around} {E : Value → Shared → Prop} {s : Shared}
theorem set_of_ints {l : Addr} {zs : Array Value} (ks : List Int) {Q : Value → Shared → Prop} (hA : A.handled = none) (hL : s.heap.IsList l zs) (hz : IntsAre zs.toList ks) (bd : ks.length + 1 < scanBound)
    (fin : ∀ (hp : Heap) (tk c0 : Nat), SetR w hp s.heap.objs.size (fun j => decide (j ∈ ks)) c0 → c0 ≤ ks.length → (∀ x1 o, s.heap.get? x1 = some o → hp.get? x1 = some o) → Q (.ref s.heap.objs.size) { s with heap := hp, toks := tk }) :
    wpAny (model prog w) A (call (.type "set") [.ref l]) Q E s := by
  have sz0 : zs.size = ks.length := by
    have q := IntsAre.length hz
    rw [Array.length_toList] at q
    exact q
  obtain ⟨c0, tl, m0⟩ := F.called_set.mro
  have m1 := F.called_set.made
  have m2 := F.called_set.sub
  refine wpAny_call (codeAny_of_tree ?_)
  show wpAny _ _ (callAny (.type "set") _) _ _ _
  refine wpAny_pure ⟨Code.quiet_builtin _ (by decide +kernel), codeAny_builtin F.entry_type_call ?_⟩
  rw [Around.under_plain (weight_type_call_type "set" [.ref l] []) rfl]
  have m3 := F.called_set.notType
  have m4 := F.called_set.canCreate
  have m5 := F.typeCall_set_1 (.ref l)
  repeat (any_goals (first | assumption | wp_step))

  refine codeAny_mono (code_set_led1 (.ref l) (E := E) (Q₁ := fun ob s1 => ob = .ref s.heap.objs.size ∧ s1 = { s with heap := s.heap.push { cls := .type "set", dict := none, data := .set #[] 0 (.fresh 0 0 (!w.params.followText "set-order")) } }) ⟨rfl, rfl⟩) fun r s1 hr => ?_
  cases r with
  | error e => exact hr
  | ok fl =>
    cases fl with
    | ret ob =>
      obtain ⟨rfl, rfl⟩ := hr
      have gS : (s.heap.push { cls := .type "set", dict := none, data := .set #[] 0 (.fresh 0 0 (!w.params.followText "set-order")) }).get? s.heap.objs.size = some { cls := .type "set", dict := none, data := .set #[] 0 (.fresh 0 0 (!w.params.followText "set-order")) } := Heap.get?_push_size _ rfl
      have tS : Shared.TypeIs { s with heap := s.heap.push { cls := .type "set", dict := none, data := .set #[] 0 (.fresh 0 0 (!w.params.followText "set-order")) } } (.ref s.heap.objs.size) "set" := ⟨_, gS, rfl⟩
      have m6 := F.called_set.init.lookup
      have m7 := F.called_set.init.bind (.ref s.heap.objs.size)
      repeat (any_goals (first | assumption | wp_step))

      refine codeAny_mono (codeAny_call_builtin (R := wants (fun r s2 => r = .none ∧ ∃ hp tk c0, s2 = { s with heap := hp, toks := tk } ∧ SetR w hp s.heap.objs.size (fun j => decide (j ∈ ks)) c0 ∧ c0 ≤ ks.length ∧
          (∀ x1 o, s.heap.get? x1 = some o → hp.get? x1 = some o)) E) F.called_set.init.plain F.entry_set_init (check_set_init_1 tS ?_)) fun r2 s2 hr2 => ?_
      · obtain ⟨o1, go, gc, n1, gd⟩ := hL
        obtain ⟨oc, od, oa, os1⟩ := o1
        simp only at gc gd
        subst gc; subst gd
        have go2 : (s.heap.push { cls := .type "set", dict := none, data := .set #[] 0 (.fresh 0 0 (!w.params.followText "set-order")) }).get? l = some { cls := .type "list", dict := od, data := .seq zs n1, slots := os1 } := Heap.get?_push_of_some _ go
        have m8 := F.sub_list_set
        have m9 := F.sub_list_frozenset
        have mA : (Value.type "list" == Value.type "dict") = false := by decide
        have gl1 : (s.heap.push { cls := .type "set", dict := none, data := .set #[] 0 (.fresh 0 0 (!w.params.followText "set-order")) }).IsList l zs := ⟨_, go2, rfl, n1, rfl⟩
        unfold Builtin.«set.__init__» noKeywords Builtin.Frozenset.updateFrom
        generalize gP : pyIter = PI
        wp_walk
        subst gP

        refine wpAny_pyIter_list gl1 ?_
        refine wpAny_bind (wpAny_runValue ?_)
        have lS : l < s.heap.objs.size := Heap.lt_size go
        have mB : A.in1.in1.in1.handled = none := by simp [hA]
        have mC : (s.heap.push { cls := .type "set", dict := none, data := .set #[] 0 (.fresh 0 0 (!w.params.followText "set-order")) }).objs.size = s.heap.objs.size + 1 := Heap.size_push ..
        have mD : l ≠ (s.heap.push { cls := .type "set", dict := none, data := .set #[] 0 (.fresh 0 0 (!w.params.followText "set-order")) }).objs.size := by
          rw [Heap.size_push]; exact Nat.ne_of_lt (Nat.lt_succ_of_lt lS)
        have mE : s.heap.objs.size ∉ [(s.heap.push { cls := .type "set", dict := none, data := .set #[] 0 (.fresh 0 0 (!w.params.followText "set-order")) }).objs.size, l] := by
          rw [Heap.size_push]; simp only [List.mem_cons, List.mem_singleton, List.not_mem_nil, or_false, not_or]
          exact ⟨Nat.ne_of_lt (Nat.lt_succ_self _), Nat.ne_of_gt lS⟩
        have gv : ∀ (i : Nat) (v : Value), zs[i]? = some v → ∃ k t, ks[i]? = some k ∧ v = .int k t := fun i v hv => by
          have hi : i < ks.length := by rw [← sz0]; exact (Array.getElem?_eq_some_iff.mp hv).1
          obtain ⟨t, e⟩ := PyProof.Rows.IntsAre.int_at hz i v (by rw [Array.getElem?_toList]; exact hv)
          refine ⟨ks[i], t, List.getElem?_eq_getElem hi, ?_⟩
          rw [e, List.getD_eq_getElem?_getD, List.getElem?_eq_getElem hi] <;> rfl
        refine set_update_ints ((Walks.list mB _ l mD zs).toS) s.heap.objs.size
          mE ks sz0 bd gv (zs.size - 0) 0 _ (by omega) (Nat.zero_le _)
          ⟨⟨_, Heap.get?_push_size _ rfl, rfl, rfl⟩, (gl1.push _)⟩ ?hS0 ?hR
        case hS0 =>
          have gg : ((s.heap.push { cls := .type "set", dict := none, data := .set #[] 0 (.fresh 0 0 (!w.params.followText "set-order")) }).push { cls := .type "list_iterator", data := .fields #[.ref l, .int 0 0] }).get? s.heap.objs.size
              = some { cls := .type "set", dict := none, data := .set #[] 0 (.fresh 0 0 (!w.params.followText "set-order")) } := Heap.get?_push_of_some _ gS
          exact ⟨0, Nat.le_refl 0, setR_new_at gg⟩
        case hR =>
          intro s3 c3 mv lc2 gS2
          obtain ⟨hp, g3, d3, t3, o3⟩ := s3
          have e1 : g3 = s.gens := mv.gens
          have e2 : d3 = s.drawn := mv.drawn
          have e3 : o3 = s.os := mv.os
          subst e1; subst e2; subst e3
          show wpAny _ _ _ _ _ _
          refine wpAny_pure ?_
          show wpAny _ _ (ret Value.none) _ _ _
          rw [sz0] at lc2
          refine wpAny_pure ⟨rfl, hp, t3, c3, rfl, gS2, lc2, fun x1 o e => ?_⟩
          have b0 : x1 < s.heap.objs.size := Heap.lt_size e
          have b1 : x1 ≠ s.heap.objs.size := Nat.ne_of_lt b0
          have b2 : x1 ≠ (s.heap.push { cls := .type "set", dict := none, data := .set #[] 0 (.fresh 0 0 (!w.params.followText "set-order")) }).objs.size := by
            rw [Heap.size_push]; exact Nat.ne_of_lt (Nat.lt_succ_of_lt b0)
          exact mv.heap x1 o (by simp only [List.mem_cons, List.mem_singleton, List.not_mem_nil, or_false, not_or]; exact ⟨b1, b2⟩) (Heap.get?_push_of_some _ (Heap.get?_push_of_some _ e))

      · cases r2 with
        | error e => exact hr2
        | ok fl2 =>
          cases fl2 with
          | ret r =>
            obtain ⟨rfl, hp, tk, c3, rfl, gS2, lc2, kp2⟩ := hr2
            repeat (any_goals (first | assumption | wp_step))
            exact fin _ _ _ gS2 lc2 kp2
          | _ => exact hr2.elim
    | _ => exact hr.elim
end
end PL
set_option linter.all false
set_option maxRecDepth 100000
set_option maxHeartbeats 4000000
/-! PL13: sorted of ints, of texts, of a set of ints. -/
namespace PL
open PySem PySem.Spec L2
variable {wW : World}
def intsD : List D → Option (List Int)
  | [] => some []
  | .int x :: ds => (intsD ds).map (x :: ·)
  | _ => none
theorem ints_rep {K : PySem.W.Frag} {G : Hp} {μ : Mu} : ∀ {vs : List V} {ds : List D} {xs : List Int}, RepL K G μ vs ds → intsD ds = some xs → vs = xs.map V.int
  | _, [], _, .nil, h => by unfold intsD at h; cases h; rfl
  | _, _ :: ds, _, .cons r0 r, h => by
    cases r0 with
    | int b =>
      unfold intsD at h
      cases e : intsD ds with
      | none => rw [e] at h; cases h
      | some bs => rw [e] at h; cases h; rw [ints_rep r e]; rfl
    | _ => (unfold intsD at h; cases h)
theorem rep_ints {K : PySem.W.Frag} {G : Hp} {μ : Mu} : ∀ (xs : List Int), RepL K G μ (xs.map V.int) (xs.map D.int)
  | [] => .nil
  | x :: xs => .cons (.int x) (rep_ints xs)
theorem intsD_len : ∀ {ds : List D} {xs : List Int}, intsD ds = some xs → xs.length = ds.length
  | [], _, h => by unfold intsD at h; cases h; rfl
  | d :: ds, xs, h => by
    cases d <;> unfold intsD at h <;> try cases h
    cases e : intsD ds with
    | none => rw [e] at h; cases h
    | some bs => rw [e] at h; cases h; rw [List.length_cons, List.length_cons, intsD_len e]
theorem strsD_len : ∀ {ds : List D} {xs : List Str}, strsD ds = some xs → xs.length = ds.length
  | [], _, h => by unfold strsD at h; cases h; rfl
  | d :: ds, xs, h => by
    cases d <;> unfold strsD at h <;> try cases h
    cases e : strsD ds with
    | none => rw [e] at h; cases h
    | some bs => rw [e] at h; cases h; rw [List.length_cons, List.length_cons, strsD_len e]
/-! ### orders -/
def leS (a b : Str) : Bool := !ltCps b.cps.toList a.cps.toList
theorem leS_iff (a b : Str) : leS a b = true ↔ a.cps.toList ≤ b.cps.toList := by
  unfold leS
  rw [PyProof.Rows.ltCps_eq]
  simp [List.not_lt]
theorem leS_trans (a b c : Str) (h1 : leS a b = true) (h2 : leS b c = true) : leS a c = true := by
  rw [leS_iff] at *
  exact List.le_trans h1 h2
theorem leS_total (a b : Str) : (leS a b || leS b a) = true := by
  rw [Bool.or_eq_true, leS_iff, leS_iff]
  exact List.le_total _ _
theorem leS_anti {a b : Str} (h1 : leS a b = true) (h2 : leS b a = true) : a = b := by
  rw [leS_iff] at *
  have e : a.cps.toList = b.cps.toList := List.le_antisymm h1 h2
  cases a; cases b
  exact congrArg Str.mk (Array.toList_inj.mp e)
theorem pairS : ∀ {l : List Str}, PyProof.Rows.sortedS l = true → l.Pairwise fun a b => leS a b = true
  | [], _ => .nil
  | [x], _ => List.pairwise_singleton _ _
  | x :: y :: r, h => by
    have h' : (leS x y && PyProof.Rows.sortedS (y :: r)) = true := h
    rw [Bool.and_eq_true] at h'
    have ih := pairS h'.2
    refine .cons (fun z hz => ?_) ih
    rcases List.mem_cons.mp hz with e | e
    · rw [e]; exact h'.1
    · exact leS_trans _ _ _ h'.1 ((List.pairwise_cons.mp ih).1 z e)
/-- into a row that rises strictly -/
def insU (x : Int) : List Int → List Int
  | [] => [x]
  | y :: l => if x < y then x :: y :: l else if x = y then y :: l else y :: insU x l
def uniqI (ns : List Int) : List Int := ns.foldr insU []
theorem mem_insU (x k : Int) : ∀ l : List Int, k ∈ insU x l ↔ k = x ∨ k ∈ l
  | [] => by simp [insU]
  | y :: l => by
    unfold insU
    split
    · simp
    · split
      · rename_i h; subst h; simp
      · rw [List.mem_cons, mem_insU x k l, List.mem_cons]
        constructor
        · rintro (h | h | h)
          · exact .inr (.inl h)
          · exact .inl h
          · exact .inr (.inr h)
        · rintro (h | h | h)
          · exact .inr (.inl h)
          · exact .inl h
          · exact .inr (.inr h)
theorem pair_insU (x : Int) : ∀ {l : List Int}, l.Pairwise (· < ·) → (insU x l).Pairwise (· < ·)
  | [], _ => List.pairwise_singleton _ _
  | y :: l, h => by
    obtain ⟨h1, h2⟩ := List.pairwise_cons.mp h
    unfold insU
    split
    · rename_i hx
      refine .cons (fun z hz => ?_) h
      rcases List.mem_cons.mp hz with e | e
      · omega
      · have := h1 z e; omega
    · split
      · exact h
      · rename_i n1 n2
        refine .cons (fun z hz => ?_) (pair_insU x h2)
        rcases (mem_insU x z l).mp hz with e | e
        · omega
        · exact h1 z e
theorem mem_uniqI (k : Int) : ∀ ns : List Int, k ∈ uniqI ns ↔ k ∈ ns
  | [] => by simp [uniqI]
  | n :: ns => by
    show k ∈ insU n (uniqI ns) ↔ _
    rw [mem_insU, mem_uniqI k ns, List.mem_cons]
theorem pair_uniqI : ∀ ns : List Int, (uniqI ns).Pairwise (· < ·)
  | [] => .nil
  | n :: ns => pair_insU n (pair_uniqI ns)
theorem strict_eq {l m : List Int} (h1 : l.Pairwise (· < ·)) (h2 : m.Pairwise (· < ·)) (h : ∀ k, k ∈ l ↔ k ∈ m) : l = m := by
  have nd : ∀ {l : List Int}, l.Pairwise (· < ·) → l.Nodup := fun h => h.imp fun h e => by omega
  exact List.Perm.eq_of_pairwise (le := fun a b : Int => a < b) (fun a b _ _ h1 h2 => by omega) h1 h2 ((List.perm_ext_iff_of_nodup (nd h1) (nd h2)).mpr h)
/-! ### sorted -/
section
variable {X : Cx} {E : XK} {H0 : Hp} {a : Expr} {f : En → M D} {pos p p2 q : Pos}
def rSetI (K : PySem.W.Frag) (w : World) : List V → Hp → VK → Prop := fun xs H Q => ∃ (p : Addr) (ns : List Int), xs = [V.ref p] ∧ SqL K H p (ns.map V.int) ∧ ns.length < 64 ∧ ∀ (l : Addr) (c : Nat), H l = none → c ≤ ns.length → Q (.ref l) (upd H l (SetO w l (fun j => decide (j ∈ ns)) c))
theorem cr_setI (hc : X.calm = true) : CallR X (.type "set") (rSetI X.K X.w) := by
  intro pins s σ H vs us Q I r h
  obtain ⟨l, ns, rfl, hs, h64, k⟩ := h
  obtain ⟨its, rv, hl, _⟩ := I.list hs
  rw [Vals.ref1 r]
  refine set_of_ints ns (I.ok.hd hc) hl.isList (by simpa using rv.ints) (by unfold scanBound; omega) fun h' tk c R hcn kp => ?_
  exact ⟨.ref _, upd H s.heap.objs.size (SetO X.w s.heap.objs.size (fun j => decide (j ∈ ns)) c), I.laid (t' := tk) kp (Nat.le_refl _) (setO_new R), rfl, k _ c (I.hok.fresh (Nat.le_refl _)) hcn⟩
end
end PL
set_option linter.all false
set_option maxRecDepth 100000
set_option maxHeartbeats 4000000
/-! PL14: lists of the store: made, looked at, appended to, written at a place; own lists written at a place; defs with defaults. -/
namespace PL
open PySem PySem.Spec L2
variable {wW : World}
/-- the list of the store -/
def lstAt (n : Nat) : M (List D) := fun st => match st[n]? with
  | some (.lst ds) => .ok ds st
  | _ => .bad
/-- a list of the store as it stands now -/
def deref (d : D) : M D := match d with
  | .ref n => (lstAt n).bind fun ds => M.pure (.lst ds)
  | d => M.pure d
def dr1 (p : D → M D) (d : D) : M D := (deref d).bind p
def drL (p : D → D → M D) (x y : D) : M D := (deref x).bind fun x => p x y
def drR (p : D → D → M D) (x y : D) : M D := (deref y).bind fun y => p x y
section
variable {X : Cx} {E : XK} {H0 : Hp} {e a b c o i : Expr} {f g h : En → M D} {fl : En → M (List D)} {pos p p0 : Pos} {Φ : Ent} {x : Str} {ga : En → M (List D)}
theorem Post.lstAt {α β : Type} {K : PySem.W.Frag} {mg : Str → Option Value} {R : RR β α} {H G : Hp} {μ : Mu} {n : Nat} {k : List D → M α} {st : Sto} {Q : β → Hp → Prop} (q : Post wW K mg E R H G μ ((PL.lstAt n).bind k st) Q) : ∃ ds, st[n]? = some (.lst ds) ∧ Post wW K mg E R H G μ (k ds st) Q := by
  unfold M.bind PL.lstAt at q
  cases e : st[n]? with
  | none => rw [e] at q; exact q.elim
  | some o =>
    rw [e] at q
    cases o with
    | lst ds => exact ⟨ds, rfl, q⟩
    | dict _ => exact q.elim
    | ins _ _ => exact q.elim
    | tab _ _ => exact q.elim
    | nd _ => exact q.elim
theorem Rep.lstAt {K : PySem.W.Frag} {H G : Hp} {μ : Mu} {st : Sto} {v : V} {n : Nat} {ds : List D} (r : Rep K G μ v (.ref n)) (w : Wd wW K H G μ st) (hs : st[n]? = some (.lst ds)) : ∃ l vs, v = .ref l ∧ μ n = some l ∧ H l = some (.lst vs) ∧ RepL K G μ vs ds := by
  cases r with
  | ref hm =>
    obtain ⟨l, h1, h2, h3⟩ := w.obj n _ hs
    rw [hm] at h1; cases h1
    obtain ⟨vs, h4, h5⟩ := h3
    exact ⟨_, vs, rfl, hm, h4, h5⟩
theorem BRep.deref {α β : Type} {K : PySem.W.Frag} {mg : Str → Option Value} {R : RR β α} {H G : Hp} {μ : Mu} {st : Sto} {v : V} {d : D} {k : D → M α} {Q : β → Hp → Prop} (r : BRep K H G μ v d) (w : Wd wW K H G μ st) (q : Post wW K mg E R H G μ ((PL.deref d).bind k st) Q) : ∃ d', BRep K H G μ v d' ∧ Post wW K mg E R H G μ (k d' st) Q := by
  cases d with
  | ref n =>
    have q' : Post wW K mg E R H G μ (((PL.lstAt n).bind fun ds => M.pure (.lst ds)).bind k st) Q := q
    rw [M.bind_assoc] at q'
    obtain ⟨ds, hs, q2⟩ := Post.lstAt q'
    rcases r with r | ⟨_, _, _, _, z, _⟩
    · obtain ⟨l, vs, rfl, _, h4, h5⟩ := r.lstAt w hs
      exact ⟨.lst ds, .inr ⟨l, vs, ds, rfl, rfl, h4, h5, trivial⟩, q2⟩
    · cases z
  | _ => exact ⟨_, r, q⟩
theorem dr_c {r : List V → Hp → VK → Prop} {p : D → M D} (hp : C1J X E r p) : C1J X E r (dr1 p) := fun H G μ st x dx Q w rx h => by
  obtain ⟨d', r', h'⟩ := rx.deref w h
  exact hp H G μ st x d' Q w r' h'
theorem dr_l {r : R2} {p : D → D → M D} (hp : OpJ X E r p) : OpJ X E r (drL p) := fun H G μ st x y dx dy Q w rx ry h => by
  obtain ⟨d', r', h'⟩ := rx.deref w h
  exact hp H G μ st x y d' dy Q w r' ry h'
theorem dr_r {r : R2} {p : D → D → M D} (hp : OpJ X E r p) : OpJ X E r (drR p) := fun H G μ st x y dx dy Q w rx ry h => by
  obtain ⟨d', r', h'⟩ := ry.deref w h
  exact hp H G μ st x y dx d' Q w rx r' h'
/-- a list that is made comes into the store -/
def eNew (fl : En → M (List D)) : En → M D := fun ρ => (fl ρ).bind fun ds => newOb (.lst ds)
theorem JF.new (hf : JF X E H0 fl e) : JE X E H0 (eNew fl) e := PE.imp hf fun σ H Q ⟨G, μ, st, ρ, w, er, q⟩ =>
  ⟨G, μ, st, ρ, w, er, Post.raw q fun ds st1 v H1 G1 μ1 w1 s1 r1 q1 => by
    obtain ⟨a, vs, rfl, h1, h2, h3, h4, h5⟩ := r1
    have hx : OR X.w X.K G1 (muAdd μ1 st1.length a) (upd H1 a (.lst vs)) a (.lst ds) := ⟨vs, upd_same, h2.mono (fun _ _ h => h) fun n b h => by
      have := w1.dom n b h
      unfold muAdd; rw [if_neg (by omega)]; exact h⟩
    have eH : upd H1 a (.lst vs) = H1 := by
      funext b
      by_cases hb : b = a
      · subst hb; rw [upd_same, h1]
      · rw [upd_ne hb]
    have w2 := w1.adopt (o := .lst vs) h3 h4 hx
    have s2 := s1.adopt (o := .lst vs) w1 h5
    rw [eH] at w2 s2
    exact q1 _ _ _ _ w2 s2 (.ref (by unfold muAdd; rw [if_pos rfl]))⟩
/-- the store's list in slot i -/
def refS (i : Nat) (ρ : En) : Option Nat := match ρ[i]? with
  | some (.val (.ref n)) => some n
  | _ => none
/-- what is written into a list of the store -/
def sLput (i : Nat) (f : En → M D) (k : List D → D → M (List D)) : En → M (Fl × En) := fun ρ => (opt (refS i ρ)).bind fun n => (lstAt n).bind fun _ => (f ρ).bind fun d => (lstAt n).bind fun ds => (k ds d).bind fun es => (setAt n (.lst es)).bind fun _ => M.pure (.nx, ρ)
theorem refS_eq {i n : Nat} {ρ : En} (h : refS i ρ = some n) : ρ[i]? = some (.val (.ref n)) := by
  unfold refS at h
  cases e : ρ[i]? with
  | none => rw [e] at h; cases h
  | some s =>
    rw [e] at h
    cases s with
    | no => cases h
    | own _ => cases h
    | val d => cases d <;> cases h; rfl
def appK (ds : List D) (d : D) : M (List D) := (line (ds.length + 1)).bind fun _ => M.pure (ds ++ [d])
theorem PostS.lstAt {n : Nat} {k : List D → M (Fl × En)} {st : Sto} {Dn : Ends} (q : PostS X E Φ Dn ((PL.lstAt n).bind k st)) : ∃ ds, st[n]? = some (.lst ds) ∧ PostS X E Φ Dn (k ds st) := by
  unfold M.bind PL.lstAt at q
  cases e : st[n]? with
  | none => rw [e] at q; exact q.elim
  | some o =>
    rw [e] at q
    cases o with
    | lst ds => exact ⟨ds, rfl, q⟩
    | dict _ => exact q.elim
    | ins _ _ => exact q.elim
    | tab _ _ => exact q.elim
    | nd _ => exact q.elim
theorem lput_end {Dn : Ends} {ρ : En} {σ : L2.St} {H G : Hp} {μ : Mu} {st : Sto} {n : Nat} {ds es : List D} {l : Addr} (w : Wd X.w X.K H G μ st) (er : ER X.K H G μ Φ.H ρ σ) (s : Stp Φ.H Φ.G Φ.μ H G μ) (hs : st[n]? = some (.lst ds)) (hm : μ n = some l)
    (q : PostS X E Φ Dn ((setAt n (.lst es)).bind (fun _ => M.pure (.nx, ρ)) st)) (ws : List V) (r : RepL X.K G μ ws es) : Dn.nx σ (upd H l (.lst ws)) := by
  have q' : PostS X E Φ Dn (.ok (.nx, ρ) (st.set n (.lst es))) := q
  obtain ⟨w2, s2⟩ := w.write (x := .lst es) (o := .lst ws) hs hm ⟨ws, upd_same, r⟩
  exact q' _ _ _ _ w2 (er.step s2) (s.trans s2)
theorem js_appR {i : Nat} {p1 p2 pc ps : Pos} (hN : X.N[i]? = some x) (hv : Vis X.env.scope x) (he : JE X E Φ.H f e) (hd : (x == ("__debug__" : Str)) = false := by decide) (hcd : (x == ("__classdict__" : Str)) = false := by decide)
    (hb : ∀ {to : TE} {t : TA}, PE X (.Name x p1) to → PA X [e] t → PE X (.Call (.Attribute (.Name x p1) "append" p2) [e] [] pc) (tBM X.K "list" rAppend to t)) (ha : starEach [e] X.env = (false, eval e X.env) :: starEach [] X.env := by rfl)
    (hs : swapsWith (.Call (.Attribute (.Name x p1) "append" p2) [e] [] pc) none ps.line X.env = pure false := by rfl) : JS X E Φ (sLput i f appK) (.Expr (.Call (.Attribute (.Name x p1) "append" p2) [e] [] pc) ps) := by
  refine PS.imp (ps_expr (hb (pe_var hN hv hd hcd) (pa_one he ha)) hs) fun Dn σ H ⟨G, μ, st, ρ, w, er, s, q⟩ => ?_
  unfold sLput at q
  obtain ⟨n, hi, q⟩ := PostS.opt q
  obtain ⟨ds0, hs0, q⟩ := q.lstAt
  obtain ⟨v, hv1, rv⟩ := er.val i _ (refS_eq hi)
  obtain ⟨l, vs, rfl, hm, hl, _⟩ := rv.lstAt w hs0
  refine ⟨_, hv1, .inl ⟨rfl, _, .inl (.inl hl)⟩, G, μ, st, ρ, w, er, q.bind s fun d st1 v H1 G1 μ1 w1 s1 t1 r1 q1 => ?_⟩
  obtain ⟨ds, hs, q1⟩ := q1.lstAt
  unfold appK at q1
  rw [M.bind_assoc] at q1
  obtain ⟨hz, q1⟩ := q1.line
  obtain ⟨l', vs', e1, hm1, hl1, r2⟩ := (rv.mono s1.g s1.m).lstAt w1 hs
  cases e1
  exact ⟨_, vs', v, rfl, rfl, hl1, by rw [RepL.length r2]; omega, lput_end w1 (er.step s1) t1 hs hm1 q1 _ (r2.append (.cons r1 .nil))⟩
/-! ### x[i] = v -/
/-- the place of a list that is written -/
def setK (z : Int) (ds : List D) (d : D) : M (List D) := (opt (ixN ds.length z)).bind fun j => M.pure (ds.set j d)
def sLset (i : Nat) (gi f : En → M D) : En → M (Fl × En) := fun ρ => (f ρ).bind fun d => (opt (refS i ρ)).bind fun n => (gi ρ).bind fun z => (opt (match z with | .int z => some z | _ => none)).bind fun z => (lstAt n).bind fun ds => (setK z ds d).bind fun es => (setAt n (.lst es)).bind fun _ => M.pure (.nx, ρ)
theorem js_lset {j : Nat} {x : Str} {p1 ps po : Pos} (hN : X.N[j]? = some x) (hv : Vis X.env.scope x) (hi : JE X E Φ.H g i) (he : JE X E Φ.H f e) (hd : (x == ("__debug__" : Str)) = false := by decide) (hcd : (x == ("__classdict__" : Str)) = false := by decide)
    (ha : ∀ v, assign (.Subscript (.Name x p1) i po) X.env v = (do
      let ov ← holding [v] (eval (.Name x p1) X.env)
      let iv ← holding [v, ov] (eval i X.env)
      standAt po
      holding [v, ov, iv] (setItem ov iv v)
      release [v, ov, iv] []) := by intro _; rfl)
    (hs : swapsWithSole [.Subscript (.Name x p1) i po] e ps.line X.env = pure false := by rfl) (hw : swappedStores [.Subscript (.Name x p1) i po] e X.env = pure none := by rfl)
    (h1 : (assignEach [.Subscript (.Name x p1) i po] X.env).map (·.2) = [assign (.Subscript (.Name x p1) i po) X.env] := by rfl) :
    JS X E Φ (sLset j g f) (.Assign [.Subscript (.Name x p1) i po] e ps) := by
  refine PS.imp (ps_asg he (pg_sub (pe_var hN hv hd hcd) hi set_list ha) hs hw h1) fun Dn σ H ⟨G, μ, st, ρ, w, er, s, q⟩ => ?_
  refine ⟨G, μ, st, ρ, w, er, q.bind s fun d st1 v H1 G1 μ1 w1 s1 t1 r1 q1 => ?_⟩
  obtain ⟨n, hj, q1⟩ := PostS.opt q1
  obtain ⟨u, hu, ru⟩ := (er.step s1).val j _ (refS_eq hj)
  refine ⟨u, hu, G1, μ1, st1, ρ, w1, er.step s1, q1.bind t1 fun dz st2 z H2 G2 μ2 w2 s2 t2 r2 q2 => ?_⟩
  obtain ⟨k, hk, q2⟩ := PostS.opt q2
  cases r2 with
  | int z =>
    cases hk
    obtain ⟨ds, hs2, q2⟩ := q2.lstAt
    unfold setK at q2
    rw [M.bind_assoc] at q2
    obtain ⟨m, hm, q2⟩ := PostS.opt q2
    obtain ⟨l, vs, rfl, hm1, hl, r3⟩ := (ru.mono s2.g s2.m).lstAt w2 hs2
    exact ⟨l, vs, _, m, rfl, rfl, hl, by rw [RepL.length r3]; exact hm, lput_end w2 ((er.step s1).step s2) t2 hs2 hm1 q2 _ (RepL.set (r1.mono s2.g s2.m) m r3)⟩
  | _ => cases hk
end
/-! ### defs with defaults -/
end PL
namespace PL
open PySem PySem.Spec L2
end PL
namespace PL
open PySem PySem.Spec L2
variable {wW : World}
/-- name = [..] on one line, the list given out at once -/
theorem js_setLc {X : Cx} {E : XK} {Φ : Ent} {it : En → M (List D)} {pt : Pt} {tt : En → M Bool} {te : En → M D} {elt tg iter : Expr} {ifs : List Expr} {scope : Scope} {own : List (Str × Nat)} {pos : Pos} {i : Nat} {y : Str} {py spos : Pos} (hc : X.calm = true) (hN : X.N.Nodup) (hy : X.N[i]? = some y) (hyl : X.env.scope.names.lookup y = some .local)
    (hsw : swapsWith (.ListComp elt [⟨tg, iter, ifs, 0⟩] scope pos) (some (.Name y py)) spos.line X.env = pure true) (hi : JI X E Φ.H tg it iter) (ok : BlkOk X.N X.env.scope scope own) (hv : ∀ i ∈ pt.slots, i ∈ own.map (·.2))
    (hg : ∀ (s : Shared) (H : Hp) (C : Addr) (cl : List (Str × Addr)) (fp : List Addr), PG (X.blk s H scope (compEnvC scope cl C X.env) fp) tg (pt.g X.K))
    (ht : ∀ (s : Shared) (H : Hp) (C : Addr) (cl : List (Str × Addr)) (fp : List Addr), JTs (X.blk s H scope (compEnvC scope cl C X.env) fp) xNo Φ.H tt ifs)
    (he : ∀ (s : Shared) (H : Hp) (C : Addr) (cl : List (Str × Addr)) (fp : List Addr), JE (X.blk s H scope (compEnvC scope cl C X.env) fp) xNo Φ.H te elt) (hs : ∀ x, foldedSetIterable iter X.env x = pure x := by intro _; rfl) :
    JS X E Φ (sSet i (eL (eLc it pt (own.map (·.2)) tt te))) (.Assign [.Name y py] (.ListComp elt [⟨tg, iter, ifs, 0⟩] scope pos) spos) := by
  refine PS.imp (ps_setLc (tt := Se X xNo Φ.H rTrue tt) (te := Se X xNo Φ.H (rRep X.K) te) hc hN hy hyl hsw hi ok hg ht he hs) fun Dn σ H ⟨G, μ, st, ρ, w, er, s, p⟩ => ?_
  have p' : PostS X E Φ Dn (((eLc it pt (own.map (·.2)) tt te ρ).bind fun ds => put i (.val (.lst ds)) ρ) st) := by
    have e : sSet i (eL (eLc it pt (own.map (·.2)) tt te)) ρ = (eLc it pt (own.map (·.2)) tt te ρ).bind fun ds => put i (.val (.lst ds)) ρ := M.bind_assoc _ _ _
    rw [← e]; exact p
  refine lc_read hv _ _ _ ⟨G, μ, st, ρ, w, er, p'.bind s fun ds st' v H' G' μ' w' s' t' r q => ?_⟩
  obtain ⟨a, vs, rfl, h1, h2, h3, h4, h5⟩ := r
  exact put_val q (w'.freeze h1 h3 h4) (er.step (s'.freeze h3 h5)) (t'.freeze h3 (none_before s.th h5)) (.lst upd_same (h2.mono (subUpd h3) fun _ _ h => h))
end PL
set_option linter.all false
set_option maxRecDepth 100000
set_option maxHeartbeats 4000000
/-! PL15: from what the top has written to the defs and constants of the layer; the law's own start. -/
namespace PL
open PySem PySem.Spec L2
variable {wW : World}
section
variable {K : PySem.W.Frag} {h : Heap} {mg : Str → Option Value}
theorem fn0_of {x : Str} {st : Stmt} {f : Addr} {oc : Value} {od an : Option Addr} {osl : Array (Option Value)} {kV doc pm cdv ct : Value} (X : K.In h) (N : h.Ns mainGlobals mg) (ps : List Str) (a : PySem.W.nsIn K mainGlobals x = some (some (.ref f)))
    (l : K.lookup f = some ⟨oc, od, .func (PySem.W.fnOf x x (defArgs st) (defBody st) (defScope st) .none kV doc pm an cdv ct), osl⟩) (c : PySem.W.codeIn K cdv x = true) (k : PySem.W.keepIn K (.ref f) = true)
    (hb : ∀ (kV doc pm : Value) (an : Option Addr) (cdv ct : Value) (us : List Value), us.length = ps.length → bindArgs (PySem.W.fnOf x x (defArgs st) (defBody st) (defScope st) .none kV doc pm an cdv ct) ⟨us, []⟩ = pure (ps.zip us)) : Fn0 K mg x st ps :=
  ⟨f, _, fun_mk l c k, PySem.W.mg_of X N a, hb _ _ _ _ _ _⟩
/-- the law's promise -/
def spLaw (K : PySem.W.Frag) : Sp := fun vs H Q _ => ∃ (a : Addr) (ns : List Int), vs = [.ref a] ∧ SqL K H a (ns.map V.int) ∧ ns.length ≤ 63 ∧ ∀ H', Q (.bl true) H'
theorem law_end {P : Program} {w : World} {base : Heap} {k : Nat} {fa : Addr} {fd : FuncData} {x : Str} {m : List D → M D} (F : FnOk P w K mg base (L2.CX P w) k fa fd [x] (SpOf w K mg 1 m)) (hm : ∀ ns : List Int, ns.length ≤ 63 → ∃ st, m [.frz (ns.map D.int)] [] = .ok (.bl true) st) :
    FnOk P w K mg base (L2.CX P w) k fa fd [x] (spLaw K) := F.imp fun vs H Q E ⟨a, ns, e, hs, hl, q⟩ => by
  subst e
  obtain ⟨st, hst⟩ := hm ns hl
  refine ⟨H, fun _ => none, [], [.frz (ns.map D.int)], ⟨fun _ _ h => h, fun n o h => by simp at h, fun _ _ _ h => by simp at h, fun _ _ h => by simp at h⟩, .cons (.frz hs (rep_ints ns)) .nil, rfl, ?_⟩
  rw [hst]
  intro v H' G' μ' _ _ r
  cases r
  exact q H'
/-- the law's def, whatever stands below -/
theorem own_law {P : Program} {w : World} {k : Nat} {fa : Addr} {x y : Str} {st : Stmt} {m : List D → M D} (hfa : mg x = some (.ref fa)) (hm : ∀ ns : List Int, ns.length ≤ 63 → ∃ st, m [.frz (ns.map D.int)] [] = .ok (.bl true) st) (F : Fn0 K mg x st [y])
    (O : ∀ base, Own P w K mg base k x [y] m) : ∃ fd, (∀ (s : Shared) (u : Value), BindsTo s fd ⟨[u], []⟩ [(y, u)]) ∧ ∀ base : Heap, K.In base → base.Ns mainGlobals mg → FnOk P w K mg base (L2.CX P w) k fa fd [y] (spLaw K) := by
  obtain ⟨fa1, fd, F, e, b⟩ := F.ex
  rw [hfa] at e; cases e
  refine ⟨fd, fun s u => .of_eq (b [u] rfl), fun base _ _ => ?_⟩
  obtain ⟨fa2, fd', F2, e, _, b2, oc, od, sl, l⟩ := (O base).ex
  rw [hfa] at e; cases e
  obtain ⟨oc1, od1, sl1, l1⟩ := Fun.lk F
  rw [l] at l1
  have e2 : fd' = fd := by injection l1 with h; injection h with _ _ h; injection h
  subst e2
  exact law_end F2 hm
theorem no_cx {P : Program} {w : World} {H : Hp} {s : Shared} {e : Value} {s' : Shared} (h : L2.CX P w [] H s (fun _ _ _ => False) e s') : False := by
  obtain ⟨_, _, _, _, _, _, _, _, _, _, _, _, h⟩ := h
  exact h
end
end PL
set_option linter.all false
set_option maxRecDepth 100000
set_option maxHeartbeats 4000000
/-! PW1: what stands behind m, if all goes well: rules by which a printed text is walked. -/
namespace PL
open PySem PySem.Spec L2
structure wp {α : Type} (m : M α) (Q : α → Sto → Prop) (st : Sto) : Prop where
  run : match m st with
  | .ok a s => Q a s
  | _ => False
theorem wp_is {α : Type} {m : M α} {Q : α → Sto → Prop} {st : Sto} : wp m Q st = (match m st with
  | .ok a s => Q a s
  | _ => False) := propext ⟨fun h => h.run, fun h => ⟨h⟩⟩
section
variable {α β : Type} {m : M α} {Q Q' : α → Sto → Prop} {st : Sto} {f : α → M β} {P : β → Sto → Prop}
theorem wp_pure {a : α} : wp (M.pure a) Q st = Q a st := wp_is
theorem wp_bad : wp (M.bad : M α) Q st = False := wp_is
theorem wp_bind : wp (m.bind f) P st = wp m (fun a s => wp (f a) P s) st := by
  rw [wp_is, wp_is]
  unfold M.bind
  cases m st <;> first | rfl | exact wp_is.symm
theorem wp_mono (h : wp m Q st) (k : ∀ a s, Q a s → Q' a s) : wp m Q' st := by
  rw [wp_is] at h ⊢
  cases e : m st with
  | ok a s => rw [e] at h; exact k a s h
  | err x s => rw [e] at h; exact h
  | bad => rw [e] at h; exact h
theorem wp_ok (h : wp m Q st) : ∃ a s, m st = .ok a s ∧ Q a s := by
  rw [wp_is] at h
  cases e : m st with
  | ok a s => rw [e] at h; exact ⟨a, s, rfl, h⟩
  | err x s => rw [e] at h; exact h.elim
  | bad => rw [e] at h; exact h.elim
theorem wp_noX : wp (noX m) Q st = wp m Q st := by
  rw [wp_is, wp_is]
  unfold noX
  cases m st <;> rfl
theorem wp_guard {c : Bool} : wp (guardM c m) Q st = (c = true ∧ wp m Q st) := by
  unfold guardM
  by_cases h : c = true
  · rw [if_pos h]; simp [h]
  · rw [if_neg h]; simp [h, wp_bad]
theorem wp_some {a : α} : wp (opt (some a)) Q st = Q a st := wp_is
theorem wp_line {n : Nat} {R : Unit → Sto → Prop} : wp (line n) R st = (n ≤ sizeLine ∧ R () st) := by
  rw [wp_is]
  unfold line
  by_cases h : n ≤ sizeLine
  · rw [if_pos h]; simp [h]
  · rw [if_neg h]; simp [h]
theorem wp_dictAt {n : Nat} {R : List (Key × D) → Sto → Prop} : wp (dictAt n) R st = ∃ kvs, st[n]? = some (.dict kvs) ∧ R kvs st := by
  rw [wp_is]
  unfold dictAt
  cases e : st[n]? with
  | none => simp
  | some o => cases o <;> simp
theorem wp_lstAt {n : Nat} {R : List D → Sto → Prop} : wp (lstAt n) R st = ∃ ds, st[n]? = some (.lst ds) ∧ R ds st := by
  rw [wp_is]
  unfold lstAt
  cases e : st[n]? with
  | none => simp
  | some o => cases o <;> simp
theorem wp_setAt {n : Nat} {o : Ob} {R : Unit → Sto → Prop} : wp (setAt n o) R st = R () (st.set n o) := wp_is
theorem wp_newOb {o : Ob} {R : D → Sto → Prop} : wp (newOb o) R st = R (.ref st.length) (st ++ [o]) := wp_is
theorem wp_put {i : Nat} {x : Slot} {ρ : En} {R : Fl × En → Sto → Prop} : wp (put i x ρ) R st = (i < ρ.length ∧ R (.nx, ρ.set i x) st) := by
  unfold put
  by_cases h : i < ρ.length
  · rw [if_pos h, wp_pure]; simp [h]
  · rw [if_neg h, wp_bad]; simp [h]
/-- a call of a def -/
theorem wp_call {n : Nat} {sem : List D → M D} {ds : List D} {R : D → Sto → Prop} (hl : ds.length = n) (h : wp (sem ds) R st) : wp (if ds.length = n then sem ds else M.bad) R st := by rw [if_pos hl]; exact h
/-- for: an invariant by what is still to come -/
theorem wp_for {bd : D → En → M (Fl × En)} {R : Fl × En → Sto → Prop} (I : List D → En → Sto → Prop) (hstep : ∀ d ds ρ s, I (d :: ds) ρ s → wp (bd d ρ) (fun r s' => match r.1 with
      | .nx => I ds r.2 s'
      | .ct => I ds r.2 s'
      | .brk => R (.nx, r.2) s'
      | .ret x => R (.ret x, r.2) s') s) (hend : ∀ ρ s, I [] ρ s → R (.nx, ρ) s) : ∀ (ds : List D) (ρ : En) (s : Sto), I ds ρ s → wp (forL bd ds ρ) R s
  | [], ρ, s, h => by unfold forL; rw [wp_pure]; exact hend ρ s h
  | d :: ds, ρ, s, h => by
    unfold forL
    rw [wp_bind]
    refine wp_mono (hstep d ds ρ s h) fun r s' k => ?_
    cases e : r.1 with
    | nx => rw [e] at k; exact wp_for I hstep hend ds r.2 s' k
    | ct => rw [e] at k; exact wp_for I hstep hend ds r.2 s' k
    | brk => rw [e] at k; rw [wp_pure]; exact k
    | ret x => rw [e] at k; rw [wp_pure]; exact k
end
/-! ### the store around one object -/
def Same (n : Nat) (s t : Sto) : Prop := t.length = s.length ∧ ∀ k, k ≠ n → t[k]? = s[k]?
theorem Same.refl (n : Nat) (s : Sto) : Same n s s := ⟨rfl, fun _ _ => rfl⟩
theorem Same.trans {n : Nat} {s t u : Sto} (a : Same n s t) (b : Same n t u) : Same n s u := ⟨b.1.trans a.1, fun k h => (b.2 k h).trans (a.2 k h)⟩
theorem Same.set {n : Nat} {s t : Sto} {o : Ob} (a : Same n s t) : Same n s (t.set n o) := ⟨by rw [List.length_set]; exact a.1, fun k h => by rw [List.getElem?_set_ne (Ne.symm h)]; exact a.2 k h⟩
end PL
set_option linter.all false
/-! PG0: what the drawing defs of the laws do (printed). -/
set_option linter.all false
set_option maxRecDepth 100000
set_option maxHeartbeats 4000000
/-! PL16: own exceptions with two fields are raised. -/
namespace PL
open PySem PySem.Spec L2
variable {wW : World}
/-- what an __init__ that keeps two fields does -/
def spXi (C : Addr) (f g : Str) : Sp := fun vs H Q _ => ∃ a y z, vs = [.ref a, y, z] ∧ H a = some (exo a C none) ∧ ∀ d, H d = none → d ≠ a → Q .non (upd (upd (upd H d (exd d [(f, y)])) a (exo a C (some d))) d (exd d [(g, z), (f, y)]))
/-- an own exception class x with the fields f and g -/
structure Xc (P : Program) (w : World) (K : PySem.W.Frag) (mg : Str → Option Value) (base : Heap) (x f g : Str) : Prop where
  ex : ∃ C fI fd, OexC K C ∧ PySem.W.findIn K (.ref C) "__init__" = some (some (.ref fI)) ∧ PySem.W.typeIn K (.ref fI) = some (.type "function") ∧ FnOk P w K mg base (L2.CX P w) 1 fI fd ["self", f, g] (spXi C f g) ∧ mg x = some (.ref C) ∧ Binds K fd ["self", f, g] [] ∧
    XfC K C ∧ PySem.W.findIn K (.ref C) f = some none ∧ PySem.W.findIn K (.ref C) g = some none ∧ PySem.W.exmOne K (.ref C) (.ref C) = some true
section
variable {P : Program} {w : World} {K : PySem.W.Frag} {mg : Str → Option Value} {base : Heap}
theorem init_two {qual f g : Str} {st : Stmt} {C fI : Addr} {fd : FuncData} {p1 p2 p3 p4 p5 p6 p7 p8 : Pos} (F : Fun K "__init__" qual st fI fd) (S : FnScope ["self", f, g] ["self", f, g] (defScope st)) (T : OexC K C) (hf : PySem.W.findIn K (.ref C) f = some none) (hg : PySem.W.findIn K (.ref C) g = some none)
    (hb : defBody st = [.Assign [.Attribute (.Name "self" p1) f p2] (.Name f p3) p4, .Assign [.Attribute (.Name "self" p5) g p6] (.Name g p7) p8])
    (vs : Vis (defScope st) "self") (vf : Vis (defScope st) f) (vg : Vis (defScope st) g) (df : (f == ("__debug__" : Str)) = false) (dg : (g == ("__debug__" : Str)) = false) (cf : (f == ("__classdict__" : Str)) = false) (cg : (g == ("__classdict__" : Str)) = false) :
    FnOk P w K mg base (L2.CX P w) 1 fI fd ["self", f, g] (spXi C f g) := by
  refine F.okX S (fun vs H Q E h => ?_) (fun cdv A outer s H vs0 Q E hr h => ?_)
  · obtain ⟨a, y, z, rfl, _⟩ := h; rfl
  · obtain ⟨a, y, z, rfl, ha, q⟩ := h
    rw [hb]
    refine ⟨_, pss_cons (ps_ost (pe_var (i := 0) rfl vs) (pe_var (i := 1) rfl vf df cf)) (pss_one (ps_ost (pe_var (i := 0) rfl vs) (pe_var (i := 2) rfl vg dg cg))), ?_⟩
    refine ⟨y, rfl, .ref a, rfl, a, C, rfl, T, hf, .inl ⟨ha, fun d hd hne => ?_⟩⟩
    refine ⟨z, rfl, .ref a, rfl, a, C, rfl, T, hg, .inr ⟨d, [(f, y)], upd_same, ?_, by simp, ?_⟩⟩
    · rw [upd_ne hne, upd_same]
    · exact q d hd hne
end
def sRaise (x f g : Str) (ga : En → M (List D)) : En → M (Fl × En) := fun ρ => (ga ρ).bind fun ds => match ds with
  | [a, b] => M.raise ⟨x, [(g, b), (f, a)]⟩
  | _ => M.bad
section
variable {X : Cx} {E : XK} {Φ : Ent} {ga : En → M (List D)} {e1 e2 : Expr}
theorem js_raise {x f g : Str} {p pos rpos : Pos} (hc : X.calm = true) (tk : Takes X fun cls d _ H => E cls d H) (C : Xc X.prog X.w X.K X.mg X.base x f g) (hr : Room 2 X.A) (ha : JA X E Φ.H ga [e1, e2]) (hg : Gl X x := by rfl) (hdb : (x == ("__debug__" : Str)) = false := by decide)
    (he : starEach [e1, e2] X.env = (false, eval e1 X.env) :: starEach [e2] X.env := by rfl) (hpl : (backTo pos (starEach [e2] X.env)).any (·.1) = false := by rfl) : JS X E Φ (sRaise x f g ga) (.Raise (some (.Call (.Name x p) [e1, e2] [] pos)) none rpos) := by
  obtain ⟨C, fI, fd, T, iC, tI, F1, hm, hb, _⟩ := C.ex
  refine PS.imp (ps_raise hc tk (pmk_oex T iC tI F1 hr hb .nil px hg hm ha hdb he hpl)) fun Dn σ H ⟨G, μ, st, ρ, w, er, s, p⟩ => ?_
  refine ⟨G, μ, st, ρ, w, er, p.bind s fun ds st1 vs H1 G1 μ1 w1 s1 t1 r1 q1 => ?_⟩
  match ds, vs, r1, q1 with
  | [a, b], [va, vb], .cons ra (.cons rb .nil), q1 =>
    refine ⟨by simp, fun i hi => ⟨i, va, vb, rfl, upd_same, fun d hd hne => ⟨rfl, d, _, ?_, upd_same, ?_, ?_⟩⟩⟩
    · rw [upd_ne (Ne.symm hne), upd_same]
    · rw [upd_ne hne] at hd; exact hd
    · rw [upd_ne hne] at hd
      have e : upd (del (upd (upd (upd (upd H1 i (exo i C none)) d (exd d [(f, va)])) i (exo i C (some d))) d (exd d [(g, vb), (f, va)])) i) d (.xd [(g, vb), (f, va)]) = upd H1 d (.xd [(g, vb), (f, va)]) := by
        funext b
        by_cases h1 : b = d
        · rw [h1, upd_same, upd_same]
        · rw [upd_ne h1, upd_ne h1]
          by_cases h2 : b = i
          · rw [h2, del_same, hi]
          · rw [del_ne h2, upd_ne h1, upd_ne h2, upd_ne h1, upd_ne h2]
      rw [e]
      obtain ⟨w2, s2⟩ := w1.lay (o := .xd [(g, vb), (f, va)]) hd
      exact q1 _ _ _ _ _ w2 (t1.trans s2) ⟨hm, d, _, rfl, upd_same, rfl, .cons rb (.cons ra .nil)⟩
  | [], _, _, q1 => exact q1.elim
  | [_], _, _, q1 => exact q1.elim
  | _ :: _ :: _ :: _, _, _, q1 => exact q1.elim
end
end PL
set_option linter.all false
set_option maxRecDepth 100000
set_option maxHeartbeats 4000000
/-! PL17: what a def hears of a lambda without parameters: ("gave", what it gives), or the fields of the one exception that is caught. -/
namespace PL
open PySem PySem.Spec L2 LamX PyProof.Rows
end PL
set_option linter.all false
set_option maxRecDepth 100000
set_option maxHeartbeats 4000000
/-! PL18: try: return ("gave", ask()) / except x as e: return (x, e.f, e.g), and what is heard so. -/
namespace PL
open PySem PySem.Spec L2 LamX PyProof.Rows
variable {wW : World}
theorem Takes.len {X : Cx} {W : WX} (t : Takes X W) : Takes X (fun cls d σ H => σ.length = X.N.length → W cls d σ H) := fun u s' ⟨a, B, sI, pins, σ, H, cls, d, e, I, nb, up, sky, na, os, ag, w⟩ =>
  t u s' ⟨a, B, sI, pins, σ, H, cls, d, e, I, nb, up, sky, na, os, ag, w I.len⟩
end PL
set_option linter.all false
set_option maxRecDepth 100000
set_option maxHeartbeats 4000000
/-! PL19: list comprehensions with two clauses; displays with a star. -/
namespace PL
open PySem PySem.Spec L2
variable {wW : World}
/-- the items of a clause, behind those that are there -/
def lcA (set : D → En → Option En) (tt : En → M Bool) (te : En → M D) (ρ : En) : List D → List D → M (List D)
  | acc, [] => M.pure acc
  | acc, d :: ds => (opt (set d ρ)).bind fun ρ' => (tt ρ').bind fun b => if b = true then (te ρ').bind fun y => (line (acc.length + 1)).bind fun _ => lcA set tt te ρ (acc ++ [y]) ds else lcA set tt te ρ acc ds
def lc2A (set : D → En → Option En) (tt : En → M Bool) (it1 : En → M (List D)) (set1 : D → En → Option En) (vs1 : List Nat) (tt1 : En → M Bool) (te : En → M D) (ρ : En) : List D → List D → M (List D)
  | acc, [] => M.pure acc
  | acc, d :: ds => (opt (set d ρ)).bind fun ρ' => (tt ρ').bind fun b => if b = true then (it1 ρ').bind fun es => (lcA set1 tt1 te (wipeE ρ' vs1) acc es).bind fun acc' => lc2A set tt it1 set1 vs1 tt1 te ρ acc' ds else lc2A set tt it1 set1 vs1 tt1 te ρ acc ds
def eLc2 (it : En → M (List D)) (p : Pt) (vs : List Nat) (tt : En → M Bool) (it1 : En → M (List D)) (p1 : Pt) (vs1 : List Nat) (tt1 : En → M Bool) (te : En → M D) : En → M (List D) := fun ρ => (it ρ).bind fun ds => noX (lc2A p.set tt it1 p1.set vs1 tt1 te (wipeE ρ vs) [] ds)
section
variable {X : Cx} {E : XK} {H0 : Hp} {it it1 : En → M (List D)} {pt pt1 : Pt} {vs vs1 : List Nat} {tt tt1 : En → M Bool} {te : En → M D}
/-- L, a list that is being made, out of the store and of the fixed part, holds acc -/
structure Lg (X : Cx) (L : Addr) (H G : Hp) (μ : Mu) (acc : List V) (accD : List D) : Prop where
  at_ : H L = some (.lst acc)
  rep : RepL X.K G μ acc accD
  g : G L = none
  n : ∀ k, μ k ≠ some L
theorem Lg.step {L : Addr} {H G H' G' : Hp} {μ μ' : Mu} {acc : List V} {accD : List D} (l : Lg X L H G μ acc accD) (z : Stp H G μ H' G' μ') : Lg X L H' G' μ' acc accD := by
  refine ⟨z.fr L _ l.at_ l.n, l.rep.mono z.g z.m, ?_, fun n e => ?_⟩
  · cases e : G' L with
    | none => rfl
    | some o => have := z.ng L l.g (by rw [e]; simp); rw [l.at_] at this; cases this
  · cases e' : μ n with
    | some b => have := z.m n b e'; rw [e] at this; cases this; exact l.n n e'
    | none => have := z.nm n L e' e; rw [l.at_] at this; cases this
theorem Lg.push {L : Addr} {H G : Hp} {μ : Mu} {acc : List V} {accD : List D} (l : Lg X L H G μ acc accD) {y : V} {dy : D} (r : Rep X.K G μ y dy) : Lg X L (upd H L (.lst (acc ++ [y]))) G μ (acc ++ [y]) (accD ++ [dy]) :=
  ⟨upd_same, l.rep.append (.cons r .nil), l.g, l.n⟩
/-- no slot's own list stands at L -/
def NL (L : Addr) (ρ : En) (σ : L2.St) : Prop := ∀ (k : Nat) ds, ρ[k]? = some (.own ds) → σ[k]? ≠ some (some (.ref L))
theorem setAll_own : ∀ {is : List Nat} {ds : List D} {ρ ρ' : En}, setAll is ds ρ = some ρ' → ∀ (k : Nat) es, ρ'[k]? = some (.own es) → ρ[k]? = some (.own es) ∧ k ∉ is
  | [], [], ρ, ρ', h, k, es, e => by cases h; exact ⟨e, List.not_mem_nil⟩
  | i :: is, d :: ds, ρ, ρ', h, k, es, e => by
    unfold setAll at h
    by_cases hi : i < ρ.length
    · rw [if_pos hi] at h
      obtain ⟨h1, h2⟩ := setAll_own h k es e
      by_cases hk : i = k
      · subst hk; rw [List.getElem?_set_self hi] at h1; cases h1
      · rw [List.getElem?_set_ne hk] at h1
        exact ⟨h1, fun z => (List.mem_cons.mp z).elim (fun z => hk z.symm) h2⟩
    · rw [if_neg hi] at h; cases h
  | [], _ :: _, _, _, h, _, _, _ => by cases h
  | _ :: _, [], _, _, h, _, _, _ => by cases h
theorem Pt.own {p : Pt} {d : D} {ρ ρ' : En} (h : p.set d ρ = some ρ') (k : Nat) (es : List D) (e : ρ'[k]? = some (.own es)) : ρ[k]? = some (.own es) ∧ k ∉ p.slots := by
  cases p with
  | nm i =>
    have h' : (if i < ρ.length then some (ρ.set i (.val d)) else none) = some ρ' := by cases d <;> exact h
    by_cases hi : i < ρ.length
    · rw [if_pos hi] at h'
      cases h'
      by_cases hk : i = k
      · subst hk; rw [List.getElem?_set_self hi] at e; cases e
      · rw [List.getElem?_set_ne hk] at e
        exact ⟨e, fun z => hk (List.mem_singleton.mp z).symm⟩
    · rw [if_neg hi] at h'; cases h'
  | tp is =>
    cases d with
    | tup ds => exact setAll_own h k es e
    | _ => cases h
theorem wipe_get : ∀ {vs : List Nat} {σ : L2.St} {k : Nat}, k ∉ vs → (L2.wipe σ vs)[k]? = σ[k]?
  | [], _, _, _ => rfl
  | v :: vs, σ, k, h => by
    show ((L2.wipe σ vs).set v none)[k]? = _
    rw [List.getElem?_set_ne (fun e : v = k => h (by rw [e]; exact List.mem_cons_self)), wipe_get fun z => h (List.mem_cons_of_mem _ z)]
theorem wipeE_own : ∀ {vs : List Nat} {ρ : En} {k : Nat} {es : List D}, (wipeE ρ vs)[k]? = some (.own es) → ρ[k]? = some (.own es) ∧ k ∉ vs
  | [], _, _, _, h => ⟨h, List.not_mem_nil⟩
  | v :: vs, ρ, k, es, h => by
    have h' : ((wipeE ρ vs).set v .no)[k]? = some (.own es) := h
    by_cases hv : v = k
    · subst hv
      by_cases hl : v < (wipeE ρ vs).length
      · rw [List.getElem?_set_self hl] at h'; cases h'
      · rw [List.getElem?_eq_none (by rw [List.length_set]; omega)] at h'; cases h'
    · rw [List.getElem?_set_ne hv] at h'
      obtain ⟨a, b⟩ := wipeE_own h'
      exact ⟨a, fun z => (List.mem_cons.mp z).elim (fun z => hv z.symm) b⟩
theorem NL.set {L : Addr} {p : Pt} {d : D} {ρ ρ' : En} {σ σ' : L2.St} (n : NL L ρ σ) (h : p.set d ρ = some ρ') (hw : ∀ ws, (∀ i ∈ p.slots, i ∈ ws) → L2.wipe σ' ws = L2.wipe σ ws) : NL L ρ' σ' := fun k es e z => by
  obtain ⟨h1, h2⟩ := Pt.own h k es e
  have e2 := congrArg (fun l => l[k]?) (hw p.slots fun _ h => h)
  simp only [wipe_get h2] at e2
  exact n k es h1 (e2 ▸ z)
theorem NL.wipe {L : Addr} {ρ : En} {σ : L2.St} (n : NL L ρ σ) (vs : List Nat) : NL L (wipeE ρ vs) (L2.wipe σ vs) := fun k es e z => by
  obtain ⟨h1, h2⟩ := wipeE_own e
  rw [wipe_get h2] at z
  exact n k es h1 z
variable {elt tg iter tg1 iter1 : Expr} {ifs ifs1 : List Expr} {scope : Scope} {own : List (Str × Nat)} {pos : Pos}
/-- a star in a display -/
def aStar (f : En → M D) (g : En → M (List D)) : En → M (List D) := fun ρ => (f ρ).bind fun d => (opt (seqD d)).bind fun xs => (g ρ).bind fun ys => M.pure (xs ++ ys)
end
end PL
set_option linter.all false
set_option maxRecDepth 100000
set_option maxHeartbeats 6000000
/-! PL20: sorted(set(xs)) of a list of texts. -/
namespace PL
section
open PySem PySem.Spec L2
variable {wW : World}
/-- the text of a set's entry -/
def txtOf (e : Int × Value) : Str := match e.2 with
  | .str k _ => k
  | _ => Str.empty
def GoodT (P : Program) (w : World) (e : Int × Value) : Prop := ∃ k tk, e.2 = Value.str k tk ∧ e.1 = (PySem.strKind P w).hash k
/-- at a: a set of texts, S its members, n their number -/
def SetT (P : Program) (w : World) (h : Heap) (a : Addr) (S : Str → Bool) (n : Nat) : Prop := ∃ o es ep t, h.get? a = some o ∧ o.ExactSet ∧ o.data = .set es ep t ∧ (∀ e ∈ es.toList, GoodT P w e) ∧
  (es.toList.map txtOf).Nodup ∧ (∀ k, S k = true ↔ k ∈ es.toList.map txtOf) ∧ es.size < scanBound ∧ t.fits es.size = true ∧ es.size = n ∧ Ris t.place.toList ∧ (w.params.followText "set-order" = true ∨ t.led = true)
section
variable {P : Program} {w : World} {h h' : Heap} {a : Addr} {S : Str → Bool} {n : Nat}
theorem SetT.keep (R : SetT P w h a S n) (k : ∀ o, h.get? a = some o → h'.get? a = some o) : SetT P w h' a S n := let ⟨o, es, ep, t, ho, r⟩ := R; ⟨o, es, ep, t, k o ho, r⟩
theorem SetT.same {S' : Str → Bool} (R : SetT P w h a S n) (e : ∀ k, S' k = S k) : SetT P w h a S' n := by rw [show S' = S from funext e]; exact R
theorem goodT_el {l : List (Int × Value)} (g : ∀ e ∈ l, GoodT P w e) : ElemsOf (PySem.strKind P w) l := fun e he => by
  obtain ⟨k, tk, h1, h2⟩ := g e he
  refine ⟨⟨k, by rw [h1]; exact strKind_is P w k tk, h2⟩, ?_⟩
  rw [h1]; rfl
theorem goodT_is {e : Int × Value} (g : GoodT P w e) (k : Str) : (PySem.strKind P w).is k e.2 = true ↔ txtOf e = k := by
  obtain ⟨k0, tk, h1, _⟩ := g
  unfold txtOf
  rw [h1]
  constructor
  · intro z
    exact (PySem.strKind P w).inj _ _ _ (strKind_is P w k0 tk) z
  · rintro rfl
    exact strKind_is P w _ tk
theorem goodT_mem {l : List (Int × Value)} (g : ∀ e ∈ l, GoodT P w e) (k : Str) : k ∈ l.map txtOf ↔ ∃ e ∈ l, (PySem.strKind P w).is k e.2 = true :=
  ⟨fun z => let ⟨e, he, q⟩ := List.mem_map.mp z; ⟨e, he, (goodT_is (g e he) k).2 q⟩, fun ⟨e, he, q⟩ => List.mem_map.mpr ⟨e, he, (goodT_is (g e he) k).1 q⟩⟩
end
section
variable {P : Program} {w : World} {A : Around} {E : Value → Shared → Prop} {s : Shared} {a : Addr} {S : Str → Bool} {n : Nat}
theorem setT_tail {g : Bool → Sem Unit} (hg : ∀ (b : Bool) (s₁ : Shared) (Q' : Unit → Shared → Prop), Q' () s₁ → wpAny (model P w) A (g b) Q' E s₁) {o : Obj} {es : Array (Int × Value)} {ep : Nat} {t : SetTable} (ho : s.heap.get? a = some o) (hex : o.ExactSet) (hd : o.data = .set es ep t)
    {es1 : Array (Int × Value)} {t2 : SetTable} {S' : Str → Bool} (g1 : ∀ e ∈ es1.toList, GoodT P w e) (nd1 : (es1.toList.map txtOf).Nodup) (m1 : ∀ k, S' k = true ↔ k ∈ es1.toList.map txtOf) (hb1 : es1.size < scanBound) (hf2 : t2.fits es1.size = true) (hr : Ris t2.place.toList)
    (hl : w.params.followText "set-order" = true ∨ t2.led = true) {wasDummy : Bool} {R : Option Bool → Shared → Prop} (hR : ∀ h', Heap.SameBut a s.heap h' → SetT P w h' a S' es1.size → R (some true) { s with heap := h' }) :
    wpAny (model P w) A (storeSet a es1 t2 >>= fun _ => if (!wasDummy && t2.tooFull) = true then (g (relayAll t2 es1 (SetTable.grown es1.size)).2.2 >>= fun _ => storeSet a (relayAll t2 es1 (SetTable.grown es1.size)).1 (relayAll t2 es1 (SetTable.grown es1.size)).2.1 >>= fun _ => pure (some true)) else pure (some true)) R E s := by
  have o1 := store_at (es' := es1) (t' := t2) ho hd
  have sb1 := Heap.SameBut.update s.heap a (Obj.putSet es1 t2)
  refine wpAny_bind (wpAny_storeSet_of ho hd ?_ (fits_of_scanBound hb1))
  by_cases hc : (!wasDummy && t2.tooFull) = true
  · rw [if_pos hc]
    have pm := relayAll_perm t2 es1 (SetTable.grown es1.size)
    have f3 := relayAll_fits t2 es1 (SetTable.grown es1.size)
    have r3 := relayAll_ris t2 es1 (SetTable.grown es1.size)
    have l3 := relayAll_led t2 es1 (SetTable.grown es1.size)
    generalize relayAll t2 es1 (SetTable.grown es1.size) = Z at pm f3 r3 l3 ⊢
    obtain ⟨es2, t3, gave⟩ := Z
    dsimp only at pm f3 r3 l3 ⊢
    have sz : es2.size = es1.size := by rw [← Array.length_toList, pm.length_eq, Array.length_toList]
    have b2 : es2.size < scanBound := by rw [sz]; exact hb1
    refine wpAny_bind (hg _ _ _ (wpAny_bind (wpAny_storeSet_of o1 rfl (wpAny_pure (hR _ (sb1.trans (Heap.SameBut.update _ a _)) ?_)) (fits_of_scanBound b2))))
    exact ⟨_, es2, _, t3, store_at (es' := es2) (t' := t3) o1 rfl, hex, rfl, fun e he => g1 e (pm.mem_iff.mp he), (pm.map txtOf).nodup_iff.mpr nd1, fun k => (m1 k).trans (pm.map txtOf).mem_iff.symm, b2, f3, sz, r3, hl.imp id fun z => l3.trans z⟩
  · rw [if_neg hc]
    exact wpAny_pure (hR _ sb1 ⟨_, es1, _, t2, o1, hex, rfl, g1, nd1, m1, hb1, hf2, rfl, hr, hl⟩)
theorem setT_add {k : Str} {tk : Tok} {Q : Bool → Shared → Prop} (R : SetT P w s.heap a S n) (room : n + 1 < scanBound)
    (hQ : ∀ h', Heap.SameBut a s.heap h' → SetT P w h' a (fun j => S j || decide (j = k)) (if S k = true then n else n + 1) → Q (!S k) { s with heap := h' }) :
    wpAny (model P w) A (setAddHashed a (.str k tk) ((PySem.strKind P w).hash k)) Q E s := by
  obtain ⟨o, es, ep, t, ho, hex, hd, g, nd, hm, hb, hf, hn, hr, hl⟩ := R
  have hkey : (PySem.strKind P w).is k (.str k tk) = true := strKind_is P w k tk
  have hel := goodT_el g
  have hsc : (Value.str k tk).scannable = true := rfl
  unfold setAddHashed setAddHashedIn
  refine wpAny_holding (wpAny_bind (wpAny_setState_of ho hd hf ?_))
  dsimp only
  rw [byScan_of hsc hb hel]
  simp only [↓reduceIte]
  unfold setAddByScan
  refine wpAny_bind (wpAny_bind (wpAny_rule (wpAny_bind (wpAny_setScan_of hkey ho hd hf hel ?_))))
  cases hfi : List.findIdx? (fun e => (PySem.strKind P w).is k e.2) es.toList with
  | none =>
    dsimp only
    have hnk : k ∉ es.toList.map txtOf := fun z => by
      obtain ⟨e, he, q⟩ := (goodT_mem g k).1 z
      have c := List.findIdx?_eq_none_iff.mp hfi e he
      rw [q] at c; cases c
    have hSk : S k = false := by
      cases q : S k with
      | false => rfl
      | true => exact absurd ((hm k).1 q) hnk
    have hgw : ∀ (b : Bool) {s₁ : Shared} {Q' : Unit → Shared → Prop}, Q' () s₁ → wpAny (model P w) A (match b with | true => rule "set.scan.the-table-gave-way" | false => pure ()) Q' E s₁ := fun b s₁ Q' q => by
      cases b with
      | true => exact wpAny_rule q
      | false => exact wpAny_pure q
    have pm := layNew_perm t es ((PySem.strKind P w).hash k) (.str k tk)
    have f1 := layNew_fits t es ((PySem.strKind P w).hash k) (.str k tk)
    have r1 := layNew_ris t es ((PySem.strKind P w).hash k) (.str k tk) hr
    have l1 := layNew_led t es ((PySem.strKind P w).hash k) (.str k tk)
    generalize layNew t es ((PySem.strKind P w).hash k) (.str k tk) = Z at pm f1 r1 l1 ⊢
    obtain ⟨es1, t1, wasDummy, gave⟩ := Z
    dsimp only at pm f1 r1 l1 ⊢
    rw [Array.toList_push] at pm
    have pc := pm.trans (List.perm_append_singleton _ _)
    have pk : (es1.toList.map txtOf).Perm (k :: es.toList.map txtOf) := pc.map txtOf
    have g1 : ∀ e ∈ es1.toList, GoodT P w e := fun e he => by
      rcases List.mem_cons.mp (pc.mem_iff.mp he) with rfl | z
      · exact ⟨k, tk, rfl, rfl⟩
      · exact g e z
    have n1 := pk.nodup_iff.mpr (List.nodup_cons.mpr ⟨hnk, nd⟩)
    have m1 : ∀ i, (S i || decide (i = k)) = true ↔ i ∈ es1.toList.map txtOf := fun i => by
      rw [Bool.or_eq_true, decide_eq_true_eq, hm i, pk.mem_iff, List.mem_cons, or_comm]
    have sz : es1.size = n + 1 := by rw [← Array.length_toList, pc.length_eq, List.length_cons, Array.length_toList, hn]
    have b1 : es1.size < scanBound := sz ▸ room
    have hled : w.params.followText "set-order" = true ∨ t1.led = true := hl.imp id fun z => l1.trans z
    have fin : ∀ h', Heap.SameBut a s.heap h' → SetT P w h' a (fun j => S j || decide (j = k)) es1.size → Q true { s with heap := h' } := fun h' sb r => by
      have q := hQ h' sb
      rw [hSk] at q
      exact q (sz ▸ r)
    refine wpAny_bind (hgw _ ?_)
    split
    · refine wpAny_bind ?_
      rw [hashByValue_scannable 8 hsc]
      refine wpAny_pure (setT_tail (fun b s₁ Q' q => hgw b q) ho hex hd g1 n1 m1 b1 ?_ ?_ ?_ fun h' sb r => ?_)
      · first | exact f1 | exact SetTable.fits_plain_off f1 | (split <;> first | exact f1 | exact SetTable.fits_plain_off f1)
      · first | exact r1 | (split <;> exact r1)
      · first | exact hled | (split <;> exact hled)
      · dsimp only; exact wpAny_pure (fin h' sb r)
    · refine wpAny_bind (wpAny_pure ?_)
      simp only [↓reduceIte]
      refine setT_tail (fun b s₁ Q' q => hgw b q) ho hex hd g1 n1 m1 b1 f1 r1 hled fun h' sb r => ?_
      dsimp only; exact wpAny_pure (fin h' sb r)
  | some j =>
    dsimp only
    obtain ⟨hj, pj, _⟩ := List.findIdx?_eq_some_iff_getElem.mp hfi
    have hSk : S k = true := (hm k).2 ((goodT_mem g k).2 ⟨es.toList[j], List.getElem_mem hj, pj⟩)
    have q := hQ s.heap (Heap.SameBut.refl a s.heap) ⟨o, es, ep, t, ho, hex, hd, g, nd, fun i => by
      rw [Bool.or_eq_true, decide_eq_true_eq, ← hm i]
      exact ⟨fun z => z.elim id fun e => e ▸ hSk, .inl⟩, hb, hf, by rw [if_pos hSk]; exact hn, hr, hl⟩
    rw [hSk] at q
    exact wpAny_pure (wpAny_pure q)
end
end
end PL
set_option linter.all false
set_option maxRecDepth 100000
set_option maxHeartbeats 6000000
/-! PL21: set(xs) of a list of texts; sorted of it. -/
namespace PL
section
open PySem PySem.Spec PyProof.Rows L2
variable {wW : World}
theorem txts_at : ∀ {us : List Value} {xs : List Str}, StrsAre us xs → ∀ (i : Nat) (v : Value), us[i]? = some v → ∃ t, v = .str (xs.getD i Str.empty) t
  | _, _, .nil, i, v, h => by simp at h
  | _, _, .cons y t r, 0, v, h => by simp at h; exact ⟨t, by rw [← h]; rfl⟩
  | _, _, .cons y t r, i + 1, v, h => by
    obtain ⟨u, e⟩ := txts_at r i v (by simpa using h)
    exact ⟨u, by rw [e]; rfl⟩
theorem setT_new {P : Program} {w : World} {h : Heap} {a : Addr} {ks : List Str} (ho : h.get? a = some { cls := .type "set", dict := none, data := .set #[] 0 (.fresh 0 0 (!w.params.followText "set-order")) }) : SetT P w h a (fun j => decide (j ∈ ks.take 0)) 0 :=
  ⟨_, #[], 0, _, ho, ⟨rfl, rfl, rfl⟩, rfl, (fun e he => absurd he List.not_mem_nil), List.nodup_nil, (fun k => by simp), by decide, by rfl, rfl, List.Pairwise.nil, by
    show _ ∨ (!w.params.followText "set-order") = true
    cases w.params.followText "set-order" <;> simp⟩
section
variable {P : Program} {w : World} {A : Around} {E : Value → Shared → Prop} {s : Shared}
theorem set_update_txts {I : Addr} {fp wr : List Addr} {G : Array GenState → Array GenState → Prop} {n : Nat} {Pv : Nat → Value → Prop} {St : Nat → Shared → Prop} {R : Result → Shared → Prop} (W : WalksS P w A.in1 I fp wr G n Pv St) (Z : Addr) (hZ : Z ∉ fp) (xs : List Str) (hn : n = xs.length) (hb : xs.length + 1 < scanBound)
    (hval : ∀ i v, Pv i v → ∃ k t, xs[i]? = some k ∧ v = .str k t) : ∀ (m i : Nat) (s : Shared), n - i = m → i ≤ n → St i s → (∃ c, c ≤ i ∧ SetT P w s.heap Z (fun j => decide (j ∈ xs.take i)) c) →
      (∀ s' c, Moved (Z :: wr) G s s' → c ≤ n → SetT P w s'.heap Z (fun j => decide (j ∈ xs)) c → R (.ok (.ret .none)) s') → codeAny (model P w) A (.builtin "set.update.loop" ⟨[.ref Z, .ref I], []⟩) R s := by
  have hw : Z ∉ wr := fun h => hZ (W.sub _ h)
  have sub : ∀ b ∈ wr, b ∈ Z :: wr := fun b hb => List.mem_cons_of_mem _ hb
  intro m
  induction m with
  | zero =>
    intro i s hm hi hst ⟨c, hc, hS⟩ hR
    obtain rfl : i = n := by omega
    refine codeAny_builtin F.entry_set_update_loop ?_
    rw [Around.under_plainId F.plain_set_update_loop _]
    show wpAny _ A.in1 (pyNext (.ref I) >>= _) _ _ s
    refine wpAny_bind (W.done s _ _ hst fun s' hmv => ?_)
    show wpAny _ A.in1 (ret Value.none) _ _ s'
    rw [List.take_of_length_le (show xs.length ≤ i by omega)] at hS
    exact wpAny_pure (hR s' c (hmv.mono sub) hc (hS.keep fun o e => hmv.heap Z o hw e))
  | succ m ih =>
    intro i s hm hi hst ⟨c, hc, hS⟩ hR
    have lt : i < n := by omega
    refine codeAny_builtin F.entry_set_update_loop ?_
    rw [Around.under_plainId F.plain_set_update_loop _]
    show wpAny _ A.in1 (pyNext (.ref I) >>= _) _ _ s
    refine wpAny_bind (W.item i s _ _ lt hst fun v s' hP hst' hmv => ?_)
    obtain ⟨z, t, hz, rfl⟩ := hval i v hP
    have hS' : SetT P w s'.heap Z (fun j => decide (j ∈ xs.take i)) c := hS.keep fun o e => hmv.heap Z o hw e
    show wpAny _ A.in1 (holding [Value.str z t] (setAdd Z (.str z t)) >>= _) _ _ s'
    refine wpAny_bind (wpAny_holding ?_)
    unfold setAdd
    refine wpAny_holding (wpAny_bind ((PySem.strKind P w).pyHash (k := z) (strKind_is _ _ _ _) ?_))
    refine setT_add (s := { s' with toks := s'.toks + 1 }) hS' (by omega) fun h' hsb hS2 => ?_
    have hS3 : SetT P w h' Z (fun j => decide (j ∈ xs.take (i + 1))) (if decide (z ∈ xs.take i) = true then c else c + 1) := hS2.same fun j => by rw [List.take_add_one, hz]; simp [List.mem_append]
    have hc3 : (if decide (z ∈ xs.take i) = true then c else c + 1) ≤ i + 1 := by split <;> omega
    refine wpAny_pure ⟨plainId_quiet F.plain_set_update_loop _, ih (i + 1) _ (by omega) lt (W.frame _ s' _ _ hst' (Nat.le_succ _) fun b hb o e => ?_) ⟨_, hc3, hS3⟩ fun s'' c2 m2 hc2 hS4 => ?_⟩
    · rw [hsb.2 b (by rintro rfl; exact hZ hb)]; exact e
    · refine hR s'' c2 (Moved.trans W.gtrans ((hmv.mono sub).then_heap (Nat.le_succ _) fun b o hb e => ?_) m2) hc2 hS4
      rw [hsb.2 b (by rintro rfl; exact hb List.mem_cons_self)]; exact e
end
section
variable {prog : Program} {w : World} {A : Around} {E : Value → Shared → Prop} {s : Shared}
theorem set_of_txts {l : Addr} {zs : Array Value} (ks : List Str) {Q : Value → Shared → Prop} (hA : A.handled = none) (hL : s.heap.IsList l zs) (hz : StrsAre zs.toList ks) (bd : ks.length + 1 < scanBound)
    (fin : ∀ (hp : Heap) (tk c0 : Nat), SetT prog w hp s.heap.objs.size (fun j => decide (j ∈ ks)) c0 → c0 ≤ ks.length → (∀ x1 o, s.heap.get? x1 = some o → hp.get? x1 = some o) → Q (.ref s.heap.objs.size) { s with heap := hp, toks := tk }) :
    wpAny (model prog w) A (call (.type "set") [.ref l]) Q E s := by
  have sz0 : zs.size = ks.length := by
    have q := StrsAre.length hz
    rw [Array.length_toList] at q
    exact q
  obtain ⟨c0, tl, m0⟩ := F.called_set.mro
  have m1 := F.called_set.made
  have m2 := F.called_set.sub
  refine wpAny_call (codeAny_of_tree ?_)
  show wpAny _ _ (callAny (.type "set") _) _ _ _
  refine wpAny_pure ⟨Code.quiet_builtin _ (by decide +kernel), codeAny_builtin F.entry_type_call ?_⟩
  rw [Around.under_plain (weight_type_call_type "set" [.ref l] []) rfl]
  have m3 := F.called_set.notType
  have m4 := F.called_set.canCreate
  have m5 := F.typeCall_set_1 (.ref l)
  repeat (any_goals (first | assumption | wp_step))

  refine codeAny_mono (code_set_led1 (.ref l) (E := E) (Q₁ := fun ob s1 => ob = .ref s.heap.objs.size ∧ s1 = { s with heap := s.heap.push { cls := .type "set", dict := none, data := .set #[] 0 (.fresh 0 0 (!w.params.followText "set-order")) } }) ⟨rfl, rfl⟩) fun r s1 hr => ?_
  cases r with
  | error e => exact hr
  | ok fl =>
    cases fl with
    | ret ob =>
      obtain ⟨rfl, rfl⟩ := hr
      have gS : (s.heap.push { cls := .type "set", dict := none, data := .set #[] 0 (.fresh 0 0 (!w.params.followText "set-order")) }).get? s.heap.objs.size = some { cls := .type "set", dict := none, data := .set #[] 0 (.fresh 0 0 (!w.params.followText "set-order")) } := Heap.get?_push_size _ rfl
      have tS : Shared.TypeIs { s with heap := s.heap.push { cls := .type "set", dict := none, data := .set #[] 0 (.fresh 0 0 (!w.params.followText "set-order")) } } (.ref s.heap.objs.size) "set" := ⟨_, gS, rfl⟩
      have m6 := F.called_set.init.lookup
      have m7 := F.called_set.init.bind (.ref s.heap.objs.size)
      repeat (any_goals (first | assumption | wp_step))

      refine codeAny_mono (codeAny_call_builtin (R := wants (fun r s2 => r = .none ∧ ∃ hp tk c0, s2 = { s with heap := hp, toks := tk } ∧ SetT prog w hp s.heap.objs.size (fun j => decide (j ∈ ks)) c0 ∧ c0 ≤ ks.length ∧
          (∀ x1 o, s.heap.get? x1 = some o → hp.get? x1 = some o)) E) F.called_set.init.plain F.entry_set_init (check_set_init_1 tS ?_)) fun r2 s2 hr2 => ?_
      · obtain ⟨o1, go, gc, n1, gd⟩ := hL
        obtain ⟨oc, od, oa, os1⟩ := o1
        simp only at gc gd
        subst gc; subst gd
        have go2 : (s.heap.push { cls := .type "set", dict := none, data := .set #[] 0 (.fresh 0 0 (!w.params.followText "set-order")) }).get? l = some { cls := .type "list", dict := od, data := .seq zs n1, slots := os1 } := Heap.get?_push_of_some _ go
        have m8 := F.sub_list_set
        have m9 := F.sub_list_frozenset
        have mA : (Value.type "list" == Value.type "dict") = false := by decide
        have gl1 : (s.heap.push { cls := .type "set", dict := none, data := .set #[] 0 (.fresh 0 0 (!w.params.followText "set-order")) }).IsList l zs := ⟨_, go2, rfl, n1, rfl⟩
        unfold Builtin.«set.__init__» noKeywords Builtin.Frozenset.updateFrom
        generalize gP : pyIter = PI
        wp_walk
        subst gP

        refine wpAny_pyIter_list gl1 ?_
        refine wpAny_bind (wpAny_runValue ?_)
        have lS : l < s.heap.objs.size := Heap.lt_size go
        have mB : A.in1.in1.in1.handled = none := by simp [hA]
        have mC : (s.heap.push { cls := .type "set", dict := none, data := .set #[] 0 (.fresh 0 0 (!w.params.followText "set-order")) }).objs.size = s.heap.objs.size + 1 := Heap.size_push ..
        have mD : l ≠ (s.heap.push { cls := .type "set", dict := none, data := .set #[] 0 (.fresh 0 0 (!w.params.followText "set-order")) }).objs.size := by
          rw [Heap.size_push]; exact Nat.ne_of_lt (Nat.lt_succ_of_lt lS)
        have mE : s.heap.objs.size ∉ [(s.heap.push { cls := .type "set", dict := none, data := .set #[] 0 (.fresh 0 0 (!w.params.followText "set-order")) }).objs.size, l] := by
          rw [Heap.size_push]; simp only [List.mem_cons, List.mem_singleton, List.not_mem_nil, or_false, not_or]
          exact ⟨Nat.ne_of_lt (Nat.lt_succ_self _), Nat.ne_of_gt lS⟩
        have gv : ∀ (i : Nat) (v : Value), zs[i]? = some v → ∃ k t, ks[i]? = some k ∧ v = .str k t := fun i v hv => by
          have hi : i < ks.length := by rw [← sz0]; exact (Array.getElem?_eq_some_iff.mp hv).1
          obtain ⟨t, e⟩ := txts_at hz i v (by rw [Array.getElem?_toList]; exact hv)
          refine ⟨ks[i], t, List.getElem?_eq_getElem hi, ?_⟩
          rw [e, List.getD_eq_getElem?_getD, List.getElem?_eq_getElem hi] <;> rfl
        refine set_update_txts ((Walks.list mB _ l mD zs).toS) s.heap.objs.size
          mE ks sz0 bd gv (zs.size - 0) 0 _ (by omega) (Nat.zero_le _)
          ⟨⟨_, Heap.get?_push_size _ rfl, rfl, rfl⟩, (gl1.push _)⟩ ?hS0 ?hR
        case hS0 =>
          have gg : ((s.heap.push { cls := .type "set", dict := none, data := .set #[] 0 (.fresh 0 0 (!w.params.followText "set-order")) }).push { cls := .type "list_iterator", data := .fields #[.ref l, .int 0 0] }).get? s.heap.objs.size
              = some { cls := .type "set", dict := none, data := .set #[] 0 (.fresh 0 0 (!w.params.followText "set-order")) } := Heap.get?_push_of_some _ gS
          exact ⟨0, Nat.le_refl 0, setT_new gg⟩
        case hR =>
          intro s3 c3 mv lc2 gS2
          obtain ⟨hp, g3, d3, t3, o3⟩ := s3
          have e1 : g3 = s.gens := mv.gens
          have e2 : d3 = s.drawn := mv.drawn
          have e3 : o3 = s.os := mv.os
          subst e1; subst e2; subst e3
          show wpAny _ _ _ _ _ _
          refine wpAny_pure ?_
          show wpAny _ _ (ret Value.none) _ _ _
          rw [sz0] at lc2
          refine wpAny_pure ⟨rfl, hp, t3, c3, rfl, gS2, lc2, fun x1 o e => ?_⟩
          have b0 : x1 < s.heap.objs.size := Heap.lt_size e
          have b1 : x1 ≠ s.heap.objs.size := Nat.ne_of_lt b0
          have b2 : x1 ≠ (s.heap.push { cls := .type "set", dict := none, data := .set #[] 0 (.fresh 0 0 (!w.params.followText "set-order")) }).objs.size := by
            rw [Heap.size_push]; exact Nat.ne_of_lt (Nat.lt_succ_of_lt b0)
          exact mv.heap x1 o (by simp only [List.mem_cons, List.mem_singleton, List.not_mem_nil, or_false, not_or]; exact ⟨b1, b2⟩) (Heap.get?_push_of_some _ (Heap.get?_push_of_some _ e))

      · cases r2 with
        | error e => exact hr2
        | ok fl2 =>
          cases fl2 with
          | ret r =>
            obtain ⟨rfl, hp, tk, c3, rfl, gS2, lc2, kp2⟩ := hr2
            repeat (any_goals (first | assumption | wp_step))
            exact fin _ _ _ gS2 lc2 kp2
          | _ => exact hr2.elim
    | _ => exact hr.elim
end
section
variable {P : Program} {w : World} {A : Around} {E : Value → Shared → Prop} {s : Shared} {a : Addr}
theorem txts_of : ∀ (l : List Value), (∀ v ∈ l, ∃ k tk, v = Value.str k tk) → StrsAre l (l.map PyProof.Rows.strOf)
  | [], _ => .nil
  | v :: l, h => by
    obtain ⟨k, tk, rfl⟩ := h v List.mem_cons_self
    exact .cons k tk (txts_of l fun u hu => h u (List.mem_cons_of_mem _ hu))
theorem sorted_setT {S : Str → Bool} {n : Nat} {Q : Value → Shared → Prop} (R : SetT P w s.heap a S n) (hh : A.handled = none) (h64 : n < 64)
    (hQ : ∀ s' p (out : Array Value) (c : Nat) (ns : List Str), (∀ b o, s.heap.get? b = some o → s'.heap.get? b = some o) → s'.gens = s.gens → s'.os = s.os → s.heap.objs.size ≤ p → s'.heap.get? p = some (seqObj "list" out c) → StrsAre out.toList ns → sortedS ns = true → ns.Nodup → (∀ k, k ∈ ns ↔ S k = true) → ns.length = n → Q (.ref p) s') :
    wpAny (model P w) A (call (.builtin "sorted") [.ref a]) Q E s := by
  obtain ⟨o, es, ep, t, ho, hex, hd, g, nd, hm, hb, hf, hn, hr, hl⟩ := R
  refine Calls.call_function_entry kind_sorted plain_sorted entry_sorted (args_sorted1 _) ?_
  unfold Builtin.«sorted»
  refine wpAny_bind (m := checkCount "sorted" 1 1 _) (wpAny_pure (wpAny_bind (collect_set (A := A.in1) hh ⟨o, ho, hex.1, hd⟩ hf hb hr hl fun s1 vs k1 hz g1 o1 pm => ?_)))
  have lv : vs.length = n := by rw [pm.length_eq, List.length_map, Array.length_toList, hn]
  have hI := txts_of vs fun v hv => by
    obtain ⟨e, he, q⟩ := List.mem_map.mp (pm.mem_iff.mp hv)
    obtain ⟨k, tk, h1, _⟩ := g e he
    exact ⟨k, tk, q ▸ h1⟩
  have pk : (vs.map PyProof.Rows.strOf).Perm (es.toList.map txtOf) := by
    have q := pm.map PyProof.Rows.strOf
    rw [List.map_map] at q
    refine q.trans (List.Perm.of_eq (List.map_congr_left fun e he => ?_))
    obtain ⟨k, tk, h1, _⟩ := g e he
    show PyProof.Rows.strOf e.2 = txtOf e
    unfold txtOf
    rw [h1]; rfl
  refine wpAny_bind (wpAny_newList ?_ (by rw [lv, sizeLine_eq]; omega))
  have hoL : (s1.heap.push (seqObj "list" vs.toArray 0)).get? s1.heap.objs.size = some (seqObj "list" vs.toArray 0) := Heap.get?_push_size _ rfl
  refine wpAny_bind (wpAny_holding (wpAny_call_entry slot_list_sort ⟨_, hoL, rfl⟩ entry_list_sort (list_sort_treeK strKind_oneLt hoL hI.keysOf (fun v₁ v₂ rest e => keyKind_strs (by rw [← e]; exact hI)) (by rw [lv]; exact h64) fun st' hp hs => ⟨_, rfl, ?_⟩) (args_list_sort _)))
  obtain ⟨ns, a1, a2, a3⟩ := sorted_out_str hI hp hs
  obtain ⟨c, hc⟩ := sortedHeap_at (vs := vs) (out := (arrOf st').map (·.2)) hoL
  have pn : ns.Perm (es.toList.map txtOf) := a2.trans pk
  refine wpAny_pure ⟨_, rfl, hQ _ s1.heap.objs.size _ c ns (fun b u e => ?_) g1 o1 hz hc a1 a3 (pn.nodup_iff.mpr nd) (fun k => by rw [pn.mem_iff, ← hm k]) (by rw [pn.length_eq, List.length_map, Array.length_toList, hn])⟩
  have q := k1 b u e
  have lt := Heap.lt_size q
  show (sortedHeap (s1.heap.push (seqObj "list" vs.toArray 0)) s1.heap.objs.size vs _).get? b = some u
  rw [sortedHeap_old (Nat.ne_of_lt lt) (by rw [size_push']; exact Nat.lt_succ_of_lt lt)]
  exact Heap.get?_push_of_some _ q
end
end
end PL
set_option linter.all false
set_option maxRecDepth 100000
set_option maxHeartbeats 4000000
/-! PL22: sorted(set(xs)) of ints or of texts. -/
namespace PL
open PySem PySem.Spec L2
variable {wW : World}
def insS (x : Str) : List Str → List Str
  | [] => [x]
  | y :: ys => if x = y then y :: ys else if leS x y = true then x :: y :: ys else y :: insS x ys
def uniqS (xs : List Str) : List Str := xs.foldr insS []
def LtS (a b : Str) : Prop := leS a b = true ∧ a ≠ b
theorem LtS.trans {a b c : Str} (h1 : LtS a b) (h2 : LtS b c) : LtS a c := ⟨leS_trans a b c h1.1 h2.1, fun e => by subst e; exact h1.2 (leS_anti h1.1 h2.1)⟩
theorem ltS_of {a b : Str} (h : ¬leS a b = true) : LtS b a := by
  have := leS_total a b
  rw [Bool.or_eq_true] at this
  exact ⟨this.resolve_left h, fun e => by subst e; exact h (by simpa using leS_total b b)⟩
theorem mem_insS (x k : Str) : ∀ l : List Str, k ∈ insS x l ↔ k = x ∨ k ∈ l
  | [] => by simp [insS]
  | y :: ys => by
    unfold insS
    by_cases h : x = y
    · rw [if_pos h]; subst h; simp
    · rw [if_neg h]
      split
      · simp
      · rw [List.mem_cons, mem_insS x k ys, List.mem_cons]
        exact or_left_comm
theorem pair_insS (x : Str) : ∀ {l : List Str}, l.Pairwise LtS → (insS x l).Pairwise LtS
  | [], _ => by simp [insS]
  | y :: ys, h => by
    obtain ⟨h1, h2⟩ := List.pairwise_cons.mp h
    unfold insS
    by_cases e : x = y
    · rw [if_pos e]; exact h
    · rw [if_neg e]
      split
      · rename_i hl
        refine List.pairwise_cons.mpr ⟨fun z hz => ?_, h⟩
        rcases List.mem_cons.mp hz with rfl | hz
        · exact ⟨hl, e⟩
        · exact LtS.trans ⟨hl, e⟩ (h1 z hz)
      · rename_i hl
        refine List.pairwise_cons.mpr ⟨fun z hz => ?_, pair_insS x h2⟩
        rcases (mem_insS x z ys).mp hz with rfl | hz
        · exact ltS_of hl
        · exact h1 z hz
theorem mem_uniqS (k : Str) : ∀ xs : List Str, k ∈ uniqS xs ↔ k ∈ xs
  | [] => Iff.rfl
  | x :: xs => by
    show k ∈ insS x (uniqS xs) ↔ _
    rw [mem_insS, mem_uniqS k xs, List.mem_cons]
theorem pair_uniqS : ∀ xs : List Str, (uniqS xs).Pairwise LtS
  | [] => List.Pairwise.nil
  | x :: xs => pair_insS x (pair_uniqS xs)
theorem strictS_eq {l m : List Str} (h1 : l.Pairwise LtS) (h2 : m.Pairwise LtS) (h : ∀ k, k ∈ l ↔ k ∈ m) : l = m := by
  have nd : ∀ {l : List Str}, l.Pairwise LtS → l.Nodup := fun h => h.imp fun h => h.2
  exact List.Perm.eq_of_pairwise (le := LtS) (fun a b _ _ h1 h2 => leS_anti h1.1 h2.1) h1 h2 ((List.perm_ext_iff_of_nodup (nd h1) (nd h2)).mpr h)
theorem pair_lt : ∀ {l : List Str}, l.Pairwise (fun a b => leS a b = true) → l.Nodup → l.Pairwise LtS
  | [], _, _ => List.Pairwise.nil
  | x :: l, h, d => by
    obtain ⟨h1, h2⟩ := List.pairwise_cons.mp h
    obtain ⟨d1, d2⟩ := List.nodup_cons.mp d
    exact List.pairwise_cons.mpr ⟨fun y hy => ⟨h1 y hy, fun e => d1 (e ▸ hy)⟩, pair_lt h2 d2⟩
def ssetA (d : D) : M D := match d with
  | .lst ds => guardM (decide (ds.length < 64)) (match intsD ds with
    | some ns => M.pure (.lst ((uniqI ns).map D.int))
    | none => (opt (strsD ds)).bind fun xs => M.pure (.lst ((uniqS xs).map D.str)))
  | _ => M.bad
section
variable {X : Cx} {E : XK} {H0 : Hp} {a : Expr} {f : En → M D} {pos p p2 q : Pos}
def SetTO (P : Program) (w : World) (a : Addr) (S : Str → Bool) (n : Nat) : HO := .ext fun h => SetT P w h a S n
theorem setTO_new {P : Program} {w : World} {H : Hp} {h : Heap} {a : Addr} {S : Str → Bool} {n : Nat} (R : SetT P w h a S n) : ObjOk P w H h a (SetTO P w a S n) := by
  have ⟨o, _, _, _, ho, _⟩ := R
  exact ⟨R, ⟨o, ho⟩, fun h1 h2 p k => SetT.keep p k⟩
theorem setTO_get {pins : List (Addr × Obj)} {σ : L2.St} {H : Hp} {s : Shared} {a : Addr} {S : Str → Bool} {n : Nat} (I : Inv X pins σ H s) (ha : H a = some (SetTO X.prog X.w a S n)) : SetT X.prog X.w s.heap a S n := (I.hok a _ ha).1
def rSetT (K : PySem.W.Frag) (P : Program) (w : World) : List V → Hp → VK → Prop := fun xs H Q => ∃ (p : Addr) (ns : List Str), xs = [V.ref p] ∧ SqL K H p (ns.map V.str) ∧ ns.length < 64 ∧ ∀ (l : Addr) (c : Nat), H l = none → c ≤ ns.length → Q (.ref l) (upd H l (SetTO P w l (fun j => decide (j ∈ ns)) c))
theorem cr_setT (hc : X.calm = true) : CallR X (.type "set") (rSetT X.K X.prog X.w) := by
  intro pins s σ H vs us Q I r h
  obtain ⟨l, ns, rfl, hs, h64, k⟩ := h
  obtain ⟨its, rv, hl, _⟩ := I.list hs
  rw [Vals.ref1 r]
  refine set_of_txts ns (I.ok.hd hc) hl.isList (by simpa using rv.strs) (by unfold scanBound; omega) fun h' tk c R hcn kp => ?_
  exact ⟨.ref _, upd H s.heap.objs.size (SetTO X.prog X.w s.heap.objs.size (fun j => decide (j ∈ ns)) c), I.laid (t' := tk) kp (Nat.le_refl _) (setTO_new R), rfl, k _ c (I.hok.fresh (Nat.le_refl _)) hcn⟩
def rSortT (P : Program) (w : World) : List V → Hp → VK → Prop := fun vs H Q => ∃ (a : Addr) (S : Str → Bool) (n : Nat), vs = [V.ref a] ∧ H a = some (SetTO P w a S n) ∧ n < 64 ∧ ∀ (ns : List Str) (p : Addr), PyProof.Rows.sortedS ns = true → ns.Nodup → (∀ k, k ∈ ns ↔ S k = true) → ns.length = n → H p = none → Q (.ref p) (upd H p (.lst (ns.map V.str)))
theorem cr_sortT (hc : X.calm = true) : CallR X (.builtin "sorted") (rSortT X.prog X.w) := by
  intro pins s σ H vs us Q I r h
  obtain ⟨a, S, n, rfl, ha, h64, q⟩ := h
  rw [Vals.ref1 r]
  refine sorted_setT (setTO_get I ha) (I.ok.hd hc) h64 fun s' p out c ns k g o hp hg hi hs hnd hm hl => ?_
  have hlen : (ns.map V.str).length ≤ sizeLine := by rw [List.length_map, hl, sizeLine_eq]; omega
  have hn : H p = none := I.hok.fresh hp
  have J : Inv X pins σ (upd H p (.lst (ns.map V.str))) { s with heap := s'.heap, gens := s'.gens, drawn := s'.drawn, toks := s'.toks } :=
    I.call (ch := []) (Un.laid k hp hn) (I.hok.laid k hp ⟨hlen, out.toList, c, vals_of_strs hi, hg⟩) (by rw [g]; exact I.bare) (fun _ z => nomatch z)
  have e : s' = { s with heap := s'.heap, gens := s'.gens, drawn := s'.drawn, toks := s'.toks } := by
    cases s'; cases s; cases o; rfl
  rw [e]
  exact ⟨.ref p, _, J, rfl, q ns p hs hnd hm hl hn⟩
end
end PL
set_option linter.all false
set_option maxRecDepth 100000
set_option maxHeartbeats 4000000
/-! PL23: defs with lambdas; own exceptions and what hears, from what the top has written; the law's start with its tables. -/
namespace PL
open PySem PySem.Spec L2
variable {wW : World}
section
variable {K : PySem.W.Frag} {h : Heap} {mg : Str → Option Value}
/-- an own exception class -/
theorem xc_of {P : Program} {w : World} {base : Heap} {x qual f g : Str} {st : Stmt} {C fI : Addr} {oc kV doc pm cdv ct : Value} {od an : Option Addr} {osl : Array (Option Value)} (X : K.In h) (Ns : h.Ns mainGlobals mg) (T : OexC K C)
    (a : PySem.W.nsIn K mainGlobals x = some (some (.ref C))) (iC : PySem.W.findIn K (.ref C) "__init__" = some (some (.ref fI))) (tI : PySem.W.typeIn K (.ref fI) = some (.type "function"))
    (l : K.lookup fI = some ⟨oc, od, .func (PySem.W.fnOf "__init__" qual (defArgs st) (defBody st) (defScope st) .none kV doc pm an cdv ct), osl⟩) (cc : PySem.W.codeIn K cdv qual = true) (kp : PySem.W.keepIn K (.ref fI) = true)
    (hf : PySem.W.findIn K (.ref C) f = some none) (hg : PySem.W.findIn K (.ref C) g = some none) (ga : PySem.W.findIn K (.ref C) "__getattribute__" = some (some (.builtin "BaseException.__getattribute__"))) (gg : PySem.W.findIn K (.ref C) "__getattr__" = some none) (hd : PySem.W.hasDictIn K C = true)
    (ex : PySem.W.exmOne K (.ref C) (.ref C) = some true) (S : FnScope ["self", f, g] ["self", f, g] (defScope st)) {p1 p2 p3 p4 p5 p6 p7 p8 : Pos}
    (hb : defBody st = [.Assign [.Attribute (.Name "self" p1) f p2] (.Name f p3) p4, .Assign [.Attribute (.Name "self" p5) g p6] (.Name g p7) p8])
    (vs : Vis (defScope st) "self") (vf : Vis (defScope st) f) (vg : Vis (defScope st) g) (df : (f == ("__debug__" : Str)) = false) (dg : (g == ("__debug__" : Str)) = false) (cf : (f == ("__classdict__" : Str)) = false) (cg : (g == ("__classdict__" : Str)) = false)
    (bi : ∀ (kV doc pm : Value) (an : Option Addr) (cdv ct : Value) (us : List Value), us.length = 3 → bindArgs (PySem.W.fnOf "__init__" qual (defArgs st) (defBody st) (defScope st) .none kV doc pm an cdv ct) ⟨us, []⟩ = pure ((["self", f, g] : List Str).zip us)) : Xc P w K mg base x f g := by
  have F : L2.Fun K "__init__" qual st fI _ := fun_mk l cc kp
  exact ⟨C, fI, _, T, iC, tI, init_two F S T hf hg hb vs vf vg df dg cf cg, PySem.W.mg_of X Ns a, .all (bi _ _ _ _ _ _), ⟨ga, gg, T.exC, hd⟩, hf, hg, ex⟩
end
/-! ### the law's start -/
end PL
namespace PL
open PySem PySem.Spec L2
end PL
set_option linter.all false
set_option maxRecDepth 100000
set_option maxHeartbeats 6000000
/-! PL24: enumerate of lists and of tuples. -/
namespace PL
section
open PySem PySem.Spec PyProof.Rows L2
variable {wW : World}
open AutoSeq1 (wpAny_loadPart')
theorem enum_newT (t : Addr) (xs : Array Value) (m : Nat) (dd : Option Addr) (ss : Array (Option Value)) :
    Meets (Builtin.«enumerate.__new__» ⟨[.type "enumerate", .ref t], []⟩) (fun _ R s => s.heap.get? t = some ⟨.type "tuple", dd, .seq xs m, ss⟩ ∧
      R (.ok (.ret (.ref (s.heap.push ⟨.type "tuple_iterator", none, .fields #[.ref t, .int 0 0], #[]⟩).objs.size)))
        { s with heap := (s.heap.push ⟨.type "tuple_iterator", none, .fields #[.ref t, .int 0 0], #[]⟩).push ⟨.type "enumerate", none, .fields #[.none, .bool false, .ref s.heap.objs.size, rawInt 0, .none, .none], #[]⟩ }) :=
  .of_wp fun P w A R s hh => by
    obtain ⟨hp, gg, di, tk, os⟩ := s
    obtain ⟨ht, hh⟩ := hh
    have hsb := sub_enumerate
    have hT : Heap.IsTuple (Shared.heap ⟨hp, gg, di, tk, os⟩) t xs := ⟨_, ht, rfl, m, rfl⟩
    wp_walk using wpAny_loadPart' ht
    refine wpAny_stack_any fun sk => ?_
    refine wpAny_pure ?_
    split
    · rename_i c _ _ _ _ _
      cases (c == Value.type "enumerate")
      · wp_walk using wpAny_loadPart' ht, wpAny_pyIter_tuple hT
        exact ⟨_, rfl, hh⟩
      · wp_walk using wpAny_loadPart' ht, wpAny_pyIter_tuple hT
        exact ⟨_, rfl, hh⟩
    · wp_walk using wpAny_loadPart' ht, wpAny_pyIter_tuple hT
      exact ⟨_, rfl, hh⟩
section
variable {P : Program} {w : World} {A : Around} {E : Value → Shared → Prop} {s : Shared}
theorem enum_call_tuple {t : Addr} {xs : Array Value} {Q : Value → Shared → Prop} (ht : s.heap.IsTuple t xs)
    (k : ∀ h', IsEnum h' (s.heap.objs.size + 1) s.heap.objs.size 0 .none → h'.IsTupleIter s.heap.objs.size t 0 →
      (∀ b o, s.heap.get? b = some o → h'.get? b = some o) → Q (.ref (s.heap.objs.size + 1)) { s with heap := h' }) :
    wpAny (model P w) A (call (.type "enumerate") [.ref t]) Q E s := by
  obtain ⟨⟨c, dd, dt, ss⟩, hl, hc, m, hd⟩ := ht
  have hc' : c = .type "tuple" := hc
  have hd' : dt = .seq xs m := hd
  subst hc' hd'
  refine callType_new F.called_enumerate (by decide) (F.typeCall_enumerate_1 _) (F.newCall_enumerate_1 _) (fun ob => F.args_object_init_2 ob _) F.entry_enumerate_new (enum_newT t xs m dd ss) ⟨hl, ?_⟩
  have sz : (s.heap.push ⟨.type "tuple_iterator", none, .fields #[.ref t, .int 0 0], #[]⟩).objs.size = s.heap.objs.size + 1 := Heap.size_push ..
  show _ ∧ _
  rw [sz]
  have hE : IsEnum ((s.heap.push ⟨.type "tuple_iterator", none, .fields #[.ref t, .int 0 0], #[]⟩).push
      ⟨.type "enumerate", none, .fields #[.none, .bool false, .ref s.heap.objs.size, rawInt 0, .none, .none], #[]⟩) (s.heap.objs.size + 1) s.heap.objs.size 0 .none := by
    have z := Heap.get?_push_size (s.heap.push ⟨.type "tuple_iterator", none, .fields #[.ref t, .int 0 0], #[]⟩)
      (o := ⟨.type "enumerate", none, .fields #[.none, .bool false, .ref s.heap.objs.size, rawInt 0, .none, .none], #[]⟩) rfl
    rw [sz] at z
    exact z
  exact ⟨⟨_, hE, rfl⟩, k _ hE ⟨_, Heap.get?_push_of_some _ (Heap.get?_push_size _ rfl), rfl, rfl⟩ fun b ob z => Heap.get?_push_of_some _ (Heap.get?_push_of_some _ z)⟩
theorem enum_end_tuple {e it t : Addr} {j : Nat} {i : Int} {xs : Array Value} {old : Value} {Q : Option Value → Shared → Prop} (hd : A.handled = none) (he : IsEnum s.heap e it i old) (hi : s.heap.IsTupleIter it t j) (ht : s.heap.IsTuple t xs) (hx : xs[j]? = none)
    (k : ∀ h', Heap.ExtBut it s.heap h' → Q none { s with heap := h' }) : wpAny (model P w) A (pyNext (.ref e)) Q E s := by
  have ty : s.TypeIs (.ref e) "enumerate" := ⟨_, he, rfl⟩
  unfold pyNext
  refine wpAny_bind (wpAny_attempt (wpAny_callSpecial?_slot (name := Str.ofString "__next__") ty F.slot_enumerate_next (wpAny_call_entry F.slot_enumerate_next ty F.entry_enumerate_next ?_ (F.args_enumerate_next_1 _))))
  show wpAny _ _ (field (.ref e) 2 >>= _) _ _ _
  refine wpAny_bind (wpAny_field he rfl (x := .ref it) rfl ?_)
  refine wpAny_bind (wpAny_nextOf_tuple_end (A := A.in1) hd hi ht hx fun h' x eb hx' => ?_)
  obtain ⟨ob, ho, hc⟩ := hx'
  refine wpAny_bind (wpAny_isInstance (T := "StopIteration") (b := true) ⟨ob, ho, hc⟩ isSubtype_stop ?_)
  exact wpAny_pure (k _ eb)
end
/-- the tuple at a, each item in a new pair -/
def IteT (K : PySem.W.Frag) (a : Addr) : It :=
  ⟨fun i H => ∃ (xs : List V) (x : V), SqT K H a xs ∧ xs[i]? = some x, fun i H v H' => ∃ T x, v = .ref T ∧ H T = none ∧ H' = upd H T (.tup [.int (i : Nat), x]) ∧ ∀ xs, SqT K H a xs → xs[i]? = some x, fun i H => ∃ xs : List V, SqT K H a xs ∧ xs.length ≤ i⟩
theorem turn_enumT {P : Program} {w : World} {K : PySem.W.Frag} {elts : List Expr} {kk : Nat} {tpos : Pos} (a e it : Addr) :
    Turn P w K (.Tuple elts kk tpos) (IteT K a) [e, it] e (fun i h => (∃ old, IsEnum h e it ((i : Nat) : Int) old) ∧ h.IsTupleIter it a i ∧ e ≠ it) where
  mem := by simp
  obj := fun i h st b hb => by
    obtain ⟨⟨old, he⟩, ⟨ob, ho, hc, hd⟩, _⟩ := st
    have z : b = e ∨ b = it := by simpa using hb
    rcases z with q | q
    · rw [q]; exact ⟨_, he, fun v z => nomatch z⟩
    · rw [q]; exact ⟨ob, ho, fun v z => by rw [hd] at z; cases z⟩
  keep := fun i h h' st k => let ⟨⟨old, he⟩, hi, hne⟩ := st; ⟨⟨old, k e (by simp) _ he⟩, hi.at fun ob q => k it (by simp) ob q, hne⟩
  item := by
    intro X hP hw hK hc i pins s σ H E I hf st hg
    subst hP hw hK
    obtain ⟨⟨old, he⟩, hit, hne⟩ := st
    obtain ⟨xs, x, hq, hx⟩ := hg
    obtain ⟨us, rv, p, hz⟩ := I.tuple hq
    obtain ⟨u, hu, ru⟩ := rv.get hx
    have p' : s.heap.IsTuple a us.toArray := p
    have lte : e < s.heap.objs.size := Heap.lt_size he
    have lti : it < s.heap.objs.size := by obtain ⟨_, q, _⟩ := hit; exact Heap.lt_size q
    have nea : e ≠ a := fun q => by
      subst q
      obtain ⟨ob, ho, hc', _⟩ := p'
      rw [he] at ho
      cases ho
      exact absurd (show Value.type "enumerate" = Value.type "tuple" from hc') (by decide)
    have nia : a ≠ it := fun q => by
      subst q
      obtain ⟨ob, ho, hc', _⟩ := p'
      obtain ⟨ob2, ho2, hc2, _⟩ := hit
      rw [ho] at ho2
      cases ho2
      exact absurd (hc'.symm.trans hc2) (by decide)
    have hu' : us.toArray[i]? = some u := by simpa using hu
    have li : i < us.toArray.size := (Array.getElem?_eq_some_iff.mp hu').1
    refine wpAny_pyNext_enum_itemD (Draws.tuple (A := X.A.in1) (show X.A.in1.handled = none from I.ok.hd hc) it a nia us.toArray) he ⟨hit, p'⟩ li hne (by simp [hne, nea]) fun y h' tk hy ho st' hT hsz hk => ?_
    obtain rfl : y = u := Option.some.inj (hy.symm.trans hu')
    refine ⟨_, rfl, wpAny_letOwnedTupleGo_enum (s := { s with heap := h', toks := tk + 1 }) ho fun h2 he2 sb => ?_⟩
    have hT2 : h2.get? s.heap.objs.size = some ⟨.type "tuple", none, .seq #[.int i tk, y] 0, #[]⟩ := (sb.2 _ (Nat.ne_of_gt lte)).trans hT
    have new : ObjOk X.prog X.w (upd H s.heap.objs.size (.tup [.int (i : Nat), x])) h2 s.heap.objs.size (.tup [.int (i : Nat), x]) :=
      ⟨(by show 2 ≤ sizeLine; decide), [.int i tk, y], .cons ⟨_, rfl⟩ (.cons ru .nil), ⟨_, hT2, rfl, _, rfl⟩⟩
    have I1 : Inv X pins σ (upd H s.heap.objs.size (.tup [.int (i : Nat), x])) { s with heap := h2, toks := tk + 1 } :=
      I.turnedNew (ch := [e, it]) (fun b ob hb q => (sb.2 b fun z => hb (by simp [z])).trans (hk b ob (fun z => hb (by simp [z])) (fun z => hb (by simp [z])) q)) hf (Nat.le_refl _) new
    refine ⟨.ref s.heap.objs.size, _, I1, rfl, ⟨_, x, rfl, I.hok.fresh (Nat.le_refl _), rfl, fun zs hz => by rw [I.tuple_inj hz hq]; exact hx⟩, ⟨⟨y, ?_⟩, st'.1.at fun ob q => (sb.2 it (Ne.symm hne)).trans q, hne⟩, fun b hb => ?_⟩
    · have e1 : ((i + 1 : Nat) : Int) = (i : Int) + 1 := Int.natCast_add i 1
      rw [e1]
      exact he2
    · have lb : b < s.heap.objs.size := by
        have z : b = e ∨ b = it := by simpa using hb
        rcases z with q | q <;> rw [q] <;> assumption
      rw [upd_ne (Nat.ne_of_lt lb)]
      exact (hf b hb).1
  done := by
    intro X hP hw hK hc i pins s σ H E I hf st hg
    subst hP hw hK
    obtain ⟨⟨old, he⟩, hit, hne⟩ := st
    obtain ⟨xs, hq, hx⟩ := hg
    obtain ⟨us, rv, p, hz⟩ := I.tuple hq
    obtain ⟨g0, g1, g2, g3, g4, g5⟩ := hf it (by simp)
    have ll := rv.length
    exact enum_end_tuple (I.ok.hd hc) he hit (show s.heap.IsTuple a us.toArray from p) (by simp; omega) fun h' eb => ⟨rfl, I.turned (t' := s.toks) (fun b ob hb q => eb b ob hb q) g0 g1 g3 g4 g5⟩
  self := fun A i s Q E st k => let ⟨⟨_, he⟩, _⟩ := st; wpAny_pyIter_enum he k
def iEnS (K : PySem.W.Frag) (ta : TA) : TI := fun σ H R => ta σ H fun vs H1 => ∃ a, vs = [.ref a] ∧ ((∃ xs, SqL K H1 a xs ∧ R (Ite K a) H1) ∨ ∃ xs, SqT K H1 a xs ∧ R (IteT K a) H1)
theorem pi_enumS {X : Cx} {e : Expr} {ta : TA} {p pos tpos : Pos} {elts : List Expr} {kk : Nat} (hg : Gl X "enumerate") (hm : X.mg "enumerate" = none) (ha : PA X [e] ta) (hs : starEach [e] X.env = [(false, eval e X.env)] := by rfl) :
    PI X (.Tuple elts kk tpos) (.Call (.Name "enumerate" p) [e] [] pos) (iEnS X.K ta) := by
  refine ⟨fun pins s σ H R I hh => ?_⟩
  refine Call_ (ld_blt I hg hm boot_enumerate (PyProof.Rows.callWith_type1 (thn (ha.run pos pins s σ H _ I hh) fun us s1 ⟨vs, H1, I1, r1, q1⟩ => ?_) hs rfl))
  obtain ⟨a, ex, q⟩ := q1
  subst ex
  cases r1 with
  | cons r rr =>
    cases rr
    cases r
    have fp : ∀ {h' : Heap} (b : Addr), b ∈ [s1.heap.objs.size + 1, s1.heap.objs.size] → s1.heap.objs.size ≤ b := fun b hb => by
      have z : b = s1.heap.objs.size + 1 ∨ b = s1.heap.objs.size := by simpa using hb
      rcases z with q | q <;> rw [q]
      · exact Nat.le_succ _
      · exact Nat.le_refl _
    rcases q with ⟨xs, hq, q⟩ | ⟨xs, hq, q⟩
    · obtain ⟨us, rv, p', hz⟩ := I1.list hq
      refine call_enumerate_list p'.isList fun h' he hit hsz hk => wpAny_pyIter_enum he ?_
      exact ⟨s1.heap.objs.size + 1, [s1.heap.objs.size + 1, s1.heap.objs.size], _, _, H1, rfl, I1.kept (t' := s1.toks) hk, turn_enum a (s1.heap.objs.size + 1) s1.heap.objs.size, ⟨⟨.none, he⟩, hit, Nat.succ_ne_self _⟩, fun b hb => I1.fpOk (fp (h' := h') b hb) (I1.hok.fresh (fp (h' := h') b hb)), q⟩
    · obtain ⟨us, rv, p', hz⟩ := I1.tuple hq
      refine enum_call_tuple (show s1.heap.IsTuple a us.toArray from p') fun h' he hit hk => wpAny_pyIter_enum he ?_
      exact ⟨s1.heap.objs.size + 1, [s1.heap.objs.size + 1, s1.heap.objs.size], _, _, H1, rfl, I1.kept (t' := s1.toks) hk, turn_enumT a (s1.heap.objs.size + 1) s1.heap.objs.size, ⟨⟨.none, he⟩, hit, Nat.succ_ne_self _⟩, fun b hb => I1.fpOk (fp (h' := h') b hb) (I1.hok.fresh (fp (h' := h') b hb)), q⟩
end
section
open PySem PySem.Spec L2
variable {wW : World}
variable {X : Cx} {E : XK} {H0 : Hp} {ga : En → M (List D)} {a : Expr} {p pos : Pos}
def iEnumS (g : En → M (List D)) : En → M (List D) := fun ρ => (g ρ).bind fun ds => match ds with
  | [.lst xs] => (line xs.length).bind fun _ => M.pure (numb 0 xs)
  | [.tup xs] => (line xs.length).bind fun _ => M.pure (numb 0 xs)
  | _ => M.bad
theorem iteT_ok {K : PySem.W.Frag} {G : Hp} {μ : Mu} {a : Addr} {vs : List V} {ds : List D} (hl : SqT K G a vs) (r : RepL K G μ vs ds) (hz : ds.length ≤ sizeLine) : ItR wW K G μ (IteT K a) (numb 0 ds) := by
  refine ⟨by rw [numb_len]; exact hz, fun H1 G1 μ1 st1 w sg sm => ⟨fun i hi => ?_, fun i hi => ?_⟩⟩
  · rw [numb_len] at hi
    have h1 : SqT K H1 a vs := (sg.trans w.imm).sqT hl
    obtain ⟨v, hv, rv⟩ := r.get (List.getElem?_eq_getElem hi)
    refine ⟨⟨vs, v, h1, hv⟩, fun x H2 ⟨T, y, ex, hT, eH, hy⟩ => ?_⟩
    subst ex eH
    have ey : y = v := Option.some.inj ((hy vs h1).symm.trans hv)
    subst ey
    obtain ⟨w2, s2⟩ := w.new (o := .tup [.int (i : Nat), y]) hT
    refine ⟨_, w2, s2, _, by rw [numb_get, List.getElem?_eq_getElem hi]; rfl, ?_⟩
    rw [Nat.zero_add]
    exact .tup (.inl (.inl upd_same)) (.cons (.int _) (.cons ((rv.mono sg sm).mono s2.g s2.m) .nil))
  · rw [numb_len] at hi
    exact ⟨vs, (sg.trans w.imm).sqT hl, by rw [RepL.length r]; exact hi⟩
theorem ji_enumS {elts : List Expr} {kk : Nat} {tpos : Pos} (hg : Gl X "enumerate") (hm : X.mg "enumerate" = none) (ha : JA X E H0 ga [a]) (hs : starEach [a] X.env = [(false, eval a X.env)] := by rfl) :
    JI X E H0 (.Tuple elts kk tpos) (iEnumS ga) (.Call (.Name "enumerate" p) [a] [] pos) := by
  refine PI.imp (pi_enumS hg hm ha hs) fun σ H R ⟨G, μ, st, ρ, w, er, q⟩ => ?_
  refine ⟨G, μ, st, ρ, w, er, Post.raw q fun ds st1 vs H1 G1 μ1 w1 s1 r1 q1 => ?_⟩
  cases r1 with
  | nil => exact q1.elim
  | cons h t =>
    cases t with
    | cons _ _ => cases h <;> exact q1.elim
    | nil =>
      cases h with
      | lst h1 rr =>
        obtain ⟨c, q1⟩ := Post.line (X := X) q1
        exact ⟨_, rfl, .inl ⟨_, w1.imm.sqL (.inl (.inl h1)), q1 _ _ _ _ w1 s1 (ite_ok (.inl (.inl h1)) rr c)⟩⟩
      | tup h1 rr =>
        obtain ⟨c, q1⟩ := Post.line (X := X) q1
        exact ⟨_, rfl, .inr ⟨_, w1.imm.sqT h1, q1 _ _ _ _ w1 s1 (iteT_ok h1 rr c)⟩⟩
      | _ => exact q1.elim
end
end PL
set_option linter.all false
set_option maxRecDepth 100000
set_option maxHeartbeats 4000000
/-! PL25: lists from split that stay in their maker's hands; pairs whose first name holds an own list; x[i] = v of own lists; calls with keywords. -/
namespace PL
open PySem PySem.Spec L2
/-! ### keywords -/
end PL
set_option linter.all false
set_option maxRecDepth 100000
set_option maxHeartbeats 4000000
/-! PW2: the walk over a printed text, rule by rule. -/
namespace PL
open PySem PySem.Spec L2
/-! ### what follows -/
def SeqK (g : En → M (Fl × En)) (Q : Fl × En → Sto → Prop) : Fl × En → Sto → Prop := fun r s => match r.1 with
  | .nx => wp (g r.2) Q s
  | _ => Q r s
def RunK (Q : D → Sto → Prop) : Fl × En → Sto → Prop := fun r s => match r.1 with
  | .ret d => Q d s
  | .nx => Q .non s
  | _ => False
def BlK (Q : Bool → Sto → Prop) : D → Sto → Prop := fun d s => match d with
  | .bl b => Q b s
  | _ => False
def IfK (A B : Prop) (b : Bool) : Prop := (b = true → A) ∧ (b = false → B)
def StrK (Q : Str → Sto → Prop) : D → Sto → Prop := fun d s => match d with
  | .str b => Q b s
  | _ => False
def IntK (Q : Int → Sto → Prop) : D → Sto → Prop := fun d s => match d with
  | .int b => Q b s
  | _ => False
section
variable {Q : Fl × En → Sto → Prop} {R : D → Sto → Prop} {T : Bool → Sto → Prop} {A : List D → Sto → Prop} {st : Sto} {ρ : En} {f g h : En → M D} {s1 s2 : En → M (Fl × En)} {t u : En → M Bool} {ga : En → M (List D)} {P1 P2 : Prop}
theorem k_seq (k : wp (s2 ρ) Q st) : SeqK s2 Q (.nx, ρ) st := k
theorem k_seqR {d : D} (k : Q (.ret d, ρ) st) : SeqK s2 Q (.ret d, ρ) st := k
theorem k_run {d : D} (k : R d st) : RunK R (.ret d, ρ) st := k
theorem k_runN (k : R .non st) : RunK R (.nx, ρ) st := k
theorem k_bl {b : Bool} (k : T b st) : BlK T (.bl b) st := k
theorem k_str {b : Str} {S : Str → Sto → Prop} (k : S b st) : StrK S (.str b) st := k
theorem k_int {b : Int} {S : Int → Sto → Prop} (k : S b st) : IntK S (.int b) st := k
theorem k_ifT (k : P1) : IfK P1 P2 true := ⟨fun _ => k, fun e => nomatch e⟩
theorem k_ifF (k : P2) : IfK P1 P2 false := ⟨fun e => (nomatch e), fun _ => k⟩
theorem k_if {b : Bool} (k1 : b = true → P1) (k2 : b = false → P2) : IfK P1 P2 b := ⟨k1, k2⟩
/-! ### bodies -/
theorem w_run {n : Nat} {ds : List D} (k : wp (s1 (ds.map Slot.val ++ List.replicate (n - ds.length) Slot.no)) (RunK R) st) : wp (runB n s1 ds) R st := by
  unfold runB
  rw [wp_bind]
  refine wp_mono k fun r s k => ?_
  obtain ⟨fl, ρ'⟩ := r
  cases fl <;> (first | exact k | exact ⟨k⟩ | (simp only [wp_pure, wp_some, wp_line, wp_bind]; exact k) | exact False.elim k | exact k.run.elim)
theorem w_run' {n : Nat} {ds : List D} (ρ : En) (e : ds.map Slot.val ++ List.replicate (n - ds.length) Slot.no = ρ) (k : wp (s1 ρ) (RunK R) st) : wp (runB n s1 ds) R st := w_run (by rw [e]; exact k)
theorem w_seq (k : wp (s1 ρ) (SeqK s2 Q) st) : wp (sSeq s1 s2 ρ) Q st := by
  unfold sSeq
  rw [wp_bind]
  refine wp_mono k fun r s k => ?_
  obtain ⟨fl, ρ'⟩ := r
  cases fl <;> (first | exact k | exact ⟨k⟩ | (simp only [wp_pure, wp_some, wp_line, wp_bind]; exact k) | exact False.elim k | exact k.run.elim)
theorem w_nil (k : Q (.nx, ρ) st) : wp (sNil ρ) Q st := by first | exact k | exact ⟨k⟩
theorem w_pass (k : Q (.nx, ρ) st) : wp (sPass ρ) Q st := by first | exact k | exact ⟨k⟩
theorem w_ret (k : wp (f ρ) (fun d s => Q (.ret d, ρ) s) st) : wp (sRet f ρ) Q st := by unfold sRet; rw [wp_bind]; (first | exact k | exact ⟨k⟩ | (simp only [wp_pure, wp_some, wp_line, wp_bind]; exact k) | exact False.elim k | exact k.run.elim)
theorem w_expr (k : wp (f ρ) (fun d s => Q (.nx, ρ) s) st) : wp (sExpr f ρ) Q st := by unfold sExpr; rw [wp_bind]; (first | exact k | exact ⟨k⟩ | (simp only [wp_pure, wp_some, wp_line, wp_bind]; exact k) | exact False.elim k | exact k.run.elim)
theorem w_put {i : Nat} {x : Slot} (hi : i < ρ.length) (k : Q (.nx, ρ.set i x) st) : wp (put i x ρ) Q st := by rw [wp_put]; exact ⟨hi, k⟩
theorem w_set {i : Nat} (hi : i < ρ.length) (k : wp (f ρ) (fun d s => Q (.nx, ρ.set i (.val d)) s) st) : wp (sSet i f ρ) Q st := by
  unfold sSet; rw [wp_bind]
  exact wp_mono k fun d s k => w_put hi k
theorem w_own {i : Nat} (hi : i < ρ.length) (k : wp (ga ρ) (fun d s => Q (.nx, ρ.set i (.own d)) s) st) : wp (sOwn i ga ρ) Q st := by
  unfold sOwn; rw [wp_bind]
  exact wp_mono k fun d s k => w_put hi k
theorem w_frz {i : Nat} (k : wp (s1 (frz1 i ρ)) Q st) : wp (sFrz i s1 ρ) Q st := by first | exact k | exact ⟨k⟩
theorem w_if (k : wp (t ρ) (fun b s => IfK (wp (s1 ρ) Q s) (wp (s2 ρ) Q s) b) st) : wp (sIf t s1 s2 ρ) Q st := by
  unfold sIf; rw [wp_bind]
  refine wp_mono k fun b s k => ?_
  cases b with
  | true => (first | exact k.1 rfl | exact ⟨k.1 rfl⟩)
  | false => (first | exact k.2 rfl | exact ⟨k.2 rfl⟩)
theorem w_par {i j : Nat} (hi : i < ρ.length) (hj : j < ρ.length) (k : wp (f ρ) (fun d s => wp (g ρ) (fun e s => Q (.nx, (ρ.set i (.val d)).set j (.val e)) s) s) st) : wp (sPar i j f g ρ) Q st := by
  unfold sPar; rw [wp_bind]
  refine wp_mono k fun d s k => ?_
  rw [wp_bind]
  refine wp_mono k fun e s k => ?_
  rw [wp_bind]
  have : setAll [i, j] [d, e] ρ = some ((ρ.set i (.val d)).set j (.val e)) := by
    unfold setAll; rw [if_pos hi]; unfold setAll; rw [if_pos (by rw [List.length_set]; exact hj)]; rfl
  rw [this]; (first | exact k | exact ⟨k⟩ | (simp only [wp_pure, wp_some, wp_line, wp_bind]; exact k) | exact False.elim k | exact k.run.elim)
theorem w_parO {i j : Nat} (hi : i < ρ.length) (hj : j < ρ.length) (k : wp (f ρ) (fun d s => wp (ga ρ) (fun e s => Q (.nx, (ρ.set i (.val d)).set j (.own e)) s) s) st) : wp (sParO i j f ga ρ) Q st := by
  unfold sParO; rw [wp_bind]
  refine wp_mono k fun d s k => ?_
  rw [wp_bind]
  refine wp_mono k fun e s k => ?_
  rw [wp_bind]
  have : setAll [i] [d] ρ = some (ρ.set i (.val d)) := by unfold setAll; rw [if_pos hi]; rfl
  rw [this, wp_some]
  exact w_put (by rw [List.length_set]; exact hj) k
theorem w_un {pt : Pt} (k : wp (f ρ) (fun d s => ∃ r, pt.set d ρ = some r ∧ Q (.nx, r) s) st) : wp (sUn pt f ρ) Q st := by
  unfold sUn; rw [wp_bind]
  refine wp_mono k fun d s ⟨r, e, k⟩ => ?_
  rw [wp_bind, e]; (first | exact k | exact ⟨k⟩ | (simp only [wp_pure, wp_some, wp_line, wp_bind]; exact k) | exact False.elim k | exact k.run.elim)
theorem w_dput (k : wp (h ρ) (fun v s => wp (f ρ) (fun x s => wp (g ρ) (fun y s => wp (dpM x y v) (fun _ s => Q (.nx, ρ) s) s) s) s) st) : wp (PL.sDPut f g h ρ) Q st := by
  unfold PL.sDPut; rw [wp_bind]
  refine wp_mono k fun v s k => ?_
  rw [wp_bind]
  refine wp_mono k fun x s k => ?_
  rw [wp_bind]
  refine wp_mono k fun y s k => ?_
  rw [wp_bind]; (first | exact k | exact ⟨k⟩ | (simp only [wp_pure, wp_some, wp_line, wp_bind]; exact k) | exact False.elim k | exact k.run.elim)
theorem w_app {i : Nat} {ds : List D} (hi : ρ[i]? = some (.own ds)) (k : wp (f ρ) (fun d s => ds.length + 1 ≤ sizeLine ∧ Q (.nx, ρ.set i (.own (ds ++ [d]))) s) st) : wp (sApp i f ρ) Q st := by
  unfold sApp; rw [hi]
  show wp ((f ρ).bind _) Q st
  rw [wp_bind]
  refine wp_mono k fun d s ⟨hl, k⟩ => ?_
  rw [wp_bind, wp_line]
  exact ⟨hl, w_put (List.getElem?_eq_some_iff.mp hi).1 k⟩
theorem w_ext {i : Nat} {ds : List D} (hi : ρ[i]? = some (.own ds)) (k : wp (f ρ) (fun d s => ∃ es, d = .lst es ∧ ds.length + es.length ≤ sizeLine ∧ Q (.nx, ρ.set i (.own (ds ++ es))) s) st) : wp (sExt i f ρ) Q st := by
  unfold sExt; rw [hi]
  show wp ((f ρ).bind _) Q st
  rw [wp_bind]
  refine wp_mono k fun d s ⟨es, e, hl, k⟩ => ?_
  subst e
  show wp ((line (ds.length + es.length)).bind fun _ => put i (.own (ds ++ es)) ρ) Q s
  rw [wp_bind, wp_line]
  exact ⟨hl, w_put (List.getElem?_eq_some_iff.mp hi).1 k⟩
/-! ### expressions -/
theorem w_var {i : Nat} {d : D} (hi : ρ[i]? = some (.val d)) (k : R d st) : wp (eVar i ρ) R st := by unfold eVar; rw [hi]; (first | exact k | exact ⟨k⟩ | (simp only [wp_pure, wp_some, wp_line, wp_bind]; exact k) | exact False.elim k | exact k.run.elim)
theorem w_look {i : Nat} {ds : List D} (hi : ρ[i]? = some (.own ds)) (k : R (.lst ds) st) : wp (eLook i ρ) R st := by unfold eLook; rw [hi]; (first | exact k | exact ⟨k⟩ | (simp only [wp_pure, wp_some, wp_line, wp_bind]; exact k) | exact False.elim k | exact k.run.elim)
theorem w_lookV {i : Nat} {d : D} (hi : ρ[i]? = some (.val d)) (k : R d st) : wp (eLook i ρ) R st := by unfold eLook; rw [hi]; (first | exact k | exact ⟨k⟩ | (simp only [wp_pure, wp_some, wp_line, wp_bind]; exact k) | exact False.elim k | exact k.run.elim)
theorem w_c {d : D} (k : R d st) : wp (eC d ρ) R st := by first | exact k | exact ⟨k⟩
theorem w_e1 {p : D → M D} (k : wp (f ρ) (fun x s => wp (p x) R s) st) : wp (e1 p f ρ) R st := by unfold e1; rw [wp_bind]; (first | exact k | exact ⟨k⟩ | (simp only [wp_pure, wp_some, wp_line, wp_bind]; exact k) | exact False.elim k | exact k.run.elim)
theorem w_e2 {p : D → D → M D} (k : wp (f ρ) (fun x s => wp (g ρ) (fun y s => wp (p x y) R s) s) st) : wp (e2 p f g ρ) R st := by
  unfold e2; rw [wp_bind]
  refine wp_mono k fun x s k => ?_
  rw [wp_bind]; (first | exact k | exact ⟨k⟩ | (simp only [wp_pure, wp_some, wp_line, wp_bind]; exact k) | exact False.elim k | exact k.run.elim)
theorem w_aN (k : A [] st) : wp (aNil ρ) A st := by first | exact k | exact ⟨k⟩
theorem w_aC (k : wp (f ρ) (fun x s => wp (ga ρ) (fun xs s => A (x :: xs) s) s) st) : wp (aCons f ga ρ) A st := by
  unfold aCons; rw [wp_bind]
  refine wp_mono k fun x s k => ?_
  rw [wp_bind]; (first | exact k | exact ⟨k⟩ | (simp only [wp_pure, wp_some, wp_line, wp_bind]; exact k) | exact False.elim k | exact k.run.elim)
theorem w_tup (k : wp (ga ρ) (fun xs s => xs.length ≤ sizeLine ∧ R (.tup xs) s) st) : wp (eTup ga ρ) R st := by
  unfold eTup; rw [wp_bind]
  refine wp_mono k fun x s k => ?_
  rw [wp_bind, wp_line]; (first | exact k | exact ⟨k⟩ | (simp only [wp_pure, wp_some, wp_line, wp_bind]; exact k) | exact False.elim k | exact k.run.elim)
theorem w_lst (k : wp (ga ρ) (fun xs s => xs.length ≤ sizeLine ∧ R (.lst xs) s) st) : wp (eLst ga ρ) R st := by
  unfold eLst; rw [wp_bind]
  refine wp_mono k fun x s k => ?_
  rw [wp_bind, wp_line]; (first | exact k | exact ⟨k⟩ | (simp only [wp_pure, wp_some, wp_line, wp_bind]; exact k) | exact False.elim k | exact k.run.elim)
theorem w_fLst (k : wp (ga ρ) (fun xs s => xs.length ≤ sizeLine ∧ A xs s) st) : wp (fLst ga ρ) A st := by
  unfold fLst; rw [wp_bind]
  refine wp_mono k fun x s k => ?_
  rw [wp_bind, wp_line]; (first | exact k | exact ⟨k⟩ | (simp only [wp_pure, wp_some, wp_line, wp_bind]; exact k) | exact False.elim k | exact k.run.elim)
theorem w_eL (k : wp (ga ρ) (fun xs s => R (.lst xs) s) st) : wp (eL ga ρ) R st := by unfold eL; rw [wp_bind]; (first | exact k | exact ⟨k⟩ | (simp only [wp_pure, wp_some, wp_line, wp_bind]; exact k) | exact False.elim k | exact k.run.elim)
theorem w_call {n : Nat} {sem : List D → M D} (k : wp (ga ρ) (fun ds s => ds.length = n ∧ wp (sem ds) R s) st) : wp (eCall n sem ga ρ) R st := by
  unfold eCall; rw [wp_bind]
  refine wp_mono k fun ds s ⟨hl, k⟩ => ?_
  exact wp_call hl k
theorem w_tBl (k : wp (f ρ) (BlK T) st) : wp (tBl f ρ) T st := by
  unfold tBl; rw [wp_bind]
  refine wp_mono k fun d s k => ?_
  cases d <;> (first | exact k | exact ⟨k⟩ | (simp only [wp_pure, wp_some, wp_line, wp_bind]; exact k) | exact False.elim k | exact k.run.elim)
theorem w_tNt (k : wp (t ρ) (fun b s => T (!b) s) st) : wp (tNt t ρ) T st := by unfold tNt; rw [wp_bind]; (first | exact k | exact ⟨k⟩ | (simp only [wp_pure, wp_some, wp_line, wp_bind]; exact k) | exact False.elim k | exact k.run.elim)
theorem w_tAn (k : wp (t ρ) (fun b s => IfK (wp (u ρ) T s) (T false s) b) st) : wp (tAn t u ρ) T st := by
  unfold tAn; rw [wp_bind]
  refine wp_mono k fun b s k => ?_
  cases b with
  | true => (first | exact k.1 rfl | exact ⟨k.1 rfl⟩)
  | false => (first | exact k.2 rfl | exact ⟨k.2 rfl⟩)
theorem w_tOr (k : wp (t ρ) (fun b s => IfK (T true s) (wp (u ρ) T s) b) st) : wp (tOor t u ρ) T st := by
  unfold tOor; rw [wp_bind]
  refine wp_mono k fun b s k => ?_
  cases b with
  | true => (first | exact k.1 rfl | exact ⟨k.1 rfl⟩)
  | false => (first | exact k.2 rfl | exact ⟨k.2 rfl⟩)
theorem w_vAnd (k : wp (f ρ) (BlK fun b s => IfK (wp (g ρ) R s) (R (.bl false) s) b) st) : wp (vAnd f g ρ) R st := by
  unfold vAnd; rw [wp_bind]
  refine wp_mono k fun d s k => ?_
  cases d with
  | bl b => cases b with
    | true => (first | exact k.1 rfl | exact ⟨k.1 rfl⟩)
    | false => (first | exact k.2 rfl | exact ⟨k.2 rfl⟩)
  | _ => (first | exact k | exact ⟨k⟩ | (simp only [wp_pure, wp_some, wp_line, wp_bind]; exact k) | exact False.elim k | exact k.run.elim)
theorem w_vOr (k : wp (f ρ) (BlK fun b s => IfK (R (.bl true) s) (wp (g ρ) R s) b) st) : wp (vOr f g ρ) R st := by
  unfold vOr; rw [wp_bind]
  refine wp_mono k fun d s k => ?_
  cases d with
  | bl b => cases b with
    | true => (first | exact k.1 rfl | exact ⟨k.1 rfl⟩)
    | false => (first | exact k.2 rfl | exact ⟨k.2 rfl⟩)
  | _ => (first | exact k | exact ⟨k⟩ | (simp only [wp_pure, wp_some, wp_line, wp_bind]; exact k) | exact False.elim k | exact k.run.elim)
theorem w_vNot (k : wp (f ρ) (BlK fun b s => R (.bl (!b)) s) st) : wp (vNot f ρ) R st := by
  unfold vNot; rw [wp_bind]
  refine wp_mono k fun d s k => ?_
  cases d <;> (first | exact k | exact ⟨k⟩ | (simp only [wp_pure, wp_some, wp_line, wp_bind]; exact k) | exact False.elim k | exact k.run.elim)
theorem w_eIf (k : wp (t ρ) (fun b s => IfK (wp (f ρ) R s) (wp (g ρ) R s) b) st) : wp (eIf t f g ρ) R st := by
  unfold eIf; rw [wp_bind]
  refine wp_mono k fun b s k => ?_
  cases b with
  | true => (first | exact k.1 rfl | exact ⟨k.1 rfl⟩)
  | false => (first | exact k.2 rfl | exact ⟨k.2 rfl⟩)
theorem w_eCh {p q : D → D → M D} (k : wp (f ρ) (fun x s => wp (g ρ) (fun y s => wp (p x y) (BlK fun b s => IfK (wp (h ρ) (fun z s => wp (q y z) R s) s) (R (.bl false) s) b) s) s) st) : wp (eCh p q f g h ρ) R st := by
  unfold eCh; rw [wp_bind]
  refine wp_mono k fun x s k => ?_
  rw [wp_bind]
  refine wp_mono k fun y s k => ?_
  rw [wp_bind]
  refine wp_mono k fun d s k => ?_
  cases d with
  | bl b => cases b with
    | true =>
      show wp ((h ρ).bind fun u => q y u) R s
      rw [wp_bind]; (first | exact k.1 rfl | exact ⟨k.1 rfl⟩)
    | false => (first | exact k.2 rfl | exact ⟨k.2 rfl⟩)
  | _ => (first | exact k | exact ⟨k⟩ | (simp only [wp_pure, wp_some, wp_line, wp_bind]; exact k) | exact False.elim k | exact k.run.elim)
theorem w_neg (k : wp (f ρ) (IntK fun i s => R (.int (-i)) s) st) : wp (eNeg f ρ) R st := by
  unfold eNeg; rw [wp_bind]
  refine wp_mono k fun d s k => ?_
  cases d <;> (first | exact k | exact ⟨k⟩ | (simp only [wp_pure, wp_some, wp_line, wp_bind]; exact k) | exact False.elim k | exact k.run.elim)
variable {lo hi : En → M (Option Int)} {O : Option Int → Sto → Prop}
theorem w_oNo (k : O none st) : wp (oNo ρ) O st := by first | exact k | exact ⟨k⟩
theorem w_oSo (k : wp (f ρ) (IntK fun i s => O (some i) s) st) : wp (oSo f ρ) O st := by
  unfold oSo; rw [wp_bind]
  refine wp_mono k fun d s k => ?_
  cases d <;> (first | exact k | exact ⟨k⟩ | (simp only [wp_pure, wp_some, wp_line, wp_bind]; exact k) | exact False.elim k | exact k.run.elim)
theorem w_sl (k : wp (f ρ) (fun x s => wp (lo ρ) (fun l s => wp (hi ρ) (fun h s => wp (slM x l h) R s) s) s) st) : wp (eSl f lo hi ρ) R st := by
  unfold eSl; rw [wp_bind]
  refine wp_mono k fun x s k => ?_
  rw [wp_bind]
  refine wp_mono k fun x s k => ?_
  rw [wp_bind]; (first | exact k | exact ⟨k⟩ | (simp only [wp_pure, wp_some, wp_line, wp_bind]; exact k) | exact False.elim k | exact k.run.elim)
theorem w_m1 {q : Str → D → M D} (k : wp (f ρ) (StrK fun a s => wp (g ρ) (fun y s => wp (q a y) R s) s) st) : wp (eM1 q f g ρ) R st := by
  unfold eM1; rw [wp_bind]
  refine wp_mono k fun d s k => ?_
  cases d with
  | str a =>
    show wp ((g ρ).bind fun y => q a y) R s
    rw [wp_bind]; (first | exact k | exact ⟨k⟩ | (simp only [wp_pure, wp_some, wp_line, wp_bind]; exact k) | exact False.elim k | exact k.run.elim)
  | _ => (first | exact k | exact ⟨k⟩ | (simp only [wp_pure, wp_some, wp_line, wp_bind]; exact k) | exact False.elim k | exact k.run.elim)
/-! ### operators on known data -/
theorem w_addI {i j : Int} (k : R (.int (i + j)) st) : wp (addM (.int i) (.int j)) R st := by first | exact k | exact ⟨k⟩
theorem w_addS {i j : Str} (hl : i.length + j.length ≤ sizeLine) (k : R (.str (i ++ j)) st) : wp (addM (.str i) (.str j)) R st := by
  show wp ((line _).bind _) R st
  rw [wp_bind, wp_line]; exact ⟨hl, by first | exact k | exact ⟨k⟩⟩
theorem w_addT {i j : List D} (hl : i.length + j.length ≤ sizeLine) (k : R (.tup (i ++ j)) st) : wp (addM (.tup i) (.tup j)) R st := by
  show wp ((line _).bind _) R st
  rw [wp_bind, wp_line]; exact ⟨hl, by first | exact k | exact ⟨k⟩⟩
theorem w_addL {i j : List D} (hl : i.length + j.length ≤ sizeLine) (k : R (.lst (i ++ j)) st) : wp (addM (.lst i) (.lst j)) R st := by
  show wp ((line _).bind _) R st
  rw [wp_bind, wp_line]; exact ⟨hl, by first | exact k | exact ⟨k⟩⟩
theorem w_int2 {C : Int → Int → Bool} {p : Int → Int → Int} {i j : Int} (hc : C i j = true) (k : R (.int (p i j)) st) : wp (int2 C p (.int i) (.int j)) R st := by
  show wp (guardM _ _) R st
  rw [wp_guard]; exact ⟨hc, by first | exact k | exact ⟨k⟩⟩
theorem w_ltI {i j : Int} (k : R (.bl (decide (i < j))) st) : wp (ltM (.int i) (.int j)) R st := by first | exact k | exact ⟨k⟩
theorem w_leI {i j : Int} (k : R (.bl (decide (i ≤ j))) st) : wp (leM (.int i) (.int j)) R st := by first | exact k | exact ⟨k⟩
theorem w_gtI {i j : Int} (k : R (.bl (decide (j < i))) st) : wp (gtM (.int i) (.int j)) R st := by first | exact k | exact ⟨k⟩
theorem w_geI {i j : Int} (k : R (.bl (decide (j ≤ i))) st) : wp (geM (.int i) (.int j)) R st := by first | exact k | exact ⟨k⟩
theorem w_eq {x y : D} (hx : x.shp = true) (hy : y.shp = true) (k : R (.bl (x.eqv y)) st) : wp (eqM x y) R st := by
  show wp (guardM _ _) R st
  rw [wp_guard]; exact ⟨by rw [hx, hy]; rfl, by first | exact k | exact ⟨k⟩⟩
theorem w_ne {x y : D} (hx : x.shp = true) (hy : y.shp = true) (k : R (.bl (!x.eqv y)) st) : wp (neM x y) R st := by
  show wp (guardM _ _) R st
  rw [wp_guard]; exact ⟨by rw [hx, hy]; rfl, by first | exact k | exact ⟨k⟩⟩
theorem w_lenL {xs : List D} (k : R (.int xs.length) st) : wp (lenM (.lst xs)) R st := by first | exact k | exact ⟨k⟩
theorem w_lenT {xs : List D} (k : R (.int xs.length) st) : wp (lenM (.tup xs)) R st := by first | exact k | exact ⟨k⟩
theorem w_ixL {xs : List D} {i : Int} {d : D} (e : atI xs i = some d) (k : R d st) : wp (ixM (.lst xs) (.int i)) R st := by
  show wp (opt _) R st
  rw [e]; (first | exact k | exact ⟨k⟩ | (simp only [wp_pure, wp_some, wp_line, wp_bind]; exact k) | exact False.elim k | exact k.run.elim)
theorem w_ixT {xs : List D} {i : Int} {d : D} (e : atI xs i = some d) (k : R d st) : wp (ixM (.tup xs) (.int i)) R st := by
  show wp (opt _) R st
  rw [e]; (first | exact k | exact ⟨k⟩ | (simp only [wp_pure, wp_some, wp_line, wp_bind]; exact k) | exact False.elim k | exact k.run.elim)
theorem w_ixS {x : Str} {i : Int} {c : Nat} (hl : x.length ≤ sizeLine) (e : atI x.cps.toList i = some c) (k : R (.str ⟨#[c]⟩) st) : wp (ixM (.str x) (.int i)) R st := by
  show wp ((line _).bind _) R st
  rw [wp_bind, wp_line]
  refine ⟨hl, ?_⟩
  rw [wp_bind, e]; (first | exact k | exact ⟨k⟩ | (simp only [wp_pure, wp_some, wp_line, wp_bind]; exact k) | exact False.elim k | exact k.run.elim)
theorem w_intI {i : Int} (k : R (.int i) st) : wp (intM (.int i)) R st := by first | exact k | exact ⟨k⟩
theorem w_slL {xs : List D} {l u : Option Int} (k : R (.lst (cutD xs l u)) st) : wp (slM (.lst xs) l u) R st := by first | exact k | exact ⟨k⟩
theorem w_slF {xs : List D} {l u : Option Int} (k : R (.lst (cutD xs l u)) st) : wp (slM (.frz xs) l u) R st := by first | exact k | exact ⟨k⟩
theorem w_slT {xs : List D} {l u : Option Int} (k : R (.tup (cutD xs l u)) st) : wp (slM (.tup xs) l u) R st := by first | exact k | exact ⟨k⟩
theorem w_slS {x : Str} {l u : Option Int} (hl : x.length ≤ sizeLine) (k : R (.str (cutS x l u)) st) : wp (slM (.str x) l u) R st := by
  show wp ((line _).bind _) R st
  rw [wp_bind, wp_line]; exact ⟨hl, by first | exact k | exact ⟨k⟩⟩
theorem w_tupL {xs : List D} (k : R (.tup xs) st) : wp (tupM (.lst xs)) R st := by first | exact k | exact ⟨k⟩
theorem w_tupT {xs : List D} (k : R (.tup xs) st) : wp (tupM (.tup xs)) R st := by first | exact k | exact ⟨k⟩
theorem w_range {n : Int} {A : List D → Sto → Prop} (h1 : -(2 ^ 62) ≤ n) (h2 : n < 2 ^ 62) (h3 : n.toNat ≤ sizeLine) (k : A ((List.range n.toNat).map fun (i : Nat) => D.int i) st) : wp (rangeL 0 n) A st := by
  rw [wp_is]
  unfold rangeL
  rw [Int.sub_zero, if_pos ⟨by decide, by decide, h1, h2, h3⟩]
  have e : ((List.range n.toNat).map fun (i : Nat) => D.int (0 + (i : Int))) = (List.range n.toNat).map fun (i : Nat) => D.int i := List.map_congr_left fun i _ => by rw [Int.zero_add]
  rw [e]; (first | exact k | exact ⟨k⟩ | (simp only [wp_pure, wp_some, wp_line, wp_bind]; exact k) | exact False.elim k | exact k.run.elim)
theorem w_iR1 {A : List D → Sto → Prop} (k : wp (ga ρ) (fun ds s => ∃ n, ds = [.int n] ∧ wp (rangeL 0 n) A s) st) : wp (iRange1 ga ρ) A st := by
  unfold iRange1; rw [wp_bind]
  refine wp_mono k fun ds s ⟨n, e, k⟩ => ?_
  subst e; (first | exact k | exact ⟨k⟩ | (simp only [wp_pure, wp_some, wp_line, wp_bind]; exact k) | exact False.elim k | exact k.run.elim)
theorem w_iSeq {A : List D → Sto → Prop} (k : wp (f ρ) (fun d s => ∃ ds, itD d = some ds ∧ A ds s) st) : wp (iSeq f ρ) A st := by
  unfold iSeq; rw [wp_bind]
  refine wp_mono k fun d s ⟨ds, e, k⟩ => ?_
  rw [e]; (first | exact k | exact ⟨k⟩ | (simp only [wp_pure, wp_some, wp_line, wp_bind]; exact k) | exact False.elim k | exact k.run.elim)
theorem w_for {it : En → M (List D)} {p : Pt} (k : wp (it ρ) (fun ds s => wp (forL (fun d ρ => (opt (p.set d ρ)).bind s1) ds ρ) Q s) st) : wp (sFor it p s1 ρ) Q st := by unfold sFor; rw [wp_bind]; (first | exact k | exact ⟨k⟩ | (simp only [wp_pure, wp_some, wp_line, wp_bind]; exact k) | exact False.elim k | exact k.run.elim)
theorem w_lc {it : En → M (List D)} {p : Pt} {vs : List Nat} (k : wp (it ρ) (fun ds s => wp (lcL p.set t f (wipeE ρ vs) ds) A s) st) : wp (eLc it p vs t f ρ) A st := by
  unfold eLc; rw [wp_bind]
  refine wp_mono k fun ds s k => ?_
  rw [wp_noX]; (first | exact k | exact ⟨k⟩ | (simp only [wp_pure, wp_some, wp_line, wp_bind]; exact k) | exact False.elim k | exact k.run.elim)
theorem w_true (k : T true st) : wp (tTrue ρ) T st := by first | exact k | exact ⟨k⟩
theorem w_in {x y : D} {ds : List D} (hy : seqD y = some ds) (hx : x.shp = true) (hys : y.shp = true) (k : R (.bl (ds.any fun z => z.eqv x)) st) : wp (inM x y) R st := by
  cases y with
  | tup es => cases hy; show wp (guardM _ _) R st; rw [wp_guard]; exact ⟨by rw [hx, hys]; rfl, by first | exact k | exact ⟨k⟩⟩
  | lst es => cases hy; show wp (guardM _ _) R st; rw [wp_guard]; exact ⟨by rw [hx, hys]; rfl, by first | exact k | exact ⟨k⟩⟩
  | frz es => cases hy; show wp (guardM _ _) R st; rw [wp_guard]; exact ⟨by rw [hx, hys]; rfl, by first | exact k | exact ⟨k⟩⟩
  | _ => cases hy
theorem w_notIn {x y : D} {ds : List D} (hy : seqD y = some ds) (hx : x.shp = true) (hys : y.shp = true) (k : R (.bl (!ds.any fun z => z.eqv x)) st) : wp (notInM x y) R st := by
  cases y with
  | tup es => cases hy; show wp (guardM _ _) R st; rw [wp_guard]; exact ⟨by rw [hx, hys]; rfl, by first | exact k | exact ⟨k⟩⟩
  | lst es => cases hy; show wp (guardM _ _) R st; rw [wp_guard]; exact ⟨by rw [hx, hys]; rfl, by first | exact k | exact ⟨k⟩⟩
  | frz es => cases hy; show wp (guardM _ _) R st; rw [wp_guard]; exact ⟨by rw [hx, hys]; rfl, by first | exact k | exact ⟨k⟩⟩
  | _ => cases hy
end
end PL
set_option linter.all false
set_option maxRecDepth 100000
set_option maxHeartbeats 4000000
/-! PW3: data that may be compared; equality; places. -/
namespace PL
open PySem PySem.Spec L2
structure Shp (k : Nat) (d : D) : Prop where
  can : d.py.canLay0 = true
  dep : d.py.depth ≤ k
theorem Shp.shp {k : Nat} {d : D} (h : Shp k d) (hk : k ≤ 64 := by decide) : d.shp = true := by
  unfold D.shp SeqAt.shaped
  rw [h.can, Bool.true_and]
  exact decide_eq_true (Nat.le_trans h.dep hk)
theorem Shp.mono {j k : Nat} {d : D} (h : Shp j d) (hk : j ≤ k := by decide) : Shp k d := ⟨h.can, Nat.le_trans h.dep hk⟩
theorem shp_int {i : Int} : Shp 0 (.int i) := ⟨by simp [D.py, PyData.canLay0], by simp [D.py, PyData.depth]⟩
theorem shp_str {x : Str} (h : PyData.strOk x = true) : Shp 0 (.str x) := ⟨by simp [D.py, PyData.canLay0, h], by simp [D.py, PyData.depth]⟩
theorem shpL_all {k : Nat} : ∀ {ds : List D}, (∀ d ∈ ds, Shp k d) → PyData.canLayAll0 (pyL ds) = true ∧ PyData.depthAll (pyL ds) ≤ k
  | [], _ => ⟨by simp [pyL, PyData.canLayAll0], by simp [pyL, PyData.depthAll]⟩
  | d :: ds, h => by
    obtain ⟨h1, h2⟩ := shpL_all (ds := ds) fun e he => h e (List.mem_cons_of_mem _ he)
    have h3 := h d List.mem_cons_self
    exact ⟨by simp [pyL, PyData.canLayAll0, h1, h3.can], by simp only [pyL, PyData.depthAll]; exact Nat.max_le.mpr ⟨h3.dep, h2⟩⟩
theorem shp_tup {k : Nat} {ds : List D} (h : ∀ d ∈ ds, Shp k d) : Shp (k + 1) (.tup ds) := by
  obtain ⟨h1, h2⟩ := shpL_all h
  exact ⟨by simp [D.py, PyData.canLay0, h1], by simp only [D.py, PyData.depth]; omega⟩
theorem shp_lst {k : Nat} {ds : List D} (h : ∀ d ∈ ds, Shp k d) : Shp (k + 1) (.lst ds) := by
  obtain ⟨h1, h2⟩ := shpL_all h
  exact ⟨by simp [D.py, PyData.canLay0, h1], by simp only [D.py, PyData.depth]; omega⟩
/-! ### equality -/
theorem eqv_ii {i j : Int} : (D.int i).eqv (.int j) = (i == j) := by simp [D.eqv, D.py, PyData.eqv]
theorem eqv_ss {i j : Str} : (D.str i).eqv (.str j) = (i == j) := by simp [D.eqv, D.py, PyData.eqv]
def eqvL : List D → List D → Bool
  | [], [] => true
  | x :: xs, y :: ys => x.eqv y && eqvL xs ys
  | _, _ => false
theorem eqvL_py : ∀ xs ys : List D, PyData.eqvAll (pyL xs) (pyL ys) = eqvL xs ys
  | [], [] => by simp [pyL, PyData.eqvAll, eqvL]
  | [], _ :: _ => by simp [pyL, PyData.eqvAll, eqvL]
  | _ :: _, [] => by simp [pyL, PyData.eqvAll, eqvL]
  | x :: xs, y :: ys => by
    simp only [pyL, PyData.eqvAll, eqvL, eqvL_py xs ys]
    rfl
theorem eqv_tt {i j : List D} : (D.tup i).eqv (.tup j) = eqvL i j := by simp [D.eqv, D.py, PyData.eqv, eqvL_py]
/-! ### places -/
theorem atI_lt {α : Type} {xs : List α} {i : Int} (h0 : 0 ≤ i) (h1 : i < xs.length) : ∃ x, atI xs i = some x ∧ x ∈ xs := by
  obtain ⟨j, rfl⟩ := Int.eq_ofNat_of_zero_le h0
  have hj : j < xs.length := by omega
  exact ⟨xs[j], atI_nat (List.getElem?_eq_getElem hj), List.getElem_mem hj⟩
end PL
set_option linter.all false
set_option maxRecDepth 100000
set_option maxHeartbeats 4000000
/-! PW4: comprehensions and walks with one name. -/
namespace PL
open PySem PySem.Spec L2
section
variable {i : Nat} {tt : En → M Bool} {te : En → M D} {ρ : En} {R : List D → Sto → Prop}
theorem set_nm {d : D} (hi : i < ρ.length) : (Pt.nm i).set d ρ = some (ρ.set i (.val d)) := by
  cases d <;> exact if_pos hi
end
end PL
set_option linter.all false
set_option maxRecDepth 100000
/-! PW5: isinstance, is None, by kinds. -/
namespace PL
open PySem PySem.Spec L2
theorem k_ifnF {P1 P2 : Prop} (k : P1) : IfK P1 P2 (!false) := ⟨fun _ => k, fun e => (nomatch e)⟩
theorem k_ifnT {P1 P2 : Prop} (k : P2) : IfK P1 P2 (!true) := ⟨fun e => (nomatch e), fun _ => k⟩
theorem small0 {n : Nat} (h : n ≤ 1000000) : n ≤ sizeLine := Nat.le_trans h (by decide)
theorem w_rangeN {n : Nat} {A : List D → Sto → Prop} {st : Sto} (h : n ≤ 1000000) (k : A ((List.range n).map fun (i : Nat) => D.int i) st) : wp (rangeL 0 (n : Int)) A st := by
  have h1 : (n : Int).toNat = n := Int.toNat_natCast n
  have h0 : (0 : Int) ≤ n := Int.natCast_nonneg n
  have h2 : (n : Int) ≤ 1000000 := by omega
  generalize (n : Int) = z at h1 h0 h2 ⊢
  refine w_range ?_ ?_ ?_ ?_
  · omega
  · omega
  · rw [h1]; exact small0 h
  · rw [h1]; exact k
theorem w_isi {R : D → Sto → Prop} {st : Sto} {T : String} {d : D} {t : String} {b : Bool} (h : tyN d = some t) (hb : kitB t T = some b) (k : R (.bl b) st) : wp (isiM T d) R st := by
  unfold isiM; rw [h]
  show wp (match kitB t T with | some b => PL.bl b | none => M.bad) R st
  rw [hb]; exact ⟨k⟩
theorem i_tuple_NoneType {R : D → Sto → Prop} {st : Sto} (k : R (.bl false) st) : wp (isiM "tuple" .non) R st := w_isi (t := "NoneType") (b := false) rfl (by decide +kernel) k
theorem i_tuple_bool {x : Bool} {R : D → Sto → Prop} {st : Sto} (k : R (.bl false) st) : wp (isiM "tuple" (.bl x)) R st := w_isi (t := "bool") (b := false) rfl (by decide +kernel) k
theorem i_tuple_int {x : Int} {R : D → Sto → Prop} {st : Sto} (k : R (.bl false) st) : wp (isiM "tuple" (.int x)) R st := w_isi (t := "int") (b := false) rfl (by decide +kernel) k
theorem i_tuple_str {x : Str} {R : D → Sto → Prop} {st : Sto} (k : R (.bl false) st) : wp (isiM "tuple" (.str x)) R st := w_isi (t := "str") (b := false) rfl (by decide +kernel) k
theorem i_tuple_tuple {x : List D} {R : D → Sto → Prop} {st : Sto} (k : R (.bl true) st) : wp (isiM "tuple" (.tup x)) R st := w_isi (t := "tuple") (b := true) rfl (by decide +kernel) k
theorem i_tuple_list {x : List D} {R : D → Sto → Prop} {st : Sto} (k : R (.bl false) st) : wp (isiM "tuple" (.lst x)) R st := w_isi (t := "list") (b := false) rfl (by decide +kernel) k
theorem i_str_NoneType {R : D → Sto → Prop} {st : Sto} (k : R (.bl false) st) : wp (isiM "str" .non) R st := w_isi (t := "NoneType") (b := false) rfl (by decide +kernel) k
theorem i_str_bool {x : Bool} {R : D → Sto → Prop} {st : Sto} (k : R (.bl false) st) : wp (isiM "str" (.bl x)) R st := w_isi (t := "bool") (b := false) rfl (by decide +kernel) k
theorem i_str_int {x : Int} {R : D → Sto → Prop} {st : Sto} (k : R (.bl false) st) : wp (isiM "str" (.int x)) R st := w_isi (t := "int") (b := false) rfl (by decide +kernel) k
theorem i_str_str {x : Str} {R : D → Sto → Prop} {st : Sto} (k : R (.bl true) st) : wp (isiM "str" (.str x)) R st := w_isi (t := "str") (b := true) rfl (by decide +kernel) k
theorem i_str_tuple {x : List D} {R : D → Sto → Prop} {st : Sto} (k : R (.bl false) st) : wp (isiM "str" (.tup x)) R st := w_isi (t := "tuple") (b := false) rfl (by decide +kernel) k
theorem i_str_list {x : List D} {R : D → Sto → Prop} {st : Sto} (k : R (.bl false) st) : wp (isiM "str" (.lst x)) R st := w_isi (t := "list") (b := false) rfl (by decide +kernel) k
theorem i_int_NoneType {R : D → Sto → Prop} {st : Sto} (k : R (.bl false) st) : wp (isiM "int" .non) R st := w_isi (t := "NoneType") (b := false) rfl (by decide +kernel) k
theorem i_int_bool {x : Bool} {R : D → Sto → Prop} {st : Sto} (k : R (.bl true) st) : wp (isiM "int" (.bl x)) R st := w_isi (t := "bool") (b := true) rfl (by decide +kernel) k
theorem i_int_int {x : Int} {R : D → Sto → Prop} {st : Sto} (k : R (.bl true) st) : wp (isiM "int" (.int x)) R st := w_isi (t := "int") (b := true) rfl (by decide +kernel) k
theorem i_int_str {x : Str} {R : D → Sto → Prop} {st : Sto} (k : R (.bl false) st) : wp (isiM "int" (.str x)) R st := w_isi (t := "str") (b := false) rfl (by decide +kernel) k
theorem i_int_tuple {x : List D} {R : D → Sto → Prop} {st : Sto} (k : R (.bl false) st) : wp (isiM "int" (.tup x)) R st := w_isi (t := "tuple") (b := false) rfl (by decide +kernel) k
theorem i_int_list {x : List D} {R : D → Sto → Prop} {st : Sto} (k : R (.bl false) st) : wp (isiM "int" (.lst x)) R st := w_isi (t := "list") (b := false) rfl (by decide +kernel) k
theorem i_bool_NoneType {R : D → Sto → Prop} {st : Sto} (k : R (.bl false) st) : wp (isiM "bool" .non) R st := w_isi (t := "NoneType") (b := false) rfl (by decide +kernel) k
theorem i_bool_bool {x : Bool} {R : D → Sto → Prop} {st : Sto} (k : R (.bl true) st) : wp (isiM "bool" (.bl x)) R st := w_isi (t := "bool") (b := true) rfl (by decide +kernel) k
theorem i_bool_int {x : Int} {R : D → Sto → Prop} {st : Sto} (k : R (.bl false) st) : wp (isiM "bool" (.int x)) R st := w_isi (t := "int") (b := false) rfl (by decide +kernel) k
theorem i_bool_str {x : Str} {R : D → Sto → Prop} {st : Sto} (k : R (.bl false) st) : wp (isiM "bool" (.str x)) R st := w_isi (t := "str") (b := false) rfl (by decide +kernel) k
theorem i_bool_tuple {x : List D} {R : D → Sto → Prop} {st : Sto} (k : R (.bl false) st) : wp (isiM "bool" (.tup x)) R st := w_isi (t := "tuple") (b := false) rfl (by decide +kernel) k
theorem i_bool_list {x : List D} {R : D → Sto → Prop} {st : Sto} (k : R (.bl false) st) : wp (isiM "bool" (.lst x)) R st := w_isi (t := "list") (b := false) rfl (by decide +kernel) k
theorem i_list_NoneType {R : D → Sto → Prop} {st : Sto} (k : R (.bl false) st) : wp (isiM "list" .non) R st := w_isi (t := "NoneType") (b := false) rfl (by decide +kernel) k
theorem i_list_bool {x : Bool} {R : D → Sto → Prop} {st : Sto} (k : R (.bl false) st) : wp (isiM "list" (.bl x)) R st := w_isi (t := "bool") (b := false) rfl (by decide +kernel) k
theorem i_list_int {x : Int} {R : D → Sto → Prop} {st : Sto} (k : R (.bl false) st) : wp (isiM "list" (.int x)) R st := w_isi (t := "int") (b := false) rfl (by decide +kernel) k
theorem i_list_str {x : Str} {R : D → Sto → Prop} {st : Sto} (k : R (.bl false) st) : wp (isiM "list" (.str x)) R st := w_isi (t := "str") (b := false) rfl (by decide +kernel) k
theorem i_list_tuple {x : List D} {R : D → Sto → Prop} {st : Sto} (k : R (.bl false) st) : wp (isiM "list" (.tup x)) R st := w_isi (t := "tuple") (b := false) rfl (by decide +kernel) k
theorem i_list_list {x : List D} {R : D → Sto → Prop} {st : Sto} (k : R (.bl true) st) : wp (isiM "list" (.lst x)) R st := w_isi (t := "list") (b := true) rfl (by decide +kernel) k
theorem n_is_NoneType {R : D → Sto → Prop} {st : Sto} (k : R (.bl true) st) : wp (isNM .non) R st := by first | exact k | exact ⟨k⟩
theorem n_not_NoneType {R : D → Sto → Prop} {st : Sto} (k : R (.bl false) st) : wp (notNM .non) R st := by first | exact k | exact ⟨k⟩
theorem n_is_bool {x : Bool} {R : D → Sto → Prop} {st : Sto} (k : R (.bl false) st) : wp (isNM (.bl x)) R st := by first | exact k | exact ⟨k⟩
theorem n_not_bool {x : Bool} {R : D → Sto → Prop} {st : Sto} (k : R (.bl true) st) : wp (notNM (.bl x)) R st := by first | exact k | exact ⟨k⟩
theorem n_is_int {x : Int} {R : D → Sto → Prop} {st : Sto} (k : R (.bl false) st) : wp (isNM (.int x)) R st := by first | exact k | exact ⟨k⟩
theorem n_not_int {x : Int} {R : D → Sto → Prop} {st : Sto} (k : R (.bl true) st) : wp (notNM (.int x)) R st := by first | exact k | exact ⟨k⟩
theorem n_is_str {x : Str} {R : D → Sto → Prop} {st : Sto} (k : R (.bl false) st) : wp (isNM (.str x)) R st := by first | exact k | exact ⟨k⟩
theorem n_not_str {x : Str} {R : D → Sto → Prop} {st : Sto} (k : R (.bl true) st) : wp (notNM (.str x)) R st := by first | exact k | exact ⟨k⟩
theorem n_is_tuple {x : List D} {R : D → Sto → Prop} {st : Sto} (k : R (.bl false) st) : wp (isNM (.tup x)) R st := by first | exact k | exact ⟨k⟩
theorem n_not_tuple {x : List D} {R : D → Sto → Prop} {st : Sto} (k : R (.bl true) st) : wp (notNM (.tup x)) R st := by first | exact k | exact ⟨k⟩
theorem n_is_list {x : List D} {R : D → Sto → Prop} {st : Sto} (k : R (.bl false) st) : wp (isNM (.lst x)) R st := by first | exact k | exact ⟨k⟩
theorem n_not_list {x : List D} {R : D → Sto → Prop} {st : Sto} (k : R (.bl true) st) : wp (notNM (.lst x)) R st := by first | exact k | exact ⟨k⟩
end PL
set_option linter.all false
set_option maxRecDepth 100000
set_option maxHeartbeats 4000000
/-! PX: the same walk where an exception may leave: Z is what is wanted of it. -/
namespace PL
open PySem PySem.Spec L2
structure wpX (Z : Exn → Sto → Prop) {α : Type} (m : M α) (Q : α → Sto → Prop) (st : Sto) : Prop where
  run : match m st with
  | .ok a s => Q a s
  | .err x s => Z x s
  | .bad => False
section
variable {α β : Type} {Z : Exn → Sto → Prop} {m : M α} {Q Q' : α → Sto → Prop} {st : Sto} {f : α → M β} {P : β → Sto → Prop}
theorem wpX_is : wpX Z m Q st = (match m st with
  | .ok a s => Q a s
  | .err x s => Z x s
  | .bad => False) := propext ⟨fun h => h.run, fun h => ⟨h⟩⟩
theorem wpX_pure {a : α} : wpX Z (M.pure a) Q st = Q a st := wpX_is
theorem wpX_bad : wpX Z (M.bad : M α) Q st = False := wpX_is
theorem wpX_bind : wpX Z (m.bind f) P st = wpX Z m (fun a s => wpX Z (f a) P s) st := by
  rw [wpX_is, wpX_is]
  unfold M.bind
  cases m st <;> first | rfl | exact wpX_is.symm
theorem wpX_mono (h : wpX Z m Q st) (k : ∀ a s, Q a s → Q' a s) : wpX Z m Q' st := by
  rw [wpX_is] at h ⊢
  cases e : m st with
  | ok a s => rw [e] at h; exact k a s h
  | err x s => rw [e] at h; exact h
  | bad => rw [e] at h; exact h
theorem wp.x (h : wp m Q st) : wpX Z m Q st := by
  rw [wpX_is]
  rw [wp_is] at h
  cases e : m st with
  | ok a s => rw [e] at h; exact h
  | err x s => rw [e] at h; exact h.elim
  | bad => rw [e] at h; exact h.elim
theorem wpX_some {a : α} : wpX Z (opt (some a)) Q st = Q a st := wpX_is
theorem wpX_line {n : Nat} {R : Unit → Sto → Prop} : wpX Z (line n) R st = (n ≤ sizeLine ∧ R () st) := by
  rw [wpX_is]
  unfold line
  by_cases h : n ≤ sizeLine
  · rw [if_pos h]; simp [h]
  · rw [if_neg h]; simp [h]
theorem wpX_put {i : Nat} {x : Slot} {ρ : En} {R : Fl × En → Sto → Prop} : wpX Z (put i x ρ) R st = (i < ρ.length ∧ R (.nx, ρ.set i x) st) := by
  unfold put
  by_cases h : i < ρ.length
  · rw [if_pos h, wpX_pure]; simp [h]
  · rw [if_neg h, wpX_bad]; simp [h]
theorem wpX_call {n : Nat} {sem : List D → M D} {ds : List D} {R : D → Sto → Prop} (hl : ds.length = n) (h : wpX Z (sem ds) R st) : wpX Z (if ds.length = n then sem ds else M.bad) R st := by rw [if_pos hl]; exact h
end
def SeqX (Z : Exn → Sto → Prop) (g : En → M (Fl × En)) (Q : Fl × En → Sto → Prop) : Fl × En → Sto → Prop := fun r s => match r.1 with
  | .nx => wpX Z (g r.2) Q s
  | _ => Q r s
section
variable {Z : Exn → Sto → Prop} {Q : Fl × En → Sto → Prop} {R : D → Sto → Prop} {T : Bool → Sto → Prop} {A : List D → Sto → Prop} {st : Sto} {ρ : En} {f g h : En → M D} {s1 s2 : En → M (Fl × En)} {t u : En → M Bool} {ga : En → M (List D)} {P1 P2 : Prop}
theorem kx_seq (k : wpX Z (s2 ρ) Q st) : SeqX Z s2 Q (.nx, ρ) st := k
theorem kx_seqR {d : D} (k : Q (.ret d, ρ) st) : SeqX Z s2 Q (.ret d, ρ) st := k
/-! ### bodies -/
theorem x_seq (k : wpX Z (s1 ρ) (SeqX Z s2 Q) st) : wpX Z (sSeq s1 s2 ρ) Q st := by
  unfold sSeq
  rw [wpX_bind]
  refine wpX_mono k fun r s k => ?_
  obtain ⟨fl, ρ'⟩ := r
  cases fl <;> (first | exact k | exact ⟨k⟩ | (simp only [wpX_pure, wpX_some, wpX_line, wpX_bind]; exact k) | exact False.elim k | exact k.run.elim)
theorem x_nil (k : Q (.nx, ρ) st) : wpX Z (sNil ρ) Q st := by first | exact k | exact ⟨k⟩
theorem x_pass (k : Q (.nx, ρ) st) : wpX Z (sPass ρ) Q st := by first | exact k | exact ⟨k⟩
theorem x_ret (k : wpX Z (f ρ) (fun d s => Q (.ret d, ρ) s) st) : wpX Z (sRet f ρ) Q st := by unfold sRet; rw [wpX_bind]; (first | exact k | exact ⟨k⟩ | (simp only [wpX_pure, wpX_some, wpX_line, wpX_bind]; exact k) | exact False.elim k | exact k.run.elim)
theorem x_expr (k : wpX Z (f ρ) (fun d s => Q (.nx, ρ) s) st) : wpX Z (sExpr f ρ) Q st := by unfold sExpr; rw [wpX_bind]; (first | exact k | exact ⟨k⟩ | (simp only [wpX_pure, wpX_some, wpX_line, wpX_bind]; exact k) | exact False.elim k | exact k.run.elim)
theorem x_put {i : Nat} {x : Slot} (hi : i < ρ.length) (k : Q (.nx, ρ.set i x) st) : wpX Z (put i x ρ) Q st := by rw [wpX_put]; exact ⟨hi, k⟩
theorem x_set {i : Nat} (hi : i < ρ.length) (k : wpX Z (f ρ) (fun d s => Q (.nx, ρ.set i (.val d)) s) st) : wpX Z (sSet i f ρ) Q st := by
  unfold sSet; rw [wpX_bind]
  exact wpX_mono k fun d s k => x_put hi k
theorem x_own {i : Nat} (hi : i < ρ.length) (k : wpX Z (ga ρ) (fun d s => Q (.nx, ρ.set i (.own d)) s) st) : wpX Z (sOwn i ga ρ) Q st := by
  unfold sOwn; rw [wpX_bind]
  exact wpX_mono k fun d s k => x_put hi k
theorem x_frz {i : Nat} (k : wpX Z (s1 (frz1 i ρ)) Q st) : wpX Z (sFrz i s1 ρ) Q st := by first | exact k | exact ⟨k⟩
theorem x_if (k : wpX Z (t ρ) (fun b s => IfK (wpX Z (s1 ρ) Q s) (wpX Z (s2 ρ) Q s) b) st) : wpX Z (sIf t s1 s2 ρ) Q st := by
  unfold sIf; rw [wpX_bind]
  refine wpX_mono k fun b s k => ?_
  cases b with
  | true => (first | exact k.1 rfl | exact ⟨k.1 rfl⟩)
  | false => (first | exact k.2 rfl | exact ⟨k.2 rfl⟩)
theorem x_un {pt : Pt} (k : wpX Z (f ρ) (fun d s => ∃ r, pt.set d ρ = some r ∧ Q (.nx, r) s) st) : wpX Z (sUn pt f ρ) Q st := by
  unfold sUn; rw [wpX_bind]
  refine wpX_mono k fun d s ⟨r, e, k⟩ => ?_
  rw [wpX_bind, e]; (first | exact k | exact ⟨k⟩ | (simp only [wpX_pure, wpX_some, wpX_line, wpX_bind]; exact k) | exact False.elim k | exact k.run.elim)
theorem x_app {i : Nat} {ds : List D} (hi : ρ[i]? = some (.own ds)) (k : wpX Z (f ρ) (fun d s => ds.length + 1 ≤ sizeLine ∧ Q (.nx, ρ.set i (.own (ds ++ [d]))) s) st) : wpX Z (sApp i f ρ) Q st := by
  unfold sApp; rw [hi]
  show wpX Z ((f ρ).bind _) Q st
  rw [wpX_bind]
  refine wpX_mono k fun d s ⟨hl, k⟩ => ?_
  rw [wpX_bind, wpX_line]
  exact ⟨hl, x_put (List.getElem?_eq_some_iff.mp hi).1 k⟩
theorem x_ext {i : Nat} {ds : List D} (hi : ρ[i]? = some (.own ds)) (k : wpX Z (f ρ) (fun d s => ∃ es, d = .lst es ∧ ds.length + es.length ≤ sizeLine ∧ Q (.nx, ρ.set i (.own (ds ++ es))) s) st) : wpX Z (sExt i f ρ) Q st := by
  unfold sExt; rw [hi]
  show wpX Z ((f ρ).bind _) Q st
  rw [wpX_bind]
  refine wpX_mono k fun d s ⟨es, e, hl, k⟩ => ?_
  subst e
  show wpX Z ((line (ds.length + es.length)).bind fun _ => put i (.own (ds ++ es)) ρ) Q s
  rw [wpX_bind, wpX_line]
  exact ⟨hl, x_put (List.getElem?_eq_some_iff.mp hi).1 k⟩
/-! ### expressions -/
theorem x_var {i : Nat} {d : D} (hi : ρ[i]? = some (.val d)) (k : R d st) : wpX Z (eVar i ρ) R st := by unfold eVar; rw [hi]; (first | exact k | exact ⟨k⟩ | (simp only [wpX_pure, wpX_some, wpX_line, wpX_bind]; exact k) | exact False.elim k | exact k.run.elim)
theorem x_look {i : Nat} {ds : List D} (hi : ρ[i]? = some (.own ds)) (k : R (.lst ds) st) : wpX Z (eLook i ρ) R st := by unfold eLook; rw [hi]; (first | exact k | exact ⟨k⟩ | (simp only [wpX_pure, wpX_some, wpX_line, wpX_bind]; exact k) | exact False.elim k | exact k.run.elim)
theorem x_lookV {i : Nat} {d : D} (hi : ρ[i]? = some (.val d)) (k : R d st) : wpX Z (eLook i ρ) R st := by unfold eLook; rw [hi]; (first | exact k | exact ⟨k⟩ | (simp only [wpX_pure, wpX_some, wpX_line, wpX_bind]; exact k) | exact False.elim k | exact k.run.elim)
theorem x_c {d : D} (k : R d st) : wpX Z (eC d ρ) R st := by first | exact k | exact ⟨k⟩
theorem x_e1 {p : D → M D} (k : wpX Z (f ρ) (fun x s => wpX Z (p x) R s) st) : wpX Z (e1 p f ρ) R st := by unfold e1; rw [wpX_bind]; (first | exact k | exact ⟨k⟩ | (simp only [wpX_pure, wpX_some, wpX_line, wpX_bind]; exact k) | exact False.elim k | exact k.run.elim)
theorem x_e2 {p : D → D → M D} (k : wpX Z (f ρ) (fun x s => wpX Z (g ρ) (fun y s => wpX Z (p x y) R s) s) st) : wpX Z (e2 p f g ρ) R st := by
  unfold e2; rw [wpX_bind]
  refine wpX_mono k fun x s k => ?_
  rw [wpX_bind]; (first | exact k | exact ⟨k⟩ | (simp only [wpX_pure, wpX_some, wpX_line, wpX_bind]; exact k) | exact False.elim k | exact k.run.elim)
theorem x_aN (k : A [] st) : wpX Z (aNil ρ) A st := by first | exact k | exact ⟨k⟩
theorem x_aC (k : wpX Z (f ρ) (fun x s => wpX Z (ga ρ) (fun xs s => A (x :: xs) s) s) st) : wpX Z (aCons f ga ρ) A st := by
  unfold aCons; rw [wpX_bind]
  refine wpX_mono k fun x s k => ?_
  rw [wpX_bind]; (first | exact k | exact ⟨k⟩ | (simp only [wpX_pure, wpX_some, wpX_line, wpX_bind]; exact k) | exact False.elim k | exact k.run.elim)
theorem x_tup (k : wpX Z (ga ρ) (fun xs s => xs.length ≤ sizeLine ∧ R (.tup xs) s) st) : wpX Z (eTup ga ρ) R st := by
  unfold eTup; rw [wpX_bind]
  refine wpX_mono k fun x s k => ?_
  rw [wpX_bind, wpX_line]; (first | exact k | exact ⟨k⟩ | (simp only [wpX_pure, wpX_some, wpX_line, wpX_bind]; exact k) | exact False.elim k | exact k.run.elim)
theorem x_lst (k : wpX Z (ga ρ) (fun xs s => xs.length ≤ sizeLine ∧ R (.lst xs) s) st) : wpX Z (eLst ga ρ) R st := by
  unfold eLst; rw [wpX_bind]
  refine wpX_mono k fun x s k => ?_
  rw [wpX_bind, wpX_line]; (first | exact k | exact ⟨k⟩ | (simp only [wpX_pure, wpX_some, wpX_line, wpX_bind]; exact k) | exact False.elim k | exact k.run.elim)
theorem x_fLst (k : wpX Z (ga ρ) (fun xs s => xs.length ≤ sizeLine ∧ A xs s) st) : wpX Z (fLst ga ρ) A st := by
  unfold fLst; rw [wpX_bind]
  refine wpX_mono k fun x s k => ?_
  rw [wpX_bind, wpX_line]; (first | exact k | exact ⟨k⟩ | (simp only [wpX_pure, wpX_some, wpX_line, wpX_bind]; exact k) | exact False.elim k | exact k.run.elim)
theorem x_eL (k : wpX Z (ga ρ) (fun xs s => R (.lst xs) s) st) : wpX Z (eL ga ρ) R st := by unfold eL; rw [wpX_bind]; (first | exact k | exact ⟨k⟩ | (simp only [wpX_pure, wpX_some, wpX_line, wpX_bind]; exact k) | exact False.elim k | exact k.run.elim)
theorem x_call {n : Nat} {sem : List D → M D} (k : wpX Z (ga ρ) (fun ds s => ds.length = n ∧ wpX Z (sem ds) R s) st) : wpX Z (eCall n sem ga ρ) R st := by
  unfold eCall; rw [wpX_bind]
  refine wpX_mono k fun ds s ⟨hl, k⟩ => ?_
  exact wpX_call hl k
theorem x_tBl (k : wpX Z (f ρ) (BlK T) st) : wpX Z (tBl f ρ) T st := by
  unfold tBl; rw [wpX_bind]
  refine wpX_mono k fun d s k => ?_
  cases d <;> (first | exact k | exact ⟨k⟩ | (simp only [wpX_pure, wpX_some, wpX_line, wpX_bind]; exact k) | exact False.elim k | exact k.run.elim)
theorem x_tNt (k : wpX Z (t ρ) (fun b s => T (!b) s) st) : wpX Z (tNt t ρ) T st := by unfold tNt; rw [wpX_bind]; (first | exact k | exact ⟨k⟩ | (simp only [wpX_pure, wpX_some, wpX_line, wpX_bind]; exact k) | exact False.elim k | exact k.run.elim)
theorem x_tAn (k : wpX Z (t ρ) (fun b s => IfK (wpX Z (u ρ) T s) (T false s) b) st) : wpX Z (tAn t u ρ) T st := by
  unfold tAn; rw [wpX_bind]
  refine wpX_mono k fun b s k => ?_
  cases b with
  | true => (first | exact k.1 rfl | exact ⟨k.1 rfl⟩)
  | false => (first | exact k.2 rfl | exact ⟨k.2 rfl⟩)
theorem x_tOr (k : wpX Z (t ρ) (fun b s => IfK (T true s) (wpX Z (u ρ) T s) b) st) : wpX Z (tOor t u ρ) T st := by
  unfold tOor; rw [wpX_bind]
  refine wpX_mono k fun b s k => ?_
  cases b with
  | true => (first | exact k.1 rfl | exact ⟨k.1 rfl⟩)
  | false => (first | exact k.2 rfl | exact ⟨k.2 rfl⟩)
theorem x_eIf (k : wpX Z (t ρ) (fun b s => IfK (wpX Z (f ρ) R s) (wpX Z (g ρ) R s) b) st) : wpX Z (eIf t f g ρ) R st := by
  unfold eIf; rw [wpX_bind]
  refine wpX_mono k fun b s k => ?_
  cases b with
  | true => (first | exact k.1 rfl | exact ⟨k.1 rfl⟩)
  | false => (first | exact k.2 rfl | exact ⟨k.2 rfl⟩)
theorem x_neg (k : wpX Z (f ρ) (IntK fun i s => R (.int (-i)) s) st) : wpX Z (eNeg f ρ) R st := by
  unfold eNeg; rw [wpX_bind]
  refine wpX_mono k fun d s k => ?_
  cases d <;> (first | exact k | exact ⟨k⟩ | (simp only [wpX_pure, wpX_some, wpX_line, wpX_bind]; exact k) | exact False.elim k | exact k.run.elim)
variable {lo hi : En → M (Option Int)} {O : Option Int → Sto → Prop}
theorem x_oNo (k : O none st) : wpX Z (oNo ρ) O st := by first | exact k | exact ⟨k⟩
theorem x_oSo (k : wpX Z (f ρ) (IntK fun i s => O (some i) s) st) : wpX Z (oSo f ρ) O st := by
  unfold oSo; rw [wpX_bind]
  refine wpX_mono k fun d s k => ?_
  cases d <;> (first | exact k | exact ⟨k⟩ | (simp only [wpX_pure, wpX_some, wpX_line, wpX_bind]; exact k) | exact False.elim k | exact k.run.elim)
theorem x_sl (k : wpX Z (f ρ) (fun x s => wpX Z (lo ρ) (fun l s => wpX Z (hi ρ) (fun h s => wpX Z (slM x l h) R s) s) s) st) : wpX Z (eSl f lo hi ρ) R st := by
  unfold eSl; rw [wpX_bind]
  refine wpX_mono k fun x s k => ?_
  rw [wpX_bind]
  refine wpX_mono k fun x s k => ?_
  rw [wpX_bind]; (first | exact k | exact ⟨k⟩ | (simp only [wpX_pure, wpX_some, wpX_line, wpX_bind]; exact k) | exact False.elim k | exact k.run.elim)
theorem x_iSeq {A : List D → Sto → Prop} (k : wpX Z (f ρ) (fun d s => ∃ ds, itD d = some ds ∧ A ds s) st) : wpX Z (iSeq f ρ) A st := by
  unfold iSeq; rw [wpX_bind]
  refine wpX_mono k fun d s ⟨ds, e, k⟩ => ?_
  rw [e]; (first | exact k | exact ⟨k⟩ | (simp only [wpX_pure, wpX_some, wpX_line, wpX_bind]; exact k) | exact False.elim k | exact k.run.elim)
theorem x_for {it : En → M (List D)} {p : Pt} (k : wpX Z (it ρ) (fun ds s => wpX Z (forL (fun d ρ => (opt (p.set d ρ)).bind s1) ds ρ) Q s) st) : wpX Z (sFor it p s1 ρ) Q st := by unfold sFor; rw [wpX_bind]; (first | exact k | exact ⟨k⟩ | (simp only [wpX_pure, wpX_some, wpX_line, wpX_bind]; exact k) | exact False.elim k | exact k.run.elim)
theorem x_lc {it : En → M (List D)} {p : Pt} {vs : List Nat} (k : wpX Z (it ρ) (fun ds s => wp (lcL p.set t f (wipeE ρ vs) ds) A s) st) : wpX Z (eLc it p vs t f ρ) A st := by
  unfold eLc; rw [wpX_bind]
  refine wpX_mono k fun ds s k => ?_
  refine wp.x ?_
  rw [wp_noX]; exact k
theorem x_lc2 {it it1 : En → M (List D)} {p p1 : Pt} {vs vs1 : List Nat} {t1 : En → M Bool} (k : wpX Z (it ρ) (fun ds s => wp (lc2A p.set t it1 p1.set vs1 t1 f (wipeE ρ vs) [] ds) A s) st) : wpX Z (eLc2 it p vs t it1 p1 vs1 t1 f ρ) A st := by
  unfold eLc2; rw [wpX_bind]
  refine wpX_mono k fun ds s k => ?_
  refine wp.x ?_
  rw [wp_noX]; exact k
theorem x_true (k : T true st) : wpX Z (tTrue ρ) T st := by first | exact k | exact ⟨k⟩
theorem x_raise {x f g : Str} (k : wpX Z (ga ρ) (fun ds s => ∃ a b, ds = [a, b] ∧ Z ⟨x, [(g, b), (f, a)]⟩ s) st) : wpX Z (sRaise x f g ga ρ) Q st := by
  unfold sRaise; rw [wpX_bind]
  refine wpX_mono k fun ds s ⟨a, b, e, k⟩ => ?_
  subst e
  exact ⟨k⟩
theorem x_star (k : wpX Z (f ρ) (fun d s => ∃ xs, seqD d = some xs ∧ wpX Z (ga ρ) (fun ys s => A (xs ++ ys) s) s) st) : wpX Z (aStar f ga ρ) A st := by
  unfold aStar; rw [wpX_bind]
  refine wpX_mono k fun d s ⟨xs, e, k⟩ => ?_
  rw [wpX_bind, e, wpX_some, wpX_bind]
  simp only [wpX_pure]; exact k
end
end PL
set_option linter.all false
set_option maxRecDepth 100000
set_option maxHeartbeats 4000000
/-! PL26: a new list of texts that a def without parameters makes of nothing, kept by its caller. -/
namespace PL
open PySem PySem.Spec L2
end PL
set_option linter.all false
set_option maxRecDepth 100000
set_option maxHeartbeats 4000000
/-! PL27: a text some times. -/
namespace PL
open PySem PySem.Spec L2
end PL
set_option linter.all false
set_option maxRecDepth 100000
set_option maxHeartbeats 4000000
/-! PL28: dicts of the store whose keys are nested tuples: {}, k in d, d[k], d[k] = v. -/
namespace PL
open PySem PySem.Spec L2
def keyN : D → Option NestedKey
  | .tup ds => (nkD (.tup ds)).bind fun k => if k.depth ≤ 8 then some k else none
  | _ => none
section
variable {X : Cx} {pins : List (Addr × Obj)} {σ : L2.St} {H G : Hp} {μ : Mu} {s : Shared}
mutual
theorem rep_nk (I : Inv X pins σ H s) (g : Sub G H) : ∀ {d : D} {v : V} {k : NestedKey} {u : Value}, Rep X.K G μ v d → nkD d = some k → RelV v u → NestedIs s.heap k u
  | .non, _, _, _, .non, e, r => by
    cases e
    have r' : _ = Value.none := r
    subst r'
    exact .none
  | .bl b, _, _, _, .bl _, e, r => by
    cases e
    have r' : _ = Value.bool b := r
    subst r'
    exact .bool rfl
  | .int i, _, _, _, .int _, e, r => by
    cases e
    obtain ⟨t, rfl⟩ := r
    exact .int _ _
  | .str x, _, _, _, .str _, e, r => by
    cases e
    obtain ⟨t, rfl⟩ := r
    exact .text _ _
  | .tup ds, _, _, _, .tup h rr, e, r => by
    unfold nkD at e
    obtain ⟨ks, e1, rfl⟩ := Option.map_eq_some_iff.mp e
    have r' : _ = Value.ref _ := r
    subst r'
    obtain ⟨its, rv, ⟨o, ho, hc, n, hd⟩, _⟩ := I.tuple (g.sqT h)
    exact .tup ho hc hd (by simpa using rep_nks I g rr e1 rv)
  | .lst ds, _, _, _, .lst _ _, e, _ => by unfold nkD at e; cases e
  | .frz ds, _, _, _, .frz _ _, e, _ => by unfold nkD at e; cases e
  | .ref n, _, _, _, .ref _, e, _ => by unfold nkD at e; cases e
theorem rep_nks (I : Inv X pins σ H s) (g : Sub G H) : ∀ {ds : List D} {vs : List V} {ks : List NestedKey} {us : List Value}, RepL X.K G μ vs ds → nkL ds = some ks → Vals vs us → NestedAll s.heap ks us
  | [], _, _, _, .nil, e, r => by
    unfold nkL at e
    cases e
    cases r
    exact .nil
  | d :: ds, _, _, _, .cons h t, e, r => by
    unfold nkL at e
    obtain ⟨k, e1, e2⟩ := Option.bind_eq_some_iff.mp e
    obtain ⟨ks, e3, rfl⟩ := Option.map_eq_some_iff.mp e2
    cases r with
    | cons r1 r2 => exact .cons (rep_nk I g h e1 r1) (rep_nks I g t e3 r2)
end
theorem NR.more {K : PySem.W.Frag} {kvs : List (D × D)} {ks : List (NestedKey × Addr)} {vs : List V} {k : NestedKey} {b : Addr} {kd d : D} {v : V} (n : NR K G μ ks vs kvs) (e : nkD kd = some k) (h8 : k.depth ≤ 8) (rk : Rep K G μ (.ref b) kd) (rd : Rep K G μ v d) :
    NR K G μ (ks ++ [(k, b)]) (vs ++ [v]) (kvs ++ [(kd, d)]) := by
  obtain ⟨e1, e2, e3, e4⟩ := n
  refine ⟨by rw [List.map_append, List.map_append, e1]; simp [e], fun q hq => ?_, by rw [List.map_append, List.map_append]; exact e3.append (.cons rk .nil), by rw [List.map_append]; exact e4.append (.cons rd .nil)⟩
  rcases List.mem_append.mp hq with h | h
  · exact e2 q h
  · rw [List.mem_singleton.mp h]; exact h8
end
/-! ### the operations -/
def ndAt (n : Nat) : M (List (D × D)) := fun st => match st[n]? with
  | some (.nd kvs) => .ok kvs st
  | _ => .bad
section
variable {X : Cx} {E : XK} {H0 : Hp} {e a b c o i value : Expr} {f g h : En → M D} {pos p p0 : Pos} {Φ : Ent} {wW : World}
theorem Post.nd {α β : Type} {K : PySem.W.Frag} {mg : Str → Option Value} {R : RR β α} {H G : Hp} {μ : Mu} {n : Nat} {k : List (D × D) → M α} {st : Sto} {Q : β → Hp → Prop} (q : Post wW K mg E R H G μ ((ndAt n).bind k st) Q) : ∃ kvs, st[n]? = some (.nd kvs) ∧ Post wW K mg E R H G μ (k kvs st) Q := by
  unfold M.bind ndAt at q
  cases e : st[n]? with
  | none => rw [e] at q; exact q.elim
  | some o =>
    rw [e] at q
    cases o with
    | nd kvs => exact ⟨kvs, rfl, q⟩
    | dict _ => exact q.elim
    | lst _ => exact q.elim
    | ins _ _ => exact q.elim
    | tab _ _ => exact q.elim
theorem Rep.nd {K : PySem.W.Frag} {H G : Hp} {μ : Mu} {st : Sto} {v : V} {d : D} {n : Nat} {kvs : List (D × D)} (r : Rep K G μ v d) (hn : refD d = some n) (w : Wd wW K H G μ st) (hs : st[n]? = some (.nd kvs)) : ∃ l ks vs, v = .ref l ∧ μ n = some l ∧ H l = some (.ext (RawN wW l ks vs)) ∧ NR K G μ ks vs kvs := by
  cases r with
  | ref hm =>
    cases hn
    obtain ⟨l, h1, h2, ks, vs, h4, h5⟩ := w.obj n _ hs
    rw [hm] at h1; cases h1
    exact ⟨_, ks, vs, rfl, hm, h4, h5⟩
  | _ => cases hn
theorem keyN_tup {d : D} {k : NestedKey} (h : keyN d = some k) : (∃ ds, d = .tup ds) ∧ nkD d = some k ∧ k.depth ≤ 8 := by
  cases d with
  | tup ds =>
    unfold keyN at h
    obtain ⟨k', h1, h2⟩ := Option.bind_eq_some_iff.mp h
    by_cases h8 : k'.depth ≤ 8
    · rw [if_pos h8] at h2; cases h2
      exact ⟨⟨ds, rfl⟩, h1, h8⟩
    · rw [if_neg h8] at h2; cases h2
  | _ => cases h
theorem rep_key_ref {K : PySem.W.Frag} {G : Hp} {μ : Mu} {v : V} {d : D} {k : NestedKey} (r : Rep K G μ v d) (h : keyN d = some k) : ∃ b, v = .ref b := by
  obtain ⟨⟨ds, rfl⟩, _⟩ := keyN_tup h
  cases r with
  | tup _ _ => exact ⟨_, rfl⟩
/-! ### sum of ints, upper -/
end
end PL
set_option linter.all false
set_option maxRecDepth 100000
set_option maxHeartbeats 4000000
/-! PL29: dict comprehensions with one clause, keys texts or ints. -/
namespace PL
open PySem PySem.Spec L2
def dcL (set : D → En → Option En) (tt : En → M Bool) (tk tv : En → M D) (ρ : En) : List D → List (Key × D) → M (List (Key × D))
  | [], acc => M.pure acc
  | d :: ds, acc => (opt (set d ρ)).bind fun ρ' => (tt ρ').bind fun b => if b = true then (tk ρ').bind fun y => (tv ρ').bind fun z => (opt (keyD y)).bind fun k => guardM (decide (acc.length < sizeLine)) (dcL set tt tk tv ρ ds (putD acc k z)) else dcL set tt tk tv ρ ds acc
def eDc (it : En → M (List D)) (p : Pt) (vs : List Nat) (tt : En → M Bool) (tk tv : En → M D) : En → M D := fun ρ => (it ρ).bind fun ds => (noX (dcL p.set tt tk tv (wipeE ρ vs) ds [])).bind fun kvs => newOb (.dict kvs)
theorem noX_guard {α : Type} (c : Bool) (m : M α) : noX (guardM c m) = guardM c (noX m) := by
  unfold guardM
  split
  · rfl
  · rfl
theorem upd_self {H : Hp} {a : Addr} {o : HO} (h : H a = some o) : upd H a o = H := by
  funext b
  by_cases e : b = a
  · subst e; rw [upd_same, h]
  · rw [upd_ne e]
section
variable {X : Cx} {E : XK} {H0 : Hp} {it : En → M (List D)} {pt : Pt} {vs : List Nat} {tt : En → M Bool} {tk tv : En → M D}
theorem dc_read (hv : ∀ i ∈ pt.slots, i ∈ vs) : ∀ (σ : L2.St) (H : Hp) (Q : VK), Se X E H0 (rRep X.K) (eDc it pt vs tt tk tv) σ H Q →
    tDc (Se X E H0 (rIt X.w X.K) it) (pt.g X.K) (Se X xNo H0 rTrue tt) (Se X xNo H0 (rRep X.K) tk) (Se X xNo H0 (rRep X.K) tv) vs σ H Q := by
  intro σ H Q ⟨G, μ, st, ρ, w, er, q⟩
  refine ⟨G, μ, st, ρ, w, er, Post.raw q fun ds st1 J H1 G1 μ1 w1 s1 r1 q0 => ?_⟩
  intro L hL
  obtain ⟨hz, hJ⟩ := r1
  have q1 := q0.step s1
  have er1 : ER X.K H1 G1 μ1 H0 (wipeE ρ vs) (L2.wipe σ vs) := (er.step s1).wipe vs
  have g1L : G1 L = none := none_before w1.imm.th hL
  obtain ⟨wL, sL⟩ := w1.lay (o := .dK []) hL
  have nL : ∀ n, μ1 n ≠ some L := fun k e => by
    obtain ⟨b, h1, _, h3⟩ := w1.obj k _ (List.getElem?_eq_getElem (w1.dom k L e))
    rw [e] at h1; cases h1
    obtain ⟨u, hu⟩ := h3.there
    rw [hL] at hu; cases hu
  let In : Nat → Hp → Prop := fun i H => ∃ G μ st acc accD, Wd X.w X.K H G μ st ∧ Stp H1 G1 μ1 H G μ ∧ H L = some (.dK acc) ∧ KR X.K G μ acc accD ∧ G L = none ∧ (∀ n, μ n ≠ some L) ∧
    Post X.w X.K X.mg E (rRep X.K) H1 G1 μ1 (((noX (dcL pt.set tt tk tv (wipeE ρ vs) (ds.drop i) accD)).bind fun kvs => newOb (.dict kvs)) st) Q
  refine ⟨fun i m H => m = ds.length - i ∧ i ≤ ds.length ∧ In i H, ⟨ds.length, by simp, Nat.zero_le _, G1, μ1, st1, [], [], wL, sL, upd_same, .nil, g1L, nL, q1⟩, ?_⟩
  rintro i m H ⟨rfl, hi, G, μ, st, acc, accD, w, s, hH, ra, gL, nL, q⟩
  obtain ⟨hgo, hstop⟩ := hJ H G μ st w s.g s.m
  by_cases hlt : i < ds.length
  · obtain ⟨go, hy⟩ := hgo i hlt
    refine .inr ⟨go, In (i + 1), fun H' h => ⟨_, by omega, rfl, hlt, h⟩, fun x H2 hx => ?_⟩
    obtain ⟨G2, w2, s2, d, hd, rd⟩ := hy x H2 hx
    rw [List.drop_eq_getElem_cons hlt] at q
    have ed : ds[i] = d := Option.some.inj ((List.getElem?_eq_getElem hlt).symm.trans hd)
    rw [ed] at q
    unfold dcL at q
    rw [noX_bind, noX_opt, M.bind_assoc] at q
    obtain ⟨ρ2, hset, q⟩ := Post.opt q
    have t2 := s.trans s2
    refine Pt.ok hset w2 rd (er1.step t2) fun σ2 er2 hw => ⟨(hw vs hv).trans (wipe_idem vs σ), ?_⟩
    rw [noX_bind, M.bind_assoc] at q
    refine ⟨G2, μ, st, ρ2, w2, er2, Post.nbind q fun b st3 b' H3 G3 μ3 w3 s3 r3 q3 => ?_⟩
    cases r3
    have keep : ∀ {H' G' : Hp} {μ' : Mu}, Stp H G μ H' G' μ' → H' L = some (.dK acc) ∧ KR X.K G' μ' acc accD ∧ G' L = none ∧ ∀ n, μ' n ≠ some L := fun {H' G' μ'} z => by
      refine ⟨z.fr L _ hH nL, ra.mono z.g z.m, ?_, fun n e => ?_⟩
      · cases e : G' L with
        | none => rfl
        | some o => have := z.ng L gL (by rw [e]; simp); rw [hH] at this; cases this
      · cases e' : μ n with
        | some b => have := z.m n b e'; rw [e] at this; cases this; exact nL n e'
        | none => have := z.nm n L e' e; rw [hH] at this; cases this
    cases b with
    | false =>
      obtain ⟨k1, k2, k3, k4⟩ := keep (s2.trans s3)
      exact ⟨G3, μ3, st3, acc, accD, w3, t2.trans s3, k1, k2, k3, k4, q3⟩
    | true =>
      have q3' : Post X.w X.K X.mg E (rRep X.K) H1 G1 μ1 (((noX ((tk ρ2).bind fun y => (tv ρ2).bind fun z => (opt (keyD y)).bind fun k => guardM (decide (accD.length < sizeLine)) (dcL pt.set tt tk tv (wipeE ρ vs) (ds.drop (i + 1)) (putD accD k z)))).bind fun kvs => newOb (.dict kvs)) st3) Q := q3
      rw [noX_bind, M.bind_assoc] at q3'
      refine ⟨G3, μ3, st3, ρ2, w3, er2.step s3, Post.nbind q3' fun dy st4 y H4 G4 μ4 w4 s4 r4 q4 => ?_⟩
      rw [noX_bind, M.bind_assoc] at q4
      refine ⟨G4, μ4, st4, ρ2, w4, (er2.step s3).step s4, Post.nbind q4 fun dz st5 z H5 G5 μ5 w5 s5 r5 q5 => ?_⟩
      rw [noX_bind, noX_opt, M.bind_assoc] at q5
      obtain ⟨k, hk, q5⟩ := Post.opt q5
      rw [noX_guard] at q5
      have q5' : decide (accD.length < sizeLine) = true ∧ Post X.w X.K X.mg E (rRep X.K) H1 G1 μ1 (((noX (dcL pt.set tt tk tv (wipeE ρ vs) (ds.drop (i + 1)) (putD accD k dz))).bind fun kvs => newOb (.dict kvs)) st5) Q := by
        unfold guardM at q5
        by_cases hc : decide (accD.length < sizeLine) = true
        · rw [if_pos hc] at q5; exact ⟨hc, q5⟩
        · rw [if_neg hc] at q5; exact q5.elim
      obtain ⟨hc, q6⟩ := q5'
      obtain ⟨k1, k2, k3, k4⟩ := keep (((s2.trans s3).trans s4).trans s5)
      have ey := rep_key (r4.mono s5.g s5.m) hk
      refine ⟨acc, k, ey, k1, by rw [k2.len]; exact of_decide_eq_true hc, G5, μ5, st5, putK acc k z, putD accD k dz, w5.over k3 k4, (((t2.trans s3).trans s4).trans s5).over hL, upd_same, k2.put r5, k3, k4, q6⟩
  · have e : i = ds.length := by omega
    subst e
    rw [List.drop_length] at q
    refine .inl ⟨hstop _ (Nat.le_refl _), ?_⟩
    have q' : Post X.w X.K X.mg E (rRep X.K) H1 G1 μ1 (newOb (.dict accD) st) Q := q
    have sub : SubM μ (muAdd μ st.length L) := fun n a h => by
      have := w.dom n a h
      unfold muAdd; rw [if_neg (by omega)]; exact h
    have eL := upd_self hH
    have w4 := w.adopt (p := L) (o := .dK acc) (x := .dict accD) gL nL ((ra.mono (fun _ _ h => h) sub).or upd_same)
    have s4 := s.adopt w (p := L) (o := .dK acc) hL
    rw [eL] at w4 s4
    exact q' (.ref L) H G _ w4 s4 (.ref (by unfold muAdd; rw [if_pos rfl]))
variable {kx vx tg iter : Expr} {ifs : List Expr} {scope : Scope} {own : List (Str × Nat)} {pos : Pos}
theorem je_dc (hc : X.calm = true) (hN : X.N.Nodup) (hi : JI X E H0 tg it iter) (ok : BlkOk X.N X.env.scope scope own) (hv : ∀ i ∈ pt.slots, i ∈ own.map (·.2))
    (hg : ∀ (s : Shared) (H : Hp) (C : Addr) (cl : List (Str × Addr)) (fp : List Addr), PG (X.blk s H scope (compEnvC scope cl C X.env) fp) tg (pt.g X.K))
    (ht : ∀ (s : Shared) (H : Hp) (C : Addr) (cl : List (Str × Addr)) (fp : List Addr), JTs (X.blk s H scope (compEnvC scope cl C X.env) fp) xNo H0 tt ifs)
    (hk : ∀ (s : Shared) (H : Hp) (C : Addr) (cl : List (Str × Addr)) (fp : List Addr), JE (X.blk s H scope (compEnvC scope cl C X.env) fp) xNo H0 tk kx)
    (he : ∀ (s : Shared) (H : Hp) (C : Addr) (cl : List (Str × Addr)) (fp : List Addr), JE (X.blk s H scope (compEnvC scope cl C X.env) fp) xNo H0 tv vx) (hs : ∀ x, foldedSetIterable iter X.env x = pure x := by intro _; rfl) :
    JE X E H0 (eDc it pt (own.map (·.2)) tt tk tv) (.DictComp kx vx [⟨tg, iter, ifs, 0⟩] scope pos) := PE.imp (pe_dc (tt := Se X xNo H0 rTrue tt) (tk := Se X xNo H0 (rRep X.K) tk) (tv := Se X xNo H0 (rRep X.K) tv) hc hN hi ok hg ht hk he hs) (dc_read hv)
end
end PL
set_option linter.all false
set_option maxRecDepth 100000
set_option maxHeartbeats 4000000
/-! PL30: bools among ints: b + i, b - i, -b, str(b). -/
namespace PL
open PySem PySem.Spec L2
end PL
set_option linter.all false
set_option maxRecDepth 100000
set_option maxHeartbeats 4000000
/-! PL31: a sum of lists that nobody else holds; a list that a def made in the store is taken out of it. -/
namespace PL
open PySem PySem.Spec L2
end PL
set_option linter.all false
set_option maxRecDepth 100000
set_option maxHeartbeats 4000000
/-! PL32: try with several clauses, all of which bind one name. -/
namespace PL
open PySem PySem.Spec L2 LamX PyProof.Rows
end PL
set_option linter.all false
set_option maxRecDepth 100000
set_option maxHeartbeats 4000000
/-! PL33: what is heard with several clauses: ("gave", what it gives), or (x, e.f, e.g) of the class x that takes it. -/
namespace PL
open PySem PySem.Spec L2 LamX PyProof.Rows
variable {wW : World}
structure HCl where
  x : Str
  C : Addr
  f : Str
  g : Str
def HCl.key (z : HCl) : Str × Str × Str := (z.x, z.f, z.g)
end PL
set_option linter.all false
set_option maxRecDepth 100000
set_option maxHeartbeats 4000000
/-! PL34: a dict of words that the module wrote; xs[::-1]. -/
namespace PL
open PySem PySem.Spec L2 PyProof.Rows
end PL
set_option linter.all false
set_option maxRecDepth 100000
set_option maxHeartbeats 4000000
/-! PL35: sets of nested tuples: what a search among them asks. -/
namespace PL
open PySem PySem.Spec L2 PyProof.Rows
section
variable {P : Program} {w : World} {A : Around} {E : Value → Shared → Prop} {s : Shared} {h : Heap}
theorem kid_keys : ∀ {ks : List NestedKey} {us : List Value} {n : Nat}, NestedAll h ks us → NestedKey.depthAll ks ≤ n → ∀ u ∈ us, ∃ k, NestedIs h k u ∧ k.depth ≤ n
  | [], _, _, x, _, u, hu => by cases x; cases hu
  | k :: ks, _, n, x, hn, u, hu => by
    cases x with
    | cons y ys =>
      simp only [NestedKey.depthAll] at hn
      rcases List.mem_cons.mp hu with e | m
      · exact ⟨k, e ▸ y, by omega⟩
      · exact kid_keys ys (by omega) u m
/-- a nested key holds no class statement -/
theorem cls_key : ∀ {n : Nat} {k : NestedKey} {u : Value} {Q : Bool → Shared → Prop}, NestedIs s.heap k u → k.depth ≤ n → Q false s → wpAny (model P w) A (ofAClassStatement n u) Q E s := by
  intro n
  induction n with
  | zero =>
    intro k u Q x hn q
    cases x with
    | tup x1 x2 x3 x4 => simp [NestedKey.depth] at hn
    | _ => exact wpAny_pure q
  | succ n ih =>
    intro k u Q x hn q
    cases x with
    | tup x1 x2 x3 x4 =>
      rename_i b o vs m ks
      have ty : s.TypeIs (.ref b) "tuple" := ⟨o, x1, x2⟩
      have kids := kid_keys x4 (n := n) (by simp only [NestedKey.depth] at hn; omega)
      unfold ofAClassStatement
      refine wpAny_bind (wpAny_typeOf ty ?_)
      dsimp only
      simp only [show (("tuple" : String) == "tuple") = true from by decide, if_true, Bool.not_true, Bool.false_eq_true, if_false]
      try refine wpAny_bind (wpAny_pure ?_)
      try simp only [Bool.not_true, Bool.false_eq_true, if_false]
      show wpAny _ _ (seqItems? (.ref b) >>= _) _ _ s
      refine wpAny_bind (wpAny_seqItems x1 x3 ?_)
      refine wpAny_bind (show wpAny _ _ (forIn vs _ _) _ _ s from ?_)
      rw [← Array.forIn_toList]
      refine wpAny_forIn_list _ (fun more r z => r.1 = none ∧ z = s ∧ ∀ u ∈ more, ∃ k, NestedIs s.heap k u ∧ k.depth ≤ n) _ ?_ ?_ _ _ ⟨rfl, rfl, kids⟩
      · rintro u more r z ⟨-, rfl, every⟩
        obtain ⟨k1, y1, y2⟩ := every u (by simp)
        refine wpAny_bind (ih y1 y2 ?_)
        simp only [Bool.false_eq_true, if_false]
        exact wpAny_pure ⟨rfl, rfl, fun u m => every u (by simp [m])⟩
      · rintro ⟨r, _⟩ z ⟨e, rfl, -⟩
        cases e
        exact wpAny_pure q
    | _ => exact wpAny_pure q
/-- whether its hash is known by value: either answer -/
theorem byv_key : ∀ {n : Nat} {k : NestedKey} {u : Value} {Q : Bool → Shared → Prop}, NestedIs s.heap k u → k.depth ≤ n → (∀ b, Q b s) → wpAny (model P w) A (hashByValue n u) Q E s := by
  intro n
  induction n with
  | zero =>
    intro k u Q x hn q
    cases x with
    | tup x1 x2 x3 x4 => simp [NestedKey.depth] at hn
    | _ => exact wpAny_pure (q _)
  | succ n ih =>
    intro k u Q x hn q
    cases x with
    | tup x1 x2 x3 x4 =>
      rename_i b o vs m ks
      have ty : s.TypeIs (.ref b) "tuple" := ⟨o, x1, x2⟩
      have kids := kid_keys x4 (n := n) (by simp only [NestedKey.depth] at hn; omega)
      unfold hashByValue
      refine wpAny_bind (wpAny_specialOf ty F.slot_tuple_hash.lookup ?_)
      show wpAny _ _ (seqItems? (.ref b) >>= _) _ _ s
      refine wpAny_bind (wpAny_seqItems x1 x3 ?_)
      refine wpAny_bind (show wpAny _ _ (forIn vs _ _) _ _ s from ?_)
      rw [← Array.forIn_toList]
      refine wpAny_forIn_list _ (fun more r z => r.1 = none ∧ z = s ∧ ∀ u ∈ more, ∃ k, NestedIs s.heap k u ∧ k.depth ≤ n) _ ?_ ?_ _ _ ⟨rfl, rfl, kids⟩
      · rintro u more r z ⟨-, rfl, every⟩
        obtain ⟨k1, y1, y2⟩ := every u (by simp)
        refine wpAny_bind (ih y1 y2 fun b => ?_)
        cases b with
        | false =>
          simp only [Bool.not_false, if_true]
          exact wpAny_pure (wpAny_pure (q _))
        | true =>
          simp only [Bool.not_true, Bool.false_eq_true, if_false]
          exact wpAny_pure ⟨rfl, rfl, fun u m => every u (by simp [m])⟩
      · rintro ⟨r, _⟩ z ⟨e, rfl, -⟩
        cases e
        exact wpAny_pure (q _)
    | _ => exact wpAny_pure (q _)
/-- u is the nested key k, no deeper than a set may ask -/
def NkAt (h : Heap) (k : NestedKey) (b : Addr) : Prop := NestedIs h k (.ref b) ∧ k.depth ≤ 8
theorem quiet_search {k : NestedKey} {b : Addr} {us : List Value} {Q : Bool → Shared → Prop} (x : NkAt s.heap k b) (hu : ∀ u ∈ us, ∃ k c, u = Value.ref c ∧ NkAt s.heap k c) (q : Q false s) :
    wpAny (model P w) A (searchCouldBeSeen (.ref b) us) Q E s := by
  unfold searchCouldBeSeen
  refine wpAny_bind (wpAny_forIn_list _ (fun more r z => r.1 = none ∧ z = s ∧ ∀ u ∈ more, ∃ k c, u = Value.ref c ∧ NkAt s.heap k c) _ ?_ ?_ _ _ ⟨rfl, rfl, hu⟩)
  · rintro u more r z ⟨-, rfl, every⟩
    obtain ⟨k1, c, rfl, y⟩ := every u (by simp)
    have go : r.1 = r.1 ∧ z = z ∧ ∀ u ∈ more, ∃ k c, u = Value.ref c ∧ NkAt z.heap k c := ⟨rfl, rfl, fun u m => every u (by simp [m])⟩
    dsimp only
    by_cases same : (b == c || (carriedByValue (.ref b) && carriedByValue (.ref c))) = true
    · exact wp_if_pos same (wpAny_pure ⟨rfl, go.2⟩)
    · refine wp_if_neg same ?_
      refine wpAny_bind (quiet_key k _ 8 _ x.1 x.2 _ _ _ ?_)
      simp only [Bool.not_true, Bool.false_eq_true, if_false]
      refine wpAny_bind (quiet_key k1 _ 8 _ y.1 y.2 _ _ _ ?_)
      simp only [Bool.not_true, Bool.false_eq_true, if_false]
      refine wpAny_bind (cls_key x.1 x.2 ?_)
      simp only [Bool.false_eq_true, if_false]
      refine wpAny_bind (cls_key y.1 y.2 ?_)
      simp only [Bool.false_eq_true, if_false]
      exact wpAny_pure ⟨rfl, go.2⟩
  · rintro ⟨r, _⟩ z ⟨e, rfl, -⟩
    cases e
    exact wpAny_pure q
end
end PL
set_option linter.all false
set_option maxRecDepth 100000
set_option maxHeartbeats 4000000
/-! PL36: a set of nested tuples in the store, the search for one. -/
namespace PL
open PySem PySem.Spec L2 PyProof.Rows
/-- where the way of the hash H begins in a table of the mask m -/
abbrev way0 (m : Nat) (H : Int) : SetTable.Probe := runAt m (SetTable.bits H % (m + 1)) (SetTable.bits H)
abbrev nkRows (w : World) (L : List (Addr × NestedKey)) : List (Int × Value) := L.map fun y => (y.2.hash w, Value.ref y.1)
abbrev hAt (es : Array (Int × Value)) : Nat → Int := fun i => (es[i]?.map (·.1)).getD 0
/-- at a: a set of the nested tuples L -/
structure NSet (w : World) (h : Heap) (a : Addr) (L : List (Addr × NestedKey)) (es : Array (Int × Value)) (ep : Nat) (t : SetTable) : Prop where
  ob : ∃ o, h.get? a = some o ∧ o.ExactSet ∧ o.data = .set es ep t
  rows : es.toList = nkRows w L
  tab : TabOk t (L.map fun y => y.2.hash w)
  once : (L.map (·.2)).Nodup
  mem : ∀ y ∈ L, NkAt h y.2 y.1
  room : L.length * 5 < t.mask * 3
  few : L.length < 64
  led : w.params.followText "set-order" = true ∨ t.led = true
section
variable {P : Program} {w : World} {A : Around} {E : Value → Shared → Prop} {s : Shared} {h : Heap} {a : Addr} {L : List (Addr × NestedKey)} {es : Array (Int × Value)} {ep : Nat} {t : SetTable}
theorem nkRows_len (e : es.toList = nkRows w L) : es.size = L.length := by
  have := congrArg List.length e
  simpa using this
theorem NSet.len (R : NSet w h a L es ep t) : es.size = L.length := nkRows_len R.rows
theorem NSet.plen (R : NSet w h a L es ep t) : t.place.size = L.length := by
  have := R.tab.sz
  rwa [List.length_map] at this
theorem NSet.fit (R : NSet w h a L es ep t) : t.fits es.size = true := by
  have e1 := R.len
  have e2 := R.plen
  have e3 := R.room
  simp only [SetTable.fits, SetTable.fill, R.tab.dm, Bool.and_eq_true, beq_iff_eq, decide_eq_true_eq]
  refine ⟨by omega, ?_⟩
  show t.place.size + 0 ≤ t.mask
  omega
theorem NSet.at (R : NSet w h a L es ep t) {i : Nat} {y : Addr × NestedKey} (e : L[i]? = some y) : es[i]? = some (y.2.hash w, Value.ref y.1) := by
  rw [← Array.getElem?_toList, R.rows, List.getElem?_map, e, Option.map_some]
theorem NSet.hAt (R : NSet w h a L es ep t) {i : Nat} {y : Addr × NestedKey} (e : L[i]? = some y) : hAt es i = y.2.hash w := by
  show (es[i]?.map (·.1)).getD 0 = _
  rw [R.at e]
  first | done | rfl
theorem way0_dummy (m : Nat) (H : Int) : ∀ n, (nth m (way0 m H) n).dummy = none := by
  have all : ∀ (n : Nat) (p : SetTable.Probe), p.dummy = none → (nth m p n).dummy = none := by
    intro n
    induction n with
    | zero => exact fun _ e => e
    | succ n ih => exact fun p e => ih (adv m p) (by unfold adv; split <;> exact e)
  exact fun n => all n _ rfl
theorem seek (R : NSet w s.heap a L es ep t) {x : Addr} {k : NestedKey} (hx : NkAt s.heap k x) (hu : A.units + 8 < cLine) {K : Nat} (big : K < 10 * SetTable.turns t.mask)
    (free : way t.mask (k.hash w) K ∉ t.place.toList) (full : ∀ c, c < K → way t.mask (k.hash w) c ∈ t.place.toList) {Q : SetFound → Shared → Prop}
    (yes : k ∈ L.map (·.2) → Q (.there none) s) (no : k ∉ L.map (·.2) → Q (.free (way t.mask (k.hash w) K) false) s) :
    ∀ (f c : Nat) (st : Option SetTable.Probe), st.getD (t.probeStart (k.hash w)) = nth t.mask (way0 t.mask (k.hash w)) c → c ≤ K → K - c < f →
      (∀ (i : Nat) y, L[i]? = some y → y.2 = k → ∃ d, c ≤ d ∧ d < K ∧ t.place.toList[i]? = some (way t.mask (k.hash w) d)) →
      wpAny (model P w) A (setSearchFrom a (.ref x) (k.hash w) true f st) Q E s := by
  intro f
  induction f with
  | zero => exact fun c st _ _ z => absurd z (Nat.not_lt_zero _)
  | succ f ih =>
    intro c st hst hc hf still
    obtain ⟨o, ho, hex, hd⟩ := R.ob
    have shift : ∀ q, (nth t.mask (nth t.mask (way0 t.mask (k.hash w)) c) q).j = way t.mask (k.hash w) (c + q) := fun q => congrArg SetTable.Probe.j (nth_add t.mask c _ q).symm
    have Kc : c + (K - c) = K := by omega
    rw [setSearchFrom_succ]
    refine wpAny_bind (wpAny_setState_of ho hd R.fit ?_)
    dsimp only
    refine wp_if_neg (by unfold SetTable.gaveWay; rw [mask_odd R.tab.mok]; decide) ?_
    try refine wpAny_bind (wpAny_pure ?_)
    rcases go_spec t R.tab.ris R.tab.dm (hAt es) (k.hash w) (10 * SetTable.turns t.mask) (K - c) _ (way0_dummy t.mask (k.hash w) c) (by omega)
      (fun q hq => by rw [shift]; exact full (c + q) (by omega)) (by rw [shift, Kc]; exact free) with ⟨q, i, hq, hi, hh, pass, found⟩ | ⟨pass, found⟩
    · have probe : t.probe (hAt es) (k.hash w) (st.getD (t.probeStart (k.hash w))) = some (.candidate (way t.mask (k.hash w) (c + q)) i (nth t.mask (way0 t.mask (k.hash w)) (c + (q + 1)))) := by
        rw [hst, ← shift, nth_add t.mask c _ (q + 1)]
        exact found
      rw [probe]
      dsimp only
      rw [shift] at hi
      have il : i < L.length := by
        have := (List.getElem?_eq_some_iff.mp hi).1
        rw [Array.length_toList, R.plen] at this
        exact this
      obtain ⟨y, hy⟩ : ∃ y, L[i]? = some y := ⟨_, List.getElem?_eq_getElem il⟩
      have ym := List.mem_of_getElem? hy
      have live := slot_live R.tab.ris hi
      have after : wpAny (model P w) A (searchRest a (.ref x) (k.hash w) true f es t (way t.mask (k.hash w) (c + q)) i (nth t.mask (way0 t.mask (k.hash w)) (c + (q + 1)))) Q E s := by
        unfold searchRest
        rw [R.at hy]
        dsimp only
        refine wpAny_bind (wpAny_holding ((nestedKind P w).eqBool hu (R.mem y ym) hx ?_))
        refine wpAny_bind (wpAny_setState_of ho hd R.fit ?_)
        dsimp only
        by_cases eq : y.2 = k
        · exact wp_if_pos (by simp [eq]) (wpAny_pure (yes (List.mem_map.mpr ⟨y, ym, eq⟩)))
        · refine wp_if_neg (by simp [eq]) ?_
          try refine wpAny_bind (wpAny_pure ?_)
          rw [sameMem]
          dsimp only
          simp only [if_true, live, R.at hy]
          refine wpAny_bind (wpAny_isSame_ref_self (wpAny_bind (wpAny_pure ?_)))
          simp only [if_true]
          refine wp_if_neg (by simp [eq]) (ih (c + (q + 1)) _ rfl (by omega) (by omega) fun i0 y0 h0 k0 => ?_)
          obtain ⟨d, d1, d2, d3⟩ := still i0 y0 h0 k0
          refine ⟨d, ?_, d2, d3⟩
          rcases Nat.lt_trichotomy d (c + q) with z | z | z
          · refine absurd ?_ (pass (d - c) i0 (by omega) (by rw [shift, show c + (d - c) = d by omega]; exact d3))
            rw [R.hAt h0, k0]
          · subst z
            have two := slot_live R.tab.ris d3
            rw [live] at two
            injection two with two
            subst two
            rw [hy] at h0
            exact absurd ((congrArg Prod.snd (Option.some.inj h0)).trans k0) eq
          · omega
      by_cases led : t.led = true
      · refine wp_if_neg (by simp [led]) ?_
        try refine wpAny_bind (wpAny_pure ?_)
        exact after
      · refine wp_if_pos (by simp [led]) (wpAny_bind (quiet_search hx (fun u hm => ?_) ?_))
        · obtain ⟨e, he, rfl⟩ := List.mem_map.mp hm
          have e2 : e ∈ es.toList := by
            have both : e ∈ es ∧ e.1 = k.hash w := by simpa using he
            simpa using both.1
          rw [R.rows] at e2
          obtain ⟨y2, m2, rfl⟩ := List.mem_map.mp e2
          exact ⟨y2.2, y2.1, rfl, R.mem y2 m2⟩
        · refine wp_if_neg (by decide) ?_
          try refine wpAny_bind (wpAny_pure ?_)
          exact after
    · have probe : t.probe (hAt es) (k.hash w) (st.getD (t.probeStart (k.hash w))) = some (.empty (way t.mask (k.hash w) K) none) := by
        rw [hst, show way t.mask (k.hash w) K = (nth t.mask (nth t.mask (way0 t.mask (k.hash w)) c) (K - c)).j by rw [shift, Kc]]
        exact found
      rw [probe]
      dsimp only
      refine wpAny_pure (no fun hm => ?_)
      obtain ⟨y0, m0, k0⟩ := List.mem_map.mp hm
      obtain ⟨i0, h0⟩ := List.getElem?_of_mem m0
      obtain ⟨d, d1, d2, d3⟩ := still i0 y0 h0 k0
      refine pass (d - c) i0 (by omega) (by rw [shift, show c + (d - c) = d by omega]; exact d3) ?_
      rw [R.hAt h0, k0]
theorem seek_in (R : NSet w s.heap a L es ep t) {x : Addr} {k : NestedKey} (hx : NkAt s.heap k x) (hu : A.units + 8 < cLine) {Q : SetFound → Shared → Prop} (yes : k ∈ L.map (·.2) → Q (.there none) s)
    (no : ∀ K, k ∉ L.map (·.2) → way t.mask (k.hash w) K ∉ t.place.toList → (∀ c, c < K → way t.mask (k.hash w) c ∈ t.place.toList) → Q (.free (way t.mask (k.hash w) K) false) s) :
    wpAny (model P w) A (setSearch a (.ref x) (k.hash w) true) Q E s := by
  have e1 := R.room
  have e2 : (L.map fun y => y.2.hash w).length ≤ t.mask := by rw [List.length_map]; omega
  obtain ⟨K, big, free, full⟩ := R.tab.first e2 (k.hash w)
  have small : 10 * SetTable.turns t.mask < 2000 := by
    unfold SetTable.turns
    rcases R.tab.mok with e | e | e <;> rw [e] <;> decide
  refine seek R hx hu big free full yes (fun n => no K n free full) 100000 0 none rfl (Nat.zero_le _) (by omega) fun i y hy ky => ?_
  have il : i < t.place.toList.length := by
    rw [Array.length_toList, R.plen]
    exact (List.getElem?_eq_some_iff.mp hy).1
  obtain ⟨c, c1, c2⟩ := R.tab.before free (i := i) (j := t.place.toList[i]) (by rw [List.getElem?_map, hy, ← ky, Option.map_some]) (List.getElem?_eq_getElem il)
  exact ⟨c, Nat.zero_le _, c1, by rw [c2]; exact List.getElem?_eq_getElem il⟩
end
end PL
set_option linter.all false
set_option maxRecDepth 100000
set_option maxHeartbeats 4000000
/-! PL37: adding to a set of nested tuples. -/
namespace PL
open PySem PySem.Spec L2 PyProof.Rows
theorem pick_all {α : Type} : ∀ (L pre : List α), (List.range' pre.length L.length).filterMap (fun i => (pre ++ L)[i]?) = L
  | [], _ => rfl
  | x :: L, pre => by
    have ih := pick_all L (pre ++ [x])
    simp only [List.append_assoc, List.singleton_append, List.length_append, List.length_singleton] at ih
    rw [List.length_cons, List.range'_succ, List.filterMap_cons_some (b := x) (by simp), ih]
theorem pick_perm {α : Type} {L : List α} {o : List Nat} (h : o.Perm (List.range L.length)) : (o.filterMap fun i => L[i]?).Perm L := by
  have e := pick_all L []
  simp only [List.length_nil, List.nil_append] at e
  have p := h.filterMap fun i => L[i]?
  rw [List.range_eq_range', e] at p
  exact p
section
variable {P : Program} {w : World} {A : Around} {E : Value → Shared → Prop} {s : Shared} {h : Heap} {a : Addr} {L : List (Addr × NestedKey)} {es : Array (Int × Value)} {ep : Nat} {t : SetTable}
theorem nk_order {ord : Array Nat} (e : es.toList = nkRows w L) (hp : ord.toList.Perm (List.range L.length)) :
    ∃ L2, (ord.filterMap (es[·]?)).toList = nkRows w L2 ∧ L2.Perm L ∧ (L2.map fun y => y.2.hash w) = ord.toList.map fun i => (es.map (·.1)).getD i 0 := by
  have get : ∀ i : Nat, es[i]? = (L[i]?).map fun y => (y.2.hash w, Value.ref y.1) := fun i => by rw [← Array.getElem?_toList, e, List.getElem?_map]
  have both : ∀ l : List Nat, (∀ i ∈ l, i < L.length) → l.filterMap (fun i => es[i]?) = nkRows w (l.filterMap fun i => L[i]?) ∧ ((l.filterMap fun i => L[i]?).map fun y => y.2.hash w) = l.map fun i => (es.map (·.1)).getD i 0 := by
    intro l
    induction l with
    | nil => exact fun _ => ⟨rfl, rfl⟩
    | cons i l ih =>
      intro hl
      obtain ⟨i1, i2⟩ := ih fun j m => hl j (by simp [m])
      have lt := hl i (by simp)
      have at_i : L[i]? = some L[i] := List.getElem?_eq_getElem lt
      have es_i : es[i]? = some ((L[i]).2.hash w, Value.ref (L[i]).1) := by rw [get i, at_i, Option.map_some]
      constructor
      · rw [List.filterMap_cons_some es_i, List.filterMap_cons_some at_i, i1]
        rfl
      · rw [List.filterMap_cons_some at_i, List.map_cons, List.map_cons, i2]
        have : (es.map (·.1))[i]? = some ((L[i]).2.hash w) := by rw [Array.getElem?_map, es_i, Option.map_some]
        rw [Array.getD_eq_getD_getElem?, this, Option.getD_some]
  obtain ⟨b1, b2⟩ := both ord.toList fun i m => List.mem_range.mp (hp.mem_iff.mp m)
  exact ⟨_, by rw [Array.toList_filterMap]; exact b1, pick_perm hp, b2⟩
/-- a nested tuple has no set in it: it stays when a set changes -/
theorem NkAt.stay {h' : Heap} {k : NestedKey} {b : Addr} {o : Obj} (x : NkAt h k b) (ho : h.get? a = some o) (hd : o.data = .set es ep t) (hs : Heap.SameBut a h h') : NkAt h' k b := by
  refine ⟨NestedIs.at (fun c oc vs n hc dc => (hs.2 c fun e => ?_).trans hc) k _ x.1, x.2⟩
  subst e
  have same := Option.some.inj (hc.symm.trans ho)
  rw [← same, dc] at hd
  cases hd
/-- the table laid anew -/
theorem lay_anew {o : Obj} (ho : s.heap.get? a = some o) (hex : o.ExactSet) (hd : o.data = .set es ep t) (hr : es.toList = nkRows w L) (T : TabOk t (L.map fun y => y.2.hash w)) (once : (L.map (·.2)).Nodup)
    (mem : ∀ y ∈ L, NkAt s.heap y.2 y.1) (few : L.length < 64) (fits : L.length ≤ t.mask) (ld : w.params.followText "set-order" = true ∨ t.led = true) {n M : Nat} (hn : SetTable.sizeAbove n = M + 1) (hM : MaskOk M) (hM2 : M < 128) (room : L.length * 5 < M * 3) {Q : Unit → Shared → Prop}
    (q : ∀ h' L' es' ep' t', Heap.SameBut a s.heap h' → NSet w h' a L' es' ep' t' → L'.Perm L → Q () { s with heap := h' }) : wpAny (model P w) A (setRelay a n) Q E s := by
  have len := nkRows_len hr
  have pl : t.place.size = L.length := by have := T.sz; rwa [List.length_map] at this
  have fit : t.fits es.size = true := by
    simp only [SetTable.fits, SetTable.fill, T.dm, Bool.and_eq_true, beq_iff_eq, decide_eq_true_eq]
    refine ⟨by omega, ?_⟩
    show t.place.size + 0 ≤ t.mask
    omega
  obtain ⟨t2, ord, laid, perm, T2, m2, l2, -, -⟩ := relaid_ok t (hs := es.map (·.1)) (wanted := n) (M := M) (by rw [hn]; rfl) hM (by rw [Array.size_map, len]; omega)
  rw [Array.size_map, len] at perm
  obtain ⟨L2, r1, r2, r3⟩ := nk_order hr perm
  rw [← r3] at T2
  have len2 : (ord.filterMap (es[·]?)).size = es.size := by rw [nkRows_len r1, r2.length_eq, len]
  have line : sizeLine > 1000 := by rw [sizeLine_eq]; decide
  rw [setRelay_eq]
  refine wpAny_bind (wpAny_setState_of ho hd fit ?_)
  dsimp only
  refine wp_if_neg (by rw [hn]; omega) ?_
  try refine wpAny_bind (wpAny_pure ?_)
  rw [laid]
  dsimp only
  refine wpAny_bind (wp_if_neg (by rw [len2]; simp) ?_)
  try refine wpAny_bind (wpAny_pure ?_)
  refine wpAny_pure ?_
  dsimp only
  refine wpAny_storeSet_of ho hd ?_ (by rw [len2, len]; omega)
  have sb : Heap.SameBut a s.heap (s.heap.update a (Obj.putSet (ord.filterMap (es[·]?)) t2)) := Heap.SameBut.update ..
  exact q _ L2 _ (ep + 1) t2 sb ⟨⟨_, store_at ho hd, ⟨hex.1, hex.2.1, hex.2.2⟩, rfl⟩, r1, T2, (r2.map (·.2)).nodup_iff.mpr once, fun y m => (mem y (r2.mem_iff.mp m)).stay ho hd sb, by rw [r2.length_eq, m2]; exact room, by rw [r2.length_eq]; exact few, by rw [l2]; exact ld⟩ r2
end
end PL
set_option linter.all false
set_option maxRecDepth 100000
set_option maxHeartbeats 4000000
/-! PL38: one nested tuple put into a set of such. -/
namespace PL
open PySem PySem.Spec L2 PyProof.Rows
section
variable {P : Program} {w : World} {A : Around} {E : Value → Shared → Prop} {s : Shared} {h : Heap} {a : Addr} {L : List (Addr × NestedKey)} {es : Array (Int × Value)} {ep : Nat} {t : SetTable}
/-- the last part of adding: the table with its new place is stored, and laid anew if it is too full -/
theorem put_rest {o : Obj} (ho : s.heap.get? a = some o) (hex : o.ExactSet) (hd : o.data = .set es ep t) {L1 : List (Addr × NestedKey)} {es1 : Array (Int × Value)} {t1 : SetTable} (hr : es1.toList = nkRows w L1)
    (T : TabOk t1 (L1.map fun y => y.2.hash w)) (once : (L1.map (·.2)).Nodup) (mem : ∀ y ∈ L1, NkAt s.heap y.2 y.1) (few : L1.length < 64) (was : (L1.length - 1) * 5 < t1.mask * 3) (one : 0 < L1.length) (ld : w.params.followText "set-order" = true ∨ t1.led = true)
    {n : Nat} (hn : n = L1.length) {Q : Bool → Shared → Prop} (q : ∀ h' L' es' ep' t', Heap.SameBut a s.heap h' → NSet w h' a L' es' ep' t' → L'.Perm L1 → Q true { s with heap := h' }) :
    wpAny (model P w) A (do
      storeSet a es1 t1
      if t1.tooFull then setRelay a (SetTable.grown n)
      return true) Q E s := by
  have len := nkRows_len hr
  have pl : t1.place.size = L1.length := by have := T.sz; rwa [List.length_map] at this
  have fill : t1.fill = L1.length := by
    simp only [SetTable.fill, T.dm]
    show t1.place.size + 0 = _
    omega
  have line : sizeLine > 1000 := by rw [sizeLine_eq]; decide
  refine wpAny_bind (wpAny_storeSet_of ho hd ?_ (by omega))
  have sb : Heap.SameBut a s.heap (s.heap.update a (Obj.putSet es1 t1)) := Heap.SameBut.update ..
  have ho1 := store_at (es' := es1) (t' := t1) ho hd
  have mem1 : ∀ y ∈ L1, NkAt (s.heap.update a (Obj.putSet es1 t1)) y.2 y.1 := fun y m => (mem y m).stay ho hd sb
  generalize s.heap.update a (Obj.putSet es1 t1) = h1 at sb ho1 mem1 ⊢
  have ex1 : ({ o with data := .set es1 (ep + 1) t1 } : Obj).ExactSet := ⟨hex.1, hex.2.1, hex.2.2⟩
  by_cases full : t1.tooFull = true
  · have lots : L1.length * 5 ≥ t1.mask * 3 := by
      have := full
      unfold SetTable.tooFull at this
      rwa [decide_eq_true_eq, fill] at this
    have two : (t1.mask = 7 ∧ L1.length = 5) ∨ (t1.mask = 31 ∧ L1.length = 19) := by
      rcases T.mok with e | e | e <;> rw [e] at lots was
      · exact .inl ⟨e, by omega⟩
      · exact .inr ⟨e, by omega⟩
      · omega
    have go : ∀ M, SetTable.sizeAbove (SetTable.grown n) = M + 1 → MaskOk M → M < 128 → L1.length * 5 < M * 3 → wpAny (model P w) A (setRelay a (SetTable.grown n)) (fun _ s' => wpAny (model P w) A (pure true) Q E s') E { s with heap := h1 } :=
      fun M m1 m2 m3 m4 => lay_anew (s := { s with heap := h1 }) ho1 ex1 rfl hr T once mem1 few (by rcases two with ⟨e, e2⟩ | ⟨e, e2⟩ <;> omega) ld m1 m2 m3 m4
        fun h2 L2 es2 ep2 t2 sb2 R2 pm => wpAny_pure (q h2 L2 es2 ep2 t2 (sb.trans sb2) R2 pm)
    refine wp_if_pos full ?_
    refine wpAny_bind ?_
    rcases two with ⟨_, e⟩ | ⟨_, e⟩
    · exact go 31 (by rw [hn, e, size_20]) (.inr (.inl rfl)) (by decide) (by omega)
    · exact go 127 (by rw [hn, e, size_76]) (.inr (.inr rfl)) (by decide) (by omega)
  · refine wp_if_neg full ?_
    refine wpAny_pure (q h1 L1 es1 (ep + 1) t1 sb ⟨⟨_, ho1, ex1, rfl⟩, hr, T, once, mem1, ?_, few, ld⟩ (.refl _))
    have := full
    unfold SetTable.tooFull at this
    rw [decide_eq_true_eq, fill] at this
    omega
theorem put_mid (L : List (Addr × NestedKey)) (p : Nat) (y : Addr × NestedKey) : (L.take p ++ y :: L.drop p).Perm (y :: L) := by
  have := List.perm_middle (a := y) (l₁ := L.take p) (l₂ := L.drop p)
  rwa [List.take_append_drop] at this
theorem put_in (R : NSet w s.heap a L es ep t) {x : Addr} {k : NestedKey} (hx : NkAt s.heap k x) (hu : A.units + 8 < cLine) (few : L.length + 1 < 64) {Q : Bool → Shared → Prop}
    (q : ∀ b h' L' es' ep' t', Heap.SameBut a s.heap h' → NSet w h' a L' es' ep' t' → (k ∈ L.map (·.2) → L' = L) → (k ∉ L.map (·.2) → L'.Perm ((x, k) :: L)) → Q b { s with heap := h' }) :
    wpAny (model P w) A (setAddHashed a (.ref x) (k.hash w)) Q E s := by
  obtain ⟨o, ho, hex, hd⟩ := R.ob
  have len := R.len
  have room := R.room
  unfold setAddHashed
  refine wpAny_holding ?_
  rw [show (100000 : Nat) = 99999 + 1 from rfl, setAddHashedIn_succ]
  refine wpAny_bind (wpAny_setState_of ho hd R.fit ?_)
  dsimp only
  refine wp_if_neg (by simp [byScan, Value.scannable]) ?_
  try refine wpAny_bind (wpAny_pure ?_)
  refine wpAny_bind (seek_in R hx hu (fun hm => ?_) fun K hm free full => ?_)
  · exact wpAny_pure (q false s.heap L es ep t (.refl a s.heap) R (fun _ => rfl) fun z => absurd hm z)
  dsimp only
  refine wpAny_bind (wpAny_setState_of ho hd R.fit ?_)
  dsimp only
  obtain ⟨p1, p2, T, p4, p5, -, -, -, -⟩ := R.tab.put free full
  have into : (SetTable.insertAt es (SetTable.below t.place (way t.mask (k.hash w) K)) (k.hash w, Value.ref x)).toList = nkRows w (L.take (SetTable.below t.place (way t.mask (k.hash w) K)) ++ (x, k) :: L.drop (SetTable.below t.place (way t.mask (k.hash w) K))) := by
    rw [SetTable.toList_insertAt, R.rows]
    simp [nkRows, List.map_take, List.map_drop]
  have same : ((L.take (SetTable.below t.place (way t.mask (k.hash w) K)) ++ (x, k) :: L.drop (SetTable.below t.place (way t.mask (k.hash w) K))).map fun y => y.2.hash w) = (L.map fun y => y.2.hash w).take (SetTable.below t.place (way t.mask (k.hash w) K)) ++ k.hash w :: (L.map fun y => y.2.hash w).drop (SetTable.below t.place (way t.mask (k.hash w) K)) := by
    simp [List.map_take, List.map_drop]
  rw [← same] at T
  have pm := put_mid L (SetTable.below t.place (way t.mask (k.hash w) K)) (x, k)
  rw [p1]
  have ld1 : w.params.followText "set-order" = true ∨ (t.put (way t.mask (k.hash w) K)).1.led = true := by rw [p5]; exact R.led
  generalize (t.put (way t.mask (k.hash w) K)).1 = t1 at T p4 ld1 ⊢
  generalize SetTable.insertAt es (SetTable.below t.place (way t.mask (k.hash w) K)) (k.hash w, Value.ref x) = es1 at into ⊢
  generalize L.take (SetTable.below t.place (way t.mask (k.hash w) K)) ++ (x, k) :: L.drop (SetTable.below t.place (way t.mask (k.hash w) K)) = L1 at T into pm
  have len1 : L1.length = L.length + 1 := pm.length_eq
  have once1 : (L1.map (·.2)).Nodup := by
    rw [(pm.map (·.2)).nodup_iff, List.map_cons]
    exact List.nodup_cons.mpr ⟨hm, R.once⟩
  have mem1 : ∀ y ∈ L1, NkAt s.heap y.2 y.1 := fun y m => by
    rcases List.mem_cons.mp (pm.mem_iff.mp m) with e | m
    · exact e ▸ hx
    · exact R.mem y m
  have rest : ∀ t2 : SetTable, TabOk t2 (L1.map fun y => y.2.hash w) → t2.mask = t.mask → (w.params.followText "set-order" = true ∨ t2.led = true) → wpAny (model P w) A (do
      storeSet a es1 t2
      if t2.tooFull then setRelay a (SetTable.grown (es.size + 1))
      return true) Q E s := fun t2 T2 m2 l2 =>
    put_rest ho hex hd into T2 once1 mem1 (by omega) (by rw [m2, len1]; exact room) (by omega) l2 (by omega) fun h' L' es' ep' t' sb R' pm' => q true h' L' es' ep' t' sb R' (fun z => absurd z hm) fun _ => pm'.trans pm
  have bare : TabOk { t1 with plain := false } (L1.map fun y => y.2.hash w) := ⟨T.ris, T.dm, T.sz, T.mok, T.bd, T.reach⟩
  by_cases pl : t1.plain = true
  · refine wp_if_pos pl (wpAny_bind (byv_key hx.1 hx.2 fun b => ?_))
    cases b with
    | false => simpa using rest _ bare p4 ld1
    | true => simpa using rest t1 T p4 ld1
  · refine wp_if_neg pl (wpAny_bind (wpAny_pure ?_))
    simpa using rest t1 T p4 ld1
end
end PL
set_option linter.all false
set_option maxRecDepth 100000
set_option maxHeartbeats 4000000
/-! PL39: set(xs) of a tuple of nested tuples. -/
namespace PL
open PySem PySem.Spec L2 PyProof.Rows
/-- L is what a set holds of the first i of ks -/
structure Held (ks : List (Addr × NestedKey)) (i : Nat) (L : List (Addr × NestedKey)) : Prop where
  only : ∀ y ∈ L, y ∈ ks.take i
  each : ∀ y ∈ ks.take i, y.2 ∈ L.map (·.2)
  size : L.length ≤ i
section
variable {ks L L' : List (Addr × NestedKey)} {i : Nat} {y : Addr × NestedKey}
theorem held_nil : Held ks 0 [] := ⟨fun _ m => (nomatch m), fun _ m => (by simp at m), Nat.le_refl _⟩
theorem held_step (g : Held ks i L) (e : ks[i]? = some y) (old : y.2 ∈ L.map (·.2) → L' = L) (new : y.2 ∉ L.map (·.2) → L'.Perm (y :: L)) : Held ks (i + 1) L' := by
  have tk : ks.take (i + 1) = ks.take i ++ [y] := by rw [List.take_add_one, e, Option.toList_some]
  by_cases m : y.2 ∈ L.map (·.2)
  · rw [old m]
    refine ⟨fun z hz => by rw [tk]; exact List.mem_append_left _ (g.only z hz), fun z hz => ?_, Nat.le_succ_of_le g.size⟩
    rw [tk, List.mem_append, List.mem_singleton] at hz
    rcases hz with a | rfl
    · exact g.each z a
    · exact m
  · have p := new m
    refine ⟨fun z hz => ?_, fun z hz => ?_, by rw [p.length_eq]; exact Nat.succ_le_succ g.size⟩
    · rw [tk, List.mem_append, List.mem_singleton]
      rcases List.mem_cons.mp (p.mem_iff.mp hz) with a | a
      · exact .inr a
      · exact .inl (g.only z a)
    · rw [(p.map (·.2)).mem_iff, List.map_cons, List.mem_cons]
      rw [tk, List.mem_append, List.mem_singleton] at hz
      rcases hz with a | rfl
      · exact .inr (g.each z a)
      · exact .inl rfl
end
section
variable {P : Program} {w : World} {A : Around} {E : Value → Shared → Prop} {s : Shared}
theorem NkAt.on {h h' : Heap} {k : NestedKey} {b : Addr} (x : NkAt h k b) (keep : ∀ c o, h.get? c = some o → h'.get? c = some o) : NkAt h' k b := ⟨NestedIs.at (fun c o _ _ hc _ => keep c o hc) k _ x.1, x.2⟩
theorem NSet.on {h h' : Heap} {a : Addr} {L : List (Addr × NestedKey)} {es : Array (Int × Value)} {ep : Nat} {t : SetTable} (R : NSet w h a L es ep t) (same : ∀ o, h.get? a = some o → h'.get? a = some o) (mem : ∀ y ∈ L, NkAt h' y.2 y.1) : NSet w h' a L es ep t :=
  let ⟨o, ho, r⟩ := R.ob
  ⟨⟨o, same o ho, r⟩, R.rows, R.tab, R.once, mem, R.room, R.few, R.led⟩
/-- a set that is new -/
abbrev bareSet (w : World) : Obj := { cls := .type "set", dict := none, data := .set #[] 0 (.fresh 0 0 (!w.params.followText "set-order")) }
theorem bare_nset {h : Heap} {a : Addr} (ho : h.get? a = some (bareSet w)) : NSet w h a [] #[] 0 (.fresh 0 0 (!w.params.followText "set-order")) :=
  ⟨⟨_, ho, ⟨rfl, rfl, rfl⟩, rfl⟩, rfl, ⟨.nil, rfl, rfl, .inl rfl, fun _ m => (nomatch m), fun i _ _ m => (by simp at m)⟩, List.nodup_nil, fun _ m => (nomatch m), show 0 * 5 < 7 * 3 by decide, show 0 < 64 by decide, by
    show _ ∨ (!w.params.followText "set-order") = true
    cases w.params.followText "set-order" <;> simp⟩
/-- the loop that fills it -/
theorem fill_loop {I : Addr} {fp wr : List Addr} {G : Array GenState → Array GenState → Prop} {n : Nat} {Pv : Nat → Value → Prop} {St : Nat → Shared → Prop} {R : Result → Shared → Prop} (W : WalksS P w A.in1 I fp wr G n Pv St) {S : Addr} (out : S ∉ fp)
    {ks : List (Addr × NestedKey)} (hn : n = ks.length) (few : ks.length < 64) (item : ∀ i v, Pv i v → ∃ y, ks[i]? = some y ∧ v = .ref y.1) {h0 : Heap} (mem : ∀ y ∈ ks, NkAt h0 y.2 y.1) (newS : h0.get? S = none) (neww : ∀ b ∈ wr, h0.get? b = none)
    (hu : A.in1.units + 8 < cLine) : ∀ (left i : Nat) (s : Shared), n - i = left → i ≤ n → St i s → (∀ b o, h0.get? b = some o → s.heap.get? b = some o) → (∃ L es ep t, NSet w s.heap S L es ep t ∧ Held ks i L) →
      (∀ s' L es ep t, Moved (S :: wr) G s s' → NSet w s'.heap S L es ep t → Held ks n L → (∀ b o, h0.get? b = some o → s'.heap.get? b = some o) → R (.ok (.ret .none)) s') →
      codeAny (model P w) A (.builtin "set.update.loop" ⟨[.ref S, .ref I], []⟩) R s := by
  have offw : S ∉ wr := fun m => out (W.sub _ m)
  have wider : ∀ b ∈ wr, b ∈ S :: wr := fun b m => .tail _ m
  have stays : ∀ {u v : Shared}, Moved wr G u v → (∀ b o, h0.get? b = some o → u.heap.get? b = some o) → ∀ b o, h0.get? b = some o → v.heap.get? b = some o :=
    fun mv f b o e => mv.heap b o (fun m => by rw [neww b m] at e; cases e) (f b o e)
  intro left
  induction left with
  | zero =>
    intro i s hl hi st f ⟨L, es, ep, t, R0, g⟩ fin
    obtain rfl : i = n := by omega
    refine codeAny_builtin F.entry_set_update_loop ?_
    rw [Around.under_plainId F.plain_set_update_loop _]
    refine show wpAny _ A.in1 (pyNext (.ref I) >>= _) _ _ s from wpAny_bind (W.done s _ _ st fun s' mv => ?_)
    refine show wpAny _ A.in1 (ret Value.none) _ _ s' from ?_
    have f' := stays mv f
    exact wpAny_pure (fin s' L es ep t (mv.mono wider) (R0.on (fun o e => mv.heap S o offw e) fun y m => (mem y (List.mem_of_mem_take (g.only y m))).on f') g f')
  | succ left ih =>
    intro i s hl hi st f ⟨L, es, ep, t, R0, g⟩ fin
    have lt : i < n := by omega
    refine codeAny_builtin F.entry_set_update_loop ?_
    rw [Around.under_plainId F.plain_set_update_loop _]
    refine show wpAny _ A.in1 (pyNext (.ref I) >>= _) _ _ s from wpAny_bind (W.item i s _ _ lt st fun v s' pv st' mv => ?_)
    obtain ⟨y, hy, rfl⟩ := item i v pv
    have f' := stays mv f
    have R1 : NSet w s'.heap S L es ep t := R0.on (fun o e => mv.heap S o offw e) fun z m => (mem z (List.mem_of_mem_take (g.only z m))).on f'
    have ny : NkAt s'.heap y.2 y.1 := (mem y (List.mem_of_getElem? hy)).on f'
    refine show wpAny _ A.in1 (holding [Value.ref y.1] (setAdd S (.ref y.1)) >>= _) _ _ s' from wpAny_bind (wpAny_holding ?_)
    unfold setAdd
    refine wpAny_holding (wpAny_bind (pyHash_key _ _ _ _ _ ny.1 (by have := ny.2; omega) ?_))
    refine put_in (s := { s' with toks := s'.toks + y.2.draws }) R1 ny hu (by have := g.size; omega) fun b h' L' es' ep' t' sb R2 c1 c2 => ?_
    have f2 : ∀ b o, h0.get? b = some o → h'.get? b = some o := fun b o e => (sb.2 b fun z => by rw [z, newS] at e; cases e).trans (f' b o e)
    refine wpAny_pure ⟨plainId_quiet F.plain_set_update_loop _, ih (i + 1) _ (by omega) lt (W.frame _ s' _ _ st' (Nat.le_add_right _ _) fun b m o e => ?_) f2 ⟨L', es', ep', t', R2, held_step g hy c1 c2⟩ fun s2 L2 es2 ep2 t2 mv2 R3 g3 f3 => ?_⟩
    · exact (sb.2 b fun z => out (z ▸ m)).trans e
    · exact fin s2 L2 es2 ep2 t2 (Moved.trans W.gtrans ((mv.mono wider).then_heap (Nat.le_add_right _ _) fun b o m e => (sb.2 b fun z => m (z ▸ List.mem_cons_self)).trans e) mv2) R3 g3 f3
end
end PL
set_option linter.all false
set_option maxRecDepth 100000
/-! PL40: the call set(xs), xs a tuple of nested tuples. -/
namespace PL
open PySem PySem.Spec L2 PyProof.Rows
end PL
set_option linter.all false
set_option maxRecDepth 100000
set_option maxHeartbeats 4000000
/-! PL41: len(set(xs)) of a tuple of nested tuples. -/
namespace PL
open PySem PySem.Spec L2 PyProof.Rows
def keysN : List D → Option (List NestedKey)
  | [] => some []
  | d :: ds => (keyN d).bind fun k => (keysN ds).map (k :: ·)
end PL
set_option linter.all false
set_option maxRecDepth 100000
set_option maxHeartbeats 4000000
/-! PL50: the order of nested tuples; a list of them sorted, each once. -/
namespace PL
open PySem PySem.Spec L2 PyProof.Rows PySem.W
mutual
/-- data without bools, lists, places -/
def plainK : D → Bool
  | .int _ => true
  | .str _ => true
  | .tup ds => plainKL ds
  | _ => false
def plainKL : List D → Bool
  | [] => true
  | d :: ds => plainK d && plainKL ds
end
mutual
def dOf : NestedKey → D
  | .none => .non
  | .num i => .int i
  | .text x => .str x
  | .tup ks => .tup (dOfL ks)
def dOfL : List NestedKey → List D
  | [] => []
  | k :: ks => dOf k :: dOfL ks
end
mutual
theorem dOf_nk : ∀ {d : D} {k : NestedKey}, plainK d = true → nkD d = some k → dOf k = d
  | .int i, _, _, e => by unfold nkD at e; cases e; unfold dOf; rfl
  | .str x, _, _, e => by unfold nkD at e; cases e; unfold dOf; rfl
  | .tup ds, _, h, e => by
    unfold nkD at e
    obtain ⟨ks, e1, rfl⟩ := Option.map_eq_some_iff.mp e
    unfold plainK at h
    unfold dOf
    rw [dOf_nkL h e1]
  | .non, _, h, _ => by unfold plainK at h; cases h
  | .bl _, _, h, _ => by unfold plainK at h; cases h
  | .lst _, _, h, _ => by unfold plainK at h; cases h
  | .frz _, _, h, _ => by unfold plainK at h; cases h
  | .ref _, _, h, _ => by unfold plainK at h; cases h
theorem dOf_nkL : ∀ {ds : List D} {ks : List NestedKey}, plainKL ds = true → nkL ds = some ks → dOfL ks = ds
  | [], _, _, e => by unfold nkL at e; cases e; unfold dOfL; rfl
  | d :: ds, _, h, e => by
    unfold nkL at e
    obtain ⟨k, e1, e2⟩ := Option.bind_eq_some_iff.mp e
    obtain ⟨ks, e3, rfl⟩ := Option.map_eq_some_iff.mp e2
    unfold plainKL at h
    rw [Bool.and_eq_true] at h
    unfold dOfL
    rw [dOf_nk h.1 e1, dOf_nkL h.2 e3]
end
section
variable {X : Cx} {pins : List (Addr × Obj)} {σ : L2.St} {H G : Hp} {μ : Mu} {s : Shared}
mutual
theorem reads_nk (I : Inv X pins σ H s) (g : Sub G H) : ∀ {d : D} {v : V} {k : NestedKey} {u : Value}, Rep X.K G μ v d → plainK d = true → nkD d = some k → RelV v u → ∃ as, Reads s.heap u k.data as
  | .int i, _, _, _, .int _, _, e, r => by
    cases e
    obtain ⟨t, rfl⟩ := r
    exact ⟨_, .int _ _⟩
  | .str x, _, _, _, .str _, _, e, r => by
    cases e
    obtain ⟨t, rfl⟩ := r
    exact ⟨_, .str _ _⟩
  | .tup ds, _, _, _, .tup h rr, pl, e, r => by
    unfold nkD at e
    obtain ⟨ks, e1, rfl⟩ := Option.map_eq_some_iff.mp e
    have r' : _ = Value.ref _ := r
    subst r'
    unfold plainK at pl
    obtain ⟨its, rv, ⟨o, ho, hc, n, hd⟩, _⟩ := I.tuple (g.sqT h)
    obtain ⟨as, q⟩ := reads_nks I g rr pl e1 rv
    refine ⟨as, ?_⟩
    unfold NestedKey.data
    exact .tuple ho hc hd (by simpa using q)
  | .non, _, _, _, _, pl, _, _ => by unfold plainK at pl; cases pl
  | .bl _, _, _, _, _, pl, _, _ => by unfold plainK at pl; cases pl
  | .lst ds, _, _, _, _, pl, _, _ => by unfold plainK at pl; cases pl
  | .frz ds, _, _, _, _, pl, _, _ => by unfold plainK at pl; cases pl
  | .ref n, _, _, _, _, pl, _, _ => by unfold plainK at pl; cases pl
theorem reads_nks (I : Inv X pins σ H s) (g : Sub G H) : ∀ {ds : List D} {vs : List V} {ks : List NestedKey} {us : List Value}, RepL X.K G μ vs ds → plainKL ds = true → nkL ds = some ks → Vals vs us → ∃ as, ReadsAll s.heap us (NestedKey.datas ks) as
  | [], _, _, _, .nil, _, e, r => by
    unfold nkL at e
    cases e
    cases r
    exact ⟨_, by unfold NestedKey.datas; exact .nil⟩
  | d :: ds, _, _, _, .cons h t, pl, e, r => by
    unfold nkL at e
    obtain ⟨k, e1, e2⟩ := Option.bind_eq_some_iff.mp e
    obtain ⟨ks, e3, rfl⟩ := Option.map_eq_some_iff.mp e2
    unfold plainKL at pl
    rw [Bool.and_eq_true] at pl
    cases r with
    | cons r1 r2 =>
      obtain ⟨as, q1⟩ := reads_nk I g h pl.1 e1 r1
      obtain ⟨bs, q2⟩ := reads_nks I g t pl.2 e3 r2
      exact ⟨_, by unfold NestedKey.datas; exact .cons q1 q2⟩
end
end
/-! ### the order -/
mutual
theorem depth_data : ∀ k : NestedKey, k.data.depth = k.depth
  | .none => by unfold NestedKey.data NestedKey.depth PyData.depth; rfl
  | .num _ => by unfold NestedKey.data NestedKey.depth PyData.depth; rfl
  | .text _ => by unfold NestedKey.data NestedKey.depth PyData.depth; rfl
  | .tup ks => by
    unfold NestedKey.data NestedKey.depth PyData.depth
    rw [depth_datas ks] <;> omega
theorem depth_datas : ∀ ks : List NestedKey, PyData.depthAll (NestedKey.datas ks) = NestedKey.depthAll ks
  | [] => by unfold NestedKey.datas NestedKey.depthAll PyData.depthAll; rfl
  | k :: ks => by
    unfold NestedKey.datas NestedKey.depthAll PyData.depthAll
    rw [depth_data k, depth_datas ks]
end
mutual
theorem eqv_data : ∀ a b : NestedKey, PyData.eqv a.data b.data = NestedKey.beq a b
  | .none, b => by cases b <;> (simp only [NestedKey.data]; unfold PyData.eqv NestedKey.beq; rfl)
  | .num i, b => by
    cases b with
    | num j =>
      simp only [NestedKey.data]; unfold PyData.eqv NestedKey.beq
      by_cases h : i = j <;> simp [h]
    | _ => simp only [NestedKey.data]; unfold PyData.eqv NestedKey.beq; rfl
  | .text x, b => by
    cases b with
    | text y =>
      simp only [NestedKey.data]; unfold PyData.eqv NestedKey.beq
      by_cases h : x = y <;> simp [h]
    | _ => simp only [NestedKey.data]; unfold PyData.eqv NestedKey.beq; rfl
  | .tup ks, b => by
    cases b with
    | tup ls =>
      simp only [NestedKey.data]; unfold PyData.eqv NestedKey.beq
      exact eqv_datas ks ls
    | _ => simp only [NestedKey.data]; unfold PyData.eqv NestedKey.beq; rfl
theorem eqv_datas : ∀ a b : List NestedKey, PyData.eqvAll (NestedKey.datas a) (NestedKey.datas b) = NestedKey.beqAll a b
  | [], [] => by simp only [NestedKey.datas]; unfold PyData.eqvAll NestedKey.beqAll; rfl
  | [], _ :: _ => by simp only [NestedKey.datas]; unfold PyData.eqvAll NestedKey.beqAll; rfl
  | _ :: _, [] => by simp only [NestedKey.datas]; unfold PyData.eqvAll NestedKey.beqAll; rfl
  | a :: as, b :: bs => by
    simp only [NestedKey.datas]; unfold PyData.eqvAll NestedKey.beqAll
    rw [eqv_data a b, eqv_datas as bs]
end
def ltK (a b : NestedKey) : Bool := PyProof.Rows.lexLt itemOrd (keyToks a.data) (keyToks b.data)
theorem ltK_irrefl (a : NestedKey) : ltK a a = false := lex_irrefl (O := itemOrd) _
theorem ltK_trans {a b c : NestedKey} (h1 : ltK a b = true) (h2 : ltK b c = true) : ltK a c = true := lex_trans (O := itemOrd) _ _ _ h1 h2
theorem toks_inj {a b : NestedKey} (h : alike a.data b.data = true) (e : keyToks a.data = keyToks b.data) : a = b := by
  cases q : PyData.eqv a.data b.data with
  | true => rw [eqv_data] at q; exact NestedKey.eq_of_beq _ _ q
  | false =>
    have z := (toks_eqv _ _ h).2 q [.inl 0] [.inl 1]
    rw [e, lex_pre, lex_irrefl (O := itemOrd)] at z
    exact absurd z (by decide)
theorem ltK_total {a b : NestedKey} (h : alike a.data b.data = true) (h1 : ltK a b = false) (h2 : ltK b a = false) : a = b := toks_inj h (lex_total (O := itemOrd) _ _ h1 h2)
def insK (x : NestedKey) : List NestedKey → List NestedKey
  | [] => [x]
  | y :: ys => if ltK x y = true then x :: y :: ys else if ltK y x = true then y :: insK x ys else y :: ys
def srtK (ks : List NestedKey) : List NestedKey := ks.foldr insK []
def AlikeK (ks : List NestedKey) : Prop := ∀ a ∈ ks, ∀ b ∈ ks, alike a.data b.data = true
theorem mem_insK {x : NestedKey} : ∀ {l : List NestedKey}, (∀ y ∈ l, alike x.data y.data = true) → ∀ k, k ∈ insK x l ↔ k = x ∨ k ∈ l
  | [], _, k => by simp [insK]
  | y :: ys, h, k => by
    unfold insK
    by_cases h1 : ltK x y = true
    · rw [if_pos h1]; simp
    · rw [if_neg h1]
      by_cases h2 : ltK y x = true
      · rw [if_pos h2, List.mem_cons, mem_insK (fun z hz => h z (List.mem_cons_of_mem _ hz)) k, List.mem_cons]
        exact or_left_comm
      · rw [if_neg h2]
        have e : x = y := ltK_total (h y List.mem_cons_self) (by simpa using h1) (by simpa using h2)
        subst e
        simp
theorem pair_insK {x : NestedKey} : ∀ {l : List NestedKey}, (∀ y ∈ l, alike x.data y.data = true) → l.Pairwise (fun a b => ltK a b = true) → (insK x l).Pairwise fun a b => ltK a b = true
  | [], _, _ => by simp [insK]
  | y :: ys, h, p => by
    obtain ⟨h1, h2⟩ := List.pairwise_cons.mp p
    have ht : ∀ z ∈ ys, alike x.data z.data = true := fun z hz => h z (List.mem_cons_of_mem _ hz)
    unfold insK
    by_cases c1 : ltK x y = true
    · rw [if_pos c1]
      refine List.pairwise_cons.mpr ⟨fun z hz => ?_, p⟩
      rcases List.mem_cons.mp hz with rfl | hz
      · exact c1
      · exact ltK_trans c1 (h1 z hz)
    · rw [if_neg c1]
      by_cases c2 : ltK y x = true
      · rw [if_pos c2]
        refine List.pairwise_cons.mpr ⟨fun z hz => ?_, pair_insK ht h2⟩
        rcases (mem_insK ht z).mp hz with rfl | hz
        · exact c2
        · exact h1 z hz
      · rw [if_neg c2]; exact p
theorem srtK_ok : ∀ {ks : List NestedKey}, AlikeK ks → (∀ k, k ∈ srtK ks ↔ k ∈ ks) ∧ (srtK ks).Pairwise fun a b => ltK a b = true
  | [], _ => ⟨fun _ => Iff.rfl, List.Pairwise.nil⟩
  | x :: ks, h => by
    obtain ⟨i1, i2⟩ := srtK_ok (ks := ks) fun a ha b hb => h a (List.mem_cons_of_mem _ ha) b (List.mem_cons_of_mem _ hb)
    have ht : ∀ y ∈ srtK ks, alike x.data y.data = true := fun y hy => h x List.mem_cons_self y (List.mem_cons_of_mem _ ((i1 y).mp hy))
    exact ⟨fun k => by
      show k ∈ insK x (srtK ks) ↔ _
      rw [mem_insK ht, i1, List.mem_cons], pair_insK ht i2⟩
theorem strictK_eq {l m : List NestedKey} (h1 : l.Pairwise fun a b => ltK a b = true) (h2 : m.Pairwise fun a b => ltK a b = true) (h : ∀ k, k ∈ l ↔ k ∈ m) : l = m := by
  have nd : ∀ {l : List NestedKey}, l.Pairwise (fun a b => ltK a b = true) → l.Nodup := fun h => h.imp fun {a b} h e => by subst e; rw [ltK_irrefl] at h; cases h
  refine List.Perm.eq_of_pairwise (le := fun a b => ltK a b = true) (fun a b _ _ x y => ?_) h1 h2 ((List.perm_ext_iff_of_nodup (nd h1) (nd h2)).mpr h)
  have := ltK_trans x y
  rw [ltK_irrefl] at this
  cases this
theorem perm_unmap {α β : Type} (f : α → β) : ∀ (L : List α) (vs : List β), vs.Perm (L.map f) → ∃ L0 : List α, vs = L0.map f ∧ L0.Perm L
  | [], vs, h => ⟨[], by simpa using h, .refl _⟩
  | y :: L, vs, h => by
    have hm : f y ∈ vs := h.mem_iff.mpr (by simp)
    obtain ⟨a, b, rfl⟩ := List.append_of_mem hm
    have h' : (a ++ b).Perm (L.map f) := List.Perm.cons_inv ((List.perm_middle.symm.trans h : (f y :: (a ++ b)).Perm (f y :: L.map f)))
    obtain ⟨L0, e, p⟩ := perm_unmap f L _ h'
    obtain ⟨l1, l2, rfl, e1, e2⟩ := List.map_eq_append_iff.mp e.symm
    exact ⟨l1 ++ y :: l2, by simp [e1, e2], List.perm_middle.trans (p.cons y)⟩
end PL
set_option linter.all false
set_option maxRecDepth 100000
set_option maxHeartbeats 4000000
/-! PL51: set(xs) of a list of nested tuples; sorted of such a set. -/
namespace PL
open PySem PySem.Spec L2 PyProof.Rows PySem.W
section
variable {P : Program} {w : World} {A : Around} {E : Value → Shared → Prop} {s : Shared}
theorem call_set_nkL {l : Addr} {us : Array Value} (ks : List (Addr × NestedKey)) {Q : Value → Shared → Prop} (hh : A.handled = none) (lst : s.heap.IsList l us) (eq : us.toList = ks.map fun y => Value.ref y.1) (mem : ∀ y ∈ ks, NkAt s.heap y.2 y.1)
    (few : ks.length < 64) (hu : A.units + 12 < cLine)
    (q : ∀ (h' : Heap) (tk : Nat) L es ep t, NSet w h' s.heap.objs.size L es ep t → Held ks ks.length L → (∀ b o, s.heap.get? b = some o → h'.get? b = some o) → Q (.ref s.heap.objs.size) { s with heap := h', toks := tk }) :
    wpAny (model P w) A (call (.type "set") [.ref l]) Q E s := by
  have size : us.size = ks.length := by
    have := congrArg List.length eq
    simpa using this
  obtain ⟨_, _, mro⟩ := F.called_set.mro
  have made := F.called_set.made
  have sub := F.called_set.sub
  have notT := F.called_set.notType
  have can := F.called_set.canCreate
  have typed := F.typeCall_set_1 (.ref l)
  refine wpAny_call (codeAny_of_tree (show wpAny _ _ (callAny (.type "set") _) _ _ _ from wpAny_pure ⟨Code.quiet_builtin _ (by decide +kernel), codeAny_builtin F.entry_type_call ?_⟩))
  rw [Around.under_plain (weight_type_call_type "set" [.ref l] []) rfl]
  repeat (any_goals (first | assumption | wp_step))
  refine codeAny_mono (code_set_led1 (.ref l) (E := E) (Q₁ := fun v z => v = .ref s.heap.objs.size ∧ z = { s with heap := s.heap.push (bareSet w) }) ⟨rfl, rfl⟩) fun r z hr => ?_
  rcases r with e | fl
  · exact hr
  cases fl with
  | ret v =>
    obtain ⟨rfl, rfl⟩ := hr
    have here : (s.heap.push (bareSet w)).get? s.heap.objs.size = some (bareSet w) := Heap.get?_push_size _ rfl
    have ty : Shared.TypeIs { s with heap := s.heap.push (bareSet w) } (.ref s.heap.objs.size) "set" := ⟨_, here, rfl⟩
    have li := F.called_set.init.lookup
    have bi := F.called_set.init.bind (.ref s.heap.objs.size)
    repeat (any_goals (first | assumption | wp_step))
    refine codeAny_mono (codeAny_call_builtin (R := wants (fun r z => r = .none ∧ ∃ h' tk L es ep t, z = { s with heap := h', toks := tk } ∧ NSet w h' s.heap.objs.size L es ep t ∧ Held ks ks.length L ∧ ∀ b o, s.heap.get? b = some o → h'.get? b = some o) E)
      F.called_set.init.plain F.entry_set_init (check_set_init_1 ty ?_)) fun r2 z2 hr2 => ?_
    · obtain ⟨⟨oc, odi, oda, osl⟩, ho, hc, n, hd⟩ := lst
      simp only at hc hd
      subst hc
      subst hd
      have got : (s.heap.push (bareSet w)).get? l = some { cls := .type "list", dict := odi, data := .seq us n, slots := osl } := Heap.get?_push_of_some _ ho
      have no1 := F.sub_list_set
      have no2 := F.sub_list_frozenset
      have no3 : (Value.type "list" == Value.type "dict") = false := by decide
      have lst1 : (s.heap.push (bareSet w)).IsList l us := ⟨_, got, rfl, n, rfl⟩
      have ls : l < s.heap.objs.size := Heap.lt_size ho
      have sz : (s.heap.push (bareSet w)).objs.size = s.heap.objs.size + 1 := Heap.size_push ..
      have empty : ∀ b, s.heap.objs.size ≤ b → s.heap.get? b = none := fun b m => by
        rcases e : s.heap.get? b with _ | o
        · rfl
        · exact absurd (Heap.lt_size e) (Nat.not_lt_of_le m)
      unfold Builtin.«set.__init__» noKeywords Builtin.Frozenset.updateFrom
      generalize hit : pyIter = iter
      wp_walk
      subst hit
      refine wpAny_pyIter_list lst1 (wpAny_bind (wpAny_runValue ?_))
      have quiet : A.in1.in1.in1.handled = none := by simp [hh]
      have apart : l ≠ (s.heap.push (bareSet w)).objs.size := fun e => Nat.ne_of_lt (Nat.lt_succ_of_lt ls) (e.trans sz)
      have outS : s.heap.objs.size ∉ [(s.heap.push (bareSet w)).objs.size, l] := fun m => by
        rcases List.mem_cons.mp m with e | m
        · exact Nat.ne_of_lt (Nat.lt_succ_self _) (e.trans sz)
        · exact Nat.ne_of_gt ls (List.mem_singleton.mp m)
      refine fill_loop ((Walks.list quiet _ l apart us).toS) (S := s.heap.objs.size) outS size few (fun i v hv => ?_) mem (empty _ (Nat.le_refl _)) (fun b m => empty b (by rw [List.mem_singleton.mp m, sz]; exact Nat.le_succ _))
        ?room (us.size - 0) 0 _ rfl (Nat.zero_le _) ⟨⟨_, Heap.get?_push_size _ rfl, rfl, rfl⟩, lst1.push _⟩ (fun b o e => Heap.get?_push_of_some _ (Heap.get?_push_of_some _ e)) ⟨[], #[], 0, _, bare_nset (Heap.get?_push_of_some _ here), held_nil⟩ fun s' L es ep t mv R g f => ?_
      case room => show A.units + 1 + 1 + 1 + 8 < cLine; omega
      · have e : us.toList[i]? = some v := by rw [Array.getElem?_toList]; exact hv
        rw [eq, List.getElem?_map] at e
        obtain ⟨y, e1, e2⟩ := Option.map_eq_some_iff.mp e
        exact ⟨y, e1, e2.symm⟩
      · obtain ⟨h', g2, d', tk', os'⟩ := s'
        have e1 : g2 = s.gens := mv.gens
        have e2 : d' = s.drawn := mv.drawn
        have e3 : os' = s.os := mv.os
        subst e1 e2 e3
        refine show wpAny _ _ _ _ _ _ from wpAny_pure (show wpAny _ _ (ret Value.none) _ _ _ from ?_)
        rw [size] at g
        exact wpAny_pure ⟨rfl, h', tk', L, es, ep, t, rfl, R, g, f⟩
    · rcases r2 with e | fl2
      · exact hr2
      cases fl2 with
      | ret v =>
        obtain ⟨rfl, h', tk, L, es, ep, t, rfl, R, g, f⟩ := hr2
        repeat (any_goals (first | assumption | wp_step))
        exact q _ _ _ _ _ _ R g f
      | _ => exact hr2.elim
  | _ => exact hr.elim
/-- sorted of such a set -/
theorem sorted_nset {a : Addr} {L : List (Addr × NestedKey)} {es : Array (Int × Value)} {ep : Nat} {t : SetTable} {Q : Value → Shared → Prop} (R : NSet w s.heap a L es ep t) (hh : A.handled = none)
    (rd : ∀ y ∈ L, ∃ as, Reads s.heap (.ref y.1) y.2.data as) (hal : AlikeK (L.map (·.2))) (hk : ∀ y ∈ L, ∃ x r, y.2 = .tup (x :: r)) (hu : A.units + 12 < cLine)
    (hQ : ∀ (s' : Shared) (p : Addr) (c : Nat) (L' : List (Addr × NestedKey)), (∀ b o, s.heap.get? b = some o → s'.heap.get? b = some o) → s'.gens = s.gens → s'.os = s.os → s.heap.objs.size ≤ p → s'.heap.get? p = some (seqObj "list" (L'.map fun y : Addr × NestedKey => Value.ref y.1).toArray c) → L'.Perm L → (L'.map (·.2)).Pairwise (fun a b => ltK a b = true) → Q (.ref p) s') :
    wpAny (model P w) A (call (.builtin "sorted") [.ref a]) Q E s := by
  obtain ⟨o, ho, hex, hd⟩ := R.ob
  have few := R.few
  have ln := R.len
  refine Calls.call_function_entry kind_sorted plain_sorted entry_sorted (args_sorted1 _) ?_
  unfold Builtin.«sorted»
  refine wpAny_bind (m := checkCount "sorted" 1 1 _) (wpAny_pure (wpAny_bind (collect_set (A := A.in1) hh ⟨o, ho, hex.1, hd⟩ R.fit (by unfold scanBound; omega) R.tab.ris R.led fun s1 vs k1 hz g1 o1 pm => ?_)))
  have pm2 : vs.Perm (L.map fun y => Value.ref y.1) := by
    have e : es.toList.map (·.2) = L.map fun y => Value.ref y.1 := by
      rw [R.rows]; unfold nkRows; rw [List.map_map]; rfl
    rw [← e]; exact pm
  obtain ⟨L0, rfl, pL⟩ := perm_unmap _ L vs pm2
  have l0 : L0.length = L.length := pL.length_eq
  refine wpAny_bind (wpAny_newList ?_ (by rw [List.length_map, sizeLine_eq]; omega))
  have hoL : (s1.heap.push (seqObj "list" (L0.map fun y => Value.ref y.1).toArray 0)).get? s1.heap.objs.size = some (seqObj "list" (L0.map fun y => Value.ref y.1).toArray 0) := Heap.get?_push_size _ rfl
  have sub : ∀ y ∈ L0, y ∈ L := fun y m => pL.mem_iff.mp m
  have halL : AllAlike (L0.map fun y => y.2.data) := fun d hd d' hd' => by
    obtain ⟨y, hy, rfl⟩ := List.mem_map.mp hd
    obtain ⟨z, hz, rfl⟩ := List.mem_map.mp hd'
    exact hal _ (List.mem_map_of_mem (sub y hy)) _ (List.mem_map_of_mem (sub z hz))
  have old : ∀ b u, s.heap.get? b = some u → (sortingHeap (s1.heap.push (seqObj "list" (L0.map fun y => Value.ref y.1).toArray 0)) s1.heap.objs.size (L0.map fun y => Value.ref y.1)).get? b = some u := fun b u e => by
    have q := k1 b u e
    exact sortingHeap_old (Nat.ne_of_lt (Heap.lt_size q)) (Heap.get?_push_of_some _ q)
  have eR : EachIs (fun v (y : Addr × NestedKey) => v = Value.ref y.1) (L0.map fun y => Value.ref y.1) L0 := by
    clear pm2 pm pL l0 hoL sub halL old
    induction L0 with
    | nil => exact .nil
    | cons y L0 ih => exact .cons rfl ih
  have er : EachIs (fun v (y : Addr × NestedKey) => ∃ as, Reads (sortingHeap (s1.heap.push (seqObj "list" (L0.map fun y => Value.ref y.1).toArray 0)) s1.heap.objs.size (L0.map fun y => Value.ref y.1)) v y.2.data as) (L0.map fun y => Value.ref y.1) L0 :=
    (each_mem eR).mono fun v y ⟨e, m⟩ => by
      obtain ⟨as, q⟩ := rd y (sub y m)
      exact ⟨as, by rw [e]; exact PyProof.Rows.Reads.keeps old q⟩
  have S : SortsAt P w A.in1.in1 { s1 with heap := sortingHeap (s1.heap.push (seqObj "list" (L0.map fun y => Value.ref y.1).toArray 0)) s1.heap.objs.size (L0.map fun y => Value.ref y.1) }
      (dataKind (sortingHeap (s1.heap.push (seqObj "list" (L0.map fun y => Value.ref y.1).toArray 0)) s1.heap.objs.size (L0.map fun y => Value.ref y.1)) (L0.map fun y => y.2.data)) (L0.map fun y => Value.ref y.1) :=
    SortsAt.data (s := { s1 with heap := sortingHeap (s1.heap.push (seqObj "list" (L0.map fun y => Value.ref y.1).toArray 0)) s1.heap.objs.size (L0.map fun y => Value.ref y.1) })
      (each_map (R := fun v d => ∃ as, Reads _ v d as) (fun y : Addr × NestedKey => y.2.data) er) halL (.inl fun d hd => by
        obtain ⟨y, hy, rfl⟩ := List.mem_map.mp hd
        obtain ⟨x, r, e⟩ := hk y (sub y hy)
        exact ⟨x.data, NestedKey.datas r, by rw [e]; simp only [NestedKey.data, NestedKey.datas]⟩) fun d hd => by
        obtain ⟨y, hy, rfl⟩ := List.mem_map.mp hd
        have := (R.mem y (sub y hy)).2
        rw [depth_data]
        show A.units + 1 + 1 + _ < cLine
        omega
  refine wpAny_bind (wpAny_holding (wpAny_call_entry slot_list_sort ⟨_, hoL, rfl⟩ entry_list_sort (list_sort_vals hoL S (by rw [List.length_map, sizeLine_eq]; omega) ⟨_, rfl, ?_⟩) (args_list_sort _)))
  obtain ⟨c, hc⟩ := sortedHeap_at (vs := L0.map fun y => Value.ref y.1) (out := (sortVals (dataKind (sortingHeap (s1.heap.push (seqObj "list" (L0.map fun y => Value.ref y.1).toArray 0)) s1.heap.objs.size (L0.map fun y => Value.ref y.1)) (L0.map fun y => y.2.data)) false (L0.map fun y => Value.ref y.1) (L0.map fun y => Value.ref y.1)).toArray) hoL
  have out := sortVals_data (enc := fun y : Addr × NestedKey => y.2.data) false eR er halL
  have oe : sortVals (dataKind (sortingHeap (s1.heap.push (seqObj "list" (L0.map fun y => Value.ref y.1).toArray 0)) s1.heap.objs.size (L0.map fun y => Value.ref y.1)) (L0.map fun y => y.2.data)) false (L0.map fun y => Value.ref y.1) (L0.map fun y => Value.ref y.1) = (L0.mergeSort (dataLe false fun y : Addr × NestedKey => y.2.data)).map fun y => Value.ref y.1 := by
    generalize sortVals _ _ _ _ = x at out
    generalize L0.mergeSort _ = L1 at out
    clear hc
    induction out with
    | nil => rfl
    | cons h _ ih => rw [h, ih]; rfl
  have hc := hc.trans (congrArg (fun z => some (seqObj "list" (List.toArray z) c)) oe)
  have pL' : (L0.mergeSort (dataLe false fun y : Addr × NestedKey => y.2.data)).Perm L := (List.mergeSort_perm _ _).trans pL
  have so := sort_pairwise (sortLe_total (listOrd itemOrd) false fun y : Addr × NestedKey => keyToks y.2.data) L0
  refine wpAny_pure ⟨_, rfl, hQ _ s1.heap.objs.size c _ (fun b u e => ?_) g1 o1 hz hc pL' ?_⟩
  · have q := k1 b u e
    have lt := Heap.lt_size q
    show (sortedHeap (s1.heap.push (seqObj "list" _ 0)) s1.heap.objs.size _ _).get? b = some u
    rw [sortedHeap_old (Nat.ne_of_lt lt) (by rw [size_push']; exact Nat.lt_succ_of_lt lt)]
    exact Heap.get?_push_of_some _ q
  · have nd : ((L0.mergeSort (dataLe false fun y : Addr × NestedKey => y.2.data)).map (·.2)).Nodup := (pL'.map (·.2)).nodup_iff.mpr R.once
    have al : ∀ y ∈ L0.mergeSort (dataLe false fun y : Addr × NestedKey => y.2.data), y ∈ L := fun y m => pL'.mem_iff.mp m
    have so' : (L0.mergeSort (dataLe false fun y : Addr × NestedKey => y.2.data)).Pairwise fun y z => dataLe false (fun y : Addr × NestedKey => y.2.data) y z = true := so
    clear hc oe out so
    revert nd al so'
    generalize L0.mergeSort (dataLe false fun y : Addr × NestedKey => y.2.data) = L1
    intro nd al so'
    rw [List.pairwise_map]
    have both := List.Pairwise.and so' (List.pairwise_map.mp nd)
    refine both.imp_of_mem fun {y z} my mz ⟨h1, h2⟩ => ?_
    have h3 : (!ltK z.2 y.2) = true := h1
    rw [Bool.not_eq_true'] at h3
    cases q : ltK y.2 z.2 with
    | true => rfl
    | false => exact absurd (ltK_total (hal _ (List.mem_map_of_mem (al y my)) _ (List.mem_map_of_mem (al z mz))) q h3) h2
end
end PL
set_option linter.all false
set_option maxRecDepth 100000
set_option maxHeartbeats 4000000
/-! PL52: sorted(set(xs)) of a list of nested tuples. -/
namespace PL
open PySem PySem.Spec L2 PyProof.Rows PySem.W
def alikeB (ks : List NestedKey) : Bool := ks.all fun a => ks.all fun b => alike a.data b.data
def neK : NestedKey → Bool
  | .tup (_ :: _) => true
  | _ => false
def ssetN (d : D) : M D := match d with
  | .lst ds => (opt (keysN ds)).bind fun ks => guardM (decide (ks.length < 64) && (plainKL ds && (alikeB ks && ks.all neK))) (M.pure (.lst ((srtK ks).map dOf)))
  | _ => M.bad
theorem alikeB_ok {ks : List NestedKey} (h : alikeB ks = true) : AlikeK ks := fun a ha b hb => List.all_eq_true.mp (List.all_eq_true.mp h a ha) b hb
theorem vals_refs : ∀ L : List (Addr × NestedKey), Vals (L.map fun y => V.ref y.1) (L.map fun y => Value.ref y.1)
  | [] => .nil
  | _ :: L => .cons rfl (vals_refs L)
theorem repL_refs {K : PySem.W.Frag} {G : Hp} {μ : Mu} : ∀ L : List (Addr × NestedKey), (∀ y ∈ L, Rep K G μ (.ref y.1) (dOf y.2)) → RepL K G μ (L.map fun y => V.ref y.1) ((L.map (·.2)).map dOf)
  | [], _ => .nil
  | y :: L, h => .cons (h y List.mem_cons_self) (repL_refs L fun z hz => h z (List.mem_cons_of_mem _ hz))
section
variable {X : Cx} {E : XK} {H0 : Hp} {pins : List (Addr × Obj)} {σ : L2.St} {H G : Hp} {μ : Mu} {s : Shared} {a : Expr} {f : En → M D} {p p2 q pos : Pos}
theorem refs_data (I : Inv X pins σ H s) (g : Sub G H) : ∀ {ds : List D} {vs : List V} {ks : List NestedKey} {us : List Value}, RepL X.K G μ vs ds → plainKL ds = true → keysN ds = some ks → Vals vs us →
    ∃ ys : List (Addr × NestedKey), us = ys.map (fun y => Value.ref y.1) ∧ ys.map (·.2) = ks ∧ ∀ y ∈ ys, NkAt s.heap y.2 y.1 ∧ (∃ as, Reads s.heap (.ref y.1) y.2.data as) ∧ Rep X.K G μ (.ref y.1) (dOf y.2)
  | [], _, _, _, .nil, _, e, r => by
    cases e
    cases r
    exact ⟨[], rfl, rfl, fun _ m => nomatch m⟩
  | d :: ds, _, _, _, .cons h t, pl, e, r => by
    obtain ⟨k, e1, e⟩ := Option.bind_eq_some_iff.mp e
    obtain ⟨ks, e2, rfl⟩ := Option.map_eq_some_iff.mp e
    unfold plainKL at pl
    rw [Bool.and_eq_true] at pl
    cases r with
    | cons r1 r2 =>
      obtain ⟨ys, y1, y2, y3⟩ := refs_data I g t pl.2 e2 r2
      obtain ⟨b, rfl⟩ := rep_key_ref h e1
      obtain ⟨_, n1, n2⟩ := keyN_tup e1
      obtain rfl : _ = Value.ref b := r1
      refine ⟨(b, k) :: ys, by rw [List.map_cons, y1], by rw [List.map_cons, y2], fun y m => ?_⟩
      rcases List.mem_cons.mp m with rfl | m
      · exact ⟨⟨rep_nk I g h n1 rfl, n2⟩, reads_nk I g h pl.1 n1 rfl, by rw [dOf_nk pl.1 n1]; exact h⟩
      · exact y3 y m
theorem je_ssetN (hc : X.calm = true) (hu : X.A.units + 65 < cLine) (hg : Gl X "sorted") (hm : X.mg "sorted" = none) (hg2 : Gl X "set") (hm2 : X.mg "set" = none) (ha : JB X E H0 f a)
    (na : starEach [a] X.env = (false, eval a X.env) :: starEach [] X.env := by rfl) : JE X E H0 (e1 ssetN f) (.Call (.Name "sorted" p) [.Call (.Name "set" p2) [a] [] q] [] pos) := by
  refine ⟨fun pins s σ H Q I ⟨G, μ, st, ρ, w, er, k⟩ => ?_⟩
  refine Call_ (ld_blt I hg hm (by decide +kernel : bootBuiltins "sorted" = some (.builtin "sorted")) (callWith_builtin1 (args_cons ?_ rfl) rfl rfl))
  refine Call_ (ld_blt I hg2 hm2 boot_set ?_)
  refine callWith_type1 (args_cons (thn (ha.run pins s σ H (fun x H1 => ∃ G1 μ1 st1 dx, Wd X.w X.K H1 G1 μ1 st1 ∧ BSt X.K H1 G1 μ1 x dx ∧ Post X.w X.K X.mg E (rRep X.K) H1 G1 μ1 (ssetN dx st1) Q) I
    ⟨G, μ, st, ρ, w, er, Post.bind k fun dx st1 x H1 G1 μ1 w1 s1 r1 k1 => ⟨G1, μ1, st1, dx, w1, r1, k1⟩⟩) fun v s1 ⟨x, H1, I1, rx, G1, μ1, st1, dx, w1, r1, k1⟩ => args_nil ?_) na) na rfl
  cases dx with
  | lst ds =>
    obtain ⟨l, vs, rfl, hl, rr⟩ := r1.weak.lst w1.imm
    obtain ⟨ks, hk, k1⟩ := Post.opt k1
    obtain ⟨c, k1⟩ := Post.guard k1
    simp only [Bool.and_eq_true] at c
    obtain ⟨lt, pl, al, ne⟩ := c
    have lt := of_decide_eq_true lt
    have al := alikeB_ok al
    obtain rfl : v = Value.ref l := rx
    obtain ⟨us, rv, lst, _⟩ := I1.list (.inl (.inl hl))
    obtain ⟨ys, y1, y2, y3⟩ := refs_data I1 w1.imm rr pl hk rv
    have ylen : ys.length = ks.length := by rw [← y2, List.length_map]
    refine call_set_nkL ys (I1.ok.hd hc) lst.isList (by simpa using y1) (fun y m => (y3 y m).1) (by omega) (by omega) fun h' tk L es ep t R g keep => args_nil ?_
    have I2 : Inv X pins σ H1 { s1 with heap := h', toks := tk } := I1.kept fun b o e => keep b o e
    have inY : ∀ y ∈ L, y ∈ ys := fun y m => List.mem_of_mem_take (g.only y m)
    have inK : ∀ y ∈ L, y.2 ∈ ks := fun y m => by rw [← y2]; exact List.mem_map_of_mem (inY y m)
    refine sorted_nset (s := { s1 with heap := h', toks := tk }) R (I1.ok.hd hc) (fun y m => ?_) (fun a ha b hb => ?_) (fun y m => ?_) (by omega) fun s' p c L' k2 gg oo hp hgp pm pw => ?_
    · obtain ⟨as, z⟩ := (y3 y (inY y m)).2.1
      exact ⟨as, PyProof.Rows.Reads.keeps keep z⟩
    · obtain ⟨y, my, rfl⟩ := List.mem_map.mp ha
      obtain ⟨z, mz, rfl⟩ := List.mem_map.mp hb
      exact al _ (inK y my) _ (inK z mz)
    · have z := List.all_eq_true.mp ne _ (inK y m)
      revert z
      generalize y.2 = k0
      intro z
      match k0, z with
      | .tup (x :: r), _ => exact ⟨x, r, rfl⟩
      | .tup [], z => cases z
      | .none, z => cases z
      | .num _, z => cases z
      | .text _, z => cases z
    · have few := R.few
      have hlen : (L'.map fun y : Addr × NestedKey => V.ref y.1).length ≤ sizeLine := by rw [List.length_map, pm.length_eq, sizeLine_eq]; omega
      have hn : H1 p = none := I2.hok.fresh hp
      have J : Inv X pins σ (upd H1 p (.lst (L'.map fun y : Addr × NestedKey => V.ref y.1))) { s1 with heap := s'.heap, gens := s'.gens, drawn := s'.drawn, toks := s'.toks } :=
        L2.Inv.call (s := { s1 with heap := h', toks := tk }) I2 (ch := []) (Un.laid k2 hp hn) (I2.hok.laid k2 hp ⟨hlen, L'.map fun y : Addr × NestedKey => Value.ref y.1, c, vals_refs L', hgp⟩) (by rw [gg]; exact I2.bare) (fun _ z => nomatch z)
      have e : s' = { s1 with heap := s'.heap, gens := s'.gens, drawn := s'.drawn, toks := s'.toks } := by
        cases s'; cases s1; cases oo; rfl
      rw [e]
      obtain ⟨w3, s3⟩ := w1.new (o := .lst (L'.map fun y : Addr × NestedKey => V.ref y.1)) hn
      have same : L'.map (·.2) = srtK ks := by
        obtain ⟨q1, q2⟩ := srtK_ok al
        refine strictK_eq pw q2 fun k => ?_
        rw [q1]
        constructor
        · intro m
          obtain ⟨y, my, rfl⟩ := List.mem_map.mp m
          exact inK y (pm.mem_iff.mp my)
        · intro m
          rw [← y2] at m
          obtain ⟨y, my, rfl⟩ := List.mem_map.mp m
          have := g.each y (by rw [List.take_length]; exact my)
          rw [(pm.map (·.2)).mem_iff]; exact this
      have rr2 : RepL X.K G1 μ1 (L'.map fun y : Addr × NestedKey => V.ref y.1) ((srtK ks).map dOf) := by
        rw [← same]
        exact repL_refs L' fun y my => (y3 y (inY y (pm.mem_iff.mp my))).2.2
      exact ⟨.ref p, _, J, rfl, k1 _ _ _ _ w3 s3 (.lst upd_same (rr2.mono s3.g s3.m))⟩
  | _ => exact k1.elim
end
end PL
set_option linter.all false
set_option maxRecDepth 100000
set_option maxHeartbeats 4000000
/-! PL53: words of a text, find, abs; lists of the store by any expression: append, remove, slices; try whose body raises nothing. -/
namespace PL
open PySem PySem.Spec L2 PyProof.Rows
def wordsM : D → M D
  | .str y => guardM (decide (y.length + 2 ≤ sizeLine)) (M.pure (.lst ((Txt.words y).map D.str)))
  | _ => M.bad
def findM (a : Str) (y : D) : M D := match y with
  | .str b => M.pure (.int (Txt.find a b))
  | _ => M.bad
def absM : D → M D
  | .int i => M.pure (.int (if i < 0 then -i else i))
  | _ => M.bad
section
variable {X : Cx} {E : XK} {H0 : Hp} {e a b c o i : Expr} {f g h : En → M D} {pos p p0 apos : Pos} {Φ : Ent} {wW : World}
theorem je_words (ho : JB X E H0 f o) (hbase : attributeBase o "split" X.env (eval o X.env) = eval o X.env := by rfl) (hline : (apos.endLine == pos.line) = true := by rfl) : JE X E H0 (e1 wordsM f) (.Call (.Attribute o "split" apos) [] [] pos) := by
  refine PE.imp (pe_words ho hbase hline) fun σ H Q ⟨G, μ, st, ρ, w, er, q⟩ => ⟨G, μ, st, ρ, w, er, Post.bind q fun d st1 x H1 G1 μ1 w1 s1 r1 q1 => ?_⟩
  cases d with
  | str y =>
    have q1' : Post X.w X.K X.mg E (rRep X.K) H1 G1 μ1 (guardM (decide (y.length + 2 ≤ sizeLine)) (M.pure (.lst ((Txt.words y).map D.str))) st1) Q := q1
    obtain ⟨c, q1⟩ := Post.guard q1'
    cases r1.weak.str
    refine ⟨⟨_, rfl⟩, _, rfl, rfl, of_decide_eq_true c, fun p hp => ?_⟩
    obtain ⟨w2, s2⟩ := w1.new (o := .lst ((Txt.words y).map V.str)) hp
    exact q1 _ _ _ _ w2 s2 (.lst upd_same (rep_strs _))
  | _ => exact q1.elim
theorem je_find (hf : JB X E H0 f a) (hg : JB X E H0 g b) (hs : starEach [b] X.env = [(false, eval b X.env)] := by rfl) (hbase : attributeBase a "find" X.env (eval a X.env) = eval a X.env := by rfl) (hline : (apos.endLine == pos.line) = true := by rfl) :
    JE X E H0 (eM1 findM f g) (.Call (.Attribute a "find" apos) [b] [] pos) := PE.imp (pe_m1 PySem.F.slot_str_find PySem.F.type_str_find mt_find hf hg hs hbase hline) (se_m1 fun H G μ st s y dy Q w ry k => by
  cases dy with
  | str z =>
    cases ry.str
    exact ⟨s, z, rfl, rfl, k _ _ _ _ w .refl (.int _)⟩
  | _ => exact k.elim)
theorem c_abs : C1J X E (fun xs H Q => ∃ i, xs = [.int i] ∧ Q (.int (if i < 0 then -i else i)) H) absM := fun H G μ st x dx Q w rx h => by
  cases dx with
  | int i =>
    cases rx.int
    exact ⟨i, rfl, h _ _ _ _ w .refl (.int _)⟩
  | _ => exact h.elim
/-! ### a list of the store, told by any expression -/
def sAppE (fo f : En → M D) : En → M (Fl × En) := fun ρ => (fo ρ).bind fun d => (opt (refD d)).bind fun n => (lstAt n).bind fun _ => (f ρ).bind fun v => (lstAt n).bind fun ds => (appK ds v).bind fun es => (setAt n (.lst es)).bind fun _ => M.pure (.nx, ρ)
theorem Rep.refL {K : PySem.W.Frag} {H G : Hp} {μ : Mu} {st : Sto} {v : V} {d : D} {n : Nat} {ds : List D} (r : Rep K G μ v d) (hn : refD d = some n) (w : Wd wW K H G μ st) (hs : st[n]? = some (.lst ds)) : ∃ l vs, v = .ref l ∧ μ n = some l ∧ H l = some (.lst vs) ∧ RepL K G μ vs ds := by
  cases d with
  | ref m => cases hn; exact r.lstAt w hs
  | _ => cases hn
theorem js_appE {p2 pc ps : Pos} (ho : JE X E Φ.H f o) (he : JE X E Φ.H g e)
    (hb : ∀ {to : TE} {t : TA}, PE X o to → PA X [e] t → PE X (.Call (.Attribute o "append" p2) [e] [] pc) (tBM X.K "list" rAppend to t)) (ha : starEach [e] X.env = (false, eval e X.env) :: starEach [] X.env := by rfl)
    (hs : swapsWith (.Call (.Attribute o "append" p2) [e] [] pc) none ps.line X.env = pure false := by rfl) : JS X E Φ (sAppE f g) (.Expr (.Call (.Attribute o "append" p2) [e] [] pc) ps) := by
  refine PS.imp (ps_expr (hb ho (pa_one he ha)) hs) fun Dn σ H ⟨G, μ, st, ρ, w, er, s, q⟩ => ?_
  refine ⟨G, μ, st, ρ, w, er, q.bind s fun d st1 v H1 G1 μ1 w1 s1 t1 r1 q1 => ?_⟩
  obtain ⟨n, hn, q1⟩ := PostS.opt q1
  obtain ⟨ds0, hs0, q1⟩ := q1.lstAt
  obtain ⟨l, vs, rfl, hm, hl, _⟩ := r1.refL hn w1 hs0
  refine ⟨.inl ⟨rfl, _, .inl (.inl hl)⟩, G1, μ1, st1, ρ, w1, er.step s1, q1.bind t1 fun d2 st2 v2 H2 G2 μ2 w2 s2 t2 r2 q2 => ?_⟩
  obtain ⟨ds, hs2, q2⟩ := q2.lstAt
  unfold appK at q2
  rw [M.bind_assoc] at q2
  obtain ⟨hz, q2⟩ := q2.line
  obtain ⟨l', vs', e1, hm1, hl1, r3⟩ := (r1.mono s2.g s2.m).refL hn w2 hs2
  cases e1
  exact ⟨_, vs', v2, rfl, rfl, hl1, by rw [RepL.length r3]; omega, lput_end w2 ((er.step s1).step s2) t2 hs2 hm1 q2 _ (r3.append (.cons r2 .nil))⟩
/-! #### remove, of texts -/
def eqkS (k : Str) (v : Value) : Bool := match v with
  | .str n _ => decide (n = k)
  | _ => false
theorem eqkS_gives {k : Str} {t : Tok} : ∀ {us : List Value} {ns : List Str}, StrsAre us ns → ∀ y ∈ us, MeetsSeq.EqGives y (.str k t) (eqkS k y)
  | _, _, .nil => fun y hy => by cases hy
  | _, _, .cons n t' h => fun y hy => by
    rcases List.mem_cons.mp hy with e | e
    · rw [e]
      exact fun _ _ _ _ _ _ h => wpAny_eqBool_str h
    · exact eqkS_gives h y e
theorem erase_mapS : ∀ (l : List Str) (j : Nat), (l.map V.str).eraseIdx j = (l.eraseIdx j).map V.str
  | [], j => by simp
  | a :: r, 0 => by simp
  | a :: r, j + 1 => by
    have ih := erase_mapS r j
    simp [ih]
theorem first_atS : ∀ {ns : List Str} {k : Str}, k ∈ ns → ∃ j : Nat, ns[j]? = some k ∧ (∀ m : Nat, m < j → ns[m]? ≠ some k) ∧ ns.eraseIdx j = ns.erase k
  | [], k, h => absurd h (by simp)
  | a :: r, k, h => by
    by_cases e : a = k
    · exact ⟨0, by rw [e]; rfl, fun i hi => absurd hi (Nat.not_lt_zero _), by rw [e, List.erase_cons_head]; rfl⟩
    · have hr : k ∈ r := by
        rcases List.mem_cons.mp h with z | z
        · exact absurd z.symm e
        · exact z
      obtain ⟨j, h2, h3, h4⟩ := first_atS hr
      refine ⟨j + 1, h2, fun i hi => ?_, ?_⟩
      · cases i with
        | zero => intro z; exact e (Option.some.inj z)
        | succ i => exact h3 i (Nat.lt_of_succ_lt_succ hi)
      · rw [List.erase_cons_tail (by simpa using e), ← h4] <;> rfl
def rRemS : V → List V → Hp → VK → Prop := fun x xs H Q => ∃ (l : Addr) (ns : List Str) (k : Str), x = .ref l ∧ xs = [.str k] ∧ H l = some (.lst (ns.map V.str)) ∧ k ∈ ns ∧ Q .non (upd H l (.lst ((ns.erase k).map V.str)))
theorem mt_removeS : MtM X "list.remove" rRemS := by
  intro pins s σ H x xs v us Q I rx rxs h
  obtain ⟨l, ns, k, rfl, rfl, hH, hk, q⟩ := h
  obtain ⟨j, hj, hno, he⟩ := first_atS hk
  rw [← he] at q
  cases rx
  obtain ⟨u, rfl, ru⟩ := rxs.one
  obtain ⟨t, rfl⟩ := ru
  obtain ⟨z, its, n, r, hl, e⟩ := I.lstM hH
  have hi := r.strs
  rw [List.length_map] at hl z
  have hjn : j < ns.length := (List.getElem?_eq_some_iff.mp hj).1
  have hjl : j < its.toArray.size := by rw [List.size_toArray]; omega
  refine call_meets PySem.F.slot_list_remove ⟨_, e, rfl⟩ PySem.F.entry_list_remove (PySem.F.args_list_remove_2 _ _)
    (MeetsSeq.list_remove l its.toArray n (.str k t) (eqkS k) (fun y hy => eqkS_gives hi y (by simpa using hy)) j hjl ?_ ?_ (by rw [List.size_toArray]; omega)) ⟨e, ?_⟩
  · obtain ⟨tj, hjt⟩ := txts_at hi j _ (List.getElem?_eq_getElem (by simpa using hjl))
    have e1 : its.toArray[j] = .str (ns.getD j Str.empty) tj := by simpa using hjt
    rw [e1, List.getD_eq_getElem?_getD, hj]
    exact decide_eq_true rfl
  · intro m hm hmj
    have hmn : m < ns.length := by omega
    obtain ⟨tm, hmt⟩ := txts_at hi m _ (List.getElem?_eq_getElem (by simpa using hm))
    have e1 : its.toArray[m] = .str (ns.getD m Str.empty) tm := by simpa using hmt
    rw [e1, List.getD_eq_getElem?_getD, List.getElem?_eq_getElem hmn]
    refine decide_eq_false fun e2 => hno m hmj ?_
    rw [List.getElem?_eq_getElem hmn]
    exact congrArg some e2
  · have rr := r.eraseIdx j
    rw [erase_mapS] at rr
    refine ⟨.non, _, I.lset (its' := its.eraseIdx j) (t' := s.toks) hH e ?_ rr ?_, rfl, q⟩
    · show its.toArray.eraseIdxIfInBounds j = (its.eraseIdx j).toArray
      rw [List.eraseIdxIfInBounds_toArray]
    · have z2 := len_erase ns j
      rw [List.length_map]
      omega
def remK (ds : List D) : D → M (List D)
  | .str k => (opt (strsD ds)).bind fun xs => guardM (decide (k ∈ xs)) (M.pure ((xs.erase k).map D.str))
  | _ => M.bad
def sRemE (fo f : En → M D) : En → M (Fl × En) := fun ρ => (fo ρ).bind fun d => (opt (refD d)).bind fun n => (lstAt n).bind fun _ => (f ρ).bind fun v => (lstAt n).bind fun ds => (remK ds v).bind fun es => (setAt n (.lst es)).bind fun _ => M.pure (.nx, ρ)
theorem js_remE {p2 pc ps : Pos} (ho : JE X E Φ.H f o) (he : JE X E Φ.H g e)
    (hb : ∀ {to : TE} {t : TA}, PE X o to → PA X [e] t → PE X (.Call (.Attribute o "remove" p2) [e] [] pc) (tBM X.K "list" rRemS to t)) (ha : starEach [e] X.env = (false, eval e X.env) :: starEach [] X.env := by rfl)
    (hs : swapsWith (.Call (.Attribute o "remove" p2) [e] [] pc) none ps.line X.env = pure false := by rfl) : JS X E Φ (sRemE f g) (.Expr (.Call (.Attribute o "remove" p2) [e] [] pc) ps) := by
  refine PS.imp (ps_expr (hb ho (pa_one he ha)) hs) fun Dn σ H ⟨G, μ, st, ρ, w, er, s, q⟩ => ?_
  refine ⟨G, μ, st, ρ, w, er, q.bind s fun d st1 v H1 G1 μ1 w1 s1 t1 r1 q1 => ?_⟩
  obtain ⟨n, hn, q1⟩ := PostS.opt q1
  obtain ⟨ds0, hs0, q1⟩ := q1.lstAt
  obtain ⟨l, vs, rfl, hm, hl, _⟩ := r1.refL hn w1 hs0
  refine ⟨.inl ⟨rfl, _, .inl (.inl hl)⟩, G1, μ1, st1, ρ, w1, er.step s1, q1.bind t1 fun d2 st2 v2 H2 G2 μ2 w2 s2 t2 r2 q2 => ?_⟩
  obtain ⟨ds, hs2, q2⟩ := q2.lstAt
  obtain ⟨l', vs', e1, hm1, hl1, r3⟩ := (r1.mono s2.g s2.m).refL hn w2 hs2
  cases e1
  cases d2 with
  | str k =>
    have q2' : PostS X E Φ Dn (((opt (strsD ds)).bind fun xs => guardM (decide (k ∈ xs)) (M.pure ((xs.erase k).map D.str))).bind (fun es => (setAt n (.lst es)).bind fun _ => M.pure (.nx, ρ)) st2) := q2
    rw [M.bind_assoc] at q2'
    obtain ⟨xs, hx, q2⟩ := PostS.opt q2'
    by_cases hc : k ∈ xs
    · have q3 : PostS X E Φ Dn ((setAt n (.lst ((xs.erase k).map D.str))).bind (fun _ => M.pure (.nx, ρ)) st2) := by
        have := q2
        simp only [guardM, hc, decide_true, if_true] at this
        exact this
      have e := strs_rep r3 hx
      subst e
      cases r2
      exact ⟨_, xs, k, rfl, rfl, hl1, hc, lput_end w2 ((er.step s1).step s2) t2 hs2 hm1 q3 _ (rep_strs _)⟩
    · have : False := by
        have := q2
        simp only [guardM, hc, decide_false] at this
        exact this
      exact this.elim
  | _ => exact q2.elim
/-! #### slices -/
def eSlR (f : En → M D) (lo hi : En → M (Option Int)) : En → M D := fun ρ => (f ρ).bind fun x => (lo ρ).bind fun l => (hi ρ).bind fun h => (opt (refD x)).bind fun n => (lstAt n).bind fun ds => M.pure (.lst (cutD ds l h))
theorem je_sliceR {lo hi : Option Expr} {fl fh : En → M (Option Int)} {p2 : Pos} (ha : JE X E H0 f e) (hl : JO X E H0 fl lo) (hh : JO X E H0 fh hi) : JE X E H0 (eSlR f fl fh) (.Subscript e (.Slice lo hi none p2) pos) := by
  refine PE.imp (pe_slice sl_list ha hl hh) fun σ H Q ⟨G, μ, st, ρ, w, er, q⟩ => ?_
  refine ⟨G, μ, st, ρ, w, er, Post.bind q fun dx st1 x H1 G1 μ1 w1 s1 r1 q1 => ?_⟩
  refine ⟨G1, μ1, st1, ρ, w1, er.step s1, Post.bind q1 fun l st2 l' H2 G2 μ2 w2 s2 r2 q2 => ?_⟩
  refine ⟨G2, μ2, st2, ρ, w2, (er.step s1).step s2, Post.bind q2 fun u st3 u' H3 G3 μ3 w3 s3 r3 q3 => ?_⟩
  cases r2
  cases r3
  obtain ⟨n, hn, q3⟩ := Post.opt q3
  obtain ⟨ds, hs, q3⟩ := Post.lstAt q3
  obtain ⟨a, vs, rfl, hm, hl, r⟩ := ((r1.mono s2.g s2.m).mono s3.g s3.m).refL hn w3 hs
  refine ⟨a, vs, rfl, .inl (.inl hl), fun p hp => ?_⟩
  obtain ⟨w4, s4⟩ := w3.new (o := .lst (cutV vs l u)) hp
  exact q3 _ _ _ _ w4 s4 (.lst upd_same ((r.cut l u).mono s4.g s4.m))
/-! ### try whose body raises nothing -/
def sThru (f : En → M (Fl × En)) : En → M (Fl × En) := fun ρ st => match f ρ st with
  | .ok a s => .ok a s
  | .err _ _ => .bad
  | .bad => .bad
theorem js_thru {f : En → M (Fl × En)} {body : List Stmt} {h0 : ExceptHandler} {hs : List ExceptHandler} (hb : JSs X.nox xNo Φ f body) : JS X E Φ (sThru f) (.Try body (h0 :: hs) [] [] pos) := by
  refine PS.imp (ps_try_thru0 hb) fun Dn σ H ⟨G, μ, st, ρ, w, er, s, q⟩ => ⟨G, μ, st, ρ, w, er, s, ?_⟩
  unfold sThru at q
  cases e : f ρ st with
  | ok a s' => rw [e] at q; exact q
  | err x s' => rw [e] at q; exact q.elim
  | bad => rw [e] at q; exact q.elim
end
end PL
set_option linter.all false
set_option maxRecDepth 100000
set_option maxHeartbeats 4000000
/-! PL54: a comprehension's list into the store. -/
namespace PL
open PySem PySem.Spec L2
theorem js_newLc {X : Cx} {E : XK} {Φ : Ent} {it : En → M (List D)} {pt : Pt} {tt : En → M Bool} {te : En → M D} {elt tg iter : Expr} {ifs : List Expr} {scope : Scope} {own : List (Str × Nat)} {pos : Pos} {i : Nat} {y : Str} {py spos : Pos} (hc : X.calm = true) (hN : X.N.Nodup) (hy : X.N[i]? = some y) (hyl : X.env.scope.names.lookup y = some .local)
    (hsw : swapsWith (.ListComp elt [⟨tg, iter, ifs, 0⟩] scope pos) (some (.Name y py)) spos.line X.env = pure true) (hi : JI X E Φ.H tg it iter) (ok : BlkOk X.N X.env.scope scope own) (hv : ∀ i ∈ pt.slots, i ∈ own.map (·.2))
    (hg : ∀ (s : Shared) (H : Hp) (C : Addr) (cl : List (Str × Addr)) (fp : List Addr), PG (X.blk s H scope (compEnvC scope cl C X.env) fp) tg (pt.g X.K))
    (ht : ∀ (s : Shared) (H : Hp) (C : Addr) (cl : List (Str × Addr)) (fp : List Addr), JTs (X.blk s H scope (compEnvC scope cl C X.env) fp) xNo Φ.H tt ifs)
    (he : ∀ (s : Shared) (H : Hp) (C : Addr) (cl : List (Str × Addr)) (fp : List Addr), JE (X.blk s H scope (compEnvC scope cl C X.env) fp) xNo Φ.H te elt) (hs : ∀ x, foldedSetIterable iter X.env x = pure x := by intro _; rfl) :
    JS X E Φ (sSet i (eNew (eLc it pt (own.map (·.2)) tt te))) (.Assign [.Name y py] (.ListComp elt [⟨tg, iter, ifs, 0⟩] scope pos) spos) := by
  refine PS.imp (ps_setLc (tt := Se X xNo Φ.H rTrue tt) (te := Se X xNo Φ.H (rRep X.K) te) hc hN hy hyl hsw hi ok hg ht he hs) fun Dn σ H ⟨G, μ, st, ρ, w, er, s, p⟩ => ?_
  have p' : PostS X E Φ Dn (((eLc it pt (own.map (·.2)) tt te ρ).bind fun ds => (newOb (.lst ds)).bind fun d => put i (.val d) ρ) st) := by
    have e : sSet i (eNew (eLc it pt (own.map (·.2)) tt te)) ρ = (eLc it pt (own.map (·.2)) tt te ρ).bind fun ds => (newOb (.lst ds)).bind fun d => put i (.val d) ρ := M.bind_assoc _ _ _
    rw [← e]; exact p
  refine lc_read hv _ _ _ ⟨G, μ, st, ρ, w, er, p'.bind s fun ds st' v H' G' μ' w' s' t' r q => ?_⟩
  obtain ⟨a, vs, rfl, h1, h2, h3, h4, h5⟩ := r
  have hx : OR X.w X.K G' (muAdd μ' st'.length a) (upd H' a (.lst vs)) a (.lst ds) := ⟨vs, upd_same, h2.mono (fun _ _ h => h) fun n b h => by
    have := w'.dom n b h
    unfold muAdd; rw [if_neg (by omega)]; exact h⟩
  have eH : upd H' a (.lst vs) = H' := by
    funext b
    by_cases hb : b = a
    · subst hb; rw [upd_same, h1]
    · rw [upd_ne hb]
  have w2 := w'.adopt (o := .lst vs) h3 h4 hx
  have s2 := s'.adopt (o := .lst vs) w' h5
  have t2 := t'.adopt (o := .lst vs) w' (none_before s.th h5)
  rw [eH] at w2 s2 t2
  exact put_val q w2 (er.step s2) t2 (.ref (by unfold muAdd; rw [if_pos rfl]))
end PL
set_option linter.all false
set_option maxRecDepth 100000
set_option maxHeartbeats 4000000
/-! PL55: name = {.. for ..} on one line. -/
namespace PL
open PySem PySem.Spec L2 PyProof.Rows
section
variable {X : Cx} {E : XK} {Φ : Ent}
theorem ps_setDc {i : Nat} {y : Str} {py : Pos} {kx vx tg iter : Expr} {ifs : List Expr} {scope : Scope} {own : List (Str × Nat)} {pos spos : Pos} {wi : TI} {g : TG} {tt : TT} {tk tv : TE} (hc : X.calm = true) (hN : X.N.Nodup) (hy : X.N[i]? = some y) (hyl : X.env.scope.names.lookup y = some .local)
    (hsw : swapsWith (.DictComp kx vx [⟨tg, iter, ifs, 0⟩] scope pos) (some (.Name y py)) spos.line X.env = pure true) (hi : PI X tg iter wi) (ok : BlkOk X.N X.env.scope scope own)
    (hg : ∀ (s : Shared) (H : Hp) (C : Addr) (cl : List (Str × Addr)) (fp : List Addr), PG (X.blk s H scope (compEnvC scope cl C X.env) fp) tg g) (ht : ∀ (s : Shared) (H : Hp) (C : Addr) (cl : List (Str × Addr)) (fp : List Addr), PTs (X.blk s H scope (compEnvC scope cl C X.env) fp) ifs tt)
    (hk : ∀ (s : Shared) (H : Hp) (C : Addr) (cl : List (Str × Addr)) (fp : List Addr), PE (X.blk s H scope (compEnvC scope cl C X.env) fp) kx tk)
    (he : ∀ (s : Shared) (H : Hp) (C : Addr) (cl : List (Str × Addr)) (fp : List Addr), PE (X.blk s H scope (compEnvC scope cl C X.env) fp) vx tv) (hs : ∀ x, foldedSetIterable iter X.env x = pure x := by intro _; rfl) :
    PS X (.Assign [.Name y py] (.DictComp kx vx [⟨tg, iter, ifs, 0⟩] scope pos) spos) (tAsg (tDc wi g tt tk tv (own.map (·.2))) (gName i)) := by
  refine ⟨fun pins s σ H D I h => ?_⟩
  rw [exec_Assign_Name_used _ _ _ _ hsw]
  refine wpAny_bind (wpAny_standAt (wpAny_bind ?_))
  show wpAny _ X.A (do let _ ← comprehension (.DictComp kx vx [⟨tg, iter, ifs, 0⟩] scope pos) scope X.env (firstIterPos [⟨tg, iter, ifs, 0⟩] pos) newDict false (eval iter X.env) (some (assign (.Name y py) X.env))) _ _ s
  have h : tDc wi g tt tk tv (own.map (·.2)) σ H (fun x H1 => gName i x σ H1 D.nx) := h
  refine wpAny_bind (thn (dc_core (Qf := fun _ s' => SP X pins D .next s') hc hN I hi ok hg ht hk he hs h fun L C s' m H' I' q hn f => ?_) fun _ s' hq => wpAny_pure (wpAny_pure hq))
  show wpAny _ _ (assign (.Name y py) X.env (.ref L)) _ _ _
  refine wpAny_assign_Name (store_ok2 (v := V.ref L) I' hN hy (.inl hyl) rfl (fun s2 I2 ⟨a, sb, ha⟩ => ?_) (.inr hyl))
  obtain ⟨f0, f1, f2, f3, f4, f5⟩ := f
  have haC : C ≠ a := by
    rcases ha with z | z
    · rw [z]; exact f1
    · exact fun e => f4 y a z e.symm
  refine ⟨m, hn.sameBut sb haC, fun h3 sb3 => ?_⟩
  exact ⟨_, H', I2.turned (t' := s2.toks) (fun b o hb e => (sb3.2 b hb).trans e) f0 f1 f3 f4 f5, q⟩
theorem sw_trueD {kx vx : Expr} {gs : List Comprehension} {scope : Scope} {pos py : Pos} {y : Str} {l : Nat} {env : Env} (hk : env.scope.kind = .function) (hy : env.scope.names.lookup y = some .local) (hl : (py.line == pos.line) = true)
    (ha : (scope.names.any fun (n, k) => n == y && (k == .local || k == .cell)) = false) : swapsWith (.DictComp kx vx gs scope pos) (some (.Name y py)) l env = pure true := by
  have ky : env.kindOf y = some .local := hy
  have hb : env.blockKind = .function := by unfold Env.blockKind; rw [hk]; rfl
  unfold swapsWith
  simp only [hb, ky, ha, Expr.pos, hl]
  rfl
variable {it : En → M (List D)} {pt : Pt} {tt : En → M Bool} {tk tv : En → M D} {kx vx tg iter : Expr} {ifs : List Expr} {scope : Scope} {own : List (Str × Nat)} {pos : Pos}
theorem js_setDc {i : Nat} {y : Str} {py spos : Pos} (hc : X.calm = true) (hN : X.N.Nodup) (hy : X.N[i]? = some y) (hyl : X.env.scope.names.lookup y = some .local)
    (hsw : swapsWith (.DictComp kx vx [⟨tg, iter, ifs, 0⟩] scope pos) (some (.Name y py)) spos.line X.env = pure true) (hi : JI X E Φ.H tg it iter) (ok : BlkOk X.N X.env.scope scope own) (hv : ∀ i ∈ pt.slots, i ∈ own.map (·.2))
    (hg : ∀ (s : Shared) (H : Hp) (C : Addr) (cl : List (Str × Addr)) (fp : List Addr), PG (X.blk s H scope (compEnvC scope cl C X.env) fp) tg (pt.g X.K))
    (ht : ∀ (s : Shared) (H : Hp) (C : Addr) (cl : List (Str × Addr)) (fp : List Addr), JTs (X.blk s H scope (compEnvC scope cl C X.env) fp) xNo Φ.H tt ifs)
    (hk : ∀ (s : Shared) (H : Hp) (C : Addr) (cl : List (Str × Addr)) (fp : List Addr), JE (X.blk s H scope (compEnvC scope cl C X.env) fp) xNo Φ.H tk kx)
    (he : ∀ (s : Shared) (H : Hp) (C : Addr) (cl : List (Str × Addr)) (fp : List Addr), JE (X.blk s H scope (compEnvC scope cl C X.env) fp) xNo Φ.H tv vx) (hs : ∀ x, foldedSetIterable iter X.env x = pure x := by intro _; rfl) :
    JS X E Φ (sSet i (eDc it pt (own.map (·.2)) tt tk tv)) (.Assign [.Name y py] (.DictComp kx vx [⟨tg, iter, ifs, 0⟩] scope pos) spos) := by
  refine PS.imp (ps_setDc (tt := Se X xNo Φ.H rTrue tt) (tk := Se X xNo Φ.H (rRep X.K) tk) (tv := Se X xNo Φ.H (rRep X.K) tv) hc hN hy hyl hsw hi ok hg ht hk he hs) fun Dn σ H ⟨G, μ, st, ρ, w, er, s, p⟩ => ?_
  exact dc_read hv _ _ _ ⟨G, μ, st, ρ, w, er, p.bind s fun d st' v H' G' μ' w' s' t' r q => put_val q w' (er.step s') t' r⟩
end
end PL
set_option linter.all false
set_option maxRecDepth 100000
set_option maxHeartbeats 4000000
/-! PL56: zip of two tuples. -/
namespace PL
open PySem PySem.Spec L2 RZ
def zipD (xs ys : List D) : List D := (xs.zip ys).map fun p => D.tup [p.1, p.2]
theorem zipD_len (xs ys : List D) : (zipD xs ys).length = min xs.length ys.length := by unfold zipD; rw [List.length_map, List.length_zip]
def iZipS (g : En → M (List D)) : En → M (List D) := fun ρ => (g ρ).bind fun ds => match ds with
  | [.tup xs, .tup ys] => (line (min xs.length ys.length)).bind fun _ => M.pure (zipD xs ys)
  | _ => M.bad
section
variable {wW : World}
theorem itz_ok {K : PySem.W.Frag} {G : Hp} {μ : Mu} {a b : Addr} {vs ws : List V} {ds es : List D} (hl : SqT K G a vs) (hl2 : SqT K G b ws) (r : RepL K G μ vs ds) (r2 : RepL K G μ ws es) (hz : min ds.length es.length ≤ sizeLine) : ItR wW K G μ (ItzT K a b) (zipD ds es) := by
  refine ⟨by rw [zipD_len]; exact hz, fun H1 G1 μ1 st1 w sg sm => ⟨fun i hi => ?_, fun i hi => ?_⟩⟩
  · rw [zipD_len] at hi
    have h1 : SqT K H1 a vs := (sg.trans w.imm).sqT hl
    have h2 : SqT K H1 b ws := (sg.trans w.imm).sqT hl2
    have hd : i < ds.length := by omega
    have he : i < es.length := by omega
    obtain ⟨v, hv, rv⟩ := r.get (List.getElem?_eq_getElem hd)
    obtain ⟨u, hu, ru⟩ := r2.get (List.getElem?_eq_getElem he)
    refine ⟨⟨vs, ws, v, u, h1, h2, hv, hu⟩, fun x H2 ⟨T, y, z, ex, hT, eH, hy, hz⟩ => ?_⟩
    subst ex eH
    have ey : y = v := Option.some.inj ((hy vs h1).symm.trans hv)
    have ez : z = u := Option.some.inj ((hz ws h2).symm.trans hu)
    subst ey ez
    obtain ⟨w2, s2⟩ := w.new (o := .tup [y, z]) hT
    refine ⟨_, w2, s2, D.tup [ds[i], es[i]], ?_, ?_⟩
    · unfold zipD
      rw [List.getElem?_map, List.getElem?_eq_getElem (by rw [List.length_zip]; omega), List.getElem_zip]; rfl
    · exact .tup (.inl (.inl upd_same)) (.cons ((rv.mono sg sm).mono s2.g s2.m) (.cons ((ru.mono sg sm).mono s2.g s2.m) .nil))
  · rw [zipD_len] at hi
    refine ⟨vs, ws, (sg.trans w.imm).sqT hl, (sg.trans w.imm).sqT hl2, ?_⟩
    rw [RepL.length r, RepL.length r2]
    omega
end
section
variable {X : Cx} {E : XK} {H0 : Hp} {ga : En → M (List D)} {a b : Expr} {p pos : Pos}
theorem ji_zipS {elts : List Expr} {kk : Nat} {tpos : Pos} (hg : Gl X "zip") (hm : X.mg "zip" = none) (ha : JA X E H0 ga [a, b]) (hs : starEach [a, b] X.env = (false, eval a X.env) :: starEach [b] X.env := by rfl) (hpl : (backTo pos (starEach [b] X.env)).any (·.1) = false := by rfl) :
    JI X E H0 (.Tuple elts kk tpos) (iZipS ga) (.Call (.Name "zip" p) [a, b] [] pos) := by
  refine PI.imp (pi_zipA hg hm ha hs hpl) fun σ H R ⟨G, μ, st, ρ, w, er, q⟩ => ?_
  refine ⟨G, μ, st, ρ, w, er, Post.raw q fun ds st1 vs H1 G1 μ1 w1 s1 r1 q1 => ?_⟩
  cases r1 with
  | nil => exact q1.elim
  | cons h t =>
    cases t with
    | nil => cases h <;> exact q1.elim
    | cons h2 t2 =>
      cases t2 with
      | cons _ _ => cases h <;> cases h2 <;> exact q1.elim
      | nil =>
        cases h with
        | tup h1 rr =>
          cases h2 with
          | tup h3 rr2 =>
            obtain ⟨c, q1⟩ := Post.line (X := X) q1
            exact ⟨_, _, _, _, rfl, .inr ⟨w1.imm.sqT h1, w1.imm.sqT h3, q1 _ _ _ _ w1 s1 (itz_ok h1 h3 rr rr2 c)⟩⟩
          | _ => exact q1.elim
        | _ => cases h2 <;> exact q1.elim
end
end PL
set_option linter.all false
set_option maxRecDepth 100000
set_option maxHeartbeats 4000000
/-! PL57: how often a text stands in a list of texts. -/
namespace PL
open PySem PySem.Spec L2 PyProof.Rows
/-- a comprehension's scope, as it stands within a def -/
def relS (s d : Scope) : Scope := { kind := s.kind, names := s.names.map fun x => match x with | (n, k) => if (k == NameKind.free && d.kind == ScopeKind.function && d.names.lookup n == some NameKind.cell) = true then (n, NameKind.cell) else (n, k), isGenerator := s.isGenerator, isCoroutine := s.isCoroutine, more := s.more }
/-- the scope of the comprehension in a returned call: the i-th row of a def -/
def retScope (s : Stmt) (i : Nat) : Scope := match (defBody s)[i]? with
  | some (.Return (some (.Call _ [.ListComp _ _ sc _] _ _)) _) => relS sc (defScope s)
  | _ => defScope s
def cntM (ds : List D) : D → M D
  | .str k => (opt (strsD ds)).bind fun xs => M.pure (.int ((xs.count k : Nat) : Int))
  | _ => M.bad
def eCnt (f g : En → M D) : En → M D := fun ρ => (f ρ).bind fun x => match x with
  | .lst ds => (g ρ).bind fun y => cntM ds y
  | _ => M.bad
section
variable {X : Cx} {E : XK} {H0 : Hp} {o e : Expr} {f g : En → M D} {pos p2 : Pos}
def rCntS (K : PySem.W.Frag) : V → List V → Hp → VK → Prop := fun x xs H Q => ∃ (p : Addr) (ns : List Str) (k : Str), x = .ref p ∧ xs = [.str k] ∧ SqL K H p (ns.map V.str) ∧ Q (.int (ns.count k : Nat)) H
theorem eqkS_count {k : Str} : ∀ {us : List Value} {ns : List Str}, StrsAre us ns → us.countP (eqkS k) = ns.count k
  | _, _, .nil => rfl
  | _, _, .cons n t' h => by
    rw [List.countP_cons, List.count_cons, eqkS_count h]
    congr 1
theorem mt_countS : MtR X "list.count" (rCntS X.K) := by
  intro pins s σ H x xs v us Q I rx rxs h
  obtain ⟨p, ns, k, rfl, rfl, hs, q⟩ := h
  cases rx
  obtain ⟨u, rfl, ru⟩ := rxs.one
  obtain ⟨t, rfl⟩ := ru
  obtain ⟨its, rv, ⟨⟨cls, dd, data, sl⟩, n, ho, hc, hdn, hd⟩, hlen⟩ := I.list hs
  simp only at hc hd
  subst hc hd
  have hi := rv.strs
  refine call_meets PySem.F.slot_list_count ⟨_, ho, rfl⟩ PySem.F.entry_list_count (PySem.F.args_list_count_2 _ _)
    (SeqAt.list_countAt p its.toArray n dd sl (.str k t) (eqkS k)) ⟨ho, fun y hy => (eqkS_gives hi y (by simpa using hy)).at _ _, ?_⟩
  have ec : its.toArray.toList.countP (eqkS k) = ns.count k := eqkS_count hi
  refine ⟨.int (ns.count k : Nat), H, I.tok _, ⟨s.toks, ?_⟩, q⟩
  show Value.int ((its.toArray.toList.countP (eqkS k) : Nat) : Int) s.toks = Value.int ((ns.count k : Nat) : Int) s.toks
  rw [ec]
theorem je_count (ho : JE X E H0 f o) (he : JE X E H0 g e)
    (hb : ∀ {to : TE} {t : TA}, PE X o to → PA X [e] t → PE X (.Call (.Attribute o "count" p2) [e] [] pos) (tBM X.K "list" (rCntS X.K) to t)) (ha : starEach [e] X.env = (false, eval e X.env) :: starEach [] X.env := by rfl) :
    JE X E H0 (eCnt f g) (.Call (.Attribute o "count" p2) [e] [] pos) := by
  refine PE.imp (hb ho (pa_one he ha)) fun σ H Q ⟨G, μ, st, ρ, w, er, q⟩ => ⟨G, μ, st, ρ, w, er, Post.bind q fun d st1 x H1 G1 μ1 w1 s1 r1 q1 => ?_⟩
  cases r1 with
  | @lst a vs ds h1 rr =>
    refine ⟨.inl ⟨rfl, _, w1.imm.sqL (.inl (.inl h1))⟩, G1, μ1, st1, ρ, w1, er.step s1, Post.bind q1 fun d2 st2 y H2 G2 μ2 w2 s2 r2 q2 => ?_⟩
    cases r2 with
    | str k =>
      obtain ⟨xs, hx, q2⟩ := Post.opt q2
      have e := strs_rep rr hx
      subst e
      exact ⟨_, xs, k, rfl, rfl, (s2.g.trans w2.imm).sqL (.inl (.inl h1)), q2 _ _ _ _ w2 .refl (.int _)⟩
    | _ => exact q2.elim
  | _ => exact q1.elim
end
end PL
set_option linter.all false
set_option maxRecDepth 100000
set_option maxHeartbeats 6000000
/-! PL58: sorted(set(xs)) of a tuple of texts. -/
namespace PL
section
open PySem PySem.Spec PyProof.Rows L2
variable {prog : Program} {w : World} {A : Around} {E : Value → Shared → Prop} {s : Shared}
theorem set_of_txtsT {l : Addr} {zs : Array Value} (ks : List Str) {Q : Value → Shared → Prop} (hA : A.handled = none) (hL : s.heap.IsTuple l zs) (hz : StrsAre zs.toList ks) (bd : ks.length + 1 < scanBound)
    (fin : ∀ (hp : Heap) (tk c0 : Nat), SetT prog w hp s.heap.objs.size (fun j => decide (j ∈ ks)) c0 → c0 ≤ ks.length → (∀ x1 o, s.heap.get? x1 = some o → hp.get? x1 = some o) → Q (.ref s.heap.objs.size) { s with heap := hp, toks := tk }) :
    wpAny (model prog w) A (call (.type "set") [.ref l]) Q E s := by
  have sz0 : zs.size = ks.length := by
    have q := StrsAre.length hz
    rw [Array.length_toList] at q
    exact q
  obtain ⟨c0, tl, m0⟩ := F.called_set.mro
  have m1 := F.called_set.made
  have m2 := F.called_set.sub
  refine wpAny_call (codeAny_of_tree ?_)
  show wpAny _ _ (callAny (.type "set") _) _ _ _
  refine wpAny_pure ⟨Code.quiet_builtin _ (by decide +kernel), codeAny_builtin F.entry_type_call ?_⟩
  rw [Around.under_plain (weight_type_call_type "set" [.ref l] []) rfl]
  have m3 := F.called_set.notType
  have m4 := F.called_set.canCreate
  have m5 := F.typeCall_set_1 (.ref l)
  repeat (any_goals (first | assumption | wp_step))

  refine codeAny_mono (code_set_led1 (.ref l) (E := E) (Q₁ := fun ob s1 => ob = .ref s.heap.objs.size ∧ s1 = { s with heap := s.heap.push { cls := .type "set", dict := none, data := .set #[] 0 (.fresh 0 0 (!w.params.followText "set-order")) } }) ⟨rfl, rfl⟩) fun r s1 hr => ?_
  cases r with
  | error e => exact hr
  | ok fl =>
    cases fl with
    | ret ob =>
      obtain ⟨rfl, rfl⟩ := hr
      have gS : (s.heap.push { cls := .type "set", dict := none, data := .set #[] 0 (.fresh 0 0 (!w.params.followText "set-order")) }).get? s.heap.objs.size = some { cls := .type "set", dict := none, data := .set #[] 0 (.fresh 0 0 (!w.params.followText "set-order")) } := Heap.get?_push_size _ rfl
      have tS : Shared.TypeIs { s with heap := s.heap.push { cls := .type "set", dict := none, data := .set #[] 0 (.fresh 0 0 (!w.params.followText "set-order")) } } (.ref s.heap.objs.size) "set" := ⟨_, gS, rfl⟩
      have m6 := F.called_set.init.lookup
      have m7 := F.called_set.init.bind (.ref s.heap.objs.size)
      repeat (any_goals (first | assumption | wp_step))

      refine codeAny_mono (codeAny_call_builtin (R := wants (fun r s2 => r = .none ∧ ∃ hp tk c0, s2 = { s with heap := hp, toks := tk } ∧ SetT prog w hp s.heap.objs.size (fun j => decide (j ∈ ks)) c0 ∧ c0 ≤ ks.length ∧
          (∀ x1 o, s.heap.get? x1 = some o → hp.get? x1 = some o)) E) F.called_set.init.plain F.entry_set_init (check_set_init_1 tS ?_)) fun r2 s2 hr2 => ?_
      · obtain ⟨o1, go, gc, n1, gd⟩ := hL
        obtain ⟨oc, od, oa, os1⟩ := o1
        simp only at gc gd
        subst gc; subst gd
        have go2 : (s.heap.push { cls := .type "set", dict := none, data := .set #[] 0 (.fresh 0 0 (!w.params.followText "set-order")) }).get? l = some { cls := .type "tuple", dict := od, data := .seq zs n1, slots := os1 } := Heap.get?_push_of_some _ go
        have m8 := F.sub_tuple_set
        have m9 := F.sub_tuple_frozenset
        have mA : (Value.type "tuple" == Value.type "dict") = false := by decide
        have gl1 : (s.heap.push { cls := .type "set", dict := none, data := .set #[] 0 (.fresh 0 0 (!w.params.followText "set-order")) }).IsTuple l zs := ⟨_, go2, rfl, n1, rfl⟩
        unfold Builtin.«set.__init__» noKeywords Builtin.Frozenset.updateFrom
        generalize gP : pyIter = PI
        wp_walk
        subst gP

        refine wpAny_pyIter_tuple gl1 ?_
        refine wpAny_bind (wpAny_runValue ?_)
        have lS : l < s.heap.objs.size := Heap.lt_size go
        have mB : A.in1.in1.in1.handled = none := by simp [hA]
        have mC : (s.heap.push { cls := .type "set", dict := none, data := .set #[] 0 (.fresh 0 0 (!w.params.followText "set-order")) }).objs.size = s.heap.objs.size + 1 := Heap.size_push ..
        have mD : l ≠ (s.heap.push { cls := .type "set", dict := none, data := .set #[] 0 (.fresh 0 0 (!w.params.followText "set-order")) }).objs.size := by
          rw [Heap.size_push]; exact Nat.ne_of_lt (Nat.lt_succ_of_lt lS)
        have mE : s.heap.objs.size ∉ [(s.heap.push { cls := .type "set", dict := none, data := .set #[] 0 (.fresh 0 0 (!w.params.followText "set-order")) }).objs.size, l] := by
          rw [Heap.size_push]; simp only [List.mem_cons, List.mem_singleton, List.not_mem_nil, or_false, not_or]
          exact ⟨Nat.ne_of_lt (Nat.lt_succ_self _), Nat.ne_of_gt lS⟩
        have gv : ∀ (i : Nat) (v : Value), zs[i]? = some v → ∃ k t, ks[i]? = some k ∧ v = .str k t := fun i v hv => by
          have hi : i < ks.length := by rw [← sz0]; exact (Array.getElem?_eq_some_iff.mp hv).1
          obtain ⟨t, e⟩ := txts_at hz i v (by rw [Array.getElem?_toList]; exact hv)
          refine ⟨ks[i], t, List.getElem?_eq_getElem hi, ?_⟩
          rw [e, List.getD_eq_getElem?_getD, List.getElem?_eq_getElem hi] <;> rfl
        refine set_update_txts ((Walks.tuple mB _ l mD zs).toS) s.heap.objs.size
          mE ks sz0 bd gv (zs.size - 0) 0 _ (by omega) (Nat.zero_le _)
          ⟨⟨_, Heap.get?_push_size _ rfl, rfl, rfl⟩, (gl1.push _)⟩ ?hS0 ?hR
        case hS0 =>
          have gg : ((s.heap.push { cls := .type "set", dict := none, data := .set #[] 0 (.fresh 0 0 (!w.params.followText "set-order")) }).push { cls := .type "tuple_iterator", data := .fields #[.ref l, .int 0 0] }).get? s.heap.objs.size
              = some { cls := .type "set", dict := none, data := .set #[] 0 (.fresh 0 0 (!w.params.followText "set-order")) } := Heap.get?_push_of_some _ gS
          exact ⟨0, Nat.le_refl 0, setT_new gg⟩
        case hR =>
          intro s3 c3 mv lc2 gS2
          obtain ⟨hp, g3, d3, t3, o3⟩ := s3
          have e1 : g3 = s.gens := mv.gens
          have e2 : d3 = s.drawn := mv.drawn
          have e3 : o3 = s.os := mv.os
          subst e1; subst e2; subst e3
          show wpAny _ _ _ _ _ _
          refine wpAny_pure ?_
          show wpAny _ _ (ret Value.none) _ _ _
          rw [sz0] at lc2
          refine wpAny_pure ⟨rfl, hp, t3, c3, rfl, gS2, lc2, fun x1 o e => ?_⟩
          have b0 : x1 < s.heap.objs.size := Heap.lt_size e
          have b1 : x1 ≠ s.heap.objs.size := Nat.ne_of_lt b0
          have b2 : x1 ≠ (s.heap.push { cls := .type "set", dict := none, data := .set #[] 0 (.fresh 0 0 (!w.params.followText "set-order")) }).objs.size := by
            rw [Heap.size_push]; exact Nat.ne_of_lt (Nat.lt_succ_of_lt b0)
          exact mv.heap x1 o (by simp only [List.mem_cons, List.mem_singleton, List.not_mem_nil, or_false, not_or]; exact ⟨b1, b2⟩) (Heap.get?_push_of_some _ (Heap.get?_push_of_some _ e))

      · cases r2 with
        | error e => exact hr2
        | ok fl2 =>
          cases fl2 with
          | ret r =>
            obtain ⟨rfl, hp, tk, c3, rfl, gS2, lc2, kp2⟩ := hr2
            repeat (any_goals (first | assumption | wp_step))
            exact fin _ _ _ gS2 lc2 kp2
          | _ => exact hr2.elim
    | _ => exact hr.elim
end
section
open PySem PySem.Spec L2
/-- sorted(set(x)), x a list or a tuple -/
def ssetB (d : D) : M D := match d with
  | .tup ds => guardM (decide (ds.length < 64)) ((opt (strsD ds)).bind fun xs => M.pure (.lst ((uniqS xs).map D.str)))
  | d => ssetA d
section
variable {X : Cx} {E : XK} {H0 : Hp} {a : Expr} {f : En → M D} {pos p p2 q : Pos}
def rSetU (K : PySem.W.Frag) (P : Program) (w : World) : List V → Hp → VK → Prop := fun xs H Q => ∃ (p : Addr) (ns : List Str), xs = [V.ref p] ∧ SqT K H p (ns.map V.str) ∧ ns.length < 64 ∧ ∀ (l : Addr) (c : Nat), H l = none → c ≤ ns.length → Q (.ref l) (upd H l (SetTO P w l (fun j => decide (j ∈ ns)) c))
theorem bst_tup {wW : World} {K : PySem.W.Frag} {H G : Hp} {μ : Mu} {st : Sto} {v : V} {ds : List D} (w : Wd wW K H G μ st) (r : BSt K H G μ v (.tup ds)) : ∃ l vs, v = .ref l ∧ SqT K H l vs ∧ RepL K G μ vs ds := by
  rcases r with r | ⟨_, _, _, _, e, _⟩
  · cases r with
    | tup h rr => exact ⟨_, _, rfl, w.imm.sqT h, rr⟩
  · cases e
theorem cr_setU (hc : X.calm = true) : CallR X (.type "set") (rSetU X.K X.prog X.w) := by
  intro pins s σ H vs us Q I r h
  obtain ⟨l, ns, rfl, hs, h64, k⟩ := h
  obtain ⟨its, rv, hl, _⟩ := I.tuple hs
  rw [Vals.ref1 r]
  refine set_of_txtsT ns (I.ok.hd hc) hl (by simpa using rv.strs) (by unfold scanBound; omega) fun h' tk c R hcn kp => ?_
  exact ⟨.ref _, upd H s.heap.objs.size (SetTO X.prog X.w s.heap.objs.size (fun j => decide (j ∈ ns)) c), I.laid (t' := tk) kp (Nat.le_refl _) (setTO_new R), rfl, k _ c (I.hok.fresh (Nat.le_refl _)) hcn⟩
theorem je_sset3 (hc : X.calm = true) (hg : Gl X "sorted") (hm : X.mg "sorted" = none) (hg2 : Gl X "set") (hm2 : X.mg "set" = none) (ha : JB X E H0 f a)
    (hs : starEach [a] X.env = (false, eval a X.env) :: starEach [] X.env := by rfl) (hs2 : starEach [.Call (.Name "set" p2) [a] [] q] X.env = (false, eval (.Call (.Name "set" p2) [a] [] q) X.env) :: starEach [] X.env := by rfl) :
    JE X E H0 (e1 ssetB f) (.Call (.Name "sorted" p) [.Call (.Name "set" p2) [a] [] q] [] pos) := by
  refine PE.imp (pe_callB ((cr_sortedSet hc).or (cr_sortT hc)) hg hm (by decide +kernel) (pa_one (pe_callTy ((cr_setI hc).or ((cr_setT hc).or (cr_setU hc))) hg2 hm2 (by decide +kernel) (pa_one ha hs) (by decide) (by decide) hs rfl) hs2) (by decide) (by decide) hs2 rfl) fun σ H Q ⟨G, μ, st, ρ, w, er, k⟩ => ?_
  refine ⟨G, μ, st, ρ, w, er, Post.bind k fun d st1 x H1 G1 μ1 w1 s1 r1 k1 => ?_⟩
  cases d with
  | lst ds =>
    have k1' : Post X.w X.K X.mg E (rRep X.K) H1 G1 μ1 ((guardM (decide (ds.length < 64)) (match intsD ds with
      | some ns => M.pure (.lst ((uniqI ns).map D.int))
      | none => (opt (strsD ds)).bind fun xs => M.pure (.lst ((uniqS xs).map D.str)))) st1) Q := k1
    obtain ⟨c, k1⟩ := Post.guard k1'
    have c := of_decide_eq_true c
    obtain ⟨l, vs, rfl, hl, r⟩ := r1.weak.lst w1.imm
    cases hi : intsD ds with
    | some ns =>
      rw [hi] at k1
      have e := ints_rep r hi
      subst e
      have hlen : ns.length < 64 := by rw [intsD_len hi]; exact c
      refine .inl ⟨l, ns, rfl, .inl (.inl hl), hlen, fun t n ht hn => .inl ?_⟩
      obtain ⟨w2, s2⟩ := w1.lay (o := SetO X.w t (fun j => decide (j ∈ ns)) n) ht
      refine ⟨t, _, n, rfl, upd_same, by omega, fun ns' p2 hp hmem hlen' hn2 => ?_⟩
      have e : ns' = uniqI ns := strict_eq hp (pair_uniqI ns) fun k => by rw [mem_uniqI, hmem]; simp
      subst e
      obtain ⟨w3, s3⟩ := w2.new (o := .lst ((uniqI ns).map V.int)) hn2
      exact k1 _ _ _ _ w3 (s2.trans s3) (.lst upd_same (rep_ints _))
    | none =>
      rw [hi] at k1
      obtain ⟨ns, hi2, k1⟩ := Post.opt k1
      have e := strs_rep r hi2
      subst e
      have hlen : ns.length < 64 := by rw [strsD_len hi2]; exact c
      refine .inr (.inl ⟨l, ns, rfl, .inl (.inl hl), hlen, fun t n ht hn => .inr ?_⟩)
      obtain ⟨w2, s2⟩ := w1.lay (o := SetTO X.prog X.w t (fun j => decide (j ∈ ns)) n) ht
      refine ⟨t, _, n, rfl, upd_same, by omega, fun ns' p2 hp hnd hmem hlen' hn2 => ?_⟩
      have e : ns' = uniqS ns := strictS_eq (pair_lt (pairS hp) hnd) (pair_uniqS ns) fun k => by rw [mem_uniqS, hmem]; simp
      subst e
      obtain ⟨w3, s3⟩ := w2.new (o := .lst ((uniqS ns).map V.str)) hn2
      exact k1 _ _ _ _ w3 (s2.trans s3) (.lst upd_same (rep_strs _))
  | tup ds =>
    have k1' : Post X.w X.K X.mg E (rRep X.K) H1 G1 μ1 ((guardM (decide (ds.length < 64)) ((opt (strsD ds)).bind fun xs => M.pure (.lst ((uniqS xs).map D.str)))) st1) Q := k1
    obtain ⟨c, k1⟩ := Post.guard k1'
    have c := of_decide_eq_true c
    obtain ⟨ns, hi2, k1⟩ := Post.opt k1
    obtain ⟨l, vs, rfl, hl, r⟩ := bst_tup w1 r1
    have e := strs_rep r hi2
    subst e
    have hlen : ns.length < 64 := by rw [strsD_len hi2]; exact c
    refine .inr (.inr ⟨l, ns, rfl, hl, hlen, fun t n ht hn => .inr ?_⟩)
    obtain ⟨w2, s2⟩ := w1.lay (o := SetTO X.prog X.w t (fun j => decide (j ∈ ns)) n) ht
    refine ⟨t, _, n, rfl, upd_same, by omega, fun ns' p2 hp hnd hmem hlen' hn2 => ?_⟩
    have e : ns' = uniqS ns := strictS_eq (pair_lt (pairS hp) hnd) (pair_uniqS ns) fun k => by rw [mem_uniqS, hmem]; simp
    subst e
    obtain ⟨w3, s3⟩ := w2.new (o := .lst ((uniqS ns).map V.str)) hn2
    exact k1 _ _ _ _ w3 (s2.trans s3) (.lst upd_same (rep_strs _))
  | _ => exact k1.elim
end
end
end PL
set_option linter.all false
set_option maxRecDepth 100000
set_option maxHeartbeats 4000000
/-! PL59: a list that a def makes in the store, taken out of it where the rest of the store stands as it stood. -/
namespace PL
open PySem PySem.Spec L2
mutual
/-- the m-th place of the store is not told -/
def noM (m : Nat) : D → Bool
  | .tup ds => noML m ds
  | .lst ds => noML m ds
  | .frz ds => noML m ds
  | .ref n => !decide (n = m)
  | _ => true
def noML (m : Nat) : List D → Bool
  | [] => true
  | d :: ds => noM m d && noML m ds
end
mutual
theorem Rep.nom {K : PySem.W.Frag} {G : Hp} {μ : Mu} {m : Nat} (hm : μ m = none) : ∀ {v : V} {d : D}, Rep K G μ v d → noM m d = true
  | _, _, .non => by unfold noM; rfl
  | _, _, .bl b => by unfold noM; rfl
  | _, _, .int i => by unfold noM; rfl
  | _, _, .str x => by unfold noM; rfl
  | _, _, .tup h r => by unfold noM; exact RepL.nom hm r
  | _, _, .lst h r => by unfold noM; exact RepL.nom hm r
  | _, _, .frz h r => by unfold noM; exact RepL.nom hm r
  | _, _, .ref (n := n) h => by
    unfold noM
    have : ¬n = m := fun e => by subst e; rw [hm] at h; cases h
    simp [this]
theorem RepL.nom {K : PySem.W.Frag} {G : Hp} {μ : Mu} {m : Nat} (hm : μ m = none) : ∀ {vs : List V} {ds : List D}, RepL K G μ vs ds → noML m ds = true
  | _, _, .nil => by unfold noML; rfl
  | _, _, .cons h r => by
    unfold noML
    rw [Rep.nom hm h, RepL.nom hm r]; rfl
end
mutual
theorem Rep.less {K : PySem.W.Frag} {G : Hp} {μ μ' : Mu} {m : Nat} (hm : ∀ n, n ≠ m → μ' n = μ n) : ∀ {v : V} {d : D}, Rep K G μ v d → noM m d = true → Rep K G μ' v d
  | _, _, .non, _ => .non
  | _, _, .bl b, _ => .bl b
  | _, _, .int i, _ => .int i
  | _, _, .str x, _ => .str x
  | _, _, .tup h r, e => .tup h (RepL.less hm r (by unfold noM at e; exact e))
  | _, _, .lst h r, e => .lst h (RepL.less hm r (by unfold noM at e; exact e))
  | _, _, .frz h r, e => .frz h (RepL.less hm r (by unfold noM at e; exact e))
  | _, _, .ref (n := n) h, e => by
    unfold noM at e
    refine .ref ?_
    rw [hm n (by simpa using e)]; exact h
theorem RepL.less {K : PySem.W.Frag} {G : Hp} {μ μ' : Mu} {m : Nat} (hm : ∀ n, n ≠ m → μ' n = μ n) : ∀ {vs : List V} {ds : List D}, RepL K G μ vs ds → noML m ds = true → RepL K G μ' vs ds
  | _, _, .nil, _ => .nil
  | _, _, .cons h r, e => by
    unfold noML at e
    rw [Bool.and_eq_true] at e
    exact .cons (Rep.less hm h e.1) (RepL.less hm r e.2)
end
def noMO (m : Nat) : Ob → Bool
  | .dict kvs => noML m (kvs.map (·.2))
  | .lst ds => noML m ds
  | .ins _ fs => noML m (fs.map (·.2))
  | .tab _ _ => true
  | .nd kvs => noML m (kvs.map (·.1)) && noML m (kvs.map (·.2))
theorem OR.nom {wW : World} {K : PySem.W.Frag} {G H : Hp} {μ : Mu} {a : Addr} {m : Nat} (hm : μ m = none) {o : Ob} (x : OR wW K G μ H a o) : noMO m o = true := by
  cases o with
  | dict kvs => obtain ⟨ws, h, k, r⟩ := x; exact r.nom hm
  | lst ds => obtain ⟨vs, h, r⟩ := x; exact r.nom hm
  | ins C fs => obtain ⟨dx, ws, h, k, r⟩ := x; exact r.nom hm
  | tab P q => rfl
  | nd kvs =>
    obtain ⟨ks, vs, h, r⟩ := x
    show (noML m _ && noML m _) = true
    rw [r.k.nom hm, r.v.nom hm]; rfl
theorem OR.less {wW : World} {K : PySem.W.Frag} {G H : Hp} {μ μ' : Mu} {a : Addr} {m : Nat} (hm : ∀ n, n ≠ m → μ' n = μ n) {o : Ob} (x : OR wW K G μ H a o) (e : noMO m o = true) : OR wW K G μ' H a o := by
  cases o with
  | dict kvs => obtain ⟨ws, h, k, r⟩ := x; exact ⟨ws, h, k, r.less hm e⟩
  | lst ds => obtain ⟨vs, h, r⟩ := x; exact ⟨vs, h, r.less hm e⟩
  | ins C fs => obtain ⟨dx, ws, h, k, r⟩ := x; exact ⟨dx, ws, h, k, r.less hm e⟩
  | tab P q => exact x
  | nd kvs =>
    have e : (noML m (kvs.map (·.1)) && noML m (kvs.map (·.2))) = true := e
    rw [Bool.and_eq_true] at e
    obtain ⟨ks, vs, h, r⟩ := x
    exact ⟨ks, vs, h, r.nk, r.dp, r.k.less hm e.1, r.v.less hm e.2⟩
/-- what of s stands at m, where the store of before is still the beginning of s -/
def TakOk (st s : Sto) (m : Nat) (ds : List D) : Prop := m + 1 = s.length ∧ st.length ≤ m ∧ noML m ds = true ∧ s.take st.length = st ∧ ∀ o ∈ (s.take m).drop st.length, noMO m o = true
open Classical in
noncomputable def fTakeF (f : En → M D) : En → M (List D) := fun ρ st => match f ρ st with
  | .ok (.ref m) s => (match s[m]? with
    | some (.lst ds) => if TakOk st s m ds then .ok ds (s.take m) else .bad
    | _ => .bad)
  | .ok _ _ => .bad
  | .err x s => .err x s
  | .bad => .bad
section
variable {X : Cx} {E : XK} {H0 : Hp} {e a b : Expr} {f g : En → M D} {pos : Pos}
theorem jf_takeF (h : JE X E H0 f e) : JF X E H0 (fTakeF f) e := PE.imp h fun σ H Q ⟨G, μ, st, ρ, w, er, q⟩ => by
  refine ⟨G, μ, st, ρ, w, er, ?_⟩
  have q : Post X.w X.K X.mg E (rFresh X.K) H G μ (fTakeF f ρ st) Q := q
  unfold fTakeF at q
  cases ef : f ρ st with
  | bad => rw [ef] at q; exact q.elim
  | err y s => rw [ef] at q; exact q
  | ok d s =>
    rw [ef] at q
    cases d with
    | ref m =>
      dsimp only at q
      cases es : s[m]? with
      | none => rw [es] at q; exact q.elim
      | some o =>
        rw [es] at q
        cases o with
        | lst ds =>
          dsimp only at q
          by_cases hc : TakOk st s m ds
          · rw [if_pos hc] at q
            obtain ⟨h1, h2, h3, h4, h5⟩ := hc
            intro v H' G' μ' w' t r
            cases r with
            | ref hm =>
              rename_i a
              obtain ⟨a', e1, e2, vs, hv, hr⟩ := w'.obj m _ es
              rw [hm] at e1; cases e1
              have hmn : μ m = none := by
                cases hq : μ m with
                | none => rfl
                | some b => have := w.dom m b hq; omega
              have hls : ∀ n, n ≠ m → (fun n => if n = m then none else μ' n) n = μ' n := fun n hn => if_neg hn
              refine q (.ref a) H' G' (fun n => if n = m then none else μ' n) ⟨w'.imm, fun n o hn => ?_, fun n k b hn hk => ?_, fun n b hn => ?_⟩ ⟨t.g, fun n b hn => ?_, t.fr, t.th, t.ng, fun n b hn hb => ?_⟩ ⟨a, vs, rfl, hv, hr.less hls h3, e2, fun n hn => ?_, t.nm m a hmn hm⟩
              · have hlt : n < m := by
                  have := (List.getElem?_eq_some_iff.mp hn).1
                  rw [List.length_take] at this; omega
                have hn' := hn
                rw [List.getElem?_take_of_lt hlt] at hn
                obtain ⟨c, c1, c2, c3⟩ := w'.obj n o hn
                refine ⟨c, by rw [if_neg (by omega)]; exact c1, c2, c3.less hls ?_⟩
                by_cases hb : n < st.length
                · have hs : st[n]? = some o := by rw [← h4, List.getElem?_take_of_lt hb]; exact hn
                  obtain ⟨_, _, _, d3⟩ := w.obj n o hs
                  exact d3.nom hmn
                · refine h5 o (List.mem_of_getElem? (i := n - st.length) ?_)
                  rw [List.getElem?_drop, show st.length + (n - st.length) = n by omega]; exact hn'
              · skip
                by_cases n1 : n = m
                · rw [if_pos n1] at hn; cases hn
                · by_cases n2 : k = m
                  · rw [if_pos n2] at hk; cases hk
                  · rw [if_neg n1] at hn; rw [if_neg n2] at hk
                    exact w'.inj n k b hn hk
              · skip
                by_cases n1 : n = m
                · rw [if_pos n1] at hn; cases hn
                · rw [if_neg n1] at hn
                  have := w'.dom n b hn
                  rw [List.length_take]; omega
              · have := w.dom n b hn
                rw [if_neg (by omega)]; exact t.m n b hn
              · skip
                by_cases n1 : n = m
                · rw [if_pos n1] at hb; cases hb
                · rw [if_neg n1] at hb
                  exact t.nm n b hn hb
              · dsimp only at hn
                by_cases n1 : n = m
                · rw [if_pos n1] at hn; cases hn
                · rw [if_neg n1] at hn
                  exact n1 (w'.inj n m a hn hm)
          · rw [if_neg hc] at q; exact q.elim
        | _ => exact q.elim
    | _ => exact q.elim
end
end PL
set_option linter.all false
set_option maxRecDepth 100000
set_option maxHeartbeats 4000000
namespace LK
open PySem PySem.Spec L2 PL
def topS (i : Nat) : Stmt := PySem.Challenge.pw_ascalls_k18_places_contents_stands.main.body.getD i (.Pass ⟨0, 0, 0, 0⟩)
structure Blt (mg : Str → Option Value) : Prop where
  len : mg "len" = none
  all : mg "all" = none
  any : mg "any" = none
  range : mg "range" = none
  isinstance : mg "isinstance" = none
  int : mg "int" = none
  str : mg "str" = none
  tuple : mg "tuple" = none
  bool : mg "bool" = none
  list : mg "list" = none
  set : mg "set" = none
  sorted : mg "sorted" = none
  enumerate : mg "enumerate" = none
  sum : mg "sum" = none
  abs : mg "abs" = none
  zip : mg "zip" = none
noncomputable section
variable {P : Program} {w : World} {K : PySem.W.Frag} {mg : Str → Option Value} {base : Heap}
theorem sc_is_integer : FnScope ["thing"] ["thing"] (defScope (topS 7)) := ⟨rfl, rfl, rfl, by decide +kernel, rfl, by decide +kernel, by decide +kernel⟩
def s_is_integer : En → M (Fl × En) := sRet (vAnd (e1 (isiM "int") (eVar 0)) (vNot (e1 (isiM "bool") (eVar 0))))
def m_is_integer : List D → M D := runB 1 s_is_integer
theorem d_is_integer (F : Fn0 K mg "is_integer" (topS 7) ["thing"]) (B : Blt mg) : Own P w K mg base 1 "is_integer" ["thing"] m_is_integer :=
  own_def F sc_is_integer fun fa cdv A outer s H G μ E hr => by
    have hu := hr.units
    have hu1 := Nat.lt_of_le_of_lt (Nat.add_le_add_left (by decide : 1 ≤ 65) _) (hv_of hr)
    have hv := hv_of hr
    exact (jss_one (js_ret (je_and (je_isi (by rfl) B.isinstance (by rfl) B.int (by decide +kernel) (jv 0)) (je_one (je_not (je_isi (by rfl) B.isinstance (by rfl) B.bool (by decide +kernel) (jv 0)))))))
theorem sc_is_number : FnScope ["thing"] ["thing"] (defScope (topS 8)) := ⟨rfl, rfl, rfl, by decide +kernel, rfl, by decide +kernel, by decide +kernel⟩
def s_is_number : En → M (Fl × En) := sRet (vAnd (eCall 1 m_is_integer (aCons (eVar 0) (aNil))) (e2 geM (eVar 0) (eC (.int 0))))
def m_is_number : List D → M D := runB 1 s_is_number
theorem d_is_number (F : Fn0 K mg "is_number" (topS 8) ["thing"]) (B : Blt mg) (o_is_integer : Own P w K mg base 1 "is_integer" ["thing"] m_is_integer) : Own P w K mg base 2 "is_number" ["thing"] m_is_number :=
  own_def F sc_is_number fun fa cdv A outer s H G μ E hr => by
    have hu := hr.units
    have hu1 := Nat.lt_of_le_of_lt (Nat.add_le_add_left (by decide : 1 ≤ 65) _) (hv_of hr)
    have hv := hv_of hr
    exact (jss_one (js_ret (je_and (jcall o_is_integer (hr.mono (by decide)) (pd rfl rfl rfl rfl) (ja_cons (jv 0) ja_nil)) (je_one (je_cmp op_geO o_ge (JE.jb (jv 0)) (JE.jb je_int) (nomark _))))))
theorem sc_is_row : FnScope ["thing", "size"] ["thing", "size"] (defScope (topS 9)) := ⟨rfl, rfl, rfl, by decide +kernel, rfl, by decide +kernel, by decide +kernel⟩
def s_is_row : En → M (Fl × En) := sRet (vAnd (e1 (isiM "tuple") (eVar 0)) (e2 eqM (e1 lenM (eVar 0)) (eVar 1)))
def m_is_row : List D → M D := runB 2 s_is_row
theorem d_is_row (F : Fn0 K mg "is_row" (topS 9) ["thing", "size"]) (B : Blt mg) : Own P w K mg base 1 "is_row" ["thing", "size"] m_is_row :=
  own_def F sc_is_row fun fa cdv A outer s H G μ E hr => by
    have hu := hr.units
    have hu1 := Nat.lt_of_le_of_lt (Nat.add_le_add_left (by decide : 1 ≤ 65) _) (hv_of hr)
    have hv := hv_of hr
    exact (jss_one (js_ret (je_and (je_isi (by rfl) B.isinstance (by rfl) B.tuple (by decide +kernel) (jv 0)) (je_one (je_cmp (op_eqD hu) o_eq (JE.jb (je_callB call_len c_len (by rfl) B.len (by decide +kernel) (JE.jb (jv 0)))) (JE.jb (jv 1)) (nomark _))))))
theorem sc_find_party : FnScope ["program", "name", "party"] ["program", "name"] (defScope (topS 11)) := ⟨rfl, rfl, rfl, by decide +kernel, rfl, by decide +kernel, by decide +kernel⟩
def s_find_party : En → M (Fl × En) := sSeq (sFor (iSeq (e2 ixM (eVar 0) (eC (.int 0)))) (.nm 2) (sIf (tBl (e2 eqM (e2 ixM (eVar 2) (eC (.int 0))) (eVar 1))) (sRet (eVar 2)) (sNil))) (sRet (eC .non))
def m_find_party : List D → M D := runB 3 s_find_party
theorem d_find_party (F : Fn0 K mg "find_party" (topS 11) ["program", "name"]) (B : Blt mg) : Own P w K mg base 1 "find_party" ["program", "name"] m_find_party :=
  own_def F sc_find_party fun fa cdv A outer s H G μ E hr => by
    have hu := hr.units
    have hu1 := Nat.lt_of_le_of_lt (Nat.add_le_add_left (by decide : 1 ≤ 65) _) (hv_of hr)
    have hv := hv_of hr
    exact (jss_cons (js_for (passes_of rfl) rfl (ji_seq (je_ix ix_seq o_ix (JE.jb (jv 0)) (JE.jb je_int) (fun _ _ => rfl))) (pg_name (i := 2) sc_find_party.nd rfl (Or.inl rfl)) (fun _ _ => (jss_one (js_if (jt_cmp (op_eqD hu) o_eq (JE.jb (je_ix ix_seq o_ix (JE.jb (jv 2)) (JE.jb je_int) (fun _ _ => rfl))) (JE.jb (jv 1)) (nomark _)) (jss_one (js_ret (jv 2))) jss_nil)))) (jss_one (js_ret je_non)))
theorem sc_find_channel : FnScope ["program", "name", "channel"] ["program", "name"] (defScope (topS 12)) := ⟨rfl, rfl, rfl, by decide +kernel, rfl, by decide +kernel, by decide +kernel⟩
def s_find_channel : En → M (Fl × En) := sSeq (sFor (iSeq (e2 ixM (eVar 0) (eC (.int 1)))) (.nm 2) (sIf (tBl (e2 eqM (e2 ixM (eVar 2) (eC (.int 0))) (eVar 1))) (sRet (eVar 2)) (sNil))) (sRet (eC .non))
def m_find_channel : List D → M D := runB 3 s_find_channel
theorem d_find_channel (F : Fn0 K mg "find_channel" (topS 12) ["program", "name"]) (B : Blt mg) : Own P w K mg base 1 "find_channel" ["program", "name"] m_find_channel :=
  own_def F sc_find_channel fun fa cdv A outer s H G μ E hr => by
    have hu := hr.units
    have hu1 := Nat.lt_of_le_of_lt (Nat.add_le_add_left (by decide : 1 ≤ 65) _) (hv_of hr)
    have hv := hv_of hr
    exact (jss_cons (js_for (passes_of rfl) rfl (ji_seq (je_ix ix_seq o_ix (JE.jb (jv 0)) (JE.jb je_int) (fun _ _ => rfl))) (pg_name (i := 2) sc_find_channel.nd rfl (Or.inl rfl)) (fun _ _ => (jss_one (js_if (jt_cmp (op_eqD hu) o_eq (JE.jb (je_ix ix_seq o_ix (JE.jb (jv 2)) (JE.jb je_int) (fun _ _ => rfl))) (JE.jb (jv 1)) (nomark _)) (jss_one (js_ret (jv 2))) jss_nil)))) (jss_one (js_ret je_non)))
theorem sc_is_index : FnScope ["thing", "row"] ["thing", "row"] (defScope (topS 14)) := ⟨rfl, rfl, rfl, by decide +kernel, rfl, by decide +kernel, by decide +kernel⟩
def s_is_index : En → M (Fl × En) := sRet (vAnd (eCall 1 m_is_number (aCons (eVar 0) (aNil))) (e2 ltM (eVar 0) (e1 lenM (eVar 1))))
def m_is_index : List D → M D := runB 2 s_is_index
theorem d_is_index (F : Fn0 K mg "is_index" (topS 14) ["thing", "row"]) (B : Blt mg) (o_is_number : Own P w K mg base 2 "is_number" ["thing"] m_is_number) : Own P w K mg base 3 "is_index" ["thing", "row"] m_is_index :=
  own_def F sc_is_index fun fa cdv A outer s H G μ E hr => by
    have hu := hr.units
    have hu1 := Nat.lt_of_le_of_lt (Nat.add_le_add_left (by decide : 1 ≤ 65) _) (hv_of hr)
    have hv := hv_of hr
    exact (jss_one (js_ret (je_and (jcall o_is_number (hr.mono (by decide)) (pd rfl rfl rfl rfl) (ja_cons (jv 0) ja_nil)) (je_one (je_cmp op_ltO o_lt (JE.jb (jv 0)) (JE.jb (je_callB call_len c_len (by rfl) B.len (by decide +kernel) (JE.jb (jv 1)))) (nomark _))))))
theorem sc_letter_to_take : FnScope ["program", "rows", "lying", "doing", "numbers", "number"] ["program", "rows", "lying", "doing"] (defScope (topS 22)) := ⟨rfl, rfl, rfl, by decide +kernel, rfl, by decide +kernel, by decide +kernel⟩
def s_letter_to_take : En → M (Fl × En) := sSeq (sSet 4 (eIf (tBl (e2 eqM (e2 ixM (eCall 2 m_find_channel (aCons (eVar 0) (aCons (e2 ixM (eVar 3) (eC (.int 1))) (aNil)))) (eC (.int 3))) (eC (.str "bag")))) (eVar 2) (eSl (eVar 2) oNo (oSo (eC (.int 1)))))) (sSeq (sFor (iSeq (eVar 4)) (.nm 5) (sIf (tBl (e2 eqM (e2 ixM (e2 (drL ixM) (eVar 1) (eVar 5)) (eC (.int 1))) (e2 ixM (eVar 3) (eC (.int 2))))) (sRet (eVar 5)) (sNil))) (sRet (eC .non)))
def m_letter_to_take : List D → M D := runB 6 s_letter_to_take
theorem d_letter_to_take (F : Fn0 K mg "letter_to_take" (topS 22) ["program", "rows", "lying", "doing"]) (B : Blt mg) (o_find_channel : Own P w K mg base 1 "find_channel" ["program", "name"] m_find_channel) : Own P w K mg base 2 "letter_to_take" ["program", "rows", "lying", "doing"] m_letter_to_take :=
  own_def F sc_letter_to_take fun fa cdv A outer s H G μ E hr => by
    have hu := hr.units
    have hu1 := Nat.lt_of_le_of_lt (Nat.add_le_add_left (by decide : 1 ≤ 65) _) (hv_of hr)
    have hv := hv_of hr
    exact (jss_cons (js_set (i := 4) sc_letter_to_take.nd rfl (Or.inl rfl) (je_if (jt_cmp (op_eqD hu) o_eq (JE.jb (je_ix ix_seq o_ix (JE.jb (jcall o_find_channel (hr.mono (by decide)) (pd rfl rfl rfl rfl) (ja_cons (jv 0) (ja_cons (je_ix ix_seq o_ix (JE.jb (jv 3)) (JE.jb je_int) (fun _ _ => rfl)) ja_nil)))) (JE.jb je_int) (fun _ _ => rfl))) (JE.jb je_str) (nomark _)) (jv 2) (je_slice (JE.jb (jv 2)) jo_no (jo_so je_int)))) (jss_cons (js_for (passes_of rfl) rfl (ji_seq (jv 4)) (pg_name (i := 5) sc_letter_to_take.nd rfl (Or.inl rfl)) (fun _ _ => (jss_one (js_if (jt_cmp (op_eqD hu) o_eq (JE.jb (je_ix ix_seq o_ix (JE.jb (je_ix ix_seq (dr_l o_ix) (JE.jb (jv 1)) (JE.jb (jv 5)) (fun _ _ => rfl))) (JE.jb je_int) (fun _ _ => rfl))) (JE.jb (je_ix ix_seq o_ix (JE.jb (jv 3)) (JE.jb je_int) (fun _ _ => rfl))) (nomark _)) (jss_one (js_ret (jv 5))) jss_nil)))) (jss_one (js_ret je_non))))
theorem sc_is_call : FnScope ["program", "name"] ["program", "name"] (defScope (topS 23)) := ⟨rfl, rfl, rfl, by decide +kernel, rfl, by decide +kernel, by decide +kernel⟩
def s_is_call : En → M (Fl × En) := sRet (e2 eqM (e2 ixM (eCall 2 m_find_channel (aCons (eVar 0) (aCons (eVar 1) (aNil)))) (eC (.int 3))) (eC (.str "call")))
def m_is_call : List D → M D := runB 2 s_is_call
theorem d_is_call (F : Fn0 K mg "is_call" (topS 23) ["program", "name"]) (B : Blt mg) (o_find_channel : Own P w K mg base 1 "find_channel" ["program", "name"] m_find_channel) : Own P w K mg base 2 "is_call" ["program", "name"] m_is_call :=
  own_def F sc_is_call fun fa cdv A outer s H G μ E hr => by
    have hu := hr.units
    have hu1 := Nat.lt_of_le_of_lt (Nat.add_le_add_left (by decide : 1 ≤ 65) _) (hv_of hr)
    have hv := hv_of hr
    exact (jss_one (js_ret (je_cmp (op_eqD hu) o_eq (JE.jb (je_ix ix_seq o_ix (JE.jb (jcall o_find_channel (hr.mono (by decide)) (pd rfl rfl rfl rfl) (ja_cons (jv 0) (ja_cons (jv 1) ja_nil)))) (JE.jb je_int) (fun _ _ => rfl))) (JE.jb je_str) (nomark _))))
theorem sc__contents_of : FnScope ["program", "rows", "lying", "row", "channel"] ["program", "rows"] (defScope (topS 25)) := ⟨rfl, rfl, rfl, by decide +kernel, rfl, by decide +kernel, by decide +kernel⟩
def s__contents_of : En → M (Fl × En) := sSeq (sSet 2 (eL (eLc (iSeq (eVar 1)) (.nm 3) [3] (tBl (e1 isNM (e2 ixM (eVar 3) (eC (.int 3))))) (eVar 3)))) (sRet (e1 tupM (eL (eLc (iSeq (e2 ixM (eVar 0) (eC (.int 1)))) (.nm 4) [4] (tTrue) (e1 tupM (eL (eLc (iSeq (eVar 2)) (.nm 3) [3] (tBl (e2 eqM (e2 ixM (eVar 3) (eC (.int 0))) (e2 ixM (eVar 4) (eC (.int 0))))) (e2 ixM (eVar 3) (eC (.int 1))))))))))
def m__contents_of : List D → M D := runB 5 s__contents_of
theorem d__contents_of (F : Fn0 K mg "_contents_of" (topS 25) ["program", "rows"]) (B : Blt mg) : Own P w K mg base 1 "_contents_of" ["program", "rows"] m__contents_of :=
  own_def F sc__contents_of fun fa cdv A outer s H G μ E hr => by
    have hu := hr.units
    have hu1 := Nat.lt_of_le_of_lt (Nat.add_le_add_left (by decide : 1 ≤ 65) _) (hv_of hr)
    have hv := hv_of hr
    exact (jss_cons (js_set (i := 2) sc__contents_of.nd rfl (Or.inr rfl) (JF.je (jf_lc (own := [("row", 3)]) rfl sc__contents_of.nd (ji_seq (jv 1)) (blkOk_by (N := ["program", "rows", "lying", "row", "channel"]) (sc := defScope (topS 25)) (by decide +kernel)) (by decide) (fun _ _ _ _ _ => (pg_name (i := 3) sc__contents_of.nd rfl (Or.inl rfl))) (fun _ _ _ _ _ => (jts_one (jt_isN (je_ix ix_seq o_ix (JE.jb (jv 3)) (JE.jb je_int) (fun _ _ => rfl))))) (fun _ _ _ _ _ => (jv 3))))) (jss_one (js_ret (je_callTy call_tuple_of c_tup (by rfl) B.tuple (by decide +kernel) (JE.jb (JF.je (jf_lc (own := [("channel", 4)]) rfl sc__contents_of.nd (ji_seq (je_ix ix_seq o_ix (JE.jb (jv 0)) (JE.jb je_int) (fun _ _ => rfl))) (blkOk_by (N := ["program", "rows", "lying", "row", "channel"]) (sc := defScope (topS 25)) (by decide +kernel)) (by decide) (fun _ _ _ _ _ => (pg_name (i := 4) sc__contents_of.nd rfl (Or.inr rfl))) (fun _ _ _ _ _ => jts_nil) (fun _ _ _ _ _ => (je_callTy call_tuple_of c_tup (by rfl) B.tuple (by decide +kernel) (JE.jb (JF.je (jf_lc (own := [("row", 3)]) rfl sc__contents_of.nd (ji_seq (jv 2)) (blkOk_by (N := ["program", "rows", "lying", "row", "channel"]) (sc := retScope (topS 25) 1) (by decide +kernel)) (by decide) (fun _ _ _ _ _ => (pg_name (i := 3) sc__contents_of.nd rfl (Or.inl rfl))) (fun _ _ _ _ _ => (jts_one (jt_cmp (op_eqD hu) o_eq (JE.jb (je_ix ix_seq o_ix (JE.jb (jv 3)) (JE.jb je_int) (fun _ _ => rfl))) (JE.jb (je_ix ix_seq o_ix (JE.jb (jv 4)) (JE.jb je_int) (fun _ _ => rfl))) (nomark _)))) (fun _ _ _ _ _ => (je_ix ix_seq o_ix (JE.jb (jv 3)) (JE.jb je_int) (fun _ _ => rfl)))))))))))))))
theorem sc_head_of : FnScope ["form", "names"] ["form", "names"] (defScope (topS 26)) := ⟨rfl, rfl, rfl, by decide +kernel, rfl, by decide +kernel, by decide +kernel⟩
def s_head_of : En → M (Fl × En) := sRet (eIf (tBl (e2 eqM (eVar 0) (eC (.str "bag")))) (e1 tupM (e1 ssetB (eVar 1))) (eSl (eVar 1) oNo (oSo (eC (.int 1)))))
def m_head_of : List D → M D := runB 2 s_head_of
theorem d_head_of (F : Fn0 K mg "head_of" (topS 26) ["form", "names"]) (B : Blt mg) : Own P w K mg base 1 "head_of" ["form", "names"] m_head_of :=
  own_def F sc_head_of fun fa cdv A outer s H G μ E hr => by
    have hu := hr.units
    have hu1 := Nat.lt_of_le_of_lt (Nat.add_le_add_left (by decide : 1 ≤ 65) _) (hv_of hr)
    have hv := hv_of hr
    exact (jss_one (js_ret (je_if (jt_cmp (op_eqD hu) o_eq (JE.jb (jv 0)) (JE.jb je_str) (nomark _)) (je_callTy call_tuple_of c_tup (by rfl) B.tuple (by decide +kernel) (JE.jb (je_sset3 rfl (by rfl) B.sorted (by rfl) B.set (JE.jb (jv 1))))) (je_slice (JE.jb (jv 1)) jo_no (jo_so je_int)))))
theorem sc__law_mixed : FnScope ["_law_number", "_law_k", "_law_mixed_here"] ["_law_number", "_law_k"] (defScope (topS 28)) := ⟨rfl, rfl, rfl, by decide +kernel, rfl, by decide +kernel, by decide +kernel⟩
def s__law_mixed : En → M (Fl × En) := sSeq (sSet 2 (e2 modM (e1 intM (e2 addM (e2 addM (e2 mulM (eVar 0) (eC (.int 48271))) (e2 mulM (eVar 1) (eC (.int 1103515245)))) (eC (.int 12345)))) (eC (.int 2147483647)))) (sSeq (sSet 2 (e2 modM (e1 intM (e2 addM (e2 mulM (eVar 2) (eC (.int 69621))) (e2 mulM (e2 fdivM (eVar 2) (eC (.int 4099))) (e2 fdivM (eVar 2) (eC (.int 131)))))) (eC (.int 2147483629)))) (sRet (e2 modM (e1 intM (e2 fdivM (eVar 2) (eC (.int 13)))) (eC (.int 55440)))))
def m__law_mixed : List D → M D := runB 3 s__law_mixed
theorem d__law_mixed (F : Fn0 K mg "_law_mixed" (topS 28) ["_law_number", "_law_k"]) (B : Blt mg) : Own P w K mg base 1 "_law_mixed" ["_law_number", "_law_k"] m__law_mixed :=
  own_def F sc__law_mixed fun fa cdv A outer s H G μ E hr => by
    have hu := hr.units
    have hu1 := Nat.lt_of_le_of_lt (Nat.add_le_add_left (by decide : 1 ≤ 65) _) (hv_of hr)
    have hv := hv_of hr
    exact (jss_cons (js_set (i := 2) sc__law_mixed.nd rfl (Or.inl rfl) (je_op op_mod o_mod (JE.jb (je_callTy call_intA c_int (by rfl) B.int (by decide +kernel) (JE.jb (je_op op_addA o_add (JE.jb (je_op op_addA o_add (JE.jb (je_op op_mul o_mul (JE.jb (jv 0)) (JE.jb je_int))) (JE.jb (je_op op_mul o_mul (JE.jb (jv 1)) (JE.jb je_int))))) (JE.jb je_int))))) (JE.jb je_int))) (jss_cons (js_set (i := 2) sc__law_mixed.nd rfl (Or.inl rfl) (je_op op_mod o_mod (JE.jb (je_callTy call_intA c_int (by rfl) B.int (by decide +kernel) (JE.jb (je_op op_addA o_add (JE.jb (je_op op_mul o_mul (JE.jb (jv 2)) (JE.jb je_int))) (JE.jb (je_op op_mul o_mul (JE.jb (je_op op_fdiv o_fdiv (JE.jb (jv 2)) (JE.jb je_int))) (JE.jb (je_op op_fdiv o_fdiv (JE.jb (jv 2)) (JE.jb je_int))))))))) (JE.jb je_int))) (jss_one (js_ret (je_op op_mod o_mod (JE.jb (je_callTy call_intA c_int (by rfl) B.int (by decide +kernel) (JE.jb (je_op op_fdiv o_fdiv (JE.jb (jv 2)) (JE.jb je_int))))) (JE.jb je_int))))))
theorem sc__law_draws : FnScope ["_law_script", "_law_many", "_law_found", "_law_total", "_law_at", "_law_cell", "_law_k"] ["_law_script", "_law_many"] (defScope (topS 29)) := ⟨rfl, rfl, rfl, by decide +kernel, rfl, by decide +kernel, by decide +kernel⟩
def s__law_draws : En → M (Fl × En) := sSeq (sOwn 2 (fLst (aNil))) (sSeq (sSet 3 (eC (.int 7))) (sSeq (sFor (iRange1 (aCons (e1 lenM (eVar 0)) (aNil))) (.nm 4) (sSeq (sSet 5 (e1 absM (e1 intM (e2 ixM (eVar 0) (eVar 4))))) (sSeq (sSet 3 (e2 modM (e1 intM (e2 addM (e2 addM (e2 mulM (eVar 3) (eC (.int 31))) (eVar 5)) (eVar 4))) (eC (.int 2147483629)))) (sIf (tBl (e2 geM (eVar 5) (e2 powM (eC (.int 10)) (eC (.int 18))))) (sFor (iRange1 (aCons (eC (.int 60)) (aNil))) (.nm 6) (sIf (tAn (tBl (e2 gtM (eVar 5) (eC (.int 0)))) (tBl (e2 ltM (e1 lenM (eLook 2)) (eVar 1)))) (sSeq (sApp 2 (e2 modM (e1 intM (eVar 5)) (eC (.int 55440)))) (sSet 5 (e2 fdivM (eVar 5) (eC (.int 55440))))) (sNil))) (sFor (iRange1 (aCons (eC (.int 4)) (aNil))) (.nm 6) (sIf (tBl (e2 ltM (e1 lenM (eLook 2)) (eVar 1))) (sApp 2 (eCall 2 m__law_mixed (aCons (eVar 5) (aCons (e2 addM (e2 mulM (eVar 4) (eC (.int 4))) (eVar 6)) (aNil))))) (sNil))))))) (sSeq (sFor (iRange1 (aCons (eVar 1) (aNil))) (.nm 6) (sIf (tBl (e2 ltM (e1 lenM (eLook 2)) (eVar 1))) (sApp 2 (eCall 2 m__law_mixed (aCons (eVar 3) (aCons (e2 addM (eVar 6) (eC (.int 300))) (aNil))))) (sNil))) (sFrz 2 (sRet (eVar 2))))))
def m__law_draws : List D → M D := runB 7 s__law_draws
theorem d__law_draws (F : Fn0 K mg "_law_draws" (topS 29) ["_law_script", "_law_many"]) (B : Blt mg) (o__law_mixed : Own P w K mg base 1 "_law_mixed" ["_law_number", "_law_k"] m__law_mixed) : Own P w K mg base 2 "_law_draws" ["_law_script", "_law_many"] m__law_draws :=
  own_def F sc__law_draws fun fa cdv A outer s H G μ E hr => by
    have hu := hr.units
    have hu1 := Nat.lt_of_le_of_lt (Nat.add_le_add_left (by decide : 1 ≤ 65) _) (hv_of hr)
    have hv := hv_of hr
    exact (jss_cons (js_own (i := 2) sc__law_draws.nd rfl (Or.inl rfl) (jf_lst ja_nil)) (jss_cons (js_set (i := 3) sc__law_draws.nd rfl (Or.inl rfl) je_int) (jss_cons (js_for (passes_of rfl) rfl (ji_range1 (by rfl) B.range (ja_cons (je_callB call_len c_len (by rfl) B.len (by decide +kernel) (JE.jb (jv 0))) ja_nil)) (pg_name (i := 4) sc__law_draws.nd rfl (Or.inl rfl)) (fun _ _ => (jss_cons (js_set (i := 5) sc__law_draws.nd rfl (Or.inl rfl) (je_callB call_abs c_abs (by rfl) B.abs (by decide +kernel) (JE.jb (je_callTy call_intA c_int (by rfl) B.int (by decide +kernel) (JE.jb (je_ix ix_seq o_ix (JE.jb (jv 0)) (JE.jb (jv 4)) (fun _ _ => rfl))))))) (jss_cons (js_set (i := 3) sc__law_draws.nd rfl (Or.inl rfl) (je_op op_mod o_mod (JE.jb (je_callTy call_intA c_int (by rfl) B.int (by decide +kernel) (JE.jb (je_op op_addA o_add (JE.jb (je_op op_addA o_add (JE.jb (je_op op_mul o_mul (JE.jb (jv 3)) (JE.jb je_int))) (JE.jb (jv 5)))) (JE.jb (jv 4)))))) (JE.jb je_int))) (jss_one (js_if (jt_cmp op_geO o_ge (JE.jb (jv 5)) (JE.jb (je_op op_pow o_pow (JE.jb je_int) (JE.jb je_int))) (nomark _)) (jss_one (js_for (passes_of rfl) rfl (ji_range1 (by rfl) B.range (ja_cons je_int ja_nil)) (pg_name (i := 6) sc__law_draws.nd rfl (Or.inl rfl)) (fun _ _ => (jss_one (js_if (JW.jt (jw_and (jt_cmp op_gtO o_gt (JE.jb (jv 5)) (JE.jb je_int) (nomark _)) (jw_and1 (jt_cmp op_ltO o_lt (JE.jb (je_callB call_len c_len (by rfl) B.len (by decide +kernel) (jw 2))) (JE.jb (jv 1)) (nomark _))))) (jss_cons (js_app (i := 2) rfl (Or.inl rfl) (je_op op_mod o_mod (JE.jb (je_callTy call_intA c_int (by rfl) B.int (by decide +kernel) (JE.jb (jv 5)))) (JE.jb je_int)) (hb := fun ho ha => pe_bm PySem.F.plainAttrs_list PySem.F.slot_list_append PySem.F.type_list_append mt_append ho ha)) (jss_one (js_set (i := 5) sc__law_draws.nd rfl (Or.inl rfl) (je_op op_fdiv o_fdiv (JE.jb (jv 5)) (JE.jb je_int))))) jss_nil))))) (jss_one (js_for (passes_of rfl) rfl (ji_range1 (by rfl) B.range (ja_cons je_int ja_nil)) (pg_name (i := 6) sc__law_draws.nd rfl (Or.inl rfl)) (fun _ _ => (jss_one (js_if (jt_cmp op_ltO o_lt (JE.jb (je_callB call_len c_len (by rfl) B.len (by decide +kernel) (jw 2))) (JE.jb (jv 1)) (nomark _)) (jss_one (js_app (i := 2) rfl (Or.inl rfl) (jcall o__law_mixed (hr.mono (by decide)) (pd rfl rfl rfl rfl) (ja_cons (jv 5) (ja_cons (je_op op_addA o_add (JE.jb (je_op op_mul o_mul (JE.jb (jv 4)) (JE.jb je_int))) (JE.jb (jv 6))) ja_nil))) (hb := fun ho ha => pe_bm PySem.F.plainAttrs_list PySem.F.slot_list_append PySem.F.type_list_append mt_append ho ha))) jss_nil))))))))))) (jss_cons (js_for (passes_of rfl) rfl (ji_range1 (by rfl) B.range (ja_cons (jv 1) ja_nil)) (pg_name (i := 6) sc__law_draws.nd rfl (Or.inl rfl)) (fun _ _ => (jss_one (js_if (jt_cmp op_ltO o_lt (JE.jb (je_callB call_len c_len (by rfl) B.len (by decide +kernel) (jw 2))) (JE.jb (jv 1)) (nomark _)) (jss_one (js_app (i := 2) rfl (Or.inl rfl) (jcall o__law_mixed (hr.mono (by decide)) (pd rfl rfl rfl rfl) (ja_cons (jv 3) (ja_cons (je_op op_addA o_add (JE.jb (jv 6)) (JE.jb je_int)) ja_nil))) (hb := fun ho ha => pe_bm PySem.F.plainAttrs_list PySem.F.slot_list_append PySem.F.type_list_append mt_append ho ha))) jss_nil)))) (jss_one (js_frz (i := 2) (js_ret (jv 2))))))))
theorem sc__law_names : FnScope ["_law_draws_here", "_law_at", "_law_many", "_law_letters", "_law_stem", "_law_k", "_law_by", "_law_choice", "_law_stride", "_law_first", "_law_size", "_law_place", "_law_found", "_law_letter"] ["_law_draws_here", "_law_at", "_law_many"] (defScope (topS 30)) := ⟨rfl, rfl, rfl, by decide +kernel, rfl, by decide +kernel, by decide +kernel⟩
def s__law_names : En → M (Fl × En) := sSeq (sSet 3 (eC (.str "abcdefghijklmnopqrstuvwxyz"))) (sSeq (sSet 4 (eC (.str ""))) (sSeq (sFor (iRange1 (aCons (eC (.int 3)) (aNil))) (.nm 5) (sFor (iSeq (eTup (aCons (eC (.int 1)) (aCons (eC (.int 26)) (aCons (eC (.int 676)) (aNil)))))) (.nm 6) (sSet 4 (e2 addM (eVar 4) (e2 ixM (eVar 3) (e2 modM (e1 intM (e2 fdivM (e2 ixM (eVar 0) (e2 addM (eVar 1) (eVar 5))) (eVar 6))) (eC (.int 26)))))))) (sSeq (sSet 7 (e2 ixM (eVar 0) (e2 addM (eVar 1) (eC (.int 3))))) (sSeq (sSet 8 (e2 addM (eC (.int 1)) (e2 mulM (eC (.int 2)) (e2 modM (e1 intM (e2 fdivM (eVar 7) (eC (.int 4)))) (eC (.int 6)))))) (sSeq (sSet 9 (e2 fdivM (eVar 7) (eC (.int 24)))) (sSeq (sIf (tBl (e2 eqM (e2 modM (e1 intM (eVar 7)) (eC (.int 4))) (eC (.int 0)))) (sRet (eL (eLc (iRange1 (aCons (eVar 2) (aNil))) (.nm 5) [5] (tTrue) (eSl (eVar 4) oNo (oSo (e2 addM (eC (.int 1)) (e2 modM (e1 intM (e2 addM (eVar 9) (e2 mulM (eVar 5) (eVar 8)))) (eC (.int 8))))))))) (sNil)) (sSeq (sSet 10 (e2 modM (e1 intM (e2 fdivM (eVar 9) (eC (.int 26)))) (eC (.int 8)))) (sSeq (sSet 11 (e2 modM (e1 intM (e2 fdivM (eVar 9) (eC (.int 208)))) (e2 addM (eVar 10) (eC (.int 1))))) (sSeq (sOwn 12 (fLst (aNil))) (sSeq (sFor (iRange1 (aCons (eVar 2) (aNil))) (.nm 5) (sSeq (sSet 13 (e2 ixM (eVar 3) (e2 modM (e1 intM (e2 addM (eVar 9) (e2 mulM (eVar 5) (eVar 8)))) (eC (.int 26))))) (sApp 12 (e2 addM (e2 addM (eSl (eVar 4) oNo (oSo (eVar 11))) (eVar 13)) (eSl (eVar 4) (oSo (eVar 11)) (oSo (eVar 10))))))) (sFrz 12 (sRet (eVar 12)))))))))))))
def m__law_names : List D → M D := runB 14 s__law_names
theorem d__law_names (F : Fn0 K mg "_law_names" (topS 30) ["_law_draws_here", "_law_at", "_law_many"]) (B : Blt mg) : Own P w K mg base 1 "_law_names" ["_law_draws_here", "_law_at", "_law_many"] m__law_names :=
  own_def F sc__law_names fun fa cdv A outer s H G μ E hr => by
    have hu := hr.units
    have hu1 := Nat.lt_of_le_of_lt (Nat.add_le_add_left (by decide : 1 ≤ 65) _) (hv_of hr)
    have hv := hv_of hr
    exact (jss_cons (js_set (i := 3) sc__law_names.nd rfl (Or.inl rfl) je_str) (jss_cons (js_set (i := 4) sc__law_names.nd rfl (Or.inr rfl) je_str) (jss_cons (js_for (passes_of rfl) rfl (ji_range1 (by rfl) B.range (ja_cons je_int ja_nil)) (pg_name (i := 5) sc__law_names.nd rfl (Or.inl rfl)) (fun _ _ => (jss_one (js_for (passes_of rfl) rfl (ji_seq (je_tup (ja_cons je_int (ja_cons je_int (ja_cons je_int ja_nil))))) (pg_name (i := 6) sc__law_names.nd rfl (Or.inl rfl)) (fun _ _ => (jss_one (js_set (i := 4) sc__law_names.nd rfl (Or.inr rfl) (je_op op_addA o_add (JE.jb (jv 4)) (JE.jb (je_ix ix_seq o_ix (JE.jb (jv 3)) (JE.jb (je_op op_mod o_mod (JE.jb (je_callTy call_intA c_int (by rfl) B.int (by decide +kernel) (JE.jb (je_op op_fdiv o_fdiv (JE.jb (je_ix ix_seq o_ix (JE.jb (jv 0)) (JE.jb (je_op op_addA o_add (JE.jb (jv 1)) (JE.jb (jv 5)))) (fun _ _ => rfl))) (JE.jb (jv 6)))))) (JE.jb je_int))) (fun _ _ => rfl))))))))))) (jss_cons (js_set (i := 7) sc__law_names.nd rfl (Or.inl rfl) (je_ix ix_seq o_ix (JE.jb (jv 0)) (JE.jb (je_op op_addA o_add (JE.jb (jv 1)) (JE.jb je_int))) (fun _ _ => rfl))) (jss_cons (js_set (i := 8) sc__law_names.nd rfl (Or.inr rfl) (je_op op_addA o_add (JE.jb je_int) (JE.jb (je_op op_mul o_mul (JE.jb je_int) (JE.jb (je_op op_mod o_mod (JE.jb (je_callTy call_intA c_int (by rfl) B.int (by decide +kernel) (JE.jb (je_op op_fdiv o_fdiv (JE.jb (jv 7)) (JE.jb je_int))))) (JE.jb je_int))))))) (jss_cons (js_set (i := 9) sc__law_names.nd rfl (Or.inr rfl) (je_op op_fdiv o_fdiv (JE.jb (jv 7)) (JE.jb je_int))) (jss_cons (js_if (jt_cmp (op_eqD hu) o_eq (JE.jb (je_op op_mod o_mod (JE.jb (je_callTy call_intA c_int (by rfl) B.int (by decide +kernel) (JE.jb (jv 7)))) (JE.jb je_int))) (JE.jb je_int) (nomark _)) (jss_one (js_ret (JF.je (jf_lc (own := [("_law_k", 5)]) rfl sc__law_names.nd (ji_range1 (by rfl) B.range (ja_cons (jv 2) ja_nil)) (blkOk_by (N := ["_law_draws_here", "_law_at", "_law_many", "_law_letters", "_law_stem", "_law_k", "_law_by", "_law_choice", "_law_stride", "_law_first", "_law_size", "_law_place", "_law_found", "_law_letter"]) (sc := defScope (topS 30)) (by decide +kernel)) (by decide) (fun _ _ _ _ _ => (pg_name (i := 5) sc__law_names.nd rfl (Or.inl rfl))) (fun _ _ _ _ _ => jts_nil) (fun _ _ _ _ _ => (je_slice (JE.jb (jv 4)) jo_no (jo_so (je_op op_addA o_add (JE.jb je_int) (JE.jb (je_op op_mod o_mod (JE.jb (je_callTy call_intA c_int (by rfl) B.int (by decide +kernel) (JE.jb (je_op op_addA o_add (JE.jb (jv 9)) (JE.jb (je_op op_mul o_mul (JE.jb (jv 5)) (JE.jb (jv 8)))))))) (JE.jb je_int))))))))))) jss_nil) (jss_cons (js_set (i := 10) sc__law_names.nd rfl (Or.inl rfl) (je_op op_mod o_mod (JE.jb (je_callTy call_intA c_int (by rfl) B.int (by decide +kernel) (JE.jb (je_op op_fdiv o_fdiv (JE.jb (jv 9)) (JE.jb je_int))))) (JE.jb je_int))) (jss_cons (js_set (i := 11) sc__law_names.nd rfl (Or.inl rfl) (je_op op_mod o_mod (JE.jb (je_callTy call_intA c_int (by rfl) B.int (by decide +kernel) (JE.jb (je_op op_fdiv o_fdiv (JE.jb (jv 9)) (JE.jb je_int))))) (JE.jb (je_op op_addA o_add (JE.jb (jv 10)) (JE.jb je_int))))) (jss_cons (js_own (i := 12) sc__law_names.nd rfl (Or.inl rfl) (jf_lst ja_nil)) (jss_cons (js_for (passes_of rfl) rfl (ji_range1 (by rfl) B.range (ja_cons (jv 2) ja_nil)) (pg_name (i := 5) sc__law_names.nd rfl (Or.inl rfl)) (fun _ _ => (jss_cons (js_set (i := 13) sc__law_names.nd rfl (Or.inl rfl) (je_ix ix_seq o_ix (JE.jb (jv 3)) (JE.jb (je_op op_mod o_mod (JE.jb (je_callTy call_intA c_int (by rfl) B.int (by decide +kernel) (JE.jb (je_op op_addA o_add (JE.jb (jv 9)) (JE.jb (je_op op_mul o_mul (JE.jb (jv 5)) (JE.jb (jv 8)))))))) (JE.jb je_int))) (fun _ _ => rfl))) (jss_one (js_app (i := 12) rfl (Or.inl rfl) (je_op op_addA o_add (JE.jb (je_op op_addA o_add (JE.jb (je_slice (JE.jb (jv 4)) jo_no (jo_so (jv 11)))) (JE.jb (jv 13)))) (JE.jb (je_slice (JE.jb (jv 4)) (jo_so (jv 11)) (jo_so (jv 10))))) (hb := fun ho ha => pe_bm PySem.F.plainAttrs_list PySem.F.slot_list_append PySem.F.type_list_append mt_append ho ha)))))) (jss_one (js_frz (i := 12) (js_ret (jv 12)))))))))))))))
theorem sc__law_scene : FnScope ["_law_draw", "_law_scenes"] ["_law_draw"] (defScope (topS 31)) := ⟨rfl, rfl, rfl, by decide +kernel, rfl, by decide +kernel, by decide +kernel⟩
def s__law_scene : En → M (Fl × En) := sSeq (sSet 1 (eTup (aCons (eTup (aCons (eC (.int 0)) (aCons (eC (.str "")) (aCons (eC (.str "")) (aNil))))) (aCons (eTup (aCons (eC (.int 2)) (aCons (eC (.str "01? 10?")) (aCons (eC (.str "00p0x1 01t1y2 10p1y1 11t0x2")) (aNil))))) (aCons (eTup (aCons (eC (.int 2)) (aCons (eC (.str "01b")) (aCons (eC (.str "00p0x1 01p0y2 10t0y1 11t0x2")) (aNil))))) (aCons (eTup (aCons (eC (.int 2)) (aCons (eC (.str "01? 01?")) (aCons (eC (.str "00p0x1 01p1y2 00p1y3 03p0x2 10t1y1 11t0x2")) (aNil))))) (aCons (eTup (aCons (eC (.int 3)) (aCons (eC (.str "01? 02? 21?")) (aCons (eC (.str "00p0x1 01p1y2 20t1y1 21p2x2 10t2x1 11t0x2")) (aNil))))) (aCons (eTup (aCons (eC (.int 3)) (aCons (eC (.str "01? 20? 21?")) (aCons (eC (.str "00p0x1 01t1y2 20p1y1 21p2x2 10t2x1 11t0x2")) (aNil))))) (aCons (eTup (aCons (eC (.int 2)) (aCons (eC (.str "01b 01c")) (aCons (eC (.str "00p0x1 01p1y2 02p0x3 10t1y1 11t0x2")) (aNil))))) (aCons (eTup (aCons (eC (.int 2)) (aCons (eC (.str "01? 01?")) (aCons (eC (.str "00p0z1 01p0x2 02p1y3 10t1y1 11t0x2")) (aNil))))) (aCons (eTup (aCons (eC (.int 2)) (aCons (eC (.str "01? 10?")) (aCons (eC (.str "00p0x1 01t1y0 10t0x1 11p1y0 00p0y0")) (aNil))))) (aCons (eTup (aCons (eC (.int 2)) (aCons (eC (.str "01c 01?")) (aCons (eC (.str "00p1x0 00p0y0 10t1x0 10t0y0")) (aNil))))) (aCons (eTup (aCons (eC (.int 3)) (aCons (eC (.str "01? 12? 20?")) (aCons (eC (.str "00p0x1 01t2x2 10p1x1 11t0x2 20p2x1 21t1x2")) (aNil))))) (aNil)))))))))))))) (sRet (e2 ixM (eVar 1) (e2 modM (e2 modM (e1 intM (eVar 0)) (eC (.int 12))) (eC (.int 11)))))
def m__law_scene : List D → M D := runB 2 s__law_scene
theorem d__law_scene (F : Fn0 K mg "_law_scene" (topS 31) ["_law_draw"]) (B : Blt mg) : Own P w K mg base 1 "_law_scene" ["_law_draw"] m__law_scene :=
  own_def F sc__law_scene fun fa cdv A outer s H G μ E hr => by
    have hu := hr.units
    have hu1 := Nat.lt_of_le_of_lt (Nat.add_le_add_left (by decide : 1 ≤ 65) _) (hv_of hr)
    have hv := hv_of hr
    exact (jss_cons (js_set (i := 1) sc__law_scene.nd rfl (Or.inl rfl) (je_tup (ja_cons (je_tup (ja_cons je_int (ja_cons je_str (ja_cons je_str ja_nil)))) (ja_cons (je_tup (ja_cons je_int (ja_cons je_str (ja_cons je_str ja_nil)))) (ja_cons (je_tup (ja_cons je_int (ja_cons je_str (ja_cons je_str ja_nil)))) (ja_cons (je_tup (ja_cons je_int (ja_cons je_str (ja_cons je_str ja_nil)))) (ja_cons (je_tup (ja_cons je_int (ja_cons je_str (ja_cons je_str ja_nil)))) (ja_cons (je_tup (ja_cons je_int (ja_cons je_str (ja_cons je_str ja_nil)))) (ja_cons (je_tup (ja_cons je_int (ja_cons je_str (ja_cons je_str ja_nil)))) (ja_cons (je_tup (ja_cons je_int (ja_cons je_str (ja_cons je_str ja_nil)))) (ja_cons (je_tup (ja_cons je_int (ja_cons je_str (ja_cons je_str ja_nil)))) (ja_cons (je_tup (ja_cons je_int (ja_cons je_str (ja_cons je_str ja_nil)))) (ja_cons (je_tup (ja_cons je_int (ja_cons je_str (ja_cons je_str ja_nil)))) ja_nil))))))))))))) (jss_one (js_ret (je_ix ix_seq o_ix (JE.jb (jv 1)) (JE.jb (je_op op_mod o_mod (JE.jb (je_op op_mod o_mod (JE.jb (je_callTy call_intA c_int (by rfl) B.int (by decide +kernel) (JE.jb (jv 0)))) (JE.jb je_int))) (JE.jb je_int))) (fun _ _ => rfl)))))
theorem sc__law_rows : FnScope ["_law_draws_here", "_law_scene_here", "_law_many", "_law_rows_here", "_law_word", "_law_k", "_law_draw", "_law_sender"] ["_law_draws_here"] (defScope (topS 32)) := ⟨rfl, rfl, rfl, by decide +kernel, rfl, by decide +kernel, by decide +kernel⟩
def s__law_rows : En → M (Fl × En) := sSeq (sSet 1 (eCall 1 m__law_scene (aCons (e2 ixM (eVar 0) (eC (.int 0))) (aNil)))) (sSeq (sSet 2 (e2 ixM (eVar 1) (eC (.int 0)))) (sSeq (sOwn 3 (eLc (iSeq (e1 wordsM (e2 ixM (eVar 1) (eC (.int 1))))) (.nm 4) [4] (tTrue) (eTup (aCons (e1 intM (e2 ixM (eVar 4) (eC (.int 0)))) (aCons (e1 intM (e2 ixM (eVar 4) (eC (.int 1)))) (aCons (e2 ixM (eVar 4) (eC (.int 2))) (aNil))))))) (sSeq (sIf (tBl (e2 eqM (eVar 2) (eC (.int 0)))) (sSeq (sSet 2 (e2 modM (e1 intM (e2 ixM (eVar 0) (eC (.int 14)))) (eC (.int 4)))) (sIf (tBl (e2 gtM (eVar 2) (eC (.int 1)))) (sFor (iRange1 (aCons (e2 modM (e1 intM (e2 fdivM (e2 ixM (eVar 0) (eC (.int 14))) (eC (.int 4)))) (eC (.int 5))) (aNil))) (.nm 5) (sSeq (sSet 6 (e2 modM (e1 intM (e2 fdivM (e2 ixM (eVar 0) (eC (.int 15))) (e2 ixM (eTup (aCons (eC (.int 1)) (aCons (eC (.int 6)) (aCons (eC (.int 36)) (aCons (eC (.int 216)) (aNil)))))) (eVar 5)))) (eC (.int 6)))) (sSeq (sSet 7 (e2 modM (e1 intM (eVar 6)) (eVar 2))) (sApp 3 (eTup (aCons (eVar 7) (aCons (e2 modM (e1 intM (e2 addM (e2 addM (eVar 7) (eC (.int 1))) (e2 modM (e1 intM (e2 fdivM (eVar 6) (eVar 2))) (e2 subM (eVar 2) (eC (.int 1)))))) (eVar 2)) (aCons (eC (.str "?")) (aNil))))))))) (sNil))) (sNil)) (sFrz 3 (sRet (eTup (aCons (eVar 2) (aCons (eVar 3) (aNil)))))))))
def m__law_rows : List D → M D := runB 8 s__law_rows
theorem d__law_rows (F : Fn0 K mg "_law_rows" (topS 32) ["_law_draws_here"]) (B : Blt mg) (o__law_scene : Own P w K mg base 1 "_law_scene" ["_law_draw"] m__law_scene) : Own P w K mg base 2 "_law_rows" ["_law_draws_here"] m__law_rows :=
  own_def F sc__law_rows fun fa cdv A outer s H G μ E hr => by
    have hu := hr.units
    have hu1 := Nat.lt_of_le_of_lt (Nat.add_le_add_left (by decide : 1 ≤ 65) _) (hv_of hr)
    have hv := hv_of hr
    exact (jss_cons (js_set (i := 1) sc__law_rows.nd rfl (Or.inl rfl) (jcall o__law_scene (hr.mono (by decide)) (pd rfl rfl rfl rfl) (ja_cons (je_ix ix_seq o_ix (JE.jb (jv 0)) (JE.jb je_int) (fun _ _ => rfl)) ja_nil))) (jss_cons (js_set (i := 2) sc__law_rows.nd rfl (Or.inl rfl) (je_ix ix_seq o_ix (JE.jb (jv 1)) (JE.jb je_int) (fun _ _ => rfl))) (jss_cons (js_ownLc (i := 3) (own := [("_law_word", 4)]) rfl sc__law_rows.nd rfl rfl (sw_true rfl rfl rfl (by decide +kernel)) (ji_seq (je_words (JE.jb (je_ix ix_seq o_ix (JE.jb (jv 1)) (JE.jb je_int) (fun _ _ => rfl))))) (blkOk_by (N := ["_law_draws_here", "_law_scene_here", "_law_many", "_law_rows_here", "_law_word", "_law_k", "_law_draw", "_law_sender"]) (sc := defScope (topS 32)) (by decide +kernel)) (by decide) (fun _ _ _ _ _ => (pg_name (i := 4) sc__law_rows.nd rfl (Or.inl rfl))) (fun _ _ _ _ _ => jts_nil) (fun _ _ _ _ _ => (je_tup (ja_cons (je_callTy call_intA c_int (by rfl) B.int (by decide +kernel) (JE.jb (je_ix ix_seq o_ix (JE.jb (jv 4)) (JE.jb je_int) (fun _ _ => rfl)))) (ja_cons (je_callTy call_intA c_int (by rfl) B.int (by decide +kernel) (JE.jb (je_ix ix_seq o_ix (JE.jb (jv 4)) (JE.jb je_int) (fun _ _ => rfl)))) (ja_cons (je_ix ix_seq o_ix (JE.jb (jv 4)) (JE.jb je_int) (fun _ _ => rfl)) ja_nil)))))) (jss_cons (js_if (jt_cmp (op_eqD hu) o_eq (JE.jb (jv 2)) (JE.jb je_int) (nomark _)) (jss_cons (js_set (i := 2) sc__law_rows.nd rfl (Or.inl rfl) (je_op op_mod o_mod (JE.jb (je_callTy call_intA c_int (by rfl) B.int (by decide +kernel) (JE.jb (je_ix ix_seq o_ix (JE.jb (jv 0)) (JE.jb je_int) (fun _ _ => rfl))))) (JE.jb je_int))) (jss_one (js_if (jt_cmp op_gtO o_gt (JE.jb (jv 2)) (JE.jb je_int) (nomark _)) (jss_one (js_for (passes_of rfl) rfl (ji_range1 (by rfl) B.range (ja_cons (je_op op_mod o_mod (JE.jb (je_callTy call_intA c_int (by rfl) B.int (by decide +kernel) (JE.jb (je_op op_fdiv o_fdiv (JE.jb (je_ix ix_seq o_ix (JE.jb (jv 0)) (JE.jb je_int) (fun _ _ => rfl))) (JE.jb je_int))))) (JE.jb je_int)) ja_nil)) (pg_name (i := 5) sc__law_rows.nd rfl (Or.inl rfl)) (fun _ _ => (jss_cons (js_set (i := 6) sc__law_rows.nd rfl (Or.inl rfl) (je_op op_mod o_mod (JE.jb (je_callTy call_intA c_int (by rfl) B.int (by decide +kernel) (JE.jb (je_op op_fdiv o_fdiv (JE.jb (je_ix ix_seq o_ix (JE.jb (jv 0)) (JE.jb je_int) (fun _ _ => rfl))) (JE.jb (je_ix ix_seq o_ix (JE.jb (je_tup (ja_cons je_int (ja_cons je_int (ja_cons je_int (ja_cons je_int ja_nil)))))) (JE.jb (jv 5)) (fun _ _ => rfl))))))) (JE.jb je_int))) (jss_cons (js_set (i := 7) sc__law_rows.nd rfl (Or.inl rfl) (je_op op_mod o_mod (JE.jb (je_callTy call_intA c_int (by rfl) B.int (by decide +kernel) (JE.jb (jv 6)))) (JE.jb (jv 2)))) (jss_one (js_app (i := 3) rfl (Or.inl rfl) (je_tup (ja_cons (jv 7) (ja_cons (je_op op_mod o_mod (JE.jb (je_callTy call_intA c_int (by rfl) B.int (by decide +kernel) (JE.jb (je_op op_addA o_add (JE.jb (je_op op_addA o_add (JE.jb (jv 7)) (JE.jb je_int))) (JE.jb (je_op op_mod o_mod (JE.jb (je_callTy call_intA c_int (by rfl) B.int (by decide +kernel) (JE.jb (je_op op_fdiv o_fdiv (JE.jb (jv 6)) (JE.jb (jv 2)))))) (JE.jb (je_op op_sub o_sub (JE.jb (jv 2)) (JE.jb je_int))))))))) (JE.jb (jv 2))) (ja_cons je_str ja_nil)))) (hb := fun ho ha => pe_bm PySem.F.plainAttrs_list PySem.F.slot_list_append PySem.F.type_list_append mt_append ho ha)))))))) jss_nil))) jss_nil) (jss_one (js_frz (i := 3) (js_ret (je_tup (ja_cons (jv 2) (ja_cons (jv 3) ja_nil))))))))))
theorem sc__law_doings : FnScope ["_law_role", "_law_rows_here", "_law_channels", "_law_letters", "_law_found", "_law_c", "_law_letter"] ["_law_role", "_law_rows_here", "_law_channels", "_law_letters"] (defScope (topS 33)) := ⟨rfl, rfl, rfl, by decide +kernel, rfl, by decide +kernel, by decide +kernel⟩
def s__law_doings : En → M (Fl × En) := sSeq (sOwn 4 (fLst (aCons (eTup (aCons (eC (.str "do")) (aCons (e2 ixM (eVar 3) (eC (.int 3))) (aNil)))) (aNil)))) (sSeq (sFor (iRange1 (aCons (e1 lenM (eVar 1)) (aNil))) (.nm 5) (sFor (iSeq (eSl (eVar 3) oNo (oSo (eC (.int 2))))) (.nm 6) (sSeq (sIf (tBl (e2 eqM (e2 ixM (e2 ixM (eVar 1) (eVar 5)) (eC (.int 0))) (eVar 0))) (sApp 4 (eTup (aCons (eC (.str "put")) (aCons (e2 ixM (eVar 2) (eVar 5)) (aCons (eVar 6) (aNil)))))) (sNil)) (sIf (tBl (e2 eqM (e2 ixM (e2 ixM (eVar 1) (eVar 5)) (eC (.int 1))) (eVar 0))) (sApp 4 (eTup (aCons (eC (.str "take")) (aCons (e2 ixM (eVar 2) (eVar 5)) (aCons (eVar 6) (aNil)))))) (sNil))))) (sFrz 4 (sRet (eVar 4))))
def m__law_doings : List D → M D := runB 7 s__law_doings
theorem d__law_doings (F : Fn0 K mg "_law_doings" (topS 33) ["_law_role", "_law_rows_here", "_law_channels", "_law_letters"]) (B : Blt mg) : Own P w K mg base 1 "_law_doings" ["_law_role", "_law_rows_here", "_law_channels", "_law_letters"] m__law_doings :=
  own_def F sc__law_doings fun fa cdv A outer s H G μ E hr => by
    have hu := hr.units
    have hu1 := Nat.lt_of_le_of_lt (Nat.add_le_add_left (by decide : 1 ≤ 65) _) (hv_of hr)
    have hv := hv_of hr
    exact (jss_cons (js_own (i := 4) sc__law_doings.nd rfl (Or.inl rfl) (jf_lst (ja_cons (je_tup (ja_cons je_str (ja_cons (je_ix ix_seq o_ix (JE.jb (jv 3)) (JE.jb je_int) (fun _ _ => rfl)) ja_nil))) ja_nil))) (jss_cons (js_for (passes_of rfl) rfl (ji_range1 (by rfl) B.range (ja_cons (je_callB call_len c_len (by rfl) B.len (by decide +kernel) (JE.jb (jv 1))) ja_nil)) (pg_name (i := 5) sc__law_doings.nd rfl (Or.inl rfl)) (fun _ _ => (jss_one (js_for (passes_of rfl) rfl (ji_seq (je_slice (JE.jb (jv 3)) jo_no (jo_so je_int))) (pg_name (i := 6) sc__law_doings.nd rfl (Or.inl rfl)) (fun _ _ => (jss_cons (js_if (jt_cmp (op_eqD hu) o_eq (JE.jb (je_ix ix_seq o_ix (JE.jb (je_ix ix_seq o_ix (JE.jb (jv 1)) (JE.jb (jv 5)) (fun _ _ => rfl))) (JE.jb je_int) (fun _ _ => rfl))) (JE.jb (jv 0)) (nomark _)) (jss_one (js_app (i := 4) rfl (Or.inl rfl) (je_tup (ja_cons je_str (ja_cons (je_ix ix_seq o_ix (JE.jb (jv 2)) (JE.jb (jv 5)) (fun _ _ => rfl)) (ja_cons (jv 6) ja_nil)))) (hb := fun ho ha => pe_bm PySem.F.plainAttrs_list PySem.F.slot_list_append PySem.F.type_list_append mt_append ho ha))) jss_nil) (jss_one (js_if (jt_cmp (op_eqD hu) o_eq (JE.jb (je_ix ix_seq o_ix (JE.jb (je_ix ix_seq o_ix (JE.jb (jv 1)) (JE.jb (jv 5)) (fun _ _ => rfl))) (JE.jb je_int) (fun _ _ => rfl))) (JE.jb (jv 0)) (nomark _)) (jss_one (js_app (i := 4) rfl (Or.inl rfl) (je_tup (ja_cons je_str (ja_cons (je_ix ix_seq o_ix (JE.jb (jv 2)) (JE.jb (jv 5)) (fun _ _ => rfl)) (ja_cons (jv 6) ja_nil)))) (hb := fun ho ha => pe_bm PySem.F.plainAttrs_list PySem.F.slot_list_append PySem.F.type_list_append mt_append ho ha))) jss_nil)))))))) (jss_one (js_frz (i := 4) (js_ret (jv 4))))))
theorem sc__law_arrows : FnScope ["_law_draws_here", "_law_many", "_law_rows_here", "_law_channels", "_law_letters", "_law_found", "_law_role", "_law_scene_here", "_law_word", "_law_verb", "_law_doing_here", "_law_size", "_law_k", "_law_doings_here", "_law_draw", "_law_arrow"] ["_law_draws_here", "_law_many", "_law_rows_here", "_law_channels", "_law_letters"] (defScope (topS 34)) := ⟨rfl, rfl, rfl, by decide +kernel, rfl, by decide +kernel, by decide +kernel⟩
def s__law_arrows : En → M (Fl × En) := sSeq (sSet 5 (eL (eLc (iRange1 (aCons (eVar 1) (aNil))) (.nm 6) [6] (tTrue) (eNew (fLst aNil))))) (sSeq (sSet 7 (eCall 1 m__law_scene (aCons (e2 ixM (eVar 0) (eC (.int 0))) (aNil)))) (sSeq (sFor (iSeq (e1 wordsM (e2 ixM (eVar 7) (eC (.int 2))))) (.nm 8) (sSeq (sSet 9 (e2 dgM (eDict ["p", "t"] [eC (.str "put"), eC (.str "take")]) (e2 ixM (eVar 8) (eC (.int 2))))) (sSeq (sSet 10 (eTup (aCons (eVar 9) (aCons (e2 ixM (eVar 3) (e1 intM (e2 ixM (eVar 8) (eC (.int 3))))) (aCons (e2 ixM (eVar 4) (eM1 findM (eC (.str "xyz")) (e2 ixM (eVar 8) (eC (.int 4))))) (aNil)))))) (sAppE (e2 ixM (eVar 5) (e1 intM (e2 ixM (eVar 8) (eC (.int 0))))) (eTup (aCons (e1 intM (e2 ixM (eVar 8) (eC (.int 1)))) (aCons (eVar 10) (aCons (e1 intM (e2 ixM (eVar 8) (eC (.int 5)))) (aNil))))))))) (sSeq (sSet 11 (e2 addM (eC (.int 1)) (e2 modM (e1 intM (e2 fdivM (e2 ixM (eVar 0) (eC (.int 14))) (eC (.int 20)))) (eC (.int 3))))) (sSeq (sFor (iRange1 (aCons (eC (.int 14)) (aNil))) (.nm 12) (sSeq (sSet 6 (e2 modM (e1 intM (e2 ixM (eVar 0) (e2 addM (eC (.int 16)) (eVar 12)))) (e2 addM (e2 addM (eVar 1) (eC (.int 1))) (e2 ixM (eVar 7) (eC (.int 0)))))) (sIf (tAn (tBl (e2 ltM (eVar 6) (eVar 1))) (tOor (tBl (e2 eqM (e2 ixM (eVar 7) (eC (.int 0))) (eC (.int 0)))) (tBl (e2 gtM (eVar 12) (eC (.int 11)))))) (sSeq (sSet 13 (eCall 4 m__law_doings (aCons (eVar 6) (aCons (eVar 2) (aCons (eVar 3) (aCons (eVar 4) (aNil))))))) (sSeq (sSet 14 (e2 fdivM (e2 ixM (eVar 0) (e2 addM (eC (.int 16)) (eVar 12))) (e2 addM (e2 addM (eVar 1) (eC (.int 1))) (e2 ixM (eVar 7) (eC (.int 0)))))) (sSeq (sSet 10 (e2 ixM (eVar 13) (e2 modM (e1 intM (e2 fdivM (eVar 14) (eVar 11))) (e1 lenM (eVar 13))))) (sSeq (sSet 15 (eTup (aCons (e2 modM (e1 intM (eVar 14)) (eVar 11)) (aCons (eVar 10) (aCons (e2 modM (e1 intM (e2 fdivM (eVar 14) (e2 mulM (eVar 11) (e1 lenM (eVar 13))))) (eVar 11)) (aNil)))))) (sIf (tAn (tBl (e2 (drR notInM) (eVar 15) (e2 ixM (eVar 5) (eVar 6)))) (tBl (e2 ltM (e1 (dr1 lenM) (e2 ixM (eVar 5) (eVar 6))) (eC (.int 7))))) (sAppE (e2 ixM (eVar 5) (eVar 6)) (eVar 15)) (sNil)))))) (sNil)))) (sRet (eVar 5))))))
def m__law_arrows : List D → M D := runB 16 s__law_arrows
theorem d__law_arrows (F : Fn0 K mg "_law_arrows" (topS 34) ["_law_draws_here", "_law_many", "_law_rows_here", "_law_channels", "_law_letters"]) (B : Blt mg) (o__law_scene : Own P w K mg base 1 "_law_scene" ["_law_draw"] m__law_scene) (o__law_doings : Own P w K mg base 1 "_law_doings" ["_law_role", "_law_rows_here", "_law_channels", "_law_letters"] m__law_doings) : Own P w K mg base 2 "_law_arrows" ["_law_draws_here", "_law_many", "_law_rows_here", "_law_channels", "_law_letters"] m__law_arrows :=
  own_def F sc__law_arrows fun fa cdv A outer s H G μ E hr => by
    have hu := hr.units
    have hu1 := Nat.lt_of_le_of_lt (Nat.add_le_add_left (by decide : 1 ≤ 65) _) (hv_of hr)
    have hv := hv_of hr
    exact (jss_cons (js_setLc (i := 5) (own := [("_law_role", 6)]) rfl sc__law_arrows.nd rfl rfl (sw_true rfl rfl rfl (by decide +kernel)) (ji_range1 (by rfl) B.range (ja_cons (jv 1) ja_nil)) (blkOk_by (N := ["_law_draws_here", "_law_many", "_law_rows_here", "_law_channels", "_law_letters", "_law_found", "_law_role", "_law_scene_here", "_law_word", "_law_verb", "_law_doing_here", "_law_size", "_law_k", "_law_doings_here", "_law_draw", "_law_arrow"]) (sc := defScope (topS 34)) (by decide +kernel)) (by decide) (fun _ _ _ _ _ => (pg_name (i := 6) sc__law_arrows.nd rfl (Or.inl rfl))) (fun _ _ _ _ _ => jts_nil) (fun _ _ _ _ _ => (JF.new (jf_lst ja_nil)))) (jss_cons (js_set (i := 7) sc__law_arrows.nd rfl (Or.inl rfl) (jcall o__law_scene (hr.mono (by decide)) (pd rfl rfl rfl rfl) (ja_cons (je_ix ix_seq o_ix (JE.jb (jv 0)) (JE.jb je_int) (fun _ _ => rfl)) ja_nil))) (jss_cons (js_for (passes_of rfl) rfl (ji_seq (je_words (JE.jb (je_ix ix_seq o_ix (JE.jb (jv 7)) (JE.jb je_int) (fun _ _ => rfl))))) (pg_name (i := 8) sc__law_arrows.nd rfl (Or.inl rfl)) (fun _ _ => (jss_cons (js_set (i := 9) sc__law_arrows.nd rfl (Or.inl rfl) (je_dget hu1 (je_dict (.cons je_str (.cons je_str .nil))) (je_ix ix_seq o_ix (JE.jb (jv 8)) (JE.jb je_int) (fun _ _ => rfl)))) (jss_cons (js_set (i := 10) sc__law_arrows.nd rfl (Or.inl rfl) (je_tup (ja_cons (jv 9) (ja_cons (je_ix ix_seq o_ix (JE.jb (jv 3)) (JE.jb (je_callTy call_intA c_int (by rfl) B.int (by decide +kernel) (JE.jb (je_ix ix_seq o_ix (JE.jb (jv 8)) (JE.jb je_int) (fun _ _ => rfl))))) (fun _ _ => rfl)) (ja_cons (je_ix ix_seq o_ix (JE.jb (jv 4)) (JE.jb (je_find (JE.jb je_str) (JE.jb (je_ix ix_seq o_ix (JE.jb (jv 8)) (JE.jb je_int) (fun _ _ => rfl))))) (fun _ _ => rfl)) ja_nil))))) (jss_one (js_appE (je_ix ix_seq o_ix (JE.jb (jv 5)) (JE.jb (je_callTy call_intA c_int (by rfl) B.int (by decide +kernel) (JE.jb (je_ix ix_seq o_ix (JE.jb (jv 8)) (JE.jb je_int) (fun _ _ => rfl))))) (fun _ _ => rfl)) (je_tup (ja_cons (je_callTy call_intA c_int (by rfl) B.int (by decide +kernel) (JE.jb (je_ix ix_seq o_ix (JE.jb (jv 8)) (JE.jb je_int) (fun _ _ => rfl)))) (ja_cons (jv 10) (ja_cons (je_callTy call_intA c_int (by rfl) B.int (by decide +kernel) (JE.jb (je_ix ix_seq o_ix (JE.jb (jv 8)) (JE.jb je_int) (fun _ _ => rfl)))) ja_nil)))) (hb := fun ho ha => pe_bm PySem.F.plainAttrs_list PySem.F.slot_list_append PySem.F.type_list_append mt_append ho ha))))))) (jss_cons (js_set (i := 11) sc__law_arrows.nd rfl (Or.inl rfl) (je_op op_addA o_add (JE.jb je_int) (JE.jb (je_op op_mod o_mod (JE.jb (je_callTy call_intA c_int (by rfl) B.int (by decide +kernel) (JE.jb (je_op op_fdiv o_fdiv (JE.jb (je_ix ix_seq o_ix (JE.jb (jv 0)) (JE.jb je_int) (fun _ _ => rfl))) (JE.jb je_int))))) (JE.jb je_int))))) (jss_cons (js_for (passes_of rfl) rfl (ji_range1 (by rfl) B.range (ja_cons je_int ja_nil)) (pg_name (i := 12) sc__law_arrows.nd rfl (Or.inl rfl)) (fun _ _ => (jss_cons (js_set (i := 6) sc__law_arrows.nd rfl (Or.inl rfl) (je_op op_mod o_mod (JE.jb (je_callTy call_intA c_int (by rfl) B.int (by decide +kernel) (JE.jb (je_ix ix_seq o_ix (JE.jb (jv 0)) (JE.jb (je_op op_addA o_add (JE.jb je_int) (JE.jb (jv 12)))) (fun _ _ => rfl))))) (JE.jb (je_op op_addA o_add (JE.jb (je_op op_addA o_add (JE.jb (jv 1)) (JE.jb je_int))) (JE.jb (je_ix ix_seq o_ix (JE.jb (jv 7)) (JE.jb je_int) (fun _ _ => rfl))))))) (jss_one (js_if (JW.jt (jw_and (jt_cmp op_ltO o_lt (JE.jb (jv 6)) (JE.jb (jv 1)) (nomark _)) (jw_and1 (JW.jt (jw_or (jt_cmp (op_eqD hu) o_eq (JE.jb (je_ix ix_seq o_ix (JE.jb (jv 7)) (JE.jb je_int) (fun _ _ => rfl))) (JE.jb je_int) (nomark _)) (jw_or1 (jt_cmp op_gtO o_gt (JE.jb (jv 12)) (JE.jb je_int) (nomark _)))))))) (jss_cons (js_set (i := 13) sc__law_arrows.nd rfl (Or.inl rfl) (jcall o__law_doings (hr.mono (by decide)) (pd rfl rfl rfl rfl) (ja_cons (jv 6) (ja_cons (jv 2) (ja_cons (jv 3) (ja_cons (jv 4) ja_nil)))))) (jss_cons (js_set (i := 14) sc__law_arrows.nd rfl (Or.inl rfl) (je_op op_fdiv o_fdiv (JE.jb (je_ix ix_seq o_ix (JE.jb (jv 0)) (JE.jb (je_op op_addA o_add (JE.jb je_int) (JE.jb (jv 12)))) (fun _ _ => rfl))) (JE.jb (je_op op_addA o_add (JE.jb (je_op op_addA o_add (JE.jb (jv 1)) (JE.jb je_int))) (JE.jb (je_ix ix_seq o_ix (JE.jb (jv 7)) (JE.jb je_int) (fun _ _ => rfl))))))) (jss_cons (js_set (i := 10) sc__law_arrows.nd rfl (Or.inl rfl) (je_ix ix_seq o_ix (JE.jb (jv 13)) (JE.jb (je_op op_mod o_mod (JE.jb (je_callTy call_intA c_int (by rfl) B.int (by decide +kernel) (JE.jb (je_op op_fdiv o_fdiv (JE.jb (jv 14)) (JE.jb (jv 11)))))) (JE.jb (je_callB call_len c_len (by rfl) B.len (by decide +kernel) (JE.jb (jv 13)))))) (fun _ _ => rfl))) (jss_cons (js_set (i := 15) sc__law_arrows.nd rfl (Or.inl rfl) (je_tup (ja_cons (je_op op_mod o_mod (JE.jb (je_callTy call_intA c_int (by rfl) B.int (by decide +kernel) (JE.jb (jv 14)))) (JE.jb (jv 11))) (ja_cons (jv 10) (ja_cons (je_op op_mod o_mod (JE.jb (je_callTy call_intA c_int (by rfl) B.int (by decide +kernel) (JE.jb (je_op op_fdiv o_fdiv (JE.jb (jv 14)) (JE.jb (je_op op_mul o_mul (JE.jb (jv 11)) (JE.jb (je_callB call_len c_len (by rfl) B.len (by decide +kernel) (JE.jb (jv 13)))))))))) (JE.jb (jv 11))) ja_nil))))) (jss_one (js_if (JW.jt (jw_and (jt_cmp (op_notInB hv) (dr_r o_notIn) (JE.jb (jv 15)) (JE.jb (je_ix ix_seq o_ix (JE.jb (jv 5)) (JE.jb (jv 6)) (fun _ _ => rfl))) (by rfl)) (jw_and1 (jt_cmp op_ltO o_lt (JE.jb (je_callB call_len (dr_c c_len) (by rfl) B.len (by decide +kernel) (JE.jb (je_ix ix_seq o_ix (JE.jb (jv 5)) (JE.jb (jv 6)) (fun _ _ => rfl))))) (JE.jb je_int) (nomark _))))) (jss_one (js_appE (je_ix ix_seq o_ix (JE.jb (jv 5)) (JE.jb (jv 6)) (fun _ _ => rfl)) (jv 15) (hb := fun ho ha => pe_bm PySem.F.plainAttrs_list PySem.F.slot_list_append PySem.F.type_list_append mt_append ho ha))) jss_nil)))))) jss_nil))))) (jss_one (js_ret (jv 5))))))))
theorem sc__law_form : FnScope ["_law_mark", "_law_draw", "_law_k"] ["_law_mark", "_law_draw", "_law_k"] (defScope (topS 35)) := ⟨rfl, rfl, rfl, by decide +kernel, rfl, by decide +kernel, by decide +kernel⟩
def s__law_form : En → M (Fl × En) := sSeq (sIf (tBl (e2 neM (eVar 0) (eC (.str "?")))) (sRet (e2 dgM (eDict ["b", "c"] [eC (.str "bag"), eC (.str "call")]) (eVar 0))) (sNil)) (sRet (e2 ixM (eTup (aCons (eC (.str "queue")) (aCons (eC (.str "queue")) (aCons (eC (.str "bag")) (aCons (eC (.str "bag")) (aCons (eC (.str "call")) (aNil))))))) (e2 modM (e1 intM (e2 fdivM (eVar 1) (e2 ixM (eTup (aCons (eC (.int 1)) (aCons (eC (.int 5)) (aCons (eC (.int 25)) (aCons (eC (.int 125)) (aNil)))))) (eVar 2)))) (eC (.int 5)))))
def m__law_form : List D → M D := runB 3 s__law_form
theorem d__law_form (F : Fn0 K mg "_law_form" (topS 35) ["_law_mark", "_law_draw", "_law_k"]) (B : Blt mg) : Own P w K mg base 1 "_law_form" ["_law_mark", "_law_draw", "_law_k"] m__law_form :=
  own_def F sc__law_form fun fa cdv A outer s H G μ E hr => by
    have hu := hr.units
    have hu1 := Nat.lt_of_le_of_lt (Nat.add_le_add_left (by decide : 1 ≤ 65) _) (hv_of hr)
    have hv := hv_of hr
    exact (jss_cons (js_if (jt_cmp (op_neD hu) o_ne (JE.jb (jv 0)) (JE.jb je_str) (nomark _)) (jss_one (js_ret (je_dget hu1 (je_dict (.cons je_str (.cons je_str .nil))) (jv 0)))) jss_nil) (jss_one (js_ret (je_ix ix_seq o_ix (JE.jb (je_tup (ja_cons je_str (ja_cons je_str (ja_cons je_str (ja_cons je_str (ja_cons je_str ja_nil))))))) (JE.jb (je_op op_mod o_mod (JE.jb (je_callTy call_intA c_int (by rfl) B.int (by decide +kernel) (JE.jb (je_op op_fdiv o_fdiv (JE.jb (jv 1)) (JE.jb (je_ix ix_seq o_ix (JE.jb (je_tup (ja_cons je_int (ja_cons je_int (ja_cons je_int (ja_cons je_int ja_nil)))))) (JE.jb (jv 2)) (fun _ _ => rfl))))))) (JE.jb je_int))) (fun _ _ => rfl)))))
theorem sc__law_program : FnScope ["_law_draws_here", "_law_people", "_law_channels", "_law_letters", "_law_many", "_law_rows_here", "_law_arrows_here", "_law_told", "_law_c", "_law_form_here", "_law_parties", "_law_role", "_law_ends", "_law_place"] ["_law_draws_here"] (defScope (topS 36)) := ⟨rfl, rfl, rfl, by decide +kernel, rfl, by decide +kernel, by decide +kernel⟩
def s__law_program : En → M (Fl × En) := sSeq (sSet 1 (eCall 3 m__law_names (aCons (eVar 0) (aCons (eC (.int 2)) (aCons (eC (.int 4)) (aNil)))))) (sSeq (sSet 2 (eCall 3 m__law_names (aCons (eVar 0) (aCons (eC (.int 6)) (aCons (eC (.int 4)) (aNil)))))) (sSeq (sIf (tBl (e2 eqM (e2 modM (e1 intM (e2 ixM (eVar 0) (eC (.int 34)))) (eC (.int 6))) (eC (.int 0)))) (sSet 2 (eCall 3 m__law_names (aCons (eVar 0) (aCons (eC (.int 2)) (aCons (eC (.int 4)) (aNil)))))) (sNil)) (sSeq (sSet 3 (eCall 3 m__law_names (aCons (eVar 0) (aCons (eC (.int 10)) (aCons (eC (.int 4)) (aNil)))))) (sSeq (sUn (.tp [4, 5]) (eCall 1 m__law_rows (aCons (eVar 0) (aNil)))) (sSeq (sSet 6 (eCall 5 m__law_arrows (aCons (eVar 0) (aCons (eVar 4) (aCons (eVar 5) (aCons (eVar 2) (aCons (eVar 3) (aNil)))))))) (sSeq (sOwn 7 (fLst (aNil))) (sSeq (sFor (iRange1 (aCons (e1 lenM (eVar 5)) (aNil))) (.nm 8) (sSeq (sSet 9 (eCall 3 m__law_form (aCons (e2 ixM (e2 ixM (eVar 5) (eVar 8)) (eC (.int 2))) (aCons (e2 ixM (eVar 0) (eC (.int 30))) (aCons (eVar 8) (aNil)))))) (sApp 7 (eTup (aCons (e2 ixM (eVar 2) (eVar 8)) (aCons (e2 ixM (eVar 1) (e2 ixM (e2 ixM (eVar 5) (eVar 8)) (eC (.int 0)))) (aCons (e2 ixM (eVar 1) (e2 ixM (e2 ixM (eVar 5) (eVar 8)) (eC (.int 1)))) (aCons (eVar 9) (aNil))))))))) (sSeq (sOwn 10 (fLst (aNil))) (sSeq (sFor (iRange1 (aCons (eVar 4) (aNil))) (.nm 11) (sSeq (sSet 12 (eL (eLc (iRange1 (aCons (eC (.int 4)) (aNil))) (.nm 13) [13] (tBl (e2 eqM (e2 modM (e1 intM (e2 fdivM (e2 ixM (eVar 0) (e2 addM (eC (.int 31)) (eVar 11))) (e2 ixM (eTup (aCons (eC (.int 1)) (aCons (eC (.int 2)) (aCons (eC (.int 4)) (aCons (eC (.int 8)) (aNil)))))) (eVar 13)))) (eC (.int 2))) (eC (.int 1)))) (eVar 13)))) (sApp 10 (eTup (aCons (e2 ixM (eVar 1) (eVar 11)) (aCons (e1 tupM (eVar 12)) (aCons (e1 (dr1 tupM) (e2 ixM (eVar 6) (eVar 11))) (aNil)))))))) (sRet (eTup (aCons (e1 tupM (e1 ssetN (eLook 10))) (aCons (e1 tupM (e1 ssetN (eLook 7))) (aNil))))))))))))))
def m__law_program : List D → M D := runB 14 s__law_program
theorem d__law_program (F : Fn0 K mg "_law_program" (topS 36) ["_law_draws_here"]) (B : Blt mg) (o__law_names : Own P w K mg base 1 "_law_names" ["_law_draws_here", "_law_at", "_law_many"] m__law_names) (o__law_rows : Own P w K mg base 2 "_law_rows" ["_law_draws_here"] m__law_rows) (o__law_arrows : Own P w K mg base 2 "_law_arrows" ["_law_draws_here", "_law_many", "_law_rows_here", "_law_channels", "_law_letters"] m__law_arrows) (o__law_form : Own P w K mg base 1 "_law_form" ["_law_mark", "_law_draw", "_law_k"] m__law_form) : Own P w K mg base 3 "_law_program" ["_law_draws_here"] m__law_program :=
  own_def F sc__law_program fun fa cdv A outer s H G μ E hr => by
    have hu := hr.units
    have hu1 := Nat.lt_of_le_of_lt (Nat.add_le_add_left (by decide : 1 ≤ 65) _) (hv_of hr)
    have hv := hv_of hr
    exact (jss_cons (js_set (i := 1) sc__law_program.nd rfl (Or.inl rfl) (jcall o__law_names (hr.mono (by decide)) (pd rfl rfl rfl rfl) (ja_cons (jv 0) (ja_cons je_int (ja_cons je_int ja_nil))))) (jss_cons (js_set (i := 2) sc__law_program.nd rfl (Or.inl rfl) (jcall o__law_names (hr.mono (by decide)) (pd rfl rfl rfl rfl) (ja_cons (jv 0) (ja_cons je_int (ja_cons je_int ja_nil))))) (jss_cons (js_if (jt_cmp (op_eqD hu) o_eq (JE.jb (je_op op_mod o_mod (JE.jb (je_callTy call_intA c_int (by rfl) B.int (by decide +kernel) (JE.jb (je_ix ix_seq o_ix (JE.jb (jv 0)) (JE.jb je_int) (fun _ _ => rfl))))) (JE.jb je_int))) (JE.jb je_int) (nomark _)) (jss_one (js_set (i := 2) sc__law_program.nd rfl (Or.inl rfl) (jcall o__law_names (hr.mono (by decide)) (pd rfl rfl rfl rfl) (ja_cons (jv 0) (ja_cons je_int (ja_cons je_int ja_nil)))))) jss_nil) (jss_cons (js_set (i := 3) sc__law_program.nd rfl (Or.inl rfl) (jcall o__law_names (hr.mono (by decide)) (pd rfl rfl rfl rfl) (ja_cons (jv 0) (ja_cons je_int (ja_cons je_int ja_nil))))) (jss_cons (js_un (pt := (.tp [4, 5])) (jcall o__law_rows (hr.mono (by decide)) (pd rfl rfl rfl rfl) (ja_cons (jv 0) ja_nil)) (pg_tup rfl (pgs_cons (pg_name (i := 4) sc__law_program.nd rfl (Or.inl rfl)) (pgs_cons (pg_name (i := 5) sc__law_program.nd rfl (Or.inl rfl)) pgs_nil)))) (jss_cons (js_set (i := 6) sc__law_program.nd rfl (Or.inl rfl) (jcall o__law_arrows (hr.mono (by decide)) (pd rfl rfl rfl rfl) (ja_cons (jv 0) (ja_cons (jv 4) (ja_cons (jv 5) (ja_cons (jv 2) (ja_cons (jv 3) ja_nil))))))) (jss_cons (js_own (i := 7) sc__law_program.nd rfl (Or.inl rfl) (jf_lst ja_nil)) (jss_cons (js_for (passes_of rfl) rfl (ji_range1 (by rfl) B.range (ja_cons (je_callB call_len c_len (by rfl) B.len (by decide +kernel) (JE.jb (jv 5))) ja_nil)) (pg_name (i := 8) sc__law_program.nd rfl (Or.inl rfl)) (fun _ _ => (jss_cons (js_set (i := 9) sc__law_program.nd rfl (Or.inl rfl) (jcall o__law_form (hr.mono (by decide)) (pd rfl rfl rfl rfl) (ja_cons (je_ix ix_seq o_ix (JE.jb (je_ix ix_seq o_ix (JE.jb (jv 5)) (JE.jb (jv 8)) (fun _ _ => rfl))) (JE.jb je_int) (fun _ _ => rfl)) (ja_cons (je_ix ix_seq o_ix (JE.jb (jv 0)) (JE.jb je_int) (fun _ _ => rfl)) (ja_cons (jv 8) ja_nil))))) (jss_one (js_app (i := 7) rfl (Or.inl rfl) (je_tup (ja_cons (je_ix ix_seq o_ix (JE.jb (jv 2)) (JE.jb (jv 8)) (fun _ _ => rfl)) (ja_cons (je_ix ix_seq o_ix (JE.jb (jv 1)) (JE.jb (je_ix ix_seq o_ix (JE.jb (je_ix ix_seq o_ix (JE.jb (jv 5)) (JE.jb (jv 8)) (fun _ _ => rfl))) (JE.jb je_int) (fun _ _ => rfl))) (fun _ _ => rfl)) (ja_cons (je_ix ix_seq o_ix (JE.jb (jv 1)) (JE.jb (je_ix ix_seq o_ix (JE.jb (je_ix ix_seq o_ix (JE.jb (jv 5)) (JE.jb (jv 8)) (fun _ _ => rfl))) (JE.jb je_int) (fun _ _ => rfl))) (fun _ _ => rfl)) (ja_cons (jv 9) ja_nil))))) (hb := fun ho ha => pe_bm PySem.F.plainAttrs_list PySem.F.slot_list_append PySem.F.type_list_append mt_append ho ha)))))) (jss_cons (js_own (i := 10) sc__law_program.nd rfl (Or.inl rfl) (jf_lst ja_nil)) (jss_cons (js_for (passes_of rfl) rfl (ji_range1 (by rfl) B.range (ja_cons (jv 4) ja_nil)) (pg_name (i := 11) sc__law_program.nd rfl (Or.inr rfl)) (fun _ _ => (jss_cons (js_setLc (i := 12) (own := [("_law_place", 13)]) rfl sc__law_program.nd rfl rfl (sw_true rfl rfl rfl (by decide +kernel)) (ji_range1 (by rfl) B.range (ja_cons je_int ja_nil)) (blkOk_by (N := ["_law_draws_here", "_law_people", "_law_channels", "_law_letters", "_law_many", "_law_rows_here", "_law_arrows_here", "_law_told", "_law_c", "_law_form_here", "_law_parties", "_law_role", "_law_ends", "_law_place"]) (sc := defScope (topS 36)) (by decide +kernel)) (by decide) (fun _ _ _ _ _ => (pg_name (i := 13) sc__law_program.nd rfl (Or.inl rfl))) (fun _ _ _ _ _ => (jts_one (jt_cmp (op_eqD hu) o_eq (JE.jb (je_op op_mod o_mod (JE.jb (je_callTy call_intA c_int (by rfl) B.int (by decide +kernel) (JE.jb (je_op op_fdiv o_fdiv (JE.jb (je_ix ix_seq o_ix (JE.jb (jv 0)) (JE.jb (je_op op_addA o_add (JE.jb je_int) (JE.jb (jv 11)))) (fun _ _ => rfl))) (JE.jb (je_ix ix_seq o_ix (JE.jb (je_tup (ja_cons je_int (ja_cons je_int (ja_cons je_int (ja_cons je_int ja_nil)))))) (JE.jb (jv 13)) (fun _ _ => rfl))))))) (JE.jb je_int))) (JE.jb je_int) (nomark _)))) (fun _ _ _ _ _ => (jv 13))) (jss_one (js_app (i := 10) rfl (Or.inl rfl) (je_tup (ja_cons (je_ix ix_seq o_ix (JE.jb (jv 1)) (JE.jb (jv 11)) (fun _ _ => rfl)) (ja_cons (je_callTy call_tuple_of c_tup (by rfl) B.tuple (by decide +kernel) (JE.jb (jv 12))) (ja_cons (je_callTy call_tuple_of (dr_c c_tup) (by rfl) B.tuple (by decide +kernel) (JE.jb (je_ix ix_seq o_ix (JE.jb (jv 6)) (JE.jb (jv 11)) (fun _ _ => rfl)))) ja_nil)))) (hb := fun ho ha => pe_bm PySem.F.plainAttrs_list PySem.F.slot_list_append PySem.F.type_list_append mt_append ho ha)))))) (jss_one (js_ret (je_tup (ja_cons (je_callTy call_tuple_of c_tup (by rfl) B.tuple (by decide +kernel) (JE.jb (je_ssetN rfl hv (by rfl) B.sorted (by rfl) B.set (jw 10)))) (ja_cons (je_callTy call_tuple_of c_tup (by rfl) B.tuple (by decide +kernel) (JE.jb (je_ssetN rfl hv (by rfl) B.sorted (by rfl) B.set (jw 7)))) ja_nil)))))))))))))))
theorem sc__law_arrow_of : FnScope ["_law_program_here", "_law_event", "_law_party"] ["_law_program_here", "_law_event"] (defScope (topS 37)) := ⟨rfl, rfl, rfl, by decide +kernel, rfl, by decide +kernel, by decide +kernel⟩
def s__law_arrow_of : En → M (Fl × En) := sRet (e2 ixM (e2 ixM (e2 ixM (eL (eLc (iSeq (e2 ixM (eVar 0) (eC (.int 0)))) (.nm 2) [2] (tBl (e2 eqM (e2 ixM (eVar 2) (eC (.int 0))) (e2 ixM (eVar 1) (eC (.int 0))))) (eVar 2))) (eC (.int 0))) (eC (.int 2))) (e2 ixM (eVar 1) (eC (.int 1))))
def m__law_arrow_of : List D → M D := runB 3 s__law_arrow_of
theorem d__law_arrow_of (F : Fn0 K mg "_law_arrow_of" (topS 37) ["_law_program_here", "_law_event"]) (B : Blt mg) : Own P w K mg base 1 "_law_arrow_of" ["_law_program_here", "_law_event"] m__law_arrow_of :=
  own_def F sc__law_arrow_of fun fa cdv A outer s H G μ E hr => by
    have hu := hr.units
    have hu1 := Nat.lt_of_le_of_lt (Nat.add_le_add_left (by decide : 1 ≤ 65) _) (hv_of hr)
    have hv := hv_of hr
    exact (jss_one (js_ret (je_ix ix_seq o_ix (JE.jb (je_ix ix_seq o_ix (JE.jb (je_ix ix_seq o_ix (JE.jb (JF.je (jf_lc (own := [("_law_party", 2)]) rfl sc__law_arrow_of.nd (ji_seq (je_ix ix_seq o_ix (JE.jb (jv 0)) (JE.jb je_int) (fun _ _ => rfl))) (blkOk_by (N := ["_law_program_here", "_law_event", "_law_party"]) (sc := defScope (topS 37)) (by decide +kernel)) (by decide) (fun _ _ _ _ _ => (pg_name (i := 2) sc__law_arrow_of.nd rfl (Or.inl rfl))) (fun _ _ _ _ _ => (jts_one (jt_cmp (op_eqD hu) o_eq (JE.jb (je_ix ix_seq o_ix (JE.jb (jv 2)) (JE.jb je_int) (fun _ _ => rfl))) (JE.jb (je_ix ix_seq o_ix (JE.jb (jv 1)) (JE.jb je_int) (fun _ _ => rfl))) (nomark _)))) (fun _ _ _ _ _ => (jv 2))))) (JE.jb je_int) (fun _ _ => rfl))) (JE.jb je_int) (fun _ _ => rfl))) (JE.jb (je_ix ix_seq o_ix (JE.jb (jv 1)) (JE.jb je_int) (fun _ _ => rfl))) (fun _ _ => rfl))))
theorem sc__law_doing : FnScope ["_law_program_here", "_law_event"] ["_law_program_here", "_law_event"] (defScope (topS 38)) := ⟨rfl, rfl, rfl, by decide +kernel, rfl, by decide +kernel, by decide +kernel⟩
def s__law_doing : En → M (Fl × En) := sRet (e2 ixM (eCall 2 m__law_arrow_of (aCons (eVar 0) (aCons (eVar 1) (aNil)))) (eC (.int 1)))
def m__law_doing : List D → M D := runB 2 s__law_doing
theorem d__law_doing (F : Fn0 K mg "_law_doing" (topS 38) ["_law_program_here", "_law_event"]) (B : Blt mg) (o__law_arrow_of : Own P w K mg base 1 "_law_arrow_of" ["_law_program_here", "_law_event"] m__law_arrow_of) : Own P w K mg base 2 "_law_doing" ["_law_program_here", "_law_event"] m__law_doing :=
  own_def F sc__law_doing fun fa cdv A outer s H G μ E hr => by
    have hu := hr.units
    have hu1 := Nat.lt_of_le_of_lt (Nat.add_le_add_left (by decide : 1 ≤ 65) _) (hv_of hr)
    have hv := hv_of hr
    exact (jss_one (js_ret (je_ix ix_seq o_ix (JE.jb (jcall o__law_arrow_of (hr.mono (by decide)) (pd rfl rfl rfl rfl) (ja_cons (jv 0) (ja_cons (jv 1) ja_nil)))) (JE.jb je_int) (fun _ _ => rfl))))
theorem sc__law_takes : FnScope ["_law_program_here", "_law_places_here", "_law_channel", "_law_letter", "_law_found", "_law_at", "_law_k"] ["_law_program_here", "_law_places_here", "_law_channel", "_law_letter"] (defScope (topS 39)) := ⟨rfl, rfl, rfl, by decide +kernel, rfl, by decide +kernel, by decide +kernel⟩
def s__law_takes : En → M (Fl × En) := sSeq (sOwn 4 (fLst (aNil))) (sSeq (sFor (iRange1 (aCons (e1 lenM (e2 ixM (eVar 0) (eC (.int 0)))) (aNil))) (.nm 5) (sFor (iRange1 (aCons (e1 lenM (e2 ixM (e2 ixM (e2 ixM (eVar 0) (eC (.int 0))) (eVar 5)) (eC (.int 2)))) (aNil))) (.nm 6) (sIf (tBl (e2 eqM (eSl (e2 ixM (e2 ixM (e2 ixM (e2 ixM (eVar 0) (eC (.int 0))) (eVar 5)) (eC (.int 2))) (eVar 6)) oNo (oSo (eC (.int 2)))) (eTup (aCons (e2 (drL ixM) (eVar 1) (eVar 5)) (aCons (eTup (aCons (eC (.str "take")) (aCons (eVar 2) (aCons (eVar 3) (aNil))))) (aNil)))))) (sApp 4 (eTup (aCons (e2 ixM (e2 ixM (e2 ixM (eVar 0) (eC (.int 0))) (eVar 5)) (eC (.int 0))) (aCons (eVar 6) (aNil))))) (sNil)))) (sFrz 4 (sRet (eVar 4))))
def m__law_takes : List D → M D := runB 7 s__law_takes
theorem d__law_takes (F : Fn0 K mg "_law_takes" (topS 39) ["_law_program_here", "_law_places_here", "_law_channel", "_law_letter"]) (B : Blt mg) : Own P w K mg base 1 "_law_takes" ["_law_program_here", "_law_places_here", "_law_channel", "_law_letter"] m__law_takes :=
  own_def F sc__law_takes fun fa cdv A outer s H G μ E hr => by
    have hu := hr.units
    have hu1 := Nat.lt_of_le_of_lt (Nat.add_le_add_left (by decide : 1 ≤ 65) _) (hv_of hr)
    have hv := hv_of hr
    exact (jss_cons (js_own (i := 4) sc__law_takes.nd rfl (Or.inl rfl) (jf_lst ja_nil)) (jss_cons (js_for (passes_of rfl) rfl (ji_range1 (by rfl) B.range (ja_cons (je_callB call_len c_len (by rfl) B.len (by decide +kernel) (JE.jb (je_ix ix_seq o_ix (JE.jb (jv 0)) (JE.jb je_int) (fun _ _ => rfl)))) ja_nil)) (pg_name (i := 5) sc__law_takes.nd rfl (Or.inl rfl)) (fun _ _ => (jss_one (js_for (passes_of rfl) rfl (ji_range1 (by rfl) B.range (ja_cons (je_callB call_len c_len (by rfl) B.len (by decide +kernel) (JE.jb (je_ix ix_seq o_ix (JE.jb (je_ix ix_seq o_ix (JE.jb (je_ix ix_seq o_ix (JE.jb (jv 0)) (JE.jb je_int) (fun _ _ => rfl))) (JE.jb (jv 5)) (fun _ _ => rfl))) (JE.jb je_int) (fun _ _ => rfl)))) ja_nil)) (pg_name (i := 6) sc__law_takes.nd rfl (Or.inl rfl)) (fun _ _ => (jss_one (js_if (jt_cmp (op_eqD hu) o_eq (JE.jb (je_slice (JE.jb (je_ix ix_seq o_ix (JE.jb (je_ix ix_seq o_ix (JE.jb (je_ix ix_seq o_ix (JE.jb (je_ix ix_seq o_ix (JE.jb (jv 0)) (JE.jb je_int) (fun _ _ => rfl))) (JE.jb (jv 5)) (fun _ _ => rfl))) (JE.jb je_int) (fun _ _ => rfl))) (JE.jb (jv 6)) (fun _ _ => rfl))) jo_no (jo_so je_int))) (JE.jb (je_tup (ja_cons (je_ix ix_seq (dr_l o_ix) (JE.jb (jv 1)) (JE.jb (jv 5)) (fun _ _ => rfl)) (ja_cons (je_tup (ja_cons je_str (ja_cons (jv 2) (ja_cons (jv 3) ja_nil)))) ja_nil)))) (nomark _)) (jss_one (js_app (i := 4) rfl (Or.inl rfl) (je_tup (ja_cons (je_ix ix_seq o_ix (JE.jb (je_ix ix_seq o_ix (JE.jb (je_ix ix_seq o_ix (JE.jb (jv 0)) (JE.jb je_int) (fun _ _ => rfl))) (JE.jb (jv 5)) (fun _ _ => rfl))) (JE.jb je_int) (fun _ _ => rfl)) (ja_cons (jv 6) ja_nil))) (hb := fun ho ha => pe_bm PySem.F.plainAttrs_list PySem.F.slot_list_append PySem.F.type_list_append mt_append ho ha))) jss_nil))))))) (jss_one (js_frz (i := 4) (js_ret (jv 4))))))
theorem sc__law_steps_by : FnScope ["_law_program_here", "_law_places_here", "_law_lying", "_law_event", "_law_doing_here", "_law_c", "_law_form_here", "_law_other"] ["_law_program_here", "_law_places_here", "_law_lying", "_law_event"] (defScope (topS 40)) := ⟨rfl, rfl, rfl, by decide +kernel, rfl, by decide +kernel, by decide +kernel⟩
def s__law_steps_by : En → M (Fl × En) := sSeq (sSet 4 (eCall 2 m__law_doing (aCons (eVar 0) (aCons (eVar 3) (aNil))))) (sSeq (sFor (iRange1 (aCons (e1 lenM (e2 ixM (eVar 0) (eC (.int 1)))) (aNil))) (.nm 5) (sIf (tAn (tBl (e2 neM (e2 ixM (eVar 4) (eC (.int 0))) (eC (.str "do")))) (tBl (e2 eqM (e2 ixM (e2 ixM (e2 ixM (eVar 0) (eC (.int 1))) (eVar 5)) (eC (.int 0))) (e2 ixM (eVar 4) (eC (.int 1)))))) (sSeq (sSet 6 (e2 ixM (e2 ixM (e2 ixM (eVar 0) (eC (.int 1))) (eVar 5)) (eC (.int 3)))) (sSeq (sIf (tAn (tBl (e2 eqM (eVar 6) (eC (.str "call")))) (tBl (e2 eqM (e2 ixM (eVar 4) (eC (.int 0))) (eC (.str "take"))))) (sRet (eLst (aNil))) (sNil)) (sSeq (sIf (tBl (e2 eqM (eVar 6) (eC (.str "call")))) (sRet (eL (eLc (iSeq (eCall 4 m__law_takes (aCons (eVar 0) (aCons (eVar 1) (aCons (e2 ixM (eVar 4) (eC (.int 1))) (aCons (e2 ixM (eVar 4) (eC (.int 2))) (aNil))))))) (.nm 7) [7] (tTrue) (eTup (aCons (eVar 3) (aCons (eVar 7) (aNil))))))) (sNil)) (sIf (tAn (tBl (e2 eqM (e2 ixM (eVar 4) (eC (.int 0))) (eC (.str "take")))) (tBl (e2 notInM (e2 ixM (eVar 4) (eC (.int 2))) (eSlR (e2 ixM (eVar 2) (eVar 5)) oNo (oSo (eC (.int 1))))))) (sIf (tOor (tBl (e2 eqM (eVar 6) (eC (.str "queue")))) (tBl (e2 (drR notInM) (e2 ixM (eVar 4) (eC (.int 2))) (e2 ixM (eVar 2) (eVar 5))))) (sRet (eLst (aNil))) (sNil)) (sNil))))) (sNil))) (sRet (eLst (aCons (eTup (aCons (eVar 3) (aNil))) (aNil)))))
def m__law_steps_by : List D → M D := runB 8 s__law_steps_by
theorem d__law_steps_by (F : Fn0 K mg "_law_steps_by" (topS 40) ["_law_program_here", "_law_places_here", "_law_lying", "_law_event"]) (B : Blt mg) (o__law_doing : Own P w K mg base 2 "_law_doing" ["_law_program_here", "_law_event"] m__law_doing) (o__law_takes : Own P w K mg base 1 "_law_takes" ["_law_program_here", "_law_places_here", "_law_channel", "_law_letter"] m__law_takes) : Own P w K mg base 3 "_law_steps_by" ["_law_program_here", "_law_places_here", "_law_lying", "_law_event"] m__law_steps_by :=
  own_def F sc__law_steps_by fun fa cdv A outer s H G μ E hr => by
    have hu := hr.units
    have hu1 := Nat.lt_of_le_of_lt (Nat.add_le_add_left (by decide : 1 ≤ 65) _) (hv_of hr)
    have hv := hv_of hr
    exact (jss_cons (js_set (i := 4) sc__law_steps_by.nd rfl (Or.inl rfl) (jcall o__law_doing (hr.mono (by decide)) (pd rfl rfl rfl rfl) (ja_cons (jv 0) (ja_cons (jv 3) ja_nil)))) (jss_cons (js_for (passes_of rfl) rfl (ji_range1 (by rfl) B.range (ja_cons (je_callB call_len c_len (by rfl) B.len (by decide +kernel) (JE.jb (je_ix ix_seq o_ix (JE.jb (jv 0)) (JE.jb je_int) (fun _ _ => rfl)))) ja_nil)) (pg_name (i := 5) sc__law_steps_by.nd rfl (Or.inl rfl)) (fun _ _ => (jss_one (js_if (JW.jt (jw_and (jt_cmp (op_neD hu) o_ne (JE.jb (je_ix ix_seq o_ix (JE.jb (jv 4)) (JE.jb je_int) (fun _ _ => rfl))) (JE.jb je_str) (nomark _)) (jw_and1 (jt_cmp (op_eqD hu) o_eq (JE.jb (je_ix ix_seq o_ix (JE.jb (je_ix ix_seq o_ix (JE.jb (je_ix ix_seq o_ix (JE.jb (jv 0)) (JE.jb je_int) (fun _ _ => rfl))) (JE.jb (jv 5)) (fun _ _ => rfl))) (JE.jb je_int) (fun _ _ => rfl))) (JE.jb (je_ix ix_seq o_ix (JE.jb (jv 4)) (JE.jb je_int) (fun _ _ => rfl))) (nomark _))))) (jss_cons (js_set (i := 6) sc__law_steps_by.nd rfl (Or.inl rfl) (je_ix ix_seq o_ix (JE.jb (je_ix ix_seq o_ix (JE.jb (je_ix ix_seq o_ix (JE.jb (jv 0)) (JE.jb je_int) (fun _ _ => rfl))) (JE.jb (jv 5)) (fun _ _ => rfl))) (JE.jb je_int) (fun _ _ => rfl))) (jss_cons (js_if (JW.jt (jw_and (jt_cmp (op_eqD hu) o_eq (JE.jb (jv 6)) (JE.jb je_str) (nomark _)) (jw_and1 (jt_cmp (op_eqD hu) o_eq (JE.jb (je_ix ix_seq o_ix (JE.jb (jv 4)) (JE.jb je_int) (fun _ _ => rfl))) (JE.jb je_str) (nomark _))))) (jss_one (js_ret (je_lst ja_nil))) jss_nil) (jss_cons (js_if (jt_cmp (op_eqD hu) o_eq (JE.jb (jv 6)) (JE.jb je_str) (nomark _)) (jss_one (js_ret (JF.je (jf_lc (own := [("_law_other", 7)]) rfl sc__law_steps_by.nd (ji_seq (jcall o__law_takes (hr.mono (by decide)) (pd rfl rfl rfl rfl) (ja_cons (jv 0) (ja_cons (jv 1) (ja_cons (je_ix ix_seq o_ix (JE.jb (jv 4)) (JE.jb je_int) (fun _ _ => rfl)) (ja_cons (je_ix ix_seq o_ix (JE.jb (jv 4)) (JE.jb je_int) (fun _ _ => rfl)) ja_nil)))))) (blkOk_by (N := ["_law_program_here", "_law_places_here", "_law_lying", "_law_event", "_law_doing_here", "_law_c", "_law_form_here", "_law_other"]) (sc := defScope (topS 40)) (by decide +kernel)) (by decide) (fun _ _ _ _ _ => (pg_name (i := 7) sc__law_steps_by.nd rfl (Or.inl rfl))) (fun _ _ _ _ _ => jts_nil) (fun _ _ _ _ _ => (je_tup (ja_cons (jv 3) (ja_cons (jv 7) ja_nil)))))))) jss_nil) (jss_one (js_if (JW.jt (jw_and (jt_cmp (op_eqD hu) o_eq (JE.jb (je_ix ix_seq o_ix (JE.jb (jv 4)) (JE.jb je_int) (fun _ _ => rfl))) (JE.jb je_str) (nomark _)) (jw_and1 (jt_cmp (op_notInB hv) o_notIn (JE.jb (je_ix ix_seq o_ix (JE.jb (jv 4)) (JE.jb je_int) (fun _ _ => rfl))) (JE.jb (je_sliceR (je_ix ix_seq o_ix (JE.jb (jv 2)) (JE.jb (jv 5)) (fun _ _ => rfl)) jo_no (jo_so je_int))) (by rfl))))) (jss_one (js_if (JW.jt (jw_or (jt_cmp (op_eqD hu) o_eq (JE.jb (jv 6)) (JE.jb je_str) (nomark _)) (jw_or1 (jt_cmp (op_notInB hv) (dr_r o_notIn) (JE.jb (je_ix ix_seq o_ix (JE.jb (jv 4)) (JE.jb je_int) (fun _ _ => rfl))) (JE.jb (je_ix ix_seq o_ix (JE.jb (jv 2)) (JE.jb (jv 5)) (fun _ _ => rfl))) (by rfl))))) (jss_one (js_ret (je_lst ja_nil))) jss_nil)) jss_nil))))) jss_nil)))) (jss_one (js_ret (je_lst (ja_cons (je_tup (ja_cons (jv 3) ja_nil)) ja_nil))))))
theorem sc__law_steps : FnScope ["_law_program_here", "_law_places_here", "_law_lying", "_law_found", "_law_at", "_law_k"] ["_law_program_here", "_law_places_here", "_law_lying"] (defScope (topS 41)) := ⟨rfl, rfl, rfl, by decide +kernel, rfl, by decide +kernel, by decide +kernel⟩
def s__law_steps : En → M (Fl × En) := sSeq (sSet 3 (eLst (aNil))) (sSeq (sFor (iRange1 (aCons (e1 lenM (e2 ixM (eVar 0) (eC (.int 0)))) (aNil))) (.nm 4) (sFor (iRange1 (aCons (e1 lenM (e2 ixM (e2 ixM (e2 ixM (eVar 0) (eC (.int 0))) (eVar 4)) (eC (.int 2)))) (aNil))) (.nm 5) (sIf (tBl (e2 eqM (e2 ixM (e2 ixM (e2 ixM (e2 ixM (e2 ixM (eVar 0) (eC (.int 0))) (eVar 4)) (eC (.int 2))) (eVar 5)) (eC (.int 0))) (e2 (drL ixM) (eVar 1) (eVar 4)))) (sSet 3 (e2 addM (eVar 3) (eCall 4 m__law_steps_by (aCons (eVar 0) (aCons (eVar 1) (aCons (eVar 2) (aCons (eTup (aCons (e2 ixM (e2 ixM (e2 ixM (eVar 0) (eC (.int 0))) (eVar 4)) (eC (.int 0))) (aCons (eVar 5) (aNil)))) (aNil)))))))) (sNil)))) (sRet (e1 ssetN (eVar 3))))
def m__law_steps : List D → M D := runB 6 s__law_steps
theorem d__law_steps (F : Fn0 K mg "_law_steps" (topS 41) ["_law_program_here", "_law_places_here", "_law_lying"]) (B : Blt mg) (o__law_steps_by : Own P w K mg base 3 "_law_steps_by" ["_law_program_here", "_law_places_here", "_law_lying", "_law_event"] m__law_steps_by) : Own P w K mg base 4 "_law_steps" ["_law_program_here", "_law_places_here", "_law_lying"] m__law_steps :=
  own_def F sc__law_steps fun fa cdv A outer s H G μ E hr => by
    have hu := hr.units
    have hu1 := Nat.lt_of_le_of_lt (Nat.add_le_add_left (by decide : 1 ≤ 65) _) (hv_of hr)
    have hv := hv_of hr
    exact (jss_cons (js_set (i := 3) sc__law_steps.nd rfl (Or.inl rfl) (je_lst ja_nil)) (jss_cons (js_for (passes_of rfl) rfl (ji_range1 (by rfl) B.range (ja_cons (je_callB call_len c_len (by rfl) B.len (by decide +kernel) (JE.jb (je_ix ix_seq o_ix (JE.jb (jv 0)) (JE.jb je_int) (fun _ _ => rfl)))) ja_nil)) (pg_name (i := 4) sc__law_steps.nd rfl (Or.inl rfl)) (fun _ _ => (jss_one (js_for (passes_of rfl) rfl (ji_range1 (by rfl) B.range (ja_cons (je_callB call_len c_len (by rfl) B.len (by decide +kernel) (JE.jb (je_ix ix_seq o_ix (JE.jb (je_ix ix_seq o_ix (JE.jb (je_ix ix_seq o_ix (JE.jb (jv 0)) (JE.jb je_int) (fun _ _ => rfl))) (JE.jb (jv 4)) (fun _ _ => rfl))) (JE.jb je_int) (fun _ _ => rfl)))) ja_nil)) (pg_name (i := 5) sc__law_steps.nd rfl (Or.inl rfl)) (fun _ _ => (jss_one (js_if (jt_cmp (op_eqD hu) o_eq (JE.jb (je_ix ix_seq o_ix (JE.jb (je_ix ix_seq o_ix (JE.jb (je_ix ix_seq o_ix (JE.jb (je_ix ix_seq o_ix (JE.jb (je_ix ix_seq o_ix (JE.jb (jv 0)) (JE.jb je_int) (fun _ _ => rfl))) (JE.jb (jv 4)) (fun _ _ => rfl))) (JE.jb je_int) (fun _ _ => rfl))) (JE.jb (jv 5)) (fun _ _ => rfl))) (JE.jb je_int) (fun _ _ => rfl))) (JE.jb (je_ix ix_seq (dr_l o_ix) (JE.jb (jv 1)) (JE.jb (jv 4)) (fun _ _ => rfl))) (nomark _)) (jss_one (js_set (i := 3) sc__law_steps.nd rfl (Or.inl rfl) (je_op op_addA o_add (JE.jb (jv 3)) (JE.jb (jcall o__law_steps_by (hr.mono (by decide)) (pd rfl rfl rfl rfl) (ja_cons (jv 0) (ja_cons (jv 1) (ja_cons (jv 2) (ja_cons (je_tup (ja_cons (je_ix ix_seq o_ix (JE.jb (je_ix ix_seq o_ix (JE.jb (je_ix ix_seq o_ix (JE.jb (jv 0)) (JE.jb je_int) (fun _ _ => rfl))) (JE.jb (jv 4)) (fun _ _ => rfl))) (JE.jb je_int) (fun _ _ => rfl)) (ja_cons (jv 5) ja_nil))) ja_nil))))))))) jss_nil))))))) (jss_one (js_ret (je_ssetN rfl hv (by rfl) B.sorted (by rfl) B.set (JE.jb (jv 3)))))))
theorem sc__law_act : FnScope ["_law_program_here", "_law_places_here", "_law_lying", "_law_event", "_law_at", "_law_doing_here", "_law_c"] ["_law_program_here", "_law_places_here", "_law_lying", "_law_event"] (defScope (topS 42)) := ⟨rfl, rfl, rfl, by decide +kernel, rfl, by decide +kernel, by decide +kernel⟩
def s__law_act : En → M (Fl × En) := sSeq (sFor (iRange1 (aCons (e1 lenM (e2 ixM (eVar 0) (eC (.int 0)))) (aNil))) (.nm 4) (sIf (tBl (e2 eqM (e2 ixM (e2 ixM (e2 ixM (eVar 0) (eC (.int 0))) (eVar 4)) (eC (.int 0))) (e2 ixM (eVar 3) (eC (.int 0))))) (sLset 1 (eVar 4) (e2 ixM (e2 ixM (e2 ixM (e2 ixM (e2 ixM (eVar 0) (eC (.int 0))) (eVar 4)) (eC (.int 2))) (e2 ixM (eVar 3) (eC (.int 1)))) (eC (.int 2)))) (sNil))) (sSeq (sSet 5 (eCall 2 m__law_doing (aCons (eVar 0) (aCons (eVar 3) (aNil))))) (sFor (iRange1 (aCons (e1 lenM (e2 ixM (eVar 0) (eC (.int 1)))) (aNil))) (.nm 6) (sSeq (sIf (tAn (tBl (e2 eqM (e2 ixM (eVar 5) (eC (.int 0))) (eC (.str "put")))) (tBl (e2 eqM (e2 ixM (e2 ixM (e2 ixM (eVar 0) (eC (.int 1))) (eVar 6)) (eC (.int 0))) (e2 ixM (eVar 5) (eC (.int 1)))))) (sAppE (e2 ixM (eVar 2) (eVar 6)) (e2 ixM (eVar 5) (eC (.int 2)))) (sNil)) (sIf (tAn (tBl (e2 eqM (e2 ixM (eVar 5) (eC (.int 0))) (eC (.str "take")))) (tBl (e2 eqM (e2 ixM (e2 ixM (e2 ixM (eVar 0) (eC (.int 1))) (eVar 6)) (eC (.int 0))) (e2 ixM (eVar 5) (eC (.int 1)))))) (sRemE (e2 ixM (eVar 2) (eVar 6)) (e2 ixM (eVar 5) (eC (.int 2)))) (sNil)))))
def m__law_act : List D → M D := runB 7 s__law_act
theorem d__law_act (F : Fn0 K mg "_law_act" (topS 42) ["_law_program_here", "_law_places_here", "_law_lying", "_law_event"]) (B : Blt mg) (o__law_doing : Own P w K mg base 2 "_law_doing" ["_law_program_here", "_law_event"] m__law_doing) : Own P w K mg base 3 "_law_act" ["_law_program_here", "_law_places_here", "_law_lying", "_law_event"] m__law_act :=
  own_def F sc__law_act fun fa cdv A outer s H G μ E hr => by
    have hu := hr.units
    have hu1 := Nat.lt_of_le_of_lt (Nat.add_le_add_left (by decide : 1 ≤ 65) _) (hv_of hr)
    have hv := hv_of hr
    exact (jss_cons (js_for (passes_of rfl) rfl (ji_range1 (by rfl) B.range (ja_cons (je_callB call_len c_len (by rfl) B.len (by decide +kernel) (JE.jb (je_ix ix_seq o_ix (JE.jb (jv 0)) (JE.jb je_int) (fun _ _ => rfl)))) ja_nil)) (pg_name (i := 4) sc__law_act.nd rfl (Or.inl rfl)) (fun _ _ => (jss_one (js_if (jt_cmp (op_eqD hu) o_eq (JE.jb (je_ix ix_seq o_ix (JE.jb (je_ix ix_seq o_ix (JE.jb (je_ix ix_seq o_ix (JE.jb (jv 0)) (JE.jb je_int) (fun _ _ => rfl))) (JE.jb (jv 4)) (fun _ _ => rfl))) (JE.jb je_int) (fun _ _ => rfl))) (JE.jb (je_ix ix_seq o_ix (JE.jb (jv 3)) (JE.jb je_int) (fun _ _ => rfl))) (nomark _)) (jss_one (js_lset (j := 1) rfl (Or.inl rfl) (jv 4) (je_ix ix_seq o_ix (JE.jb (je_ix ix_seq o_ix (JE.jb (je_ix ix_seq o_ix (JE.jb (je_ix ix_seq o_ix (JE.jb (je_ix ix_seq o_ix (JE.jb (jv 0)) (JE.jb je_int) (fun _ _ => rfl))) (JE.jb (jv 4)) (fun _ _ => rfl))) (JE.jb je_int) (fun _ _ => rfl))) (JE.jb (je_ix ix_seq o_ix (JE.jb (jv 3)) (JE.jb je_int) (fun _ _ => rfl))) (fun _ _ => rfl))) (JE.jb je_int) (fun _ _ => rfl)))) jss_nil)))) (jss_cons (js_set (i := 5) sc__law_act.nd rfl (Or.inl rfl) (jcall o__law_doing (hr.mono (by decide)) (pd rfl rfl rfl rfl) (ja_cons (jv 0) (ja_cons (jv 3) ja_nil)))) (jss_one (js_for (passes_of rfl) rfl (ji_range1 (by rfl) B.range (ja_cons (je_callB call_len c_len (by rfl) B.len (by decide +kernel) (JE.jb (je_ix ix_seq o_ix (JE.jb (jv 0)) (JE.jb je_int) (fun _ _ => rfl)))) ja_nil)) (pg_name (i := 6) sc__law_act.nd rfl (Or.inl rfl)) (fun _ _ => (jss_cons (js_if (JW.jt (jw_and (jt_cmp (op_eqD hu) o_eq (JE.jb (je_ix ix_seq o_ix (JE.jb (jv 5)) (JE.jb je_int) (fun _ _ => rfl))) (JE.jb je_str) (nomark _)) (jw_and1 (jt_cmp (op_eqD hu) o_eq (JE.jb (je_ix ix_seq o_ix (JE.jb (je_ix ix_seq o_ix (JE.jb (je_ix ix_seq o_ix (JE.jb (jv 0)) (JE.jb je_int) (fun _ _ => rfl))) (JE.jb (jv 6)) (fun _ _ => rfl))) (JE.jb je_int) (fun _ _ => rfl))) (JE.jb (je_ix ix_seq o_ix (JE.jb (jv 5)) (JE.jb je_int) (fun _ _ => rfl))) (nomark _))))) (jss_one (js_appE (je_ix ix_seq o_ix (JE.jb (jv 2)) (JE.jb (jv 6)) (fun _ _ => rfl)) (je_ix ix_seq o_ix (JE.jb (jv 5)) (JE.jb je_int) (fun _ _ => rfl)) (hb := fun ho ha => pe_bm PySem.F.plainAttrs_list PySem.F.slot_list_append PySem.F.type_list_append mt_append ho ha))) jss_nil) (jss_one (js_if (JW.jt (jw_and (jt_cmp (op_eqD hu) o_eq (JE.jb (je_ix ix_seq o_ix (JE.jb (jv 5)) (JE.jb je_int) (fun _ _ => rfl))) (JE.jb je_str) (nomark _)) (jw_and1 (jt_cmp (op_eqD hu) o_eq (JE.jb (je_ix ix_seq o_ix (JE.jb (je_ix ix_seq o_ix (JE.jb (je_ix ix_seq o_ix (JE.jb (jv 0)) (JE.jb je_int) (fun _ _ => rfl))) (JE.jb (jv 6)) (fun _ _ => rfl))) (JE.jb je_int) (fun _ _ => rfl))) (JE.jb (je_ix ix_seq o_ix (JE.jb (jv 5)) (JE.jb je_int) (fun _ _ => rfl))) (nomark _))))) (jss_one (js_remE (je_ix ix_seq o_ix (JE.jb (jv 2)) (JE.jb (jv 6)) (fun _ _ => rfl)) (je_ix ix_seq o_ix (JE.jb (jv 5)) (JE.jb je_int) (fun _ _ => rfl)) (hb := fun ho ha => pe_bm PySem.F.plainAttrs_list PySem.F.slot_list_remove PySem.F.type_list_remove mt_removeS ho ha))) jss_nil))))))))
theorem sc__law_wished : FnScope ["_law_program_here", "_law_options", "_law_draw", "_law_k", "_law_verb", "_law_alone", "_law_option", "_law_wished_here"] ["_law_program_here", "_law_options", "_law_draw", "_law_k"] (defScope (topS 43)) := ⟨rfl, rfl, rfl, by decide +kernel, rfl, by decide +kernel, by decide +kernel⟩
def s__law_wished : En → M (Fl × En) := sSeq (sSet 4 (e2 ixM (eTup (aCons (eC (.str "")) (aCons (eC (.str "put")) (aCons (eC (.str "take")) (aNil))))) (e2 modM (e1 intM (eVar 2)) (eC (.int 3))))) (sSeq (sSet 5 (eL (eLc (iSeq (eVar 1)) (.nm 6) [6] (tBl (e2 eqM (e1 lenM (eVar 6)) (eC (.int 1)))) (eVar 6)))) (sSeq (sSet 7 (eL (eLc (iSeq (eVar 5)) (.nm 6) [6] (tBl (e2 eqM (e2 ixM (eCall 2 m__law_doing (aCons (eVar 0) (aCons (e2 ixM (eVar 6) (eC (.int 0))) (aNil)))) (eC (.int 0))) (eVar 4))) (eVar 6)))) (sSeq (sIf (tAn (tBl (e2 gtM (e1 lenM (eVar 7)) (eC (.int 0)))) (tOor (tBl (e2 eqM (eVar 4) (eC (.str "take")))) (tBl (e2 ltM (eVar 3) (e2 addM (eC (.int 3)) (e2 modM (e1 intM (e2 fdivM (eVar 2) (eC (.int 3)))) (eC (.int 4)))))))) (sRet (eVar 7)) (sNil)) (sRet (eVar 1)))))
def m__law_wished : List D → M D := runB 8 s__law_wished
theorem d__law_wished (F : Fn0 K mg "_law_wished" (topS 43) ["_law_program_here", "_law_options", "_law_draw", "_law_k"]) (B : Blt mg) (o__law_doing : Own P w K mg base 2 "_law_doing" ["_law_program_here", "_law_event"] m__law_doing) : Own P w K mg base 3 "_law_wished" ["_law_program_here", "_law_options", "_law_draw", "_law_k"] m__law_wished :=
  own_def F sc__law_wished fun fa cdv A outer s H G μ E hr => by
    have hu := hr.units
    have hu1 := Nat.lt_of_le_of_lt (Nat.add_le_add_left (by decide : 1 ≤ 65) _) (hv_of hr)
    have hv := hv_of hr
    exact (jss_cons (js_set (i := 4) sc__law_wished.nd rfl (Or.inr rfl) (je_ix ix_seq o_ix (JE.jb (je_tup (ja_cons je_str (ja_cons je_str (ja_cons je_str ja_nil))))) (JE.jb (je_op op_mod o_mod (JE.jb (je_callTy call_intA c_int (by rfl) B.int (by decide +kernel) (JE.jb (jv 2)))) (JE.jb je_int))) (fun _ _ => rfl))) (jss_cons (js_setLc (i := 5) (own := [("_law_option", 6)]) rfl sc__law_wished.nd rfl rfl (sw_true rfl rfl rfl (by decide +kernel)) (ji_seq (jv 1)) (blkOk_by (N := ["_law_program_here", "_law_options", "_law_draw", "_law_k", "_law_verb", "_law_alone", "_law_option", "_law_wished_here"]) (sc := defScope (topS 43)) (by decide +kernel)) (by decide) (fun _ _ _ _ _ => (pg_name (i := 6) sc__law_wished.nd rfl (Or.inl rfl))) (fun _ _ _ _ _ => (jts_one (jt_cmp (op_eqD hu) o_eq (JE.jb (je_callB call_len c_len (by rfl) B.len (by decide +kernel) (JE.jb (jv 6)))) (JE.jb je_int) (nomark _)))) (fun _ _ _ _ _ => (jv 6))) (jss_cons (js_setLc (i := 7) (own := [("_law_option", 6)]) rfl sc__law_wished.nd rfl rfl (sw_true rfl rfl rfl (by decide +kernel)) (ji_seq (jv 5)) (blkOk_by (N := ["_law_program_here", "_law_options", "_law_draw", "_law_k", "_law_verb", "_law_alone", "_law_option", "_law_wished_here"]) (sc := defScope (topS 43)) (by decide +kernel)) (by decide) (fun _ _ _ _ _ => (pg_name (i := 6) sc__law_wished.nd rfl (Or.inl rfl))) (fun _ _ _ _ _ => (jts_one (jt_cmp (op_eqD hu) o_eq (JE.jb (je_ix ix_seq o_ix (JE.jb (jcall o__law_doing (hr.mono (by decide)) px (ja_cons (jv 0) (ja_cons (je_ix ix_seq o_ix (JE.jb (jv 6)) (JE.jb je_int) (fun _ _ => rfl)) ja_nil)))) (JE.jb je_int) (fun _ _ => rfl))) (JE.jb (jv 4)) (nomark _)))) (fun _ _ _ _ _ => (jv 6))) (jss_cons (js_if (JW.jt (jw_and (jt_cmp op_gtO o_gt (JE.jb (je_callB call_len c_len (by rfl) B.len (by decide +kernel) (JE.jb (jv 7)))) (JE.jb je_int) (nomark _)) (jw_and1 (JW.jt (jw_or (jt_cmp (op_eqD hu) o_eq (JE.jb (jv 4)) (JE.jb je_str) (nomark _)) (jw_or1 (jt_cmp op_ltO o_lt (JE.jb (jv 3)) (JE.jb (je_op op_addA o_add (JE.jb je_int) (JE.jb (je_op op_mod o_mod (JE.jb (je_callTy call_intA c_int (by rfl) B.int (by decide +kernel) (JE.jb (je_op op_fdiv o_fdiv (JE.jb (jv 2)) (JE.jb je_int))))) (JE.jb je_int))))) (nomark _)))))))) (jss_one (js_ret (jv 7))) jss_nil) (jss_one (js_ret (jv 1)))))))
theorem sc__law_walk : FnScope ["_law_program_here", "_law_draws_here", "_law_at", "_law_many", "_law_places_here", "_law_party", "_law_lying", "_law_channel", "_law_parts", "_law_k", "_law_options", "_law_part", "_law_event"] ["_law_program_here", "_law_draws_here", "_law_at", "_law_many"] (defScope (topS 44)) := ⟨rfl, rfl, rfl, by decide +kernel, rfl, by decide +kernel, by decide +kernel⟩
def s__law_walk : En → M (Fl × En) := sSeq (sSet 4 (eNew (eLc (iSeq (e2 ixM (eVar 0) (eC (.int 0)))) (.nm 5) [5] (tTrue) (eC (.int 0))))) (sSeq (sSet 6 (eL (eLc (iSeq (e2 ixM (eVar 0) (eC (.int 1)))) (.nm 7) [7] (tTrue) (eNew (fLst aNil))))) (sSeq (sOwn 8 (fLst (aNil))) (sSeq (sFor (iRange1 (aCons (eVar 3) (aNil))) (.nm 9) (sSeq (sSet 10 (eCall 3 m__law_steps (aCons (eVar 0) (aCons (eVar 4) (aCons (eVar 6) (aNil)))))) (sIf (tBl (e2 gtM (e1 lenM (eVar 10)) (eC (.int 0)))) (sSeq (sSet 10 (eCall 4 m__law_wished (aCons (eVar 0) (aCons (eVar 10) (aCons (e2 ixM (eVar 1) (eC (.int 1))) (aCons (eVar 9) (aNil))))))) (sSeq (sSet 11 (e2 ixM (eVar 10) (e2 modM (e1 intM (e2 ixM (eVar 1) (e2 addM (eVar 2) (eVar 9)))) (e1 lenM (eVar 10))))) (sSeq (sApp 8 (eVar 11)) (sFor (iSeq (eVar 11)) (.nm 12) (sExpr (eCall 4 m__law_act (aCons (eVar 0) (aCons (eVar 4) (aCons (eVar 6) (aCons (eVar 12) (aNil))))))))))) (sNil)))) (sFrz 8 (sRet (eVar 8))))))
def m__law_walk : List D → M D := runB 13 s__law_walk
theorem d__law_walk (F : Fn0 K mg "_law_walk" (topS 44) ["_law_program_here", "_law_draws_here", "_law_at", "_law_many"]) (B : Blt mg) (o__law_steps : Own P w K mg base 4 "_law_steps" ["_law_program_here", "_law_places_here", "_law_lying"] m__law_steps) (o__law_wished : Own P w K mg base 3 "_law_wished" ["_law_program_here", "_law_options", "_law_draw", "_law_k"] m__law_wished) (o__law_act : Own P w K mg base 3 "_law_act" ["_law_program_here", "_law_places_here", "_law_lying", "_law_event"] m__law_act) : Own P w K mg base 5 "_law_walk" ["_law_program_here", "_law_draws_here", "_law_at", "_law_many"] m__law_walk :=
  own_def F sc__law_walk fun fa cdv A outer s H G μ E hr => by
    have hu := hr.units
    have hu1 := Nat.lt_of_le_of_lt (Nat.add_le_add_left (by decide : 1 ≤ 65) _) (hv_of hr)
    have hv := hv_of hr
    exact (jss_cons (js_newLc (i := 4) (own := [("_law_party", 5)]) rfl sc__law_walk.nd rfl rfl (sw_true rfl rfl rfl (by decide +kernel)) (ji_seq (je_ix ix_seq o_ix (JE.jb (jv 0)) (JE.jb je_int) (fun _ _ => rfl))) (blkOk_by (N := ["_law_program_here", "_law_draws_here", "_law_at", "_law_many", "_law_places_here", "_law_party", "_law_lying", "_law_channel", "_law_parts", "_law_k", "_law_options", "_law_part", "_law_event"]) (sc := defScope (topS 44)) (by decide +kernel)) (by decide) (fun _ _ _ _ _ => (pg_name (i := 5) sc__law_walk.nd rfl (Or.inl rfl))) (fun _ _ _ _ _ => jts_nil) (fun _ _ _ _ _ => je_int)) (jss_cons (js_setLc (i := 6) (own := [("_law_channel", 7)]) rfl sc__law_walk.nd rfl rfl (sw_true rfl rfl rfl (by decide +kernel)) (ji_seq (je_ix ix_seq o_ix (JE.jb (jv 0)) (JE.jb je_int) (fun _ _ => rfl))) (blkOk_by (N := ["_law_program_here", "_law_draws_here", "_law_at", "_law_many", "_law_places_here", "_law_party", "_law_lying", "_law_channel", "_law_parts", "_law_k", "_law_options", "_law_part", "_law_event"]) (sc := defScope (topS 44)) (by decide +kernel)) (by decide) (fun _ _ _ _ _ => (pg_name (i := 7) sc__law_walk.nd rfl (Or.inl rfl))) (fun _ _ _ _ _ => jts_nil) (fun _ _ _ _ _ => (JF.new (jf_lst ja_nil)))) (jss_cons (js_own (i := 8) sc__law_walk.nd rfl (Or.inl rfl) (jf_lst ja_nil)) (jss_cons (js_for (passes_of rfl) rfl (ji_range1 (by rfl) B.range (ja_cons (jv 3) ja_nil)) (pg_name (i := 9) sc__law_walk.nd rfl (Or.inl rfl)) (fun _ _ => (jss_cons (js_set (i := 10) sc__law_walk.nd rfl (Or.inl rfl) (jcall o__law_steps (hr.mono (by decide)) (pd rfl rfl rfl rfl) (ja_cons (jv 0) (ja_cons (jv 4) (ja_cons (jv 6) ja_nil))))) (jss_one (js_if (jt_cmp op_gtO o_gt (JE.jb (je_callB call_len c_len (by rfl) B.len (by decide +kernel) (JE.jb (jv 10)))) (JE.jb je_int) (nomark _)) (jss_cons (js_set (i := 10) sc__law_walk.nd rfl (Or.inl rfl) (jcall o__law_wished (hr.mono (by decide)) (pd rfl rfl rfl rfl) (ja_cons (jv 0) (ja_cons (jv 10) (ja_cons (je_ix ix_seq o_ix (JE.jb (jv 1)) (JE.jb je_int) (fun _ _ => rfl)) (ja_cons (jv 9) ja_nil)))))) (jss_cons (js_set (i := 11) sc__law_walk.nd rfl (Or.inl rfl) (je_ix ix_seq o_ix (JE.jb (jv 10)) (JE.jb (je_op op_mod o_mod (JE.jb (je_callTy call_intA c_int (by rfl) B.int (by decide +kernel) (JE.jb (je_ix ix_seq o_ix (JE.jb (jv 1)) (JE.jb (je_op op_addA o_add (JE.jb (jv 2)) (JE.jb (jv 9)))) (fun _ _ => rfl))))) (JE.jb (je_callB call_len c_len (by rfl) B.len (by decide +kernel) (JE.jb (jv 10)))))) (fun _ _ => rfl))) (jss_cons (js_app (i := 8) rfl (Or.inl rfl) (jv 11) (hb := fun ho ha => pe_bm PySem.F.plainAttrs_list PySem.F.slot_list_append PySem.F.type_list_append mt_append ho ha)) (jss_one (js_for (passes_of rfl) rfl (ji_seq (jv 11)) (pg_name (i := 12) sc__law_walk.nd rfl (Or.inl rfl)) (fun _ _ => (jss_one (js_expr (JE.jb (jcall o__law_act (hr.mono (by decide)) (pd rfl rfl rfl rfl) (ja_cons (jv 0) (ja_cons (jv 4) (ja_cons (jv 6) (ja_cons (jv 12) ja_nil)))))))))))))) jss_nil))))) (jss_one (js_frz (i := 8) (js_ret (jv 8))))))))
theorem sc__law_joined : FnScope ["_law_parts", "_law_found", "_law_part"] ["_law_parts"] (defScope (topS 45)) := ⟨rfl, rfl, rfl, by decide +kernel, rfl, by decide +kernel, by decide +kernel⟩
def s__law_joined : En → M (Fl × En) := sSeq (sSet 1 (eLst (aNil))) (sSeq (sFor (iSeq (eVar 0)) (.nm 2) (sSet 1 (e2 addM (eVar 1) (e1 lstM (eVar 2))))) (sRet (e1 tupM (eVar 1))))
def m__law_joined : List D → M D := runB 3 s__law_joined
theorem d__law_joined (F : Fn0 K mg "_law_joined" (topS 45) ["_law_parts"]) (B : Blt mg) : Own P w K mg base 1 "_law_joined" ["_law_parts"] m__law_joined :=
  own_def F sc__law_joined fun fa cdv A outer s H G μ E hr => by
    have hu := hr.units
    have hu1 := Nat.lt_of_le_of_lt (Nat.add_le_add_left (by decide : 1 ≤ 65) _) (hv_of hr)
    have hv := hv_of hr
    exact (jss_cons (js_set (i := 1) sc__law_joined.nd rfl (Or.inl rfl) (je_lst ja_nil)) (jss_cons (js_for (passes_of rfl) rfl (ji_seq (jv 0)) (pg_name (i := 2) sc__law_joined.nd rfl (Or.inl rfl)) (fun _ _ => (jss_one (js_set (i := 1) sc__law_joined.nd rfl (Or.inl rfl) (je_op op_addA o_add (JE.jb (jv 1)) (JE.jb (je_callTy call_list_of c_lst (by rfl) B.list (by decide +kernel) (JE.jb (jv 2))))))))) (jss_one (js_ret (je_callTy call_tuple_of c_tup (by rfl) B.tuple (by decide +kernel) (JE.jb (jv 1)))))))
theorem sc__law_is_integer : FnScope ["_law_thing"] ["_law_thing"] (defScope (topS 46)) := ⟨rfl, rfl, rfl, by decide +kernel, rfl, by decide +kernel, by decide +kernel⟩
def s__law_is_integer : En → M (Fl × En) := sRet (vAnd (e1 (isiM "int") (eVar 0)) (vNot (e1 (isiM "bool") (eVar 0))))
def m__law_is_integer : List D → M D := runB 1 s__law_is_integer
theorem d__law_is_integer (F : Fn0 K mg "_law_is_integer" (topS 46) ["_law_thing"]) (B : Blt mg) : Own P w K mg base 1 "_law_is_integer" ["_law_thing"] m__law_is_integer :=
  own_def F sc__law_is_integer fun fa cdv A outer s H G μ E hr => by
    have hu := hr.units
    have hu1 := Nat.lt_of_le_of_lt (Nat.add_le_add_left (by decide : 1 ≤ 65) _) (hv_of hr)
    have hv := hv_of hr
    exact (jss_one (js_ret (je_and (je_isi (by rfl) B.isinstance (by rfl) B.int (by decide +kernel) (jv 0)) (je_one (je_not (je_isi (by rfl) B.isinstance (by rfl) B.bool (by decide +kernel) (jv 0)))))))
theorem sc__law_places : FnScope ["_law_program_here", "_law_made", "_law_places_here", "_law_party", "_law_place", "_law_event"] ["_law_program_here", "_law_made"] (defScope (topS 47)) := ⟨rfl, rfl, rfl, by decide +kernel, rfl, by decide +kernel, by decide +kernel⟩
def s__law_places : En → M (Fl × En) := sSeq (sOwn 2 (fLst (aNil))) (sSeq (sFor (iSeq (e2 ixM (eVar 0) (eC (.int 0)))) (.nm 3) (sSeq (sSet 4 (eC (.int 0))) (sSeq (sFor (iSeq (eVar 1)) (.nm 5) (sIf (tBl (e2 eqM (e2 ixM (eVar 5) (eC (.int 0))) (e2 ixM (eVar 3) (eC (.int 0))))) (sSet 4 (e2 ixM (e2 ixM (e2 ixM (eVar 3) (eC (.int 2))) (e2 ixM (eVar 5) (eC (.int 1)))) (eC (.int 2)))) (sNil))) (sApp 2 (eVar 4))))) (sRet (e1 tupM (eLook 2))))
def m__law_places : List D → M D := runB 6 s__law_places
theorem d__law_places (F : Fn0 K mg "_law_places" (topS 47) ["_law_program_here", "_law_made"]) (B : Blt mg) : Own P w K mg base 1 "_law_places" ["_law_program_here", "_law_made"] m__law_places :=
  own_def F sc__law_places fun fa cdv A outer s H G μ E hr => by
    have hu := hr.units
    have hu1 := Nat.lt_of_le_of_lt (Nat.add_le_add_left (by decide : 1 ≤ 65) _) (hv_of hr)
    have hv := hv_of hr
    exact (jss_cons (js_own (i := 2) sc__law_places.nd rfl (Or.inl rfl) (jf_lst ja_nil)) (jss_cons (js_for (passes_of rfl) rfl (ji_seq (je_ix ix_seq o_ix (JE.jb (jv 0)) (JE.jb je_int) (fun _ _ => rfl))) (pg_name (i := 3) sc__law_places.nd rfl (Or.inl rfl)) (fun _ _ => (jss_cons (js_set (i := 4) sc__law_places.nd rfl (Or.inl rfl) je_int) (jss_cons (js_for (passes_of rfl) rfl (ji_seq (jv 1)) (pg_name (i := 5) sc__law_places.nd rfl (Or.inl rfl)) (fun _ _ => (jss_one (js_if (jt_cmp (op_eqD hu) o_eq (JE.jb (je_ix ix_seq o_ix (JE.jb (jv 5)) (JE.jb je_int) (fun _ _ => rfl))) (JE.jb (je_ix ix_seq o_ix (JE.jb (jv 3)) (JE.jb je_int) (fun _ _ => rfl))) (nomark _)) (jss_one (js_set (i := 4) sc__law_places.nd rfl (Or.inl rfl) (je_ix ix_seq o_ix (JE.jb (je_ix ix_seq o_ix (JE.jb (je_ix ix_seq o_ix (JE.jb (jv 3)) (JE.jb je_int) (fun _ _ => rfl))) (JE.jb (je_ix ix_seq o_ix (JE.jb (jv 5)) (JE.jb je_int) (fun _ _ => rfl))) (fun _ _ => rfl))) (JE.jb je_int) (fun _ _ => rfl)))) jss_nil)))) (jss_one (js_app (i := 2) rfl (Or.inl rfl) (jv 4) (hb := fun ho ha => pe_bm PySem.F.plainAttrs_list PySem.F.slot_list_append PySem.F.type_list_append mt_append ho ha))))))) (jss_one (js_ret (je_callTy call_tuple_of c_tup (by rfl) B.tuple (by decide +kernel) (jw 2))))))
theorem sc__law_named : FnScope ["_law_program_here", "_law_made", "_law_verb", "_law_channel", "_law_doings_here", "_law_event", "_law_doing_here"] ["_law_program_here", "_law_made", "_law_verb", "_law_channel"] (defScope (topS 48)) := ⟨rfl, rfl, rfl, by decide +kernel, rfl, by decide +kernel, by decide +kernel⟩
def s__law_named : En → M (Fl × En) := sSeq (sSet 4 (eL (eLc (iSeq (eVar 1)) (.nm 5) [5] (tTrue) (eCall 2 m__law_doing (aCons (eVar 0) (aCons (eVar 5) (aNil))))))) (sRet (eL (eLc (iSeq (eVar 4)) (.nm 6) [6] (tAn (tBl (e2 eqM (e2 ixM (eVar 6) (eC (.int 0))) (eVar 2))) (tBl (e2 eqM (e2 ixM (eVar 6) (eC (.int 1))) (eVar 3)))) (e2 ixM (eVar 6) (eC (.int 2))))))
def m__law_named : List D → M D := runB 7 s__law_named
theorem d__law_named (F : Fn0 K mg "_law_named" (topS 48) ["_law_program_here", "_law_made", "_law_verb", "_law_channel"]) (B : Blt mg) (o__law_doing : Own P w K mg base 2 "_law_doing" ["_law_program_here", "_law_event"] m__law_doing) : Own P w K mg base 3 "_law_named" ["_law_program_here", "_law_made", "_law_verb", "_law_channel"] m__law_named :=
  own_def F sc__law_named fun fa cdv A outer s H G μ E hr => by
    have hu := hr.units
    have hu1 := Nat.lt_of_le_of_lt (Nat.add_le_add_left (by decide : 1 ≤ 65) _) (hv_of hr)
    have hv := hv_of hr
    exact (jss_cons (js_setLc (i := 4) (own := [("_law_event", 5)]) rfl sc__law_named.nd rfl rfl (sw_true rfl rfl rfl (by decide +kernel)) (ji_seq (jv 1)) (blkOk_by (N := ["_law_program_here", "_law_made", "_law_verb", "_law_channel", "_law_doings_here", "_law_event", "_law_doing_here"]) (sc := defScope (topS 48)) (by decide +kernel)) (by decide) (fun _ _ _ _ _ => (pg_name (i := 5) sc__law_named.nd rfl (Or.inl rfl))) (fun _ _ _ _ _ => jts_nil) (fun _ _ _ _ _ => (jcall o__law_doing (hr.mono (by decide)) px (ja_cons (jv 0) (ja_cons (jv 5) ja_nil))))) (jss_one (js_ret (JF.je (jf_lc (own := [("_law_doing_here", 6)]) rfl sc__law_named.nd (ji_seq (jv 4)) (blkOk_by (N := ["_law_program_here", "_law_made", "_law_verb", "_law_channel", "_law_doings_here", "_law_event", "_law_doing_here"]) (sc := defScope (topS 48)) (by decide +kernel)) (by decide) (fun _ _ _ _ _ => (pg_name (i := 6) sc__law_named.nd rfl (Or.inl rfl))) (fun _ _ _ _ _ => (jts_one (JW.jt (jw_and (jt_cmp (op_eqD hu) o_eq (JE.jb (je_ix ix_seq o_ix (JE.jb (jv 6)) (JE.jb je_int) (fun _ _ => rfl))) (JE.jb (jv 2)) (nomark _)) (jw_and1 (jt_cmp (op_eqD hu) o_eq (JE.jb (je_ix ix_seq o_ix (JE.jb (jv 6)) (JE.jb je_int) (fun _ _ => rfl))) (JE.jb (jv 3)) (nomark _))))))) (fun _ _ _ _ _ => (je_ix ix_seq o_ix (JE.jb (jv 6)) (JE.jb je_int) (fun _ _ => rfl))))))))
theorem sc__law_contents : FnScope ["_law_program_here", "_law_made", "_law_contents_here", "_law_channel", "_law_puts", "_law_takes_here", "_law_left", "_law_k"] ["_law_program_here", "_law_made"] (defScope (topS 49)) := ⟨rfl, rfl, rfl, by decide +kernel, rfl, by decide +kernel, by decide +kernel⟩
def s__law_contents : En → M (Fl × En) := sSeq (sOwn 2 (fLst (aNil))) (sSeq (sFor (iSeq (e2 ixM (eVar 0) (eC (.int 1)))) (.nm 3) (sSeq (sSet 4 (eCall 4 m__law_named (aCons (eVar 0) (aCons (eVar 1) (aCons (eC (.str "put")) (aCons (e2 ixM (eVar 3) (eC (.int 0))) (aNil))))))) (sSeq (sSet 5 (eCall 4 m__law_named (aCons (eVar 0) (aCons (eVar 1) (aCons (eC (.str "take")) (aCons (e2 ixM (eVar 3) (eC (.int 0))) (aNil))))))) (sSeq (sOwn 6 (fLst (aNil))) (sSeq (sFor (iRange1 (aCons (e1 lenM (eVar 4)) (aNil))) (.nm 7) (sIf (tBl (e2 geM (eCnt (eSl (eVar 4) oNo (oSo (eVar 7))) (e2 ixM (eVar 4) (eVar 7))) (eCnt (eVar 5) (e2 ixM (eVar 4) (eVar 7))))) (sApp 6 (e2 ixM (eVar 4) (eVar 7))) (sNil))) (sApp 2 (e1 tupM (eLook 6)))))))) (sRet (e1 tupM (eLook 2))))
def m__law_contents : List D → M D := runB 8 s__law_contents
theorem d__law_contents (F : Fn0 K mg "_law_contents" (topS 49) ["_law_program_here", "_law_made"]) (B : Blt mg) (o__law_named : Own P w K mg base 3 "_law_named" ["_law_program_here", "_law_made", "_law_verb", "_law_channel"] m__law_named) : Own P w K mg base 4 "_law_contents" ["_law_program_here", "_law_made"] m__law_contents :=
  own_def F sc__law_contents fun fa cdv A outer s H G μ E hr => by
    have hu := hr.units
    have hu1 := Nat.lt_of_le_of_lt (Nat.add_le_add_left (by decide : 1 ≤ 65) _) (hv_of hr)
    have hv := hv_of hr
    exact (jss_cons (js_own (i := 2) sc__law_contents.nd rfl (Or.inl rfl) (jf_lst ja_nil)) (jss_cons (js_for (passes_of rfl) rfl (ji_seq (je_ix ix_seq o_ix (JE.jb (jv 0)) (JE.jb je_int) (fun _ _ => rfl))) (pg_name (i := 3) sc__law_contents.nd rfl (Or.inl rfl)) (fun _ _ => (jss_cons (js_set (i := 4) sc__law_contents.nd rfl (Or.inl rfl) (jcall o__law_named (hr.mono (by decide)) (pd rfl rfl rfl rfl) (ja_cons (jv 0) (ja_cons (jv 1) (ja_cons je_str (ja_cons (je_ix ix_seq o_ix (JE.jb (jv 3)) (JE.jb je_int) (fun _ _ => rfl)) ja_nil)))))) (jss_cons (js_set (i := 5) sc__law_contents.nd rfl (Or.inl rfl) (jcall o__law_named (hr.mono (by decide)) (pd rfl rfl rfl rfl) (ja_cons (jv 0) (ja_cons (jv 1) (ja_cons je_str (ja_cons (je_ix ix_seq o_ix (JE.jb (jv 3)) (JE.jb je_int) (fun _ _ => rfl)) ja_nil)))))) (jss_cons (js_own (i := 6) sc__law_contents.nd rfl (Or.inl rfl) (jf_lst ja_nil)) (jss_cons (js_for (passes_of rfl) rfl (ji_range1 (by rfl) B.range (ja_cons (je_callB call_len c_len (by rfl) B.len (by decide +kernel) (JE.jb (jv 4))) ja_nil)) (pg_name (i := 7) sc__law_contents.nd rfl (Or.inl rfl)) (fun _ _ => (jss_one (js_if (jt_cmp op_geO o_ge (JE.jb (je_count (je_slice (JE.jb (jv 4)) jo_no (jo_so (jv 7))) (je_ix ix_seq o_ix (JE.jb (jv 4)) (JE.jb (jv 7)) (fun _ _ => rfl)) (hb := fun ho ha => pe_bm PySem.F.plainAttrs_list PySem.F.slot_list_count PySem.F.type_list_count mt_countS ho ha))) (JE.jb (je_count (jv 5) (je_ix ix_seq o_ix (JE.jb (jv 4)) (JE.jb (jv 7)) (fun _ _ => rfl)) (hb := fun ho ha => pe_bm PySem.F.plainAttrs_list PySem.F.slot_list_count PySem.F.type_list_count mt_countS ho ha))) (nomark _)) (jss_one (js_app (i := 6) rfl (Or.inl rfl) (je_ix ix_seq o_ix (JE.jb (jv 4)) (JE.jb (jv 7)) (fun _ _ => rfl)) (hb := fun ho ha => pe_bm PySem.F.plainAttrs_list PySem.F.slot_list_append PySem.F.type_list_append mt_append ho ha))) jss_nil)))) (jss_one (js_app (i := 2) rfl (Or.inl rfl) (je_callTy call_tuple_of c_tup (by rfl) B.tuple (by decide +kernel) (jw 6)) (hb := fun ho ha => pe_bm PySem.F.plainAttrs_list PySem.F.slot_list_append PySem.F.type_list_append mt_append ho ha))))))))) (jss_one (js_ret (je_callTy call_tuple_of c_tup (by rfl) B.tuple (by decide +kernel) (jw 2))))))
theorem sc__law_heads : FnScope ["_law_program_here", "_law_contents_here", "_law_heads_here", "_law_c"] ["_law_program_here", "_law_contents_here"] (defScope (topS 50)) := ⟨rfl, rfl, rfl, by decide +kernel, rfl, by decide +kernel, by decide +kernel⟩
def s__law_heads : En → M (Fl × En) := sSeq (sOwn 2 (fLst (aNil))) (sSeq (sFor (iRange1 (aCons (e1 lenM (eVar 1)) (aNil))) (.nm 3) (sIf (tBl (e2 eqM (e2 ixM (e2 ixM (e2 ixM (eVar 0) (eC (.int 1))) (eVar 3)) (eC (.int 3))) (eC (.str "queue")))) (sApp 2 (eSl (e2 ixM (eVar 1) (eVar 3)) oNo (oSo (eC (.int 1))))) (sIf (tBl (e2 eqM (e2 ixM (e2 ixM (e2 ixM (eVar 0) (eC (.int 1))) (eVar 3)) (eC (.int 3))) (eC (.str "bag")))) (sApp 2 (e1 tupM (e1 ssetB (e2 ixM (eVar 1) (eVar 3))))) (sApp 2 (eTup (aNil)))))) (sRet (e1 tupM (eLook 2))))
def m__law_heads : List D → M D := runB 4 s__law_heads
theorem d__law_heads (F : Fn0 K mg "_law_heads" (topS 50) ["_law_program_here", "_law_contents_here"]) (B : Blt mg) : Own P w K mg base 1 "_law_heads" ["_law_program_here", "_law_contents_here"] m__law_heads :=
  own_def F sc__law_heads fun fa cdv A outer s H G μ E hr => by
    have hu := hr.units
    have hu1 := Nat.lt_of_le_of_lt (Nat.add_le_add_left (by decide : 1 ≤ 65) _) (hv_of hr)
    have hv := hv_of hr
    exact (jss_cons (js_own (i := 2) sc__law_heads.nd rfl (Or.inl rfl) (jf_lst ja_nil)) (jss_cons (js_for (passes_of rfl) rfl (ji_range1 (by rfl) B.range (ja_cons (je_callB call_len c_len (by rfl) B.len (by decide +kernel) (JE.jb (jv 1))) ja_nil)) (pg_name (i := 3) sc__law_heads.nd rfl (Or.inl rfl)) (fun _ _ => (jss_one (js_if (jt_cmp (op_eqD hu) o_eq (JE.jb (je_ix ix_seq o_ix (JE.jb (je_ix ix_seq o_ix (JE.jb (je_ix ix_seq o_ix (JE.jb (jv 0)) (JE.jb je_int) (fun _ _ => rfl))) (JE.jb (jv 3)) (fun _ _ => rfl))) (JE.jb je_int) (fun _ _ => rfl))) (JE.jb je_str) (nomark _)) (jss_one (js_app (i := 2) rfl (Or.inl rfl) (je_slice (JE.jb (je_ix ix_seq o_ix (JE.jb (jv 1)) (JE.jb (jv 3)) (fun _ _ => rfl))) jo_no (jo_so je_int)) (hb := fun ho ha => pe_bm PySem.F.plainAttrs_list PySem.F.slot_list_append PySem.F.type_list_append mt_append ho ha))) (jss_one (js_if (jt_cmp (op_eqD hu) o_eq (JE.jb (je_ix ix_seq o_ix (JE.jb (je_ix ix_seq o_ix (JE.jb (je_ix ix_seq o_ix (JE.jb (jv 0)) (JE.jb je_int) (fun _ _ => rfl))) (JE.jb (jv 3)) (fun _ _ => rfl))) (JE.jb je_int) (fun _ _ => rfl))) (JE.jb je_str) (nomark _)) (jss_one (js_app (i := 2) rfl (Or.inl rfl) (je_callTy call_tuple_of c_tup (by rfl) B.tuple (by decide +kernel) (JE.jb (je_sset3 rfl (by rfl) B.sorted (by rfl) B.set (JE.jb (je_ix ix_seq o_ix (JE.jb (jv 1)) (JE.jb (jv 3)) (fun _ _ => rfl)))))) (hb := fun ho ha => pe_bm PySem.F.plainAttrs_list PySem.F.slot_list_append PySem.F.type_list_append mt_append ho ha))) (jss_one (js_app (i := 2) rfl (Or.inl rfl) (je_tup ja_nil) (hb := fun ho ha => pe_bm PySem.F.plainAttrs_list PySem.F.slot_list_append PySem.F.type_list_append mt_append ho ha))))))))) (jss_one (js_ret (je_callTy call_tuple_of c_tup (by rfl) B.tuple (by decide +kernel) (jw 2))))))
theorem sc_find_arrow : FnScope ["program", "event", "party"] ["program", "event"] (defScope (topS 13)) := ⟨rfl, rfl, rfl, by decide +kernel, rfl, by decide +kernel, by decide +kernel⟩
def s_find_arrow : En → M (Fl × En) := sSeq (sIf (tNt (tBl (eCall 2 m_is_row (aCons (eVar 1) (aCons (eC (.int 2)) (aNil)))))) (sRet (eC .non)) (sNil)) (sSeq (sSet 2 (eCall 2 m_find_party (aCons (eVar 0) (aCons (e2 ixM (eVar 1) (eC (.int 0))) (aNil))))) (sSeq (sIf (tOor (tBl (e1 isNM (eVar 2))) (tNt (tBl (eCall 2 m_is_index (aCons (e2 ixM (eVar 1) (eC (.int 1))) (aCons (e2 ixM (eVar 2) (eC (.int 2))) (aNil))))))) (sRet (eC .non)) (sNil)) (sRet (e2 ixM (e2 ixM (eVar 2) (eC (.int 2))) (e2 ixM (eVar 1) (eC (.int 1)))))))
def m_find_arrow : List D → M D := runB 3 s_find_arrow
theorem d_find_arrow (F : Fn0 K mg "find_arrow" (topS 13) ["program", "event"]) (B : Blt mg) (o_is_row : Own P w K mg base 1 "is_row" ["thing", "size"] m_is_row) (o_find_party : Own P w K mg base 1 "find_party" ["program", "name"] m_find_party) (o_is_index : Own P w K mg base 3 "is_index" ["thing", "row"] m_is_index) : Own P w K mg base 4 "find_arrow" ["program", "event"] m_find_arrow :=
  own_def F sc_find_arrow fun fa cdv A outer s H G μ E hr => by
    have hu := hr.units
    have hu1 := Nat.lt_of_le_of_lt (Nat.add_le_add_left (by decide : 1 ≤ 65) _) (hv_of hr)
    have hv := hv_of hr
    exact (jss_cons (js_if (jt_not (jt_val (jcall o_is_row (hr.mono (by decide)) (pd rfl rfl rfl rfl) (ja_cons (jv 1) (ja_cons je_int ja_nil))))) (jss_one (js_ret je_non)) jss_nil) (jss_cons (js_set (i := 2) sc_find_arrow.nd rfl (Or.inl rfl) (jcall o_find_party (hr.mono (by decide)) (pd rfl rfl rfl rfl) (ja_cons (jv 0) (ja_cons (je_ix ix_seq o_ix (JE.jb (jv 1)) (JE.jb je_int) (fun _ _ => rfl)) ja_nil)))) (jss_cons (js_if (JW.jt (jw_or (jt_isN (jv 2)) (jw_or1 (jt_not (jt_val (jcall o_is_index (hr.mono (by decide)) (pd rfl rfl rfl rfl) (ja_cons (je_ix ix_seq o_ix (JE.jb (jv 1)) (JE.jb je_int) (fun _ _ => rfl)) (ja_cons (je_ix ix_seq o_ix (JE.jb (jv 2)) (JE.jb je_int) (fun _ _ => rfl)) ja_nil)))))))) (jss_one (js_ret je_non)) jss_nil) (jss_one (js_ret (je_ix ix_seq o_ix (JE.jb (je_ix ix_seq o_ix (JE.jb (jv 2)) (JE.jb je_int) (fun _ _ => rfl))) (JE.jb (je_ix ix_seq o_ix (JE.jb (jv 1)) (JE.jb je_int) (fun _ _ => rfl))) (fun _ _ => rfl)))))))
theorem sc__is_taken_by : FnScope ["program", "places", "doing", "following", "event", "arrow"] ["program", "places", "doing", "following"] (defScope (topS 21)) := ⟨rfl, rfl, rfl, by decide +kernel, rfl, by decide +kernel, by decide +kernel⟩
def s__is_taken_by : En → M (Fl × En) := sSeq (sFor (iSeq (eVar 3)) (.nm 4) (sSeq (sSet 5 (eCall 2 m_find_arrow (aCons (eVar 0) (aCons (eVar 4) (aNil))))) (sIf (tAn (tBl (e1 notNM (eVar 5))) (tBl (e2 eqM (e2 ixM (eVar 5) (eC (.int 1))) (eTup (aCons (eC (.str "take")) (aCons (e2 ixM (eVar 2) (eC (.int 1))) (aCons (e2 ixM (eVar 2) (eC (.int 2))) (aNil)))))))) (sRet (e2 eqM (e2 ixM (eVar 5) (eC (.int 0))) (e2 dgM (eVar 1) (e2 ixM (eVar 4) (eC (.int 0)))))) (sNil)))) (sRet (eC (.bl false)))
def m__is_taken_by : List D → M D := runB 6 s__is_taken_by
theorem d__is_taken_by (F : Fn0 K mg "_is_taken_by" (topS 21) ["program", "places", "doing", "following"]) (B : Blt mg) (o_find_arrow : Own P w K mg base 4 "find_arrow" ["program", "event"] m_find_arrow) : Own P w K mg base 5 "_is_taken_by" ["program", "places", "doing", "following"] m__is_taken_by :=
  own_def F sc__is_taken_by fun fa cdv A outer s H G μ E hr => by
    have hu := hr.units
    have hu1 := Nat.lt_of_le_of_lt (Nat.add_le_add_left (by decide : 1 ≤ 65) _) (hv_of hr)
    have hv := hv_of hr
    exact (jss_cons (js_for (passes_of rfl) rfl (ji_seq (jv 3)) (pg_name (i := 4) sc__is_taken_by.nd rfl (Or.inl rfl)) (fun _ _ => (jss_cons (js_set (i := 5) sc__is_taken_by.nd rfl (Or.inl rfl) (jcall o_find_arrow (hr.mono (by decide)) (pd rfl rfl rfl rfl) (ja_cons (jv 0) (ja_cons (jv 4) ja_nil)))) (jss_one (js_if (JW.jt (jw_and (jt_notN (jv 5)) (jw_and1 (jt_cmp (op_eqD hu) o_eq (JE.jb (je_ix ix_seq o_ix (JE.jb (jv 5)) (JE.jb je_int) (fun _ _ => rfl))) (JE.jb (je_tup (ja_cons je_str (ja_cons (je_ix ix_seq o_ix (JE.jb (jv 2)) (JE.jb je_int) (fun _ _ => rfl)) (ja_cons (je_ix ix_seq o_ix (JE.jb (jv 2)) (JE.jb je_int) (fun _ _ => rfl)) ja_nil))))) (nomark _))))) (jss_one (js_ret (je_cmp (op_eqD hu) o_eq (JE.jb (je_ix ix_seq o_ix (JE.jb (jv 5)) (JE.jb je_int) (fun _ _ => rfl))) (JE.jb (je_dget hu1 (jv 1) (je_ix ix_seq o_ix (JE.jb (jv 4)) (JE.jb je_int) (fun _ _ => rfl)))) (nomark _)))) jss_nil))))) (jss_one (js_ret je_bl)))
theorem sc__places_after : FnScope ["program", "made", "places", "party", "event"] ["program", "made"] (defScope (topS 24)) := ⟨rfl, rfl, rfl, by decide +kernel, rfl, by decide +kernel, by decide +kernel⟩
def s__places_after : En → M (Fl × En) := sSeq (sSet 2 (eDc (iSeq (e2 ixM (eVar 0) (eC (.int 0)))) (.nm 3) [3] (tTrue) (e2 ixM (eVar 3) (eC (.int 0))) (eC (.int 0)))) (sSeq (sFor (iSeq (eVar 1)) (.nm 4) (sDPut (eVar 2) (e2 ixM (eVar 4) (eC (.int 0))) (e2 ixM (eCall 2 m_find_arrow (aCons (eVar 0) (aCons (eVar 4) (aNil)))) (eC (.int 2))))) (sRet (e1 tupM (eL (eLc (iSeq (e2 ixM (eVar 0) (eC (.int 0)))) (.nm 3) [3] (tTrue) (e2 dgM (eVar 2) (e2 ixM (eVar 3) (eC (.int 0)))))))))
def m__places_after : List D → M D := runB 5 s__places_after
theorem d__places_after (F : Fn0 K mg "_places_after" (topS 24) ["program", "made"]) (B : Blt mg) (o_find_arrow : Own P w K mg base 4 "find_arrow" ["program", "event"] m_find_arrow) : Own P w K mg base 5 "_places_after" ["program", "made"] m__places_after :=
  own_def F sc__places_after fun fa cdv A outer s H G μ E hr => by
    have hu := hr.units
    have hu1 := Nat.lt_of_le_of_lt (Nat.add_le_add_left (by decide : 1 ≤ 65) _) (hv_of hr)
    have hv := hv_of hr
    exact (jss_cons (js_set (i := 2) sc__places_after.nd rfl (Or.inr rfl) (je_dc (own := [("party", 3)]) rfl sc__places_after.nd (ji_seq (je_ix ix_seq o_ix (JE.jb (jv 0)) (JE.jb je_int) (fun _ _ => rfl))) (blkOk_by (N := ["program", "made", "places", "party", "event"]) (sc := defScope (topS 24)) (by decide +kernel)) (by decide) (fun _ _ _ _ _ => (pg_name (i := 3) sc__places_after.nd rfl (Or.inl rfl))) (fun _ _ _ _ _ => jts_nil) (fun _ _ _ _ _ => (je_ix ix_seq o_ix (JE.jb (jv 3)) (JE.jb je_int) (fun _ _ => rfl))) (fun _ _ _ _ _ => je_int))) (jss_cons (js_for (passes_of rfl) rfl (ji_seq (jv 1)) (pg_name (i := 4) sc__places_after.nd rfl (Or.inl rfl)) (fun _ _ => (jss_one (js_dput hu1 (jv 2) (je_ix ix_seq o_ix (JE.jb (jv 4)) (JE.jb je_int) (fun _ _ => rfl)) (je_ix ix_seq o_ix (JE.jb (jcall o_find_arrow (hr.mono (by decide)) (pd rfl rfl rfl rfl) (ja_cons (jv 0) (ja_cons (jv 4) ja_nil)))) (JE.jb je_int) (fun _ _ => rfl)))))) (jss_one (js_ret (je_callTy call_tuple_of c_tup (by rfl) B.tuple (by decide +kernel) (JE.jb (JF.je (jf_lc (own := [("party", 3)]) rfl sc__places_after.nd (ji_seq (je_ix ix_seq o_ix (JE.jb (jv 0)) (JE.jb je_int) (fun _ _ => rfl))) (blkOk_by (N := ["program", "made", "places", "party", "event"]) (sc := defScope (topS 24)) (by decide +kernel)) (by decide) (fun _ _ _ _ _ => (pg_name (i := 3) sc__places_after.nd rfl (Or.inl rfl))) (fun _ _ _ _ _ => jts_nil) (fun _ _ _ _ _ => (je_dget hu1 (jv 2) (je_ix ix_seq o_ix (JE.jb (jv 3)) (JE.jb je_int) (fun _ _ => rfl))))))))))))
theorem sc_letter_rows : FnScope ["program", "thing", "places", "party", "lying", "channel", "rows", "k", "event", "arrow", "start", "doing", "end", "number", "other"] ["program", "thing"] (defScope (topS 19)) := ⟨rfl, rfl, rfl, by decide +kernel, rfl, by decide +kernel, by decide +kernel⟩
def s_letter_rows : En → M (Fl × En) := sSeq (sIf (tNt (tBl (e1 (isiM "tuple") (eVar 1)))) (sRaise "InvalidPaper" "word" "at" (aCons (eC (.str "shape")) (aCons (eNeg (eC (.int 1))) (aNil)))) (sNil)) (sSeq (sSet 2 (eDc (iSeq (e2 ixM (eVar 0) (eC (.int 0)))) (.nm 3) [3] (tTrue) (e2 ixM (eVar 3) (eC (.int 0))) (eC (.int 0)))) (sSeq (sSet 4 (eDc (iSeq (e2 ixM (eVar 0) (eC (.int 1)))) (.nm 5) [5] (tTrue) (e2 ixM (eVar 5) (eC (.int 0))) (eTup (aNil)))) (sSeq (sSet 6 (eNew (fLst (aNil)))) (sSeq (sFor (iEnumS (aCons (eVar 1) (aNil))) (.tp [7, 8]) (sSeq (sSet 9 (eCall 2 m_find_arrow (aCons (eVar 0) (aCons (eVar 8) (aNil))))) (sSeq (sIf (tBl (e1 isNM (eVar 9))) (sRaise "InvalidPaper" "word" "at" (aCons (eC (.str "event")) (aCons (eVar 7) (aNil)))) (sNil)) (sSeq (sUn (.tp [10, 11, 12]) (eVar 9)) (sSeq (sIf (tBl (e2 neM (eVar 10) (e2 dgM (eVar 2) (e2 ixM (eVar 8) (eC (.int 0)))))) (sRaise "InvalidPaper" "word" "at" (aCons (eC (.str "place")) (aCons (eVar 7) (aNil)))) (sNil)) (sSeq (sIf (tBl (e2 eqM (e2 ixM (eVar 11) (eC (.int 0))) (eC (.str "put")))) (sSeq (sIf (tAn (tBl (eCall 2 m_is_call (aCons (eVar 0) (aCons (e2 ixM (eVar 11) (eC (.int 1))) (aNil))))) (tNt (tBl (eCall 4 m__is_taken_by (aCons (eVar 0) (aCons (eVar 2) (aCons (eVar 11) (aCons (eSl (eVar 1) (oSo (e2 addM (eVar 7) (eC (.int 1)))) (oSo (e2 addM (eVar 7) (eC (.int 2))))) (aNil))))))))) (sRaise "InvalidPaper" "word" "at" (aCons (eC (.str "channel")) (aCons (eVar 7) (aNil)))) (sNil)) (sSeq (sDPut (eVar 4) (e2 ixM (eVar 11) (eC (.int 1))) (e2 addM (e2 dgM (eVar 4) (e2 ixM (eVar 11) (eC (.int 1)))) (eTup (aCons (e1 (dr1 lenM) (eVar 6)) (aNil))))) (sLput 6 (eTup (aCons (e2 ixM (eVar 11) (eC (.int 1))) (aCons (e2 ixM (eVar 11) (eC (.int 2))) (aCons (eVar 7) (aCons (eC .non) (aNil)))))) appK))) (sIf (tBl (e2 eqM (e2 ixM (eVar 11) (eC (.int 0))) (eC (.str "take")))) (sSeq (sSet 13 (eCall 4 m_letter_to_take (aCons (eVar 0) (aCons (eVar 6) (aCons (e2 dgM (eVar 4) (e2 ixM (eVar 11) (eC (.int 1)))) (aCons (eVar 11) (aNil))))))) (sSeq (sIf (tBl (e1 isNM (eVar 13))) (sRaise "InvalidPaper" "word" "at" (aCons (eC (.str "channel")) (aCons (eVar 7) (aNil)))) (sNil)) (sSeq (sDPut (eVar 4) (e2 ixM (eVar 11) (eC (.int 1))) (e1 tupM (eL (eLc (iSeq (e2 dgM (eVar 4) (e2 ixM (eVar 11) (eC (.int 1))))) (.nm 14) [14] (tBl (e2 neM (eVar 14) (eVar 13))) (eVar 14))))) (sLset 6 (eVar 13) (e2 addM (eSl (e2 (drL ixM) (eVar 6) (eVar 13)) oNo (oSo (eC (.int 3)))) (eTup (aCons (eVar 7) (aNil)))))))) (sNil))) (sDPut (eVar 2) (e2 ixM (eVar 8) (eC (.int 0))) (eVar 12)))))))) (sRet (eVar 6))))))
def m_letter_rows : List D → M D := runB 15 s_letter_rows
theorem d_letter_rows (F : Fn0 K mg "letter_rows" (topS 19) ["program", "thing"]) (B : Blt mg) (o_find_arrow : Own P w K mg base 4 "find_arrow" ["program", "event"] m_find_arrow) (o_is_call : Own P w K mg base 2 "is_call" ["program", "name"] m_is_call) (o__is_taken_by : Own P w K mg base 5 "_is_taken_by" ["program", "places", "doing", "following"] m__is_taken_by) (o_letter_to_take : Own P w K mg base 2 "letter_to_take" ["program", "rows", "lying", "doing"] m_letter_to_take) (x_InvalidPaper : Xc P w K mg base "InvalidPaper" "word" "at") : Own P w K mg base 6 "letter_rows" ["program", "thing"] m_letter_rows :=
  own_def F sc_letter_rows fun fa cdv A outer s H G μ E hr => by
    have hu := hr.units
    have hu1 := Nat.lt_of_le_of_lt (Nat.add_le_add_left (by decide : 1 ≤ 65) _) (hv_of hr)
    have hv := hv_of hr
    exact (jss_cons (js_if (jt_not (jt_val (je_isi (by rfl) B.isinstance (by rfl) B.tuple (by decide +kernel) (jv 1)))) (jss_one (js_raise rfl (takes_of rfl rfl rfl rfl) x_InvalidPaper (hr.mono (by decide)) (ja_cons je_str (ja_cons (je_neg je_int) ja_nil)))) jss_nil) (jss_cons (js_setDc (i := 2) (own := [("party", 3)]) rfl sc_letter_rows.nd rfl rfl (sw_trueD rfl rfl rfl (by decide +kernel)) (ji_seq (je_ix ix_seq o_ix (JE.jb (jv 0)) (JE.jb je_int) (fun _ _ => rfl))) (blkOk_by (N := ["program", "thing", "places", "party", "lying", "channel", "rows", "k", "event", "arrow", "start", "doing", "end", "number", "other"]) (sc := defScope (topS 19)) (by decide +kernel)) (by decide) (fun _ _ _ _ _ => (pg_name (i := 3) sc_letter_rows.nd rfl (Or.inl rfl))) (fun _ _ _ _ _ => jts_nil) (fun _ _ _ _ _ => (je_ix ix_seq o_ix (JE.jb (jv 3)) (JE.jb je_int) (fun _ _ => rfl))) (fun _ _ _ _ _ => je_int)) (jss_cons (js_setDc (i := 4) (own := [("channel", 5)]) rfl sc_letter_rows.nd rfl rfl (sw_trueD rfl rfl rfl (by decide +kernel)) (ji_seq (je_ix ix_seq o_ix (JE.jb (jv 0)) (JE.jb je_int) (fun _ _ => rfl))) (blkOk_by (N := ["program", "thing", "places", "party", "lying", "channel", "rows", "k", "event", "arrow", "start", "doing", "end", "number", "other"]) (sc := defScope (topS 19)) (by decide +kernel)) (by decide) (fun _ _ _ _ _ => (pg_name (i := 5) sc_letter_rows.nd rfl (Or.inl rfl))) (fun _ _ _ _ _ => jts_nil) (fun _ _ _ _ _ => (je_ix ix_seq o_ix (JE.jb (jv 5)) (JE.jb je_int) (fun _ _ => rfl))) (fun _ _ _ _ _ => (je_tup ja_nil))) (jss_cons (js_set (i := 6) sc_letter_rows.nd rfl (Or.inl rfl) (JF.new (jf_lst ja_nil))) (jss_cons (js_for (passes_of rfl) rfl (ji_enumS (by rfl) B.enumerate (ja_cons (jv 1) ja_nil)) (pg_tup rfl (pgs_cons (pg_name (i := 7) sc_letter_rows.nd rfl (Or.inl rfl)) (pgs_cons (pg_name (i := 8) sc_letter_rows.nd rfl (Or.inl rfl)) pgs_nil))) (fun _ _ => (jss_cons (js_set (i := 9) sc_letter_rows.nd rfl (Or.inl rfl) (jcall o_find_arrow (hr.mono (by decide)) (pd rfl rfl rfl rfl) (ja_cons (jv 0) (ja_cons (jv 8) ja_nil)))) (jss_cons (js_if (jt_isN (jv 9)) (jss_one (js_raise rfl (takes_of rfl rfl rfl rfl) x_InvalidPaper (hr.mono (by decide)) (ja_cons je_str (ja_cons (jv 7) ja_nil)))) jss_nil) (jss_cons (js_un (pt := (.tp [10, 11, 12])) (jv 9) (pg_tup rfl (pgs_cons (pg_name (i := 10) sc_letter_rows.nd rfl (Or.inl rfl)) (pgs_cons (pg_name (i := 11) sc_letter_rows.nd rfl (Or.inl rfl)) (pgs_cons (pg_name (i := 12) sc_letter_rows.nd rfl (Or.inl rfl)) pgs_nil))))) (jss_cons (js_if (jt_cmp (op_neD hu) o_ne (JE.jb (jv 10)) (JE.jb (je_dget hu1 (jv 2) (je_ix ix_seq o_ix (JE.jb (jv 8)) (JE.jb je_int) (fun _ _ => rfl)))) (nomark _)) (jss_one (js_raise rfl (takes_of rfl rfl rfl rfl) x_InvalidPaper (hr.mono (by decide)) (ja_cons je_str (ja_cons (jv 7) ja_nil)))) jss_nil) (jss_cons (js_if (jt_cmp (op_eqD hu) o_eq (JE.jb (je_ix ix_seq o_ix (JE.jb (jv 11)) (JE.jb je_int) (fun _ _ => rfl))) (JE.jb je_str) (nomark _)) (jss_cons (js_if (JW.jt (jw_and (jt_val (jcall o_is_call (hr.mono (by decide)) (pd rfl rfl rfl rfl) (ja_cons (jv 0) (ja_cons (je_ix ix_seq o_ix (JE.jb (jv 11)) (JE.jb je_int) (fun _ _ => rfl)) ja_nil)))) (jw_and1 (jt_not (jt_val (jcall o__is_taken_by (hr.mono (by decide)) (pd rfl rfl rfl rfl) (ja_cons (jv 0) (ja_cons (jv 2) (ja_cons (jv 11) (ja_cons (je_slice (JE.jb (jv 1)) (jo_so (je_op op_addA o_add (JE.jb (jv 7)) (JE.jb je_int))) (jo_so (je_op op_addA o_add (JE.jb (jv 7)) (JE.jb je_int)))) ja_nil)))))))))) (jss_one (js_raise rfl (takes_of rfl rfl rfl rfl) x_InvalidPaper (hr.mono (by decide)) (ja_cons je_str (ja_cons (jv 7) ja_nil)))) jss_nil) (jss_cons (js_dput hu1 (jv 4) (je_ix ix_seq o_ix (JE.jb (jv 11)) (JE.jb je_int) (fun _ _ => rfl)) (je_op op_addA o_add (JE.jb (je_dget hu1 (jv 4) (je_ix ix_seq o_ix (JE.jb (jv 11)) (JE.jb je_int) (fun _ _ => rfl)))) (JE.jb (je_tup (ja_cons (je_callB call_len (dr_c c_len) (by rfl) B.len (by decide +kernel) (JE.jb (jv 6))) ja_nil))))) (jss_one (js_appR (i := 6) rfl (Or.inl rfl) (je_tup (ja_cons (je_ix ix_seq o_ix (JE.jb (jv 11)) (JE.jb je_int) (fun _ _ => rfl)) (ja_cons (je_ix ix_seq o_ix (JE.jb (jv 11)) (JE.jb je_int) (fun _ _ => rfl)) (ja_cons (jv 7) (ja_cons je_non ja_nil))))) (hb := fun ho ha => pe_bm PySem.F.plainAttrs_list PySem.F.slot_list_append PySem.F.type_list_append mt_append ho ha))))) (jss_one (js_if (jt_cmp (op_eqD hu) o_eq (JE.jb (je_ix ix_seq o_ix (JE.jb (jv 11)) (JE.jb je_int) (fun _ _ => rfl))) (JE.jb je_str) (nomark _)) (jss_cons (js_set (i := 13) sc_letter_rows.nd rfl (Or.inr rfl) (jcall o_letter_to_take (hr.mono (by decide)) (pd rfl rfl rfl rfl) (ja_cons (jv 0) (ja_cons (jv 6) (ja_cons (je_dget hu1 (jv 4) (je_ix ix_seq o_ix (JE.jb (jv 11)) (JE.jb je_int) (fun _ _ => rfl))) (ja_cons (jv 11) ja_nil)))))) (jss_cons (js_if (jt_isN (jv 13)) (jss_one (js_raise rfl (takes_of rfl rfl rfl rfl) x_InvalidPaper (hr.mono (by decide)) (ja_cons je_str (ja_cons (jv 7) ja_nil)))) jss_nil) (jss_cons (js_dput hu1 (jv 4) (je_ix ix_seq o_ix (JE.jb (jv 11)) (JE.jb je_int) (fun _ _ => rfl)) (je_callTy call_tuple_of c_tup (by rfl) B.tuple (by decide +kernel) (JE.jb (JF.je (jf_lc (own := [("other", 14)]) rfl sc_letter_rows.nd (ji_seq (je_dget hu1 (jv 4) (je_ix ix_seq o_ix (JE.jb (jv 11)) (JE.jb je_int) (fun _ _ => rfl)))) (blkOk_by (N := ["program", "thing", "places", "party", "lying", "channel", "rows", "k", "event", "arrow", "start", "doing", "end", "number", "other"]) (sc := defScope (topS 19)) (by decide +kernel)) (by decide) (fun _ _ _ _ _ => (pg_name (i := 14) sc_letter_rows.nd rfl (Or.inl rfl))) (fun _ _ _ _ _ => (jts_one (jt_cmp (op_neD hu) o_ne (JE.jb (jv 14)) (JE.jb (jv 13)) (nomark _)))) (fun _ _ _ _ _ => (jv 14))))))) (jss_one (js_lset (j := 6) rfl (Or.inl rfl) (jv 13) (je_op op_addA o_add (JE.jb (je_slice (JE.jb (je_ix ix_seq (dr_l o_ix) (JE.jb (jv 6)) (JE.jb (jv 13)) (fun _ _ => rfl))) jo_no (jo_so je_int))) (JE.jb (je_tup (ja_cons (jv 7) ja_nil))))))))) jss_nil))) (jss_one (js_dput hu1 (jv 2) (je_ix ix_seq o_ix (JE.jb (jv 8)) (JE.jb je_int) (fun _ _ => rfl)) (jv 12)))))))))) (jss_one (js_ret (jv 6))))))))
theorem sc_rows_of_run : FnScope ["program", "made", "word", "rows"] ["program", "made", "word"] (defScope (topS 20)) := ⟨rfl, rfl, rfl, by decide +kernel, rfl, by decide +kernel, by decide +kernel⟩
def s_rows_of_run : En → M (Fl × En) := sSeq (sThru (sSet 3 (eCall 2 m_letter_rows (aCons (eVar 0) (aCons (eVar 1) (aNil)))))) (sRet (eVar 3))
def m_rows_of_run : List D → M D := runB 4 s_rows_of_run
theorem d_rows_of_run (F : Fn0 K mg "rows_of_run" (topS 20) ["program", "made", "word"]) (B : Blt mg) (o_letter_rows : Own P w K mg base 6 "letter_rows" ["program", "thing"] m_letter_rows) : Own P w K mg base 7 "rows_of_run" ["program", "made", "word"] m_rows_of_run :=
  own_def F sc_rows_of_run fun fa cdv A outer s H G μ E hr => by
    have hu := hr.units
    have hu1 := Nat.lt_of_le_of_lt (Nat.add_le_add_left (by decide : 1 ≤ 65) _) (hv_of hr)
    have hv := hv_of hr
    exact (jss_cons (js_thru (jss_one (js_set (i := 3) sc_rows_of_run.nd rfl (Or.inl rfl) (jcall o_letter_rows (hr.mono (by decide)) px (ja_cons (jv 0) (ja_cons (jv 1) ja_nil)))))) (jss_one (js_ret (jv 3))))
theorem sc_places_after : FnScope ["program", "made"] ["program", "made"] (defScope (topS 16)) := ⟨rfl, rfl, rfl, by decide +kernel, rfl, by decide +kernel, by decide +kernel⟩
def s_places_after : En → M (Fl × En) := sSeq (sExpr (eL (fTakeF (eCall 3 m_rows_of_run (aCons (eVar 0) (aCons (eVar 1) (aCons (eC (.str "made")) (aNil)))))))) (sRet (eCall 2 m__places_after (aCons (eVar 0) (aCons (eVar 1) (aNil)))))
def m_places_after : List D → M D := runB 2 s_places_after
theorem d_places_after (F : Fn0 K mg "places_after" (topS 16) ["program", "made"]) (B : Blt mg) (o_rows_of_run : Own P w K mg base 7 "rows_of_run" ["program", "made", "word"] m_rows_of_run) (o__places_after : Own P w K mg base 5 "_places_after" ["program", "made"] m__places_after) : Own P w K mg base 8 "places_after" ["program", "made"] m_places_after :=
  own_def F sc_places_after fun fa cdv A outer s H G μ E hr => by
    have hu := hr.units
    have hu1 := Nat.lt_of_le_of_lt (Nat.add_le_add_left (by decide : 1 ≤ 65) _) (hv_of hr)
    have hv := hv_of hr
    exact (jss_cons (js_expr (JE.jb (JF.je (jf_takeF (jcall o_rows_of_run (hr.mono (by decide)) (pd rfl rfl rfl rfl) (ja_cons (jv 0) (ja_cons (jv 1) (ja_cons je_str ja_nil)))))))) (jss_one (js_ret (jcall o__places_after (hr.mono (by decide)) (pd rfl rfl rfl rfl) (ja_cons (jv 0) (ja_cons (jv 1) ja_nil))))))
theorem sc_contents_of : FnScope ["program", "made"] ["program", "made"] (defScope (topS 17)) := ⟨rfl, rfl, rfl, by decide +kernel, rfl, by decide +kernel, by decide +kernel⟩
def s_contents_of : En → M (Fl × En) := sRet (eCall 2 m__contents_of (aCons (eVar 0) (aCons (eL (fTakeF (eCall 3 m_rows_of_run (aCons (eVar 0) (aCons (eVar 1) (aCons (eC (.str "made")) (aNil))))))) (aNil))))
def m_contents_of : List D → M D := runB 2 s_contents_of
theorem d_contents_of (F : Fn0 K mg "contents_of" (topS 17) ["program", "made"]) (B : Blt mg) (o__contents_of : Own P w K mg base 1 "_contents_of" ["program", "rows"] m__contents_of) (o_rows_of_run : Own P w K mg base 7 "rows_of_run" ["program", "made", "word"] m_rows_of_run) : Own P w K mg base 8 "contents_of" ["program", "made"] m_contents_of :=
  own_def F sc_contents_of fun fa cdv A outer s H G μ E hr => by
    have hu := hr.units
    have hu1 := Nat.lt_of_le_of_lt (Nat.add_le_add_left (by decide : 1 ≤ 65) _) (hv_of hr)
    have hv := hv_of hr
    exact (jss_one (js_ret (jcall o__contents_of (hr.mono (by decide)) (pd rfl rfl rfl rfl) (ja_cons (jv 0) (ja_cons (JF.je (jf_takeF (jcall o_rows_of_run (hr.mono (by decide)) (pd rfl rfl rfl rfl) (ja_cons (jv 0) (ja_cons (jv 1) (ja_cons je_str ja_nil)))))) ja_nil)))))
theorem sc_stand_after : FnScope ["program", "made", "contents", "heads", "channel", "names"] ["program", "made"] (defScope (topS 18)) := ⟨rfl, rfl, rfl, by decide +kernel, rfl, by decide +kernel, by decide +kernel⟩
def s_stand_after : En → M (Fl × En) := sSeq (sSet 2 (eCall 2 m__contents_of (aCons (eVar 0) (aCons (eL (fTakeF (eCall 3 m_rows_of_run (aCons (eVar 0) (aCons (eVar 1) (aCons (eC (.str "made")) (aNil))))))) (aNil))))) (sSeq (sSet 3 (eL (eLc (iZipS (aCons (e2 ixM (eVar 0) (eC (.int 1))) (aCons (eVar 2) (aNil)))) (.tp [4, 5]) [4, 5] (tTrue) (eCall 2 m_head_of (aCons (e2 ixM (eVar 4) (eC (.int 3))) (aCons (eVar 5) (aNil))))))) (sRet (eTup (aCons (eCall 2 m__places_after (aCons (eVar 0) (aCons (eVar 1) (aNil)))) (aCons (e1 tupM (eVar 3)) (aNil))))))
def m_stand_after : List D → M D := runB 6 s_stand_after
theorem d_stand_after (F : Fn0 K mg "stand_after" (topS 18) ["program", "made"]) (B : Blt mg) (o__contents_of : Own P w K mg base 1 "_contents_of" ["program", "rows"] m__contents_of) (o_rows_of_run : Own P w K mg base 7 "rows_of_run" ["program", "made", "word"] m_rows_of_run) (o_head_of : Own P w K mg base 1 "head_of" ["form", "names"] m_head_of) (o__places_after : Own P w K mg base 5 "_places_after" ["program", "made"] m__places_after) : Own P w K mg base 8 "stand_after" ["program", "made"] m_stand_after :=
  own_def F sc_stand_after fun fa cdv A outer s H G μ E hr => by
    have hu := hr.units
    have hu1 := Nat.lt_of_le_of_lt (Nat.add_le_add_left (by decide : 1 ≤ 65) _) (hv_of hr)
    have hv := hv_of hr
    exact (jss_cons (js_set (i := 2) sc_stand_after.nd rfl (Or.inl rfl) (jcall o__contents_of (hr.mono (by decide)) (pd rfl rfl rfl rfl) (ja_cons (jv 0) (ja_cons (JF.je (jf_takeF (jcall o_rows_of_run (hr.mono (by decide)) (pd rfl rfl rfl rfl) (ja_cons (jv 0) (ja_cons (jv 1) (ja_cons je_str ja_nil)))))) ja_nil)))) (jss_cons (js_setLc (i := 3) (own := [("channel", 4), ("names", 5)]) rfl sc_stand_after.nd rfl rfl (sw_true rfl rfl rfl (by decide +kernel)) (ji_zipS (by rfl) B.zip (ja_cons (je_ix ix_seq o_ix (JE.jb (jv 0)) (JE.jb je_int) (fun _ _ => rfl)) (ja_cons (jv 2) ja_nil))) (blkOk_by (N := ["program", "made", "contents", "heads", "channel", "names"]) (sc := defScope (topS 18)) (by decide +kernel)) (by decide) (fun _ _ _ _ _ => (pg_tup rfl (pgs_cons (pg_name (i := 4) sc_stand_after.nd rfl (Or.inl rfl)) (pgs_cons (pg_name (i := 5) sc_stand_after.nd rfl (Or.inl rfl)) pgs_nil)))) (fun _ _ _ _ _ => jts_nil) (fun _ _ _ _ _ => (jcall o_head_of (hr.mono (by decide)) px (ja_cons (je_ix ix_seq o_ix (JE.jb (jv 4)) (JE.jb je_int) (fun _ _ => rfl)) (ja_cons (jv 5) ja_nil))))) (jss_one (js_ret (je_tup (ja_cons (jcall o__places_after (hr.mono (by decide)) (pd rfl rfl rfl rfl) (ja_cons (jv 0) (ja_cons (jv 1) ja_nil))) (ja_cons (je_callTy call_tuple_of c_tup (by rfl) B.tuple (by decide +kernel) (JE.jb (jv 3))) ja_nil)))))))
theorem sc_law : FnScope ["_law_script", "_law_draws_here", "_law_program_here", "_law_parts", "_law_k", "_law_made", "_law_places_here", "_law_contents_here", "_law_told", "_law_place"] ["_law_script"] (defScope (topS 51)) := ⟨rfl, rfl, rfl, by decide +kernel, rfl, by decide +kernel, by decide +kernel⟩
def s_law : En → M (Fl × En) := sSeq (sSet 1 (eCall 2 m__law_draws (aCons (eVar 0) (aCons (eC (.int 60)) (aNil))))) (sSeq (sSet 2 (eCall 1 m__law_program (aCons (eVar 1) (aNil)))) (sSeq (sSet 3 (eCall 4 m__law_walk (aCons (eVar 2) (aCons (eVar 1) (aCons (eC (.int 35)) (aCons (eC (.int 10)) (aNil))))))) (sSeq (sFor (iRange1 (aCons (e2 addM (e1 lenM (eVar 3)) (eC (.int 1))) (aNil))) (.nm 4) (sSeq (sSet 5 (eCall 1 m__law_joined (aCons (eSl (eVar 3) oNo (oSo (eVar 4))) (aNil)))) (sSeq (sSet 6 (eCall 2 m__law_places (aCons (eVar 2) (aCons (eVar 5) (aNil))))) (sSeq (sSet 7 (eCall 2 m__law_contents (aCons (eVar 2) (aCons (eVar 5) (aNil))))) (sSeq (sSet 8 (eCall 2 m_places_after (aCons (eVar 2) (aCons (eVar 5) (aNil))))) (sSeq (sIf (tOor (tBl (e2 neM (eVar 8) (eVar 6))) (tNt (tBl (e1 allM (eL (eLc (iSeq (eVar 8)) (.nm 9) [9] (tTrue) (eCall 1 m__law_is_integer (aCons (eVar 9) (aNil))))))))) (sRet (eC (.bl false))) (sNil)) (sSeq (sIf (tBl (e2 neM (eCall 2 m_contents_of (aCons (eVar 2) (aCons (eVar 5) (aNil)))) (eVar 7))) (sRet (eC (.bl false))) (sNil)) (sSeq (sSet 8 (eCall 2 m_stand_after (aCons (eVar 2) (aCons (eVar 5) (aNil))))) (sSeq (sIf (tBl (e2 neM (eVar 8) (eTup (aCons (eVar 6) (aCons (eCall 2 m__law_heads (aCons (eVar 2) (aCons (eVar 7) (aNil)))) (aNil)))))) (sRet (eC (.bl false))) (sNil)) (sIf (tNt (tBl (e1 allM (eL (eLc (iSeq (e2 ixM (eVar 8) (eC (.int 0)))) (.nm 9) [9] (tTrue) (eCall 1 m__law_is_integer (aCons (eVar 9) (aNil)))))))) (sRet (eC (.bl false))) (sNil))))))))))) (sRet (eC (.bl true))))))
def m_law : List D → M D := runB 10 s_law
theorem d_law (F : Fn0 K mg "law" (topS 51) ["_law_script"]) (B : Blt mg) (o__law_draws : Own P w K mg base 2 "_law_draws" ["_law_script", "_law_many"] m__law_draws) (o__law_program : Own P w K mg base 3 "_law_program" ["_law_draws_here"] m__law_program) (o__law_walk : Own P w K mg base 5 "_law_walk" ["_law_program_here", "_law_draws_here", "_law_at", "_law_many"] m__law_walk) (o__law_joined : Own P w K mg base 1 "_law_joined" ["_law_parts"] m__law_joined) (o__law_places : Own P w K mg base 1 "_law_places" ["_law_program_here", "_law_made"] m__law_places) (o__law_contents : Own P w K mg base 4 "_law_contents" ["_law_program_here", "_law_made"] m__law_contents) (o_places_after : Own P w K mg base 8 "places_after" ["program", "made"] m_places_after) (o__law_is_integer : Own P w K mg base 1 "_law_is_integer" ["_law_thing"] m__law_is_integer) (o_contents_of : Own P w K mg base 8 "contents_of" ["program", "made"] m_contents_of) (o_stand_after : Own P w K mg base 8 "stand_after" ["program", "made"] m_stand_after) (o__law_heads : Own P w K mg base 1 "_law_heads" ["_law_program_here", "_law_contents_here"] m__law_heads) : Own P w K mg base 9 "law" ["_law_script"] m_law :=
  own_def F sc_law fun fa cdv A outer s H G μ E hr => by
    have hu := hr.units
    have hu1 := Nat.lt_of_le_of_lt (Nat.add_le_add_left (by decide : 1 ≤ 65) _) (hv_of hr)
    have hv := hv_of hr
    exact (jss_cons (js_set (i := 1) sc_law.nd rfl (Or.inl rfl) (jcall o__law_draws (hr.mono (by decide)) (pd rfl rfl rfl rfl) (ja_cons (jv 0) (ja_cons je_int ja_nil)))) (jss_cons (js_set (i := 2) sc_law.nd rfl (Or.inl rfl) (jcall o__law_program (hr.mono (by decide)) (pd rfl rfl rfl rfl) (ja_cons (jv 1) ja_nil))) (jss_cons (js_set (i := 3) sc_law.nd rfl (Or.inl rfl) (jcall o__law_walk (hr.mono (by decide)) (pd rfl rfl rfl rfl) (ja_cons (jv 2) (ja_cons (jv 1) (ja_cons je_int (ja_cons je_int ja_nil)))))) (jss_cons (js_for (passes_of rfl) rfl (ji_range1 (by rfl) B.range (ja_cons (je_op op_addA o_add (JE.jb (je_callB call_len c_len (by rfl) B.len (by decide +kernel) (JE.jb (jv 3)))) (JE.jb je_int)) ja_nil)) (pg_name (i := 4) sc_law.nd rfl (Or.inl rfl)) (fun _ _ => (jss_cons (js_set (i := 5) sc_law.nd rfl (Or.inl rfl) (jcall o__law_joined (hr.mono (by decide)) (pd rfl rfl rfl rfl) (ja_cons (je_slice (JE.jb (jv 3)) jo_no (jo_so (jv 4))) ja_nil))) (jss_cons (js_set (i := 6) sc_law.nd rfl (Or.inl rfl) (jcall o__law_places (hr.mono (by decide)) (pd rfl rfl rfl rfl) (ja_cons (jv 2) (ja_cons (jv 5) ja_nil)))) (jss_cons (js_set (i := 7) sc_law.nd rfl (Or.inl rfl) (jcall o__law_contents (hr.mono (by decide)) (pd rfl rfl rfl rfl) (ja_cons (jv 2) (ja_cons (jv 5) ja_nil)))) (jss_cons (js_set (i := 8) sc_law.nd rfl (Or.inl rfl) (jcall o_places_after (hr.mono (by decide)) (pd rfl rfl rfl rfl) (ja_cons (jv 2) (ja_cons (jv 5) ja_nil)))) (jss_cons (js_if (JW.jt (jw_or (jt_cmp (op_neD hu) o_ne (JE.jb (jv 8)) (JE.jb (jv 6)) (nomark _)) (jw_or1 (jt_not (jt_val (je_callB (cr_all rfl) c_all (by rfl) B.all (by decide +kernel) (JE.jb (JF.je (jf_lc (own := [("_law_place", 9)]) rfl sc_law.nd (ji_seq (jv 8)) (blkOk_by (N := ["_law_script", "_law_draws_here", "_law_program_here", "_law_parts", "_law_k", "_law_made", "_law_places_here", "_law_contents_here", "_law_told", "_law_place"]) (sc := defScope (topS 51)) (by decide +kernel)) (by decide) (fun _ _ _ _ _ => (pg_name (i := 9) sc_law.nd rfl (Or.inl rfl))) (fun _ _ _ _ _ => jts_nil) (fun _ _ _ _ _ => (jcall o__law_is_integer (hr.mono (by decide)) px (ja_cons (jv 9) ja_nil)))))))))))) (jss_one (js_ret je_bl)) jss_nil) (jss_cons (js_if (jt_cmp (op_neD hu) o_ne (JE.jb (jcall o_contents_of (hr.mono (by decide)) (pd rfl rfl rfl rfl) (ja_cons (jv 2) (ja_cons (jv 5) ja_nil)))) (JE.jb (jv 7)) (nomark _)) (jss_one (js_ret je_bl)) jss_nil) (jss_cons (js_set (i := 8) sc_law.nd rfl (Or.inl rfl) (jcall o_stand_after (hr.mono (by decide)) (pd rfl rfl rfl rfl) (ja_cons (jv 2) (ja_cons (jv 5) ja_nil)))) (jss_cons (js_if (jt_cmp (op_neD hu) o_ne (JE.jb (jv 8)) (JE.jb (je_tup (ja_cons (jv 6) (ja_cons (jcall o__law_heads (hr.mono (by decide)) (pd rfl rfl rfl rfl) (ja_cons (jv 2) (ja_cons (jv 7) ja_nil))) ja_nil)))) (nomark _)) (jss_one (js_ret je_bl)) jss_nil) (jss_one (js_if (jt_not (jt_val (je_callB (cr_all rfl) c_all (by rfl) B.all (by decide +kernel) (JE.jb (JF.je (jf_lc (own := [("_law_place", 9)]) rfl sc_law.nd (ji_seq (je_ix ix_seq o_ix (JE.jb (jv 8)) (JE.jb je_int) (fun _ _ => rfl))) (blkOk_by (N := ["_law_script", "_law_draws_here", "_law_program_here", "_law_parts", "_law_k", "_law_made", "_law_places_here", "_law_contents_here", "_law_told", "_law_place"]) (sc := defScope (topS 51)) (by decide +kernel)) (by decide) (fun _ _ _ _ _ => (pg_name (i := 9) sc_law.nd rfl (Or.inl rfl))) (fun _ _ _ _ _ => jts_nil) (fun _ _ _ _ _ => (jcall o__law_is_integer (hr.mono (by decide)) px (ja_cons (jv 9) ja_nil))))))))) (jss_one (js_ret je_bl)) jss_nil)))))))))))) (jss_one (js_ret je_bl))))))
end
end LK
set_option linter.all false
set_option maxRecDepth 100000
set_option maxHeartbeats 4000000
/-! PW8: the walks' rules for lists and dicts of the store, comprehensions by functions, texts by kinds. -/
namespace PL
open PySem PySem.Spec L2
theorem small3 {n : Nat} (h : n ≤ 1000000) : n ≤ sizeLine := Nat.le_trans h (by decide)
section
variable {R : D → Sto → Prop} {st : Sto} {k n : Nat} {ds : List D} {Q : Fl × En → Sto → Prop} {ρ : En} {f g : En → M D} {i : Nat} {fl : En → M (List D)} {A : List D → Sto → Prop} {ga : En → M (List D)}
theorem w_dr1 {p : D → M D} (h : st[k]? = some (.lst ds)) (q : wp (p (.lst ds)) R st) : wp (dr1 p (.ref k)) R st := by
  show wp ((((lstAt k).bind fun ds => M.pure (.lst ds))).bind p) R st
  rw [wp_bind, wp_bind, wp_lstAt]
  exact ⟨ds, h, by rw [wp_pure]; exact q⟩
theorem w_drL {p : D → D → M D} {y : D} (h : st[k]? = some (.lst ds)) (q : wp (p (.lst ds) y) R st) : wp (drL p (.ref k) y) R st := by
  show wp ((((lstAt k).bind fun ds => M.pure (.lst ds))).bind fun x => p x y) R st
  rw [wp_bind, wp_bind, wp_lstAt]
  exact ⟨ds, h, by rw [wp_pure]; exact q⟩
theorem w_drR {p : D → D → M D} {x : D} (h : st[k]? = some (.lst ds)) (q : wp (p x (.lst ds)) R st) : wp (drR p x (.ref k)) R st := by
  show wp ((((lstAt k).bind fun ds => M.pure (.lst ds))).bind fun y => p x y) R st
  rw [wp_bind, wp_bind, wp_lstAt]
  exact ⟨ds, h, by rw [wp_pure]; exact q⟩
theorem w_dr1L {p : D → M D} (q : wp (p (.lst ds)) R st) : wp (dr1 p (.lst ds)) R st := q
theorem w_dr1T {p : D → M D} (q : wp (p (.tup ds)) R st) : wp (dr1 p (.tup ds)) R st := q
theorem w_new (q : wp (fl ρ) (fun ds s => R (.ref s.length) (s ++ [.lst ds])) st) : wp (eNew fl ρ) R st := by
  unfold eNew
  rw [wp_bind]
  simp only [wp_newOb]
  exact q
theorem w_thru {f : En → M (Fl × En)} (q : wp (f ρ) Q st) : wp (sThru f ρ) Q st := by
  rw [wp_is] at q ⊢
  unfold sThru
  cases e : f ρ st with
  | ok a s => rw [e] at q; exact q
  | err x s => rw [e] at q; exact q.elim
  | bad => rw [e] at q; exact q.elim
theorem w_appE (q : wp (f ρ) (fun d s => ∃ n ds0, d = .ref n ∧ s[n]? = some (.lst ds0) ∧ wp (g ρ) (fun v s' => ∃ ds, s'[n]? = some (.lst ds) ∧ ds.length + 1 ≤ sizeLine ∧ Q (.nx, ρ) (s'.set n (.lst (ds ++ [v])))) s) st) : wp (sAppE f g ρ) Q st := by
  unfold sAppE
  rw [wp_bind]
  refine wp_mono q fun d s ⟨n, ds0, e, h0, q⟩ => ?_
  subst e
  show wp ((lstAt n).bind _) Q s
  rw [wp_bind, wp_lstAt]
  refine ⟨ds0, h0, ?_⟩
  rw [wp_bind]
  refine wp_mono q fun v s' ⟨ds, h1, h2, q⟩ => ?_
  rw [wp_bind, wp_lstAt]
  refine ⟨ds, h1, ?_⟩
  unfold appK
  rw [wp_bind, wp_bind, wp_line]
  refine ⟨h2, ?_⟩
  rw [wp_pure, wp_bind, wp_setAt, wp_pure]
  exact q
theorem w_remE (q : wp (f ρ) (fun d s => ∃ n ds0, d = .ref n ∧ s[n]? = some (.lst ds0) ∧ wp (g ρ) (fun v s' => ∃ (xs : List Str) (y : Str), s'[n]? = some (.lst (xs.map D.str)) ∧ v = .str y ∧ y ∈ xs ∧ Q (.nx, ρ) (s'.set n (.lst ((xs.erase y).map D.str)))) s) st) : wp (sRemE f g ρ) Q st := by
  unfold sRemE
  rw [wp_bind]
  refine wp_mono q fun d s ⟨n, ds0, e, h0, q⟩ => ?_
  subst e
  show wp ((lstAt n).bind _) Q s
  rw [wp_bind, wp_lstAt]
  refine ⟨ds0, h0, ?_⟩
  rw [wp_bind]
  refine wp_mono q fun v s' ⟨xs, y, h1, e, h2, q⟩ => ?_
  subst e
  rw [wp_bind, wp_lstAt]
  refine ⟨_, h1, ?_⟩
  have es : strsD (xs.map D.str) = some xs := by
    clear h1 h2 q
    induction xs with
    | nil => rfl
    | cons x xs ih => show (strsD (xs.map D.str)).map (x :: ·) = _; rw [ih]; rfl
  show wp (((opt (strsD (xs.map D.str))).bind fun xs => guardM (decide (y ∈ xs)) (M.pure ((xs.erase y).map D.str))).bind _) Q s'
  rw [wp_bind, wp_bind, es, wp_some, wp_guard]
  refine ⟨decide_eq_true h2, ?_⟩
  rw [wp_pure, wp_bind, wp_setAt, wp_pure]
  exact q
theorem w_slR {lo hi : En → M (Option Int)} (q : wp (f ρ) (fun x s => wp (lo ρ) (fun l s => wp (hi ρ) (fun h s => ∃ n ds, x = .ref n ∧ s[n]? = some (.lst ds) ∧ R (.lst (cutD ds l h)) s) s) s) st) : wp (eSlR f lo hi ρ) R st := by
  unfold eSlR
  rw [wp_bind]
  refine wp_mono q fun x s q => ?_
  rw [wp_bind]
  refine wp_mono q fun l s q => ?_
  rw [wp_bind]
  refine wp_mono q fun h s ⟨n, ds, e, h1, q1⟩ => ?_
  subst e
  show wp ((lstAt n).bind fun ds => M.pure (.lst (cutD ds l h))) R s
  rw [wp_bind, wp_lstAt]
  exact ⟨ds, h1, by rw [wp_pure]; exact q1⟩
theorem w_lput {ds0 : List D} (hr : refS i ρ = some n) (h0 : st[n]? = some (.lst ds0)) (q : wp (f ρ) (fun d s => ∃ ds, s[n]? = some (.lst ds) ∧ ds.length + 1 ≤ sizeLine ∧ Q (.nx, ρ) (s.set n (.lst (ds ++ [d])))) st) : wp (sLput i f appK ρ) Q st := by
  unfold sLput
  rw [wp_bind, hr, wp_some, wp_bind, wp_lstAt]
  refine ⟨ds0, h0, ?_⟩
  rw [wp_bind]
  refine wp_mono q fun d s ⟨ds, h1, h2, h3⟩ => ?_
  rw [wp_bind, wp_lstAt]
  refine ⟨ds, h1, ?_⟩
  unfold appK
  rw [wp_bind, wp_bind, wp_line]
  refine ⟨h2, ?_⟩
  rw [wp_pure, wp_bind, wp_setAt, wp_pure]
  exact h3
theorem w_lset (q : wp (f ρ) (fun d s => refS i ρ = some n ∧ wp (g ρ) (fun x s => ∃ z, x = .int z ∧ ∃ ds j, s[n]? = some (.lst ds) ∧ ixN ds.length z = some j ∧ Q (.nx, ρ) (s.set n (.lst (ds.set j d)))) s) st) : wp (sLset i g f ρ) Q st := by
  unfold sLset
  rw [wp_bind]
  refine wp_mono q fun d s ⟨hr, q⟩ => ?_
  rw [wp_bind, hr, wp_some, wp_bind]
  refine wp_mono q fun x s ⟨z, e, ds, j, h1, h2, h3⟩ => ?_
  subst e
  rw [wp_bind, wp_some, wp_bind, wp_lstAt]
  refine ⟨ds, h1, ?_⟩
  unfold setK
  rw [wp_bind, wp_bind, h2, wp_some, wp_pure, wp_bind, wp_setAt, wp_pure]
  exact h3
theorem w_enumT (q : wp (ga ρ) (fun ds s => ∃ xs, ds = [.tup xs] ∧ xs.length ≤ sizeLine ∧ A (numb 0 xs) s) st) : wp (iEnumS ga ρ) A st := by
  unfold iEnumS; rw [wp_bind]
  refine wp_mono q fun ds s ⟨xs, e, hl, q⟩ => ?_
  subst e
  show wp ((line xs.length).bind _) A s
  rw [wp_bind, wp_line, wp_pure]
  exact ⟨hl, q⟩
theorem w_words {y : Str} (hl : y.length + 2 ≤ sizeLine) (q : R (.lst ((Txt.words y).map D.str)) st) : wp (wordsM (.str y)) R st := by
  show wp (guardM _ _) R st
  rw [wp_guard]
  exact ⟨decide_eq_true hl, by rw [wp_pure]; exact q⟩
theorem w_abs {z : Int} (q : R (.int (if z < 0 then -z else z)) st) : wp (absM (.int z)) R st := ⟨q⟩
theorem w_intS {a : Str} {z : Int} (hl : a.length ≤ 640) (e : PySem.intText? a = some z) (q : R (.int z) st) : wp (intM (.str a)) R st := by
  show wp (guardM _ ((opt (PySem.intText? a)).bind fun n => M.pure (.int n))) R st
  rw [wp_guard, wp_bind, e, wp_some]
  exact ⟨decide_eq_true hl, by rw [wp_pure]; exact q⟩
theorem w_find {a b : Str} (q : R (.int (Txt.find a b)) st) : wp (findM a (.str b)) R st := ⟨q⟩
theorem w_lstT (q : R (.lst ds) st) : wp (lstM (.tup ds)) R st := ⟨q⟩
theorem w_lstL (q : R (.lst ds) st) : wp (lstM (.lst ds)) R st := ⟨q⟩
/-! dicts -/
theorem w_dg {kvs : List (Key × D)} {x : Str} {d : D} (h : st[n]? = some (.dict kvs)) (e : valD (.inr x) kvs = some d) (q : R d st) : wp (dgM (.ref n) (.str x)) R st := by
  show wp ((dictAt n).bind fun kvs => opt (valD (.inr x) kvs)) R st
  rw [wp_bind, wp_dictAt]
  exact ⟨_, h, by rw [e, wp_some]; exact q⟩
theorem w_dp {kvs : List (Key × D)} {x : Str} {d : D} {S : Unit → Sto → Prop} (h : st[n]? = some (.dict kvs)) (hl : kvs.length < sizeLine) (q : S () (st.set n (.dict (putD kvs (.inr x) d)))) : wp (dpM (.ref n) (.str x) d) S st := by
  show wp ((dictAt n).bind fun kvs => guardM (decide (kvs.length < sizeLine)) (setAt n (.dict (putD kvs (.inr x) d)))) S st
  rw [wp_bind, wp_dictAt]
  refine ⟨_, h, ?_⟩
  rw [wp_guard, wp_setAt]
  exact ⟨decide_eq_true hl, q⟩
variable {ks : List Str} {fs : List (En → M D)}
theorem w_dict (q : wp (aL fs ρ) (fun ds s => R (.ref s.length) (s ++ [.dict (putAll [] ((ks.map Sum.inr).zip ds))])) st) : wp (eDict ks fs ρ) R st := by
  unfold eDict; rw [wp_bind]; simp only [wp_newOb]; exact q
theorem w_aLn (q : A [] st) : wp (aL [] ρ) A st := ⟨q⟩
theorem w_aLc (q : wp (f ρ) (fun x s => wp (aL fs ρ) (fun xs s => A (x :: xs) s) s) st) : wp (aL (f :: fs) ρ) A st := by
  unfold aL; rw [wp_bind]
  refine wp_mono q fun x s q => ?_
  rw [wp_bind]; simp only [wp_pure]; exact q
theorem w_dc {it : En → M (List D)} {p : Pt} {vs : List Nat} {tt : En → M Bool} {tk tv : En → M D} (q : wp (it ρ) (fun ds s => wp (dcL p.set tt tk tv (wipeE ρ vs) ds []) (fun kvs s' => R (.ref s'.length) (s' ++ [.dict kvs])) s) st) : wp (eDc it p vs tt tk tv ρ) R st := by
  unfold eDc
  rw [wp_bind]
  refine wp_mono q fun ds s q => ?_
  rw [wp_bind, wp_noX]
  exact wp_mono q fun kvs s' q => ⟨q⟩
theorem dc_mp {α : Type} {set : D → En → Option En} {tk tv : En → M D} (f : α → D) (key : α → Str) (val : α → D) : ∀ (xs : List α) (done : List α) {R : List (Key × D) → Sto → Prop}, (∀ x ∈ xs, ∃ ρ', set (f x) ρ = some ρ' ∧ (∀ Q : D → Sto → Prop, Q (.str (key x)) st → wp (tk ρ') Q st) ∧ (∀ Q : D → Sto → Prop, Q (val x) st → wp (tv ρ') Q st)) →
    ((done ++ xs).map key).Nodup → (done ++ xs).length ≤ 100000 → R ((done ++ xs).map fun x => (.inr (key x), val x)) st → wp (dcL set tTrue tk tv ρ (xs.map f) (done.map fun x => (.inr (key x), val x))) R st
  | [], done, R, _, _, _, k => by
    show wp (M.pure _) R st
    rw [wp_pure]
    rw [List.append_nil] at k; exact k
  | x :: xs, done, R, hs, nd, hl, k => by
    obtain ⟨ρ', e, h1, h2⟩ := hs x List.mem_cons_self
    show wp ((opt (set (f x) ρ)).bind _) R st
    rw [wp_bind, e, wp_some, wp_bind]
    refine w_true ?_
    rw [if_pos rfl, wp_bind]
    refine h1 _ ?_
    rw [wp_bind]
    refine h2 _ ?_
    rw [wp_bind]
    show wp (opt (some (Sum.inr (key x)))) _ st
    rw [wp_some, wp_guard]
    have hlen : done.length < sizeLine := Nat.lt_of_lt_of_le (by rw [List.length_append, List.length_cons] at hl; omega) (small3 (Nat.le_refl 1000000))
    refine ⟨decide_eq_true (by rw [List.length_map]; exact hlen), ?_⟩
    have hput : putD (done.map fun x => ((.inr (key x) : Key), val x)) (.inr (key x)) (val x) = (done ++ [x]).map fun x => ((.inr (key x) : Key), val x) := by
      unfold putD
      rw [if_neg, List.map_append]; rfl
      intro hh
      obtain ⟨q, hq, e⟩ := List.any_eq_true.mp hh
      obtain ⟨y, hy, rfl⟩ := List.mem_map.mp hq
      have e' : key y = key x := Sum.inr.inj (of_decide_eq_true e)
      rw [List.map_append, List.map_cons] at nd
      have := (List.nodup_append.mp nd).2.2 (key y) (List.mem_map.mpr ⟨y, hy, rfl⟩) (key x) List.mem_cons_self
      exact this e'
    rw [hput]
    refine dc_mp f key val xs (done ++ [x]) (fun z hz => hs z (List.mem_cons_of_mem _ hz)) (by rw [List.append_assoc]; exact nd) (by rw [List.append_assoc]; exact hl) ?_
    rw [List.append_assoc]; exact k
end
/-! comprehensions and walks by functions -/
section
variable {st : Sto}
theorem lc_fm {α : Type} {set : D → En → Option En} {tt : En → M Bool} {te : En → M D} {ρ : En} (f : α → D) (p : α → Bool) (g : α → D) : ∀ (xs : List α) {R : List D → Sto → Prop}, (∀ x ∈ xs, ∃ ρ', set (f x) ρ = some ρ' ∧ (∀ T : Bool → Sto → Prop, T (p x) st → wp (tt ρ') T st) ∧ (p x = true → ∀ Q : D → Sto → Prop, Q (g x) st → wp (te ρ') Q st)) →
    R ((xs.filter p).map g) st → wp (lcL set tt te ρ (xs.map f)) R st
  | [], R, _, k => by
    show wp (M.pure _) R st
    rw [wp_pure]; exact k
  | x :: xs, R, hs, k => by
    obtain ⟨ρ', e, h1, h2⟩ := hs x List.mem_cons_self
    show wp ((opt (set (f x) ρ)).bind _) R st
    rw [wp_bind, e, wp_some, wp_bind]
    refine h1 _ ?_
    by_cases h : p x = true
    · rw [if_pos h, wp_bind]
      refine h2 h _ ?_
      rw [wp_bind]
      refine lc_fm f p g xs (fun z hz => hs z (List.mem_cons_of_mem _ hz)) ?_
      rw [wp_pure]
      rw [List.filter_cons_of_pos h] at k
      exact k
    · rw [if_neg h]
      refine lc_fm f p g xs (fun z hz => hs z (List.mem_cons_of_mem _ hz)) ?_
      rw [List.filter_cons_of_neg h] at k
      exact k
theorem lc_mp {α : Type} {set : D → En → Option En} {te : En → M D} {ρ : En} (f : α → D) (g : α → D) (xs : List α) {R : List D → Sto → Prop} (hs : ∀ x ∈ xs, ∃ ρ', set (f x) ρ = some ρ' ∧ (∀ Q : D → Sto → Prop, Q (g x) st → wp (te ρ') Q st))
    (k : R (xs.map g) st) : wp (lcL set tTrue te ρ (xs.map f)) R st := by
  refine lc_fm f (fun _ => true) g xs (fun x hx => ?_) (by rw [List.filter_eq_self.mpr fun _ _ => rfl]; exact k)
  obtain ⟨ρ', e, h⟩ := hs x hx
  exact ⟨ρ', e, fun T hT => w_true hT, fun _ => h⟩
/-- a search: the first item that is hit is returned -/
theorem for_find {α : Type} {bd : D → En → M (Fl × En)} {Q : Fl × En → Sto → Prop} (f : α → D) (hit : α → Bool) (res : α → D) (I : En → Prop) : ∀ (xs : List α) (ρ : En),
    (∀ a ∈ xs, ∀ ρ, I ρ → wp (bd (f a) ρ) (fun r s => s = st ∧ ((hit a = false ∧ r.1 = .nx ∧ I r.2) ∨ (hit a = true ∧ r.1 = .ret (res a)))) st) → I ρ →
    (∀ a, xs.find? hit = some a → ∀ ρ, Q (.ret (res a), ρ) st) → (xs.find? hit = none → ∀ ρ, I ρ → Q (.nx, ρ) st) → wp (forL bd (xs.map f) ρ) Q st
  | [], ρ, _, hI, _, k => by
    show wp (M.pure _) Q st
    rw [wp_pure]; exact k rfl ρ hI
  | a :: xs, ρ, hs, hI, k1, k2 => by
    show wp ((bd (f a) ρ).bind _) Q st
    rw [wp_bind]
    refine wp_mono (hs a List.mem_cons_self ρ hI) fun r s ⟨es, h⟩ => ?_
    rw [es]
    obtain ⟨fl, ρ1⟩ := r
    rcases h with ⟨h, e, hI1⟩ | ⟨h, e⟩
    · cases e
      refine for_find f hit res I xs ρ1 (fun z hz => hs z (List.mem_cons_of_mem _ hz)) hI1 (fun b hb => k1 b (by rw [List.find?_cons_of_neg (by simp [h])]; exact hb)) fun hb => k2 (by rw [List.find?_cons_of_neg (by simp [h])]; exact hb)
    · cases e
      rw [wp_pure]
      exact k1 a (List.find?_cons_of_pos h) ρ1
end
end PL
set_option linter.all false
set_option maxRecDepth 100000
set_option maxHeartbeats 4000000
/-! PW10: walk rules of zip and count. -/
namespace L2
open PySem PySem.Spec PL
section
variable {ρ : En} {st : Sto} {f g : En → M D} {ga : En → M (List D)} {R : D → Sto → Prop} {A : List D → Sto → Prop}
theorem w_zip (q : wp (ga ρ) (fun ds s => ∃ xs ys, ds = [.tup xs, .tup ys] ∧ min xs.length ys.length ≤ sizeLine ∧ A (zipD xs ys) s) st) : wp (iZipS ga ρ) A st := by
  unfold iZipS; rw [wp_bind]
  refine wp_mono q fun ds s ⟨xs, ys, e, h, q⟩ => ?_
  subst e
  show wp ((line (min xs.length ys.length)).bind fun _ => M.pure (zipD xs ys)) A s
  rw [wp_bind, wp_line, wp_pure]
  exact ⟨h, q⟩
theorem strsD_map : ∀ xs : List Str, strsD (xs.map D.str) = some xs
  | [] => rfl
  | x :: xs => by
    show (strsD (xs.map D.str)).map (x :: ·) = _
    rw [strsD_map xs]; rfl
theorem w_cnt (q : wp (f ρ) (fun x s => ∃ xs : List Str, x = .lst (xs.map D.str) ∧ wp (g ρ) (fun y s => ∃ k, y = .str k ∧ R (.int ((xs.count k : Nat) : Int)) s) s) st) : wp (eCnt f g ρ) R st := by
  unfold eCnt; rw [wp_bind]
  refine wp_mono q fun x s ⟨xs, e, q⟩ => ?_
  subst e
  show wp ((g ρ).bind fun y => cntM (xs.map D.str) y) R s
  rw [wp_bind]
  refine wp_mono q fun y s ⟨k, e, q⟩ => ?_
  subst e
  show wp ((opt (strsD (xs.map D.str))).bind fun xs => M.pure (.int ((xs.count k : Nat) : Int))) R s
  rw [strsD_map, wp_bind, wp_some, wp_pure]
  exact q
end
end L2
set_option linter.all false
set_option maxRecDepth 100000
set_option maxHeartbeats 4000000
/-! PW11: walk rules of sorted(set(..)) of texts, of a list taken out of the store. -/
namespace L2
open PySem PySem.Spec PL
section
variable {ρ : En} {st : Sto} {f g : En → M D} {ga : En → M (List D)} {R : D → Sto → Prop} {A : List D → Sto → Prop}
theorem w_tak (q : wp (f ρ) (fun d s => ∃ m ds, d = .ref m ∧ s[m]? = some (.lst ds) ∧ TakOk st s m ds ∧ A ds (s.take m)) st) : wp (fTakeF f ρ) A st := by
  obtain ⟨d, s, e, m, ds, rfl, h1, h2, h3⟩ := wp_ok q
  refine ⟨?_⟩
  unfold fTakeF
  rw [e]
  dsimp only
  rw [h1]
  dsimp only
  rw [if_pos h2]
  exact h3
theorem noML_all {m : Nat} : ∀ {ds : List D}, (∀ d ∈ ds, noM m d = true) → noML m ds = true
  | [], _ => by unfold noML; rfl
  | d :: ds, h => by
    unfold noML
    rw [h d List.mem_cons_self, noML_all fun x hx => h x (List.mem_cons_of_mem _ hx)]; rfl
theorem w_ssetB {ns : List Str} (h : ns.length < 64) (k : R (.lst ((uniqS ns).map D.str)) st) : wp (ssetB (.tup (ns.map D.str))) R st := by
  show wp (guardM (decide ((ns.map D.str).length < 64)) ((opt (strsD (ns.map D.str))).bind _)) R st
  rw [wp_guard, strsD_map, wp_bind, wp_some, wp_pure]
  exact ⟨decide_eq_true (by rw [List.length_map]; exact h), k⟩
end
end L2
set_option linter.all false
set_option maxRecDepth 100000
set_option maxHeartbeats 4000000
/-! PW9: programs as data (names, doings, arrows, parties, channels), and the walks' rules for them. -/
namespace RN
open PySem PySem.Spec L2 PL
/-- a text of at most eight signs -/
structure Nm where
  x : Str
  ok : PyData.strOk x = true
  len : x.length ≤ 8
theorem Nm.ext' : ∀ {a b : Nm}, a.x = b.x → a = b
  | ⟨_, _, _⟩, ⟨_, _, _⟩, rfl => rfl
instance : DecidableEq Nm := fun a b => if h : a.x = b.x then .isTrue (Nm.ext' h) else .isFalse fun e => h (e ▸ rfl)
instance : Inhabited Nm := ⟨⟨"", by decide +kernel, by decide⟩⟩
inductive Fm where
  | q | b | c
  deriving DecidableEq, Inhabited
def Fm.s : Fm → Str
  | .q => "queue"
  | .b => "bag"
  | .c => "call"
inductive Dg where
  | doo (w : Nm) | put (c l : Nm) | tak (c l : Nm)
  deriving DecidableEq, Inhabited
def Dg.d : Dg → D
  | .doo w => .tup [.str "do", .str w.x]
  | .put c l => .tup [.str "put", .str c.x, .str l.x]
  | .tak c l => .tup [.str "take", .str c.x, .str l.x]
structure Arw where
  s : Int
  g : Dg
  e : Int
  deriving DecidableEq, Inhabited
def Arw.d (a : Arw) : D := .tup [.int a.s, a.g.d, .int a.e]
structure Prt where
  n : Nm
  es : List Int
  as : List Arw
  deriving DecidableEq, Inhabited
def Prt.d (p : Prt) : D := .tup [.str p.n.x, .tup (p.es.map D.int), .tup (p.as.map Arw.d)]
structure Chn where
  n : Nm
  s : Nm
  t : Nm
  f : Fm
  deriving DecidableEq, Inhabited
def Chn.d (c : Chn) : D := .tup [.str c.n.x, .str c.s.x, .str c.t.x, .str c.f.s]
structure Prg where
  ps : List Prt
  cs : List Chn
def Prg.d (p : Prg) : D := .tup [.tup (p.ps.map Prt.d), .tup (p.cs.map Chn.d)]
def txD (L : List Nm) : List D := (L.map Nm.x).map D.str
def evD (n : Nm) (k : Nat) : D := .tup [.str n.x, .int k]
/-! shapes -/
theorem nm_shp (a : Nm) : Shp 0 (.str a.x) := shp_str a.ok
theorem fm_ok : ∀ f : Fm, PyData.strOk f.s = true
  | .q => by decide +kernel
  | .b => by decide +kernel
  | .c => by decide +kernel
theorem fm_shp (f : Fm) : Shp 0 (.str f.s) := shp_str (fm_ok f)
theorem dg_shp (g : Dg) : Shp 1 g.d := by
  cases g with
  | doo w =>
    exact shp_tup fun x hx => by
      simp only [List.mem_cons, List.not_mem_nil, or_false] at hx
      rcases hx with rfl | rfl
      · exact shp_str (by decide +kernel)
      · exact nm_shp w
  | put c l =>
    exact shp_tup fun x hx => by
      simp only [List.mem_cons, List.not_mem_nil, or_false] at hx
      rcases hx with rfl | rfl | rfl
      · exact shp_str (by decide +kernel)
      · exact nm_shp c
      · exact nm_shp l
  | tak c l =>
    exact shp_tup fun x hx => by
      simp only [List.mem_cons, List.not_mem_nil, or_false] at hx
      rcases hx with rfl | rfl | rfl
      · exact shp_str (by decide +kernel)
      · exact nm_shp c
      · exact nm_shp l
theorem txD_shp (L : List Nm) : (D.lst (txD L)).shp = true := (shp_lst (k := 0) fun x hx => by
  unfold txD at hx
  obtain ⟨y, hy, rfl⟩ := List.mem_map.mp hx
  obtain ⟨z, _, rfl⟩ := List.mem_map.mp hy
  exact nm_shp z).shp
/-! equality -/
theorem eqv_nm (a b : Nm) : (D.str a.x).eqv (.str b.x) = decide (a = b) := by
  rw [eqv_ss]
  by_cases h : a = b
  · subst h; simp
  · have : a.x ≠ b.x := fun e => h (Nm.ext' e)
    simp [h, this]
theorem eqv_int (i j : Int) : (D.int i).eqv (.int j) = decide (i = j) := by
  rw [eqv_ii]; by_cases h : i = j <;> simp [h]
theorem eqvL_cons (x y : D) (xs ys : List D) : eqvL (x :: xs) (y :: ys) = (x.eqv y && eqvL xs ys) := rfl
theorem eqvL_nn : eqvL [] [] = true := rfl
theorem eqvL_nc (x : D) (xs : List D) : eqvL [] (x :: xs) = false := rfl
theorem eqvL_cn (x : D) (xs : List D) : eqvL (x :: xs) [] = false := rfl
theorem eqv_lit {x y : Str} (b : Bool) (h : decide (x = y) = b) : (D.str x).eqv (.str y) = b := by
  rw [eqv_ss, ← h]; by_cases e : x = y <;> simp [e]
theorem eqv_dg (g h : Dg) : g.d.eqv h.d = decide (g = h) := by
  cases g <;> cases h <;> simp only [Dg.d, eqv_tt, eqvL_cons, eqvL_nn, eqvL_nc, eqvL_cn, eqv_nm]
  all_goals first
    | (rw [eqv_lit false (by decide +kernel)]; simp)
    | (rw [eqv_lit true (by decide +kernel)]; simp [Bool.and_assoc])
section
variable {R : D → Sto → Prop} {st : Sto} {Q : Fl × En → Sto → Prop} {ρ : En} {A : List D → Sto → Prop} {ga : En → M (List D)} {S : Str → Sto → Prop}
theorem w_eqN {a b : Nm} (k : R (.bl (decide (a = b))) st) : wp (eqM (.str a.x) (.str b.x)) R st := w_eq (nm_shp a).shp (nm_shp b).shp (by rw [eqv_nm]; exact k)
theorem w_neN {a b : Nm} (k : R (.bl (!decide (a = b))) st) : wp (neM (.str a.x) (.str b.x)) R st := w_ne (nm_shp a).shp (nm_shp b).shp (by rw [eqv_nm]; exact k)
theorem w_eqI {a b : Int} (k : R (.bl (decide (a = b))) st) : wp (eqM (.int a) (.int b)) R st := w_eq shp_int.shp shp_int.shp (by rw [eqv_int]; exact k)
theorem w_neI {a b : Int} (k : R (.bl (!decide (a = b))) st) : wp (neM (.int a) (.int b)) R st := w_ne shp_int.shp shp_int.shp (by rw [eqv_int]; exact k)
theorem w_eqG {g h : Dg} (k : R (.bl (decide (g = h))) st) : wp (eqM g.d h.d) R st := w_eq (dg_shp g).shp (dg_shp h).shp (by rw [eqv_dg]; exact k)
theorem w_eqGt {g : Dg} {c l : Nm} (k : R (.bl (decide (g = .tak c l))) st) : wp (eqM g.d (.tup [.str "take", .str c.x, .str l.x])) R st := w_eqG (h := .tak c l) k
theorem w_eqGp {g : Dg} {c l : Nm} (k : R (.bl (decide (g = .put c l))) st) : wp (eqM g.d (.tup [.str "put", .str c.x, .str l.x])) R st := w_eqG (h := .put c l) k
theorem w_eqFq {f : Fm} (k : R (.bl (decide (f = .q))) st) : wp (eqM (.str f.s) (.str "queue")) R st := w_eq (fm_shp f).shp (fm_shp .q).shp (by
  have e : (D.str f.s).eqv (.str "queue") = decide (f = .q) := by cases f <;> exact eqv_lit _ (by decide +kernel)
  rw [e]; exact k)
theorem w_eqFb {f : Fm} (k : R (.bl (decide (f = .b))) st) : wp (eqM (.str f.s) (.str "bag")) R st := w_eq (fm_shp f).shp (fm_shp .b).shp (by
  have e : (D.str f.s).eqv (.str "bag") = decide (f = .b) := by cases f <;> exact eqv_lit _ (by decide +kernel)
  rw [e]; exact k)
theorem w_eqFc {f : Fm} (k : R (.bl (decide (f = .c))) st) : wp (eqM (.str f.s) (.str "call")) R st := w_eq (fm_shp f).shp (fm_shp .c).shp (by
  have e : (D.str f.s).eqv (.str "call") = decide (f = .c) := by cases f <;> exact eqv_lit _ (by decide +kernel)
  rw [e]; exact k)
theorem l_eq_do_do (k : R (.bl true) st) : wp (eqM (.str "do") (.str "do")) R st := w_eq (shp_str (by decide +kernel)).shp (shp_str (by decide +kernel)).shp (by rw [eqv_lit true (by decide +kernel)]; exact k)
theorem l_ne_do_do (k : R (.bl false) st) : wp (neM (.str "do") (.str "do")) R st := w_ne (shp_str (by decide +kernel)).shp (shp_str (by decide +kernel)).shp (by rw [eqv_lit true (by decide +kernel)]; exact k)
theorem l_eq_do_put (k : R (.bl false) st) : wp (eqM (.str "do") (.str "put")) R st := w_eq (shp_str (by decide +kernel)).shp (shp_str (by decide +kernel)).shp (by rw [eqv_lit false (by decide +kernel)]; exact k)
theorem l_ne_do_put (k : R (.bl true) st) : wp (neM (.str "do") (.str "put")) R st := w_ne (shp_str (by decide +kernel)).shp (shp_str (by decide +kernel)).shp (by rw [eqv_lit false (by decide +kernel)]; exact k)
theorem l_eq_do_take (k : R (.bl false) st) : wp (eqM (.str "do") (.str "take")) R st := w_eq (shp_str (by decide +kernel)).shp (shp_str (by decide +kernel)).shp (by rw [eqv_lit false (by decide +kernel)]; exact k)
theorem l_ne_do_take (k : R (.bl true) st) : wp (neM (.str "do") (.str "take")) R st := w_ne (shp_str (by decide +kernel)).shp (shp_str (by decide +kernel)).shp (by rw [eqv_lit false (by decide +kernel)]; exact k)
theorem l_eq_do_e (k : R (.bl false) st) : wp (eqM (.str "do") (.str "")) R st := w_eq (shp_str (by decide +kernel)).shp (shp_str (by decide +kernel)).shp (by rw [eqv_lit false (by decide +kernel)]; exact k)
theorem l_eq_put_do (k : R (.bl false) st) : wp (eqM (.str "put") (.str "do")) R st := w_eq (shp_str (by decide +kernel)).shp (shp_str (by decide +kernel)).shp (by rw [eqv_lit false (by decide +kernel)]; exact k)
theorem l_ne_put_do (k : R (.bl true) st) : wp (neM (.str "put") (.str "do")) R st := w_ne (shp_str (by decide +kernel)).shp (shp_str (by decide +kernel)).shp (by rw [eqv_lit false (by decide +kernel)]; exact k)
theorem l_eq_put_put (k : R (.bl true) st) : wp (eqM (.str "put") (.str "put")) R st := w_eq (shp_str (by decide +kernel)).shp (shp_str (by decide +kernel)).shp (by rw [eqv_lit true (by decide +kernel)]; exact k)
theorem l_ne_put_put (k : R (.bl false) st) : wp (neM (.str "put") (.str "put")) R st := w_ne (shp_str (by decide +kernel)).shp (shp_str (by decide +kernel)).shp (by rw [eqv_lit true (by decide +kernel)]; exact k)
theorem l_eq_put_take (k : R (.bl false) st) : wp (eqM (.str "put") (.str "take")) R st := w_eq (shp_str (by decide +kernel)).shp (shp_str (by decide +kernel)).shp (by rw [eqv_lit false (by decide +kernel)]; exact k)
theorem l_ne_put_take (k : R (.bl true) st) : wp (neM (.str "put") (.str "take")) R st := w_ne (shp_str (by decide +kernel)).shp (shp_str (by decide +kernel)).shp (by rw [eqv_lit false (by decide +kernel)]; exact k)
theorem l_eq_put_e (k : R (.bl false) st) : wp (eqM (.str "put") (.str "")) R st := w_eq (shp_str (by decide +kernel)).shp (shp_str (by decide +kernel)).shp (by rw [eqv_lit false (by decide +kernel)]; exact k)
theorem l_eq_take_do (k : R (.bl false) st) : wp (eqM (.str "take") (.str "do")) R st := w_eq (shp_str (by decide +kernel)).shp (shp_str (by decide +kernel)).shp (by rw [eqv_lit false (by decide +kernel)]; exact k)
theorem l_ne_take_do (k : R (.bl true) st) : wp (neM (.str "take") (.str "do")) R st := w_ne (shp_str (by decide +kernel)).shp (shp_str (by decide +kernel)).shp (by rw [eqv_lit false (by decide +kernel)]; exact k)
theorem l_eq_take_put (k : R (.bl false) st) : wp (eqM (.str "take") (.str "put")) R st := w_eq (shp_str (by decide +kernel)).shp (shp_str (by decide +kernel)).shp (by rw [eqv_lit false (by decide +kernel)]; exact k)
theorem l_ne_take_put (k : R (.bl true) st) : wp (neM (.str "take") (.str "put")) R st := w_ne (shp_str (by decide +kernel)).shp (shp_str (by decide +kernel)).shp (by rw [eqv_lit false (by decide +kernel)]; exact k)
theorem l_eq_take_take (k : R (.bl true) st) : wp (eqM (.str "take") (.str "take")) R st := w_eq (shp_str (by decide +kernel)).shp (shp_str (by decide +kernel)).shp (by rw [eqv_lit true (by decide +kernel)]; exact k)
theorem l_ne_take_take (k : R (.bl false) st) : wp (neM (.str "take") (.str "take")) R st := w_ne (shp_str (by decide +kernel)).shp (shp_str (by decide +kernel)).shp (by rw [eqv_lit true (by decide +kernel)]; exact k)
theorem l_eq_take_e (k : R (.bl false) st) : wp (eqM (.str "take") (.str "")) R st := w_eq (shp_str (by decide +kernel)).shp (shp_str (by decide +kernel)).shp (by rw [eqv_lit false (by decide +kernel)]; exact k)
theorem l_eq_e_take (k : R (.bl false) st) : wp (eqM (.str "") (.str "take")) R st := w_eq (shp_str (by decide +kernel)).shp (shp_str (by decide +kernel)).shp (by rw [eqv_lit false (by decide +kernel)]; exact k)
theorem at0 {α : Type} {x : α} {l : List α} : atI (x :: l) 0 = some x := atI_nat (j := 0) rfl
theorem at1 {α : Type} {x y : α} {l : List α} : atI (x :: y :: l) 1 = some y := atI_nat (j := 1) rfl
theorem at2 {α : Type} {x y z : α} {l : List α} : atI (x :: y :: z :: l) 2 = some z := atI_nat (j := 2) rfl
theorem at3 {α : Type} {x y z u : α} {l : List α} : atI (x :: y :: z :: u :: l) 3 = some u := atI_nat (j := 3) rfl
theorem w_t0 {x : D} {l : List D} (k : R x st) : wp (ixM (.tup (x :: l)) (.int 0)) R st := w_ixT at0 k
theorem w_t1 {x y : D} {l : List D} (k : R y st) : wp (ixM (.tup (x :: y :: l)) (.int 1)) R st := w_ixT at1 k
theorem w_t2 {x y z : D} {l : List D} (k : R z st) : wp (ixM (.tup (x :: y :: z :: l)) (.int 2)) R st := w_ixT at2 k
theorem w_t3 {x y z u : D} {l : List D} (k : R u st) : wp (ixM (.tup (x :: y :: z :: u :: l)) (.int 3)) R st := w_ixT at3 k
theorem w_l0 {x : D} {l : List D} (k : R x st) : wp (ixM (.lst (x :: l)) (.int 0)) R st := w_ixL at0 k
theorem w_pg0 {p : Prg} (k : R (.tup (p.ps.map Prt.d)) st) : wp (ixM p.d (.int 0)) R st := w_ixT at0 k
theorem w_pg1 {p : Prg} (k : R (.tup (p.cs.map Chn.d)) st) : wp (ixM p.d (.int 1)) R st := w_ixT at1 k
theorem w_pt0 {p : Prt} (k : R (.str p.n.x) st) : wp (ixM p.d (.int 0)) R st := w_ixT at0 k
theorem w_pt1 {p : Prt} (k : R (.tup (p.es.map D.int)) st) : wp (ixM p.d (.int 1)) R st := w_ixT at1 k
theorem w_pt2 {p : Prt} (k : R (.tup (p.as.map Arw.d)) st) : wp (ixM p.d (.int 2)) R st := w_ixT at2 k
theorem w_ch0 {c : Chn} (k : R (.str c.n.x) st) : wp (ixM c.d (.int 0)) R st := w_ixT at0 k
theorem w_ch1 {c : Chn} (k : R (.str c.s.x) st) : wp (ixM c.d (.int 1)) R st := w_ixT at1 k
theorem w_ch2 {c : Chn} (k : R (.str c.t.x) st) : wp (ixM c.d (.int 2)) R st := w_ixT at2 k
theorem w_ch3 {c : Chn} (k : R (.str c.f.s) st) : wp (ixM c.d (.int 3)) R st := w_ixT at3 k
theorem w_ar0 {a : Arw} (k : R (.int a.s) st) : wp (ixM a.d (.int 0)) R st := w_ixT at0 k
theorem w_ar1 {a : Arw} (k : R a.g.d st) : wp (ixM a.d (.int 1)) R st := w_ixT at1 k
theorem w_ar2 {a : Arw} (k : R (.int a.e) st) : wp (ixM a.d (.int 2)) R st := w_ixT at2 k
theorem w_dd0 {w : Nm} (k : R (.str "do") st) : wp (ixM (Dg.doo w).d (.int 0)) R st := w_ixT at0 k
theorem w_dp0 {c l : Nm} (k : R (.str "put") st) : wp (ixM (Dg.put c l).d (.int 0)) R st := w_ixT at0 k
theorem w_dt0 {c l : Nm} (k : R (.str "take") st) : wp (ixM (Dg.tak c l).d (.int 0)) R st := w_ixT at0 k
theorem w_dp1 {c l : Nm} (k : R (.str c.x) st) : wp (ixM (Dg.put c l).d (.int 1)) R st := w_ixT at1 k
theorem w_dt1 {c l : Nm} (k : R (.str c.x) st) : wp (ixM (Dg.tak c l).d (.int 1)) R st := w_ixT at1 k
theorem w_dp2 {c l : Nm} (k : R (.str l.x) st) : wp (ixM (Dg.put c l).d (.int 2)) R st := w_ixT at2 k
theorem w_dt2 {c l : Nm} (k : R (.str l.x) st) : wp (ixM (Dg.tak c l).d (.int 2)) R st := w_ixT at2 k
theorem w_ev0 {n : Nm} {i : Nat} (k : R (.str n.x) st) : wp (ixM (evD n i) (.int 0)) R st := w_ixT at0 k
theorem w_ev1 {n : Nm} {i : Nat} (k : R (.int i) st) : wp (ixM (evD n i) (.int 1)) R st := w_ixT at1 k
def _root_.RN.Dg.wd : Dg → Str
  | .doo _ => "do"
  | .put _ _ => "put"
  | .tak _ _ => "take"
theorem w_g0 {g : Dg} (k : R (.str g.wd) st) : wp (ixM g.d (.int 0)) R st := by
  cases g <;> exact w_ixT at0 k
theorem atM {α : Type} {f : α → D} {xs : List α} {i : Nat} {x : α} (h : xs[i]? = some x) : atI (xs.map f) (i : Int) = some (f x) := atI_nat (by rw [List.getElem?_map, h]; rfl)
theorem w_ixM {α : Type} {f : α → D} {xs : List α} {i : Nat} {x : α} (h : xs[i]? = some x) (k : R (f x) st) : wp (ixM (.tup (xs.map f)) (.int i)) R st := w_ixT (atM h) k
theorem w_ixML {α : Type} {f : α → D} {xs : List α} {i : Nat} {x : α} (h : xs[i]? = some x) (k : R (f x) st) : wp (ixM (.lst (xs.map f)) (.int i)) R st := w_ixL (atM h) k
theorem w_lenM {α : Type} {f : α → D} {xs : List α} (k : R (.int xs.length) st) : wp (lenM (.tup (xs.map f))) R st := by
  refine w_lenT ?_
  rw [List.length_map]; exact k
theorem w_lenML {α : Type} {f : α → D} {xs : List α} (k : R (.int xs.length) st) : wp (lenM (.lst (xs.map f))) R st := by
  refine w_lenL ?_
  rw [List.length_map]; exact k
theorem w_sl2 {a : Arw} (k : R (.tup [.int a.s, a.g.d]) st) : wp (slM a.d none (some 2)) R st := w_slT k
theorem eqv_tk (a b : Int) (g : Dg) (c l : Nm) : (D.tup [.int a, g.d]).eqv (.tup [.int b, .tup [.str "take", .str c.x, .str l.x]]) = decide (a = b ∧ g = .tak c l) := by
  show (D.tup [.int a, g.d]).eqv (.tup [.int b, (Dg.tak c l).d]) = _
  rw [eqv_tt, eqvL_cons, eqvL_cons, eqv_int, eqv_dg, eqvL_nn, Bool.and_true, ← Bool.decide_and]
theorem w_eqTk {a b : Int} {g : Dg} {c l : Nm} (k : R (.bl (decide (a = b ∧ g = .tak c l))) st) : wp (eqM (.tup [.int a, g.d]) (.tup [.int b, .tup [.str "take", .str c.x, .str l.x]])) R st := by
  have h : ∀ (a : Int) (g : Dg), (D.tup [.int a, g.d]).shp = true := fun a g => (shp_tup (k := 1) fun x hx => by
    simp only [List.mem_cons, List.not_mem_nil, or_false] at hx
    rcases hx with rfl | rfl
    · exact shp_int.mono
    · exact dg_shp g).shp
  exact w_eq (h a g) (h b (.tak c l)) (by rw [eqv_tk]; exact k)
theorem k_itT {ds : List D} {P : List D → Prop} (k : P ds) : ∃ es, itD (.tup ds) = some es ∧ P es := ⟨_, rfl, k⟩
theorem k_itL {ds : List D} {P : List D → Prop} (k : P ds) : ∃ es, itD (.lst ds) = some es ∧ P es := ⟨_, rfl, k⟩
theorem k_len0 {P : Prop} (k : P) : ([] : List D).length ≤ sizeLine ∧ P := ⟨by show 0 ≤ sizeLine; decide, k⟩
theorem k_len1 {a0 : D} {P : Prop} (k : P) : ([a0] : List D).length ≤ sizeLine ∧ P := ⟨by show 1 ≤ sizeLine; decide, k⟩
theorem k_cl1 {a0 : D} {P : Prop} (k : P) : ([a0] : List D).length = 1 ∧ P := ⟨rfl, k⟩
theorem k_len2 {a0 a1 : D} {P : Prop} (k : P) : ([a0, a1] : List D).length ≤ sizeLine ∧ P := ⟨by show 2 ≤ sizeLine; decide, k⟩
theorem k_cl2 {a0 a1 : D} {P : Prop} (k : P) : ([a0, a1] : List D).length = 2 ∧ P := ⟨rfl, k⟩
theorem k_len3 {a0 a1 a2 : D} {P : Prop} (k : P) : ([a0, a1, a2] : List D).length ≤ sizeLine ∧ P := ⟨by show 3 ≤ sizeLine; decide, k⟩
theorem k_cl3 {a0 a1 a2 : D} {P : Prop} (k : P) : ([a0, a1, a2] : List D).length = 3 ∧ P := ⟨rfl, k⟩
theorem k_len4 {a0 a1 a2 a3 : D} {P : Prop} (k : P) : ([a0, a1, a2, a3] : List D).length ≤ sizeLine ∧ P := ⟨by show 4 ≤ sizeLine; decide, k⟩
theorem k_cl4 {a0 a1 a2 a3 : D} {P : Prop} (k : P) : ([a0, a1, a2, a3] : List D).length = 4 ∧ P := ⟨rfl, k⟩
theorem k_len5 {a0 a1 a2 a3 a4 : D} {P : Prop} (k : P) : ([a0, a1, a2, a3, a4] : List D).length ≤ sizeLine ∧ P := ⟨by show 5 ≤ sizeLine; decide, k⟩
theorem k_cl5 {a0 a1 a2 a3 a4 : D} {P : Prop} (k : P) : ([a0, a1, a2, a3, a4] : List D).length = 5 ∧ P := ⟨rfl, k⟩
theorem w_rng (k : wp (ga ρ) (fun ds s => ∃ n : Nat, ds = [.int n] ∧ n ≤ 1000000 ∧ A ((List.range n).map fun (i : Nat) => D.int i) s) st) : wp (iRange1 ga ρ) A st := w_iR1 (wp_mono k fun ds s ⟨n, e, h, q⟩ => ⟨n, e, w_rangeN h q⟩)
theorem any_nm (a : Nm) : ∀ L : List Nm, ((txD L).any fun z => z.eqv (.str a.x)) = decide (a ∈ L)
  | [] => rfl
  | b :: L => by
    show ((D.str b.x).eqv (.str a.x) || (txD L).any fun z => z.eqv (.str a.x)) = _
    rw [any_nm a L, eqv_nm]
    by_cases h : b = a
    · subst h; simp
    · have h' : ¬a = b := fun e => h e.symm
      by_cases h2 : a ∈ L <;> simp [h, h', h2]
theorem w_ninN {a : Nm} {L : List Nm} (k : R (.bl (!decide (a ∈ L))) st) : wp (notInM (.str a.x) (.lst (txD L))) R st := w_notIn rfl (nm_shp a).shp (txD_shp L) (by rw [any_nm]; exact k)
theorem w_inN {a : Nm} {L : List Nm} (k : R (.bl (decide (a ∈ L))) st) : wp (inM (.str a.x) (.lst (txD L))) R st := w_in rfl (nm_shp a).shp (txD_shp L) (by rw [any_nm]; exact k)
/-! walks over ranges and lists -/
/-- what follows the first item of a walk -/
def ForK (bd : D → En → M (Fl × En)) (ds : List D) (Q : Fl × En → Sto → Prop) : Fl × En → Sto → Prop := fun r s => match r.1 with
  | .nx => wp (forL bd ds r.2) Q s
  | .ct => wp (forL bd ds r.2) Q s
  | .brk => Q (.nx, r.2) s
  | .ret x => Q (.ret x, r.2) s
theorem for_cons {bd : D → En → M (Fl × En)} {d : D} {ds : List D} {st : Sto} (k : wp (bd d ρ) (ForK bd ds Q) st) : wp (forL bd (d :: ds) ρ) Q st := by
  unfold forL
  rw [wp_bind]
  refine wp_mono k fun r s k => ?_
  obtain ⟨fl, ρ1⟩ := r
  cases fl with
  | nx => exact k
  | ct => exact k
  | brk => rw [wp_pure]; exact k
  | ret x => rw [wp_pure]; exact k
theorem for_consP {bd : En → M (Fl × En)} {p : Pt} {d : D} {ds : List D} {ρ' : En} {st : Sto} (e : p.set d ρ = some ρ') (k : wp (bd ρ') (ForK (fun d ρ => (opt (p.set d ρ)).bind bd) ds Q) st) : wp (forL (fun d ρ => (opt (p.set d ρ)).bind bd) (d :: ds) ρ) Q st := by
  refine for_cons ?_
  rw [e]
  exact k
theorem k_forR {bd : D → En → M (Fl × En)} {ds : List D} {x : D} {st : Sto} (k : Q (.ret x, ρ) st) : ForK bd ds Q (.ret x, ρ) st := k
theorem k_forN {bd : D → En → M (Fl × En)} {ds : List D} {st : Sto} (k : wp (forL bd ds ρ) Q st) : ForK bd ds Q (.nx, ρ) st := k
theorem for_nil {bd : D → En → M (Fl × En)} {st : Sto} (k : Q (.nx, ρ) st) : wp (forL bd [] ρ) Q st := ⟨k⟩
theorem for_range {bd : En → M (Fl × En)} {p : Pt} (I : Nat → En → Sto → Prop) {n : Nat} {ρ : En} {st : Sto} (hs : ∀ m ρ s, m < n → I m ρ s → ∃ ρ', p.set (.int m) ρ = some ρ' ∧ wp (bd ρ') (fun r s' => (r.1 = .nx ∧ I (m + 1) r.2 s') ∨ ∃ x, r.1 = .ret x ∧ Q r s') s) (h0 : I 0 ρ st)
    (k : ∀ ρ s, I n ρ s → Q (.nx, ρ) s) : wp (forL (fun d ρ => (opt (p.set d ρ)).bind bd) ((List.range n).map fun (i : Nat) => D.int i) ρ) Q st := by
  refine wp_for (fun ds ρ s => ∃ m, m ≤ n ∧ ds = ((List.range n).map fun (i : Nat) => D.int i).drop m ∧ I m ρ s) ?_ ?_ _ _ _ ⟨0, Nat.zero_le _, rfl, h0⟩
  · rintro d ds ρ s ⟨m, hm, e, hI⟩
    have hlt : m < n := by
      by_cases h : m < n
      · exact h
      · have : m = n := by omega
        subst this
        rw [List.drop_of_length_le (by simp)] at e
        cases e
    rw [List.drop_eq_getElem_cons (by simpa using hlt)] at e
    obtain ⟨e1, e2⟩ := List.cons.inj e
    have ed : d = .int (m : Nat) := by rw [e1]; simp
    subst ed
    obtain ⟨ρ', e3, h⟩ := hs m ρ s hlt hI
    rw [e3]
    show wp (bd ρ') _ s
    refine wp_mono h fun r s' h => ?_
    rcases h with ⟨e, h⟩ | ⟨x, e, h⟩
    · rw [e]; exact ⟨m + 1, hlt, e2, h⟩
    · rw [e]; obtain ⟨fl, ρ1⟩ := r; cases e; exact h
  · rintro ρ s ⟨m, hm, e, hI⟩
    have : m = n := by
      have := congrArg List.length e
      simp at this
      omega
    subst this
    exact k ρ s hI
theorem for_mapI {α : Type} {bd : En → M (Fl × En)} {p : Pt} {f : α → D} (I : Nat → En → Sto → Prop) {xs : List α} {ρ : En} {st : Sto} (hs : ∀ m x ρ s, xs[m]? = some x → I m ρ s → ∃ ρ', p.set (f x) ρ = some ρ' ∧ wp (bd ρ') (fun r s' => (r.1 = .nx ∧ I (m + 1) r.2 s') ∨ ∃ x, r.1 = .ret x ∧ Q r s') s) (h0 : I 0 ρ st)
    (k : ∀ ρ s, I xs.length ρ s → Q (.nx, ρ) s) : wp (forL (fun d ρ => (opt (p.set d ρ)).bind bd) (xs.map f) ρ) Q st := by
  refine wp_for (fun ds ρ s => ∃ m, m ≤ xs.length ∧ ds = (xs.drop m).map f ∧ I m ρ s) ?_ ?_ _ _ _ ⟨0, Nat.zero_le _, rfl, h0⟩
  · rintro d ds ρ s ⟨m, hm, e, hI⟩
    have hlt : m < xs.length := by
      by_cases h : m < xs.length
      · exact h
      · rw [List.drop_of_length_le (by omega)] at e
        cases e
    rw [List.drop_eq_getElem_cons hlt, List.map_cons] at e
    obtain ⟨rfl, e2⟩ := List.cons.inj e
    obtain ⟨ρ', e3, h⟩ := hs m xs[m] ρ s (List.getElem?_eq_getElem hlt) hI
    rw [e3]
    show wp (bd ρ') _ s
    refine wp_mono h fun r s' h => ?_
    rcases h with ⟨e, h⟩ | ⟨x, e, h⟩
    · rw [e]; exact ⟨m + 1, hlt, e2, h⟩
    · rw [e]; obtain ⟨fl, ρ1⟩ := r; cases e; exact h
  · rintro ρ s ⟨m, hm, e, hI⟩
    have : m = xs.length := by
      have := congrArg List.length e
      simp at this
      omega
    subst this
    exact k ρ s hI
theorem for_findP {α : Type} {bd : En → M (Fl × En)} {p : Pt} (f : α → D) (hit : α → Bool) (res : α → D) (I : En → Prop) {xs : List α} {ρ : En} {st : Sto}
    (hs : ∀ a ∈ xs, ∀ ρ, I ρ → ∃ ρ', p.set (f a) ρ = some ρ' ∧ wp (bd ρ') (fun r s => s = st ∧ ((hit a = false ∧ r.1 = .nx ∧ I r.2) ∨ (hit a = true ∧ r.1 = .ret (res a)))) st) (h0 : I ρ)
    (k1 : ∀ a, xs.find? hit = some a → ∀ ρ, Q (.ret (res a), ρ) st) (k2 : xs.find? hit = none → ∀ ρ, I ρ → Q (.nx, ρ) st) : wp (forL (fun d ρ => (opt (p.set d ρ)).bind bd) (xs.map f) ρ) Q st := by
  refine for_find f hit res I xs ρ (fun a ha ρ hI => ?_) h0 k1 k2
  obtain ⟨ρ', e, h⟩ := hs a ha ρ hI
  rw [e]
  exact h
end
end RN
set_option hygiene false
local macro_rules | `(tactic| array_get_dec) => `(tactic| (with_reducible refine w_int2 (decide_eq_true (.inl (by decide))) ?_))
local macro_rules | `(tactic| array_get_dec) => `(tactic| (with_reducible refine w_int2 (decide_eq_true (.inr (by decide))) ?_))
local macro_rules | `(tactic| array_get_dec) => `(tactic| (with_reducible refine w_int2 (by decide) ?_))
local macro_rules | `(tactic| array_get_dec) => `(tactic| (with_reducible refine w_drR (by assumption) ?_))
local macro_rules | `(tactic| array_get_dec) => `(tactic| (with_reducible refine w_drL (by assumption) ?_))
local macro_rules | `(tactic| array_get_dec) => `(tactic| (with_reducible refine w_dr1 (by assumption) ?_))
local macro_rules | `(tactic| array_get_dec) => `(tactic| (with_reducible refine w_ixML (by assumption) ?_))
local macro_rules | `(tactic| array_get_dec) => `(tactic| (with_reducible refine w_ixM (by assumption) ?_))
local macro_rules | `(tactic| array_get_dec) => `(tactic| (with_reducible refine w_parO (by simp) (by simp) ?_))
local macro_rules | `(tactic| array_get_dec) => `(tactic| (with_reducible refine w_par (by simp) (by simp) ?_))
local macro_rules | `(tactic| array_get_dec) => `(tactic| (with_reducible refine w_own (by simp) ?_))
local macro_rules | `(tactic| array_get_dec) => `(tactic| (with_reducible refine w_set (by simp) ?_))
local macro_rules | `(tactic| array_get_dec) => `(tactic| (with_reducible refine w_own (by decide) ?_))
local macro_rules | `(tactic| array_get_dec) => `(tactic| (with_reducible refine w_set (by decide) ?_))
local macro_rules | `(tactic| array_get_dec) => `(tactic| ((with_reducible apply w_ext); exact rfl))
local macro_rules | `(tactic| array_get_dec) => `(tactic| ((with_reducible apply w_app); exact rfl))
local macro_rules | `(tactic| array_get_dec) => `(tactic| (with_reducible refine n_not_list ?_))
local macro_rules | `(tactic| array_get_dec) => `(tactic| (with_reducible refine n_is_list ?_))
local macro_rules | `(tactic| array_get_dec) => `(tactic| (with_reducible refine n_not_tuple ?_))
local macro_rules | `(tactic| array_get_dec) => `(tactic| (with_reducible refine n_is_tuple ?_))
local macro_rules | `(tactic| array_get_dec) => `(tactic| (with_reducible refine n_not_str ?_))
local macro_rules | `(tactic| array_get_dec) => `(tactic| (with_reducible refine n_is_str ?_))
local macro_rules | `(tactic| array_get_dec) => `(tactic| (with_reducible refine n_not_int ?_))
local macro_rules | `(tactic| array_get_dec) => `(tactic| (with_reducible refine n_is_int ?_))
local macro_rules | `(tactic| array_get_dec) => `(tactic| (with_reducible refine n_not_bool ?_))
local macro_rules | `(tactic| array_get_dec) => `(tactic| (with_reducible refine n_is_bool ?_))
local macro_rules | `(tactic| array_get_dec) => `(tactic| (with_reducible refine n_not_NoneType ?_))
local macro_rules | `(tactic| array_get_dec) => `(tactic| (with_reducible refine n_is_NoneType ?_))
local macro_rules | `(tactic| array_get_dec) => `(tactic| (with_reducible refine i_list_list ?_))
local macro_rules | `(tactic| array_get_dec) => `(tactic| (with_reducible refine i_list_tuple ?_))
local macro_rules | `(tactic| array_get_dec) => `(tactic| (with_reducible refine i_list_str ?_))
local macro_rules | `(tactic| array_get_dec) => `(tactic| (with_reducible refine i_list_int ?_))
local macro_rules | `(tactic| array_get_dec) => `(tactic| (with_reducible refine i_list_bool ?_))
local macro_rules | `(tactic| array_get_dec) => `(tactic| (with_reducible refine i_list_NoneType ?_))
local macro_rules | `(tactic| array_get_dec) => `(tactic| (with_reducible refine i_bool_list ?_))
local macro_rules | `(tactic| array_get_dec) => `(tactic| (with_reducible refine i_bool_tuple ?_))
local macro_rules | `(tactic| array_get_dec) => `(tactic| (with_reducible refine i_bool_str ?_))
local macro_rules | `(tactic| array_get_dec) => `(tactic| (with_reducible refine i_bool_int ?_))
local macro_rules | `(tactic| array_get_dec) => `(tactic| (with_reducible refine i_bool_bool ?_))
local macro_rules | `(tactic| array_get_dec) => `(tactic| (with_reducible refine i_bool_NoneType ?_))
local macro_rules | `(tactic| array_get_dec) => `(tactic| (with_reducible refine i_int_list ?_))
local macro_rules | `(tactic| array_get_dec) => `(tactic| (with_reducible refine i_int_tuple ?_))
local macro_rules | `(tactic| array_get_dec) => `(tactic| (with_reducible refine i_int_str ?_))
local macro_rules | `(tactic| array_get_dec) => `(tactic| (with_reducible refine i_int_int ?_))
local macro_rules | `(tactic| array_get_dec) => `(tactic| (with_reducible refine i_int_bool ?_))
local macro_rules | `(tactic| array_get_dec) => `(tactic| (with_reducible refine i_int_NoneType ?_))
local macro_rules | `(tactic| array_get_dec) => `(tactic| (with_reducible refine i_str_list ?_))
local macro_rules | `(tactic| array_get_dec) => `(tactic| (with_reducible refine i_str_tuple ?_))
local macro_rules | `(tactic| array_get_dec) => `(tactic| (with_reducible refine i_str_str ?_))
local macro_rules | `(tactic| array_get_dec) => `(tactic| (with_reducible refine i_str_int ?_))
local macro_rules | `(tactic| array_get_dec) => `(tactic| (with_reducible refine i_str_bool ?_))
local macro_rules | `(tactic| array_get_dec) => `(tactic| (with_reducible refine i_str_NoneType ?_))
local macro_rules | `(tactic| array_get_dec) => `(tactic| (with_reducible refine i_tuple_list ?_))
local macro_rules | `(tactic| array_get_dec) => `(tactic| (with_reducible refine i_tuple_tuple ?_))
local macro_rules | `(tactic| array_get_dec) => `(tactic| (with_reducible refine i_tuple_str ?_))
local macro_rules | `(tactic| array_get_dec) => `(tactic| (with_reducible refine i_tuple_int ?_))
local macro_rules | `(tactic| array_get_dec) => `(tactic| (with_reducible refine i_tuple_bool ?_))
local macro_rules | `(tactic| array_get_dec) => `(tactic| (with_reducible refine i_tuple_NoneType ?_))
local macro_rules | `(tactic| array_get_dec) => `(tactic| (with_reducible refine w_aLn ?_))
local macro_rules | `(tactic| array_get_dec) => `(tactic| (with_reducible refine w_dict ?_))
local macro_rules | `(tactic| array_get_dec) => `(tactic| (with_reducible refine w_un ?_))
local macro_rules | `(tactic| array_get_dec) => `(tactic| (with_reducible refine w_fLst ?_))
local macro_rules | `(tactic| array_get_dec) => `(tactic| (with_reducible refine w_lst ?_))
local macro_rules | `(tactic| array_get_dec) => `(tactic| (with_reducible refine w_tup ?_))
local macro_rules | `(tactic| array_get_dec) => `(tactic| (with_reducible refine w_lc ?_))
local macro_rules | `(tactic| array_get_dec) => `(tactic| (with_reducible refine w_for ?_))
local macro_rules | `(tactic| array_get_dec) => `(tactic| (with_reducible refine w_iSeq ?_))
local macro_rules | `(tactic| array_get_dec) => `(tactic| (with_reducible refine w_frz ?_))
local macro_rules | `(tactic| array_get_dec) => `(tactic| (with_reducible refine w_tupT ?_))
local macro_rules | `(tactic| array_get_dec) => `(tactic| (with_reducible refine w_tupL ?_))
local macro_rules | `(tactic| array_get_dec) => `(tactic| (with_reducible refine w_slF ?_))
local macro_rules | `(tactic| array_get_dec) => `(tactic| (with_reducible refine w_slT ?_))
local macro_rules | `(tactic| array_get_dec) => `(tactic| (with_reducible refine w_slL ?_))
local macro_rules | `(tactic| array_get_dec) => `(tactic| (with_reducible refine w_true ?_))
local macro_rules | `(tactic| array_get_dec) => `(tactic| (with_reducible refine w_call ?_))
local macro_rules | `(tactic| array_get_dec) => `(tactic| (with_reducible refine w_eL ?_))
local macro_rules | `(tactic| array_get_dec) => `(tactic| (with_reducible refine w_aC ?_))
local macro_rules | `(tactic| array_get_dec) => `(tactic| (with_reducible refine w_aN ?_))
local macro_rules | `(tactic| array_get_dec) => `(tactic| (with_reducible refine w_m1 ?_))
local macro_rules | `(tactic| array_get_dec) => `(tactic| (with_reducible refine w_sl ?_))
local macro_rules | `(tactic| array_get_dec) => `(tactic| (with_reducible refine w_oSo ?_))
local macro_rules | `(tactic| array_get_dec) => `(tactic| (with_reducible refine w_oNo ?_))
local macro_rules | `(tactic| array_get_dec) => `(tactic| (with_reducible refine w_neg ?_))
local macro_rules | `(tactic| array_get_dec) => `(tactic| (with_reducible refine w_eCh ?_))
local macro_rules | `(tactic| array_get_dec) => `(tactic| (with_reducible refine w_vNot ?_))
local macro_rules | `(tactic| array_get_dec) => `(tactic| (with_reducible refine w_vOr ?_))
local macro_rules | `(tactic| array_get_dec) => `(tactic| (with_reducible refine w_vAnd ?_))
local macro_rules | `(tactic| array_get_dec) => `(tactic| (with_reducible refine w_tNt ?_))
local macro_rules | `(tactic| array_get_dec) => `(tactic| (with_reducible refine w_tOr ?_))
local macro_rules | `(tactic| array_get_dec) => `(tactic| (with_reducible refine w_tAn ?_))
local macro_rules | `(tactic| array_get_dec) => `(tactic| (with_reducible refine w_eIf ?_))
local macro_rules | `(tactic| array_get_dec) => `(tactic| (with_reducible refine w_intI ?_))
local macro_rules | `(tactic| array_get_dec) => `(tactic| (with_reducible refine w_lenT ?_))
local macro_rules | `(tactic| array_get_dec) => `(tactic| (with_reducible refine w_lenL ?_))
local macro_rules | `(tactic| array_get_dec) => `(tactic| (with_reducible refine w_rng ?_))
local macro_rules | `(tactic| array_get_dec) => `(tactic| (with_reducible refine l_ne_take_take ?_))
local macro_rules | `(tactic| array_get_dec) => `(tactic| (with_reducible refine l_ne_take_put ?_))
local macro_rules | `(tactic| array_get_dec) => `(tactic| (with_reducible refine l_ne_take_do ?_))
local macro_rules | `(tactic| array_get_dec) => `(tactic| (with_reducible refine l_ne_put_take ?_))
local macro_rules | `(tactic| array_get_dec) => `(tactic| (with_reducible refine l_ne_put_put ?_))
local macro_rules | `(tactic| array_get_dec) => `(tactic| (with_reducible refine l_ne_put_do ?_))
local macro_rules | `(tactic| array_get_dec) => `(tactic| (with_reducible refine l_ne_do_take ?_))
local macro_rules | `(tactic| array_get_dec) => `(tactic| (with_reducible refine l_ne_do_put ?_))
local macro_rules | `(tactic| array_get_dec) => `(tactic| (with_reducible refine l_ne_do_do ?_))
local macro_rules | `(tactic| array_get_dec) => `(tactic| (with_reducible refine l_eq_take_take ?_))
local macro_rules | `(tactic| array_get_dec) => `(tactic| (with_reducible refine l_eq_take_put ?_))
local macro_rules | `(tactic| array_get_dec) => `(tactic| (with_reducible refine l_eq_take_do ?_))
local macro_rules | `(tactic| array_get_dec) => `(tactic| (with_reducible refine l_eq_put_take ?_))
local macro_rules | `(tactic| array_get_dec) => `(tactic| (with_reducible refine l_eq_put_put ?_))
local macro_rules | `(tactic| array_get_dec) => `(tactic| (with_reducible refine l_eq_put_do ?_))
local macro_rules | `(tactic| array_get_dec) => `(tactic| (with_reducible refine l_eq_do_take ?_))
local macro_rules | `(tactic| array_get_dec) => `(tactic| (with_reducible refine l_eq_do_put ?_))
local macro_rules | `(tactic| array_get_dec) => `(tactic| (with_reducible refine l_eq_do_do ?_))
local macro_rules | `(tactic| array_get_dec) => `(tactic| (with_reducible refine for_nil ?_))
local macro_rules | `(tactic| array_get_dec) => `(tactic| (with_reducible refine k_forN ?_))
local macro_rules | `(tactic| array_get_dec) => `(tactic| (with_reducible refine k_forR ?_))
local macro_rules | `(tactic| array_get_dec) => `(tactic| (with_reducible refine w_aLc ?_))
local macro_rules | `(tactic| array_get_dec) => `(tactic| (with_reducible refine w_inN ?_))
local macro_rules | `(tactic| array_get_dec) => `(tactic| (with_reducible refine w_ninN ?_))
local macro_rules | `(tactic| array_get_dec) => `(tactic| (with_reducible refine w_lstL ?_))
local macro_rules | `(tactic| array_get_dec) => `(tactic| (with_reducible refine w_lstT ?_))
local macro_rules | `(tactic| array_get_dec) => `(tactic| (with_reducible refine w_find ?_))
local macro_rules | `(tactic| array_get_dec) => `(tactic| (with_reducible refine w_abs ?_))
local macro_rules | `(tactic| array_get_dec) => `(tactic| (with_reducible refine w_thru ?_))
local macro_rules | `(tactic| array_get_dec) => `(tactic| (with_reducible refine w_new ?_))
local macro_rules | `(tactic| array_get_dec) => `(tactic| (with_reducible refine w_dr1T ?_))
local macro_rules | `(tactic| array_get_dec) => `(tactic| (with_reducible refine w_dr1L ?_))
local macro_rules | `(tactic| array_get_dec) => `(tactic| (with_reducible refine w_eqFc ?_))
local macro_rules | `(tactic| array_get_dec) => `(tactic| (with_reducible refine w_eqFb ?_))
local macro_rules | `(tactic| array_get_dec) => `(tactic| (with_reducible refine w_eqFq ?_))
local macro_rules | `(tactic| array_get_dec) => `(tactic| (with_reducible refine w_eqGp ?_))
local macro_rules | `(tactic| array_get_dec) => `(tactic| (with_reducible refine w_eqGt ?_))
local macro_rules | `(tactic| array_get_dec) => `(tactic| (with_reducible refine w_neI ?_))
local macro_rules | `(tactic| array_get_dec) => `(tactic| (with_reducible refine w_eqI ?_))
local macro_rules | `(tactic| array_get_dec) => `(tactic| (with_reducible refine w_neN ?_))
local macro_rules | `(tactic| array_get_dec) => `(tactic| (with_reducible refine w_eqN ?_))
local macro_rules | `(tactic| array_get_dec) => `(tactic| (with_reducible refine w_lenML ?_))
local macro_rules | `(tactic| array_get_dec) => `(tactic| (with_reducible refine w_lenM ?_))
local macro_rules | `(tactic| array_get_dec) => `(tactic| (with_reducible refine w_t3 ?_))
local macro_rules | `(tactic| array_get_dec) => `(tactic| (with_reducible refine w_t2 ?_))
local macro_rules | `(tactic| array_get_dec) => `(tactic| (with_reducible refine w_t1 ?_))
local macro_rules | `(tactic| array_get_dec) => `(tactic| (with_reducible refine w_t0 ?_))
local macro_rules | `(tactic| array_get_dec) => `(tactic| (with_reducible refine w_ev1 ?_))
local macro_rules | `(tactic| array_get_dec) => `(tactic| (with_reducible refine w_ev0 ?_))
local macro_rules | `(tactic| array_get_dec) => `(tactic| (with_reducible refine w_dt2 ?_))
local macro_rules | `(tactic| array_get_dec) => `(tactic| (with_reducible refine w_dp2 ?_))
local macro_rules | `(tactic| array_get_dec) => `(tactic| (with_reducible refine w_dt1 ?_))
local macro_rules | `(tactic| array_get_dec) => `(tactic| (with_reducible refine w_dp1 ?_))
local macro_rules | `(tactic| array_get_dec) => `(tactic| (with_reducible refine w_dt0 ?_))
local macro_rules | `(tactic| array_get_dec) => `(tactic| (with_reducible refine w_dp0 ?_))
local macro_rules | `(tactic| array_get_dec) => `(tactic| (with_reducible refine w_dd0 ?_))
local macro_rules | `(tactic| array_get_dec) => `(tactic| (with_reducible refine w_ar2 ?_))
local macro_rules | `(tactic| array_get_dec) => `(tactic| (with_reducible refine w_ar1 ?_))
local macro_rules | `(tactic| array_get_dec) => `(tactic| (with_reducible refine w_ar0 ?_))
local macro_rules | `(tactic| array_get_dec) => `(tactic| (with_reducible refine w_ch3 ?_))
local macro_rules | `(tactic| array_get_dec) => `(tactic| (with_reducible refine w_ch2 ?_))
local macro_rules | `(tactic| array_get_dec) => `(tactic| (with_reducible refine w_ch1 ?_))
local macro_rules | `(tactic| array_get_dec) => `(tactic| (with_reducible refine w_ch0 ?_))
local macro_rules | `(tactic| array_get_dec) => `(tactic| (with_reducible refine w_pt2 ?_))
local macro_rules | `(tactic| array_get_dec) => `(tactic| (with_reducible refine w_pt1 ?_))
local macro_rules | `(tactic| array_get_dec) => `(tactic| (with_reducible refine w_pt0 ?_))
local macro_rules | `(tactic| array_get_dec) => `(tactic| (with_reducible refine w_pg1 ?_))
local macro_rules | `(tactic| array_get_dec) => `(tactic| (with_reducible refine w_pg0 ?_))
local macro_rules | `(tactic| array_get_dec) => `(tactic| (with_reducible refine w_expr ?_))
local macro_rules | `(tactic| array_get_dec) => `(tactic| (with_reducible refine w_pass ?_))
local macro_rules | `(tactic| array_get_dec) => `(tactic| (with_reducible refine w_nil ?_))
local macro_rules | `(tactic| array_get_dec) => `(tactic| (with_reducible refine w_ret ?_))
local macro_rules | `(tactic| array_get_dec) => `(tactic| (with_reducible refine w_geI ?_))
local macro_rules | `(tactic| array_get_dec) => `(tactic| (with_reducible refine w_leI ?_))
local macro_rules | `(tactic| array_get_dec) => `(tactic| (with_reducible refine w_ltI ?_))
local macro_rules | `(tactic| array_get_dec) => `(tactic| (with_reducible refine w_gtI ?_))
local macro_rules | `(tactic| array_get_dec) => `(tactic| (with_reducible refine w_tBl ?_))
local macro_rules | `(tactic| array_get_dec) => `(tactic| (with_reducible refine w_if ?_))
local macro_rules | `(tactic| array_get_dec) => `(tactic| (with_reducible refine w_addI ?_))
local macro_rules | `(tactic| array_get_dec) => `(tactic| (with_reducible refine w_c ?_))
local macro_rules | `(tactic| array_get_dec) => `(tactic| (with_reducible refine w_e1 ?_))
local macro_rules | `(tactic| array_get_dec) => `(tactic| (with_reducible refine w_e2 ?_))
local macro_rules | `(tactic| array_get_dec) => `(tactic| (with_reducible refine w_dput ?_))
local macro_rules | `(tactic| array_get_dec) => `(tactic| (with_reducible refine w_seq ?_))
local macro_rules | `(tactic| array_get_dec) => `(tactic| (with_reducible refine k_ifnT ?_))
local macro_rules | `(tactic| array_get_dec) => `(tactic| (with_reducible refine k_ifnF ?_))
local macro_rules | `(tactic| array_get_dec) => `(tactic| (with_reducible refine k_ifF ?_))
local macro_rules | `(tactic| array_get_dec) => `(tactic| (with_reducible refine k_ifT ?_))
local macro_rules | `(tactic| array_get_dec) => `(tactic| (with_reducible refine k_int ?_))
local macro_rules | `(tactic| array_get_dec) => `(tactic| (with_reducible refine k_str ?_))
local macro_rules | `(tactic| array_get_dec) => `(tactic| (with_reducible refine k_bl ?_))
local macro_rules | `(tactic| array_get_dec) => `(tactic| (with_reducible refine k_runN ?_))
local macro_rules | `(tactic| array_get_dec) => `(tactic| (with_reducible refine k_run ?_))
local macro_rules | `(tactic| array_get_dec) => `(tactic| (with_reducible refine k_seqR ?_))
local macro_rules | `(tactic| array_get_dec) => `(tactic| (with_reducible refine k_seq ?_))
local macro_rules | `(tactic| array_get_dec) => `(tactic| ((with_reducible apply w_lookV); exact rfl))
local macro_rules | `(tactic| array_get_dec) => `(tactic| ((with_reducible apply w_look); exact rfl))
local macro_rules | `(tactic| array_get_dec) => `(tactic| ((with_reducible apply w_var); exact rfl))
local macro_rules | `(tactic| subst_eqs) => `(tactic| repeat array_get_dec)
local macro_rules | `(tactic| array_mem_dec) => `(tactic| ((with_reducible apply get_made); assumption))
local macro_rules | `(tactic| array_mem_dec) => `(tactic| ((with_reducible apply get_rest); assumption))
local macro_rules | `(tactic| array_mem_dec) => `(tactic| ((with_reducible apply get_at); assumption))
local macro_rules | `(tactic| array_mem_dec) => `(tactic| ((with_reducible apply get_cells); assumption))
local macro_rules | `(tactic| array_mem_dec) => `(tactic| (with_reducible refine w_int2 (decide_eq_true (.inl (by decide))) ?_))
local macro_rules | `(tactic| array_mem_dec) => `(tactic| (with_reducible refine w_int2 (decide_eq_true (.inr (by decide))) ?_))
local macro_rules | `(tactic| array_mem_dec) => `(tactic| (with_reducible refine w_int2 (by decide) ?_))
local macro_rules | `(tactic| array_mem_dec) => `(tactic| (with_reducible refine w_drR (by assumption) ?_))
local macro_rules | `(tactic| array_mem_dec) => `(tactic| (with_reducible refine w_drL (by assumption) ?_))
local macro_rules | `(tactic| array_mem_dec) => `(tactic| (with_reducible refine w_dr1 (by assumption) ?_))
local macro_rules | `(tactic| array_mem_dec) => `(tactic| (with_reducible refine w_ixML (by assumption) ?_))
local macro_rules | `(tactic| array_mem_dec) => `(tactic| (with_reducible refine w_ixM (by assumption) ?_))
local macro_rules | `(tactic| array_mem_dec) => `(tactic| (with_reducible refine w_parO (by simp) (by simp) ?_))
local macro_rules | `(tactic| array_mem_dec) => `(tactic| (with_reducible refine w_par (by simp) (by simp) ?_))
local macro_rules | `(tactic| array_mem_dec) => `(tactic| (with_reducible refine w_own (by simp) ?_))
local macro_rules | `(tactic| array_mem_dec) => `(tactic| (with_reducible refine w_set (by simp) ?_))
local macro_rules | `(tactic| array_mem_dec) => `(tactic| (with_reducible refine w_own (by decide) ?_))
local macro_rules | `(tactic| array_mem_dec) => `(tactic| (with_reducible refine w_set (by decide) ?_))
local macro_rules | `(tactic| array_mem_dec) => `(tactic| ((with_reducible apply w_ext); exact rfl))
local macro_rules | `(tactic| array_mem_dec) => `(tactic| ((with_reducible apply w_app); exact rfl))
local macro_rules | `(tactic| array_mem_dec) => `(tactic| (with_reducible refine n_not_list ?_))
local macro_rules | `(tactic| array_mem_dec) => `(tactic| (with_reducible refine n_is_list ?_))
local macro_rules | `(tactic| array_mem_dec) => `(tactic| (with_reducible refine n_not_tuple ?_))
local macro_rules | `(tactic| array_mem_dec) => `(tactic| (with_reducible refine n_is_tuple ?_))
local macro_rules | `(tactic| array_mem_dec) => `(tactic| (with_reducible refine n_not_str ?_))
local macro_rules | `(tactic| array_mem_dec) => `(tactic| (with_reducible refine n_is_str ?_))
local macro_rules | `(tactic| array_mem_dec) => `(tactic| (with_reducible refine n_not_int ?_))
local macro_rules | `(tactic| array_mem_dec) => `(tactic| (with_reducible refine n_is_int ?_))
local macro_rules | `(tactic| array_mem_dec) => `(tactic| (with_reducible refine n_not_bool ?_))
local macro_rules | `(tactic| array_mem_dec) => `(tactic| (with_reducible refine n_is_bool ?_))
local macro_rules | `(tactic| array_mem_dec) => `(tactic| (with_reducible refine n_not_NoneType ?_))
local macro_rules | `(tactic| array_mem_dec) => `(tactic| (with_reducible refine n_is_NoneType ?_))
local macro_rules | `(tactic| array_mem_dec) => `(tactic| (with_reducible refine i_list_list ?_))
local macro_rules | `(tactic| array_mem_dec) => `(tactic| (with_reducible refine i_list_tuple ?_))
local macro_rules | `(tactic| array_mem_dec) => `(tactic| (with_reducible refine i_list_str ?_))
local macro_rules | `(tactic| array_mem_dec) => `(tactic| (with_reducible refine i_list_int ?_))
local macro_rules | `(tactic| array_mem_dec) => `(tactic| (with_reducible refine i_list_bool ?_))
local macro_rules | `(tactic| array_mem_dec) => `(tactic| (with_reducible refine i_list_NoneType ?_))
local macro_rules | `(tactic| array_mem_dec) => `(tactic| (with_reducible refine i_bool_list ?_))
local macro_rules | `(tactic| array_mem_dec) => `(tactic| (with_reducible refine i_bool_tuple ?_))
local macro_rules | `(tactic| array_mem_dec) => `(tactic| (with_reducible refine i_bool_str ?_))
local macro_rules | `(tactic| array_mem_dec) => `(tactic| (with_reducible refine i_bool_int ?_))
local macro_rules | `(tactic| array_mem_dec) => `(tactic| (with_reducible refine i_bool_bool ?_))
local macro_rules | `(tactic| array_mem_dec) => `(tactic| (with_reducible refine i_bool_NoneType ?_))
local macro_rules | `(tactic| array_mem_dec) => `(tactic| (with_reducible refine i_int_list ?_))
local macro_rules | `(tactic| array_mem_dec) => `(tactic| (with_reducible refine i_int_tuple ?_))
local macro_rules | `(tactic| array_mem_dec) => `(tactic| (with_reducible refine i_int_str ?_))
local macro_rules | `(tactic| array_mem_dec) => `(tactic| (with_reducible refine i_int_int ?_))
local macro_rules | `(tactic| array_mem_dec) => `(tactic| (with_reducible refine i_int_bool ?_))
local macro_rules | `(tactic| array_mem_dec) => `(tactic| (with_reducible refine i_int_NoneType ?_))
local macro_rules | `(tactic| array_mem_dec) => `(tactic| (with_reducible refine i_str_list ?_))
local macro_rules | `(tactic| array_mem_dec) => `(tactic| (with_reducible refine i_str_tuple ?_))
local macro_rules | `(tactic| array_mem_dec) => `(tactic| (with_reducible refine i_str_str ?_))
local macro_rules | `(tactic| array_mem_dec) => `(tactic| (with_reducible refine i_str_int ?_))
local macro_rules | `(tactic| array_mem_dec) => `(tactic| (with_reducible refine i_str_bool ?_))
local macro_rules | `(tactic| array_mem_dec) => `(tactic| (with_reducible refine i_str_NoneType ?_))
local macro_rules | `(tactic| array_mem_dec) => `(tactic| (with_reducible refine i_tuple_list ?_))
local macro_rules | `(tactic| array_mem_dec) => `(tactic| (with_reducible refine i_tuple_tuple ?_))
local macro_rules | `(tactic| array_mem_dec) => `(tactic| (with_reducible refine i_tuple_str ?_))
local macro_rules | `(tactic| array_mem_dec) => `(tactic| (with_reducible refine i_tuple_int ?_))
local macro_rules | `(tactic| array_mem_dec) => `(tactic| (with_reducible refine i_tuple_bool ?_))
local macro_rules | `(tactic| array_mem_dec) => `(tactic| (with_reducible refine i_tuple_NoneType ?_))
local macro_rules | `(tactic| array_mem_dec) => `(tactic| (with_reducible refine w_aLn ?_))
local macro_rules | `(tactic| array_mem_dec) => `(tactic| (with_reducible refine w_dict ?_))
local macro_rules | `(tactic| array_mem_dec) => `(tactic| (with_reducible refine w_un ?_))
local macro_rules | `(tactic| array_mem_dec) => `(tactic| (with_reducible refine w_fLst ?_))
local macro_rules | `(tactic| array_mem_dec) => `(tactic| (with_reducible refine w_lst ?_))
local macro_rules | `(tactic| array_mem_dec) => `(tactic| (with_reducible refine w_tup ?_))
local macro_rules | `(tactic| array_mem_dec) => `(tactic| (with_reducible refine w_lc ?_))
local macro_rules | `(tactic| array_mem_dec) => `(tactic| (with_reducible refine w_for ?_))
local macro_rules | `(tactic| array_mem_dec) => `(tactic| (with_reducible refine w_iSeq ?_))
local macro_rules | `(tactic| array_mem_dec) => `(tactic| (with_reducible refine w_frz ?_))
local macro_rules | `(tactic| array_mem_dec) => `(tactic| (with_reducible refine w_tupT ?_))
local macro_rules | `(tactic| array_mem_dec) => `(tactic| (with_reducible refine w_tupL ?_))
local macro_rules | `(tactic| array_mem_dec) => `(tactic| (with_reducible refine w_slF ?_))
local macro_rules | `(tactic| array_mem_dec) => `(tactic| (with_reducible refine w_slT ?_))
local macro_rules | `(tactic| array_mem_dec) => `(tactic| (with_reducible refine w_slL ?_))
local macro_rules | `(tactic| array_mem_dec) => `(tactic| (with_reducible refine w_true ?_))
local macro_rules | `(tactic| array_mem_dec) => `(tactic| (with_reducible refine w_call ?_))
local macro_rules | `(tactic| array_mem_dec) => `(tactic| (with_reducible refine w_eL ?_))
local macro_rules | `(tactic| array_mem_dec) => `(tactic| (with_reducible refine w_aC ?_))
local macro_rules | `(tactic| array_mem_dec) => `(tactic| (with_reducible refine w_aN ?_))
local macro_rules | `(tactic| array_mem_dec) => `(tactic| (with_reducible refine w_m1 ?_))
local macro_rules | `(tactic| array_mem_dec) => `(tactic| (with_reducible refine w_sl ?_))
local macro_rules | `(tactic| array_mem_dec) => `(tactic| (with_reducible refine w_oSo ?_))
local macro_rules | `(tactic| array_mem_dec) => `(tactic| (with_reducible refine w_oNo ?_))
local macro_rules | `(tactic| array_mem_dec) => `(tactic| (with_reducible refine w_neg ?_))
local macro_rules | `(tactic| array_mem_dec) => `(tactic| (with_reducible refine w_eCh ?_))
local macro_rules | `(tactic| array_mem_dec) => `(tactic| (with_reducible refine w_vNot ?_))
local macro_rules | `(tactic| array_mem_dec) => `(tactic| (with_reducible refine w_vOr ?_))
local macro_rules | `(tactic| array_mem_dec) => `(tactic| (with_reducible refine w_vAnd ?_))
local macro_rules | `(tactic| array_mem_dec) => `(tactic| (with_reducible refine w_tNt ?_))
local macro_rules | `(tactic| array_mem_dec) => `(tactic| (with_reducible refine w_tOr ?_))
local macro_rules | `(tactic| array_mem_dec) => `(tactic| (with_reducible refine w_tAn ?_))
local macro_rules | `(tactic| array_mem_dec) => `(tactic| (with_reducible refine w_eIf ?_))
local macro_rules | `(tactic| array_mem_dec) => `(tactic| (with_reducible refine w_intI ?_))
local macro_rules | `(tactic| array_mem_dec) => `(tactic| (with_reducible refine w_lenT ?_))
local macro_rules | `(tactic| array_mem_dec) => `(tactic| (with_reducible refine w_lenL ?_))
local macro_rules | `(tactic| array_mem_dec) => `(tactic| (with_reducible refine w_rng ?_))
local macro_rules | `(tactic| array_mem_dec) => `(tactic| (with_reducible refine l_ne_take_take ?_))
local macro_rules | `(tactic| array_mem_dec) => `(tactic| (with_reducible refine l_ne_take_put ?_))
local macro_rules | `(tactic| array_mem_dec) => `(tactic| (with_reducible refine l_ne_take_do ?_))
local macro_rules | `(tactic| array_mem_dec) => `(tactic| (with_reducible refine l_ne_put_take ?_))
local macro_rules | `(tactic| array_mem_dec) => `(tactic| (with_reducible refine l_ne_put_put ?_))
local macro_rules | `(tactic| array_mem_dec) => `(tactic| (with_reducible refine l_ne_put_do ?_))
local macro_rules | `(tactic| array_mem_dec) => `(tactic| (with_reducible refine l_ne_do_take ?_))
local macro_rules | `(tactic| array_mem_dec) => `(tactic| (with_reducible refine l_ne_do_put ?_))
local macro_rules | `(tactic| array_mem_dec) => `(tactic| (with_reducible refine l_ne_do_do ?_))
local macro_rules | `(tactic| array_mem_dec) => `(tactic| (with_reducible refine l_eq_take_take ?_))
local macro_rules | `(tactic| array_mem_dec) => `(tactic| (with_reducible refine l_eq_take_put ?_))
local macro_rules | `(tactic| array_mem_dec) => `(tactic| (with_reducible refine l_eq_take_do ?_))
local macro_rules | `(tactic| array_mem_dec) => `(tactic| (with_reducible refine l_eq_put_take ?_))
local macro_rules | `(tactic| array_mem_dec) => `(tactic| (with_reducible refine l_eq_put_put ?_))
local macro_rules | `(tactic| array_mem_dec) => `(tactic| (with_reducible refine l_eq_put_do ?_))
local macro_rules | `(tactic| array_mem_dec) => `(tactic| (with_reducible refine l_eq_do_take ?_))
local macro_rules | `(tactic| array_mem_dec) => `(tactic| (with_reducible refine l_eq_do_put ?_))
local macro_rules | `(tactic| array_mem_dec) => `(tactic| (with_reducible refine l_eq_do_do ?_))
local macro_rules | `(tactic| array_mem_dec) => `(tactic| (with_reducible refine for_nil ?_))
local macro_rules | `(tactic| array_mem_dec) => `(tactic| (with_reducible refine k_forN ?_))
local macro_rules | `(tactic| array_mem_dec) => `(tactic| (with_reducible refine k_forR ?_))
local macro_rules | `(tactic| array_mem_dec) => `(tactic| (with_reducible refine w_aLc ?_))
local macro_rules | `(tactic| array_mem_dec) => `(tactic| (with_reducible refine w_inN ?_))
local macro_rules | `(tactic| array_mem_dec) => `(tactic| (with_reducible refine w_ninN ?_))
local macro_rules | `(tactic| array_mem_dec) => `(tactic| (with_reducible refine w_lstL ?_))
local macro_rules | `(tactic| array_mem_dec) => `(tactic| (with_reducible refine w_lstT ?_))
local macro_rules | `(tactic| array_mem_dec) => `(tactic| (with_reducible refine w_find ?_))
local macro_rules | `(tactic| array_mem_dec) => `(tactic| (with_reducible refine w_abs ?_))
local macro_rules | `(tactic| array_mem_dec) => `(tactic| (with_reducible refine w_thru ?_))
local macro_rules | `(tactic| array_mem_dec) => `(tactic| (with_reducible refine w_new ?_))
local macro_rules | `(tactic| array_mem_dec) => `(tactic| (with_reducible refine w_dr1T ?_))
local macro_rules | `(tactic| array_mem_dec) => `(tactic| (with_reducible refine w_dr1L ?_))
local macro_rules | `(tactic| array_mem_dec) => `(tactic| (with_reducible refine w_eqFc ?_))
local macro_rules | `(tactic| array_mem_dec) => `(tactic| (with_reducible refine w_eqFb ?_))
local macro_rules | `(tactic| array_mem_dec) => `(tactic| (with_reducible refine w_eqFq ?_))
local macro_rules | `(tactic| array_mem_dec) => `(tactic| (with_reducible refine w_eqGp ?_))
local macro_rules | `(tactic| array_mem_dec) => `(tactic| (with_reducible refine w_eqGt ?_))
local macro_rules | `(tactic| array_mem_dec) => `(tactic| (with_reducible refine w_neI ?_))
local macro_rules | `(tactic| array_mem_dec) => `(tactic| (with_reducible refine w_eqI ?_))
local macro_rules | `(tactic| array_mem_dec) => `(tactic| (with_reducible refine w_neN ?_))
local macro_rules | `(tactic| array_mem_dec) => `(tactic| (with_reducible refine w_eqN ?_))
local macro_rules | `(tactic| array_mem_dec) => `(tactic| (with_reducible refine w_lenML ?_))
local macro_rules | `(tactic| array_mem_dec) => `(tactic| (with_reducible refine w_lenM ?_))
local macro_rules | `(tactic| array_mem_dec) => `(tactic| (with_reducible refine w_t3 ?_))
local macro_rules | `(tactic| array_mem_dec) => `(tactic| (with_reducible refine w_t2 ?_))
local macro_rules | `(tactic| array_mem_dec) => `(tactic| (with_reducible refine w_t1 ?_))
local macro_rules | `(tactic| array_mem_dec) => `(tactic| (with_reducible refine w_t0 ?_))
local macro_rules | `(tactic| array_mem_dec) => `(tactic| (with_reducible refine w_ev1 ?_))
local macro_rules | `(tactic| array_mem_dec) => `(tactic| (with_reducible refine w_ev0 ?_))
local macro_rules | `(tactic| array_mem_dec) => `(tactic| (with_reducible refine w_dt2 ?_))
local macro_rules | `(tactic| array_mem_dec) => `(tactic| (with_reducible refine w_dp2 ?_))
local macro_rules | `(tactic| array_mem_dec) => `(tactic| (with_reducible refine w_dt1 ?_))
local macro_rules | `(tactic| array_mem_dec) => `(tactic| (with_reducible refine w_dp1 ?_))
local macro_rules | `(tactic| array_mem_dec) => `(tactic| (with_reducible refine w_dt0 ?_))
local macro_rules | `(tactic| array_mem_dec) => `(tactic| (with_reducible refine w_dp0 ?_))
local macro_rules | `(tactic| array_mem_dec) => `(tactic| (with_reducible refine w_dd0 ?_))
local macro_rules | `(tactic| array_mem_dec) => `(tactic| (with_reducible refine w_ar2 ?_))
local macro_rules | `(tactic| array_mem_dec) => `(tactic| (with_reducible refine w_ar1 ?_))
local macro_rules | `(tactic| array_mem_dec) => `(tactic| (with_reducible refine w_ar0 ?_))
local macro_rules | `(tactic| array_mem_dec) => `(tactic| (with_reducible refine w_ch3 ?_))
local macro_rules | `(tactic| array_mem_dec) => `(tactic| (with_reducible refine w_ch2 ?_))
local macro_rules | `(tactic| array_mem_dec) => `(tactic| (with_reducible refine w_ch1 ?_))
local macro_rules | `(tactic| array_mem_dec) => `(tactic| (with_reducible refine w_ch0 ?_))
local macro_rules | `(tactic| array_mem_dec) => `(tactic| (with_reducible refine w_pt2 ?_))
local macro_rules | `(tactic| array_mem_dec) => `(tactic| (with_reducible refine w_pt1 ?_))
local macro_rules | `(tactic| array_mem_dec) => `(tactic| (with_reducible refine w_pt0 ?_))
local macro_rules | `(tactic| array_mem_dec) => `(tactic| (with_reducible refine w_pg1 ?_))
local macro_rules | `(tactic| array_mem_dec) => `(tactic| (with_reducible refine w_pg0 ?_))
local macro_rules | `(tactic| array_mem_dec) => `(tactic| (with_reducible refine w_expr ?_))
local macro_rules | `(tactic| array_mem_dec) => `(tactic| (with_reducible refine w_pass ?_))
local macro_rules | `(tactic| array_mem_dec) => `(tactic| (with_reducible refine w_nil ?_))
local macro_rules | `(tactic| array_mem_dec) => `(tactic| (with_reducible refine w_ret ?_))
local macro_rules | `(tactic| array_mem_dec) => `(tactic| (with_reducible refine w_geI ?_))
local macro_rules | `(tactic| array_mem_dec) => `(tactic| (with_reducible refine w_leI ?_))
local macro_rules | `(tactic| array_mem_dec) => `(tactic| (with_reducible refine w_ltI ?_))
local macro_rules | `(tactic| array_mem_dec) => `(tactic| (with_reducible refine w_gtI ?_))
local macro_rules | `(tactic| array_mem_dec) => `(tactic| (with_reducible refine w_tBl ?_))
local macro_rules | `(tactic| array_mem_dec) => `(tactic| (with_reducible refine w_if ?_))
local macro_rules | `(tactic| array_mem_dec) => `(tactic| (with_reducible refine w_addI ?_))
local macro_rules | `(tactic| array_mem_dec) => `(tactic| (with_reducible refine w_c ?_))
local macro_rules | `(tactic| array_mem_dec) => `(tactic| (with_reducible refine w_e1 ?_))
local macro_rules | `(tactic| array_mem_dec) => `(tactic| (with_reducible refine w_e2 ?_))
local macro_rules | `(tactic| array_mem_dec) => `(tactic| (with_reducible refine w_dput ?_))
local macro_rules | `(tactic| array_mem_dec) => `(tactic| (with_reducible refine w_seq ?_))
local macro_rules | `(tactic| array_mem_dec) => `(tactic| (with_reducible refine k_ifnT ?_))
local macro_rules | `(tactic| array_mem_dec) => `(tactic| (with_reducible refine k_ifnF ?_))
local macro_rules | `(tactic| array_mem_dec) => `(tactic| (with_reducible refine k_ifF ?_))
local macro_rules | `(tactic| array_mem_dec) => `(tactic| (with_reducible refine k_ifT ?_))
local macro_rules | `(tactic| array_mem_dec) => `(tactic| (with_reducible refine k_int ?_))
local macro_rules | `(tactic| array_mem_dec) => `(tactic| (with_reducible refine k_str ?_))
local macro_rules | `(tactic| array_mem_dec) => `(tactic| (with_reducible refine k_bl ?_))
local macro_rules | `(tactic| array_mem_dec) => `(tactic| (with_reducible refine k_runN ?_))
local macro_rules | `(tactic| array_mem_dec) => `(tactic| (with_reducible refine k_run ?_))
local macro_rules | `(tactic| array_mem_dec) => `(tactic| (with_reducible refine k_seqR ?_))
local macro_rules | `(tactic| array_mem_dec) => `(tactic| (with_reducible refine k_seq ?_))
local macro_rules | `(tactic| array_mem_dec) => `(tactic| ((with_reducible apply w_lookV); exact rfl))
local macro_rules | `(tactic| array_mem_dec) => `(tactic| ((with_reducible apply w_look); exact rfl))
local macro_rules | `(tactic| array_mem_dec) => `(tactic| ((with_reducible apply w_var); exact rfl))
local macro_rules | `(tactic| and_intros) => `(tactic| repeat array_mem_dec)
local macro_rules | `(tactic| sizeOf_list_dec) => `(tactic| (with_reducible refine x_own (by simp) ?_))
local macro_rules | `(tactic| sizeOf_list_dec) => `(tactic| (with_reducible refine x_set (by simp) ?_))
local macro_rules | `(tactic| sizeOf_list_dec) => `(tactic| (with_reducible refine x_own (by decide) ?_))
local macro_rules | `(tactic| sizeOf_list_dec) => `(tactic| (with_reducible refine x_set (by decide) ?_))
local macro_rules | `(tactic| sizeOf_list_dec) => `(tactic| ((with_reducible apply x_ext); exact rfl))
local macro_rules | `(tactic| sizeOf_list_dec) => `(tactic| ((with_reducible apply x_app); exact rfl))
local macro_rules | `(tactic| sizeOf_list_dec) => `(tactic| (with_reducible refine wp.x (m := leM _ _) ?_))
local macro_rules | `(tactic| sizeOf_list_dec) => `(tactic| (with_reducible refine wp.x (m := ltM _ _) ?_))
local macro_rules | `(tactic| sizeOf_list_dec) => `(tactic| (with_reducible refine wp.x (m := gtM _ _) ?_))
local macro_rules | `(tactic| sizeOf_list_dec) => `(tactic| (with_reducible refine wp.x (m := geM _ _) ?_))
local macro_rules | `(tactic| sizeOf_list_dec) => `(tactic| (with_reducible refine wp.x (m := isiM _ _) ?_))
local macro_rules | `(tactic| sizeOf_list_dec) => `(tactic| (with_reducible refine wp.x (m := slM _ _ _) ?_))
local macro_rules | `(tactic| sizeOf_list_dec) => `(tactic| (with_reducible refine wp.x (m := ssetA _) ?_))
local macro_rules | `(tactic| sizeOf_list_dec) => `(tactic| (with_reducible refine wp.x (m := lstM _) ?_))
local macro_rules | `(tactic| sizeOf_list_dec) => `(tactic| (with_reducible refine wp.x (m := tupM _) ?_))
local macro_rules | `(tactic| sizeOf_list_dec) => `(tactic| (with_reducible refine wp.x (m := notNM _) ?_))
local macro_rules | `(tactic| sizeOf_list_dec) => `(tactic| (with_reducible refine wp.x (m := isNM _) ?_))
local macro_rules | `(tactic| sizeOf_list_dec) => `(tactic| (with_reducible refine wp.x (m := notInM _ _) ?_))
local macro_rules | `(tactic| sizeOf_list_dec) => `(tactic| (with_reducible refine wp.x (m := inM _ _) ?_))
local macro_rules | `(tactic| sizeOf_list_dec) => `(tactic| (with_reducible refine wp.x (m := neM _ _) ?_))
local macro_rules | `(tactic| sizeOf_list_dec) => `(tactic| (with_reducible refine wp.x (m := eqM _ _) ?_))
local macro_rules | `(tactic| sizeOf_list_dec) => `(tactic| (with_reducible refine wp.x (m := lenM _) ?_))
local macro_rules | `(tactic| sizeOf_list_dec) => `(tactic| (with_reducible refine wp.x (m := ixM _ _) ?_))
local macro_rules | `(tactic| sizeOf_list_dec) => `(tactic| (with_reducible refine x_lc2 ?_))
local macro_rules | `(tactic| sizeOf_list_dec) => `(tactic| (with_reducible refine x_lc ?_))
local macro_rules | `(tactic| sizeOf_list_dec) => `(tactic| (with_reducible refine x_true ?_))
local macro_rules | `(tactic| sizeOf_list_dec) => `(tactic| (with_reducible refine x_frz ?_))
local macro_rules | `(tactic| sizeOf_list_dec) => `(tactic| (with_reducible refine x_star ?_))
local macro_rules | `(tactic| sizeOf_list_dec) => `(tactic| (with_reducible refine x_raise ?_))
local macro_rules | `(tactic| sizeOf_list_dec) => `(tactic| (with_reducible refine x_neg ?_))
local macro_rules | `(tactic| sizeOf_list_dec) => `(tactic| (with_reducible refine x_oSo ?_))
local macro_rules | `(tactic| sizeOf_list_dec) => `(tactic| (with_reducible refine x_oNo ?_))
local macro_rules | `(tactic| sizeOf_list_dec) => `(tactic| (with_reducible refine x_sl ?_))
local macro_rules | `(tactic| sizeOf_list_dec) => `(tactic| (with_reducible refine x_c ?_))
local macro_rules | `(tactic| sizeOf_list_dec) => `(tactic| (with_reducible refine x_e2 ?_))
local macro_rules | `(tactic| sizeOf_list_dec) => `(tactic| (with_reducible refine x_e1 ?_))
local macro_rules | `(tactic| sizeOf_list_dec) => `(tactic| (with_reducible refine x_iSeq ?_))
local macro_rules | `(tactic| sizeOf_list_dec) => `(tactic| (with_reducible refine x_for ?_))
local macro_rules | `(tactic| sizeOf_list_dec) => `(tactic| (with_reducible refine x_un ?_))
local macro_rules | `(tactic| sizeOf_list_dec) => `(tactic| (with_reducible refine x_fLst ?_))
local macro_rules | `(tactic| sizeOf_list_dec) => `(tactic| (with_reducible refine x_lst ?_))
local macro_rules | `(tactic| sizeOf_list_dec) => `(tactic| (with_reducible refine x_tup ?_))
local macro_rules | `(tactic| sizeOf_list_dec) => `(tactic| (with_reducible refine x_aC ?_))
local macro_rules | `(tactic| sizeOf_list_dec) => `(tactic| (with_reducible refine x_aN ?_))
local macro_rules | `(tactic| sizeOf_list_dec) => `(tactic| (with_reducible refine x_eIf ?_))
local macro_rules | `(tactic| sizeOf_list_dec) => `(tactic| (with_reducible refine x_tOr ?_))
local macro_rules | `(tactic| sizeOf_list_dec) => `(tactic| (with_reducible refine x_tAn ?_))
local macro_rules | `(tactic| sizeOf_list_dec) => `(tactic| (with_reducible refine x_tNt ?_))
local macro_rules | `(tactic| sizeOf_list_dec) => `(tactic| (with_reducible refine x_tBl ?_))
local macro_rules | `(tactic| sizeOf_list_dec) => `(tactic| (with_reducible refine x_call ?_))
local macro_rules | `(tactic| sizeOf_list_dec) => `(tactic| (with_reducible refine x_eL ?_))
local macro_rules | `(tactic| sizeOf_list_dec) => `(tactic| (with_reducible refine x_expr ?_))
local macro_rules | `(tactic| sizeOf_list_dec) => `(tactic| (with_reducible refine x_pass ?_))
local macro_rules | `(tactic| sizeOf_list_dec) => `(tactic| (with_reducible refine x_nil ?_))
local macro_rules | `(tactic| sizeOf_list_dec) => `(tactic| (with_reducible refine x_ret ?_))
local macro_rules | `(tactic| sizeOf_list_dec) => `(tactic| (with_reducible refine x_if ?_))
local macro_rules | `(tactic| sizeOf_list_dec) => `(tactic| (with_reducible refine x_seq ?_))
local macro_rules | `(tactic| sizeOf_list_dec) => `(tactic| (with_reducible refine kx_seqR ?_))
local macro_rules | `(tactic| sizeOf_list_dec) => `(tactic| (with_reducible refine kx_seq ?_))
local macro_rules | `(tactic| sizeOf_list_dec) => `(tactic| ((with_reducible apply x_lookV); exact rfl))
local macro_rules | `(tactic| sizeOf_list_dec) => `(tactic| ((with_reducible apply x_look); exact rfl))
local macro_rules | `(tactic| sizeOf_list_dec) => `(tactic| ((with_reducible apply x_var); exact rfl))
local macro_rules | `(tactic| sizeOf_list_dec) => `(tactic| (with_reducible refine w_int2 (decide_eq_true (.inl (by decide))) ?_))
local macro_rules | `(tactic| sizeOf_list_dec) => `(tactic| (with_reducible refine w_int2 (decide_eq_true (.inr (by decide))) ?_))
local macro_rules | `(tactic| sizeOf_list_dec) => `(tactic| (with_reducible refine w_int2 (by decide) ?_))
local macro_rules | `(tactic| sizeOf_list_dec) => `(tactic| (with_reducible refine w_drR (by assumption) ?_))
local macro_rules | `(tactic| sizeOf_list_dec) => `(tactic| (with_reducible refine w_drL (by assumption) ?_))
local macro_rules | `(tactic| sizeOf_list_dec) => `(tactic| (with_reducible refine w_dr1 (by assumption) ?_))
local macro_rules | `(tactic| sizeOf_list_dec) => `(tactic| (with_reducible refine w_ixML (by assumption) ?_))
local macro_rules | `(tactic| sizeOf_list_dec) => `(tactic| (with_reducible refine w_ixM (by assumption) ?_))
local macro_rules | `(tactic| sizeOf_list_dec) => `(tactic| (with_reducible refine w_parO (by simp) (by simp) ?_))
local macro_rules | `(tactic| sizeOf_list_dec) => `(tactic| (with_reducible refine w_par (by simp) (by simp) ?_))
local macro_rules | `(tactic| sizeOf_list_dec) => `(tactic| (with_reducible refine w_own (by simp) ?_))
local macro_rules | `(tactic| sizeOf_list_dec) => `(tactic| (with_reducible refine w_set (by simp) ?_))
local macro_rules | `(tactic| sizeOf_list_dec) => `(tactic| (with_reducible refine w_own (by decide) ?_))
local macro_rules | `(tactic| sizeOf_list_dec) => `(tactic| (with_reducible refine w_set (by decide) ?_))
local macro_rules | `(tactic| sizeOf_list_dec) => `(tactic| ((with_reducible apply w_ext); exact rfl))
local macro_rules | `(tactic| sizeOf_list_dec) => `(tactic| ((with_reducible apply w_app); exact rfl))
local macro_rules | `(tactic| sizeOf_list_dec) => `(tactic| (with_reducible refine i_tuple_list ?_))
local macro_rules | `(tactic| sizeOf_list_dec) => `(tactic| (with_reducible refine i_tuple_tuple ?_))
local macro_rules | `(tactic| sizeOf_list_dec) => `(tactic| (with_reducible refine i_tuple_str ?_))
local macro_rules | `(tactic| sizeOf_list_dec) => `(tactic| (with_reducible refine i_tuple_int ?_))
local macro_rules | `(tactic| sizeOf_list_dec) => `(tactic| (with_reducible refine i_tuple_bool ?_))
local macro_rules | `(tactic| sizeOf_list_dec) => `(tactic| (with_reducible refine i_tuple_NoneType ?_))
local macro_rules | `(tactic| sizeOf_list_dec) => `(tactic| (with_reducible refine n_not_NoneType ?_))
local macro_rules | `(tactic| sizeOf_list_dec) => `(tactic| (with_reducible refine n_is_NoneType ?_))
local macro_rules | `(tactic| sizeOf_list_dec) => `(tactic| (with_reducible refine w_aLn ?_))
local macro_rules | `(tactic| sizeOf_list_dec) => `(tactic| (with_reducible refine w_dict ?_))
local macro_rules | `(tactic| sizeOf_list_dec) => `(tactic| (with_reducible refine w_un ?_))
local macro_rules | `(tactic| sizeOf_list_dec) => `(tactic| (with_reducible refine w_fLst ?_))
local macro_rules | `(tactic| sizeOf_list_dec) => `(tactic| (with_reducible refine w_lst ?_))
local macro_rules | `(tactic| sizeOf_list_dec) => `(tactic| (with_reducible refine w_tup ?_))
local macro_rules | `(tactic| sizeOf_list_dec) => `(tactic| (with_reducible refine w_lc ?_))
local macro_rules | `(tactic| sizeOf_list_dec) => `(tactic| (with_reducible refine w_for ?_))
local macro_rules | `(tactic| sizeOf_list_dec) => `(tactic| (with_reducible refine w_iSeq ?_))
local macro_rules | `(tactic| sizeOf_list_dec) => `(tactic| (with_reducible refine w_frz ?_))
local macro_rules | `(tactic| sizeOf_list_dec) => `(tactic| (with_reducible refine w_tupT ?_))
local macro_rules | `(tactic| sizeOf_list_dec) => `(tactic| (with_reducible refine w_tupL ?_))
local macro_rules | `(tactic| sizeOf_list_dec) => `(tactic| (with_reducible refine w_slF ?_))
local macro_rules | `(tactic| sizeOf_list_dec) => `(tactic| (with_reducible refine w_slT ?_))
local macro_rules | `(tactic| sizeOf_list_dec) => `(tactic| (with_reducible refine w_slL ?_))
local macro_rules | `(tactic| sizeOf_list_dec) => `(tactic| (with_reducible refine w_true ?_))
local macro_rules | `(tactic| sizeOf_list_dec) => `(tactic| (with_reducible refine w_call ?_))
local macro_rules | `(tactic| sizeOf_list_dec) => `(tactic| (with_reducible refine w_eL ?_))
local macro_rules | `(tactic| sizeOf_list_dec) => `(tactic| (with_reducible refine w_aC ?_))
local macro_rules | `(tactic| sizeOf_list_dec) => `(tactic| (with_reducible refine w_aN ?_))
local macro_rules | `(tactic| sizeOf_list_dec) => `(tactic| (with_reducible refine w_m1 ?_))
local macro_rules | `(tactic| sizeOf_list_dec) => `(tactic| (with_reducible refine w_sl ?_))
local macro_rules | `(tactic| sizeOf_list_dec) => `(tactic| (with_reducible refine w_oSo ?_))
local macro_rules | `(tactic| sizeOf_list_dec) => `(tactic| (with_reducible refine w_oNo ?_))
local macro_rules | `(tactic| sizeOf_list_dec) => `(tactic| (with_reducible refine w_neg ?_))
local macro_rules | `(tactic| sizeOf_list_dec) => `(tactic| (with_reducible refine w_eCh ?_))
local macro_rules | `(tactic| sizeOf_list_dec) => `(tactic| (with_reducible refine w_vNot ?_))
local macro_rules | `(tactic| sizeOf_list_dec) => `(tactic| (with_reducible refine w_vOr ?_))
local macro_rules | `(tactic| sizeOf_list_dec) => `(tactic| (with_reducible refine w_vAnd ?_))
local macro_rules | `(tactic| sizeOf_list_dec) => `(tactic| (with_reducible refine w_tNt ?_))
local macro_rules | `(tactic| sizeOf_list_dec) => `(tactic| (with_reducible refine w_tOr ?_))
local macro_rules | `(tactic| sizeOf_list_dec) => `(tactic| (with_reducible refine w_tAn ?_))
local macro_rules | `(tactic| sizeOf_list_dec) => `(tactic| (with_reducible refine w_eIf ?_))
local macro_rules | `(tactic| sizeOf_list_dec) => `(tactic| (with_reducible refine w_intI ?_))
local macro_rules | `(tactic| sizeOf_list_dec) => `(tactic| (with_reducible refine w_lenT ?_))
local macro_rules | `(tactic| sizeOf_list_dec) => `(tactic| (with_reducible refine w_lenL ?_))
local macro_rules | `(tactic| sizeOf_list_dec) => `(tactic| (with_reducible refine w_rng ?_))
local macro_rules | `(tactic| sizeOf_list_dec) => `(tactic| (with_reducible refine l_ne_take_take ?_))
local macro_rules | `(tactic| sizeOf_list_dec) => `(tactic| (with_reducible refine l_ne_take_put ?_))
local macro_rules | `(tactic| sizeOf_list_dec) => `(tactic| (with_reducible refine l_ne_take_do ?_))
local macro_rules | `(tactic| sizeOf_list_dec) => `(tactic| (with_reducible refine l_ne_put_take ?_))
local macro_rules | `(tactic| sizeOf_list_dec) => `(tactic| (with_reducible refine l_ne_put_put ?_))
local macro_rules | `(tactic| sizeOf_list_dec) => `(tactic| (with_reducible refine l_ne_put_do ?_))
local macro_rules | `(tactic| sizeOf_list_dec) => `(tactic| (with_reducible refine l_ne_do_take ?_))
local macro_rules | `(tactic| sizeOf_list_dec) => `(tactic| (with_reducible refine l_ne_do_put ?_))
local macro_rules | `(tactic| sizeOf_list_dec) => `(tactic| (with_reducible refine l_ne_do_do ?_))
local macro_rules | `(tactic| sizeOf_list_dec) => `(tactic| (with_reducible refine l_eq_take_take ?_))
local macro_rules | `(tactic| sizeOf_list_dec) => `(tactic| (with_reducible refine l_eq_take_put ?_))
local macro_rules | `(tactic| sizeOf_list_dec) => `(tactic| (with_reducible refine l_eq_take_do ?_))
local macro_rules | `(tactic| sizeOf_list_dec) => `(tactic| (with_reducible refine l_eq_put_take ?_))
local macro_rules | `(tactic| sizeOf_list_dec) => `(tactic| (with_reducible refine l_eq_put_put ?_))
local macro_rules | `(tactic| sizeOf_list_dec) => `(tactic| (with_reducible refine l_eq_put_do ?_))
local macro_rules | `(tactic| sizeOf_list_dec) => `(tactic| (with_reducible refine l_eq_do_take ?_))
local macro_rules | `(tactic| sizeOf_list_dec) => `(tactic| (with_reducible refine l_eq_do_put ?_))
local macro_rules | `(tactic| sizeOf_list_dec) => `(tactic| (with_reducible refine l_eq_do_do ?_))
local macro_rules | `(tactic| sizeOf_list_dec) => `(tactic| (with_reducible refine for_nil ?_))
local macro_rules | `(tactic| sizeOf_list_dec) => `(tactic| (with_reducible refine k_forN ?_))
local macro_rules | `(tactic| sizeOf_list_dec) => `(tactic| (with_reducible refine k_forR ?_))
local macro_rules | `(tactic| sizeOf_list_dec) => `(tactic| (with_reducible refine w_aLc ?_))
local macro_rules | `(tactic| sizeOf_list_dec) => `(tactic| (with_reducible refine w_inN ?_))
local macro_rules | `(tactic| sizeOf_list_dec) => `(tactic| (with_reducible refine w_ninN ?_))
local macro_rules | `(tactic| sizeOf_list_dec) => `(tactic| (with_reducible refine w_lstL ?_))
local macro_rules | `(tactic| sizeOf_list_dec) => `(tactic| (with_reducible refine w_lstT ?_))
local macro_rules | `(tactic| sizeOf_list_dec) => `(tactic| (with_reducible refine w_find ?_))
local macro_rules | `(tactic| sizeOf_list_dec) => `(tactic| (with_reducible refine w_abs ?_))
local macro_rules | `(tactic| sizeOf_list_dec) => `(tactic| (with_reducible refine w_thru ?_))
local macro_rules | `(tactic| sizeOf_list_dec) => `(tactic| (with_reducible refine w_new ?_))
local macro_rules | `(tactic| sizeOf_list_dec) => `(tactic| (with_reducible refine w_dr1T ?_))
local macro_rules | `(tactic| sizeOf_list_dec) => `(tactic| (with_reducible refine w_dr1L ?_))
local macro_rules | `(tactic| sizeOf_list_dec) => `(tactic| (with_reducible refine w_eqFc ?_))
local macro_rules | `(tactic| sizeOf_list_dec) => `(tactic| (with_reducible refine w_eqFb ?_))
local macro_rules | `(tactic| sizeOf_list_dec) => `(tactic| (with_reducible refine w_eqFq ?_))
local macro_rules | `(tactic| sizeOf_list_dec) => `(tactic| (with_reducible refine w_eqGp ?_))
local macro_rules | `(tactic| sizeOf_list_dec) => `(tactic| (with_reducible refine w_eqGt ?_))
local macro_rules | `(tactic| sizeOf_list_dec) => `(tactic| (with_reducible refine w_neI ?_))
local macro_rules | `(tactic| sizeOf_list_dec) => `(tactic| (with_reducible refine w_eqI ?_))
local macro_rules | `(tactic| sizeOf_list_dec) => `(tactic| (with_reducible refine w_neN ?_))
local macro_rules | `(tactic| sizeOf_list_dec) => `(tactic| (with_reducible refine w_eqN ?_))
local macro_rules | `(tactic| sizeOf_list_dec) => `(tactic| (with_reducible refine w_lenML ?_))
local macro_rules | `(tactic| sizeOf_list_dec) => `(tactic| (with_reducible refine w_lenM ?_))
local macro_rules | `(tactic| sizeOf_list_dec) => `(tactic| (with_reducible refine w_t3 ?_))
local macro_rules | `(tactic| sizeOf_list_dec) => `(tactic| (with_reducible refine w_t2 ?_))
local macro_rules | `(tactic| sizeOf_list_dec) => `(tactic| (with_reducible refine w_t1 ?_))
local macro_rules | `(tactic| sizeOf_list_dec) => `(tactic| (with_reducible refine w_t0 ?_))
local macro_rules | `(tactic| sizeOf_list_dec) => `(tactic| (with_reducible refine w_ev1 ?_))
local macro_rules | `(tactic| sizeOf_list_dec) => `(tactic| (with_reducible refine w_ev0 ?_))
local macro_rules | `(tactic| sizeOf_list_dec) => `(tactic| (with_reducible refine w_dt2 ?_))
local macro_rules | `(tactic| sizeOf_list_dec) => `(tactic| (with_reducible refine w_dp2 ?_))
local macro_rules | `(tactic| sizeOf_list_dec) => `(tactic| (with_reducible refine w_dt1 ?_))
local macro_rules | `(tactic| sizeOf_list_dec) => `(tactic| (with_reducible refine w_dp1 ?_))
local macro_rules | `(tactic| sizeOf_list_dec) => `(tactic| (with_reducible refine w_dt0 ?_))
local macro_rules | `(tactic| sizeOf_list_dec) => `(tactic| (with_reducible refine w_dp0 ?_))
local macro_rules | `(tactic| sizeOf_list_dec) => `(tactic| (with_reducible refine w_dd0 ?_))
local macro_rules | `(tactic| sizeOf_list_dec) => `(tactic| (with_reducible refine w_ar2 ?_))
local macro_rules | `(tactic| sizeOf_list_dec) => `(tactic| (with_reducible refine w_ar1 ?_))
local macro_rules | `(tactic| sizeOf_list_dec) => `(tactic| (with_reducible refine w_ar0 ?_))
local macro_rules | `(tactic| sizeOf_list_dec) => `(tactic| (with_reducible refine w_ch3 ?_))
local macro_rules | `(tactic| sizeOf_list_dec) => `(tactic| (with_reducible refine w_ch2 ?_))
local macro_rules | `(tactic| sizeOf_list_dec) => `(tactic| (with_reducible refine w_ch1 ?_))
local macro_rules | `(tactic| sizeOf_list_dec) => `(tactic| (with_reducible refine w_ch0 ?_))
local macro_rules | `(tactic| sizeOf_list_dec) => `(tactic| (with_reducible refine w_pt2 ?_))
local macro_rules | `(tactic| sizeOf_list_dec) => `(tactic| (with_reducible refine w_pt1 ?_))
local macro_rules | `(tactic| sizeOf_list_dec) => `(tactic| (with_reducible refine w_pt0 ?_))
local macro_rules | `(tactic| sizeOf_list_dec) => `(tactic| (with_reducible refine w_pg1 ?_))
local macro_rules | `(tactic| sizeOf_list_dec) => `(tactic| (with_reducible refine w_pg0 ?_))
local macro_rules | `(tactic| sizeOf_list_dec) => `(tactic| (with_reducible refine w_expr ?_))
local macro_rules | `(tactic| sizeOf_list_dec) => `(tactic| (with_reducible refine w_pass ?_))
local macro_rules | `(tactic| sizeOf_list_dec) => `(tactic| (with_reducible refine w_nil ?_))
local macro_rules | `(tactic| sizeOf_list_dec) => `(tactic| (with_reducible refine w_ret ?_))
local macro_rules | `(tactic| sizeOf_list_dec) => `(tactic| (with_reducible refine w_geI ?_))
local macro_rules | `(tactic| sizeOf_list_dec) => `(tactic| (with_reducible refine w_leI ?_))
local macro_rules | `(tactic| sizeOf_list_dec) => `(tactic| (with_reducible refine w_ltI ?_))
local macro_rules | `(tactic| sizeOf_list_dec) => `(tactic| (with_reducible refine w_gtI ?_))
local macro_rules | `(tactic| sizeOf_list_dec) => `(tactic| (with_reducible refine w_tBl ?_))
local macro_rules | `(tactic| sizeOf_list_dec) => `(tactic| (with_reducible refine w_if ?_))
local macro_rules | `(tactic| sizeOf_list_dec) => `(tactic| (with_reducible refine w_addI ?_))
local macro_rules | `(tactic| sizeOf_list_dec) => `(tactic| (with_reducible refine w_c ?_))
local macro_rules | `(tactic| sizeOf_list_dec) => `(tactic| (with_reducible refine w_e1 ?_))
local macro_rules | `(tactic| sizeOf_list_dec) => `(tactic| (with_reducible refine w_e2 ?_))
local macro_rules | `(tactic| sizeOf_list_dec) => `(tactic| (with_reducible refine w_dput ?_))
local macro_rules | `(tactic| sizeOf_list_dec) => `(tactic| (with_reducible refine w_seq ?_))
local macro_rules | `(tactic| sizeOf_list_dec) => `(tactic| (with_reducible refine k_ifnT ?_))
local macro_rules | `(tactic| sizeOf_list_dec) => `(tactic| (with_reducible refine k_ifnF ?_))
local macro_rules | `(tactic| sizeOf_list_dec) => `(tactic| (with_reducible refine k_ifF ?_))
local macro_rules | `(tactic| sizeOf_list_dec) => `(tactic| (with_reducible refine k_ifT ?_))
local macro_rules | `(tactic| sizeOf_list_dec) => `(tactic| (with_reducible refine k_int ?_))
local macro_rules | `(tactic| sizeOf_list_dec) => `(tactic| (with_reducible refine k_str ?_))
local macro_rules | `(tactic| sizeOf_list_dec) => `(tactic| (with_reducible refine k_bl ?_))
local macro_rules | `(tactic| sizeOf_list_dec) => `(tactic| (with_reducible refine k_runN ?_))
local macro_rules | `(tactic| sizeOf_list_dec) => `(tactic| (with_reducible refine k_run ?_))
local macro_rules | `(tactic| sizeOf_list_dec) => `(tactic| (with_reducible refine k_seqR ?_))
local macro_rules | `(tactic| sizeOf_list_dec) => `(tactic| (with_reducible refine k_seq ?_))
local macro_rules | `(tactic| sizeOf_list_dec) => `(tactic| ((with_reducible apply w_lookV); exact rfl))
local macro_rules | `(tactic| sizeOf_list_dec) => `(tactic| ((with_reducible apply w_look); exact rfl))
local macro_rules | `(tactic| sizeOf_list_dec) => `(tactic| ((with_reducible apply w_var); exact rfl))
local macro_rules | `(tactic| symm_saturate) => `(tactic| repeat sizeOf_list_dec)
local macro_rules | `(tactic| decreasing_trivial_pre_omega) => `(tactic| (with_reducible refine k_cl5 ?_))
local macro_rules | `(tactic| decreasing_trivial_pre_omega) => `(tactic| (with_reducible refine k_cl4 ?_))
local macro_rules | `(tactic| decreasing_trivial_pre_omega) => `(tactic| (with_reducible refine k_cl3 ?_))
local macro_rules | `(tactic| decreasing_trivial_pre_omega) => `(tactic| (with_reducible refine k_cl2 ?_))
local macro_rules | `(tactic| decreasing_trivial_pre_omega) => `(tactic| (with_reducible refine k_cl1 ?_))
local macro_rules | `(tactic| decreasing_trivial_pre_omega) => `(tactic| (with_reducible refine k_len5 ?_))
local macro_rules | `(tactic| decreasing_trivial_pre_omega) => `(tactic| (with_reducible refine k_len4 ?_))
local macro_rules | `(tactic| decreasing_trivial_pre_omega) => `(tactic| (with_reducible refine k_len3 ?_))
local macro_rules | `(tactic| decreasing_trivial_pre_omega) => `(tactic| (with_reducible refine k_len2 ?_))
local macro_rules | `(tactic| decreasing_trivial_pre_omega) => `(tactic| (with_reducible refine k_len1 ?_))
local macro_rules | `(tactic| decreasing_trivial_pre_omega) => `(tactic| (with_reducible refine k_len0 ?_))
local macro_rules | `(tactic| decreasing_trivial_pre_omega) => `(tactic| (with_reducible refine w_eqTk ?_))
local macro_rules | `(tactic| decreasing_trivial_pre_omega) => `(tactic| (with_reducible refine w_sl2 ?_))
local macro_rules | `(tactic| decreasing_trivial_pre_omega) => `(tactic| (with_reducible refine k_itL ?_))
local macro_rules | `(tactic| decreasing_trivial_pre_omega) => `(tactic| (with_reducible refine k_itT ?_))
local macro_rules | `(tactic| decreasing_trivial_pre_omega) => `(tactic| (with_reducible refine l_eq_e_take ?_))
local macro_rules | `(tactic| decreasing_trivial_pre_omega) => `(tactic| (with_reducible refine l_eq_take_e ?_))
local macro_rules | `(tactic| decreasing_trivial_pre_omega) => `(tactic| (with_reducible refine l_eq_put_e ?_))
local macro_rules | `(tactic| decreasing_trivial_pre_omega) => `(tactic| (with_reducible refine l_eq_do_e ?_))
local macro_rules | `(tactic| decreasing_trivial_pre_omega) => `(tactic| (with_reducible refine w_int2 (decide_eq_true (.inl (by decide))) ?_))
local macro_rules | `(tactic| decreasing_trivial_pre_omega) => `(tactic| (with_reducible refine w_int2 (decide_eq_true (.inr (by decide))) ?_))
local macro_rules | `(tactic| decreasing_trivial_pre_omega) => `(tactic| (with_reducible refine w_int2 (by decide) ?_))
local macro_rules | `(tactic| decreasing_trivial_pre_omega) => `(tactic| (with_reducible refine w_drR (by assumption) ?_))
local macro_rules | `(tactic| decreasing_trivial_pre_omega) => `(tactic| (with_reducible refine w_drL (by assumption) ?_))
local macro_rules | `(tactic| decreasing_trivial_pre_omega) => `(tactic| (with_reducible refine w_dr1 (by assumption) ?_))
local macro_rules | `(tactic| decreasing_trivial_pre_omega) => `(tactic| (with_reducible refine w_ixML (by assumption) ?_))
local macro_rules | `(tactic| decreasing_trivial_pre_omega) => `(tactic| (with_reducible refine w_ixM (by assumption) ?_))
local macro_rules | `(tactic| decreasing_trivial_pre_omega) => `(tactic| (with_reducible refine w_parO (by simp) (by simp) ?_))
local macro_rules | `(tactic| decreasing_trivial_pre_omega) => `(tactic| (with_reducible refine w_par (by simp) (by simp) ?_))
local macro_rules | `(tactic| decreasing_trivial_pre_omega) => `(tactic| (with_reducible refine w_own (by simp) ?_))
local macro_rules | `(tactic| decreasing_trivial_pre_omega) => `(tactic| (with_reducible refine w_set (by simp) ?_))
local macro_rules | `(tactic| decreasing_trivial_pre_omega) => `(tactic| (with_reducible refine w_own (by decide) ?_))
local macro_rules | `(tactic| decreasing_trivial_pre_omega) => `(tactic| (with_reducible refine w_set (by decide) ?_))
local macro_rules | `(tactic| decreasing_trivial_pre_omega) => `(tactic| ((with_reducible apply w_ext); exact rfl))
local macro_rules | `(tactic| decreasing_trivial_pre_omega) => `(tactic| ((with_reducible apply w_app); exact rfl))
local macro_rules | `(tactic| decreasing_trivial_pre_omega) => `(tactic| (with_reducible refine n_not_list ?_))
local macro_rules | `(tactic| decreasing_trivial_pre_omega) => `(tactic| (with_reducible refine n_is_list ?_))
local macro_rules | `(tactic| decreasing_trivial_pre_omega) => `(tactic| (with_reducible refine n_not_tuple ?_))
local macro_rules | `(tactic| decreasing_trivial_pre_omega) => `(tactic| (with_reducible refine n_is_tuple ?_))
local macro_rules | `(tactic| decreasing_trivial_pre_omega) => `(tactic| (with_reducible refine n_not_str ?_))
local macro_rules | `(tactic| decreasing_trivial_pre_omega) => `(tactic| (with_reducible refine n_is_str ?_))
local macro_rules | `(tactic| decreasing_trivial_pre_omega) => `(tactic| (with_reducible refine n_not_int ?_))
local macro_rules | `(tactic| decreasing_trivial_pre_omega) => `(tactic| (with_reducible refine n_is_int ?_))
local macro_rules | `(tactic| decreasing_trivial_pre_omega) => `(tactic| (with_reducible refine n_not_bool ?_))
local macro_rules | `(tactic| decreasing_trivial_pre_omega) => `(tactic| (with_reducible refine n_is_bool ?_))
local macro_rules | `(tactic| decreasing_trivial_pre_omega) => `(tactic| (with_reducible refine n_not_NoneType ?_))
local macro_rules | `(tactic| decreasing_trivial_pre_omega) => `(tactic| (with_reducible refine n_is_NoneType ?_))
local macro_rules | `(tactic| decreasing_trivial_pre_omega) => `(tactic| (with_reducible refine i_list_list ?_))
local macro_rules | `(tactic| decreasing_trivial_pre_omega) => `(tactic| (with_reducible refine i_list_tuple ?_))
local macro_rules | `(tactic| decreasing_trivial_pre_omega) => `(tactic| (with_reducible refine i_list_str ?_))
local macro_rules | `(tactic| decreasing_trivial_pre_omega) => `(tactic| (with_reducible refine i_list_int ?_))
local macro_rules | `(tactic| decreasing_trivial_pre_omega) => `(tactic| (with_reducible refine i_list_bool ?_))
local macro_rules | `(tactic| decreasing_trivial_pre_omega) => `(tactic| (with_reducible refine i_list_NoneType ?_))
local macro_rules | `(tactic| decreasing_trivial_pre_omega) => `(tactic| (with_reducible refine i_bool_list ?_))
local macro_rules | `(tactic| decreasing_trivial_pre_omega) => `(tactic| (with_reducible refine i_bool_tuple ?_))
local macro_rules | `(tactic| decreasing_trivial_pre_omega) => `(tactic| (with_reducible refine i_bool_str ?_))
local macro_rules | `(tactic| decreasing_trivial_pre_omega) => `(tactic| (with_reducible refine i_bool_int ?_))
local macro_rules | `(tactic| decreasing_trivial_pre_omega) => `(tactic| (with_reducible refine i_bool_bool ?_))
local macro_rules | `(tactic| decreasing_trivial_pre_omega) => `(tactic| (with_reducible refine i_bool_NoneType ?_))
local macro_rules | `(tactic| decreasing_trivial_pre_omega) => `(tactic| (with_reducible refine i_int_list ?_))
local macro_rules | `(tactic| decreasing_trivial_pre_omega) => `(tactic| (with_reducible refine i_int_tuple ?_))
local macro_rules | `(tactic| decreasing_trivial_pre_omega) => `(tactic| (with_reducible refine i_int_str ?_))
local macro_rules | `(tactic| decreasing_trivial_pre_omega) => `(tactic| (with_reducible refine i_int_int ?_))
local macro_rules | `(tactic| decreasing_trivial_pre_omega) => `(tactic| (with_reducible refine i_int_bool ?_))
local macro_rules | `(tactic| decreasing_trivial_pre_omega) => `(tactic| (with_reducible refine i_int_NoneType ?_))
local macro_rules | `(tactic| decreasing_trivial_pre_omega) => `(tactic| (with_reducible refine i_str_list ?_))
local macro_rules | `(tactic| decreasing_trivial_pre_omega) => `(tactic| (with_reducible refine i_str_tuple ?_))
local macro_rules | `(tactic| decreasing_trivial_pre_omega) => `(tactic| (with_reducible refine i_str_str ?_))
local macro_rules | `(tactic| decreasing_trivial_pre_omega) => `(tactic| (with_reducible refine i_str_int ?_))
local macro_rules | `(tactic| decreasing_trivial_pre_omega) => `(tactic| (with_reducible refine i_str_bool ?_))
local macro_rules | `(tactic| decreasing_trivial_pre_omega) => `(tactic| (with_reducible refine i_str_NoneType ?_))
local macro_rules | `(tactic| decreasing_trivial_pre_omega) => `(tactic| (with_reducible refine i_tuple_list ?_))
local macro_rules | `(tactic| decreasing_trivial_pre_omega) => `(tactic| (with_reducible refine i_tuple_tuple ?_))
local macro_rules | `(tactic| decreasing_trivial_pre_omega) => `(tactic| (with_reducible refine i_tuple_str ?_))
local macro_rules | `(tactic| decreasing_trivial_pre_omega) => `(tactic| (with_reducible refine i_tuple_int ?_))
local macro_rules | `(tactic| decreasing_trivial_pre_omega) => `(tactic| (with_reducible refine i_tuple_bool ?_))
local macro_rules | `(tactic| decreasing_trivial_pre_omega) => `(tactic| (with_reducible refine i_tuple_NoneType ?_))
local macro_rules | `(tactic| decreasing_trivial_pre_omega) => `(tactic| (with_reducible refine w_aLn ?_))
local macro_rules | `(tactic| decreasing_trivial_pre_omega) => `(tactic| (with_reducible refine w_dict ?_))
local macro_rules | `(tactic| decreasing_trivial_pre_omega) => `(tactic| (with_reducible refine w_un ?_))
local macro_rules | `(tactic| decreasing_trivial_pre_omega) => `(tactic| (with_reducible refine w_fLst ?_))
local macro_rules | `(tactic| decreasing_trivial_pre_omega) => `(tactic| (with_reducible refine w_lst ?_))
local macro_rules | `(tactic| decreasing_trivial_pre_omega) => `(tactic| (with_reducible refine w_tup ?_))
local macro_rules | `(tactic| decreasing_trivial_pre_omega) => `(tactic| (with_reducible refine w_lc ?_))
local macro_rules | `(tactic| decreasing_trivial_pre_omega) => `(tactic| (with_reducible refine w_for ?_))
local macro_rules | `(tactic| decreasing_trivial_pre_omega) => `(tactic| (with_reducible refine w_iSeq ?_))
local macro_rules | `(tactic| decreasing_trivial_pre_omega) => `(tactic| (with_reducible refine w_frz ?_))
local macro_rules | `(tactic| decreasing_trivial_pre_omega) => `(tactic| (with_reducible refine w_tupT ?_))
local macro_rules | `(tactic| decreasing_trivial_pre_omega) => `(tactic| (with_reducible refine w_tupL ?_))
local macro_rules | `(tactic| decreasing_trivial_pre_omega) => `(tactic| (with_reducible refine w_slF ?_))
local macro_rules | `(tactic| decreasing_trivial_pre_omega) => `(tactic| (with_reducible refine w_slT ?_))
local macro_rules | `(tactic| decreasing_trivial_pre_omega) => `(tactic| (with_reducible refine w_slL ?_))
local macro_rules | `(tactic| decreasing_trivial_pre_omega) => `(tactic| (with_reducible refine w_true ?_))
local macro_rules | `(tactic| decreasing_trivial_pre_omega) => `(tactic| (with_reducible refine w_call ?_))
local macro_rules | `(tactic| decreasing_trivial_pre_omega) => `(tactic| (with_reducible refine w_eL ?_))
local macro_rules | `(tactic| decreasing_trivial_pre_omega) => `(tactic| (with_reducible refine w_aC ?_))
local macro_rules | `(tactic| decreasing_trivial_pre_omega) => `(tactic| (with_reducible refine w_aN ?_))
local macro_rules | `(tactic| decreasing_trivial_pre_omega) => `(tactic| (with_reducible refine w_m1 ?_))
local macro_rules | `(tactic| decreasing_trivial_pre_omega) => `(tactic| (with_reducible refine w_sl ?_))
local macro_rules | `(tactic| decreasing_trivial_pre_omega) => `(tactic| (with_reducible refine w_oSo ?_))
local macro_rules | `(tactic| decreasing_trivial_pre_omega) => `(tactic| (with_reducible refine w_oNo ?_))
local macro_rules | `(tactic| decreasing_trivial_pre_omega) => `(tactic| (with_reducible refine w_neg ?_))
local macro_rules | `(tactic| decreasing_trivial_pre_omega) => `(tactic| (with_reducible refine w_eCh ?_))
local macro_rules | `(tactic| decreasing_trivial_pre_omega) => `(tactic| (with_reducible refine w_vNot ?_))
local macro_rules | `(tactic| decreasing_trivial_pre_omega) => `(tactic| (with_reducible refine w_vOr ?_))
local macro_rules | `(tactic| decreasing_trivial_pre_omega) => `(tactic| (with_reducible refine w_vAnd ?_))
local macro_rules | `(tactic| decreasing_trivial_pre_omega) => `(tactic| (with_reducible refine w_tNt ?_))
local macro_rules | `(tactic| decreasing_trivial_pre_omega) => `(tactic| (with_reducible refine w_tOr ?_))
local macro_rules | `(tactic| decreasing_trivial_pre_omega) => `(tactic| (with_reducible refine w_tAn ?_))
local macro_rules | `(tactic| decreasing_trivial_pre_omega) => `(tactic| (with_reducible refine w_eIf ?_))
local macro_rules | `(tactic| decreasing_trivial_pre_omega) => `(tactic| (with_reducible refine w_intI ?_))
local macro_rules | `(tactic| decreasing_trivial_pre_omega) => `(tactic| (with_reducible refine w_lenT ?_))
local macro_rules | `(tactic| decreasing_trivial_pre_omega) => `(tactic| (with_reducible refine w_lenL ?_))
local macro_rules | `(tactic| decreasing_trivial_pre_omega) => `(tactic| (with_reducible refine w_rng ?_))
local macro_rules | `(tactic| decreasing_trivial_pre_omega) => `(tactic| (with_reducible refine l_ne_take_take ?_))
local macro_rules | `(tactic| decreasing_trivial_pre_omega) => `(tactic| (with_reducible refine l_ne_take_put ?_))
local macro_rules | `(tactic| decreasing_trivial_pre_omega) => `(tactic| (with_reducible refine l_ne_take_do ?_))
local macro_rules | `(tactic| decreasing_trivial_pre_omega) => `(tactic| (with_reducible refine l_ne_put_take ?_))
local macro_rules | `(tactic| decreasing_trivial_pre_omega) => `(tactic| (with_reducible refine l_ne_put_put ?_))
local macro_rules | `(tactic| decreasing_trivial_pre_omega) => `(tactic| (with_reducible refine l_ne_put_do ?_))
local macro_rules | `(tactic| decreasing_trivial_pre_omega) => `(tactic| (with_reducible refine l_ne_do_take ?_))
local macro_rules | `(tactic| decreasing_trivial_pre_omega) => `(tactic| (with_reducible refine l_ne_do_put ?_))
local macro_rules | `(tactic| decreasing_trivial_pre_omega) => `(tactic| (with_reducible refine l_ne_do_do ?_))
local macro_rules | `(tactic| decreasing_trivial_pre_omega) => `(tactic| (with_reducible refine l_eq_take_take ?_))
local macro_rules | `(tactic| decreasing_trivial_pre_omega) => `(tactic| (with_reducible refine l_eq_take_put ?_))
local macro_rules | `(tactic| decreasing_trivial_pre_omega) => `(tactic| (with_reducible refine l_eq_take_do ?_))
local macro_rules | `(tactic| decreasing_trivial_pre_omega) => `(tactic| (with_reducible refine l_eq_put_take ?_))
local macro_rules | `(tactic| decreasing_trivial_pre_omega) => `(tactic| (with_reducible refine l_eq_put_put ?_))
local macro_rules | `(tactic| decreasing_trivial_pre_omega) => `(tactic| (with_reducible refine l_eq_put_do ?_))
local macro_rules | `(tactic| decreasing_trivial_pre_omega) => `(tactic| (with_reducible refine l_eq_do_take ?_))
local macro_rules | `(tactic| decreasing_trivial_pre_omega) => `(tactic| (with_reducible refine l_eq_do_put ?_))
local macro_rules | `(tactic| decreasing_trivial_pre_omega) => `(tactic| (with_reducible refine l_eq_do_do ?_))
local macro_rules | `(tactic| decreasing_trivial_pre_omega) => `(tactic| (with_reducible refine for_nil ?_))
local macro_rules | `(tactic| decreasing_trivial_pre_omega) => `(tactic| (with_reducible refine k_forN ?_))
local macro_rules | `(tactic| decreasing_trivial_pre_omega) => `(tactic| (with_reducible refine k_forR ?_))
local macro_rules | `(tactic| decreasing_trivial_pre_omega) => `(tactic| (with_reducible refine w_aLc ?_))
local macro_rules | `(tactic| decreasing_trivial_pre_omega) => `(tactic| (with_reducible refine w_inN ?_))
local macro_rules | `(tactic| decreasing_trivial_pre_omega) => `(tactic| (with_reducible refine w_ninN ?_))
local macro_rules | `(tactic| decreasing_trivial_pre_omega) => `(tactic| (with_reducible refine w_lstL ?_))
local macro_rules | `(tactic| decreasing_trivial_pre_omega) => `(tactic| (with_reducible refine w_lstT ?_))
local macro_rules | `(tactic| decreasing_trivial_pre_omega) => `(tactic| (with_reducible refine w_find ?_))
local macro_rules | `(tactic| decreasing_trivial_pre_omega) => `(tactic| (with_reducible refine w_abs ?_))
local macro_rules | `(tactic| decreasing_trivial_pre_omega) => `(tactic| (with_reducible refine w_thru ?_))
local macro_rules | `(tactic| decreasing_trivial_pre_omega) => `(tactic| (with_reducible refine w_new ?_))
local macro_rules | `(tactic| decreasing_trivial_pre_omega) => `(tactic| (with_reducible refine w_dr1T ?_))
local macro_rules | `(tactic| decreasing_trivial_pre_omega) => `(tactic| (with_reducible refine w_dr1L ?_))
local macro_rules | `(tactic| decreasing_trivial_pre_omega) => `(tactic| (with_reducible refine w_eqFc ?_))
local macro_rules | `(tactic| decreasing_trivial_pre_omega) => `(tactic| (with_reducible refine w_eqFb ?_))
local macro_rules | `(tactic| decreasing_trivial_pre_omega) => `(tactic| (with_reducible refine w_eqFq ?_))
local macro_rules | `(tactic| decreasing_trivial_pre_omega) => `(tactic| (with_reducible refine w_eqGp ?_))
local macro_rules | `(tactic| decreasing_trivial_pre_omega) => `(tactic| (with_reducible refine w_eqGt ?_))
local macro_rules | `(tactic| decreasing_trivial_pre_omega) => `(tactic| (with_reducible refine w_neI ?_))
local macro_rules | `(tactic| decreasing_trivial_pre_omega) => `(tactic| (with_reducible refine w_eqI ?_))
local macro_rules | `(tactic| decreasing_trivial_pre_omega) => `(tactic| (with_reducible refine w_neN ?_))
local macro_rules | `(tactic| decreasing_trivial_pre_omega) => `(tactic| (with_reducible refine w_eqN ?_))
local macro_rules | `(tactic| decreasing_trivial_pre_omega) => `(tactic| (with_reducible refine w_lenML ?_))
local macro_rules | `(tactic| decreasing_trivial_pre_omega) => `(tactic| (with_reducible refine w_lenM ?_))
local macro_rules | `(tactic| decreasing_trivial_pre_omega) => `(tactic| (with_reducible refine w_t3 ?_))
local macro_rules | `(tactic| decreasing_trivial_pre_omega) => `(tactic| (with_reducible refine w_t2 ?_))
local macro_rules | `(tactic| decreasing_trivial_pre_omega) => `(tactic| (with_reducible refine w_t1 ?_))
local macro_rules | `(tactic| decreasing_trivial_pre_omega) => `(tactic| (with_reducible refine w_t0 ?_))
local macro_rules | `(tactic| decreasing_trivial_pre_omega) => `(tactic| (with_reducible refine w_ev1 ?_))
local macro_rules | `(tactic| decreasing_trivial_pre_omega) => `(tactic| (with_reducible refine w_ev0 ?_))
local macro_rules | `(tactic| decreasing_trivial_pre_omega) => `(tactic| (with_reducible refine w_dt2 ?_))
local macro_rules | `(tactic| decreasing_trivial_pre_omega) => `(tactic| (with_reducible refine w_dp2 ?_))
local macro_rules | `(tactic| decreasing_trivial_pre_omega) => `(tactic| (with_reducible refine w_dt1 ?_))
local macro_rules | `(tactic| decreasing_trivial_pre_omega) => `(tactic| (with_reducible refine w_dp1 ?_))
local macro_rules | `(tactic| decreasing_trivial_pre_omega) => `(tactic| (with_reducible refine w_dt0 ?_))
local macro_rules | `(tactic| decreasing_trivial_pre_omega) => `(tactic| (with_reducible refine w_dp0 ?_))
local macro_rules | `(tactic| decreasing_trivial_pre_omega) => `(tactic| (with_reducible refine w_dd0 ?_))
local macro_rules | `(tactic| decreasing_trivial_pre_omega) => `(tactic| (with_reducible refine w_ar2 ?_))
local macro_rules | `(tactic| decreasing_trivial_pre_omega) => `(tactic| (with_reducible refine w_ar1 ?_))
local macro_rules | `(tactic| decreasing_trivial_pre_omega) => `(tactic| (with_reducible refine w_ar0 ?_))
local macro_rules | `(tactic| decreasing_trivial_pre_omega) => `(tactic| (with_reducible refine w_ch3 ?_))
local macro_rules | `(tactic| decreasing_trivial_pre_omega) => `(tactic| (with_reducible refine w_ch2 ?_))
local macro_rules | `(tactic| decreasing_trivial_pre_omega) => `(tactic| (with_reducible refine w_ch1 ?_))
local macro_rules | `(tactic| decreasing_trivial_pre_omega) => `(tactic| (with_reducible refine w_ch0 ?_))
local macro_rules | `(tactic| decreasing_trivial_pre_omega) => `(tactic| (with_reducible refine w_pt2 ?_))
local macro_rules | `(tactic| decreasing_trivial_pre_omega) => `(tactic| (with_reducible refine w_pt1 ?_))
local macro_rules | `(tactic| decreasing_trivial_pre_omega) => `(tactic| (with_reducible refine w_pt0 ?_))
local macro_rules | `(tactic| decreasing_trivial_pre_omega) => `(tactic| (with_reducible refine w_pg1 ?_))
local macro_rules | `(tactic| decreasing_trivial_pre_omega) => `(tactic| (with_reducible refine w_pg0 ?_))
local macro_rules | `(tactic| decreasing_trivial_pre_omega) => `(tactic| (with_reducible refine w_expr ?_))
local macro_rules | `(tactic| decreasing_trivial_pre_omega) => `(tactic| (with_reducible refine w_pass ?_))
local macro_rules | `(tactic| decreasing_trivial_pre_omega) => `(tactic| (with_reducible refine w_nil ?_))
local macro_rules | `(tactic| decreasing_trivial_pre_omega) => `(tactic| (with_reducible refine w_ret ?_))
local macro_rules | `(tactic| decreasing_trivial_pre_omega) => `(tactic| (with_reducible refine w_geI ?_))
local macro_rules | `(tactic| decreasing_trivial_pre_omega) => `(tactic| (with_reducible refine w_leI ?_))
local macro_rules | `(tactic| decreasing_trivial_pre_omega) => `(tactic| (with_reducible refine w_ltI ?_))
local macro_rules | `(tactic| decreasing_trivial_pre_omega) => `(tactic| (with_reducible refine w_gtI ?_))
local macro_rules | `(tactic| decreasing_trivial_pre_omega) => `(tactic| (with_reducible refine w_tBl ?_))
local macro_rules | `(tactic| decreasing_trivial_pre_omega) => `(tactic| (with_reducible refine w_if ?_))
local macro_rules | `(tactic| decreasing_trivial_pre_omega) => `(tactic| (with_reducible refine w_addI ?_))
local macro_rules | `(tactic| decreasing_trivial_pre_omega) => `(tactic| (with_reducible refine w_c ?_))
local macro_rules | `(tactic| decreasing_trivial_pre_omega) => `(tactic| (with_reducible refine w_e1 ?_))
local macro_rules | `(tactic| decreasing_trivial_pre_omega) => `(tactic| (with_reducible refine w_e2 ?_))
local macro_rules | `(tactic| decreasing_trivial_pre_omega) => `(tactic| (with_reducible refine w_dput ?_))
local macro_rules | `(tactic| decreasing_trivial_pre_omega) => `(tactic| (with_reducible refine w_seq ?_))
local macro_rules | `(tactic| decreasing_trivial_pre_omega) => `(tactic| (with_reducible refine k_ifnT ?_))
local macro_rules | `(tactic| decreasing_trivial_pre_omega) => `(tactic| (with_reducible refine k_ifnF ?_))
local macro_rules | `(tactic| decreasing_trivial_pre_omega) => `(tactic| (with_reducible refine k_ifF ?_))
local macro_rules | `(tactic| decreasing_trivial_pre_omega) => `(tactic| (with_reducible refine k_ifT ?_))
local macro_rules | `(tactic| decreasing_trivial_pre_omega) => `(tactic| (with_reducible refine k_int ?_))
local macro_rules | `(tactic| decreasing_trivial_pre_omega) => `(tactic| (with_reducible refine k_str ?_))
local macro_rules | `(tactic| decreasing_trivial_pre_omega) => `(tactic| (with_reducible refine k_bl ?_))
local macro_rules | `(tactic| decreasing_trivial_pre_omega) => `(tactic| (with_reducible refine k_runN ?_))
local macro_rules | `(tactic| decreasing_trivial_pre_omega) => `(tactic| (with_reducible refine k_run ?_))
local macro_rules | `(tactic| decreasing_trivial_pre_omega) => `(tactic| (with_reducible refine k_seqR ?_))
local macro_rules | `(tactic| decreasing_trivial_pre_omega) => `(tactic| (with_reducible refine k_seq ?_))
local macro_rules | `(tactic| decreasing_trivial_pre_omega) => `(tactic| ((with_reducible apply w_lookV); exact rfl))
local macro_rules | `(tactic| decreasing_trivial_pre_omega) => `(tactic| ((with_reducible apply w_look); exact rfl))
local macro_rules | `(tactic| decreasing_trivial_pre_omega) => `(tactic| ((with_reducible apply w_var); exact rfl))
local macro_rules | `(tactic| false_or_by_contra) => `(tactic| repeat decreasing_trivial_pre_omega)
local macro_rules | `(tactic| get_elem_tactic_trivial) => `(tactic| (with_reducible refine w_int2 (decide_eq_true (.inl (by decide))) ?_))
local macro_rules | `(tactic| get_elem_tactic_trivial) => `(tactic| (with_reducible refine w_int2 (decide_eq_true (.inr (by decide))) ?_))
local macro_rules | `(tactic| get_elem_tactic_trivial) => `(tactic| (with_reducible refine w_int2 (by decide) ?_))
local macro_rules | `(tactic| get_elem_tactic_trivial) => `(tactic| (with_reducible refine w_drR (by assumption) ?_))
local macro_rules | `(tactic| get_elem_tactic_trivial) => `(tactic| (with_reducible refine w_drL (by assumption) ?_))
local macro_rules | `(tactic| get_elem_tactic_trivial) => `(tactic| (with_reducible refine w_dr1 (by assumption) ?_))
local macro_rules | `(tactic| get_elem_tactic_trivial) => `(tactic| (with_reducible refine w_ixML (by assumption) ?_))
local macro_rules | `(tactic| get_elem_tactic_trivial) => `(tactic| (with_reducible refine w_ixM (by assumption) ?_))
local macro_rules | `(tactic| get_elem_tactic_trivial) => `(tactic| (with_reducible refine w_parO (by simp) (by simp) ?_))
local macro_rules | `(tactic| get_elem_tactic_trivial) => `(tactic| (with_reducible refine w_par (by simp) (by simp) ?_))
local macro_rules | `(tactic| get_elem_tactic_trivial) => `(tactic| (with_reducible refine w_own (by simp) ?_))
local macro_rules | `(tactic| get_elem_tactic_trivial) => `(tactic| (with_reducible refine w_set (by simp) ?_))
local macro_rules | `(tactic| get_elem_tactic_trivial) => `(tactic| (with_reducible refine w_own (by decide) ?_))
local macro_rules | `(tactic| get_elem_tactic_trivial) => `(tactic| (with_reducible refine w_set (by decide) ?_))
local macro_rules | `(tactic| get_elem_tactic_trivial) => `(tactic| ((with_reducible apply w_ext); exact rfl))
local macro_rules | `(tactic| get_elem_tactic_trivial) => `(tactic| ((with_reducible apply w_app); exact rfl))
local macro_rules | `(tactic| get_elem_tactic_trivial) => `(tactic| (with_reducible refine n_not_list ?_))
local macro_rules | `(tactic| get_elem_tactic_trivial) => `(tactic| (with_reducible refine n_is_list ?_))
local macro_rules | `(tactic| get_elem_tactic_trivial) => `(tactic| (with_reducible refine n_not_tuple ?_))
local macro_rules | `(tactic| get_elem_tactic_trivial) => `(tactic| (with_reducible refine n_is_tuple ?_))
local macro_rules | `(tactic| get_elem_tactic_trivial) => `(tactic| (with_reducible refine n_not_str ?_))
local macro_rules | `(tactic| get_elem_tactic_trivial) => `(tactic| (with_reducible refine n_is_str ?_))
local macro_rules | `(tactic| get_elem_tactic_trivial) => `(tactic| (with_reducible refine n_not_int ?_))
local macro_rules | `(tactic| get_elem_tactic_trivial) => `(tactic| (with_reducible refine n_is_int ?_))
local macro_rules | `(tactic| get_elem_tactic_trivial) => `(tactic| (with_reducible refine n_not_bool ?_))
local macro_rules | `(tactic| get_elem_tactic_trivial) => `(tactic| (with_reducible refine n_is_bool ?_))
local macro_rules | `(tactic| get_elem_tactic_trivial) => `(tactic| (with_reducible refine n_not_NoneType ?_))
local macro_rules | `(tactic| get_elem_tactic_trivial) => `(tactic| (with_reducible refine n_is_NoneType ?_))
local macro_rules | `(tactic| get_elem_tactic_trivial) => `(tactic| (with_reducible refine i_list_list ?_))
local macro_rules | `(tactic| get_elem_tactic_trivial) => `(tactic| (with_reducible refine i_list_tuple ?_))
local macro_rules | `(tactic| get_elem_tactic_trivial) => `(tactic| (with_reducible refine i_list_str ?_))
local macro_rules | `(tactic| get_elem_tactic_trivial) => `(tactic| (with_reducible refine i_list_int ?_))
local macro_rules | `(tactic| get_elem_tactic_trivial) => `(tactic| (with_reducible refine i_list_bool ?_))
local macro_rules | `(tactic| get_elem_tactic_trivial) => `(tactic| (with_reducible refine i_list_NoneType ?_))
local macro_rules | `(tactic| get_elem_tactic_trivial) => `(tactic| (with_reducible refine i_bool_list ?_))
local macro_rules | `(tactic| get_elem_tactic_trivial) => `(tactic| (with_reducible refine i_bool_tuple ?_))
local macro_rules | `(tactic| get_elem_tactic_trivial) => `(tactic| (with_reducible refine i_bool_str ?_))
local macro_rules | `(tactic| get_elem_tactic_trivial) => `(tactic| (with_reducible refine i_bool_int ?_))
local macro_rules | `(tactic| get_elem_tactic_trivial) => `(tactic| (with_reducible refine i_bool_bool ?_))
local macro_rules | `(tactic| get_elem_tactic_trivial) => `(tactic| (with_reducible refine i_bool_NoneType ?_))
local macro_rules | `(tactic| get_elem_tactic_trivial) => `(tactic| (with_reducible refine i_int_list ?_))
local macro_rules | `(tactic| get_elem_tactic_trivial) => `(tactic| (with_reducible refine i_int_tuple ?_))
local macro_rules | `(tactic| get_elem_tactic_trivial) => `(tactic| (with_reducible refine i_int_str ?_))
local macro_rules | `(tactic| get_elem_tactic_trivial) => `(tactic| (with_reducible refine i_int_int ?_))
local macro_rules | `(tactic| get_elem_tactic_trivial) => `(tactic| (with_reducible refine i_int_bool ?_))
local macro_rules | `(tactic| get_elem_tactic_trivial) => `(tactic| (with_reducible refine i_int_NoneType ?_))
local macro_rules | `(tactic| get_elem_tactic_trivial) => `(tactic| (with_reducible refine i_str_list ?_))
local macro_rules | `(tactic| get_elem_tactic_trivial) => `(tactic| (with_reducible refine i_str_tuple ?_))
local macro_rules | `(tactic| get_elem_tactic_trivial) => `(tactic| (with_reducible refine i_str_str ?_))
local macro_rules | `(tactic| get_elem_tactic_trivial) => `(tactic| (with_reducible refine i_str_int ?_))
local macro_rules | `(tactic| get_elem_tactic_trivial) => `(tactic| (with_reducible refine i_str_bool ?_))
local macro_rules | `(tactic| get_elem_tactic_trivial) => `(tactic| (with_reducible refine i_str_NoneType ?_))
local macro_rules | `(tactic| get_elem_tactic_trivial) => `(tactic| (with_reducible refine i_tuple_list ?_))
local macro_rules | `(tactic| get_elem_tactic_trivial) => `(tactic| (with_reducible refine i_tuple_tuple ?_))
local macro_rules | `(tactic| get_elem_tactic_trivial) => `(tactic| (with_reducible refine i_tuple_str ?_))
local macro_rules | `(tactic| get_elem_tactic_trivial) => `(tactic| (with_reducible refine i_tuple_int ?_))
local macro_rules | `(tactic| get_elem_tactic_trivial) => `(tactic| (with_reducible refine i_tuple_bool ?_))
local macro_rules | `(tactic| get_elem_tactic_trivial) => `(tactic| (with_reducible refine i_tuple_NoneType ?_))
local macro_rules | `(tactic| get_elem_tactic_trivial) => `(tactic| (with_reducible refine w_aLn ?_))
local macro_rules | `(tactic| get_elem_tactic_trivial) => `(tactic| (with_reducible refine w_dict ?_))
local macro_rules | `(tactic| get_elem_tactic_trivial) => `(tactic| (with_reducible refine w_un ?_))
local macro_rules | `(tactic| get_elem_tactic_trivial) => `(tactic| (with_reducible refine w_fLst ?_))
local macro_rules | `(tactic| get_elem_tactic_trivial) => `(tactic| (with_reducible refine w_lst ?_))
local macro_rules | `(tactic| get_elem_tactic_trivial) => `(tactic| (with_reducible refine w_tup ?_))
local macro_rules | `(tactic| get_elem_tactic_trivial) => `(tactic| (with_reducible refine w_lc ?_))
local macro_rules | `(tactic| get_elem_tactic_trivial) => `(tactic| (with_reducible refine w_for ?_))
local macro_rules | `(tactic| get_elem_tactic_trivial) => `(tactic| (with_reducible refine w_iSeq ?_))
local macro_rules | `(tactic| get_elem_tactic_trivial) => `(tactic| (with_reducible refine w_frz ?_))
local macro_rules | `(tactic| get_elem_tactic_trivial) => `(tactic| (with_reducible refine w_tupT ?_))
local macro_rules | `(tactic| get_elem_tactic_trivial) => `(tactic| (with_reducible refine w_tupL ?_))
local macro_rules | `(tactic| get_elem_tactic_trivial) => `(tactic| (with_reducible refine w_slF ?_))
local macro_rules | `(tactic| get_elem_tactic_trivial) => `(tactic| (with_reducible refine w_slT ?_))
local macro_rules | `(tactic| get_elem_tactic_trivial) => `(tactic| (with_reducible refine w_slL ?_))
local macro_rules | `(tactic| get_elem_tactic_trivial) => `(tactic| (with_reducible refine w_true ?_))
local macro_rules | `(tactic| get_elem_tactic_trivial) => `(tactic| (with_reducible refine w_call ?_))
local macro_rules | `(tactic| get_elem_tactic_trivial) => `(tactic| (with_reducible refine w_eL ?_))
local macro_rules | `(tactic| get_elem_tactic_trivial) => `(tactic| (with_reducible refine w_aC ?_))
local macro_rules | `(tactic| get_elem_tactic_trivial) => `(tactic| (with_reducible refine w_aN ?_))
local macro_rules | `(tactic| get_elem_tactic_trivial) => `(tactic| (with_reducible refine w_m1 ?_))
local macro_rules | `(tactic| get_elem_tactic_trivial) => `(tactic| (with_reducible refine w_sl ?_))
local macro_rules | `(tactic| get_elem_tactic_trivial) => `(tactic| (with_reducible refine w_oSo ?_))
local macro_rules | `(tactic| get_elem_tactic_trivial) => `(tactic| (with_reducible refine w_oNo ?_))
local macro_rules | `(tactic| get_elem_tactic_trivial) => `(tactic| (with_reducible refine w_neg ?_))
local macro_rules | `(tactic| get_elem_tactic_trivial) => `(tactic| (with_reducible refine w_eCh ?_))
local macro_rules | `(tactic| get_elem_tactic_trivial) => `(tactic| (with_reducible refine w_vNot ?_))
local macro_rules | `(tactic| get_elem_tactic_trivial) => `(tactic| (with_reducible refine w_vOr ?_))
local macro_rules | `(tactic| get_elem_tactic_trivial) => `(tactic| (with_reducible refine w_vAnd ?_))
local macro_rules | `(tactic| get_elem_tactic_trivial) => `(tactic| (with_reducible refine w_tNt ?_))
local macro_rules | `(tactic| get_elem_tactic_trivial) => `(tactic| (with_reducible refine w_tOr ?_))
local macro_rules | `(tactic| get_elem_tactic_trivial) => `(tactic| (with_reducible refine w_tAn ?_))
local macro_rules | `(tactic| get_elem_tactic_trivial) => `(tactic| (with_reducible refine w_eIf ?_))
local macro_rules | `(tactic| get_elem_tactic_trivial) => `(tactic| (with_reducible refine w_intI ?_))
local macro_rules | `(tactic| get_elem_tactic_trivial) => `(tactic| (with_reducible refine w_lenT ?_))
local macro_rules | `(tactic| get_elem_tactic_trivial) => `(tactic| (with_reducible refine w_lenL ?_))
local macro_rules | `(tactic| get_elem_tactic_trivial) => `(tactic| (with_reducible refine w_rng ?_))
local macro_rules | `(tactic| get_elem_tactic_trivial) => `(tactic| (with_reducible refine l_ne_take_take ?_))
local macro_rules | `(tactic| get_elem_tactic_trivial) => `(tactic| (with_reducible refine l_ne_take_put ?_))
local macro_rules | `(tactic| get_elem_tactic_trivial) => `(tactic| (with_reducible refine l_ne_take_do ?_))
local macro_rules | `(tactic| get_elem_tactic_trivial) => `(tactic| (with_reducible refine l_ne_put_take ?_))
local macro_rules | `(tactic| get_elem_tactic_trivial) => `(tactic| (with_reducible refine l_ne_put_put ?_))
local macro_rules | `(tactic| get_elem_tactic_trivial) => `(tactic| (with_reducible refine l_ne_put_do ?_))
local macro_rules | `(tactic| get_elem_tactic_trivial) => `(tactic| (with_reducible refine l_ne_do_take ?_))
local macro_rules | `(tactic| get_elem_tactic_trivial) => `(tactic| (with_reducible refine l_ne_do_put ?_))
local macro_rules | `(tactic| get_elem_tactic_trivial) => `(tactic| (with_reducible refine l_ne_do_do ?_))
local macro_rules | `(tactic| get_elem_tactic_trivial) => `(tactic| (with_reducible refine l_eq_take_take ?_))
local macro_rules | `(tactic| get_elem_tactic_trivial) => `(tactic| (with_reducible refine l_eq_take_put ?_))
local macro_rules | `(tactic| get_elem_tactic_trivial) => `(tactic| (with_reducible refine l_eq_take_do ?_))
local macro_rules | `(tactic| get_elem_tactic_trivial) => `(tactic| (with_reducible refine l_eq_put_take ?_))
local macro_rules | `(tactic| get_elem_tactic_trivial) => `(tactic| (with_reducible refine l_eq_put_put ?_))
local macro_rules | `(tactic| get_elem_tactic_trivial) => `(tactic| (with_reducible refine l_eq_put_do ?_))
local macro_rules | `(tactic| get_elem_tactic_trivial) => `(tactic| (with_reducible refine l_eq_do_take ?_))
local macro_rules | `(tactic| get_elem_tactic_trivial) => `(tactic| (with_reducible refine l_eq_do_put ?_))
local macro_rules | `(tactic| get_elem_tactic_trivial) => `(tactic| (with_reducible refine l_eq_do_do ?_))
local macro_rules | `(tactic| get_elem_tactic_trivial) => `(tactic| (with_reducible refine for_nil ?_))
local macro_rules | `(tactic| get_elem_tactic_trivial) => `(tactic| (with_reducible refine k_forN ?_))
local macro_rules | `(tactic| get_elem_tactic_trivial) => `(tactic| (with_reducible refine k_forR ?_))
local macro_rules | `(tactic| get_elem_tactic_trivial) => `(tactic| (with_reducible refine w_aLc ?_))
local macro_rules | `(tactic| get_elem_tactic_trivial) => `(tactic| (with_reducible refine w_inN ?_))
local macro_rules | `(tactic| get_elem_tactic_trivial) => `(tactic| (with_reducible refine w_ninN ?_))
local macro_rules | `(tactic| get_elem_tactic_trivial) => `(tactic| (with_reducible refine w_lstL ?_))
local macro_rules | `(tactic| get_elem_tactic_trivial) => `(tactic| (with_reducible refine w_lstT ?_))
local macro_rules | `(tactic| get_elem_tactic_trivial) => `(tactic| (with_reducible refine w_find ?_))
local macro_rules | `(tactic| get_elem_tactic_trivial) => `(tactic| (with_reducible refine w_abs ?_))
local macro_rules | `(tactic| get_elem_tactic_trivial) => `(tactic| (with_reducible refine w_thru ?_))
local macro_rules | `(tactic| get_elem_tactic_trivial) => `(tactic| (with_reducible refine w_new ?_))
local macro_rules | `(tactic| get_elem_tactic_trivial) => `(tactic| (with_reducible refine w_dr1T ?_))
local macro_rules | `(tactic| get_elem_tactic_trivial) => `(tactic| (with_reducible refine w_dr1L ?_))
local macro_rules | `(tactic| get_elem_tactic_trivial) => `(tactic| (with_reducible refine w_eqFc ?_))
local macro_rules | `(tactic| get_elem_tactic_trivial) => `(tactic| (with_reducible refine w_eqFb ?_))
local macro_rules | `(tactic| get_elem_tactic_trivial) => `(tactic| (with_reducible refine w_eqFq ?_))
local macro_rules | `(tactic| get_elem_tactic_trivial) => `(tactic| (with_reducible refine w_eqGp ?_))
local macro_rules | `(tactic| get_elem_tactic_trivial) => `(tactic| (with_reducible refine w_eqGt ?_))
local macro_rules | `(tactic| get_elem_tactic_trivial) => `(tactic| (with_reducible refine w_neI ?_))
local macro_rules | `(tactic| get_elem_tactic_trivial) => `(tactic| (with_reducible refine w_eqI ?_))
local macro_rules | `(tactic| get_elem_tactic_trivial) => `(tactic| (with_reducible refine w_neN ?_))
local macro_rules | `(tactic| get_elem_tactic_trivial) => `(tactic| (with_reducible refine w_eqN ?_))
local macro_rules | `(tactic| get_elem_tactic_trivial) => `(tactic| (with_reducible refine w_lenML ?_))
local macro_rules | `(tactic| get_elem_tactic_trivial) => `(tactic| (with_reducible refine w_lenM ?_))
local macro_rules | `(tactic| get_elem_tactic_trivial) => `(tactic| (with_reducible refine w_t3 ?_))
local macro_rules | `(tactic| get_elem_tactic_trivial) => `(tactic| (with_reducible refine w_t2 ?_))
local macro_rules | `(tactic| get_elem_tactic_trivial) => `(tactic| (with_reducible refine w_t1 ?_))
local macro_rules | `(tactic| get_elem_tactic_trivial) => `(tactic| (with_reducible refine w_t0 ?_))
local macro_rules | `(tactic| get_elem_tactic_trivial) => `(tactic| (with_reducible refine w_ev1 ?_))
local macro_rules | `(tactic| get_elem_tactic_trivial) => `(tactic| (with_reducible refine w_ev0 ?_))
local macro_rules | `(tactic| get_elem_tactic_trivial) => `(tactic| (with_reducible refine w_dt2 ?_))
local macro_rules | `(tactic| get_elem_tactic_trivial) => `(tactic| (with_reducible refine w_dp2 ?_))
local macro_rules | `(tactic| get_elem_tactic_trivial) => `(tactic| (with_reducible refine w_dt1 ?_))
local macro_rules | `(tactic| get_elem_tactic_trivial) => `(tactic| (with_reducible refine w_dp1 ?_))
local macro_rules | `(tactic| get_elem_tactic_trivial) => `(tactic| (with_reducible refine w_dt0 ?_))
local macro_rules | `(tactic| get_elem_tactic_trivial) => `(tactic| (with_reducible refine w_dp0 ?_))
local macro_rules | `(tactic| get_elem_tactic_trivial) => `(tactic| (with_reducible refine w_dd0 ?_))
local macro_rules | `(tactic| get_elem_tactic_trivial) => `(tactic| (with_reducible refine w_ar2 ?_))
local macro_rules | `(tactic| get_elem_tactic_trivial) => `(tactic| (with_reducible refine w_ar1 ?_))
local macro_rules | `(tactic| get_elem_tactic_trivial) => `(tactic| (with_reducible refine w_ar0 ?_))
local macro_rules | `(tactic| get_elem_tactic_trivial) => `(tactic| (with_reducible refine w_ch3 ?_))
local macro_rules | `(tactic| get_elem_tactic_trivial) => `(tactic| (with_reducible refine w_ch2 ?_))
local macro_rules | `(tactic| get_elem_tactic_trivial) => `(tactic| (with_reducible refine w_ch1 ?_))
local macro_rules | `(tactic| get_elem_tactic_trivial) => `(tactic| (with_reducible refine w_ch0 ?_))
local macro_rules | `(tactic| get_elem_tactic_trivial) => `(tactic| (with_reducible refine w_pt2 ?_))
local macro_rules | `(tactic| get_elem_tactic_trivial) => `(tactic| (with_reducible refine w_pt1 ?_))
local macro_rules | `(tactic| get_elem_tactic_trivial) => `(tactic| (with_reducible refine w_pt0 ?_))
local macro_rules | `(tactic| get_elem_tactic_trivial) => `(tactic| (with_reducible refine w_pg1 ?_))
local macro_rules | `(tactic| get_elem_tactic_trivial) => `(tactic| (with_reducible refine w_pg0 ?_))
local macro_rules | `(tactic| get_elem_tactic_trivial) => `(tactic| (with_reducible refine w_expr ?_))
local macro_rules | `(tactic| get_elem_tactic_trivial) => `(tactic| (with_reducible refine w_pass ?_))
local macro_rules | `(tactic| get_elem_tactic_trivial) => `(tactic| (with_reducible refine w_nil ?_))
local macro_rules | `(tactic| get_elem_tactic_trivial) => `(tactic| (with_reducible refine w_ret ?_))
local macro_rules | `(tactic| get_elem_tactic_trivial) => `(tactic| (with_reducible refine w_geI ?_))
local macro_rules | `(tactic| get_elem_tactic_trivial) => `(tactic| (with_reducible refine w_leI ?_))
local macro_rules | `(tactic| get_elem_tactic_trivial) => `(tactic| (with_reducible refine w_ltI ?_))
local macro_rules | `(tactic| get_elem_tactic_trivial) => `(tactic| (with_reducible refine w_gtI ?_))
local macro_rules | `(tactic| get_elem_tactic_trivial) => `(tactic| (with_reducible refine w_tBl ?_))
local macro_rules | `(tactic| get_elem_tactic_trivial) => `(tactic| (with_reducible refine w_if ?_))
local macro_rules | `(tactic| get_elem_tactic_trivial) => `(tactic| (with_reducible refine w_addI ?_))
local macro_rules | `(tactic| get_elem_tactic_trivial) => `(tactic| (with_reducible refine w_c ?_))
local macro_rules | `(tactic| get_elem_tactic_trivial) => `(tactic| (with_reducible refine w_e1 ?_))
local macro_rules | `(tactic| get_elem_tactic_trivial) => `(tactic| (with_reducible refine w_e2 ?_))
local macro_rules | `(tactic| get_elem_tactic_trivial) => `(tactic| (with_reducible refine w_dput ?_))
local macro_rules | `(tactic| get_elem_tactic_trivial) => `(tactic| (with_reducible refine w_seq ?_))
local macro_rules | `(tactic| get_elem_tactic_trivial) => `(tactic| (with_reducible refine k_ifnT ?_))
local macro_rules | `(tactic| get_elem_tactic_trivial) => `(tactic| (with_reducible refine k_ifnF ?_))
local macro_rules | `(tactic| get_elem_tactic_trivial) => `(tactic| (with_reducible refine k_ifF ?_))
local macro_rules | `(tactic| get_elem_tactic_trivial) => `(tactic| (with_reducible refine k_ifT ?_))
local macro_rules | `(tactic| get_elem_tactic_trivial) => `(tactic| (with_reducible refine k_int ?_))
local macro_rules | `(tactic| get_elem_tactic_trivial) => `(tactic| (with_reducible refine k_str ?_))
local macro_rules | `(tactic| get_elem_tactic_trivial) => `(tactic| (with_reducible refine k_bl ?_))
local macro_rules | `(tactic| get_elem_tactic_trivial) => `(tactic| (with_reducible refine k_runN ?_))
local macro_rules | `(tactic| get_elem_tactic_trivial) => `(tactic| (with_reducible refine k_run ?_))
local macro_rules | `(tactic| get_elem_tactic_trivial) => `(tactic| (with_reducible refine k_seqR ?_))
local macro_rules | `(tactic| get_elem_tactic_trivial) => `(tactic| (with_reducible refine k_seq ?_))
local macro_rules | `(tactic| get_elem_tactic_trivial) => `(tactic| ((with_reducible apply w_lookV); exact rfl))
local macro_rules | `(tactic| get_elem_tactic_trivial) => `(tactic| ((with_reducible apply w_look); exact rfl))
local macro_rules | `(tactic| get_elem_tactic_trivial) => `(tactic| ((with_reducible apply w_var); exact rfl))
local macro_rules | `(tactic| norm_cast0) => `(tactic| repeat get_elem_tactic_trivial)
set_option hygiene true
set_option linter.all false
set_option maxRecDepth 100000
set_option maxHeartbeats 4000000
/-! R1: looks into a program. -/
namespace LK
open PySem PySem.Spec L2 PL RN
section
variable {Q : D → Sto → Prop} {st : Sto}
/-- all that makes a drawn program good -/
structure Ok (p : Prg) : Prop where
  pn : (p.ps.map Prt.n).Nodup
  cn : (p.cs.map Chn.n).Nodup
  ow : ∀ y ∈ p.ps, ∀ a ∈ y.as, match a.g with
    | .doo _ => True
    | .put c _ => ∃ ch ∈ p.cs, ch.n = c ∧ ch.s = y.n
    | .tak c _ => ∃ ch ∈ p.cs, ch.n = c ∧ ch.t = y.n
  st : ∀ ch ∈ p.cs, ch.s ≠ ch.t
  pl : p.ps.length ≤ 3
  cl : p.cs.length ≤ 4
  al : ∀ y ∈ p.ps, y.as.length ≤ 7
  gr : ∀ y ∈ p.ps, ∀ s g, (y.as.filter fun a => decide (a.s = s ∧ a.g = g)).length ≤ 3
theorem find_at {α β : Type} [DecidableEq β] {f : α → β} : ∀ {xs : List α} {i : Nat} {x : α}, (xs.map f).Nodup → xs[i]? = some x → xs.find? (fun y => decide (f y = f x)) = some x
  | [], _, _, _, h => by simp at h
  | y :: ys, 0, x, nd, h => by
    simp at h; subst h
    exact List.find?_cons_of_pos (by simp)
  | y :: ys, i + 1, x, nd, h => by
    rw [List.map_cons, List.nodup_cons] at nd
    have h' : ys[i]? = some x := by simpa using h
    have hm : x ∈ ys := List.mem_of_getElem? h'
    have ne : f y ≠ f x := fun e => nd.1 (e ▸ List.mem_map_of_mem hm)
    rw [List.find?_cons_of_neg (by simpa using ne)]
    exact find_at nd.2 h'
theorem find_mem {α β : Type} [DecidableEq β] {f : α → β} {xs : List α} {x : α} (nd : (xs.map f).Nodup) (h : x ∈ xs) : xs.find? (fun y => decide (f y = f x)) = some x := by
  obtain ⟨i, hi⟩ := List.getElem?_of_mem h
  exact find_at nd hi
theorem spec_find_party {p : Prg} {x : Nm} (k : Q (match p.ps.find? (fun y => decide (y.n = x)) with | some y => y.d | none => .non) st) : wp (m_find_party [p.d, .str x.x]) Q st := by
  refine w_run' [.val p.d, .val (.str x.x), .no] rfl ?_
  unfold s_find_party
  subst_eqs
  refine ⟨_, rfl, ?_⟩
  refine for_findP Prt.d (fun y => decide (y.n = x)) Prt.d (fun ρ => ∃ z, ρ = [.val p.d, .val (.str x.x), z]) ?_ ⟨_, rfl⟩ ?_ ?_
  · rintro y _ ρ ⟨z, rfl⟩
    refine ⟨_, rfl, ?_⟩
    subst_eqs
    refine k_if (fun h => ?_) fun h => ?_
    · subst_eqs
      exact ⟨rfl, .inr ⟨h, rfl⟩⟩
    · subst_eqs
      exact ⟨rfl, .inl ⟨h, rfl, _, rfl⟩⟩
  · intro y hy ρ
    rw [hy] at k
    exact k
  · rintro hn ρ ⟨z, rfl⟩
    rw [hn] at k
    subst_eqs
    exact k
theorem spec_find_channel {p : Prg} {x : Nm} (k : Q (match p.cs.find? (fun y => decide (y.n = x)) with | some y => y.d | none => .non) st) : wp (m_find_channel [p.d, .str x.x]) Q st := by
  refine w_run' [.val p.d, .val (.str x.x), .no] rfl ?_
  unfold s_find_channel
  subst_eqs
  refine ⟨_, rfl, ?_⟩
  refine for_findP Chn.d (fun y => decide (y.n = x)) Chn.d (fun ρ => ∃ z, ρ = [.val p.d, .val (.str x.x), z]) ?_ ⟨_, rfl⟩ ?_ ?_
  · rintro y _ ρ ⟨z, rfl⟩
    refine ⟨_, rfl, ?_⟩
    subst_eqs
    refine k_if (fun h => ?_) fun h => ?_
    · subst_eqs
      exact ⟨rfl, .inr ⟨h, rfl⟩⟩
    · subst_eqs
      exact ⟨rfl, .inl ⟨h, rfl, _, rfl⟩⟩
  · intro y hy ρ
    rw [hy] at k
    exact k
  · rintro hn ρ ⟨z, rfl⟩
    rw [hn] at k
    subst_eqs
    exact k
theorem chan_of {p : Prg} {ch : Chn} (o : Ok p) (h : ch ∈ p.cs) (k : Q ch.d st) : wp (m_find_channel [p.d, .str ch.n.x]) Q st := spec_find_channel (by rw [find_mem o.cn h]; exact k)
theorem party_of {p : Prg} {y : Prt} (o : Ok p) (h : y ∈ p.ps) (k : Q y.d st) : wp (m_find_party [p.d, .str y.n.x]) Q st := spec_find_party (by rw [find_mem o.pn h]; exact k)
theorem spec_is_call {p : Prg} {ch : Chn} (o : Ok p) (h : ch ∈ p.cs) (k : Q (.bl (decide (ch.f = .c))) st) : wp (m_is_call [p.d, .str ch.n.x]) Q st := by
  refine w_run' [.val p.d, .val (.str ch.n.x)] rfl ?_
  unfold s_is_call
  subst_eqs
  refine ⟨rfl, chan_of o h ?_⟩
  subst_eqs
  exact k
theorem spec_is_integer {i : Int} (k : Q (.bl true) st) : wp (m_is_integer [.int i]) Q st := by
  refine w_run' [.val (.int i)] rfl ?_
  unfold s_is_integer
  norm_cast0
  exact k
theorem spec_is_number {i : Nat} (k : Q (.bl true) st) : wp (m_is_number [.int i]) Q st := by
  refine w_run' [.val (.int i)] rfl ?_
  unfold s_is_number
  subst_eqs
  refine ⟨rfl, spec_is_integer ?_⟩
  subst_eqs
  have : decide ((0 : Int) ≤ i) = true := decide_eq_true (Int.natCast_nonneg i)
  rw [this]
  exact k
theorem spec_is_index {α : Type} {f : α → D} {xs : List α} {i : Nat} (h : i < xs.length) (k : Q (.bl true) st) : wp (m_is_index [.int i, .tup (xs.map f)]) Q st := by
  refine w_run' [.val (.int i), .val (.tup (xs.map f))] rfl ?_
  unfold s_is_index
  subst_eqs
  refine ⟨rfl, spec_is_number ?_⟩
  subst_eqs
  have : decide ((i : Int) < xs.length) = true := decide_eq_true (by omega)
  rw [this]
  exact k
theorem spec_is_row2 {x y : D} (k : Q (.bl true) st) : wp (m_is_row [.tup [x, y], .int 2]) Q st := by
  refine w_run' [.val (.tup [x, y]), .val (.int 2)] rfl ?_
  unfold s_is_row
  norm_cast0
  exact k
theorem spec_find_arrow {p : Prg} {y : Prt} {i : Nat} {a : Arw} (o : Ok p) (h : y ∈ p.ps) (ha : y.as[i]? = some a) (k : Q a.d st) : wp (m_find_arrow [p.d, evD y.n i]) Q st := by
  refine w_run' [.val p.d, .val (evD y.n i), .no] rfl ?_
  unfold s_find_arrow
  subst_eqs
  refine ⟨rfl, spec_is_row2 ?_⟩
  subst_eqs
  refine ⟨rfl, party_of o h ?_⟩
  subst_eqs
  refine n_is_tuple ?_
  subst_eqs
  refine ⟨rfl, spec_is_index (List.getElem?_eq_some_iff.mp ha).1 ?_⟩
  subst_eqs
  exact k
end
end LK
set_option linter.all false
set_option maxRecDepth 100000
set_option maxHeartbeats 4000000
/-! R2: rows of letters, what lies; dicts by names. -/
namespace LK
open PySem PySem.Spec L2 PL RN
structure Row where
  c : Nm
  l : Nm
  k : Nat
  t : Option Nat
  deriving DecidableEq, Inhabited
def optN : Option Nat → D
  | none => .non
  | some n => .int n
def Row.d (r : Row) : D := .tup [.str r.c.x, .str r.l.x, .int r.k, optN r.t]
/-- the first row of (c, l) that is open -/
def isOpen (c l : Nm) (r : Row) : Bool := decide (r.c = c ∧ r.l = l ∧ r.t = none)
def setT (k : Nat) (r : Row) : Row := { r with t := some k }
def close (c l : Nm) (k : Nat) : List Row → List Row
  | [] => []
  | r :: rs => if isOpen c l r = true then setT k r :: rs else r :: close c l k rs
/-- the rows behind the doings g, g the k-th event -/
def stepR (rows : List Row) (k : Nat) : Dg → List Row
  | .doo _ => rows
  | .put c l => rows ++ [⟨c, l, k, none⟩]
  | .tak c l => close c l k rows
def rowsFrom : Nat → List Row → List Dg → List Row
  | _, rows, [] => rows
  | k, rows, g :: gs => rowsFrom (k + 1) (stepR rows k g) gs
def rowsOf (gs : List Dg) : List Row := rowsFrom 0 [] gs
theorem rowsFrom_snoc (g : Dg) : ∀ (gs : List Dg) (k : Nat) (rows : List Row), rowsFrom k rows (gs ++ [g]) = stepR (rowsFrom k rows gs) (k + gs.length) g
  | [], k, rows => rfl
  | h :: gs, k, rows => by
    show rowsFrom (k + 1) (stepR rows k h) (gs ++ [g]) = stepR (rowsFrom (k + 1) (stepR rows k h) gs) (k + (gs.length + 1)) g
    rw [rowsFrom_snoc g gs, show k + 1 + gs.length = k + (gs.length + 1) by omega]
theorem rowsOf_snoc (gs : List Dg) (g : Dg) : rowsOf (gs ++ [g]) = stepR (rowsOf gs) gs.length g := by
  unfold rowsOf
  rw [rowsFrom_snoc, Nat.zero_add]
theorem close_len (c l : Nm) (k : Nat) : ∀ rows : List Row, (close c l k rows).length = rows.length
  | [] => rfl
  | r :: rs => by
    unfold close
    split
    · rfl
    · rw [List.length_cons, List.length_cons, close_len c l k rs]
theorem rowsOf_len : ∀ gs : List Dg, (rowsOf gs).length ≤ gs.length := by
  intro gs
  suffices h : ∀ (gs : List Dg) k rows, (rowsFrom k rows gs).length ≤ rows.length + gs.length by
    have := h gs 0 []
    unfold rowsOf
    simpa using this
  intro gs
  induction gs with
  | nil => intro k rows; exact Nat.le_refl _
  | cons g gs ih =>
    intro k rows
    have := ih (k + 1) (stepR rows k g)
    have h2 : (stepR rows k g).length ≤ rows.length + 1 := by
      cases g with
      | doo _ => exact Nat.le_succ _
      | put c l => simp [stepR]
      | tak c l => simp [stepR, close_len]
    show (rowsFrom (k + 1) (stepR rows k g) gs).length ≤ _
    rw [List.length_cons]; omega
/-- numbers of the open rows of channel c, from n on -/
def opens (c : Nm) : Nat → List Row → List Nat
  | _, [] => []
  | n, r :: rs => if r.c = c ∧ r.t = none then n :: opens c (n + 1) rs else opens c (n + 1) rs
def lies (c : Nm) : List Row → List Nm
  | [] => []
  | r :: rs => if r.c = c ∧ r.t = none then r.l :: lies c rs else lies c rs
theorem opens_ge (c : Nm) : ∀ (rows : List Row) (n m : Nat), m ∈ opens c n rows → n ≤ m ∧ m < n + rows.length
  | [], n, m, h => by simp [opens] at h
  | r :: rs, n, m, h => by
    unfold opens at h
    split at h
    · rcases List.mem_cons.mp h with rfl | h
      · simp
      · have := opens_ge c rs (n + 1) m h
        rw [List.length_cons]; omega
    · have := opens_ge c rs (n + 1) m h
      rw [List.length_cons]; omega
theorem opens_app (c : Nm) (r : Row) : ∀ (rows : List Row) (n : Nat), opens c n (rows ++ [r]) = opens c n rows ++ (if r.c = c ∧ r.t = none then [n + rows.length] else [])
  | [], n => by
    show opens c n [r] = _
    unfold opens
    split <;> rfl
  | q :: rs, n => by
    show opens c n (q :: (rs ++ [r])) = _
    unfold opens
    rw [opens_app c r rs (n + 1), show n + 1 + rs.length = n + (q :: rs).length by rw [List.length_cons]; omega]
    split <;> rfl
theorem lies_app (c : Nm) (r : Row) : ∀ rows : List Row, lies c (rows ++ [r]) = lies c rows ++ (if r.c = c ∧ r.t = none then [r.l] else [])
  | [] => by
    show lies c [r] = _
    unfold lies
    split <;> rfl
  | q :: rs => by
    show lies c (q :: (rs ++ [r])) = _
    unfold lies
    rw [lies_app c r rs]
    split <;> rfl
/-- where the first open row stands -/
theorem first_at {c l : Nm} : ∀ {rows : List Row} (n : Nat), l ∈ lies c rows → ∃ i r, rows[i]? = some r ∧ r.c = c ∧ r.l = l ∧ r.t = none ∧ (∀ k, close c l k rows = rows.set i (setT k r)) ∧
    (opens c n rows).find? (fun m => decide ((rows[m - n]?.map Row.l) = some l)) = some (n + i) ∧
    (∀ k, opens c n (close c l k rows) = (opens c n rows).filter fun m => !decide (m = n + i)) ∧ (∀ k, lies c (close c l k rows) = (lies c rows).erase l)
  | [], n, h => by simp [lies] at h
  | r :: rs, n, h => by
    by_cases ho : isOpen c l r = true
    · have ho' := of_decide_eq_true ho
      obtain ⟨h1, h2, h3⟩ := ho'
      have hc : r.c = c ∧ r.t = none := ⟨h1, h3⟩
      refine ⟨0, r, rfl, h1, h2, h3, fun k => by unfold close; rw [if_pos ho]; rfl, ?_, fun k => ?_, fun k => ?_⟩
      · unfold opens
        rw [if_pos hc, List.find?_cons_of_pos (by simp [h2])]; rfl
      · unfold close
        rw [if_pos ho]
        unfold opens
        have hn : ¬((setT k r).c = c ∧ (setT k r).t = none) := fun e => by cases e.2
        rw [if_neg hn, if_pos hc, List.filter_cons_of_neg (by simp), List.filter_eq_self.mpr]
        intro m hm
        have := opens_ge c rs (n + 1) m hm
        simp; omega
      · unfold close
        rw [if_pos ho]
        unfold lies
        have hn : ¬((setT k r).c = c ∧ (setT k r).t = none) := fun e => by cases e.2
        rw [if_neg hn, if_pos hc, h2, List.erase_cons_head]
    · have hm : l ∈ lies c rs := by
        unfold lies at h
        split at h
        · rename_i hc
          rcases List.mem_cons.mp h with e | h
          · exact absurd (decide_eq_true ⟨hc.1, e.symm, hc.2⟩) ho
          · exact h
        · exact h
      obtain ⟨i, q, a1, a2, a3, a4, a5, a6, a7, a8⟩ := first_at (n + 1) hm
      have hcl : ∀ k, close c l k (r :: rs) = r :: close c l k rs := fun k => by
        conv => lhs; unfold close
        rw [if_neg ho]
      refine ⟨i + 1, q, by simpa using a1, a2, a3, a4, fun k => by rw [hcl, a5]; rfl, ?_, fun k => ?_, fun k => ?_⟩
      · have ext : (opens c (n + 1) rs).find? (fun m => decide (((r :: rs)[m - n]?.map Row.l) = some l)) = some (n + (i + 1)) := by
          rw [show n + (i + 1) = n + 1 + i by omega, ← a6]
          have cong : ∀ (L : List Nat), (∀ m ∈ L, n + 1 ≤ m) → L.find? (fun m => decide (((r :: rs)[m - n]?.map Row.l) = some l)) = L.find? (fun m => decide ((rs[m - (n + 1)]?.map Row.l) = some l)) := by
            intro L hL
            induction L with
            | nil => rfl
            | cons m L ih =>
              have h1 := hL m List.mem_cons_self
              have e : (r :: rs)[m - n]? = rs[m - (n + 1)]? := by
                rw [show m - n = (m - (n + 1)) + 1 by omega, List.getElem?_cons_succ]
              rw [List.find?_cons, List.find?_cons, e, ih fun z hz => hL z (List.mem_cons_of_mem _ hz)]
          exact cong _ fun m hm => (opens_ge c rs (n + 1) m hm).1
        unfold opens
        split
        · rename_i hc
          rw [List.find?_cons_of_neg, ext]
          have : r.l ≠ l := fun e => ho (decide_eq_true ⟨hc.1, e, hc.2⟩)
          simpa using this
        · exact ext
      · rw [hcl]
        unfold opens
        rw [a7, show n + (i + 1) = n + 1 + i by omega]
        split
        · rw [List.filter_cons_of_pos (by simp; omega)]
        · rfl
      · rw [hcl]
        unfold lies
        rw [a8]
        split
        · rename_i hc
          have : r.l ≠ l := fun e => ho (decide_eq_true ⟨hc.1, e, hc.2⟩)
          rw [List.erase_cons_tail (by simpa using this)]
        · rfl
theorem opens_other {c c' l : Nm} (ne : c' ≠ c) (k : Nat) : ∀ (rows : List Row) (n : Nat), opens c' n (close c l k rows) = opens c' n rows
  | [], n => rfl
  | r :: rs, n => by
    unfold close
    by_cases ho : isOpen c l r = true
    · rw [if_pos ho]
      have h1 := (of_decide_eq_true ho).1
      unfold opens
      rw [if_neg (fun e => ne (e.1.symm.trans (show (setT k r).c = c from h1))), if_neg (fun e => ne (e.1.symm.trans h1))]
    · rw [if_neg ho]
      unfold opens
      rw [opens_other ne k rs]
theorem lies_other {c c' l : Nm} (ne : c' ≠ c) (k : Nat) : ∀ (rows : List Row), lies c' (close c l k rows) = lies c' rows
  | [] => rfl
  | r :: rs => by
    unfold close
    by_cases ho : isOpen c l r = true
    · rw [if_pos ho]
      have h1 := (of_decide_eq_true ho).1
      unfold lies
      rw [if_neg (fun e => ne (e.1.symm.trans (show (setT k r).c = c from h1))), if_neg (fun e => ne (e.1.symm.trans h1))]
    · rw [if_neg ho]
      unfold lies
      rw [lies_other ne k rs]
theorem opens_lies (c : Nm) : ∀ (rows : List Row) (n : Nat), (opens c n rows).map (fun m => rows[m - n]?.map Row.l) = (lies c rows).map some
  | [], n => rfl
  | r :: rs, n => by
    have ih := opens_lies c rs (n + 1)
    have e : (opens c (n + 1) rs).map (fun m => (r :: rs)[m - n]?.map Row.l) = (lies c rs).map some := by
      rw [← ih]
      refine List.map_congr_left fun m hm => ?_
      have := (opens_ge c rs (n + 1) m hm).1
      rw [show m - n = (m - (n + 1)) + 1 by omega, List.getElem?_cons_succ]
    unfold opens lies
    split
    · rw [List.map_cons, List.map_cons, e, Nat.sub_self]; rfl
    · exact e
/-! ### dicts by names -/
def kvZ (ks : List Nm) (vs : List D) : List (Key × D) := (ks.zip vs).map fun q => (.inr q.1.x, q.2)
theorem kvZ_len {ks : List Nm} {vs : List D} (h : ks.length = vs.length) : (kvZ ks vs).length = vs.length := by
  unfold kvZ; rw [List.length_map, List.length_zip, h, Nat.min_self]
theorem valZ : ∀ {ks : List Nm} {vs : List D} {i : Nat} {k : Nm} {v : D}, ks.Nodup → ks[i]? = some k → vs[i]? = some v → valD (.inr k.x) (kvZ ks vs) = some v
  | [], _, _, _, _, _, h, _ => by simp at h
  | _ :: _, [], _, _, _, _, _, h => by simp at h
  | a :: ks, b :: vs, 0, k, v, nd, h1, h2 => by
    simp at h1 h2; subst h1 h2
    show (if (Sum.inr a.x : Key) = .inr a.x then some b else _) = _
    rw [if_pos rfl]
  | a :: ks, b :: vs, i + 1, k, v, nd, h1, h2 => by
    obtain ⟨n1, n2⟩ := List.nodup_cons.mp nd
    have h1 : ks[i]? = some k := by simpa using h1
    have h2 : vs[i]? = some v := by simpa using h2
    show (if (Sum.inr a.x : Key) = .inr k.x then some b else valD (.inr k.x) (kvZ ks vs)) = _
    rw [if_neg (fun e => n1 (by rw [Nm.ext' (Sum.inr.inj e)]; exact List.mem_of_getElem? h1))]
    exact valZ n2 h1 h2
theorem mapZ {ks : List Nm} {vs : List D} {k : Nm} {v : D} (h : k ∉ ks) : (kvZ ks vs).map (fun q => if q.1 = .inr k.x then (q.1, v) else q) = kvZ ks vs := by
  unfold kvZ
  rw [List.map_map]
  refine List.map_congr_left fun q hq => ?_
  have : q.1 ∈ ks := (List.of_mem_zip hq).1
  exact if_neg fun e => h (by rw [← Nm.ext' (Sum.inr.inj e)]; exact this)
theorem mapZ2 : ∀ {ks : List Nm} {vs : List D} {i : Nat} {k : Nm} {v : D}, ks.Nodup → ks[i]? = some k → (kvZ ks vs).map (fun q => if q.1 = .inr k.x then (q.1, v) else q) = kvZ ks (vs.set i v)
  | [], _, _, _, _, _, h => by simp at h
  | _ :: _, [], _, _, _, _, _ => by simp [kvZ]
  | a :: ks, b :: vs, 0, k, v, nd, h1 => by
    simp at h1; subst h1
    obtain ⟨n1, n2⟩ := List.nodup_cons.mp nd
    show (if (Sum.inr a.x : Key) = .inr a.x then _ else _) :: (kvZ ks vs).map _ = _
    rw [if_pos rfl, mapZ n1]
    rfl
  | a :: ks, b :: vs, i + 1, k, v, nd, h1 => by
    obtain ⟨n1, n2⟩ := List.nodup_cons.mp nd
    have h1 : ks[i]? = some k := by simpa using h1
    show (if (Sum.inr a.x : Key) = .inr k.x then _ else _) :: (kvZ ks vs).map _ = _
    rw [if_neg (fun e => n1 (by rw [Nm.ext' (Sum.inr.inj e)]; exact List.mem_of_getElem? h1)), mapZ2 n2 h1]
    rfl
theorem putZ {ks : List Nm} {vs : List D} {i : Nat} {k : Nm} {v : D} (nd : ks.Nodup) (h : ks[i]? = some k) (hi : i < vs.length) : putD (kvZ ks vs) (.inr k.x) v = kvZ ks (vs.set i v) := by
  unfold putD
  rw [if_pos, mapZ2 nd h]
  refine List.any_eq_true.mpr ⟨(.inr k.x, vs[i]), ?_, by simp⟩
  unfold kvZ
  refine List.mem_map.mpr ⟨(k, vs[i]), ?_, rfl⟩
  refine List.mem_of_getElem? (i := i) ?_
  rw [List.getElem?_zip_eq_some]
  exact ⟨h, List.getElem?_eq_getElem hi⟩
theorem kvZ_map {α : Type} (f : α → Nm) (g : α → D) (xs : List α) : (xs.map fun x => ((.inr (f x).x, g x) : Key × D)) = kvZ (xs.map f) (xs.map g) := by
  unfold kvZ
  rw [List.zip_map', List.map_map]; rfl
end LK
set_option linter.all false
set_option maxRecDepth 100000
set_option maxHeartbeats 4000000
/-! R3: what letter_rows gives of a run. -/
namespace LK
open PySem PySem.Spec L2 PL RN
def nmAt (p : Prg) (i : Nat) : Nm := (p.ps[i]?.map Prt.n).getD default
def evO (p : Prg) (e : Nat × Nat) : D := evD (nmAt p e.1) e.2
def awO (p : Prg) (e : Nat × Nat) : Option Arw := (p.ps[e.1]?).bind fun y => y.as[e.2]?
def dgO (p : Prg) (e : Nat × Nat) : Dg := ((awO p e).map Arw.g).getD default
def lyOf (p : Prg) (rows : List Row) : List (List Nm) := p.cs.map fun ch => lies ch.n rows
/-- g may be done at ly (es: what follows), and then ly' lies -/
def ActOk (p : Prg) (pl : List Int) (ly : List (List Nm)) (es : List (Nat × Nat)) (ly' : List (List Nm)) : Dg → Prop
  | .doo _ => ly' = ly
  | .put c l => ∃ j ch L, p.cs[j]? = some ch ∧ ch.n = c ∧ ly[j]? = some L ∧ (ch.f = .c → ∃ e' es' a', es = e' :: es' ∧ awO p e' = some a' ∧ a'.g = .tak c l ∧ pl[e'.1]? = some a'.s) ∧ ly' = ly.set j (L ++ [l])
  | .tak c l => ∃ j ch L, p.cs[j]? = some ch ∧ ch.n = c ∧ ly[j]? = some L ∧ l ∈ L ∧ (ch.f ≠ .b → L.head? = some l) ∧ ly' = ly.set j (L.erase l)
/-- es is a run from places pl, letters ly on -/
def RunOk (p : Prg) : List Int → List (List Nm) → List (Nat × Nat) → Prop
  | _, _, [] => True
  | pl, ly, e :: es => ∃ a, awO p e = some a ∧ pl[e.1]? = some a.s ∧ ∃ ly', ActOk p pl ly es ly' a.g ∧ RunOk p (pl.set e.1 a.e) ly' es
theorem awO_is {p : Prg} {e : Nat × Nat} {a : Arw} (h : awO p e = some a) : ∃ y, p.ps[e.1]? = some y ∧ y ∈ p.ps ∧ y.as[e.2]? = some a ∧ evO p e = evD y.n e.2 := by
  obtain ⟨y, h1, h2⟩ := Option.bind_eq_some_iff.mp h
  refine ⟨y, h1, List.mem_of_getElem? h1, h2, ?_⟩
  unfold evO nmAt
  rw [h1]; rfl
theorem dgO_is {p : Prg} {e : Nat × Nat} {a : Arw} (h : awO p e = some a) : dgO p e = a.g := by
  unfold dgO; rw [h]; rfl
theorem numb_zip {α : Type} (f : α → D) : ∀ (es : List α) (n : Nat), numb n (es.map f) = (es.zipIdx n).map fun q => D.tup [.int (q.2 : Nat), f q.1]
  | [], _ => rfl
  | e :: es, n => by
    rw [List.map_cons, List.zipIdx_cons, List.map_cons]
    show _ :: numb (n + 1) (es.map f) = _
    rw [numb_zip f es (n + 1)]
section
variable {Q : D → Sto → Prop} {st : Sto}
theorem spec_is_taken {p : Prg} {n : Nat} {c l : Nm} {y : Prt} {k : Nat} {a : Arw} {kvs : List (Key × D)} (o : Ok p) (hy : y ∈ p.ps) (ha : y.as[k]? = some a) (hg : a.g = .tak c l) (hs : st[n]? = some (.dict kvs)) (hv : valD (.inr y.n.x) kvs = some (.int a.s)) (q : Q (.bl true) st) :
    wp (m__is_taken_by [p.d, .ref n, (Dg.put c l).d, .tup [evD y.n k]]) Q st := by
  refine w_run' [.val p.d, .val (.ref n), .val (Dg.put c l).d, .val (.tup [evD y.n k]), .no, .no] rfl ?_
  unfold s__is_taken_by
  subst_eqs
  refine ⟨_, rfl, for_consP rfl ?_⟩
  subst_eqs
  refine ⟨rfl, spec_find_arrow o hy ha ?_⟩
  subst_eqs
  refine n_not_tuple ?_
  subst_eqs
  refine ⟨by show 3 ≤ sizeLine; decide, ?_⟩
  subst_eqs
  rw [hg, show decide (Dg.tak c l = Dg.tak c l) = true from decide_eq_true rfl]
  subst_eqs
  refine w_dg hs hv ?_
  subst_eqs
  rw [show decide (a.s = a.s) = true from decide_eq_true rfl]
  exact q
theorem w_row1 {r : Row} (k : Q (.str r.l.x) st) : wp (ixM r.d (.int 1)) Q st := w_ixT at1 k
theorem spec_to_take {p : Prg} {n : Nat} {rows : List Row} {ns : List Nat} {ch : Chn} {c l : Nm} {m : Nat} (o : Ok p) (hc : ch ∈ p.cs) (hn : ch.n = c) (hs : st[n]? = some (.lst (rows.map Row.d))) (hb : ∀ k ∈ ns, k < rows.length)
    (hf : (if ch.f = .b then ns else ns.take 1).find? (fun m => decide ((rows[m]?.map Row.l) = some l)) = some m) (q : Q (.int m) st) : wp (m_letter_to_take [p.d, .ref n, .tup (ns.map fun (i : Nat) => D.int i), (Dg.tak c l).d]) Q st := by
  subst hn
  refine w_run' [.val p.d, .val (.ref n), .val (.tup (ns.map fun (i : Nat) => D.int i)), .val (Dg.tak ch.n l).d, .no, .no] rfl ?_
  unfold s_letter_to_take
  subst_eqs
  refine ⟨rfl, chan_of o hc ?_⟩
  subst_eqs
  have main : ∀ (ks : List Nat), (∀ k ∈ ks, k < rows.length) → ks.find? (fun m => decide ((rows[m]?.map Row.l) = some l)) = some m → wp (forL (fun d ρ => (opt ((Pt.nm 5).set d ρ)).bind (sIf (tBl (e2 eqM (e2 ixM (e2 (drL ixM) (eVar 1) (eVar 5)) (eC (.int 1))) (e2 ixM (eVar 3) (eC (.int 2))))) (sRet (eVar 5)) (sNil))) (ks.map fun (i : Nat) => D.int i) [.val p.d, .val (.ref n), .val (.tup (ns.map fun (i : Nat) => D.int i)), .val (Dg.tak ch.n l).d, .val (.tup (ks.map fun (i : Nat) => D.int i)), .no]) (SeqK (sRet (eC .non)) (RunK Q)) st := by
    intro ks hk hf
    refine for_findP (fun (i : Nat) => D.int i) (fun m => decide ((rows[m]?.map Row.l) = some l)) (fun (i : Nat) => D.int i) (fun ρ => ∃ z, ρ = [.val p.d, .val (.ref n), .val (.tup (ns.map fun (i : Nat) => D.int i)), .val (Dg.tak ch.n l).d, .val (.tup (ks.map fun (i : Nat) => D.int i)), z]) ?_ ⟨_, rfl⟩ ?_ ?_
    · rintro k hkm ρ ⟨z, rfl⟩
      obtain ⟨r, hr⟩ : ∃ r, rows[k]? = some r := ⟨_, List.getElem?_eq_getElem (hk k hkm)⟩
      refine ⟨_, rfl, ?_⟩
      subst_eqs
      refine w_row1 ?_
      subst_eqs
      have e : (decide ((rows[k]?.map Row.l) = some l)) = decide (r.l = l) := by rw [hr]; simp
      rw [e]
      refine k_if (fun h => ?_) fun h => ?_
      · subst_eqs
        exact ⟨rfl, .inr ⟨h, rfl⟩⟩
      · subst_eqs
        exact ⟨rfl, .inl ⟨h, rfl, _, rfl⟩⟩
    · intro k hk ρ
      rw [hf] at hk
      cases hk
      exact q
    · intro hn
      rw [hf] at hn; cases hn
  refine k_if (fun h => ?_) fun h => ?_
  · rw [if_pos (of_decide_eq_true h)] at hf
    subst_eqs
    exact ⟨_, rfl, main ns hb hf⟩
  · rw [if_neg (of_decide_eq_false h)] at hf
    subst_eqs
    have e : cutD (ns.map fun (i : Nat) => D.int i) none (some 1) = (ns.take 1).map fun (i : Nat) => D.int i := by
      unfold cutD
      show List.take (HT.sIx _ _ (some ((1 : Nat) : Int)) - 0) _ = _
      rw [HT.sIx_nat, HT.sIx_none, List.drop_zero, List.length_map, List.map_take]
      cases ns with
      | nil => rfl
      | cons a ns => simp
    rw [e]
    exact ⟨_, rfl, main _ (fun k hk => hb k (List.mem_of_mem_take hk)) hf⟩
end
end LK
set_option linter.all false
set_option maxRecDepth 100000
set_option maxHeartbeats 4000000
/-! R4: letter_rows of a run. -/
namespace LK
open PySem PySem.Spec L2 PL RN
/-- the store's three objects of letter_rows -/
structure St3 (p : Prg) (st0 : Sto) (pl : List Int) (rows : List Row) (s : Sto) : Prop where
  h0 : s[st0.length]? = some (.dict (kvZ (p.ps.map Prt.n) (pl.map D.int)))
  h1 : s[st0.length + 1]? = some (.dict (kvZ (p.cs.map Chn.n) (p.cs.map fun ch => D.tup ((opens ch.n 0 rows).map fun (i : Nat) => D.int i))))
  h2 : s[st0.length + 2]? = some (.lst (rows.map Row.d))
  hl : pl.length = p.ps.length
  fr : s.take st0.length = st0 ∧ s.length = st0.length + 3
theorem fr_set {st0 s : Sto} {k : Nat} {x : Ob} (h : s.take st0.length = st0 ∧ s.length = st0.length + 3) (hk : st0.length ≤ k) : (s.set k x).take st0.length = st0 ∧ (s.set k x).length = st0.length + 3 := by
  refine ⟨?_, by rw [List.length_set]; exact h.2⟩
  rw [List.take_set_of_le hk]; exact h.1
theorem st_three {st s : Sto} {a b c : Ob} (f : s.take st.length = st ∧ s.length = st.length + 3) (h0 : s[st.length]? = some a) (h1 : s[st.length + 1]? = some b) (h2 : s[st.length + 2]? = some c) : s = st ++ [a, b, c] := by
  have e : s.drop st.length = [a, b, c] := by
    apply List.ext_getElem?
    intro i
    rw [List.getElem?_drop]
    match i with
    | 0 => exact h0
    | 1 => exact h1
    | 2 => exact h2
    | n + 3 => rw [List.getElem?_eq_none (by omega)]; rfl
  conv => lhs; rw [← List.take_append_drop st.length s, f.1, e]
theorem set_self {α : Type} {l : List α} {i : Nat} {x y : α} (h : l[i]? = some x) : (l.set i y)[i]? = some y := List.getElem?_set_self (List.getElem?_eq_some_iff.mp h).1
theorem set_oth {α : Type} {l : List α} {i j : Nat} {x y : α} (n : i ≠ j) (h : l[j]? = some x) : (l.set i y)[j]? = some x := by rw [List.getElem?_set_ne n]; exact h
section
variable {p : Prg} {st0 : Sto} {pl : List Int} {rows : List Row} {s : Sto}
/-- a place is written -/
theorem St3.place (h : St3 p st0 pl rows s) (o : Ok p) {i : Nat} {y : Prt} (hy : p.ps[i]? = some y) (z : Int) : St3 p st0 (pl.set i z) rows (s.set st0.length (.dict (putD (kvZ (p.ps.map Prt.n) (pl.map D.int)) (.inr y.n.x) (.int z)))) := by
  refine ⟨?_, set_oth (by omega) h.h1, set_oth (by omega) h.h2, by rw [List.length_set]; exact h.hl, fr_set h.fr (Nat.le_refl _)⟩
  rw [putZ o.pn (i := i) (by rw [List.getElem?_map, hy]; rfl) (by rw [List.length_map, h.hl]; exact (List.getElem?_eq_some_iff.mp hy).1), set_self h.h0, List.map_set]
theorem nd_ix {α β : Type} {f : α → β} {xs : List α} {i j : Nat} {x y : α} (nd : (xs.map f).Nodup) (hi : xs[i]? = some x) (hj : xs[j]? = some y) (e : f x = f y) : i = j := by
  have h1 : (xs.map f)[i]? = some (f x) := by rw [List.getElem?_map, hi]; rfl
  have h2 : (xs.map f)[j]? = some (f x) := by rw [List.getElem?_map, hj, e]; rfl
  exact (List.getElem?_inj (List.getElem?_eq_some_iff.mp h1).1 nd).mp (h1.trans h2.symm)
/-- what is told of all channels changes at one -/
theorem map_at {α β : Type} {f g : α → β} {k : α → Nm} {xs : List α} {j : Nat} {x : α} (nd : (xs.map k).Nodup) (hj : xs[j]? = some x) (h : ∀ y ∈ xs, k y ≠ k x → g y = f y) : xs.map g = (xs.map f).set j (g x) := by
  apply List.ext_getElem?
  intro m
  by_cases e : j = m
  · subst e
    rw [List.getElem?_map, hj, set_self (x := f x) (by rw [List.getElem?_map, hj]; rfl)]; rfl
  · rw [List.getElem?_set_ne e, List.getElem?_map, List.getElem?_map]
    cases q : xs[m]? with
    | none => rfl
    | some y =>
      show some (g y) = some (f y)
      rw [h y (List.mem_of_getElem? q) fun z => e (nd_ix nd hj q z.symm)]
theorem ly_put (o : Ok p) {j : Nat} {ch : Chn} {l : Nm} {k : Nat} (hj : p.cs[j]? = some ch) : lyOf p (rows ++ [⟨ch.n, l, k, none⟩]) = (lyOf p rows).set j (lies ch.n rows ++ [l]) := by
  unfold lyOf
  rw [map_at (f := fun ch => lies ch.n rows) (k := Chn.n) o.cn hj fun y _ ne => ?_]
  · rw [lies_app, if_pos ⟨rfl, rfl⟩]
  · rw [lies_app, if_neg (fun e => ne e.1.symm), List.append_nil]
theorem nb_put (o : Ok p) {j : Nat} {ch : Chn} {l : Nm} {k : Nat} (hj : p.cs[j]? = some ch) : (p.cs.map fun c => D.tup ((opens c.n 0 (rows ++ [⟨ch.n, l, k, none⟩])).map fun (i : Nat) => D.int i)) = (p.cs.map fun c => D.tup ((opens c.n 0 rows).map fun (i : Nat) => D.int i)).set j (D.tup ((opens ch.n 0 rows).map (fun (i : Nat) => D.int i) ++ [.int (rows.length : Nat)])) := by
  rw [map_at (f := fun c => D.tup ((opens c.n 0 rows).map fun (i : Nat) => D.int i)) (k := Chn.n) o.cn hj fun y _ ne => ?_]
  · rw [opens_app, if_pos ⟨rfl, rfl⟩, List.map_append, Nat.zero_add]; rfl
  · rw [opens_app, if_neg (fun e => ne e.1.symm), List.append_nil]
theorem ly_tak (o : Ok p) {j : Nat} {ch : Chn} {l : Nm} {k : Nat} (hj : p.cs[j]? = some ch) (hl : l ∈ lies ch.n rows) : lyOf p (close ch.n l k rows) = (lyOf p rows).set j ((lies ch.n rows).erase l) := by
  obtain ⟨i, r, _, _, _, _, _, _, _, h8⟩ := first_at 0 hl
  unfold lyOf
  rw [map_at (f := fun ch => lies ch.n rows) (k := Chn.n) o.cn hj fun y _ ne => ?_]
  · rw [h8]
  · exact lies_other ne k rows
theorem nb_tak (o : Ok p) {j i : Nat} {ch : Chn} {l : Nm} {k : Nat} (hj : p.cs[j]? = some ch) (h7 : ∀ k, opens ch.n 0 (close ch.n l k rows) = (opens ch.n 0 rows).filter fun m => !decide (m = 0 + i)) : (p.cs.map fun c => D.tup ((opens c.n 0 (close ch.n l k rows)).map fun (i : Nat) => D.int i)) = (p.cs.map fun c => D.tup ((opens c.n 0 rows).map fun (i : Nat) => D.int i)).set j (D.tup (((opens ch.n 0 rows).filter fun m => !decide (m = i)).map fun (i : Nat) => D.int i)) := by
  rw [map_at (f := fun c => D.tup ((opens c.n 0 rows).map fun (i : Nat) => D.int i)) (k := Chn.n) o.cn hj fun y _ ne => ?_]
  · rw [h7, Nat.zero_add]
  · rw [opens_other ne k rows]
end
section
variable {Q : D → Sto → Prop} {st : Sto}
theorem nx_nodup {l : List Nm} (h : l.Nodup) : (l.map Nm.x).Nodup := by
  rw [List.nodup_iff_pairwise_ne, List.pairwise_map]
  exact (List.nodup_iff_pairwise_ne.mp h).imp fun ne e => ne (Nm.ext' e)
theorem opens_len (c : Nm) : ∀ (rows : List Row) (n : Nat), (opens c n rows).length ≤ rows.length
  | [], n => Nat.le_refl _
  | r :: rs, n => by
    have := opens_len c rs (n + 1)
    unfold opens
    split
    · rw [List.length_cons, List.length_cons]; omega
    · rw [List.length_cons]; omega
theorem ixN_at {n j : Nat} (h : j < n) : ixN n (j : Int) = some j := by
  unfold L2.ixN
  rw [if_pos (by omega), if_pos (by omega)]; simp
theorem get_a {st : Sto} {x y z : Ob} : (st ++ [x] ++ [y] ++ [z])[st.length]? = some x ∧ (st ++ [x] ++ [y] ++ [z])[st.length + 1]? = some y ∧ (st ++ [x] ++ [y] ++ [z])[st.length + 2]? = some z := by
  refine ⟨?_, ?_, ?_⟩ <;> simp [List.getElem?_append]
theorem cut1 {es : List D} {m : Nat} : cutD es (some ((m : Int) + 1)) (some ((m : Int) + 2)) = (es.drop (m + 1)).take 1 := by
  unfold cutD
  rw [show ((m : Int) + 1) = ((m + 1 : Nat) : Int) by omega, show ((m : Int) + 2) = ((m + 2 : Nat) : Int) by omega, HT.sIx_nat, HT.sIx_nat]
  by_cases h : m + 1 < es.length
  · rw [Nat.min_eq_left (by omega), Nat.min_eq_left (by omega), show m + 2 - (m + 1) = 1 by omega]
  · rw [Nat.min_eq_right (by omega)]
    rw [List.drop_of_length_le (by omega), List.drop_of_length_le (by omega)]; simp
theorem spec_letter_rows {p : Prg} {es : List (Nat × Nat)} (o : Ok p) (hr : RunOk p (p.ps.map fun _ => 0) (p.cs.map fun _ => []) es) (hl : es.length ≤ 1000)
    (q : ∀ (x : List Nm × List Int) (y : List Nm × List (List Nat)) (s : Sto), s = st ++ [.dict (kvZ x.1 (x.2.map D.int)), .dict (kvZ y.1 (y.2.map fun (z : List Nat) => D.tup (z.map fun (i : Nat) => D.int i))), .lst ((rowsOf (es.map (dgO p))).map Row.d)] → Q (.ref (st.length + 2)) s) : wp (m_letter_rows [p.d, .tup (es.map (evO p))]) Q st := by
  refine w_run' [.val p.d, .val (.tup (es.map (evO p))), .no, .no, .no, .no, .no, .no, .no, .no, .no, .no, .no, .no, .no] rfl ?_
  unfold s_letter_rows
  subst_eqs
  refine w_dc ?_
  subst_eqs
  refine ⟨_, rfl, ?_⟩
  refine dc_mp Prt.d (fun y => y.n.x) (fun _ => .int 0) p.ps [] (fun y hy => ⟨_, rfl, fun Q hQ => ?_, fun Q hQ => ?_⟩) (by have := nx_nodup o.pn; rw [List.map_map] at this; exact this) (by have := o.pl; simp; omega) ?_
  · subst_eqs
    exact hQ
  · subst_eqs
    exact hQ
  subst_eqs
  refine w_dc ?_
  subst_eqs
  refine ⟨_, rfl, ?_⟩
  refine dc_mp Chn.d (fun y => y.n.x) (fun _ => .tup []) p.cs [] (fun y hy => ⟨_, rfl, fun Q hQ => ?_, fun Q hQ => ?_⟩) (by have := nx_nodup o.cn; rw [List.map_map] at this; exact this) (by have := o.cl; simp; omega) ?_
  · subst_eqs
    exact hQ
  · subst_eqs
    exact ⟨Nat.zero_le _, hQ⟩
  subst_eqs
  refine ⟨Nat.zero_le _, ?_⟩
  subst_eqs
  refine w_enumT ?_
  subst_eqs
  refine ⟨_, rfl, small3 (by rw [List.length_map]; omega), ?_⟩
  rw [numb_zip]
  simp only [List.length_append, List.length_singleton, List.nil_append]
  refine for_mapI (f := fun q : (Nat × Nat) × Nat => D.tup [.int (q.2 : Nat), evO p q.1]) (fun m ρ s => ∃ pl x7 x8 x9 x10 x11 x12 x13, ρ = [.val p.d, .val (.tup (es.map (evO p))), .val (.ref st.length), .no, .val (.ref (st.length + 1)), .no, .val (.ref (st.length + 1 + 1)), x7, x8, x9, x10, x11, x12, x13, .no] ∧
    St3 p st pl (rowsOf ((es.take m).map (dgO p))) s ∧ RunOk p pl (lyOf p (rowsOf ((es.take m).map (dgO p)))) (es.drop m)) ?_ ?_ ?_
  · rintro m ⟨e, m'⟩ ρ s hm ⟨pl, x7, x8, x9, x10, x11, x12, x13, rfl, S, R⟩
    rw [List.getElem?_zipIdx] at hm
    obtain ⟨e', he, hq⟩ := Option.map_eq_some_iff.mp hm
    cases hq
    have hlt := (List.getElem?_eq_some_iff.mp he).1
    have hd : es.drop m = e :: es.drop (m + 1) := by rw [List.drop_eq_getElem_cons hlt, (List.getElem?_eq_some_iff.mp he).2]
    have ht : es.take (m + 1) = es.take m ++ [e] := by rw [List.take_add_one, he]; rfl
    rw [hd] at R
    obtain ⟨a0, ha, hpl, ly', hact, hR⟩ := R
    obtain ⟨y, hy, hym, hya, hev⟩ := awO_is ha
    have hrow : rowsOf ((es.take (m + 1)).map (dgO p)) = stepR (rowsOf ((es.take m).map (dgO p))) m a0.g := by
      rw [ht, List.map_append, List.map_singleton, rowsOf_snoc, dgO_is ha, List.length_map, List.length_take, Nat.min_eq_left (by omega)]
    have hrl : (rowsOf ((es.take m).map (dgO p))).length ≤ m := by
      have := rowsOf_len ((es.take m).map (dgO p))
      rw [List.length_map, List.length_take] at this
      omega
    generalize rowsOf ((es.take m).map (dgO p)) = rows at *
    rw [hrow]
    refine ⟨[.val p.d, .val (.tup (es.map (evO p))), .val (.ref st.length), .no, .val (.ref (st.length + 1)), .no, .val (.ref (st.length + 1 + 1)), .val (.int (m : Nat)), .val (evO p e), x9, x10, x11, x12, x13, .no], by simp [Pt.set, setAll], ?_⟩
    rw [hev]
    subst_eqs
    refine ⟨rfl, spec_find_arrow o hym hya ?_⟩
    subst_eqs
    refine n_is_tuple ?_
    subst_eqs
    refine ⟨_, rfl, ?_⟩
    subst_eqs
    refine w_dg S.h0 (valZ o.pn (i := e.1) (by rw [List.getElem?_map, hy]; rfl) (by rw [List.getElem?_map, hpl]; rfl)) ?_
    subst_eqs
    rw [show (!decide (a0.s = a0.s)) = false by simp]
    subst_eqs
    have fin : ∀ (rows' : List Row) (s' : Sto), St3 p st pl rows' s' → wp (dpM (.ref st.length) (.str y.n.x) (.int a0.e)) (fun _ s'' => St3 p st (pl.set e.1 a0.e) rows' s'') s' := by
      intro rows' s' S'
      exact w_dp S'.h0 (by rw [kvZ_len (by rw [List.length_map, List.length_map, S'.hl]), List.length_map, S'.hl]; exact Nat.lt_of_le_of_lt o.pl (by decide)) (S'.place o hy a0.e)
    have h1 : s[st.length + 1]? = some (.dict (kvZ (p.cs.map Chn.n) (p.cs.map fun ch => D.tup ((opens ch.n 0 rows).map fun (i : Nat) => D.int i)))) := S.h1
    have h2 : s[st.length + 1 + 1]? = some (.lst (rows.map Row.d)) := S.h2
    have hcl : (kvZ (p.cs.map Chn.n) (p.cs.map fun ch => D.tup ((opens ch.n 0 rows).map fun (i : Nat) => D.int i))).length < sizeLine := by
      rw [kvZ_len (by rw [List.length_map, List.length_map]), List.length_map]
      exact Nat.lt_of_le_of_lt o.cl (by decide)
    cases hg : a0.g with
    | doo w =>
      rw [hg] at hact
      have hact : ly' = lyOf p rows := hact
      subst_eqs
      exact wp_mono (fin rows s S) fun _ s'' S'' => .inl ⟨rfl, _, _, _, _, _, _, _, _, rfl, S'', by rw [hact] at hR; exact hR⟩
    | put c l =>
      rw [hg] at hact
      obtain ⟨j, ch, L, hj, rfl, hL, hcall, hly⟩ := hact
      have hLe : L = lies ch.n rows := by
        unfold lyOf at hL
        rw [List.getElem?_map, hj] at hL
        exact (Option.some.inj hL).symm
      subst hLe
      have hcm := List.mem_of_getElem? hj
      have hkn : (p.cs.map Chn.n)[j]? = some ch.n := by rw [List.getElem?_map, hj]; rfl
      have hvn : (p.cs.map fun ch => D.tup ((opens ch.n 0 rows).map fun (i : Nat) => D.int i))[j]? = some (D.tup ((opens ch.n 0 rows).map fun (i : Nat) => D.int i)) := by rw [List.getElem?_map, hj]; rfl
      have hol := opens_len ch.n rows 0
      subst_eqs
      refine ⟨rfl, spec_is_call o hcm ?_⟩
      subst_eqs
      have tk : decide (ch.f = .c) = true → ∀ T : Bool → Sto → Prop, T true s → wp (m__is_taken_by [p.d, .ref st.length, (Dg.put ch.n l).d, .tup (cutD (es.map (evO p)) (some ((m : Int) + 1)) (some ((m : Int) + 2)))]) (BlK T) s := by
        intro hc T hT
        obtain ⟨e', es', a', hes, ha', hg', hpl'⟩ := hcall (of_decide_eq_true hc)
        obtain ⟨y', hy', hym', hya', hev'⟩ := awO_is ha'
        have ec : cutD (es.map (evO p)) (some ((m : Int) + 1)) (some ((m : Int) + 2)) = [evD y'.n e'.2] := by
          rw [cut1, ← List.map_drop, hes, ← hev']; rfl
        rw [ec]
        exact spec_is_taken o hym' hya' hg' S.h0 (valZ o.pn (i := e'.1) (by rw [List.getElem?_map, hy']; rfl) (by rw [List.getElem?_map, hpl']; rfl)) hT
      refine k_if (fun hc => ?_) (fun hc => ?_)
      all_goals
        try (subst_eqs; refine ⟨rfl, tk hc _ ?_⟩)
        subst_eqs
        refine w_dg h1 (valZ o.cn hkn hvn) ?_
        subst_eqs
        refine ⟨by show 1 ≤ sizeLine; decide, w_addT (small3 (by rw [List.length_map, List.length_singleton]; omega)) ?_⟩
        subst_eqs
        refine w_dp h1 hcl ?_
        refine k_seq (w_lput rfl (set_oth (by omega) h2) ?_)
        subst_eqs
        refine ⟨by show 4 ≤ sizeLine; decide, _, set_oth (by omega) h2, small3 (by rw [List.length_map]; omega), ?_⟩
        subst_eqs
        refine wp_mono (fin (rows ++ [⟨ch.n, l, m, none⟩]) _ ⟨set_oth (by omega) (set_oth (by omega) S.h0), ?_, ?_, S.hl, ?_⟩) fun _ s'' S'' => .inl ⟨rfl, _, _, _, _, _, _, _, _, rfl, S'', ?_⟩
        · rw [nb_put o hj, ← putZ o.cn hkn (by rw [List.length_map]; exact (List.getElem?_eq_some_iff.mp hj).1)]
          exact set_oth (by omega) (set_self h1)
        · rw [List.map_append]
          exact set_self (set_oth (by omega) h2)
        · exact fr_set (fr_set S.fr (by omega)) (by omega)
        · show RunOk p _ (lyOf p (rows ++ [⟨ch.n, l, m, none⟩])) _
          rw [ly_put o hj, ← hly]
          exact hR
    | tak c l =>
      rw [hg] at hact
      obtain ⟨j, ch, L, hj, rfl, hL, hlm, hq, hly⟩ := hact
      have hLe : L = lies ch.n rows := by
        unfold lyOf at hL
        rw [List.getElem?_map, hj] at hL
        exact (Option.some.inj hL).symm
      subst hLe
      have hcm := List.mem_of_getElem? hj
      have hkn : (p.cs.map Chn.n)[j]? = some ch.n := by rw [List.getElem?_map, hj]; rfl
      have hvn : (p.cs.map fun ch => D.tup ((opens ch.n 0 rows).map fun (i : Nat) => D.int i))[j]? = some (D.tup ((opens ch.n 0 rows).map fun (i : Nat) => D.int i)) := by rw [List.getElem?_map, hj]; rfl
      obtain ⟨i, r, f1, f2, f3, f4, f5, f6, f7, f8⟩ := first_at 0 hlm
      simp only [Nat.sub_zero, Nat.zero_add] at f6
      have hfind : (if ch.f = .b then opens ch.n 0 rows else (opens ch.n 0 rows).take 1).find? (fun m => decide ((rows[m]?.map Row.l) = some l)) = some i := by
        split
        · exact f6
        · rename_i hb
          have hh := hq hb
          have ol := opens_lies ch.n rows 0
          cases ho : opens ch.n 0 rows with
          | nil => rw [ho] at f6; cases f6
          | cons m0 ms =>
            rw [ho] at f6 ol
            cases hls : lies ch.n rows with
            | nil => rw [hls] at hh; cases hh
            | cons l0 ls =>
              rw [hls] at hh ol
              cases hh
              simp only [List.map_cons, List.cons.injEq, Nat.sub_zero] at ol
              have e0 : decide ((rows[m0]?.map Row.l) = some l) = true := decide_eq_true ol.1
              rw [List.take_succ_cons]
              simp only [List.find?_cons, e0] at f6 ⊢
              exact f6
      have hil := (List.getElem?_eq_some_iff.mp f1).1
      subst_eqs
      refine w_dg h1 (valZ o.cn hkn hvn) ?_
      subst_eqs
      refine ⟨rfl, spec_to_take o hcm rfl h2 (fun k hk => by have := opens_ge ch.n rows 0 k hk; omega) hfind ?_⟩
      subst_eqs
      refine w_dg h1 (valZ o.cn hkn hvn) ?_
      refine ⟨_, rfl, ?_⟩
      refine lc_fm (fun (i : Nat) => D.int i) (fun m => !decide (m = i)) (fun (i : Nat) => D.int i) (opens ch.n 0 rows) (fun k hk => ⟨_, rfl, fun T hT => ?_, fun _ Q hQ => ?_⟩) ?_
      · subst_eqs
        have : decide ((k : Int) = (i : Int)) = decide (k = i) := by
          by_cases h : k = i
          · simp [h]
          · have : ¬(k : Int) = i := by omega
            simp [h, this]
        rw [this]
        exact hT
      · subst_eqs
        exact hQ
      subst_eqs
      refine w_dp h1 hcl ?_
      have hset : ((rows.map Row.d).set i (D.tup [.str ch.n.x, .str l.x, .int r.k, .int (m : Nat)])) = (close ch.n l m rows).map Row.d := by
        rw [f5, List.map_set]
        show _ = (rows.map Row.d).set i (D.tup [.str r.c.x, .str r.l.x, .int r.k, .int (m : Nat)])
        rw [f2, f3]
      refine k_seq (w_lset (n := st.length + 1 + 1) ?_)
      have h2' : (s.set (st.length + 1) (.dict (putD (kvZ (p.cs.map Chn.n) (p.cs.map fun ch => D.tup ((opens ch.n 0 rows).map fun (i : Nat) => D.int i))) (.inr ch.n.x) (D.tup (((opens ch.n 0 rows).filter fun m => !decide (m = i)).map fun (i : Nat) => D.int i)))))[st.length + 1 + 1]? = some (.lst (rows.map Row.d)) := set_oth (by omega) h2
      subst_eqs
      refine w_slT ?_
      subst_eqs
      refine ⟨by show 1 ≤ sizeLine; decide, w_addT (by show 4 ≤ sizeLine; decide) ?_⟩
      refine ⟨rfl, ?_⟩
      subst_eqs
      refine ⟨_, rfl, _, i, h2', ixN_at (by rw [List.length_map]; exact hil), ?_⟩
      subst_eqs
      have e4 : D.tup (cutD [D.str r.c.x, .str r.l.x, .int r.k, optN r.t] none (some 3) ++ [.int (m : Nat)]) = D.tup [.str ch.n.x, .str l.x, .int r.k, .int (m : Nat)] := by
        rw [← f2, ← f3]; rfl
      refine wp_mono (fin (close ch.n l m rows) _ ⟨set_oth (by omega) (set_oth (by omega) S.h0), ?_, ?_, S.hl, ?_⟩) fun _ s'' S'' => .inl ⟨rfl, _, _, _, _, _, _, _, _, rfl, S'', ?_⟩
      · rw [nb_tak o hj f7, ← putZ o.cn hkn (by rw [List.length_map]; exact (List.getElem?_eq_some_iff.mp hj).1)]
        exact set_oth (by omega) (set_self h1)
      · rw [← hset, ← e4]
        exact set_self h2'
      · exact fr_set (fr_set S.fr (by omega)) (by omega)
      · show RunOk p _ (lyOf p (close ch.n l m rows)) _
        rw [ly_tak o hj hlm, ← hly]
        exact hR
  · refine ⟨p.ps.map fun _ => 0, .no, .no, .no, .no, .no, .no, .no, rfl, ⟨?_, ?_, ?_, by rw [List.length_map], ?_⟩, ?_⟩
    · rw [get_a.1, kvZ_map Prt.n (fun _ => D.int 0), List.map_map]; rfl
    · rw [get_a.2.1, kvZ_map Chn.n (fun _ => D.tup [])]; rfl
    · exact get_a.2.2
    · exact ⟨by simp, by simp⟩
    · exact hr
  · rintro ρ s ⟨pl, x7, x8, x9, x10, x11, x12, x13, rfl, S, R⟩
    rw [List.length_zipIdx, List.take_length] at S
    subst_eqs
    refine q (p.ps.map Prt.n, pl) (p.cs.map Chn.n, p.cs.map fun ch => opens ch.n 0 (rowsOf (es.map (dgO p)))) _ (st_three S.fr S.h0 ?_ S.h2)
    rw [S.h1, List.map_map]; rfl
end
end LK
set_option linter.all false
set_option maxRecDepth 100000
set_option maxHeartbeats 4000000
/-! R5: letters_of; the law's looks into a program. -/
namespace LK
open PySem PySem.Spec L2 PL RN
section
variable {Q : D → Sto → Prop} {st : Sto}
theorem spec_rows_of_run {p : Prg} {es : List (Nat × Nat)} {x : Str} (o : Ok p) (hr : RunOk p (p.ps.map fun _ => 0) (p.cs.map fun _ => []) es) (hl : es.length ≤ 1000)
    (q : ∀ s, TakOk st s (st.length + 2) ((rowsOf (es.map (dgO p))).map Row.d) → s[st.length + 2]? = some (.lst ((rowsOf (es.map (dgO p))).map Row.d)) → Q (.ref (st.length + 2)) s) : wp (m_rows_of_run [p.d, .tup (es.map (evO p)), .str x]) Q st := by
  refine w_run' [.val p.d, .val (.tup (es.map (evO p))), .val (.str x), .no] rfl ?_
  unfold s_rows_of_run
  subst_eqs
  refine ⟨rfl, spec_letter_rows o hr hl fun x y s hs => ?_⟩
  subst_eqs
  subst hs
  refine q _ ⟨by simp, by omega, noML_all fun d hd => ?_, by simp, fun o' ho => ?_⟩ (by simp)
  · obtain ⟨r, _, rfl⟩ := List.mem_map.mp hd
    cases ht : r.t <;> simp [Row.d, optN, noM, noML, ht]
  · have e : ((st ++ [Ob.dict (kvZ x.1 (x.2.map D.int)), .dict (kvZ y.1 (y.2.map fun (z : List Nat) => D.tup (z.map fun (i : Nat) => D.int i))), .lst ((rowsOf (es.map (dgO p))).map Row.d)]).take (st.length + 2)).drop st.length = [Ob.dict (kvZ x.1 (x.2.map D.int)), .dict (kvZ y.1 (y.2.map fun (z : List Nat) => D.tup (z.map fun (i : Nat) => D.int i)))] := by
      rw [List.take_append, List.take_of_length_le (by omega), List.drop_append, List.drop_length]
      simp
    rw [e] at ho
    have key : ∀ (ks : List Nm) (vs : List D), (∀ d ∈ vs, noM (st.length + 2) d = true) → noMO (st.length + 2) (.dict (kvZ ks vs)) = true := fun ks vs h => noML_all fun d hd => by
      obtain ⟨q, hq, rfl⟩ := List.mem_map.mp hd
      unfold kvZ at hq
      obtain ⟨z, hz, rfl⟩ := List.mem_map.mp hq
      exact h _ (List.of_mem_zip hz).2
    simp only [List.mem_cons, List.not_mem_nil, or_false] at ho
    rcases ho with rfl | rfl
    · refine key _ _ fun d hd => ?_
      obtain ⟨i, _, rfl⟩ := List.mem_map.mp hd
      unfold noM; rfl
    · refine key _ _ fun d hd => ?_
      obtain ⟨i, _, rfl⟩ := List.mem_map.mp hd
      unfold noM
      refine noML_all fun d hd => ?_
      obtain ⟨i, _, rfl⟩ := List.mem_map.mp hd
      unfold noM; rfl
/-! ### the law's looks -/
theorem filter_one {α : Type} {f : α → Nm} : ∀ {xs : List α} {i : Nat} {x : α}, (xs.map f).Nodup → xs[i]? = some x → xs.filter (fun y => decide (f y = f x)) = [x]
  | [], _, _, _, h => by simp at h
  | y :: ys, 0, x, nd, h => by
    simp at h; subst h
    rw [List.map_cons, List.nodup_cons] at nd
    rw [List.filter_cons_of_pos (by simp), List.filter_eq_nil_iff.mpr fun z hz => ?_]
    have : f z ≠ f y := fun e => nd.1 (e ▸ List.mem_map_of_mem hz)
    simpa using this
  | y :: ys, i + 1, x, nd, h => by
    rw [List.map_cons, List.nodup_cons] at nd
    have h' : ys[i]? = some x := by simpa using h
    have hm : x ∈ ys := List.mem_of_getElem? h'
    have ne : f y ≠ f x := fun e => nd.1 (e ▸ List.mem_map_of_mem hm)
    rw [List.filter_cons_of_neg (by simpa using ne)]
    exact filter_one nd.2 h'
theorem spec_arrow_of {p : Prg} {e : Nat × Nat} {a : Arw} (o : Ok p) (ha : awO p e = some a) (k : Q a.d st) : wp (m__law_arrow_of [p.d, evO p e]) Q st := by
  obtain ⟨y, hy, hym, hya, hev⟩ := awO_is ha
  rw [hev]
  refine w_run' [.val p.d, .val (evD y.n e.2), .no] rfl ?_
  unfold s__law_arrow_of
  subst_eqs
  refine ⟨_, rfl, ?_⟩
  refine lc_fm Prt.d (fun z => decide (z.n = y.n)) Prt.d p.ps (fun z hz => ⟨_, rfl, fun T hT => ?_, fun _ Q hQ => ?_⟩) ?_
  · subst_eqs
    exact hT
  · subst_eqs
    exact hQ
  rw [filter_one o.pn hy]
  subst_eqs
  refine w_l0 ?_
  subst_eqs
  exact k
theorem spec_doing {p : Prg} {e : Nat × Nat} {a : Arw} (o : Ok p) (ha : awO p e = some a) (k : Q a.g.d st) : wp (m__law_doing [p.d, evO p e]) Q st := by
  refine w_run' [.val p.d, .val (evO p e)] rfl ?_
  unfold s__law_doing
  subst_eqs
  refine ⟨rfl, spec_arrow_of o ha ?_⟩
  subst_eqs
  exact k
/-- the arrows of the parties, in order -/
def asAt (p : Prg) (i : Nat) : List Arw := (p.ps[i]?.map Prt.as).getD []
/-- those events of one party at which hit holds -/
def evsAt (p : Prg) (hit : Nat × Nat → Bool) (i : Nat) : List (Nat × Nat) := ((List.range (asAt p i).length).map fun k => (i, k)).filter hit
def hitT (p : Prg) (pl : List Int) (c l : Nm) (e : Nat × Nat) : Bool := match awO p e with
  | some a => decide (some a.s = pl[e.1]? ∧ a.g = .tak c l)
  | none => false
def takesL (p : Prg) (pl : List Int) (c l : Nm) : List (Nat × Nat) := (List.range p.ps.length).flatMap (evsAt p (hitT p pl c l))
theorem asAt_is {p : Prg} {i : Nat} {y : Prt} (h : p.ps[i]? = some y) : asAt p i = y.as := by unfold asAt; rw [h]; rfl
theorem awO_at {p : Prg} {i k : Nat} {y : Prt} (h : p.ps[i]? = some y) : awO p (i, k) = y.as[k]? := by unfold awO; rw [h]; rfl
theorem evO_at {p : Prg} {i k : Nat} {y : Prt} (h : p.ps[i]? = some y) : evO p (i, k) = evD y.n k := by unfold evO nmAt; rw [h]; rfl
theorem flat_step {α : Type} (g : Nat → List α) (i : Nat) : (List.range (i + 1)).flatMap g = (List.range i).flatMap g ++ g i := by
  rw [List.range_succ, List.flatMap_append]; simp
theorem evs_step {hit : Nat × Nat → Bool} {i k : Nat} : ((List.range (k + 1)).map fun k => (i, k)).filter hit = ((List.range k).map fun k => (i, k)).filter hit ++ (if hit (i, k) = true then [(i, k)] else []) := by
  rw [List.range_succ, List.map_append, List.filter_append]
  congr 1
  show List.filter hit [(i, k)] = _
  by_cases h : hit (i, k) = true
  · rw [List.filter_cons_of_pos h, if_pos h]; rfl
  · rw [List.filter_cons_of_neg h, if_neg h]; rfl
theorem len_flat {α : Type} (g : Nat → List α) {b : Nat} : ∀ n : Nat, (∀ i, i < n → (g i).length ≤ b) → ((List.range n).flatMap g).length ≤ n * b
  | 0, _ => by simp
  | n + 1, h => by
    rw [flat_step, List.length_append, Nat.succ_mul]
    have := len_flat g n fun i hi => h i (by omega)
    have := h n (by omega)
    omega
theorem spec_takes {p : Prg} {n : Nat} {pl : List Int} {c l : Nm} (o : Ok p) (hs : st[n]? = some (.lst (pl.map D.int))) (hpl : pl.length = p.ps.length) (q : Q (.lst ((takesL p pl c l).map (evO p))) st) : wp (m__law_takes [p.d, .ref n, .str c.x, .str l.x]) Q st := by
  refine w_run' [.val p.d, .val (.ref n), .val (.str c.x), .val (.str l.x), .no, .no, .no] rfl ?_
  unfold s__law_takes
  false_or_by_contra
  refine ⟨_, rfl, by have := o.pl; omega, ?_⟩
  have hb : ∀ (i : Nat) (hit : Nat × Nat → Bool), i < p.ps.length → (evsAt p hit i).length ≤ 7 := by
    intro i hit hi
    unfold evsAt
    refine Nat.le_trans (List.length_filter_le _ _) ?_
    rw [List.length_map, List.length_range, asAt_is (List.getElem?_eq_getElem hi)]
    exact o.al _ (List.getElem_mem hi)
  refine for_range (fun i ρ s => s = st ∧ ∃ x5 x6, ρ = [.val p.d, .val (.ref n), .val (.str c.x), .val (.str l.x), .own (((List.range i).flatMap (evsAt p (hitT p pl c l))).map (evO p)), x5, x6]) ?_ ⟨rfl, _, _, rfl⟩ ?_
  · rintro i ρ s hi ⟨rfl, x5, x6, rfl⟩
    obtain ⟨y, hy⟩ : ∃ y, p.ps[i]? = some y := ⟨_, List.getElem?_eq_getElem hi⟩
    obtain ⟨z, hpi⟩ : ∃ z, pl[i]? = some z := ⟨_, List.getElem?_eq_getElem (by omega)⟩
    have hal := o.al y (List.mem_of_getElem? hy)
    refine ⟨_, rfl, ?_⟩
    false_or_by_contra
    refine ⟨_, rfl, by omega, ?_⟩
    have hfl := len_flat (evsAt p (hitT p pl c l)) i fun j hj => hb j _ (by omega)
    have hi10 : i ≤ 3 := by have := o.pl; omega
    refine for_range (fun k ρ s' => s' = s ∧ ∃ x6, ρ = [.val p.d, .val (.ref n), .val (.str c.x), .val (.str l.x), .own (((List.range i).flatMap (evsAt p (hitT p pl c l)) ++ ((List.range k).map fun k => (i, k)).filter (hitT p pl c l)).map (evO p)), .val (.int i), x6]) ?_ ⟨rfl, x6, by simp⟩ ?_
    · rintro k ρ s' hk ⟨rfl, x6, rfl⟩
      obtain ⟨a, hyk⟩ : ∃ a, y.as[k]? = some a := ⟨_, List.getElem?_eq_getElem hk⟩
      have hit : hitT p pl c l (i, k) = decide (a.s = z ∧ a.g = .tak c l) := by
        unfold hitT
        rw [awO_at hy, hyk]
        show decide (some a.s = pl[i]? ∧ a.g = Dg.tak c l) = _
        rw [hpi]
        simp only [Option.some.injEq]
      have hln : (((List.range k).map fun k => (i, k)).filter (hitT p pl c l)).length ≤ 7 := Nat.le_trans (List.length_filter_le _ _) (by rw [List.length_map, List.length_range]; omega)
      refine ⟨_, rfl, ?_⟩
      false_or_by_contra
      rw [evs_step, hit]
      refine k_if (fun h => ?_) fun h => ?_
      · rw [if_pos h]
        false_or_by_contra
        refine ⟨small3 (by rw [List.length_map, List.length_append]; omega), .inl ⟨rfl, rfl, .val (.int k), ?_⟩⟩
        rw [← List.append_assoc, List.map_append (l₂ := [(i, k)]), List.map_singleton, evO_at hy]
        rfl
      · rw [h]
        false_or_by_contra
        exact .inl ⟨rfl, rfl, .val (.int k), by simp⟩
    · rintro ρ s' ⟨rfl, x6, rfl⟩
      refine .inl ⟨rfl, rfl, .val (.int i), x6, ?_⟩
      rw [flat_step]
      unfold evsAt
      rw [asAt_is hy]
  · rintro ρ s ⟨rfl, x5, x6, rfl⟩
    false_or_by_contra
    exact q
end
end LK
set_option linter.all false
set_option maxRecDepth 100000
set_option maxHeartbeats 4000000
/-! R6: sorted(set(..)) of things with keys; the steps that one event gives. -/
namespace LK
open PySem PySem.Spec L2 PL RN PySem.W
section
variable {R : D → Sto → Prop} {st : Sto}
theorem keysN_map {α : Type} {f : α → D} {key : α → NestedKey} : ∀ {xs : List α}, (∀ x ∈ xs, keyN (f x) = some (key x)) → keysN (xs.map f) = some (xs.map key)
  | [], _ => rfl
  | x :: xs, h => by
    show ((keyN (f x)).bind fun k => (keysN (xs.map f)).map (k :: ·)) = _
    rw [h x List.mem_cons_self, keysN_map fun y hy => h y (List.mem_cons_of_mem _ hy)]; rfl
theorem plainKL_map {α : Type} {f : α → D} : ∀ {xs : List α}, (∀ x ∈ xs, plainK (f x) = true) → plainKL (xs.map f) = true
  | [], _ => by simp [plainKL]
  | x :: xs, h => by
    rw [List.map_cons]
    unfold plainKL
    rw [h x List.mem_cons_self, plainKL_map fun y hy => h y (List.mem_cons_of_mem _ hy)]; rfl
theorem pick_keys {α : Type} {key : α → NestedKey} {xs : List α} : ∀ ks : List NestedKey, (∀ k ∈ ks, k ∈ xs.map key) → ∃ so : List α, so.map key = ks ∧ ∀ x ∈ so, x ∈ xs
  | [], _ => ⟨[], rfl, fun _ h => absurd h List.not_mem_nil⟩
  | k :: ks, h => by
    obtain ⟨so, e, hs⟩ := pick_keys ks fun j hj => h j (List.mem_cons_of_mem _ hj)
    obtain ⟨x, hx, rfl⟩ := List.mem_map.mp (h k List.mem_cons_self)
    refine ⟨x :: so, by rw [List.map_cons, e], fun y hy => ?_⟩
    rcases List.mem_cons.mp hy with rfl | hy
    · exact hx
    · exact hs y hy
theorem w_sset {α : Type} {f : α → D} {key : α → NestedKey} {xs : List α} (hk : ∀ x ∈ xs, keyN (f x) = some (key x) ∧ plainK (f x) = true) (hal : ∀ x ∈ xs, ∀ y ∈ xs, alike (key x).data (key y).data = true) (hne : ∀ x ∈ xs, neK (key x) = true) (hl : xs.length < 64)
    (k : ∀ so : List α, (∀ x ∈ so, x ∈ xs) → (∀ x ∈ xs, key x ∈ so.map key) → (so.map key).Pairwise (fun a b => ltK a b = true) → R (.lst (so.map f)) st) : wp (ssetN (.lst (xs.map f))) R st := by
  have hA : AlikeK (xs.map key) := fun a ha b hb => by
    obtain ⟨x, hx, rfl⟩ := List.mem_map.mp ha
    obtain ⟨y, hy, rfl⟩ := List.mem_map.mp hb
    exact hal x hx y hy
  obtain ⟨s1, s2⟩ := srtK_ok hA
  obtain ⟨so, e, hs⟩ := pick_keys (key := key) (xs := xs) (srtK (xs.map key)) fun k hk => (s1 k).mp hk
  show wp ((opt (keysN (xs.map f))).bind _) R st
  rw [wp_bind, keysN_map fun x hx => (hk x hx).1, wp_some, wp_guard]
  refine ⟨?_, ?_⟩
  · rw [Bool.and_eq_true, Bool.and_eq_true, Bool.and_eq_true]
    refine ⟨decide_eq_true (by rw [List.length_map]; exact hl), plainKL_map fun x hx => (hk x hx).2, ?_, ?_⟩
    · exact List.all_eq_true.mpr fun a ha => List.all_eq_true.mpr fun b hb => hA a ha b hb
    · refine List.all_eq_true.mpr fun a ha => ?_
      obtain ⟨x, hx, rfl⟩ := List.mem_map.mp ha
      exact hne x hx
  · rw [wp_pure]
    have e2 : (srtK (xs.map key)).map dOf = so.map f := by
      rw [← e, List.map_map]
      refine List.map_congr_left fun x hx => ?_
      have := hk x (hs x hx)
      exact dOf_nk this.2 (keyN_tup this.1).2.1
    rw [e2]
    refine k so hs (fun x hx => ?_) (by rw [e]; exact s2)
    rw [e]
    exact (s1 _).mpr (List.mem_map_of_mem hx)
theorem alikeAll_of : ∀ {xs ys : List PyData}, (∀ x ∈ xs, ∀ y ∈ ys, alike x y = true) → alikeAll xs ys = true
  | [], _, _ => by simp [alikeAll]
  | _ :: _, [], _ => by simp [alikeAll]
  | x :: xs, y :: ys, h => by
    unfold alikeAll
    rw [h x List.mem_cons_self y List.mem_cons_self, alikeAll_of fun a ha b hb => h a (List.mem_cons_of_mem _ ha) b (List.mem_cons_of_mem _ hb)]; rfl
theorem datas_map : ∀ ks : List NestedKey, NestedKey.datas ks = ks.map NestedKey.data
  | [] => by simp [NestedKey.datas]
  | k :: ks => by simp [NestedKey.datas, datas_map ks]
theorem nkL_map {α : Type} {f : α → D} {key : α → NestedKey} : ∀ {xs : List α}, (∀ x ∈ xs, nkD (f x) = some (key x)) → nkL (xs.map f) = some (xs.map key)
  | [], _ => by unfold nkL; rfl
  | x :: xs, h => by
    rw [List.map_cons]
    unfold nkL
    rw [h x List.mem_cons_self, nkL_map fun y hy => h y (List.mem_cons_of_mem _ hy)]; rfl
theorem dep_all {n : Nat} : ∀ {ks : List NestedKey}, (∀ k ∈ ks, k.depth ≤ n) → NestedKey.depthAll ks ≤ n
  | [], _ => by unfold NestedKey.depthAll; exact Nat.zero_le _
  | k :: ks, h => by
    unfold NestedKey.depthAll
    exact Nat.max_le.mpr ⟨h k List.mem_cons_self, dep_all fun j hj => h j (List.mem_cons_of_mem _ hj)⟩
/-- x is plain data with the key k, of depth n at most -/
structure KeyOf (x : D) (k : NestedKey) (n : Nat) : Prop where
  nk : nkD x = some k
  pl : plainK x = true
  dp : k.depth ≤ n
theorem KeyOf.int (i : Int) : KeyOf (.int i) (.num i) 0 := ⟨by unfold nkD; rfl, by unfold plainK; rfl, by unfold NestedKey.depth; exact Nat.le_refl _⟩
theorem KeyOf.str (x : Str) : KeyOf (.str x) (.text x) 0 := ⟨by unfold nkD; rfl, by unfold plainK; rfl, by unfold NestedKey.depth; exact Nat.le_refl _⟩
theorem KeyOf.mono {x : D} {k : NestedKey} {n m : Nat} (h : KeyOf x k n) (hm : n ≤ m) : KeyOf x k m := ⟨h.nk, h.pl, Nat.le_trans h.dp hm⟩
theorem KeyOf.map {α : Type} {f : α → D} {key : α → NestedKey} {xs : List α} {n : Nat} (h : ∀ x ∈ xs, KeyOf (f x) (key x) n) : KeyOf (.tup (xs.map f)) (.tup (xs.map key)) (n + 1) where
  nk := by unfold nkD; rw [nkL_map fun x hx => (h x hx).nk]; rfl
  pl := by unfold plainK; exact plainKL_map fun x hx => (h x hx).pl
  dp := by
    unfold NestedKey.depth
    have := dep_all (n := n) (ks := xs.map key) fun k hk => by
      obtain ⟨x, hx, rfl⟩ := List.mem_map.mp hk
      exact (h x hx).dp
    omega
theorem KeyOf.tup {ps : List (D × NestedKey)} {n : Nat} (h : ∀ q ∈ ps, KeyOf q.1 q.2 n) : KeyOf (.tup (ps.map (·.1))) (.tup (ps.map (·.2))) (n + 1) := KeyOf.map h
theorem KeyOf.key {xs : List D} {ks : List NestedKey} {n : Nat} (h : KeyOf (.tup xs) (.tup ks) n) (hn : n ≤ 8) : keyN (.tup xs) = some (.tup ks) := by
  show (nkD (.tup xs)).bind (fun k => if k.depth ≤ 8 then some k else none) = _
  rw [h.nk]
  show (if (NestedKey.tup ks).depth ≤ 8 then _ else _) = _
  rw [if_pos (Nat.le_trans h.dp hn)]
def evK (p : Prg) (e : Nat × Nat) : NestedKey := .tup [.text (nmAt p e.1).x, .num e.2]
theorem evK_of (p : Prg) (e : Nat × Nat) : KeyOf (evO p e) (evK p e) 1 := KeyOf.tup (ps := [(.str (nmAt p e.1).x, .text (nmAt p e.1).x), (.int e.2, .num e.2)]) fun q hq => by
  simp only [List.mem_cons, List.not_mem_nil, or_false] at hq
  rcases hq with rfl | rfl
  · exact KeyOf.str _
  · exact KeyOf.int _
def partD (p : Prg) (es : List (Nat × Nat)) : D := .tup (es.map (evO p))
def partK (p : Prg) (es : List (Nat × Nat)) : NestedKey := .tup (es.map (evK p))
theorem partK_of (p : Prg) (es : List (Nat × Nat)) : KeyOf (partD p es) (partK p es) 2 := KeyOf.map fun e _ => evK_of p e
theorem alike_ev (p : Prg) (a b : Nat × Nat) : alike (evK p a).data (evK p b).data = true := by
  simp [evK, NestedKey.data, NestedKey.datas, alike, alikeAll]
theorem alike_part (p : Prg) (a b : List (Nat × Nat)) : alike (partK p a).data (partK p b).data = true := by
  unfold partK NestedKey.data
  rw [datas_map, datas_map]
  unfold alike
  refine alikeAll_of fun x hx y hy => ?_
  rw [List.map_map] at hx hy
  obtain ⟨u, _, rfl⟩ := List.mem_map.mp hx
  obtain ⟨v, _, rfl⟩ := List.mem_map.mp hy
  exact alike_ev p u v
theorem w_ssetP {p : Prg} {xs : List (List (Nat × Nat))} (hne : ∀ x ∈ xs, x ≠ []) (hl : xs.length < 64)
    (k : ∀ so : List (List (Nat × Nat)), (∀ x ∈ so, x ∈ xs) → (∀ x ∈ xs, partK p x ∈ so.map (partK p)) → (so.map (partK p)).Pairwise (fun a b => ltK a b = true) → R (.lst (so.map (partD p))) st) : wp (ssetN (.lst (xs.map (partD p)))) R st :=
  w_sset (key := partK p) (fun x _ => ⟨(partK_of p x).key (by decide), (partK_of p x).pl⟩) (fun x _ y _ => alike_part p x y) (fun x hx => by
    have := hne x hx
    cases x with
    | nil => exact absurd rfl this
    | cons _ _ => rfl) hl k
end
end LK
set_option linter.all false
set_option maxRecDepth 100000
set_option maxHeartbeats 4000000
/-! R7: the steps that one event gives; all steps. -/
namespace LK
open PySem PySem.Spec L2 PL RN
/-- the letters that lie, as the store has them: channel by channel, from place b on -/
def LyS (b : Nat) (ly : List (List Nm)) (s : Sto) : Prop := ∀ j L, ly[j]? = some L → s[b + j]? = some (.lst (txD L))
def lyD (b m : Nat) : D := .lst ((List.range m).map fun (j : Nat) => D.ref (b + j))
def stepsCh (p : Prg) (pl : List Int) (e : Nat × Nat) (ch : Chn) (L : List Nm) : Dg → List (List (Nat × Nat))
  | .doo _ => [[e]]
  | .put c l => if ch.f = .c then (takesL p pl c l).map fun t => [e, t] else [[e]]
  | .tak _ l => if ch.f = .c then [] else if l ∈ L.take 1 then [[e]] else if ch.f = .q ∨ l ∉ L then [] else [[e]]
def Dg.chan : Dg → Option Nm
  | .doo _ => none
  | .put c _ => some c
  | .tak c _ => some c
/-- what is known of the channel of g: its place, its letters -/
def ChAt (p : Prg) (ly : List (List Nm)) (g : Dg) (j : Nat) (ch : Chn) (L : List Nm) : Prop := match Dg.chan g with
  | none => True
  | some c => p.cs[j]? = some ch ∧ ch.n = c ∧ ly[j]? = some L
theorem chAt_of {p : Prg} {ly : List (List Nm)} {y : Prt} {a : Arw} (o : Ok p) (hl : ly.length = p.cs.length) (hy : y ∈ p.ps) (ha : a ∈ y.as) : ∃ j ch L, ChAt p ly a.g j ch L ∧ (∀ c l, a.g = .put c l → ch.s = y.n) ∧ (∀ c l, a.g = .tak c l → ch.t = y.n) := by
  have h := o.ow y hy a ha
  cases hg : a.g with
  | doo w => exact ⟨0, default, [], trivial, (by intro _ _ e; cases e), (by intro _ _ e; cases e)⟩
  | put c l =>
    rw [hg] at h
    obtain ⟨ch, hm, h1, h2⟩ := h
    obtain ⟨j, hj⟩ := List.getElem?_of_mem hm
    have hlt := (List.getElem?_eq_some_iff.mp hj).1
    exact ⟨j, ch, ly[j]'(by omega), ⟨hj, h1, List.getElem?_eq_getElem (by omega)⟩, fun _ _ _ => h2, (by intro _ _ e; cases e)⟩
  | tak c l =>
    rw [hg] at h
    obtain ⟨ch, hm, h1, h2⟩ := h
    obtain ⟨j, hj⟩ := List.getElem?_of_mem hm
    have hlt := (List.getElem?_eq_some_iff.mp hj).1
    exact ⟨j, ch, ly[j]'(by omega), ⟨hj, h1, List.getElem?_eq_getElem (by omega)⟩, (by intro _ _ e; cases e), fun _ _ _ => h2⟩
section
variable {Q : D → Sto → Prop} {st : Sto}
theorem w_ly {b m j : Nat} (h : j < m) (q : Q (.ref (b + j)) st) : wp (ixM (lyD b m) (.int j)) Q st := w_ixML (xs := List.range m) (x := j) (by rw [List.getElem?_range h]) q
theorem cut_one {L : List Nm} : cutD (txD L) none (some 1) = txD (L.take 1) := by
  unfold cutD txD
  show List.take (HT.sIx _ _ (some ((1 : Nat) : Int)) - 0) _ = _
  rw [HT.sIx_nat, HT.sIx_none, List.drop_zero]
  cases L with
  | nil => rfl
  | cons a L => simp
theorem spec_steps_by {p : Prg} {n b j : Nat} {pl : List Int} {ly : List (List Nm)} {e : Nat × Nat} {a : Arw} {ch : Chn} {L : List Nm} (o : Ok p) (hs : st[n]? = some (.lst (pl.map D.int))) (hpl : pl.length = p.ps.length) (hly : LyS b ly st) (ha : awO p e = some a) (hc : ChAt p ly a.g j ch L)
    (q : Q (.lst ((stepsCh p pl e ch L a.g).map (partD p))) st) : wp (m__law_steps_by [p.d, .ref n, lyD b p.cs.length, evO p e]) Q st := by
  refine w_run' [.val p.d, .val (.ref n), .val (lyD b p.cs.length), .val (evO p e), .no, .no, .no, .no] rfl ?_
  unfold s__law_steps_by
  false_or_by_contra
  refine spec_doing o ha ?_
  false_or_by_contra
  refine ⟨_, rfl, by have := o.cl; omega, ?_⟩
  refine for_range (fun m ρ s => s = st ∧ (m ≤ j ∨ stepsCh p pl e ch L a.g = [[e]]) ∧ ∃ x5 x6, ρ = [.val p.d, .val (.ref n), .val (lyD b p.cs.length), .val (evO p e), .val a.g.d, x5, x6, .no]) ?_ ⟨rfl, .inl (Nat.zero_le _), _, _, rfl⟩ ?_
  · rintro m ρ s hm ⟨rfl, hI, x5, x6, rfl⟩
    obtain ⟨cm, hcm⟩ : ∃ cm, p.cs[m]? = some cm := ⟨_, List.getElem?_eq_getElem hm⟩
    refine ⟨_, rfl, ?_⟩
    have skip : ∀ {c : Nm}, ch.n = c → p.cs[j]? = some ch → ¬cm.n = c → (m + 1 ≤ j ∨ stepsCh p pl e ch L a.g = [[e]]) := by
      intro c h1 h2 h3
      rcases hI with h | h
      · refine .inl ?_
        by_cases e1 : m = j
        · subst e1
          rw [hcm] at h2
          cases h2
          exact absurd h1 h3
        · omega
      · exact .inr h
    cases hg : a.g with
    | doo w =>
      false_or_by_contra
      exact .inl ⟨rfl, rfl, .inr rfl, _, _, rfl⟩
    | put c l =>
      rw [hg] at hc
      obtain ⟨hj, h1, hL⟩ := hc
      false_or_by_contra
      refine k_if (fun h => ?_) fun h => ?_
      · have hmj : m = j := nd_ix o.cn hcm hj ((of_decide_eq_true h).trans h1.symm)
        subst hmj
        rw [hcm] at hj
        cases hj
        have hst : stepsCh p pl e ch L (.put c l) = if ch.f = .c then (takesL p pl c l).map fun t => [e, t] else [[e]] := rfl
        by_cases hf : ch.f = .c
        · have e1 : decide (ch.f = .c) = true := decide_eq_true hf
          rw [hg, hst, if_pos hf] at q
          false_or_by_contra
          rw [e1]
          false_or_by_contra
          rw [e1]
          false_or_by_contra
          refine spec_takes o hs hpl ?_
          false_or_by_contra
          refine lc_mp (evO p) (fun t => partD p [e, t]) (takesL p pl c l) (fun t ht => ⟨_, rfl, fun Q hQ => ?_⟩) ?_
          · false_or_by_contra
            exact hQ
          · false_or_by_contra
            refine .inr ⟨_, rfl, ?_⟩
            false_or_by_contra
            rw [List.map_map] at q
            exact q
        · have e1 : decide (ch.f = .c) = false := decide_eq_false hf
          rw [if_neg hf] at hst
          false_or_by_contra
          rw [e1]
          false_or_by_contra
          rw [e1]
          false_or_by_contra
          exact .inl ⟨rfl, rfl, .inr hst, _, _, rfl⟩
      · have sk := skip h1 hj (of_decide_eq_false h)
        rw [hg] at sk
        false_or_by_contra
        exact .inl ⟨rfl, rfl, sk, _, _, rfl⟩
    | tak c l =>
      rw [hg] at hc
      obtain ⟨hj, h1, hL⟩ := hc
      false_or_by_contra
      refine k_if (fun h => ?_) fun h => ?_
      · have hmj : m = j := nd_ix o.cn hcm hj ((of_decide_eq_true h).trans h1.symm)
        subst hmj
        rw [hcm] at hj
        cases hj
        have hst : stepsCh p pl e ch L (.tak c l) = if ch.f = .c then [] else if l ∈ L.take 1 then [[e]] else if ch.f = .q ∨ l ∉ L then [] else [[e]] := rfl
        have hsl := hly _ _ hL
        rw [hg, hst] at q
        by_cases hf : ch.f = .c
        · have e1 : decide (ch.f = .c) = true := decide_eq_true hf
          rw [if_pos hf] at q
          false_or_by_contra
          rw [e1]
          false_or_by_contra
          exact .inr ⟨_, rfl, q⟩
        · have e1 : decide (ch.f = .c) = false := decide_eq_false hf
          rw [if_neg hf] at hst q
          false_or_by_contra
          rw [e1]
          false_or_by_contra
          rw [e1]
          false_or_by_contra
          refine w_slR ?_
          false_or_by_contra
          refine w_ly hm ?_
          false_or_by_contra
          refine ⟨_, _, rfl, hsl, ?_⟩
          rw [cut_one]
          false_or_by_contra
          by_cases h3 : l ∈ L.take 1
          · rw [if_pos h3] at hst
            have e3 : decide (l ∈ L.take 1) = true := decide_eq_true h3
            rw [e3]
            false_or_by_contra
            exact .inl ⟨rfl, rfl, .inr hst, _, _, rfl⟩
          · rw [if_neg h3] at hst q
            have e3 : decide (l ∈ L.take 1) = false := decide_eq_false h3
            rw [e3]
            false_or_by_contra
            by_cases h4 : ch.f = .q
            · rw [if_pos (.inl h4)] at q
              have e4 : decide (ch.f = .q) = true := decide_eq_true h4
              rw [e4]
              false_or_by_contra
              exact .inr ⟨_, rfl, q⟩
            · have e4 : decide (ch.f = .q) = false := decide_eq_false h4
              rw [e4]
              false_or_by_contra
              refine w_ly hm ?_
              false_or_by_contra
              by_cases h5 : l ∈ L
              · rw [if_neg (fun z => z.elim h4 fun z => z h5)] at hst
                have e5 : decide (l ∈ L) = true := decide_eq_true h5
                rw [e5]
                false_or_by_contra
                exact .inl ⟨rfl, rfl, .inr hst, _, _, rfl⟩
              · rw [if_pos (.inr h5)] at q
                have e5 : decide (l ∈ L) = false := decide_eq_false h5
                rw [e5]
                false_or_by_contra
                exact .inr ⟨_, rfl, q⟩
      · have sk := skip h1 hj (of_decide_eq_false h)
        rw [hg] at sk
        false_or_by_contra
        exact .inl ⟨rfl, rfl, sk, _, _, rfl⟩
  · rintro ρ s ⟨rfl, hI, x5, x6, rfl⟩
    have hfin : stepsCh p pl e ch L a.g = [[e]] := by
      rcases hI with h | h
      · cases hg : a.g with
        | doo w => rfl
        | put c l =>
          rw [hg] at hc
          have := (List.getElem?_eq_some_iff.mp hc.1).1
          omega
        | tak c l =>
          rw [hg] at hc
          have := (List.getElem?_eq_some_iff.mp hc.1).1
          omega
      · exact h
    rw [hfin] at q
    false_or_by_contra
    exact q
end
end LK
set_option linter.all false
set_option maxRecDepth 100000
set_option maxHeartbeats 4000000
/-! R8: all steps at a state. -/
namespace LK
open PySem PySem.Spec L2 PL RN
/-- the channel of g, and what lies there -/
def clOf (p : Prg) (ly : List (List Nm)) (g : Dg) : Chn × List Nm := match Dg.chan g with
  | none => (default, [])
  | some c => ((p.cs.zip ly).find? fun q => decide (q.1.n = c)).getD (default, [])
def stepsE (p : Prg) (pl : List Int) (ly : List (List Nm)) (e : Nat × Nat) : List (List (Nat × Nat)) := match awO p e with
  | none => []
  | some a => if some a.s = pl[e.1]? then stepsCh p pl e (clOf p ly a.g).1 (clOf p ly a.g).2 a.g else []
def stepsAt (p : Prg) (pl : List Int) (ly : List (List Nm)) (i : Nat) : List (List (Nat × Nat)) := (List.range (asAt p i).length).flatMap fun k => stepsE p pl ly (i, k)
def allSteps (p : Prg) (pl : List Int) (ly : List (List Nm)) : List (List (Nat × Nat)) := (List.range p.ps.length).flatMap (stepsAt p pl ly)
theorem clOf_is {p : Prg} {ly : List (List Nm)} {g : Dg} {j : Nat} {ch : Chn} {L : List Nm} (o : Ok p) (hl : ly.length = p.cs.length) (h : ChAt p ly g j ch L) : Dg.chan g = none ∨ clOf p ly g = (ch, L) := by
  unfold ChAt at h
  unfold clOf
  cases hc : Dg.chan g with
  | none => exact .inl rfl
  | some c =>
    rw [hc] at h
    obtain ⟨h1, h2, h3⟩ := h
    refine .inr ?_
    have hz : (p.cs.zip ly)[j]? = some (ch, L) := List.getElem?_zip_eq_some.mpr ⟨h1, h3⟩
    have nd : ((p.cs.zip ly).map fun q => q.1.n).Nodup := by
      have e : ((p.cs.zip ly).map fun q => q.1.n) = p.cs.map Chn.n := by
        rw [show (fun q : Chn × List Nm => q.1.n) = Chn.n ∘ Prod.fst from rfl, ← List.map_map, List.map_fst_zip (by omega)]
      rw [e]; exact o.cn
    have := find_at (f := fun q : Chn × List Nm => q.1.n) nd hz
    dsimp only at this ⊢
    rw [h2] at this
    rw [this]; rfl
theorem steps_cl {p : Prg} {pl : List Int} {ly : List (List Nm)} {e : Nat × Nat} {g : Dg} {j : Nat} {ch : Chn} {L : List Nm} (o : Ok p) (hl : ly.length = p.cs.length) (h : ChAt p ly g j ch L) : stepsCh p pl e (clOf p ly g).1 (clOf p ly g).2 g = stepsCh p pl e ch L g := by
  rcases clOf_is o hl h with hc | hc
  · cases g with
    | doo _ => rfl
    | put _ _ => cases hc
    | tak _ _ => cases hc
  · rw [hc]
theorem filter_take {α : Type} (q : α → Bool) (xs : List α) (i : Nat) (hit : Nat × Nat → Bool) (h : ∀ k x, xs[k]? = some x → hit (i, k) = q x) : ∀ n, n ≤ xs.length → (((List.range n).map fun k => (i, k)).filter hit).length = ((xs.take n).filter q).length
  | 0, _ => rfl
  | n + 1, hn => by
    obtain ⟨x, hx⟩ : ∃ x, xs[n]? = some x := ⟨_, List.getElem?_eq_getElem (by omega)⟩
    rw [evs_step, List.take_add_one, hx, List.filter_append, List.length_append, List.length_append, filter_take q xs i hit h n (by omega), h n x hx]
    congr 1
    show _ = (List.filter q [x]).length
    by_cases e : q x = true
    · rw [if_pos e, List.filter_cons_of_pos e]; rfl
    · rw [if_neg e, List.filter_cons_of_neg e]; rfl
theorem evs_len {p : Prg} {i : Nat} {y : Prt} {pl : List Int} {z : Int} {c l : Nm} (hy : p.ps[i]? = some y) (hz : pl[i]? = some z) : (evsAt p (hitT p pl c l) i).length = (y.as.filter fun a => decide (a.s = z ∧ a.g = .tak c l)).length := by
  unfold evsAt
  rw [asAt_is hy]
  have := filter_take (fun a : Arw => decide (a.s = z ∧ a.g = .tak c l)) y.as i (hitT p pl c l) (fun k a hk => by
    unfold hitT
    rw [awO_at hy, hk]
    show decide (some a.s = pl[i]? ∧ a.g = Dg.tak c l) = _
    rw [hz]
    simp only [Option.some.injEq]) y.as.length (Nat.le_refl _)
  rw [this, List.take_length]
theorem flat_one {α : Type} (g : Nat → List α) {b : Nat} : ∀ n : Nat, (∀ i, i < n → (g i).length ≤ b) → (∀ i j, i < n → j < n → g i ≠ [] → g j ≠ [] → i = j) → ((List.range n).flatMap g).length ≤ b
  | 0, _, _ => by simp
  | n + 1, h, u => by
    rw [flat_step, List.length_append]
    by_cases e : g n = []
    · rw [e]
      have := flat_one g n (fun i hi => h i (by omega)) fun i j hi hj => u i j (by omega) (by omega)
      simpa using this
    · have : (List.range n).flatMap g = [] := by
        rw [List.flatMap_eq_nil_iff]
        intro i hi
        have hi := List.mem_range.mp hi
        by_cases e2 : g i = []
        · exact e2
        · have := u i n (by omega) (by omega) e2 e
          omega
      rw [this]
      have := h n (by omega)
      simpa using this
/-- what is among the takes -/
theorem mem_takes {p : Prg} {pl : List Int} {c l : Nm} {t : Nat × Nat} (h : t ∈ takesL p pl c l) : ∃ a, awO p t = some a ∧ some a.s = pl[t.1]? ∧ a.g = .tak c l := by
  obtain ⟨i, _, h⟩ := List.mem_flatMap.mp h
  have h2 := (List.mem_filter.mp h).2
  unfold hitT at h2
  cases e : awO p t with
  | none => rw [e] at h2; cases h2
  | some a =>
    rw [e] at h2
    have := of_decide_eq_true h2
    exact ⟨a, rfl, this.1, this.2⟩
/-- the party of an event that takes is the taker -/
theorem taker_of {p : Prg} {t : Nat × Nat} {a : Arw} {c l : Nm} (o : Ok p) (ha : awO p t = some a) (hg : a.g = .tak c l) : ∃ y ch, p.ps[t.1]? = some y ∧ ch ∈ p.cs ∧ ch.n = c ∧ ch.t = y.n := by
  obtain ⟨y, hy, hym, hya, _⟩ := awO_is ha
  have := o.ow y hym a (List.mem_of_getElem? hya)
  rw [hg] at this
  obtain ⟨ch, h1, h2, h3⟩ := this
  exact ⟨y, ch, hy, h1, h2, h3⟩
theorem same_ch {p : Prg} {a b : Chn} (o : Ok p) (ha : a ∈ p.cs) (hb : b ∈ p.cs) (e : a.n = b.n) : a = b := by
  obtain ⟨i, hi⟩ := List.getElem?_of_mem ha
  obtain ⟨j, hj⟩ := List.getElem?_of_mem hb
  have := nd_ix o.cn hi hj e
  subst this
  rw [hi] at hj
  exact Option.some.inj hj
theorem takes_len {p : Prg} {pl : List Int} {c l : Nm} (o : Ok p) (hpl : pl.length = p.ps.length) : (takesL p pl c l).length ≤ 3 := by
  unfold takesL
  refine flat_one _ _ (fun i hi => ?_) fun i j hi hj h1 h2 => ?_
  · rw [evs_len (List.getElem?_eq_getElem hi) (List.getElem?_eq_getElem (by omega))]
    exact o.gr _ (List.getElem_mem hi) _ _
  · have at_ : ∀ i, i < p.ps.length → evsAt p (hitT p pl c l) i ≠ [] → ∃ y ch, p.ps[i]? = some y ∧ ch ∈ p.cs ∧ ch.n = c ∧ ch.t = y.n := by
      intro i hi h
      obtain ⟨t, ht⟩ := List.exists_mem_of_ne_nil _ h
      have hm : t ∈ takesL p pl c l := List.mem_flatMap.mpr ⟨i, List.mem_range.mpr hi, ht⟩
      obtain ⟨a, ha, _, hg⟩ := mem_takes hm
      have e : t.1 = i := by
        obtain ⟨k, _, rfl⟩ := List.mem_map.mp (List.mem_filter.mp ht).1
        rfl
      have := taker_of o ha hg
      rw [e] at this
      exact this
    obtain ⟨y1, c1, a1, a2, a3, a4⟩ := at_ i hi h1
    obtain ⟨y2, c2, b1, b2, b3, b4⟩ := at_ j hj h2
    have := same_ch o a2 b2 (a3.trans b3.symm)
    subst this
    exact nd_ix o.pn a1 b1 (a4.symm.trans b4)
section
variable {p : Prg} {pl : List Int} {e : Nat × Nat} {ch : Chn} {L : List Nm} {c l : Nm}
theorem sc_put : stepsCh p pl e ch L (.put c l) = if ch.f = .c then (takesL p pl c l).map fun t => [e, t] else [[e]] := rfl
theorem sc_tak : stepsCh p pl e ch L (.tak c l) = if ch.f = .c then [] else if l ∈ L.take 1 then [[e]] else if ch.f = .q ∨ l ∉ L then [] else [[e]] := rfl
end
theorem stepsCh_len {p : Prg} {pl : List Int} {e : Nat × Nat} {ch : Chn} {L : List Nm} {g : Dg} (o : Ok p) (hpl : pl.length = p.ps.length) : (stepsCh p pl e ch L g).length ≤ 3 := by
  cases g with
  | doo _ => exact Nat.le_of_ble_eq_true rfl
  | put c l =>
    rw [sc_put]
    split
    · rw [List.length_map]; exact takes_len o hpl
    · exact Nat.le_of_ble_eq_true rfl
  | tak c l =>
    rw [sc_tak]
    split
    · exact Nat.zero_le _
    · split
      · exact Nat.le_of_ble_eq_true rfl
      · split
        · exact Nat.zero_le _
        · exact Nat.le_of_ble_eq_true rfl
theorem stepsE_len {p : Prg} {pl : List Int} {ly : List (List Nm)} {e : Nat × Nat} (o : Ok p) (hpl : pl.length = p.ps.length) : (stepsE p pl ly e).length ≤ 3 := by
  unfold stepsE
  cases awO p e with
  | none => exact Nat.zero_le _
  | some a =>
    dsimp only
    split
    · exact stepsCh_len o hpl
    · exact Nat.zero_le _
theorem stepsAt_len {p : Prg} {pl : List Int} {ly : List (List Nm)} {i : Nat} (o : Ok p) (hpl : pl.length = p.ps.length) (hi : i < p.ps.length) : (stepsAt p pl ly i).length ≤ 21 := by
  unfold stepsAt
  have h := len_flat (fun k => stepsE p pl ly (i, k)) (asAt p i).length fun k _ => stepsE_len o hpl
  have h2 : (asAt p i).length ≤ 7 := by
    rw [asAt_is (List.getElem?_eq_getElem hi)]
    exact o.al _ (List.getElem_mem hi)
  omega
theorem all_len {p : Prg} {pl : List Int} {ly : List (List Nm)} (o : Ok p) (hpl : pl.length = p.ps.length) : (allSteps p pl ly).length < 64 := by
  have h := len_flat (stepsAt p pl ly) p.ps.length fun i hi => stepsAt_len (ly := ly) o hpl hi
  have := o.pl
  show ((List.range p.ps.length).flatMap (stepsAt p pl ly)).length < 64
  omega
theorem steps_ne {p : Prg} {pl : List Int} {e : Nat × Nat} {ch : Chn} {L : List Nm} {g : Dg} : ∀ x ∈ stepsCh p pl e ch L g, x ≠ [] ∧ x.head? = some e := by
  intro x hx
  cases g with
  | doo _ =>
    rw [List.mem_singleton.mp hx]
    exact ⟨by simp, rfl⟩
  | put c l =>
    rw [sc_put] at hx
    split at hx
    · obtain ⟨t, _, rfl⟩ := List.mem_map.mp hx
      exact ⟨by simp, rfl⟩
    · rw [List.mem_singleton.mp hx]
      exact ⟨by simp, rfl⟩
  | tak c l =>
    rw [sc_tak] at hx
    split at hx
    · exact absurd hx List.not_mem_nil
    · split at hx
      · rw [List.mem_singleton.mp hx]
        exact ⟨by simp, rfl⟩
      · split at hx
        · exact absurd hx List.not_mem_nil
        · rw [List.mem_singleton.mp hx]
          exact ⟨by simp, rfl⟩
theorem mem_all {p : Prg} {pl : List Int} {ly : List (List Nm)} {x : List (Nat × Nat)} (h : x ∈ allSteps p pl ly) : ∃ e a, awO p e = some a ∧ some a.s = pl[e.1]? ∧ x ∈ stepsCh p pl e (clOf p ly a.g).1 (clOf p ly a.g).2 a.g := by
  obtain ⟨i, _, h⟩ := List.mem_flatMap.mp h
  obtain ⟨k, _, h⟩ := List.mem_flatMap.mp h
  unfold stepsE at h
  cases e : awO p (i, k) with
  | none => rw [e] at h; exact absurd h List.not_mem_nil
  | some a =>
    rw [e] at h
    dsimp only at h
    split at h
    · rename_i h2
      exact ⟨_, a, e, h2, h⟩
    · exact absurd h List.not_mem_nil
section
variable {Q : D → Sto → Prop} {st : Sto}
theorem spec_steps {p : Prg} {n b : Nat} {pl : List Int} {ly : List (List Nm)} (o : Ok p) (hs : st[n]? = some (.lst (pl.map D.int))) (hpl : pl.length = p.ps.length) (hly : LyS b ly st) (hl : ly.length = p.cs.length)
    (q : ∀ so : List (List (Nat × Nat)), (∀ x ∈ so, x ∈ allSteps p pl ly) → (∀ x ∈ allSteps p pl ly, partK p x ∈ so.map (partK p)) → (so.map (partK p)).Pairwise (fun a b => ltK a b = true) → Q (.lst (so.map (partD p))) st) : wp (m__law_steps [p.d, .ref n, lyD b p.cs.length]) Q st := by
  refine w_run' [.val p.d, .val (.ref n), .val (lyD b p.cs.length), .no, .no, .no] rfl ?_
  unfold s__law_steps
  false_or_by_contra
  refine ⟨_, rfl, by have := o.pl; omega, ?_⟩
  refine for_range (fun i ρ s => s = st ∧ ∃ x4 x5, ρ = [.val p.d, .val (.ref n), .val (lyD b p.cs.length), .val (.lst (((List.range i).flatMap (stepsAt p pl ly)).map (partD p))), x4, x5]) ?_ ⟨rfl, _, _, rfl⟩ ?_
  · rintro i ρ s hi ⟨rfl, x4, x5, rfl⟩
    obtain ⟨y, hy⟩ : ∃ y, p.ps[i]? = some y := ⟨_, List.getElem?_eq_getElem hi⟩
    obtain ⟨z, hpi⟩ : ∃ z, pl[i]? = some z := ⟨_, List.getElem?_eq_getElem (by omega)⟩
    have hym := List.mem_of_getElem? hy
    have hal := o.al y hym
    have hi3 : i ≤ 3 := by have := o.pl; omega
    have hfl := len_flat (stepsAt p pl ly) i fun j hj => stepsAt_len (ly := ly) o hpl (by omega)
    refine ⟨_, rfl, ?_⟩
    false_or_by_contra
    refine ⟨_, rfl, by omega, ?_⟩
    refine for_range (fun k ρ s' => s' = s ∧ ∃ x5, ρ = [.val p.d, .val (.ref n), .val (lyD b p.cs.length), .val (.lst (((List.range i).flatMap (stepsAt p pl ly) ++ (List.range k).flatMap fun k => stepsE p pl ly (i, k)).map (partD p))), .val (.int i), x5]) ?_ ⟨rfl, x5, by simp⟩ ?_
    · rintro k ρ s' hk ⟨rfl, x5, rfl⟩
      obtain ⟨a, hyk⟩ : ∃ a, y.as[k]? = some a := ⟨_, List.getElem?_eq_getElem hk⟩
      have ha : awO p (i, k) = some a := by rw [awO_at hy]; exact hyk
      have hkl := len_flat (fun k => stepsE p pl ly (i, k)) k fun j _ => stepsE_len (ly := ly) o hpl
      have hE : stepsE p pl ly (i, k) = if a.s = z then stepsCh p pl (i, k) (clOf p ly a.g).1 (clOf p ly a.g).2 a.g else [] := by
        unfold stepsE
        rw [ha]
        show (if some a.s = pl[i]? then _ else _) = _
        rw [hpi]
        simp only [Option.some.injEq]
      refine ⟨_, rfl, ?_⟩
      false_or_by_contra
      rw [flat_step, hE]
      refine k_if (fun h => ?_) fun h => ?_
      · rw [if_pos (of_decide_eq_true h)]
        obtain ⟨j, ch, L, hc, _⟩ := chAt_of o hl hym (List.mem_of_getElem? hyk)
        false_or_by_contra
        show wp (m__law_steps_by [p.d, .ref n, lyD b p.cs.length, evD y.n k]) _ s'
        rw [← evO_at hy]
        refine spec_steps_by o hs hpl hly ha hc ?_
        rw [steps_cl o hl hc]
        have h3 := stepsCh_len (e := (i, k)) (ch := ch) (L := L) (g := a.g) o hpl
        refine w_addL (small3 (by rw [List.length_map, List.length_map, List.length_append]; omega)) ?_
        rw [← List.map_append, List.append_assoc]
        exact .inl ⟨rfl, rfl, _, rfl⟩
      · rw [if_neg (of_decide_eq_false h)]
        false_or_by_contra
        exact .inl ⟨rfl, rfl, .val (.int k), by simp⟩
    · rintro ρ s' ⟨rfl, x5, rfl⟩
      refine .inl ⟨rfl, rfl, .val (.int i), x5, ?_⟩
      rw [flat_step]
      unfold stepsAt
      rw [asAt_is hy]
  · rintro ρ s ⟨rfl, x4, x5, rfl⟩
    false_or_by_contra
    refine w_ssetP (fun x hx => ?_) (all_len o hpl) q
    obtain ⟨e, a, _, _, h⟩ := mem_all hx
    exact (steps_ne x h).1
end
end LK
set_option linter.all false
set_option maxRecDepth 100000
set_option maxHeartbeats 4000000
/-! R9: one event is done; which steps are wished; the walk. -/
namespace LK
open PySem PySem.Spec L2 PL RN
/-- what lies behind g -/
def actLy (p : Prg) (ly : List (List Nm)) (g : Dg) : List (List Nm) := match g with
  | .doo _ => ly
  | .put c l => ly.set (p.cs.findIdx fun ch => decide (ch.n = c)) ((clOf p ly g).2 ++ [l])
  | .tak c l => ly.set (p.cs.findIdx fun ch => decide (ch.n = c)) ((clOf p ly g).2.erase l)
def actS (p : Prg) (S : List Int × List (List Nm)) (e : Nat × Nat) : List Int × List (List Nm) := match awO p e with
  | none => S
  | some a => (S.1.set e.1 a.e, actLy p S.2 a.g)
def actsS (p : Prg) (S : List Int × List (List Nm)) (es : List (Nat × Nat)) : List Int × List (List Nm) := es.foldl (actS p) S
theorem find_ix {p : Prg} {j : Nat} {ch : Chn} (o : Ok p) (h : p.cs[j]? = some ch) : (p.cs.findIdx fun x => decide (x.n = ch.n)) = j := by
  have hlt := (List.getElem?_eq_some_iff.mp h).1
  have hg := (List.getElem?_eq_some_iff.mp h).2
  rw [List.findIdx_eq hlt]
  refine ⟨by rw [hg]; simp, fun m hm => ?_⟩
  have hm' : p.cs[m]? = some p.cs[m] := List.getElem?_eq_getElem (by omega)
  refine decide_eq_false fun e => ?_
  have := nd_ix o.cn hm' h e
  omega
theorem act_put {p : Prg} {ly : List (List Nm)} {j : Nat} {ch : Chn} {L : List Nm} {l : Nm} (o : Ok p) (hl : ly.length = p.cs.length) (h : ChAt p ly (.put ch.n l) j ch L) : actLy p ly (.put ch.n l) = ly.set j (L ++ [l]) := by
  unfold actLy
  dsimp only
  rcases clOf_is o hl h with e | e
  · cases e
  · rw [e, find_ix o h.1]
theorem act_tak {p : Prg} {ly : List (List Nm)} {j : Nat} {ch : Chn} {L : List Nm} {l : Nm} (o : Ok p) (hl : ly.length = p.cs.length) (h : ChAt p ly (.tak ch.n l) j ch L) : actLy p ly (.tak ch.n l) = ly.set j (L.erase l) := by
  unfold actLy
  dsimp only
  rcases clOf_is o hl h with e | e
  · cases e
  · rw [e, find_ix o h.1]
theorem act_len {p : Prg} {ly : List (List Nm)} {g : Dg} : (actLy p ly g).length = ly.length := by
  cases g <;> simp [actLy]
theorem actS_len {p : Prg} {S : List Int × List (List Nm)} {e : Nat × Nat} : (actS p S e).1.length = S.1.length ∧ (actS p S e).2.length = S.2.length := by
  unfold actS
  cases awO p e with
  | none => exact ⟨rfl, rfl⟩
  | some a => exact ⟨by simp, act_len⟩
theorem actsS_len {p : Prg} : ∀ {es : List (Nat × Nat)} {S : List Int × List (List Nm)}, (actsS p S es).1.length = S.1.length ∧ (actsS p S es).2.length = S.2.length
  | [], _ => ⟨rfl, rfl⟩
  | e :: es, S => by
    have h1 := actsS_len (p := p) (es := es) (S := actS p S e)
    have h2 := actS_len (p := p) (S := S) (e := e)
    exact ⟨h1.1.trans h2.1, h1.2.trans h2.2⟩
theorem erase_nm {L : List Nm} {l : Nm} : (L.map Nm.x).erase l.x = (L.erase l).map Nm.x := by
  induction L with
  | nil => rfl
  | cons a L ih =>
    by_cases e : a = l
    · subst e; rw [List.erase_cons_head, List.map_cons, List.erase_cons_head]
    · have e2 : ¬a.x = l.x := fun h => e (Nm.ext' h)
      rw [List.erase_cons_tail (by simpa using e), List.map_cons, List.map_cons, List.erase_cons_tail (by simpa using e2), ih]
/-- the store bears the places and the letters -/
structure Bears (n b : Nat) (pl : List Int) (ly : List (List Nm)) (s : Sto) : Prop where
  pls : s[n]? = some (.lst (pl.map D.int))
  lys : LyS b ly s
  lt : n < b
theorem LyS.set {b j : Nat} {ly : List (List Nm)} {L L' : List Nm} {s : Sto} (h : LyS b ly s) (hj : ly[j]? = some L) : LyS b (ly.set j L') (s.set (b + j) (.lst (txD L'))) := by
  intro i M hi
  by_cases e : j = i
  · subst e
    rw [set_self hj] at hi
    cases hi
    exact set_self (h _ _ hj)
  · rw [List.getElem?_set_ne e] at hi
    exact set_oth (by omega) (h _ _ hi)
section
variable {Q : D → Sto → Prop} {st : Sto}
theorem spec_act {p : Prg} {n b : Nat} {pl : List Int} {ly : List (List Nm)} {e : Nat × Nat} {a : Arw} (o : Ok p) (B : Bears n b pl ly st) (hpl : pl.length = p.ps.length) (hl : ly.length = p.cs.length) (ha : awO p e = some a)
    (hin : ∀ c l, a.g = .tak c l → l ∈ (clOf p ly a.g).2) (hll : ∀ L ∈ ly, L.length ≤ 1000) (q : ∀ s', Bears n b (pl.set e.1 a.e) (actLy p ly a.g) s' → Q .non s') : wp (m__law_act [p.d, .ref n, lyD b p.cs.length, evO p e]) Q st := by
  obtain ⟨y, hy, hym, hya, hev⟩ := awO_is ha
  have hlt : e.1 < p.ps.length := (List.getElem?_eq_some_iff.mp hy).1
  refine w_run' [.val p.d, .val (.ref n), .val (lyD b p.cs.length), .val (evO p e), .no, .no, .no] rfl ?_
  unfold s__law_act
  false_or_by_contra
  refine ⟨_, rfl, by have := o.pl; omega, ?_⟩
  rw [hev]
  refine for_range (fun i ρ s => Bears n b (if i ≤ e.1 then pl else pl.set e.1 a.e) ly s ∧ ∃ x4, ρ = [.val p.d, .val (.ref n), .val (lyD b p.cs.length), .val (evD y.n e.2), x4, .no, .no]) ?_ ⟨by rw [if_pos (Nat.zero_le _)]; exact B, _, rfl⟩ ?_
  · rintro i ρ s hi ⟨B', x4, rfl⟩
    obtain ⟨z, hz⟩ : ∃ z, p.ps[i]? = some z := ⟨_, List.getElem?_eq_getElem hi⟩
    refine ⟨_, rfl, ?_⟩
    false_or_by_contra
    refine k_if (fun h => ?_) fun h => ?_
    · have hie : i = e.1 := nd_ix o.pn hz hy (of_decide_eq_true h)
      subst hie
      rw [hy] at hz
      cases hz
      rw [if_pos (Nat.le_refl _)] at B'
      false_or_by_contra
      refine w_lset (n := n) ?_
      false_or_by_contra
      refine ⟨rfl, ?_⟩
      false_or_by_contra
      refine ⟨_, rfl, _, e.1, B'.pls, ixN_at (by rw [List.length_map]; omega), ?_⟩
      refine .inl ⟨rfl, ?_, _, rfl⟩
      rw [if_neg (by omega)]
      refine ⟨?_, fun j L hj => set_oth (by have := B'.lt; omega) (B'.lys j L hj), B'.lt⟩
      rw [set_self B'.pls, List.map_set]
    · have hne : i ≠ e.1 := by
        intro e1
        subst e1
        rw [hy] at hz
        cases hz
        exact absurd rfl (of_decide_eq_false h)
      false_or_by_contra
      refine .inl ⟨rfl, ?_, _, rfl⟩
      by_cases h2 : i + 1 ≤ e.1
      · rw [if_pos h2]; rw [if_pos (by omega)] at B'; exact B'
      · rw [if_neg h2]; rw [if_neg (by omega)] at B'; exact B'
  · rintro ρ s ⟨B', x4, rfl⟩
    rw [if_neg (by omega)] at B'
    obtain ⟨j, ch, L, hc, _⟩ := chAt_of o hl hym (List.mem_of_getElem? hya)
    false_or_by_contra
    rw [← hev]
    refine spec_doing o ha ?_
    false_or_by_contra
    refine ⟨_, rfl, by have := o.cl; omega, ?_⟩
    refine for_range (fun m ρ s => Bears n b (pl.set e.1 a.e) (if Dg.chan a.g = none ∨ m ≤ j then ly else actLy p ly a.g) s ∧ ∃ x6, ρ = [.val p.d, .val (.ref n), .val (lyD b p.cs.length), .val (evO p e), x4, .val a.g.d, x6]) ?_ ⟨by rw [if_pos (.inr (Nat.zero_le _))]; exact B', _, rfl⟩ ?_
    · rintro m ρ s hm ⟨B2, x6, rfl⟩
      obtain ⟨cm, hcm⟩ : ∃ cm, p.cs[m]? = some cm := ⟨_, List.getElem?_eq_getElem hm⟩
      refine ⟨_, rfl, ?_⟩
      cases hg : a.g with
      | doo w =>
        rw [hg] at B2
        false_or_by_contra
        refine .inl ⟨rfl, ?_, _, rfl⟩
        rw [if_pos (.inl rfl)] at B2 ⊢
        exact B2
      | put c l =>
        rw [hg] at hc B2
        obtain ⟨hj, h1, hL⟩ := hc
        subst h1
        have hap := act_put o hl (show ChAt p ly (.put ch.n l) j ch L from ⟨hj, rfl, hL⟩)
        have hLl := hll L (List.mem_of_getElem? hL)
        false_or_by_contra
        refine k_if (fun h => ?_) fun h => ?_
        · have hmj : m = j := nd_ix o.cn hcm hj (of_decide_eq_true h)
          subst hmj
          rw [if_pos (.inr (Nat.le_refl _))] at B2
          false_or_by_contra
          refine w_appE ?_
          false_or_by_contra
          refine w_ly hm ⟨_, _, rfl, B2.lys _ _ hL, ?_⟩
          false_or_by_contra
          refine ⟨_, B2.lys _ _ hL, small3 (by unfold txD; rw [List.length_map, List.length_map]; omega), ?_⟩
          false_or_by_contra
          refine .inl ⟨rfl, ?_, _, rfl⟩
          rw [if_neg (fun z => z.elim (fun z => by cases z) (by omega)), hap]
          have e2 : txD L ++ [D.str l.x] = txD (L ++ [l]) := by unfold txD; simp
          rw [e2]
          exact ⟨set_oth (by have := B2.lt; omega) B2.pls, B2.lys.set hL, B2.lt⟩
        · have hne : m ≠ j := fun e1 => by
            subst e1
            rw [hcm] at hj
            cases hj
            exact absurd rfl (of_decide_eq_false h)
          false_or_by_contra
          refine .inl ⟨rfl, ?_, _, rfl⟩
          by_cases h2 : m + 1 ≤ j
          · rw [if_pos (.inr h2)]; rw [if_pos (.inr (by omega))] at B2; exact B2
          · rw [if_neg (fun z => z.elim (fun z => by cases z) h2)]; rw [if_neg (fun z => z.elim (fun z => by cases z) (by omega))] at B2; exact B2
      | tak c l =>
        rw [hg] at hc B2
        obtain ⟨hj, h1, hL⟩ := hc
        subst h1
        have hap := act_tak o hl (show ChAt p ly (.tak ch.n l) j ch L from ⟨hj, rfl, hL⟩)
        have hmem : l ∈ L := by
          have := hin _ _ hg
          rw [hg] at this
          rcases clOf_is o hl (show ChAt p ly (.tak ch.n l) j ch L from ⟨hj, rfl, hL⟩) with e | e
          · cases e
          · rw [e] at this; exact this
        false_or_by_contra
        refine k_if (fun h => ?_) fun h => ?_
        · have hmj : m = j := nd_ix o.cn hcm hj (of_decide_eq_true h)
          subst hmj
          rw [if_pos (.inr (Nat.le_refl _))] at B2
          false_or_by_contra
          refine w_remE ?_
          false_or_by_contra
          refine w_ly hm ⟨_, _, rfl, B2.lys _ _ hL, ?_⟩
          false_or_by_contra
          refine ⟨L.map Nm.x, l.x, B2.lys _ _ hL, rfl, List.mem_map_of_mem hmem, ?_⟩
          refine .inl ⟨rfl, ?_, _, rfl⟩
          rw [if_neg (fun z => z.elim (fun z => by cases z) (by omega)), hap, erase_nm]
          exact ⟨set_oth (by have := B2.lt; omega) B2.pls, B2.lys.set hL, B2.lt⟩
        · have hne : m ≠ j := fun e1 => by
            subst e1
            rw [hcm] at hj
            cases hj
            exact absurd rfl (of_decide_eq_false h)
          false_or_by_contra
          refine .inl ⟨rfl, ?_, _, rfl⟩
          by_cases h2 : m + 1 ≤ j
          · rw [if_pos (.inr h2)]; rw [if_pos (.inr (by omega))] at B2; exact B2
          · rw [if_neg (fun z => z.elim (fun z => by cases z) h2)]; rw [if_neg (fun z => z.elim (fun z => by cases z) (by omega))] at B2; exact B2
    · rintro ρ s ⟨B2, x6, rfl⟩
      false_or_by_contra
      refine q s ?_
      cases hg : a.g with
      | doo w =>
        rw [hg, if_pos (.inl rfl)] at B2
        exact B2
      | put c l =>
        rw [hg] at hc B2
        have hjl := (List.getElem?_eq_some_iff.mp hc.1).1
        rw [if_neg (fun z => z.elim (fun z => by cases z) (by omega))] at B2
        exact B2
      | tak c l =>
        rw [hg] at hc B2
        have hjl := (List.getElem?_eq_some_iff.mp hc.1).1
        rw [if_neg (fun z => z.elim (fun z => by cases z) (by omega))] at B2
        exact B2
end
end LK
set_option linter.all false
set_option maxRecDepth 100000
set_option maxHeartbeats 4000000
/-! R10: steps make runs. -/
namespace LK
open PySem PySem.Spec L2 PL RN
/-- nothing lies on calls -/
def CallE (p : Prg) (ly : List (List Nm)) : Prop := ∀ (j : Nat) (ch : Chn) (L : List Nm), p.cs[j]? = some ch → ch.f = .c → ly[j]? = some L → L = []
def WalkOk (p : Prg) (S : List Int × List (List Nm)) : List (List (Nat × Nat)) → Prop
  | [] => True
  | x :: r => x ∈ allSteps p S.1 S.2 ∧ WalkOk p (actsS p S x) r
theorem walk_snoc {p : Prg} {y : List (Nat × Nat)} : ∀ {xs : List (List (Nat × Nat))} {S : List Int × List (List Nm)}, WalkOk p S xs → y ∈ allSteps p (actsS p S xs.flatten).1 (actsS p S xs.flatten).2 → WalkOk p S (xs ++ [y])
  | [], S, _, h => ⟨h, trivial⟩
  | x :: xs, S, ⟨h1, h2⟩, h => by
    refine ⟨h1, walk_snoc h2 ?_⟩
    have e : actsS p S (x :: xs).flatten = actsS p (actsS p S x) xs.flatten := by
      unfold actsS; rw [List.flatten_cons, List.foldl_append]
    rw [e] at h
    exact h
theorem walk_take {p : Prg} : ∀ {xs : List (List (Nat × Nat))} {S : List Int × List (List Nm)} (k : Nat), WalkOk p S xs → WalkOk p S (xs.take k)
  | [], _, k, _ => by rw [List.take_nil]; trivial
  | _ :: _, _, 0, _ => trivial
  | x :: xs, S, k + 1, h => ⟨h.1, walk_take k h.2⟩
theorem actOk_act {p : Prg} {pl : List Int} {ly ly' : List (List Nm)} {es : List (Nat × Nat)} {g : Dg} (o : Ok p) (hl : ly.length = p.cs.length) (h : ActOk p pl ly es ly' g) : ly' = actLy p ly g := by
  cases g with
  | doo _ => exact h
  | put c l =>
    obtain ⟨j, ch, L, h1, rfl, h3, _, h5⟩ := h
    rw [h5, act_put o hl (show ChAt p ly (.put ch.n l) j ch L from ⟨h1, rfl, h3⟩)]
  | tak c l =>
    obtain ⟨j, ch, L, h1, rfl, h3, _, _, h5⟩ := h
    rw [h5, act_tak o hl (show ChAt p ly (.tak ch.n l) j ch L from ⟨h1, rfl, h3⟩)]
/-- the events of es may be done one by one -/
def ActsOk (p : Prg) : List Int × List (List Nm) → List (Nat × Nat) → Prop
  | _, [] => True
  | S, e :: es => (∃ a, awO p e = some a ∧ ∀ c l, a.g = .tak c l → l ∈ (clOf p S.2 a.g).2) ∧ ActsOk p (actS p S e) es
theorem run_acts {p : Prg} (o : Ok p) : ∀ {es : List (Nat × Nat)} {pl : List Int} {ly : List (List Nm)}, ly.length = p.cs.length → RunOk p pl ly es → ActsOk p (pl, ly) es
  | [], _, _, _, _ => trivial
  | e :: es, pl, ly, hl, ⟨a, ha, hp, ly', hact, hr⟩ => by
    have e1 := actOk_act o hl hact
    have e2 : actS p (pl, ly) e = (pl.set e.1 a.e, ly') := by
      unfold actS
      rw [ha, e1]
    refine ⟨⟨a, ha, fun c l hg => ?_⟩, ?_⟩
    · rw [hg] at hact ⊢
      obtain ⟨j, ch, L, h1, rfl, h3, h4, _, _⟩ := hact
      rcases clOf_is o hl (show ChAt p ly (.tak ch.n l) j ch L from ⟨h1, rfl, h3⟩) with h | h
      · cases h
      · rw [h]; exact h4
    · rw [e2]
      refine run_acts o ?_ hr
      rw [e1, act_len]; exact hl
theorem call_set {p : Prg} {ly : List (List Nm)} {j : Nat} {ch : Chn} {L : List Nm} (h : CallE p ly) (hj : p.cs[j]? = some ch) (hL : ch.f = .c → L = []) : CallE p (ly.set j L) := by
  intro i c M h1 h2 h3
  by_cases e : j = i
  · subst e
    rw [hj] at h1
    cases h1
    rw [List.getElem?_set] at h3
    simp at h3
    rw [← h3.2]
    exact hL h2
  · rw [List.getElem?_set_ne e] at h3
    exact h i c M h1 h2 h3
theorem step_ok {p : Prg} {pl : List Int} {ly : List (List Nm)} {x : List (Nat × Nat)} (o : Ok p) (hl : ly.length = p.cs.length) (hc : CallE p ly) (hx : x ∈ allSteps p pl ly) :
    CallE p (actsS p (pl, ly) x).2 ∧ ∀ es, RunOk p (actsS p (pl, ly) x).1 (actsS p (pl, ly) x).2 es → RunOk p pl ly (x ++ es) := by
  obtain ⟨e, a, ha, hs, hx⟩ := mem_all hx
  obtain ⟨y, hy, hym, hya, _⟩ := awO_is ha
  obtain ⟨j, ch, L, hch, hput, htak⟩ := chAt_of o hl hym (List.mem_of_getElem? hya)
  rw [steps_cl o hl hch] at hx
  have one : actS p (pl, ly) e = (pl.set e.1 a.e, actLy p ly a.g) := by unfold actS; rw [ha]
  cases hg : a.g with
  | doo w =>
    rw [hg] at hx
    have hx := List.mem_singleton.mp hx
    subst hx
    have e1 : actsS p (pl, ly) [e] = (pl.set e.1 a.e, ly) := by
      show actS p (pl, ly) e = _
      rw [one, hg]; rfl
    rw [e1]
    exact ⟨hc, fun es hr => ⟨a, ha, hs.symm, ly, by rw [hg]; rfl, hr⟩⟩
  | put c l =>
    have hcs := hput c l hg
    rw [hg] at hx hch
    obtain ⟨h1, rfl, h3⟩ := hch
    have hap := act_put o hl (show ChAt p ly (.put ch.n l) j ch L from ⟨h1, rfl, h3⟩)
    rw [sc_put] at hx
    by_cases hf : ch.f = .c
    · rw [if_pos hf] at hx
      obtain ⟨t, ht, rfl⟩ := List.mem_map.mp hx
      obtain ⟨a', ha', hs', hg'⟩ := mem_takes ht
      obtain ⟨y', ch', hy', hcm', hcn', hct'⟩ := taker_of o ha' hg'
      have hcm := List.mem_of_getElem? h1
      have := same_ch o hcm' hcm hcn'
      subst this
      have hne : e.1 ≠ t.1 := by
        intro e1
        rw [e1, hy'] at hy
        cases hy
        exact o.st _ hcm (hcs.trans hct'.symm)
      have hL := hc j ch' L h1 hf h3
      subst hL
      have hly1 : (ly.set j [l])[j]? = some [l] := set_self h3
      have hl1 : (ly.set j [l]).length = p.cs.length := by rw [List.length_set]; exact hl
      have hat := act_tak o hl1 (show ChAt p (ly.set j [l]) (.tak ch'.n l) j ch' [l] from ⟨h1, rfl, hly1⟩)
      have he2 : [l].erase l = [] := by simp
      rw [he2, List.set_set] at hat
      have e1 : actsS p (pl, ly) [e, t] = ((pl.set e.1 a.e).set t.1 a'.e, ly.set j []) := by
        show actS p (actS p (pl, ly) e) t = _
        rw [one, hg, hap]
        unfold actS
        rw [ha']
        show ((pl.set e.1 a.e).set t.1 a'.e, actLy p (ly.set j ([] ++ [l])) a'.g) = _
        rw [hg', List.nil_append, hat]
      rw [e1]
      refine ⟨call_set hc h1 fun _ => rfl, fun es hr => ?_⟩
      refine ⟨a, ha, hs.symm, ly.set j ([] ++ [l]), ?_, a', ha', ?_, ly.set j [], ?_, hr⟩
      · rw [hg]
        exact ⟨j, ch', [], h1, rfl, h3, fun _ => ⟨t, es, a', rfl, ha', hg', hs'.symm⟩, rfl⟩
      · rw [List.getElem?_set_ne hne]; exact hs'.symm
      · rw [hg']
        exact ⟨j, ch', [l], h1, rfl, hly1, List.mem_singleton.mpr rfl, fun _ => rfl, by rw [he2, List.nil_append, List.set_set]⟩
    · rw [if_neg hf] at hx
      have hx := List.mem_singleton.mp hx
      subst hx
      have e1 : actsS p (pl, ly) [e] = (pl.set e.1 a.e, ly.set j (L ++ [l])) := by
        show actS p (pl, ly) e = _
        rw [one, hg, hap]
      rw [e1]
      refine ⟨call_set hc h1 fun z => absurd z hf, fun es hr => ⟨a, ha, hs.symm, _, ?_, hr⟩⟩
      rw [hg]
      exact ⟨j, ch, L, h1, rfl, h3, fun z => absurd z hf, rfl⟩
  | tak c l =>
    rw [hg] at hx hch
    obtain ⟨h1, rfl, h3⟩ := hch
    have hat := act_tak o hl (show ChAt p ly (.tak ch.n l) j ch L from ⟨h1, rfl, h3⟩)
    rw [sc_tak] at hx
    by_cases hf : ch.f = .c
    · rw [if_pos hf] at hx; exact absurd hx List.not_mem_nil
    · rw [if_neg hf] at hx
      have key : x = [e] ∧ l ∈ L ∧ (ch.f ≠ .b → L.head? = some l) := by
        by_cases h4 : l ∈ L.take 1
        · rw [if_pos h4] at hx
          refine ⟨List.mem_singleton.mp hx, List.mem_of_mem_take h4, fun _ => ?_⟩
          cases L with
          | nil => simp at h4
          | cons m ms => simp at h4; rw [h4]; rfl
        · rw [if_neg h4] at hx
          by_cases h5 : ch.f = .q ∨ l ∉ L
          · rw [if_pos h5] at hx; exact absurd hx List.not_mem_nil
          · rw [if_neg h5] at hx
            have h6 : l ∈ L := by
              by_cases h : l ∈ L
              · exact h
              · exact absurd (.inr h) h5
            refine ⟨List.mem_singleton.mp hx, h6, fun hb => ?_⟩
            cases hh : ch.f with
            | q => exact absurd (.inl hh) h5
            | b => exact absurd hh hb
            | c => exact absurd hh hf
      obtain ⟨rfl, k1, k2⟩ := key
      have e1 : actsS p (pl, ly) [e] = (pl.set e.1 a.e, ly.set j (L.erase l)) := by
        show actS p (pl, ly) e = _
        rw [one, hg, hat]
      rw [e1]
      refine ⟨call_set hc h1 fun z => absurd z hf, fun es hr => ⟨a, ha, hs.symm, _, ?_, hr⟩⟩
      rw [hg]
      exact ⟨j, ch, L, h1, rfl, h3, k1, k2, rfl⟩
theorem walk_run {p : Prg} (o : Ok p) : ∀ {xs : List (List (Nat × Nat))} {pl : List Int} {ly : List (List Nm)}, ly.length = p.cs.length → CallE p ly → WalkOk p (pl, ly) xs → RunOk p pl ly xs.flatten ∧ CallE p (actsS p (pl, ly) xs.flatten).2
  | [], _, _, _, hc, _ => ⟨trivial, hc⟩
  | x :: xs, pl, ly, hl, hc, ⟨h1, h2⟩ => by
    obtain ⟨c1, r1⟩ := step_ok o hl hc h1
    have e : actsS p (pl, ly) (x :: xs).flatten = actsS p (actsS p (pl, ly) x) xs.flatten := by
      unfold actsS; rw [List.flatten_cons, List.foldl_append]
    obtain ⟨r2, c2⟩ := walk_run (pl := (actsS p (pl, ly) x).1) (ly := (actsS p (pl, ly) x).2) o (by rw [actsS_len.2]; exact hl) c1 h2
    refine ⟨?_, by rw [e]; exact c2⟩
    rw [List.flatten_cons]
    exact r1 _ r2
/-- how much lies -/
theorem acts_small {p : Prg} : ∀ {es : List (Nat × Nat)} {S : List Int × List (List Nm)} {n : Nat}, (∀ L ∈ S.2, L.length ≤ n) → ∀ L ∈ (actsS p S es).2, L.length ≤ n + es.length
  | [], _, _, h => h
  | e :: es, S, n, h => by
    have h1 : ∀ L ∈ (actS p S e).2, L.length ≤ n + 1 := by
      intro L hL
      unfold actS at hL
      cases ha : awO p e with
      | none => rw [ha] at hL; have := h L hL; omega
      | some a =>
        rw [ha] at hL
        have cl : (clOf p S.2 a.g).2.length ≤ n := by
          unfold clOf
          cases Dg.chan a.g with
          | none => exact Nat.zero_le _
          | some c =>
            show (((p.cs.zip S.2).find? fun q => decide (q.1.n = c)).getD (default, [])).2.length ≤ n
            cases hf : (p.cs.zip S.2).find? fun q => decide (q.1.n = c) with
            | none => exact Nat.zero_le _
            | some q =>
              have := List.mem_of_find?_eq_some hf
              exact h _ (List.of_mem_zip this).2
        have hL : L ∈ actLy p S.2 a.g := hL
        cases hg : a.g with
        | doo w => rw [hg] at hL; have := h L hL; omega
        | put c l =>
          rw [hg] at hL cl
          rcases List.mem_or_eq_of_mem_set hL with hm | hm
          · have := h L hm; omega
          · rw [hm, List.length_append, List.length_singleton]; omega
        | tak c l =>
          rw [hg] at hL cl
          rcases List.mem_or_eq_of_mem_set hL with hm | hm
          · have := h L hm; omega
          · rw [hm]
            have := List.length_erase_le (a := l) (l := (clOf p S.2 (.tak c l)).2)
            omega
    intro L hL
    have := acts_small (es := es) (S := actS p S e) h1 L hL
    rw [List.length_cons]; omega
end LK
set_option linter.all false
set_option maxRecDepth 100000
set_option maxHeartbeats 4000000
/-! R11: wished steps, the walk, its events in a row. -/
namespace LK
open PySem PySem.Spec L2 PL RN
section
variable {Q : D → Sto → Prop} {st : Sto}
/-- the first event of a step is an event -/
def HeadOk (p : Prg) (x : List (Nat × Nat)) : Prop := ∃ e r a, x = e :: r ∧ awO p e = some a
theorem head_all {p : Prg} {pl : List Int} {ly : List (List Nm)} {x : List (Nat × Nat)} (h : x ∈ allSteps p pl ly) : HeadOk p x := by
  obtain ⟨e, a, ha, _, hx⟩ := mem_all h
  have := (steps_ne x hx).2
  cases x with
  | nil => cases this
  | cons e' r => cases this; exact ⟨e, r, a, rfl, ha⟩
def vk : Dg → Nat
  | .doo _ => 3
  | .put _ _ => 1
  | .tak _ _ => 2
theorem spec_wished {p : Prg} {opts : List (List (Nat × Nat))} {dr k : Int} (o : Ok p) (hh : ∀ x ∈ opts, HeadOk p x) (hne : opts ≠ [])
    (q : ∀ w : List (List (Nat × Nat)), w ≠ [] → (∀ x ∈ w, x ∈ opts) → Q (.lst (w.map (partD p))) st) : wp (m__law_wished [p.d, .lst (opts.map (partD p)), .int dr, .int k]) Q st := by
  refine w_run' [.val p.d, .val (.lst (opts.map (partD p))), .val (.int dr), .val (.int k), .no, .no, .no, .no] rfl ?_
  unfold s__law_wished
  false_or_by_contra
  have m3 : dr % 3 = 0 ∨ dr % 3 = 1 ∨ dr % 3 = 2 := by omega
  have f1 : ∀ x : List (Nat × Nat), decide ((x.length : Int) = 1) = decide (x.length = 1) := fun x => by
    by_cases h : x.length = 1
    · simp [h]
    · have : ¬(x.length : Int) = 1 := by omega
      simp [h, this]
  have alone : ∀ {R : List D → Sto → Prop} (v : D), R ((opts.filter fun x => decide (x.length = 1)).map (partD p)) st → wp (lcL (Pt.nm 6).set (tBl (e2 eqM (e1 lenM (eVar 6)) (eC (D.int 1)))) (eVar 6) (wipeE [.val p.d, .val (.lst (opts.map (partD p))), .val (.int dr), .val (.int k), .val v, .no, .no, .no] [6]) (opts.map (partD p))) R st := by
    intro R v hR
    refine lc_fm (partD p) (fun x => decide (x.length = 1)) (partD p) opts (fun x hx => ⟨_, rfl, fun T hT => ?_, fun _ Q hQ => ?_⟩) hR
    · false_or_by_contra
      refine w_lenM ?_
      false_or_by_contra
      rw [f1]
      exact hT
    · false_or_by_contra
      exact hQ
  have second : ∀ {R : List D → Sto → Prop} (v : Str) (n : Nat), (∀ (g : Dg) (T : D → Sto → Prop), T (.bl (decide (vk g = n))) st → wp (eqM (.str g.wd) (.str v)) T st) → R (((opts.filter fun x => decide (x.length = 1)).filter fun x => decide (vk (dgO p (x.headD (0, 0))) = n)).map (partD p)) st → wp (lcL (Pt.nm 6).set (tBl (e2 eqM (e2 ixM (eCall 2 m__law_doing (aCons (eVar 0) (aCons (e2 ixM (eVar 6) (eC (D.int 0))) aNil))) (eC (D.int 0))) (eVar 4))) (eVar 6) (wipeE [.val p.d, .val (.lst (opts.map (partD p))), .val (.int dr), .val (.int k), .val (.str v), .val (.lst ((opts.filter fun x => decide (x.length = 1)).map (partD p))), .no, .no] [6]) ((opts.filter fun x => decide (x.length = 1)).map (partD p))) R st := by
    intro R v n hv hR
    refine lc_fm (partD p) (fun x => decide (vk (dgO p (x.headD (0, 0))) = n)) (partD p) _ (fun x hx => ⟨_, rfl, fun T hT => ?_, fun _ Q hQ => ?_⟩) hR
    · obtain ⟨e, r, a, rfl, ha⟩ := hh x (List.mem_filter.mp hx).1
      false_or_by_contra
      refine w_t0 ?_
      false_or_by_contra
      refine spec_doing o ha ?_
      false_or_by_contra
      refine w_g0 ?_
      false_or_by_contra
      refine hv a.g _ ?_
      false_or_by_contra
      have e1 : dgO p e = a.g := dgO_is ha
      show T (decide (vk a.g = n)) st
      rw [← e1]
      exact hT
    · false_or_by_contra
      exact hQ
  have sub : ∀ n, ∀ x ∈ ((opts.filter fun x => decide (x.length = 1)).filter fun x => decide (vk (dgO p (x.headD (0, 0))) = n)), x ∈ opts := fun n x hx => (List.mem_filter.mp (List.mem_filter.mp hx).1).1
  rcases m3 with h | h | h <;> rw [h]
  · false_or_by_contra
    refine alone (.str "") ?_
    false_or_by_contra
    refine second "" 0 (fun g T hT => ?_) ?_
    · cases g with
      | doo w => show wp (eqM (.str "do") (.str "")) T st; false_or_by_contra; exact hT
      | put c l => show wp (eqM (.str "put") (.str "")) T st; false_or_by_contra; exact hT
      | tak c l => show wp (eqM (.str "take") (.str "")) T st; false_or_by_contra; exact hT
    · have sub := sub 0
      generalize ((opts.filter fun x => decide (x.length = 1)).filter fun x => decide (vk (dgO p (x.headD (0, 0))) = 0)) = w at sub
      false_or_by_contra
      refine k_if (fun h1 => ?_) fun h1 => ?_
      · have h2 := of_decide_eq_true h1
        have hw : w ≠ [] := fun e => by rw [e] at h2; simp at h2
        false_or_by_contra
        refine k_if (fun h3 => ?_) fun h3 => ?_
        · false_or_by_contra
          exact q w hw sub
        · false_or_by_contra
          exact q opts hne fun x hx => hx
      · false_or_by_contra
        exact q opts hne fun x hx => hx
  · false_or_by_contra
    refine alone (.str "put") ?_
    false_or_by_contra
    refine second "put" 1 (fun g T hT => ?_) ?_
    · cases g with
      | doo w => show wp (eqM (.str "do") (.str "put")) T st; false_or_by_contra; exact hT
      | put c l => show wp (eqM (.str "put") (.str "put")) T st; false_or_by_contra; exact hT
      | tak c l => show wp (eqM (.str "take") (.str "put")) T st; false_or_by_contra; exact hT
    · have sub := sub 1
      generalize ((opts.filter fun x => decide (x.length = 1)).filter fun x => decide (vk (dgO p (x.headD (0, 0))) = 1)) = w at sub
      false_or_by_contra
      refine k_if (fun h1 => ?_) fun h1 => ?_
      · have h2 := of_decide_eq_true h1
        have hw : w ≠ [] := fun e => by rw [e] at h2; simp at h2
        false_or_by_contra
        refine k_if (fun h3 => ?_) fun h3 => ?_
        · false_or_by_contra
          exact q w hw sub
        · false_or_by_contra
          exact q opts hne fun x hx => hx
      · false_or_by_contra
        exact q opts hne fun x hx => hx
  · false_or_by_contra
    refine alone (.str "take") ?_
    false_or_by_contra
    refine second "take" 2 (fun g T hT => ?_) ?_
    · cases g with
      | doo w => show wp (eqM (.str "do") (.str "take")) T st; false_or_by_contra; exact hT
      | put c l => show wp (eqM (.str "put") (.str "take")) T st; false_or_by_contra; exact hT
      | tak c l => show wp (eqM (.str "take") (.str "take")) T st; false_or_by_contra; exact hT
    · have sub := sub 2
      generalize ((opts.filter fun x => decide (x.length = 1)).filter fun x => decide (vk (dgO p (x.headD (0, 0))) = 2)) = w at sub
      false_or_by_contra
      refine k_if (fun h1 => ?_) fun h1 => ?_
      · have h2 := of_decide_eq_true h1
        have hw : w ≠ [] := fun e => by rw [e] at h2; simp at h2
        false_or_by_contra
        exact q w hw sub
      · false_or_by_contra
        exact q opts hne fun x hx => hx
end
end LK
set_option linter.all false
set_option maxRecDepth 100000
set_option maxHeartbeats 4000000
/-! R12: the walk, its events in a row. -/
namespace LK
open PySem PySem.Spec L2 PL RN
theorem part_len {p : Prg} {pl : List Int} {ly : List (List Nm)} {x : List (Nat × Nat)} (h : x ∈ allSteps p pl ly) : x.length ≤ 2 := by
  obtain ⟨e, a, _, _, hx⟩ := mem_all h
  cases hg : a.g with
  | doo _ => rw [hg] at hx; rw [List.mem_singleton.mp hx]; exact Nat.le_of_ble_eq_true rfl
  | put c l =>
    rw [hg, sc_put] at hx
    split at hx
    · obtain ⟨t, _, rfl⟩ := List.mem_map.mp hx
      exact Nat.le_of_ble_eq_true rfl
    · rw [List.mem_singleton.mp hx]; exact Nat.le_of_ble_eq_true rfl
  | tak c l =>
    rw [hg, sc_tak] at hx
    split at hx
    · exact absurd hx List.not_mem_nil
    · split at hx
      · rw [List.mem_singleton.mp hx]; exact Nat.le_of_ble_eq_true rfl
      · split at hx
        · exact absurd hx List.not_mem_nil
        · rw [List.mem_singleton.mp hx]; exact Nat.le_of_ble_eq_true rfl
theorem walk_len {p : Prg} : ∀ {xs : List (List (Nat × Nat))} {S : List Int × List (List Nm)}, WalkOk p S xs → xs.flatten.length ≤ 2 * xs.length
  | [], _, _ => Nat.zero_le _
  | x :: xs, S, h => by
    have h1 := part_len h.1
    have h2 := walk_len h.2
    rw [List.flatten_cons, List.length_append, List.length_cons]; omega
theorem acts_at {p : Prg} : ∀ {x : List (Nat × Nat)} {S : List Int × List (List Nm)} {j : Nat} {e : Nat × Nat}, ActsOk p S x → x[j]? = some e → ∃ a, awO p e = some a ∧ ∀ c l, a.g = .tak c l → l ∈ (clOf p (actsS p S (x.take j)).2 a.g).2
  | [], _, _, _, _, h => by simp at h
  | f :: x, S, 0, e, h, he => by
    simp at he; subst he
    exact h.1
  | f :: x, S, j + 1, e, h, he => by
    have := acts_at h.2 (j := j) (e := e) (by simpa using he)
    exact this
theorem acts_snoc {p : Prg} {S : List Int × List (List Nm)} {es : List (Nat × Nat)} {e : Nat × Nat} : actsS p S (es ++ [e]) = actS p (actsS p S es) e := by
  unfold actsS; rw [List.foldl_append]; rfl
theorem acts_app {p : Prg} {S : List Int × List (List Nm)} {es fs : List (Nat × Nat)} : actsS p S (es ++ fs) = actsS p (actsS p S es) fs := by
  unfold actsS; rw [List.foldl_append]
section
variable {Q : D → Sto → Prop} {st : Sto}
theorem lc_new {α : Type} {i : Nat} {ρ : En} (hi : i < ρ.length) (f : α → D) : ∀ (xs : List α) (st : Sto) {R : List D → Sto → Prop}, R ((List.range xs.length).map fun (j : Nat) => D.ref (st.length + j)) (st ++ List.replicate xs.length (.lst [])) → wp (lcL (Pt.nm i).set tTrue (eNew (fLst aNil)) ρ (xs.map f)) R st
  | [], st, R, k => by
    show wp (M.pure _) R st
    rw [wp_pure]
    simpa using k
  | x :: xs, st, R, k => by
    rw [List.map_cons]
    unfold lcL
    rw [set_nm hi]
    show wp ((eNew (fLst aNil) (ρ.set i (.val (f x)))).bind fun y => (lcL (Pt.nm i).set tTrue (eNew (fLst aNil)) ρ (xs.map f)).bind fun ys => M.pure (y :: ys)) R st
    rw [wp_bind]
    refine w_new (w_fLst (w_aN ⟨Nat.zero_le _, ?_⟩))
    rw [wp_bind]
    refine lc_new hi f xs (st ++ [.lst []]) (R := fun ys s => wp (M.pure (D.ref st.length :: ys)) R s) ?_
    rw [wp_pure]
    have e1 : (st ++ [Ob.lst []]) ++ List.replicate xs.length (.lst []) = st ++ List.replicate (x :: xs).length (.lst []) := by
      rw [List.length_cons, List.replicate_succ, List.append_assoc]; rfl
    have e2 : (D.ref st.length :: (List.range xs.length).map fun (j : Nat) => D.ref ((st ++ [Ob.lst []]).length + j)) = (List.range (x :: xs).length).map fun (j : Nat) => D.ref (st.length + j) := by
      rw [List.length_cons, List.range_succ_eq_map, List.map_cons, List.map_map]
      congr 1
      refine List.map_congr_left fun j _ => ?_
      show D.ref ((st ++ [Ob.lst []]).length + j) = D.ref (st.length + (j + 1))
      rw [List.length_append, List.length_singleton, Nat.add_assoc, Nat.add_comm 1 j]
    rw [e1, e2]
    exact k
theorem spec_joined {p : Prg} {xs : List (List (Nat × Nat))} (hl : xs.flatten.length ≤ 1000) (q : Q (.tup (xs.flatten.map (evO p))) st) : wp (m__law_joined [.lst (xs.map (partD p))]) Q st := by
  refine w_run' [.val (.lst (xs.map (partD p))), .no, .no] rfl ?_
  unfold s__law_joined
  false_or_by_contra
  refine for_mapI (f := partD p) (fun m ρ s => s = st ∧ ∃ x2, ρ = [.val (.lst (xs.map (partD p))), .val (.lst ((xs.take m).flatten.map (evO p))), x2]) ?_ ⟨rfl, _, rfl⟩ ?_
  · rintro m x ρ s hm ⟨rfl, x2, rfl⟩
    have ht : xs.take (m + 1) = xs.take m ++ [x] := by rw [List.take_add_one, hm]; rfl
    have hln : (xs.take m).flatten.length + x.length ≤ 1000 := by
      have e : xs.flatten = (xs.take m).flatten ++ (x ++ (xs.drop (m + 1)).flatten) := by
        rw [← List.flatten_cons, ← List.flatten_append]
        congr 1
        have hx := (List.getElem?_eq_some_iff.mp hm).2
        rw [← hx, ← List.drop_eq_getElem_cons (List.getElem?_eq_some_iff.mp hm).1, List.take_append_drop]
      rw [e, List.length_append, List.length_append] at hl
      omega
    refine ⟨_, rfl, ?_⟩
    false_or_by_contra
    refine w_lstT ?_
    refine w_addL (small3 (by rw [List.length_map, List.length_map]; omega)) ?_
    refine .inl ⟨rfl, rfl, .val (partD p x), ?_⟩
    rw [ht, List.flatten_append, List.map_append, List.flatten_cons, List.flatten_nil, List.append_nil]
    rfl
  · rintro ρ s ⟨rfl, x2, rfl⟩
    rw [List.take_length]
    false_or_by_contra
    exact q
def pl0 (p : Prg) : List Int := p.ps.map fun _ => 0
def ly0 (p : Prg) : List (List Nm) := p.cs.map fun _ => []
theorem spec_walk {p : Prg} {ds : List Int} {at_ many : Nat} (o : Ok p) (hd : at_ + many ≤ ds.length) (h2 : 2 ≤ ds.length) (hm : many ≤ 100)
    (q : ∀ xs s', WalkOk p (pl0 p, ly0 p) xs → xs.length ≤ many → Q (.lst (xs.map (partD p))) s') : wp (m__law_walk [p.d, .lst (ds.map D.int), .int at_, .int many]) Q st := by
  refine w_run' [.val p.d, .val (.lst (ds.map D.int)), .val (.int at_), .val (.int many), .no, .no, .no, .no, .no, .no, .no, .no, .no] rfl ?_
  unfold s__law_walk
  false_or_by_contra
  refine lc_mp Prt.d (fun _ => D.int 0) p.ps (fun y hy => ⟨_, rfl, fun Q hQ => ?_⟩) ?_
  · false_or_by_contra
    exact hQ
  false_or_by_contra
  refine lc_new (by simp [wipeE]) Chn.d p.cs _ ?_
  false_or_by_contra
  refine ⟨_, rfl, by omega, ?_⟩
  have hb : (st ++ [Ob.lst (p.ps.map fun _ => D.int 0)]).length = st.length + 1 := by rw [List.length_append, List.length_singleton]
  rw [hb]
  have hlyD : D.lst ((List.range p.cs.length).map fun (j : Nat) => D.ref (st.length + 1 + j)) = lyD (st.length + 1) p.cs.length := rfl
  rw [hlyD]
  refine for_range (fun m ρ s => ∃ xs x9 x10 x11 x12, ρ = [.val p.d, .val (.lst (ds.map D.int)), .val (.int at_), .val (.int many), .val (.ref st.length), .no, .val (lyD (st.length + 1) p.cs.length), .no, .own (xs.map (partD p)), x9, x10, x11, x12] ∧
    WalkOk p (pl0 p, ly0 p) xs ∧ xs.length ≤ m ∧ Bears st.length (st.length + 1) (actsS p (pl0 p, ly0 p) xs.flatten).1 (actsS p (pl0 p, ly0 p) xs.flatten).2 s) ?_ ⟨[], _, _, _, _, rfl, trivial, Nat.le_refl _, ?_, ?_, by omega⟩ ?_
  · rintro m ρ s hmm ⟨xs, x9, x10, x11, x12, rfl, W, hxl, B⟩
    have hwl := walk_len W
    refine ⟨_, rfl, ?_⟩
    generalize hS : actsS p (pl0 p, ly0 p) xs.flatten = S at B
    have hpl : S.1.length = p.ps.length := by rw [← hS, actsS_len.1]; unfold pl0; simp
    have hly : S.2.length = p.cs.length := by rw [← hS, actsS_len.2]; unfold ly0; simp
    have hce : CallE p S.2 := by
      rw [← hS]
      refine (walk_run o (by unfold ly0; simp) ?_ W).2
      intro j ch L h1 _ h3
      unfold ly0 at h3
      rw [List.getElem?_map, h1] at h3
      exact (Option.some.inj h3).symm
    have hsm : ∀ L ∈ S.2, L.length ≤ 200 := by
      intro L hL
      rw [← hS] at hL
      have := acts_small (n := 0) (fun L hL => by
        unfold ly0 at hL
        obtain ⟨_, _, rfl⟩ := List.mem_map.mp hL
        exact Nat.le_refl _) L hL
      omega
    false_or_by_contra
    refine spec_steps o B.pls hpl B.lys hly fun so hso _ _ => ?_
    false_or_by_contra
    refine k_if (fun h => ?_) fun h => ?_
    · have h0 := of_decide_eq_true h
      obtain ⟨d1, hd1⟩ : ∃ d, ds[1]? = some d := ⟨_, List.getElem?_eq_getElem (by omega)⟩
      obtain ⟨dm, hdm⟩ : ∃ d, ds[at_ + m]? = some d := ⟨_, List.getElem?_eq_getElem (by omega)⟩
      false_or_by_contra
      refine w_ixL (atM (i := 1) hd1) ?_
      false_or_by_contra
      refine spec_wished o (fun x hx => head_all (hso x hx)) (fun e => by rw [e] at h0; simp at h0) fun w hw hws => ?_
      have hwl : 0 < w.length := List.length_pos_iff.mpr hw
      false_or_by_contra
      refine w_ixL (atM (i := at_ + m) hdm) ?_
      false_or_by_contra
      refine w_int2 (decide_eq_true (by omega)) ?_
      obtain ⟨d, hd, hmem⟩ := atI_lt (xs := w.map (partD p)) (i := dm % (w.length : Int)) (Int.emod_nonneg _ (by omega)) (by rw [List.length_map]; exact Int.emod_lt_of_pos _ (by omega))
      refine w_ixL hd ?_
      obtain ⟨x, hxw, rfl⟩ := List.mem_map.mp hmem
      have hx := hso x (hws x hxw)
      obtain ⟨hce2, hrun⟩ := step_ok o hly hce hx
      have hacts := run_acts o hly (by have := hrun [] trivial; rwa [List.append_nil] at this)
      have hx2 := part_len hx
      false_or_by_contra
      refine ⟨small3 (by rw [List.length_map]; omega), ?_⟩
      false_or_by_contra
      refine ⟨_, rfl, ?_⟩
      refine for_mapI (f := evO p) (fun j ρ s' => Bears st.length (st.length + 1) (actsS p S (x.take j)).1 (actsS p S (x.take j)).2 s' ∧ ∃ x12, ρ = [.val p.d, .val (.lst (ds.map D.int)), .val (.int at_), .val (.int many), .val (.ref st.length), .no, .val (lyD (st.length + 1) p.cs.length), .no, .own (xs.map (partD p) ++ [partD p x]), .val (.int m), .val (.lst (w.map (partD p))), .val (partD p x), x12]) ?_ ⟨B, _, rfl⟩ ?_
      · rintro j e ρ s' he ⟨B', x12, rfl⟩
        obtain ⟨a, ha, hin⟩ := acts_at hacts he
        have hpl' : (actsS p S (x.take j)).1.length = p.ps.length := by rw [actsS_len.1]; exact hpl
        have hly' : (actsS p S (x.take j)).2.length = p.cs.length := by rw [actsS_len.2]; exact hly
        refine ⟨_, rfl, ?_⟩
        false_or_by_contra
        refine spec_act o B' hpl' hly' ha hin (fun L hL => by have := acts_small hsm L hL; rw [List.length_take] at this; omega) fun s2 B2 => ?_
        refine .inl ⟨rfl, ?_, _, rfl⟩
        have ht : x.take (j + 1) = x.take j ++ [e] := by rw [List.take_add_one, he]; rfl
        rw [ht, acts_snoc]
        unfold actS
        rw [ha]
        exact B2
      · rintro ρ s' ⟨B', x12, rfl⟩
        rw [List.take_length] at B'
        refine .inl ⟨rfl, xs ++ [x], .val (.int m), .val (.lst (w.map (partD p))), .val (partD p x), x12, ?_, walk_snoc W (by rw [hS]; exact hx), by rw [List.length_append, List.length_singleton]; omega, ?_⟩
        · rw [List.map_append]; rfl
        · rw [List.flatten_append, acts_app, hS, List.flatten_cons, List.flatten_nil, List.append_nil]
          exact B'
    · false_or_by_contra
      exact .inl ⟨rfl, xs, _, _, _, _, rfl, W, by omega, by rw [hS]; exact B⟩
  · show ((st ++ [Ob.lst (p.ps.map fun _ => D.int 0)]) ++ List.replicate p.cs.length (.lst []))[st.length]? = some (.lst ((pl0 p).map D.int))
    unfold pl0
    rw [List.map_map]
    simp [List.getElem?_append]
  · intro j L hj
    have hj' : (ly0 p)[j]? = some L := hj
    unfold ly0 at hj'
    rw [List.getElem?_map] at hj'
    obtain ⟨ch, h1, rfl⟩ := Option.map_eq_some_iff.mp hj'
    have hlt := (List.getElem?_eq_some_iff.mp h1).1
    rw [List.getElem?_append_right (by rw [hb]; omega), hb, Nat.add_sub_cancel_left, List.getElem?_replicate, if_pos hlt]
    rfl
  · rintro ρ s ⟨xs, x9, x10, x11, x12, rfl, W, hxl, B⟩
    false_or_by_contra
    exact q xs s W hxl
end
end LK
set_option linter.all false
set_option maxRecDepth 100000
set_option maxHeartbeats 4000000
/-! R13: puts and takes in pairs. -/
namespace LK
open PySem PySem.Spec L2 PL RN
/-- where g stands with q, from k on -/
def ixs (q : Dg → Bool) : Nat → List Dg → List Nat
  | _, [] => []
  | k, g :: gs => if q g = true then k :: ixs q (k + 1) gs else ixs q (k + 1) gs
def isT (c l : Nm) (g : Dg) : Bool := decide (g = .tak c l)
def puts : Nat → List Dg → List Row
  | _, [] => []
  | k, .put c l :: gs => ⟨c, l, k, none⟩ :: puts (k + 1) gs
  | k, _ :: gs => puts (k + 1) gs
def bump (cnt : Nm → Nm → Nat) (c l : Nm) : Nm → Nm → Nat := fun c' l' => if c' = c ∧ l' = l then cnt c' l' + 1 else cnt c' l'
theorem bump_comm (cnt : Nm → Nm → Nat) (c l c' l' : Nm) : bump (bump cnt c l) c' l' = bump (bump cnt c' l') c l := by
  funext a b
  show (if a = c' ∧ b = l' then (if a = c ∧ b = l then cnt a b + 1 else cnt a b) + 1 else (if a = c ∧ b = l then cnt a b + 1 else cnt a b)) = (if a = c ∧ b = l then (if a = c' ∧ b = l' then cnt a b + 1 else cnt a b) + 1 else (if a = c' ∧ b = l' then cnt a b + 1 else cnt a b))
  by_cases x : a = c' ∧ b = l' <;> by_cases y : a = c ∧ b = l
  · simp only [if_pos x, if_pos y]
  · simp only [if_pos x, if_neg y]
  · simp only [if_neg x, if_pos y]
  · simp only [if_neg x, if_neg y]
/-- each open row gets its take: the i-th one of (c, l) the i-th take -/
def asg (T : Nm → Nm → List Nat) : (Nm → Nm → Nat) → List Row → List Row
  | _, [] => []
  | cnt, r :: rs => if r.t = none then { r with t := (T r.c r.l)[cnt r.c r.l]? } :: asg T (bump cnt r.c r.l) rs else r :: asg T cnt rs
def zc : Nm → Nm → Nat := fun _ _ => 0
def taks (k : Nat) (gs : List Dg) : Nm → Nm → List Nat := fun c l => ixs (isT c l) k gs
theorem asg_nil : ∀ (rows : List Row) (cnt : Nm → Nm → Nat), asg (fun _ _ => []) cnt rows = rows
  | [], _ => rfl
  | r :: rs, cnt => by
    unfold asg
    rw [asg_nil rs, asg_nil rs]
    split
    · rename_i h
      cases r
      dsimp only at h
      subst h
      rfl
    · rfl
theorem asg_shift {T T' : Nm → Nm → List Nat} {c l : Nm} {k : Nat} (h1 : T c l = k :: T' c l) (h2 : ∀ c' l', ¬(c' = c ∧ l' = l) → T c' l' = T' c' l') : ∀ (rs : List Row) (cnt : Nm → Nm → Nat), asg T (bump cnt c l) rs = asg T' cnt rs
  | [], _ => rfl
  | r :: rs, cnt => by
    unfold asg
    split
    · have e1 : (T r.c r.l)[bump cnt c l r.c r.l]? = (T' r.c r.l)[cnt r.c r.l]? := by
        unfold bump
        by_cases e : r.c = c ∧ r.l = l
        · rw [if_pos e, e.1, e.2, h1, List.getElem?_cons_succ]
        · rw [if_neg e, h2 _ _ e]
      have e2 : bump (bump cnt c l) r.c r.l = bump (bump cnt r.c r.l) c l := bump_comm _ _ _ _ _
      rw [e1, e2, asg_shift h1 h2 rs]
    · rw [asg_shift h1 h2 rs]
theorem asg_close {T T' : Nm → Nm → List Nat} {c l : Nm} {k : Nat} (h1 : T c l = k :: T' c l) (h2 : ∀ c' l', ¬(c' = c ∧ l' = l) → T c' l' = T' c' l') (P : List Row) : ∀ (rows : List Row) (cnt : Nm → Nm → Nat), cnt c l = 0 → l ∈ lies c rows → asg T cnt (rows ++ P) = asg T' cnt (close c l k rows ++ P)
  | [], _, _, h => by simp [lies] at h
  | r :: rs, cnt, h0, h => by
    by_cases ho : isOpen c l r = true
    · obtain ⟨e1, e2, e3⟩ := of_decide_eq_true ho
      unfold close
      rw [if_pos ho]
      show asg T cnt (r :: (rs ++ P)) = asg T' cnt (setT k r :: (rs ++ P))
      unfold asg
      rw [if_pos e3, if_neg (show ¬(setT k r).t = none by intro z; cases z), e1, e2, h1, h0, asg_shift h1 h2]
      cases r
      dsimp only at e1 e2 e3
      subst e1 e2 e3
      rfl
    · have hm : l ∈ lies c rs := by
        unfold lies at h
        split at h
        · rename_i hc
          rcases List.mem_cons.mp h with e | h
          · exact absurd (decide_eq_true ⟨hc.1, e.symm, hc.2⟩) ho
          · exact h
        · exact h
      have hcl : close c l k (r :: rs) = r :: close c l k rs := by
        conv => lhs; unfold close
        rw [if_neg ho]
      rw [hcl]
      show asg T cnt (r :: (rs ++ P)) = asg T' cnt (r :: (close c l k rs ++ P))
      unfold asg
      split
      · rename_i hn
        have ne : ¬(r.c = c ∧ r.l = l) := fun e => ho (decide_eq_true ⟨e.1, e.2, hn⟩)
        rw [h2 _ _ ne, asg_close h1 h2 P rs _ _ hm]
        unfold bump
        rw [if_neg (fun e => ne ⟨e.1.symm, e.2.symm⟩)]
        exact h0
      · rw [asg_close h1 h2 P rs _ h0 hm]
/-- every take finds its letter -/
def FitFrom : Nat → List Row → List Dg → Prop
  | _, _, [] => True
  | k, rows, g :: gs => (∀ c l, g = .tak c l → l ∈ lies c rows) ∧ FitFrom (k + 1) (stepR rows k g) gs
theorem rows_asg : ∀ (gs : List Dg) (k : Nat) (rows : List Row), FitFrom k rows gs → rowsFrom k rows gs = asg (taks k gs) zc (rows ++ puts k gs)
  | [], k, rows, _ => by
    show rows = asg (fun _ _ => []) zc (rows ++ [])
    rw [asg_nil, List.append_nil]
  | .doo w :: gs, k, rows, h => rows_asg gs (k + 1) rows h.2
  | .put c l :: gs, k, rows, h => by
    have := rows_asg gs (k + 1) _ h.2
    show rowsFrom (k + 1) (stepR rows k (.put c l)) gs = asg (taks (k + 1) gs) zc (rows ++ (⟨c, l, k, none⟩ :: puts (k + 1) gs))
    rw [this]
    show asg _ zc ((rows ++ [⟨c, l, k, none⟩]) ++ puts (k + 1) gs) = _
    rw [List.append_assoc]; rfl
  | .tak c l :: gs, k, rows, h => by
    have := rows_asg gs (k + 1) _ h.2
    show rowsFrom (k + 1) (stepR rows k (.tak c l)) gs = asg (taks k (.tak c l :: gs)) zc (rows ++ puts (k + 1) gs)
    rw [this]
    refine (asg_close ?_ ?_ _ rows zc rfl (h.1 c l rfl)).symm
    · show ixs (isT c l) k (.tak c l :: gs) = _
      unfold ixs
      rw [if_pos (show isT c l (.tak c l) = true from decide_eq_true rfl)]; rfl
    · intro c' l' ne
      show ixs (isT c' l') k (.tak c l :: gs) = _
      conv => lhs; unfold ixs
      rw [if_neg]; rfl
      intro e
      have := of_decide_eq_true e
      cases this
      exact ne ⟨rfl, rfl⟩
theorem run_fit {p : Prg} (o : Ok p) : ∀ {es : List (Nat × Nat)} {k : Nat} {pl : List Int} {rows : List Row}, RunOk p pl (lyOf p rows) es → FitFrom k rows (es.map (dgO p))
  | [], _, _, _, _ => trivial
  | e :: es, k, pl, rows, ⟨a, ha, hp, ly', hact, hr⟩ => by
    rw [List.map_cons, dgO_is ha]
    cases hg : a.g with
    | doo w =>
      rw [hg] at hact
      have : ly' = lyOf p rows := hact
      subst this
      exact ⟨(by intro _ _ z; cases z), run_fit o hr⟩
    | put c l =>
      rw [hg] at hact
      obtain ⟨j, ch, L, h1, rfl, h3, _, rfl⟩ := hact
      have hL : L = lies ch.n rows := by
        unfold lyOf at h3
        rw [List.getElem?_map, h1] at h3
        exact (Option.some.inj h3).symm
      subst hL
      rw [← ly_put (k := k) o h1] at hr
      exact ⟨(by intro _ _ z; cases z), run_fit o hr⟩
    | tak c l =>
      rw [hg] at hact
      obtain ⟨j, ch, L, h1, rfl, h3, h4, _, rfl⟩ := hact
      have hL : L = lies ch.n rows := by
        unfold lyOf at h3
        rw [List.getElem?_map, h1] at h3
        exact (Option.some.inj h3).symm
      subst hL
      rw [← ly_tak (k := k) o h1 h4] at hr
      exact ⟨(by intro _ _ z; cases z; exact h4), run_fit o hr⟩
/-- what the law puts in pairs -/
def pairL (gs : List Dg) : List Row := asg (taks 0 gs) zc (puts 0 gs)
theorem rows_pair {p : Prg} {es : List (Nat × Nat)} (o : Ok p) (h : RunOk p (pl0 p) (ly0 p) es) : rowsOf (es.map (dgO p)) = pairL (es.map (dgO p)) := by
  unfold rowsOf pairL
  have := rows_asg (es.map (dgO p)) 0 [] (run_fit o (rows := []) (pl := pl0 p) (by exact h))
  rw [this]; rfl
/-! ### places, by ranges -/
theorem puts_none : ∀ (gs : List Dg) (k : Nat), ∀ r ∈ puts k gs, r.t = none
  | [], _, r, h => by simp [puts] at h
  | .doo _ :: gs, k, r, h => puts_none gs (k + 1) r h
  | .tak _ _ :: gs, k, r, h => puts_none gs (k + 1) r h
  | .put c l :: gs, k, r, h => by
    rcases List.mem_cons.mp h with rfl | h
    · rfl
    · exact puts_none gs (k + 1) r h
end LK
set_option linter.all false
set_option maxRecDepth 100000
set_option maxHeartbeats 4000000
/-! S24 (k18): what lies, as the rows say it and as puts and takes say it. -/
namespace LK
open PySem PySem.Spec L2 PL RN
/-- the letters of ls that are left, n l of each l being taken, b l of each l ahead -/
def keepN (n : Nm → Nat) : (Nm → Nat) → List Nm → List Nm
  | _, [] => []
  | b, l :: ls => if n l ≤ b l then l :: keepN n (fun x => if x = l then b x + 1 else b x) ls else keepN n (fun x => if x = l then b x + 1 else b x) ls
/-- the letters put on c -/
def putsOn (c : Nm) (rows : List Row) : List Nm := (rows.filter fun r => decide (r.c = c)).map Row.l
/-- the letters open on c -/
def openOn (c : Nm) (rows : List Row) : List Nm := (rows.filter fun r => decide (r.t = none ∧ r.c = c)).map Row.l
theorem openOn_cons (c : Nm) (r : Row) (rs : List Row) : openOn c (r :: rs) = if r.t = none ∧ r.c = c then r.l :: openOn c rs else openOn c rs := by
  unfold openOn
  by_cases h : r.t = none ∧ r.c = c
  · rw [if_pos h, List.filter_cons_of_pos (p := fun r : Row => decide (r.t = none ∧ r.c = c)) (decide_eq_true h)]; rfl
  · rw [if_neg h, List.filter_cons_of_neg (p := fun r : Row => decide (r.t = none ∧ r.c = c)) (by simpa using h)]
theorem putsOn_cons (c : Nm) (r : Row) (rs : List Row) : putsOn c (r :: rs) = if r.c = c then r.l :: putsOn c rs else putsOn c rs := by
  unfold putsOn
  by_cases h : r.c = c
  · rw [if_pos h, List.filter_cons_of_pos (p := fun r : Row => decide (r.c = c)) (decide_eq_true h)]; rfl
  · rw [if_neg h, List.filter_cons_of_neg (p := fun r : Row => decide (r.c = c)) (by simpa using h)]
theorem open_keep {T : Nm → Nm → List Nat} (c : Nm) : ∀ (rows : List Row) (cnt : Nm → Nm → Nat), (∀ r ∈ rows, r.t = none) → openOn c (asg T cnt rows) = keepN (fun l => (T c l).length) (cnt c) (putsOn c rows)
  | [], _, _ => rfl
  | r :: rs, cnt, h => by
    have hr := h r List.mem_cons_self
    have ih := open_keep (T := T) c rs (bump cnt r.c r.l) fun z hz => h z (List.mem_cons_of_mem _ hz)
    have e1 : asg T cnt (r :: rs) = { r with t := (T r.c r.l)[cnt r.c r.l]? } :: asg T (bump cnt r.c r.l) rs := by
      conv => lhs; unfold asg
      rw [if_pos hr]
    rw [e1, openOn_cons, ih, putsOn_cons]
    dsimp only
    by_cases hc : r.c = c
    · rw [if_pos hc]
      subst hc
      have e2 : (bump cnt r.c r.l) r.c = fun x => if x = r.l then cnt r.c x + 1 else cnt r.c x := by
        funext x
        unfold bump
        by_cases hx : x = r.l
        · rw [if_pos ⟨rfl, hx⟩, if_pos hx]
        · rw [if_neg (fun z => hx z.2), if_neg hx]
      rw [e2]
      conv => rhs; unfold keepN
      by_cases hn : (T r.c r.l).length ≤ cnt r.c r.l
      · rw [if_pos hn, if_pos ⟨List.getElem?_eq_none hn, rfl⟩]
      · rw [if_neg hn, if_neg (fun z => hn (List.getElem?_eq_none_iff.mp z.1))]
    · have e2 : (bump cnt r.c r.l) c = cnt c := by
        funext x
        unfold bump
        rw [if_neg (fun z => hc z.1.symm)]
      rw [if_neg hc, if_neg (fun z => hc z.2), e2]
/-- the law's way: by places -/
def leftN (n : Nm → Nat) (ls : List Nm) (k : Nat) : List Nm := keepN n (fun _ => 0) (ls.take k)
theorem keepN_snoc (n : Nm → Nat) (l : Nm) : ∀ (ls : List Nm) (b : Nm → Nat), keepN n b (ls ++ [l]) = keepN n b ls ++ (if n l ≤ b l + ls.count l then [l] else [])
  | [], b => by
    show (if n l ≤ b l then l :: [] else []) = [] ++ _
    rw [List.count_nil, Nat.add_zero]; rfl
  | x :: ls, b => by
    have ih := keepN_snoc n l ls (fun y => if y = x then b y + 1 else b y)
    have e : (if l = x then b l + 1 else b l) + ls.count l = b l + (x :: ls).count l := by
      rw [List.count_cons]
      by_cases h : l = x
      · subst h; simp; omega
      · have h' : ¬x = l := fun z => h z.symm
        simp [h, h']
    show keepN n b (x :: (ls ++ [l])) = keepN n b (x :: ls) ++ _
    unfold keepN
    rw [ih, e]
    split <;> rfl
theorem leftN_succ {n : Nm → Nat} {ls : List Nm} {k : Nat} {l : Nm} (h : ls[k]? = some l) : leftN n ls (k + 1) = leftN n ls k ++ (if n l ≤ (ls.take k).count l then [l] else []) := by
  unfold leftN
  rw [List.take_add_one, h]
  show keepN n _ (ls.take k ++ [l]) = _
  rw [keepN_snoc, Nat.zero_add]
def nmP (c : Nm) : Dg → Option Nm
  | .put c' l => if c' = c then some l else none
  | _ => none
def nmT (c : Nm) : Dg → Option Nm
  | .tak c' l => if c' = c then some l else none
  | _ => none
theorem puts_names (c : Nm) : ∀ (gs : List Dg) (k : Nat), putsOn c (puts k gs) = gs.filterMap (nmP c)
  | [], _ => rfl
  | .doo _ :: gs, k => puts_names c gs (k + 1)
  | .tak _ _ :: gs, k => puts_names c gs (k + 1)
  | .put c' l :: gs, k => by
    have ih := puts_names c gs (k + 1)
    show putsOn c (⟨c', l, k, none⟩ :: puts (k + 1) gs) = _
    rw [putsOn_cons, ih]
    by_cases h : c' = c
    · rw [if_pos h, List.filterMap_cons_some (show nmP c (.put c' l) = some l from if_pos h)]
    · rw [if_neg h, List.filterMap_cons_none (show nmP c (.put c' l) = none from if_neg h)]
theorem taks_count (c l : Nm) : ∀ (gs : List Dg) (k : Nat), (gs.filterMap (nmT c)).count l = (ixs (isT c l) k gs).length
  | [], _ => rfl
  | .doo _ :: gs, k => taks_count c l gs (k + 1)
  | .put _ _ :: gs, k => taks_count c l gs (k + 1)
  | .tak c' l' :: gs, k => by
    have ih := taks_count c l gs (k + 1)
    have e1 : ixs (isT c l) k (.tak c' l' :: gs) = if isT c l (.tak c' l') = true then k :: ixs (isT c l) (k + 1) gs else ixs (isT c l) (k + 1) gs := rfl
    rw [e1]
    by_cases h : c' = c
    · rw [List.filterMap_cons_some (show nmT c (.tak c' l') = some l' from if_pos h), List.count_cons]
      subst h
      by_cases h2 : l' = l
      · subst h2
        rw [if_pos (show isT c' l' (.tak c' l') = true from decide_eq_true rfl), List.length_cons, ih, if_pos (by simp)]
      · rw [if_neg (show ¬isT c' l (.tak c' l') = true from fun e => h2 (by have := of_decide_eq_true e; cases this; rfl)), if_neg (show ¬(l' == l) = true by simpa using h2), ih, Nat.add_zero]
    · rw [List.filterMap_cons_none (show nmT c (.tak c' l') = none from if_neg h), if_neg (show ¬isT c l (.tak c' l') = true from fun e => h (by have := of_decide_eq_true e; cases this; rfl))]
      exact ih
theorem contents_eq {p : Prg} {es : List (Nat × Nat)} (o : Ok p) (h : RunOk p (pl0 p) (ly0 p) es) (c : Nm) : openOn c (rowsOf (es.map (dgO p))) = leftN (fun l => ((es.map (dgO p)).filterMap (nmT c)).count l) ((es.map (dgO p)).filterMap (nmP c)) ((es.map (dgO p)).filterMap (nmP c)).length := by
  rw [rows_pair o h]
  unfold pairL leftN
  rw [open_keep c _ _ (puts_none _ _), puts_names, List.take_length]
  congr 1
  funext l
  exact (taks_count c l _ 0).symm
end LK
set_option linter.all false
set_option maxRecDepth 100000
set_option maxHeartbeats 4000000
/-! S25 (k18): the program's places, contents, heads. -/
namespace LK
open PySem PySem.Spec L2 PL RN
def Evs (p : Prg) (es : List (Nat × Nat)) : Prop := ∀ x ∈ es, ∃ a, awO p x = some a
theorem run_evs {p : Prg} : ∀ {es : List (Nat × Nat)} {pl : List Int} {ly : List (List Nm)}, RunOk p pl ly es → Evs p es
  | [], _, _, _ => fun _ h => absurd h List.not_mem_nil
  | e :: es, _, _, ⟨a, ha, _, _, _, hr⟩ => fun x hx => by
    rcases List.mem_cons.mp hx with rfl | hx
    · exact ⟨a, ha⟩
    · exact run_evs hr x hx
/-- the places behind es -/
def plA (p : Prg) (es : List (Nat × Nat)) : List Int := (actsS p (pl0 p, ly0 p) es).1
theorem plA_len {p : Prg} {es : List (Nat × Nat)} : (plA p es).length = p.ps.length := by
  unfold plA; rw [actsS_len.1]; unfold pl0; rw [List.length_map]
theorem plA_snoc {p : Prg} {es : List (Nat × Nat)} {e : Nat × Nat} {a : Arw} (ha : awO p e = some a) : plA p (es ++ [e]) = (plA p es).set e.1 a.e := by
  unfold plA
  rw [acts_snoc]
  unfold actS
  rw [ha]
section
variable {Q : D → Sto → Prop} {st : Sto}
theorem lc_mpI {α : Type} {set : D → En → Option En} {te : En → M D} {ρ : En} (f : α → D) (g : Nat → D) (xs : List α) {R : List D → Sto → Prop} (hs : ∀ i x, xs[i]? = some x → ∃ ρ', set (f x) ρ = some ρ' ∧ (∀ Q : D → Sto → Prop, Q (g i) st → wp (te ρ') Q st)) (k : R ((List.range xs.length).map g) st) : wp (lcL set tTrue te ρ (xs.map f)) R st := by
  have e1 : xs.map f = xs.zipIdx.map fun q => f q.1 := by
    rw [show (fun q : α × Nat => f q.1) = f ∘ Prod.fst from rfl, ← List.map_map, List.zipIdx_map_fst]
  have e2 : (List.range xs.length).map g = xs.zipIdx.map fun q => g q.2 := by
    rw [show (fun q : α × Nat => g q.2) = g ∘ Prod.snd from rfl, ← List.map_map, List.zipIdx_map_snd, List.range_eq_range']
  rw [e1]
  refine lc_mp (fun q : α × Nat => f q.1) (fun q => g q.2) xs.zipIdx (fun q hq => ?_) (by rw [← e2]; exact k)
  exact hs q.2 q.1 (by
    obtain ⟨i, hi⟩ := List.getElem?_of_mem hq
    rw [List.getElem?_zipIdx] at hi
    obtain ⟨x, hx, rfl⟩ := Option.map_eq_some_iff.mp hi
    simpa using hx)
theorem map_ix {α β : Type} (f : α → β) (d : α) (xs : List α) : ((List.range xs.length).map fun i => f (xs.getD i d)) = xs.map f := by
  apply List.ext_getElem?
  intro i
  rw [List.getElem?_map, List.getElem?_map]
  by_cases h : i < xs.length
  · rw [List.getElem?_range h, List.getElem?_eq_getElem h]
    simp [List.getD_eq_getElem?_getD, h]
  · rw [List.getElem?_eq_none (by simpa using h), List.getElem?_eq_none (by omega)]; rfl
theorem spec__places {p : Prg} {es : List (Nat × Nat)} (o : Ok p) (he : Evs p es) (q : ∀ s, Q (.tup ((plA p es).map D.int)) s) : wp (m__places_after [p.d, .tup (es.map (evO p))]) Q st := by
  refine w_run' [.val p.d, .val (.tup (es.map (evO p))), .no, .no, .no] rfl ?_
  unfold s__places_after
  subst_eqs
  refine w_dc ?_
  subst_eqs
  refine ⟨_, rfl, ?_⟩
  refine dc_mp Prt.d (fun y => y.n.x) (fun _ => .int 0) p.ps [] (fun y hy => ⟨_, rfl, fun Q hQ => ?_, fun Q hQ => ?_⟩) (by have := nx_nodup o.pn; rw [List.map_map] at this; exact this) (by have := o.pl; simp; omega) ?_
  · subst_eqs
    exact hQ
  · subst_eqs
    exact hQ
  subst_eqs
  refine ⟨_, rfl, ?_⟩
  refine for_mapI (f := evO p) (fun m ρ s => (∃ x4, ρ = [.val p.d, .val (.tup (es.map (evO p))), .val (.ref st.length), .no, x4]) ∧ s[st.length]? = some (.dict (kvZ (p.ps.map Prt.n) ((plA p (es.take m)).map D.int)))) ?_ ⟨⟨_, rfl⟩, ?_⟩ ?_
  · rintro m e ρ s hm ⟨⟨x4, rfl⟩, hs⟩
    obtain ⟨a, ha⟩ := he e (List.mem_of_getElem? hm)
    obtain ⟨y, hy, hym, hya, hev⟩ := awO_is ha
    have ht : es.take (m + 1) = es.take m ++ [e] := by rw [List.take_add_one, hm]; rfl
    refine ⟨_, rfl, ?_⟩
    rw [hev]
    subst_eqs
    refine ⟨rfl, spec_find_arrow o hym hya ?_⟩
    subst_eqs
    refine w_dp hs (by rw [kvZ_len (by rw [List.length_map, List.length_map, plA_len]), List.length_map, plA_len]; exact Nat.lt_of_le_of_lt o.pl (by decide)) ?_
    refine .inl ⟨rfl, ⟨_, rfl⟩, ?_⟩
    rw [ht, plA_snoc ha, set_self hs, putZ o.pn (i := e.1) (by rw [List.getElem?_map, hy]; rfl) (by rw [List.length_map, plA_len]; exact (List.getElem?_eq_some_iff.mp hy).1), List.map_set]
  · rw [List.getElem?_append_right (Nat.le_refl _), Nat.sub_self, List.take_zero]
    show some (Ob.dict _) = _
    rw [List.nil_append, kvZ_map Prt.n (fun _ => D.int 0)]
    congr 3
    unfold plA actsS pl0
    rw [List.foldl_nil, List.map_map]; rfl
  · rintro ρ s ⟨⟨x4, rfl⟩, hs⟩
    rw [List.take_length] at hs
    subst_eqs
    refine ⟨_, rfl, ?_⟩
    refine lc_mpI Prt.d (fun i => D.int ((plA p es).getD i 0)) p.ps (fun i y hy => ⟨_, rfl, fun Q hQ => ?_⟩) ?_
    · have hi : i < (plA p es).length := by rw [plA_len]; exact (List.getElem?_eq_some_iff.mp hy).1
      subst_eqs
      refine w_dg hs (valZ o.pn (i := i) (by rw [List.getElem?_map, hy]; rfl) (by rw [List.getElem?_map, List.getElem?_eq_getElem hi]; rfl)) ?_
      rw [List.getD_eq_getElem?_getD, List.getElem?_eq_getElem hi] at hQ
      exact hQ
    · rw [← plA_len (es := es), map_ix D.int 0]
      subst_eqs
      exact q s
theorem w_row3 {r : Row} (k : Q (optN r.t) st) : wp (ixM r.d (.int 3)) Q st := w_ixT at3 k
theorem w_row0 {r : Row} (k : Q (.str r.c.x) st) : wp (ixM r.d (.int 0)) Q st := w_ixT at0 k
theorem spec__contents {p : Prg} {rows : List Row} (q : Q (.tup (p.cs.map fun ch => .tup (txD (openOn ch.n rows)))) st) : wp (m__contents_of [p.d, .lst (rows.map Row.d)]) Q st := by
  refine w_run' [.val p.d, .val (.lst (rows.map Row.d)), .no, .no, .no] rfl ?_
  unfold s__contents_of
  subst_eqs
  refine ⟨_, rfl, ?_⟩
  refine lc_fm Row.d (fun r => decide (r.t = none)) Row.d rows (fun r hr => ⟨_, rfl, fun T hT => ?_, fun _ Q hQ => ?_⟩) ?_
  · subst_eqs
    refine w_row3 ?_
    cases ht : r.t with
    | none =>
      rw [ht, decide_eq_true rfl] at hT
      show wp (isNM .non) _ _
      subst_eqs
      exact hT
    | some t =>
      rw [ht, decide_eq_false (fun e => nomatch e)] at hT
      show wp (isNM (.int t)) _ _
      subst_eqs
      exact hT
  · subst_eqs
    exact hQ
  subst_eqs
  refine ⟨_, rfl, ?_⟩
  refine lc_mp Chn.d (fun ch => .tup (txD (openOn ch.n rows))) p.cs (fun ch hc => ⟨_, rfl, fun Q hQ => ?_⟩) ?_
  · subst_eqs
    refine ⟨_, rfl, ?_⟩
    refine lc_fm Row.d (fun r => decide (r.c = ch.n)) (fun r => .str r.l.x) (rows.filter fun r => decide (r.t = none)) (fun r hr => ⟨_, rfl, fun T hT => ?_, fun _ Q hQ => ?_⟩) ?_
    · subst_eqs
      refine w_row0 ?_
      subst_eqs
      exact hT
    · subst_eqs
      refine w_row1 ?_
      exact hQ
    · subst_eqs
      have e : ((rows.filter fun r => decide (r.t = none)).filter fun r => decide (r.c = ch.n)).map (fun r => D.str r.l.x) = txD (openOn ch.n rows) := by
        unfold openOn txD
        rw [List.filter_filter, List.map_map, List.map_map]
        congr 1
        refine List.filter_congr fun r _ => ?_
        by_cases h1 : r.t = none <;> by_cases h2 : r.c = ch.n <;> simp [h1, h2]
      rw [e]
      exact hQ
  · subst_eqs
    exact q
end
end LK
set_option linter.all false
set_option maxRecDepth 100000
set_option maxHeartbeats 4000000
/-! S26 (k18): stands; what lies is what lay step by step; the law's places. -/
namespace LK
open PySem PySem.Spec L2 PL RN
theorem lies_open (c : Nm) : ∀ rows : List Row, lies c rows = openOn c rows
  | [] => rfl
  | r :: rs => by
    rw [openOn_cons, ← lies_open c rs]
    unfold lies
    by_cases h1 : r.c = c <;> by_cases h2 : r.t = none <;> simp [h1, h2]
    all_goals (conv => lhs; unfold lies)
    all_goals rfl
theorem acts_rows {p : Prg} (o : Ok p) : ∀ {es : List (Nat × Nat)} {k : Nat} {pl : List Int} {rows : List Row}, RunOk p pl (lyOf p rows) es → (actsS p (pl, lyOf p rows) es).2 = lyOf p (rowsFrom k rows (es.map (dgO p)))
  | [], _, _, _, _ => rfl
  | e :: es, k, pl, rows, ⟨a, ha, hp, ly', hact, hr⟩ => by
    have e1 : ly' = actLy p (lyOf p rows) a.g := actOk_act o (by unfold lyOf; rw [List.length_map]) hact
    have e2 : actS p (pl, lyOf p rows) e = (pl.set e.1 a.e, ly') := by
      unfold actS
      rw [ha, e1]
    have e3 : ly' = lyOf p (stepR rows k a.g) := by
      cases hg : a.g with
      | doo w => rw [hg] at hact; exact hact
      | put c l =>
        rw [hg] at hact
        obtain ⟨j, ch, L, hj, rfl, hL, _, h5⟩ := hact
        unfold lyOf at hL
        rw [List.getElem?_map, hj] at hL
        cases hL
        rw [h5]
        exact (ly_put o hj).symm
      | tak c l =>
        rw [hg] at hact
        obtain ⟨j, ch, L, hj, rfl, hL, hm, _, h5⟩ := hact
        unfold lyOf at hL
        rw [List.getElem?_map, hj] at hL
        cases hL
        rw [h5]
        exact (ly_tak o hj hm).symm
    show (actsS p (actS p (pl, lyOf p rows) e) es).2 = lyOf p (rowsFrom (k + 1) (stepR rows k (dgO p e)) (es.map (dgO p)))
    rw [e2, dgO_is ha, e3]
    rw [e3] at hr
    exact acts_rows o hr
/-- what lies on ch behind es -/
def cont (p : Prg) (es : List (Nat × Nat)) (ch : Chn) : List Nm := openOn ch.n (rowsOf (es.map (dgO p)))
theorem cont_call {p : Prg} {es : List (Nat × Nat)} (o : Ok p) (h : RunOk p (pl0 p) (ly0 p) es) (hc : CallE p (actsS p (pl0 p, ly0 p) es).2) : ∀ ch ∈ p.cs, ch.f = .c → cont p es ch = [] := by
  intro ch hm hf
  have e0 : ly0 p = lyOf p [] := by unfold ly0 lyOf; rfl
  obtain ⟨j, hj⟩ := List.getElem?_of_mem hm
  rw [e0] at h hc
  have e := acts_rows (k := 0) o h
  rw [e] at hc
  have := hc j ch (lies ch.n (rowsOf (es.map (dgO p)))) hj hf (by unfold lyOf; rw [List.getElem?_map, hj]; rfl)
  rw [lies_open] at this
  exact this
def hdD (f : Fm) (L : List Nm) : D := .tup (if f = .b then (uniqS (L.map Nm.x)).map D.str else txD (L.take 1))
theorem cut_tx {L : List Nm} : cutD (txD L) none (some 1) = txD (L.take 1) := by
  unfold cutD txD
  show List.take (HT.sIx _ _ (some ((1 : Nat) : Int)) - 0) _ = _
  rw [HT.sIx_nat, HT.sIx_none, List.drop_zero, List.length_map, List.length_map, List.map_take, List.map_take]
  cases L with
  | nil => rfl
  | cons a L => simp
section
variable {Q : D → Sto → Prop} {st : Sto}
theorem spec_head {f : Fm} {L : List Nm} (hl : L.length < 64) (q : Q (hdD f L) st) : wp (m_head_of [.str f.s, .tup (txD L)]) Q st := by
  unfold hdD at q
  refine w_run' [.val (.str f.s), .val (.tup (txD L))] rfl ?_
  unfold s_head_of
  subst_eqs
  refine k_if (fun h => ?_) fun h => ?_
  · rw [if_pos (of_decide_eq_true h)] at q
    subst_eqs
    refine w_ssetB (by rw [List.length_map]; exact hl) ?_
    subst_eqs
    exact q
  · rw [if_neg (of_decide_eq_false h)] at q
    subst_eqs
    rw [cut_tx]
    exact q
theorem spec_places {p : Prg} {es : List (Nat × Nat)} (o : Ok p) (hr : RunOk p (pl0 p) (ly0 p) es) (hl : es.length ≤ 1000) (q : ∀ s, Q (.tup ((plA p es).map D.int)) s) : wp (m_places_after [p.d, .tup (es.map (evO p))]) Q st := by
  refine w_run' [.val p.d, .val (.tup (es.map (evO p)))] rfl ?_
  unfold s_places_after
  subst_eqs
  refine w_tak ?_
  subst_eqs
  refine ⟨rfl, spec_rows_of_run o hr hl fun s ht hs => ?_⟩
  refine ⟨_, _, rfl, hs, ht, ?_⟩
  subst_eqs
  refine ⟨rfl, spec__places o (run_evs hr) fun s => ?_⟩
  exact q s
theorem spec_contents {p : Prg} {es : List (Nat × Nat)} (o : Ok p) (hr : RunOk p (pl0 p) (ly0 p) es) (hl : es.length ≤ 1000) (q : ∀ s, Q (.tup (p.cs.map fun ch => .tup (txD (cont p es ch)))) s) : wp (m_contents_of [p.d, .tup (es.map (evO p))]) Q st := by
  refine w_run' [.val p.d, .val (.tup (es.map (evO p)))] rfl ?_
  unfold s_contents_of
  subst_eqs
  refine w_tak ?_
  subst_eqs
  refine ⟨rfl, spec_rows_of_run o hr hl fun s ht hs => ?_⟩
  refine ⟨_, _, rfl, hs, ht, ?_⟩
  subst_eqs
  refine ⟨rfl, spec__contents ?_⟩
  exact q _
theorem spec_stand {p : Prg} {es : List (Nat × Nat)} (o : Ok p) (hr : RunOk p (pl0 p) (ly0 p) es) (hl : es.length ≤ 1000) (hc : ∀ ch ∈ p.cs, (cont p es ch).length < 64) (q : ∀ s, Q (.tup [.tup ((plA p es).map D.int), .tup (p.cs.map fun ch => hdD ch.f (cont p es ch))]) s) : wp (m_stand_after [p.d, .tup (es.map (evO p))]) Q st := by
  refine w_run' [.val p.d, .val (.tup (es.map (evO p))), .no, .no, .no, .no] rfl ?_
  unfold s_stand_after
  subst_eqs
  refine w_tak ?_
  subst_eqs
  refine ⟨rfl, spec_rows_of_run o hr hl fun s ht hs => ?_⟩
  refine ⟨_, _, rfl, hs, ht, ?_⟩
  subst_eqs
  refine ⟨rfl, spec__contents ?_⟩
  subst_eqs
  refine w_zip ?_
  subst_eqs
  refine ⟨_, _, rfl, by rw [List.length_map, List.length_map, Nat.min_self]; exact Nat.le_trans o.cl (by decide), ?_⟩
  have e : zipD (p.cs.map Chn.d) (p.cs.map fun ch => .tup (txD (openOn ch.n (rowsOf (es.map (dgO p)))))) = p.cs.map fun ch => D.tup [ch.d, .tup (txD (cont p es ch))] := by
    unfold zipD cont
    rw [List.zip_map', List.map_map]; rfl
  rw [e]
  refine lc_mp (fun ch => D.tup [ch.d, .tup (txD (cont p es ch))]) (fun ch => hdD ch.f (cont p es ch)) p.cs (fun ch hm => ?_) ?_
  · refine ⟨[.val p.d, .val (.tup (es.map (evO p))), .val (.tup (p.cs.map fun ch => .tup (txD (openOn ch.n (rowsOf (es.map (dgO p))))))), .no, .val ch.d, .val (.tup (txD (cont p es ch)))], by simp [Pt.set, setAll, wipeE], fun Q hQ => ?_⟩
    subst_eqs
    refine ⟨rfl, spec_head (hc ch hm) ?_⟩
    exact hQ
  · subst_eqs
    refine ⟨rfl, spec__places o (run_evs hr) fun s => ?_⟩
    subst_eqs
    exact k_len2 (q s)
end
end LK
set_option linter.all false
set_option maxRecDepth 100000
set_option maxHeartbeats 4000000
/-! S27 (k18): the law's places, contents, heads. -/
namespace LK
open PySem PySem.Spec L2 PL RN
theorem fm_names (pr : Dg → Bool) (g : Dg → D) (n : Dg → Option Nm) (h : ∀ x, (pr x = true → ∃ m, n x = some m ∧ g x = .str m.x) ∧ (pr x = false → n x = none)) : ∀ gs : List Dg, (gs.filter pr).map g = txD (gs.filterMap n)
  | [] => rfl
  | x :: gs => by
    have ih := fm_names pr g n h gs
    cases hp : pr x with
    | true =>
      obtain ⟨m, h1, h2⟩ := (h x).1 hp
      rw [List.filter_cons_of_pos hp, List.filterMap_cons_some h1, List.map_cons, ih, h2]; rfl
    | false =>
      rw [List.filter_cons_of_neg (by simp [hp]), List.filterMap_cons_none ((h x).2 hp), ih]
theorem count_nm (l : Nm) : ∀ L : List Nm, (L.map Nm.x).count l.x = L.count l
  | [] => rfl
  | a :: L => by
    rw [List.map_cons, List.count_cons, List.count_cons, count_nm l L]
    by_cases h : a = l
    · subst h; simp
    · have h' : ¬a.x = l.x := fun e => h (Nm.ext' e)
      simp [h, h']
theorem cut_txk {L : List Nm} {k : Nat} (h : k ≤ L.length) : cutD (txD L) none (some (k : Int)) = ((L.take k).map Nm.x).map D.str := by
  unfold cutD txD
  rw [HT.sIx_nat, HT.sIx_none, List.drop_zero, List.length_map, List.length_map, Nat.min_eq_left h, Nat.sub_zero, List.map_take, List.map_take]
/-- where the law looks at doings -/
def dg1 : Dg → Bool → Nm → Bool
  | .put c _, true, c' => decide (c = c')
  | .tak c _, false, c' => decide (c = c')
  | _, _, _ => false
def dgL : Dg → D
  | .put _ l => .str l.x
  | .tak _ l => .str l.x
  | .doo _ => .non
def verb : Bool → Str
  | true => "put"
  | false => "take"
section
variable {Q : D → Sto → Prop} {st : Sto}
theorem spec_named {p : Prg} {es : List (Nat × Nat)} {b : Bool} {c : Nm} (o : Ok p) (he : Evs p es) (q : Q (.lst (txD ((es.map (dgO p)).filterMap (if b = true then nmP c else nmT c)))) st) : wp (m__law_named [p.d, .tup (es.map (evO p)), .str (verb b), .str c.x]) Q st := by
  refine w_run' [.val p.d, .val (.tup (es.map (evO p))), .val (.str (verb b)), .val (.str c.x), .no, .no, .no] rfl ?_
  unfold s__law_named
  false_or_by_contra
  refine lc_mp (evO p) (fun e => (dgO p e).d) es (fun e hm => ⟨_, rfl, fun Q hQ => ?_⟩) ?_
  · obtain ⟨a, ha⟩ := he e hm
    rw [dgO_is ha] at hQ
    false_or_by_contra
    refine spec_doing o ha ?_
    exact hQ
  false_or_by_contra
  have e1 : es.map (fun e => (dgO p e).d) = (es.map (dgO p)).map Dg.d := by rw [List.map_map]; rfl
  rw [e1]
  refine lc_fm Dg.d (fun g => dg1 g b c) dgL (es.map (dgO p)) (fun g hg => ⟨_, rfl, fun T hT => ?_, fun hp Q hQ => ?_⟩) ?_
  · cases b <;> cases g with
    | doo w => 
      have hT : T false st := hT
      simp only [verb]
      false_or_by_contra
      exact hT
    | put c' l' =>
      simp only [verb]
      false_or_by_contra
      exact hT
    | tak c' l' =>
      simp only [verb]
      false_or_by_contra
      exact hT
  · cases g with
    | doo w => cases b <;> cases hp
    | put c' l' =>
      false_or_by_contra
      exact hQ
    | tak c' l' =>
      false_or_by_contra
      exact hQ
  · rw [fm_names (fun g => dg1 g b c) dgL (if b = true then nmP c else nmT c) (fun x => ?_)]
    · false_or_by_contra
      exact q
    · cases b with
      | false =>
        cases x with
        | doo w => exact ⟨fun h => (nomatch h), fun _ => rfl⟩
        | put c' l' => exact ⟨fun h => (nomatch h), fun _ => rfl⟩
        | tak c' l' => exact ⟨fun h => ⟨l', if_pos (of_decide_eq_true (show decide (c' = c) = true from h)), rfl⟩, fun h => if_neg (of_decide_eq_false (show decide (c' = c) = false from h))⟩
      | true =>
        cases x with
        | doo w => exact ⟨fun h => (nomatch h), fun _ => rfl⟩
        | tak c' l' => exact ⟨fun h => (nomatch h), fun _ => rfl⟩
        | put c' l' => exact ⟨fun h => ⟨l', if_pos (of_decide_eq_true (show decide (c' = c) = true from h)), rfl⟩, fun h => if_neg (of_decide_eq_false (show decide (c' = c) = false from h))⟩
theorem spec_law_places {p : Prg} {es : List (Nat × Nat)} (o : Ok p) (he : Evs p es) (q : Q (.tup ((plA p es).map D.int)) st) : wp (m__law_places [p.d, .tup (es.map (evO p))]) Q st := by
  refine w_run' [.val p.d, .val (.tup (es.map (evO p))), .no, .no, .no, .no] rfl ?_
  unfold s__law_places
  false_or_by_contra
  refine for_mapI (f := Prt.d) (fun i ρ s => s = st ∧ ∃ x3 x4 x5, ρ = [.val p.d, .val (.tup (es.map (evO p))), .own (((plA p es).take i).map D.int), x3, x4, x5]) ?_ ⟨rfl, _, _, _, rfl⟩ ?_
  · rintro i y ρ s hy ⟨rfl, x3, x4, x5, rfl⟩
    have hi := (List.getElem?_eq_some_iff.mp hy).1
    refine ⟨_, rfl, ?_⟩
    false_or_by_contra
    refine for_mapI (f := evO p) (fun m ρ s' => s' = s ∧ ∃ x5, ρ = [.val p.d, .val (.tup (es.map (evO p))), .own (((plA p es).take i).map D.int), .val y.d, .val (.int ((plA p (es.take m)).getD i 0)), x5]) ?_ ⟨rfl, x5, ?_⟩ ?_
    · rintro m e ρ s' hm ⟨rfl, x5, rfl⟩
      obtain ⟨a, ha⟩ := he e (List.mem_of_getElem? hm)
      obtain ⟨z, hz, hzm, hza, hev⟩ := awO_is ha
      have ht : es.take (m + 1) = es.take m ++ [e] := by rw [List.take_add_one, hm]; rfl
      refine ⟨_, rfl, ?_⟩
      rw [hev]
      false_or_by_contra
      refine k_if (fun h => ?_) fun h => ?_
      · have hie : e.1 = i := nd_ix o.pn hz hy (of_decide_eq_true h)
        subst hie
        rw [hy] at hz
        cases hz
        false_or_by_contra
        refine .inl ⟨rfl, rfl, .val (evD y.n e.2), ?_⟩
        have hg : (plA p (es.take (m + 1))).getD e.1 0 = a.e := by
          rw [ht, plA_snoc ha, List.getD_eq_getElem?_getD, List.getElem?_set_self (by rw [plA_len]; exact hi)]; rfl
        rw [hg]; rfl
      · have hne : e.1 ≠ i := by
          intro e1
          subst e1
          rw [hy] at hz
          cases hz
          exact absurd rfl (of_decide_eq_false h)
        false_or_by_contra
        refine .inl ⟨rfl, rfl, .val (evD z.n e.2), ?_⟩
        have hg : (plA p (es.take (m + 1))).getD i 0 = (plA p (es.take m)).getD i 0 := by
          rw [ht, plA_snoc ha, List.getD_eq_getElem?_getD, List.getD_eq_getElem?_getD, List.getElem?_set_ne hne]
        rw [hg]; rfl
    · have e0 : (plA p (es.take 0)).getD i 0 = 0 := by
        unfold plA actsS pl0
        rw [List.take_zero, List.foldl_nil, List.getD_eq_getElem?_getD, List.getElem?_map]
        cases p.ps[i]? <;> rfl
      rw [e0]; rfl
    · rintro ρ s' ⟨rfl, x5, rfl⟩
      rw [List.take_length]
      false_or_by_contra
      have hp := o.pl
      refine ⟨small3 (by rw [List.length_map, List.length_take]; omega), ?_⟩
      refine .inl ⟨rfl, rfl, .val y.d, .val (.int ((plA p es).getD i 0)), x5, ?_⟩
      have hi2 : i < (plA p es).length := by rw [plA_len]; exact hi
      rw [List.take_add_one, List.getElem?_eq_getElem hi2, List.map_append, List.getD_eq_getElem?_getD, List.getElem?_eq_getElem hi2]; rfl
  · rintro ρ s ⟨rfl, x3, x4, x5, rfl⟩
    rw [← plA_len (es := es), List.take_length]
    false_or_by_contra
    exact q
end
end LK
set_option linter.all false
set_option maxRecDepth 100000
set_option maxHeartbeats 4000000
/-! S28 (k18): the law's contents and heads. -/
namespace LK
open PySem PySem.Spec L2 PL RN
/-- the law's letters left, of puts ps and takes ts -/
def lef (p : Prg) (es : List (Nat × Nat)) (c : Nm) (k : Nat) : List Nm := leftN (fun l => ((es.map (dgO p)).filterMap (nmT c)).count l) ((es.map (dgO p)).filterMap (nmP c)) k
theorem keepN_len (n : Nm → Nat) : ∀ (b : Nm → Nat) (ls : List Nm), (keepN n b ls).length ≤ ls.length
  | _, [] => Nat.le_refl _
  | b, l :: ls => by
    have := keepN_len n (fun x => if x = l then b x + 1 else b x) ls
    unfold keepN
    split
    · rw [List.length_cons, List.length_cons]; omega
    · rw [List.length_cons]; omega
theorem lef_len {p : Prg} {es : List (Nat × Nat)} {c : Nm} {k : Nat} : (lef p es c k).length ≤ es.length := by
  unfold lef leftN
  refine Nat.le_trans (keepN_len _ _ _) ?_
  rw [List.length_take]
  refine Nat.le_trans (Nat.min_le_right _ _) (Nat.le_trans (List.length_filterMap_le _ _) ?_)
  rw [List.length_map]; exact Nat.le_refl _
theorem cont_lef {p : Prg} {es : List (Nat × Nat)} (o : Ok p) (h : RunOk p (pl0 p) (ly0 p) es) (ch : Chn) : cont p es ch = lef p es ch.n ((es.map (dgO p)).filterMap (nmP ch.n)).length := contents_eq o h ch.n
theorem cont_len {p : Prg} {es : List (Nat × Nat)} (o : Ok p) (h : RunOk p (pl0 p) (ly0 p) es) (ch : Chn) : (cont p es ch).length ≤ es.length := by
  rw [cont_lef o h]; exact lef_len
section
variable {Q : D → Sto → Prop} {st : Sto}
theorem spec_law_contents {p : Prg} {es : List (Nat × Nat)} (o : Ok p) (h : RunOk p (pl0 p) (ly0 p) es) (hl : es.length ≤ 1000) (q : Q (.tup (p.cs.map fun ch => .tup (txD (cont p es ch)))) st) : wp (m__law_contents [p.d, .tup (es.map (evO p))]) Q st := by
  have he := run_evs h
  have hcl := o.cl
  refine w_run' [.val p.d, .val (.tup (es.map (evO p))), .no, .no, .no, .no, .no, .no] rfl ?_
  unfold s__law_contents
  false_or_by_contra
  refine for_mapI (f := Chn.d) (fun i ρ s => s = st ∧ ∃ x3 x4 x5 x6 x7, ρ = [.val p.d, .val (.tup (es.map (evO p))), .own ((p.cs.take i).map fun ch => .tup (txD (cont p es ch))), x3, x4, x5, x6, x7]) ?_ ⟨rfl, _, _, _, _, _, rfl⟩ ?_
  · rintro i ch ρ s hch ⟨rfl, x3, x4, x5, x6, x7, rfl⟩
    have hi := (List.getElem?_eq_some_iff.mp hch).1
    refine ⟨_, rfl, ?_⟩
    false_or_by_contra
    refine spec_named (b := true) o he ?_
    false_or_by_contra
    refine spec_named (b := false) o he ?_
    rw [if_pos rfl, if_neg (by decide)]
    have hpl : ((es.map (dgO p)).filterMap (nmP ch.n)).length ≤ 1000 := Nat.le_trans (List.length_filterMap_le _ _) (by rw [List.length_map]; exact hl)
    have hfin := cont_lef o h ch
    have hlef := fun k => lef_len (p := p) (es := es) (c := ch.n) (k := k)
    have hsuc : ∀ k l, ((es.map (dgO p)).filterMap (nmP ch.n))[k]? = some l → lef p es ch.n (k + 1) = lef p es ch.n k ++ (if ((es.map (dgO p)).filterMap (nmT ch.n)).count l ≤ (((es.map (dgO p)).filterMap (nmP ch.n)).take k).count l then [l] else []) := fun k l h => leftN_succ h
    generalize (es.map (dgO p)).filterMap (nmP ch.n) = ps at hpl hfin hsuc
    generalize (es.map (dgO p)).filterMap (nmT ch.n) = ts at hsuc
    false_or_by_contra
    refine ⟨ps.length, ?_, by omega, ?_⟩
    · unfold txD
      rw [List.length_map, List.length_map]
    refine for_range (fun k ρ s' => s' = s ∧ ∃ x7, ρ = [.val p.d, .val (.tup (es.map (evO p))), .own ((p.cs.take i).map fun ch => .tup (txD (cont p es ch))), .val ch.d, .val (.lst (txD ps)), .val (.lst (txD ts)), .own (txD (lef p es ch.n k)), x7]) ?_ ⟨rfl, _, rfl⟩ ?_
    · rintro k ρ s' hk ⟨rfl, x7, rfl⟩
      obtain ⟨l, hl'⟩ : ∃ l, ps[k]? = some l := ⟨_, List.getElem?_eq_getElem hk⟩
      have hat : atI (txD ps) (k : Int) = some (.str l.x) := by
        unfold txD
        exact atI_nat (by rw [List.getElem?_map, List.getElem?_map, hl']; rfl)
      have hlk := hlef k
      refine ⟨_, rfl, ?_⟩
      false_or_by_contra
      refine w_cnt ?_
      false_or_by_contra
      refine ⟨(ps.take k).map Nm.x, by rw [cut_txk (by omega)], ?_⟩
      false_or_by_contra
      refine w_ixL hat ?_
      refine ⟨_, rfl, ?_⟩
      false_or_by_contra
      refine w_cnt ?_
      false_or_by_contra
      refine ⟨ts.map Nm.x, rfl, ?_⟩
      false_or_by_contra
      refine w_ixL hat ?_
      refine ⟨_, rfl, ?_⟩
      rw [count_nm, count_nm]
      false_or_by_contra
      have e := hsuc k l hl'
      refine k_if (fun h => ?_) fun h => ?_
      · rw [if_pos (by have := of_decide_eq_true h; omega)] at e
        false_or_by_contra
        refine w_ixL hat ?_
        false_or_by_contra
        refine ⟨small3 (by unfold txD; rw [List.length_map, List.length_map]; omega), ?_⟩
        refine .inl ⟨rfl, rfl, .val (.int k), ?_⟩
        rw [e]
        unfold txD
        rw [List.map_append, List.map_append]; rfl
      · rw [if_neg (by have := of_decide_eq_false h; omega), List.append_nil] at e
        false_or_by_contra
        refine .inl ⟨rfl, rfl, .val (.int k), ?_⟩
        rw [e]; rfl
    · rintro ρ s' ⟨rfl, x7, rfl⟩
      rw [← hfin]
      false_or_by_contra
      refine ⟨small3 (by rw [List.length_map, List.length_take]; omega), ?_⟩
      refine .inl ⟨rfl, rfl, .val ch.d, .val (.lst (txD ps)), .val (.lst (txD ts)), .own (txD (cont p es ch)), x7, ?_⟩
      rw [List.take_add_one, hch, List.map_append]; rfl
  · rintro ρ s ⟨rfl, x3, x4, x5, x6, x7, rfl⟩
    rw [List.take_length]
    false_or_by_contra
    exact q
theorem spec_law_heads {p : Prg} {es : List (Nat × Nat)} (o : Ok p) (hc : ∀ ch ∈ p.cs, ch.f = .c → cont p es ch = []) (h64 : ∀ ch ∈ p.cs, (cont p es ch).length < 64) (q : Q (.tup (p.cs.map fun ch => hdD ch.f (cont p es ch))) st) : wp (m__law_heads [p.d, .tup (p.cs.map fun ch => .tup (txD (cont p es ch)))]) Q st := by
  have hcl := o.cl
  refine w_run' [.val p.d, .val (.tup (p.cs.map fun ch => .tup (txD (cont p es ch)))), .no, .no] rfl ?_
  unfold s__law_heads
  false_or_by_contra
  refine ⟨p.cs.length, rfl, by omega, ?_⟩
  refine for_range (fun i ρ s => s = st ∧ ∃ x3, ρ = [.val p.d, .val (.tup (p.cs.map fun ch => .tup (txD (cont p es ch)))), .own ((p.cs.take i).map fun ch => hdD ch.f (cont p es ch)), x3]) ?_ ⟨rfl, _, rfl⟩ ?_
  · rintro i ρ s hi ⟨rfl, x3, rfl⟩
    obtain ⟨ch, hch⟩ : ∃ ch, p.cs[i]? = some ch := ⟨_, List.getElem?_eq_getElem hi⟩
    have hm := List.mem_of_getElem? hch
    have hln : ((p.cs.take i).map fun ch => hdD ch.f (cont p es ch)).length + 1 ≤ sizeLine := small3 (by rw [List.length_map, List.length_take]; omega)
    have hsn : ((p.cs.take (i + 1)).map fun ch => hdD ch.f (cont p es ch)) = ((p.cs.take i).map fun ch => hdD ch.f (cont p es ch)) ++ [hdD ch.f (cont p es ch)] := by
      rw [List.take_add_one, hch, List.map_append]; rfl
    have hat : atI (p.cs.map fun ch => D.tup (txD (cont p es ch))) (i : Int) = some (.tup (txD (cont p es ch))) := atM hch
    refine ⟨_, rfl, ?_⟩
    rw [hsn]
    false_or_by_contra
    refine k_if (fun h => ?_) fun h => ?_
    · have hf := of_decide_eq_true h
      false_or_by_contra
      rw [cut_tx]
      refine ⟨hln, .inl ⟨rfl, rfl, .val (.int i), ?_⟩⟩
      unfold hdD
      rw [hf]; rfl
    · false_or_by_contra
      refine k_if (fun h2 => ?_) fun h2 => ?_
      · have hf := of_decide_eq_true h2
        false_or_by_contra
        refine w_ssetB (by rw [List.length_map]; exact h64 ch hm) ?_
        false_or_by_contra
        refine ⟨hln, .inl ⟨rfl, rfl, .val (.int i), ?_⟩⟩
        unfold hdD
        rw [hf]; rfl
      · have hf : ch.f = .c := by
          cases hh : ch.f with
          | q => exact absurd hh (of_decide_eq_false h)
          | b => exact absurd hh (of_decide_eq_false h2)
          | c => rfl
        false_or_by_contra
        refine ⟨hln, .inl ⟨rfl, rfl, .val (.int i), ?_⟩⟩
        unfold hdD
        rw [hf, hc ch hm hf]; rfl
  · rintro ρ s ⟨rfl, x3, rfl⟩
    rw [List.take_length]
    false_or_by_contra
    exact q
end
end LK
set_option linter.all false
set_option maxRecDepth 100000
set_option maxHeartbeats 4000000
/-! R15: the drawn numbers. -/
namespace LK
open PySem PySem.Spec L2 PL RN
def Drw (d : Int) : Prop := 0 ≤ d ∧ d < 55440
section
variable {Q : D → Sto → Prop} {st : Sto}
theorem drw_mod (z : Int) : Drw (z % 55440) := ⟨Int.emod_nonneg _ (by decide), Int.emod_lt_of_pos _ (by decide)⟩
theorem spec_mixed (n k : Int) (q : ∀ d, Drw d → Q (.int d) st) : wp (m__law_mixed [.int n, .int k]) Q st := by
  refine w_run' [.val (.int n), .val (.int k), .no] rfl ?_
  unfold s__law_mixed
  false_or_by_contra
  generalize hx : (n * 48271 + k * 1103515245 + 12345) % 2147483647 = x
  have h1 : 0 ≤ x ∧ x < 2147483647 := by
    rw [← hx]; exact ⟨Int.emod_nonneg _ (by decide), Int.emod_lt_of_pos _ (by decide)⟩
  refine w_int2 (decide_eq_true (.inl ⟨by omega, by omega⟩)) ?_
  false_or_by_contra
  exact q _ (drw_mod _)
theorem w_lenF {xs : List D} {R : D → Sto → Prop} (k : R (.int xs.length) st) : wp (lenM (.frz xs)) R st := ⟨k⟩
theorem w_ixF {xs : List D} {i : Int} {d : D} {R : D → Sto → Prop} (e : atI xs i = some d) (k : R d st) : wp (ixM (.frz xs) (.int i)) R st := by
  show wp (opt (atI xs i)) R st
  rw [e]; exact ⟨k⟩
def AllDrw (ds : List Int) : Prop := ∀ d ∈ ds, Drw d
theorem drw_snoc {ds : List Int} {d : Int} (h : AllDrw ds) (hd : Drw d) : AllDrw (ds ++ [d]) := by
  intro x hx
  rcases List.mem_append.mp hx with h' | h'
  · exact h x h'
  · rw [List.mem_singleton.mp h']; exact hd
theorem mi_snoc (ds : List Int) (d : Int) : ds.map D.int ++ [D.int d] = (ds ++ [d]).map D.int := by rw [List.map_append]; rfl
theorem spec_draws (ns : List Int) (many : Nat) (hm : many ≤ 1000) (hn : ns.length ≤ 63) (q : ∀ ds : List Int, ds.length = many → AllDrw ds → Q (.lst (ds.map D.int)) st) : wp (m__law_draws [.frz (ns.map D.int), .int many]) Q st := by
  refine w_run' [.val (.frz (ns.map D.int)), .val (.int many), .no, .no, .no, .no, .no] rfl ?_
  unfold s__law_draws
  false_or_by_contra
  refine w_lenF ?_
  rw [List.length_map]
  false_or_by_contra
  refine ⟨_, rfl, by omega, ?_⟩
  refine for_range (fun m ρ s => s = st ∧ ∃ (ds : List Int) (t : Int) (x4 x5 x6 : Slot), ρ = [.val (.frz (ns.map D.int)), .val (.int many), .own (ds.map D.int), .val (.int t), x4, x5, x6] ∧ ds.length ≤ many ∧ AllDrw ds) ?_ ⟨rfl, [], 7, _, _, _, rfl, Nat.zero_le _, fun _ h => absurd h List.not_mem_nil⟩ ?_
  · rintro m ρ s hm2 ⟨rfl, ds, t, x4, x5, x6, rfl, hl, hd⟩
    obtain ⟨z, hz⟩ : ∃ z, ns[m]? = some z := ⟨_, List.getElem?_eq_getElem hm2⟩
    refine ⟨_, rfl, ?_⟩
    false_or_by_contra
    refine w_ixF (atM hz) ?_
    false_or_by_contra
    generalize hc : (if z < 0 then -z else z) = cell
    refine k_if (fun h => ?_) fun h => ?_
    · false_or_by_contra
      refine ⟨60, rfl, by omega, ?_⟩
      refine for_range (fun m ρ s' => s' = s ∧ ∃ (ds : List Int) (t : Int) (x4 : Slot) (c : Int) (x6 : Slot), ρ = [.val (.frz (ns.map D.int)), .val (.int many), .own (ds.map D.int), .val (.int t), x4, .val (.int c), x6] ∧ ds.length ≤ many ∧ AllDrw ds) ?_ ⟨rfl, ds, _, _, _, _, rfl, hl, hd⟩ ?_
      · rintro m' ρ s' _ ⟨rfl, ds, t, x4, c, x6, rfl, hl, hd⟩
        refine ⟨_, rfl, ?_⟩
        false_or_by_contra
        refine k_if (fun h1 => ?_) fun h1 => ?_
        · false_or_by_contra
          refine k_if (fun h2 => ?_) fun h2 => ?_
          · have h3 : ds.length < many := by have := of_decide_eq_true h2; omega
            false_or_by_contra
            refine ⟨small3 (by rw [List.length_map]; omega), ?_⟩
            false_or_by_contra
            rw [mi_snoc]
            refine .inl ⟨rfl, rfl, ds ++ [c % 55440], _, _, _, _, rfl, by rw [List.length_append]; exact h3, drw_snoc hd (drw_mod _)⟩
          · false_or_by_contra
            exact .inl ⟨rfl, rfl, ds, _, _, _, _, rfl, hl, hd⟩
        · false_or_by_contra
          exact .inl ⟨rfl, rfl, ds, _, _, _, _, rfl, hl, hd⟩
      · rintro ρ s' ⟨rfl, ds, t, x4, c, x6, rfl, hl, hd⟩
        exact .inl ⟨rfl, rfl, ds, _, _, _, _, rfl, hl, hd⟩
    · false_or_by_contra
      refine ⟨4, rfl, by omega, ?_⟩
      refine for_range (fun m2 ρ s' => s' = s ∧ ∃ (ds : List Int) (t : Int) (x6 : Slot), ρ = [.val (.frz (ns.map D.int)), .val (.int many), .own (ds.map D.int), .val (.int t), .val (.int m), .val (.int cell), x6] ∧ ds.length ≤ many ∧ AllDrw ds) ?_ ⟨rfl, ds, _, _, rfl, hl, hd⟩ ?_
      · rintro m' ρ s' _ ⟨rfl, ds, t, x6, rfl, hl, hd⟩
        refine ⟨_, rfl, ?_⟩
        false_or_by_contra
        refine k_if (fun h2 => ?_) fun h2 => ?_
        · have h3 : ds.length < many := by have := of_decide_eq_true h2; omega
          false_or_by_contra
          refine spec_mixed _ _ fun d hd1 => ?_
          false_or_by_contra
          refine ⟨small3 (by rw [List.length_map]; omega), ?_⟩
          rw [mi_snoc]
          refine .inl ⟨rfl, rfl, ds ++ [d], _, _, rfl, by rw [List.length_append]; exact h3, drw_snoc hd hd1⟩
        · false_or_by_contra
          exact .inl ⟨rfl, rfl, ds, _, _, rfl, hl, hd⟩
      · rintro ρ s' ⟨rfl, ds, t, x6, rfl, hl, hd⟩
        exact .inl ⟨rfl, rfl, ds, _, _, _, _, rfl, hl, hd⟩
  · rintro ρ s ⟨rfl, ds, t, x4, x5, x6, rfl, hl, hd⟩
    false_or_by_contra
    refine ⟨many, rfl, by omega, ?_⟩
    refine for_range (fun m ρ s' => s' = s ∧ ∃ (ds : List Int) (t : Int) (x4 x5 x6 : Slot), ρ = [.val (.frz (ns.map D.int)), .val (.int many), .own (ds.map D.int), .val (.int t), x4, x5, x6] ∧ ds.length ≤ many ∧ m ≤ ds.length ∧ AllDrw ds) ?_ ⟨rfl, ds, _, _, _, _, rfl, hl, Nat.zero_le _, hd⟩ ?_
    · rintro m' ρ s' _ ⟨rfl, ds, t, x4, x5, x6, rfl, hl, hl2, hd⟩
      refine ⟨_, rfl, ?_⟩
      false_or_by_contra
      refine k_if (fun h2 => ?_) fun h2 => ?_
      · have h3 : ds.length < many := by have := of_decide_eq_true h2; omega
        false_or_by_contra
        refine spec_mixed _ _ fun d hd1 => ?_
        false_or_by_contra
        refine ⟨small3 (by rw [List.length_map]; omega), ?_⟩
        rw [mi_snoc]
        refine .inl ⟨rfl, rfl, ds ++ [d], _, _, _, _, rfl, by rw [List.length_append]; exact h3, by rw [List.length_append]; exact Nat.succ_le_succ hl2, drw_snoc hd hd1⟩
      · have h3 : ¬ds.length < many := by have := of_decide_eq_false h2; omega
        false_or_by_contra
        exact .inl ⟨rfl, rfl, ds, _, _, _, _, rfl, hl, by omega, hd⟩
    · rintro ρ s' ⟨rfl, ds, t, x4, x5, x6, rfl, hl, hl2, hd⟩
      false_or_by_contra
      exact q ds (by omega) hd
end
end LK
set_option linter.all false
set_option maxRecDepth 100000
set_option maxHeartbeats 4000000
/-! R16: the scenes. -/
namespace LK
open PySem PySem.Spec L2 PL RN
structure RWd where
  w : Str
  s : Nat
  t : Nat
  k : Str
structure AWd where
  w : Str
  r : Nat
  s : Nat
  e : Nat
  p : Bool
  c : Nat
  l : Nat
  y : Str
structure Scn where
  m : Nat
  x : Str
  y : Str
  rs : List RWd
  as : List AWd
def scns : List Scn := [
  ⟨0, "", "", [], []⟩,
  ⟨2, "01? 10?", "00p0x1 01t1y2 10p1y1 11t0x2", [⟨"01?", 0, 1, "?"⟩, ⟨"10?", 1, 0, "?"⟩], [⟨"00p0x1", 0, 0, 1, true, 0, 0, "x"⟩, ⟨"01t1y2", 0, 1, 2, false, 1, 1, "y"⟩, ⟨"10p1y1", 1, 0, 1, true, 1, 1, "y"⟩, ⟨"11t0x2", 1, 1, 2, false, 0, 0, "x"⟩]⟩,
  ⟨2, "01b", "00p0x1 01p0y2 10t0y1 11t0x2", [⟨"01b", 0, 1, "b"⟩], [⟨"00p0x1", 0, 0, 1, true, 0, 0, "x"⟩, ⟨"01p0y2", 0, 1, 2, true, 0, 1, "y"⟩, ⟨"10t0y1", 1, 0, 1, false, 0, 1, "y"⟩, ⟨"11t0x2", 1, 1, 2, false, 0, 0, "x"⟩]⟩,
  ⟨2, "01? 01?", "00p0x1 01p1y2 00p1y3 03p0x2 10t1y1 11t0x2", [⟨"01?", 0, 1, "?"⟩, ⟨"01?", 0, 1, "?"⟩], [⟨"00p0x1", 0, 0, 1, true, 0, 0, "x"⟩, ⟨"01p1y2", 0, 1, 2, true, 1, 1, "y"⟩, ⟨"00p1y3", 0, 0, 3, true, 1, 1, "y"⟩, ⟨"03p0x2", 0, 3, 2, true, 0, 0, "x"⟩, ⟨"10t1y1", 1, 0, 1, false, 1, 1, "y"⟩, ⟨"11t0x2", 1, 1, 2, false, 0, 0, "x"⟩]⟩,
  ⟨3, "01? 02? 21?", "00p0x1 01p1y2 20t1y1 21p2x2 10t2x1 11t0x2", [⟨"01?", 0, 1, "?"⟩, ⟨"02?", 0, 2, "?"⟩, ⟨"21?", 2, 1, "?"⟩], [⟨"00p0x1", 0, 0, 1, true, 0, 0, "x"⟩, ⟨"01p1y2", 0, 1, 2, true, 1, 1, "y"⟩, ⟨"20t1y1", 2, 0, 1, false, 1, 1, "y"⟩, ⟨"21p2x2", 2, 1, 2, true, 2, 0, "x"⟩, ⟨"10t2x1", 1, 0, 1, false, 2, 0, "x"⟩, ⟨"11t0x2", 1, 1, 2, false, 0, 0, "x"⟩]⟩,
  ⟨3, "01? 20? 21?", "00p0x1 01t1y2 20p1y1 21p2x2 10t2x1 11t0x2", [⟨"01?", 0, 1, "?"⟩, ⟨"20?", 2, 0, "?"⟩, ⟨"21?", 2, 1, "?"⟩], [⟨"00p0x1", 0, 0, 1, true, 0, 0, "x"⟩, ⟨"01t1y2", 0, 1, 2, false, 1, 1, "y"⟩, ⟨"20p1y1", 2, 0, 1, true, 1, 1, "y"⟩, ⟨"21p2x2", 2, 1, 2, true, 2, 0, "x"⟩, ⟨"10t2x1", 1, 0, 1, false, 2, 0, "x"⟩, ⟨"11t0x2", 1, 1, 2, false, 0, 0, "x"⟩]⟩,
  ⟨2, "01b 01c", "00p0x1 01p1y2 02p0x3 10t1y1 11t0x2", [⟨"01b", 0, 1, "b"⟩, ⟨"01c", 0, 1, "c"⟩], [⟨"00p0x1", 0, 0, 1, true, 0, 0, "x"⟩, ⟨"01p1y2", 0, 1, 2, true, 1, 1, "y"⟩, ⟨"02p0x3", 0, 2, 3, true, 0, 0, "x"⟩, ⟨"10t1y1", 1, 0, 1, false, 1, 1, "y"⟩, ⟨"11t0x2", 1, 1, 2, false, 0, 0, "x"⟩]⟩,
  ⟨2, "01? 01?", "00p0z1 01p0x2 02p1y3 10t1y1 11t0x2", [⟨"01?", 0, 1, "?"⟩, ⟨"01?", 0, 1, "?"⟩], [⟨"00p0z1", 0, 0, 1, true, 0, 2, "z"⟩, ⟨"01p0x2", 0, 1, 2, true, 0, 0, "x"⟩, ⟨"02p1y3", 0, 2, 3, true, 1, 1, "y"⟩, ⟨"10t1y1", 1, 0, 1, false, 1, 1, "y"⟩, ⟨"11t0x2", 1, 1, 2, false, 0, 0, "x"⟩]⟩,
  ⟨2, "01? 10?", "00p0x1 01t1y0 10t0x1 11p1y0 00p0y0", [⟨"01?", 0, 1, "?"⟩, ⟨"10?", 1, 0, "?"⟩], [⟨"00p0x1", 0, 0, 1, true, 0, 0, "x"⟩, ⟨"01t1y0", 0, 1, 0, false, 1, 1, "y"⟩, ⟨"10t0x1", 1, 0, 1, false, 0, 0, "x"⟩, ⟨"11p1y0", 1, 1, 0, true, 1, 1, "y"⟩, ⟨"00p0y0", 0, 0, 0, true, 0, 1, "y"⟩]⟩,
  ⟨2, "01c 01?", "00p1x0 00p0y0 10t1x0 10t0y0", [⟨"01c", 0, 1, "c"⟩, ⟨"01?", 0, 1, "?"⟩], [⟨"00p1x0", 0, 0, 0, true, 1, 0, "x"⟩, ⟨"00p0y0", 0, 0, 0, true, 0, 1, "y"⟩, ⟨"10t1x0", 1, 0, 0, false, 1, 0, "x"⟩, ⟨"10t0y0", 1, 0, 0, false, 0, 1, "y"⟩]⟩,
  ⟨3, "01? 12? 20?", "00p0x1 01t2x2 10p1x1 11t0x2 20p2x1 21t1x2", [⟨"01?", 0, 1, "?"⟩, ⟨"12?", 1, 2, "?"⟩, ⟨"20?", 2, 0, "?"⟩], [⟨"00p0x1", 0, 0, 1, true, 0, 0, "x"⟩, ⟨"01t2x2", 0, 1, 2, false, 2, 0, "x"⟩, ⟨"10p1x1", 1, 0, 1, true, 1, 0, "x"⟩, ⟨"11t0x2", 1, 1, 2, false, 0, 0, "x"⟩, ⟨"20p2x1", 2, 0, 1, true, 2, 0, "x"⟩, ⟨"21t1x2", 2, 1, 2, false, 1, 0, "x"⟩]⟩]
def scnD (z : Scn) : D := .tup [.int z.m, .str z.x, .str z.y]
def dig (w : Str) (i : Int) (n : Nat) : Bool := match atI w.cps.toList i with
  | some c => decide (PySem.intText? ⟨#[c]⟩ = some (n : Int))
  | none => false
def sg (w : Str) (i : Int) (x : Str) : Bool := match atI w.cps.toList i with
  | some c => decide ((⟨#[c]⟩ : Str) = x)
  | none => false
def okR (m : Nat) (r : RWd) : Bool := decide (r.w.length ≤ 10) && dig r.w 0 r.s && dig r.w 1 r.t && sg r.w 2 r.k && decide (r.s < m ∧ r.t < m ∧ r.s ≠ r.t) && decide (r.k = "?" ∨ r.k = "b" ∨ r.k = "c")
def okA (m : Nat) (rs : List RWd) (a : AWd) : Bool := decide (a.w.length ≤ 10) && dig a.w 0 a.r && dig a.w 1 a.s && sg a.w 2 (if a.p = true then "p" else "t") && dig a.w 3 a.c && sg a.w 4 a.y && decide (Txt.find "xyz" a.y = (a.l : Int)) && dig a.w 5 a.e && decide (a.r < m ∧ a.l < 3) && (match rs[a.c]? with
  | some r => decide ((if a.p = true then r.s else r.t) = a.r)
  | none => false)
def okS (z : Scn) : Bool := decide (Txt.words z.x = z.rs.map (·.w)) && decide (Txt.words z.y = z.as.map (·.w)) && decide (z.x.length ≤ 100 ∧ z.y.length ≤ 100 ∧ z.rs.length ≤ 4 ∧ z.m ≤ 3 ∧ (z.m = 0 → z.as.length = 0) ∧ z.as.length ≤ 6) && z.rs.all (okR z.m) && z.as.all (okA z.m z.rs) &&
  (List.range 3).all (fun r => decide ((z.as.filter fun a => decide (a.r = r)).length ≤ 5)) && decide ((z.as.map fun a => (a.r, a.s, a.p, a.c, a.l)).Nodup)
theorem scns_ok : scns.all okS = true := by decide +kernel
theorem scns_len : scns.length = 11 := rfl
theorem scn_ok {z : Scn} (h : z ∈ scns) : okS z = true := List.all_eq_true.mp scns_ok z h
end LK
set_option linter.all false
set_option maxRecDepth 100000
set_option maxHeartbeats 4000000
/-! R17: the drawn scene, the drawn rows. -/
namespace LK
open PySem PySem.Spec L2 PL RN
structure SOk (z : Scn) : Prop where
  wx : Txt.words z.x = z.rs.map (·.w)
  wy : Txt.words z.y = z.as.map (·.w)
  le : z.x.length ≤ 100 ∧ z.y.length ≤ 100 ∧ z.rs.length ≤ 4 ∧ z.m ≤ 3 ∧ (z.m = 0 → z.as.length = 0) ∧ z.as.length ≤ 6
  ro : ∀ r ∈ z.rs, okR z.m r = true
  ao : ∀ a ∈ z.as, okA z.m z.rs a = true
  fi : ∀ r, r < 3 → (z.as.filter fun a => decide (a.r = r)).length ≤ 5
  nd : (z.as.map fun a => (a.r, a.s, a.p, a.c, a.l)).Nodup
theorem sok {z : Scn} (h : z ∈ scns) : SOk z := by
  have h := scn_ok h
  unfold okS at h
  simp only [Bool.and_eq_true, decide_eq_true_eq, List.all_eq_true, List.mem_range] at h
  obtain ⟨⟨⟨⟨⟨⟨h1, h2⟩, h3⟩, h4⟩, h5⟩, h6⟩, h7⟩ := h
  exact ⟨h1, h2, h3, h4, h5, h6, h7⟩
section
variable {Q : D → Sto → Prop} {st : Sto}
theorem w_dig {w : Str} {i : Int} {n : Nat} (h : dig w i n = true) (hl : w.length ≤ 10) (k : Q (.int n) st) : wp (ixM (.str w) (.int i)) (fun x s => wp (intM x) Q s) st := by
  unfold dig at h
  cases hc : atI w.cps.toList i with
  | none => rw [hc] at h; cases h
  | some c =>
    rw [hc] at h
    exact w_ixS (small3 (by omega)) hc (w_intS (by show 1 ≤ 640; decide) (of_decide_eq_true h) k)
theorem w_sg {w : Str} {i : Int} {x : Str} (h : sg w i x = true) (hl : w.length ≤ 10) (k : Q (.str x) st) : wp (ixM (.str w) (.int i)) Q st := by
  unfold sg at h
  cases hc : atI w.cps.toList i with
  | none => rw [hc] at h; cases h
  | some c =>
    rw [hc] at h
    refine w_ixS (small3 (by omega)) hc ?_
    rw [of_decide_eq_true h]
    exact k
theorem sc_0 {z : Scn} (k : Q (.int z.m) st) : wp (ixM (scnD z) (.int 0)) Q st := w_ixT at0 k
theorem sc_1 {z : Scn} (k : Q (.str z.x) st) : wp (ixM (scnD z) (.int 1)) Q st := w_ixT at1 k
theorem sc_2 {z : Scn} (k : Q (.str z.y) st) : wp (ixM (scnD z) (.int 2)) Q st := w_ixT at2 k
def scnI (d : Int) : Nat := (d % 12 % 11).toNat
theorem scnI_lt (d : Int) : scnI d < scns.length := by
  have h1 : 0 ≤ d % 12 % 11 ∧ d % 12 % 11 < 11 := ⟨Int.emod_nonneg _ (by decide), Int.emod_lt_of_pos _ (by decide)⟩
  rw [scns_len]
  unfold scnI
  omega
def scnAt (d : Int) : Scn := scns[scnI d]'(scnI_lt d)
theorem scnAt_in (d : Int) : scnAt d ∈ scns := List.getElem_mem _
theorem spec_scene (d : Int) (q : Q (scnD (scnAt d)) st) : wp (m__law_scene [.int d]) Q st := by
  refine w_run' [.val (.int d), .no] rfl ?_
  unfold s__law_scene
  false_or_by_contra
  refine ⟨small3 (by show 11 ≤ 1000000; decide), ?_⟩
  false_or_by_contra
  have h1 : 0 ≤ d % 12 % 11 ∧ d % 12 % 11 < 11 := ⟨Int.emod_nonneg _ (by decide), Int.emod_lt_of_pos _ (by decide)⟩
  have hj : d % 12 % 11 = (scnI d : Int) := by unfold scnI; omega
  rw [hj]
  show wp (ixM (.tup (scns.map scnD)) (.int (scnI d))) _ st
  refine w_ixM (List.getElem?_eq_getElem (scnI_lt d)) ?_
  false_or_by_contra
  exact q
structure RR where
  s : Nat
  t : Nat
  k : Str
def rrD (r : RR) : D := .tup [.int r.s, .int r.t, .str r.k]
def rrOf (r : RWd) : RR := ⟨r.s, r.t, r.k⟩
theorem rr_0 {r : RR} (k : Q (.int r.s) st) : wp (ixM (rrD r) (.int 0)) Q st := w_ixT at0 k
theorem rr_1 {r : RR} (k : Q (.int r.t) st) : wp (ixM (rrD r) (.int 1)) Q st := w_ixT at1 k
theorem rr_2 {r : RR} (k : Q (.str r.k) st) : wp (ixM (rrD r) (.int 2)) Q st := w_ixT at2 k
structure RowsOk (z : Scn) (m : Nat) (rs : List RR) : Prop where
  m3 : m ≤ 3
  l4 : rs.length ≤ 4
  ok : ∀ r ∈ rs, r.s < m ∧ r.t < m ∧ r.s ≠ r.t ∧ (r.k = "?" ∨ r.k = "b" ∨ r.k = "c")
  sc : z.m ≠ 0 → m = z.m ∧ rs = z.rs.map rrOf
theorem rows_z {z : Scn} (h : z ∈ scns) (hm : z.m ≠ 0) : RowsOk z z.m (z.rs.map rrOf) := by
  have S := sok h
  refine ⟨S.le.2.2.2.1, by rw [List.length_map]; exact S.le.2.2.1, fun r hr => ?_, fun _ => ⟨rfl, rfl⟩⟩
  obtain ⟨w, hw, rfl⟩ := List.mem_map.mp hr
  have := S.ro w hw
  unfold okR at this
  simp only [Bool.and_eq_true, decide_eq_true_eq] at this
  obtain ⟨⟨_, h1⟩, h2⟩ := this
  exact ⟨h1.1, h1.2.1, h1.2.2, h2⟩
theorem pw4 {k : Nat} (h : k < 4) : ∃ v : Int, atI [D.int 1, .int 6, .int 36, .int 216] (k : Int) = some (.int v) ∧ 0 < v ∧ v < 1073741824 := by
  rcases k with _ | _ | _ | _ | k
  · exact ⟨1, rfl, by decide, by decide⟩
  · exact ⟨6, rfl, by decide, by decide⟩
  · exact ⟨36, rfl, by decide, by decide⟩
  · exact ⟨216, rfl, by decide, by decide⟩
  · omega
theorem taker_ne {s m x : Int} (hm : m = 2 ∨ m = 3) (hs : 0 ≤ s ∧ s < m) (hx : 0 ≤ x ∧ x < m - 1) : (s + 1 + x) % m ≠ s := by
  rcases hm with rfl | rfl <;> omega
theorem spec_rows {ds : List Int} {d0 : Int} (hl : 16 ≤ ds.length) (h0 : ds[0]? = some d0)
    (q : ∀ m rs, RowsOk (scnAt d0) m rs → Q (.tup [.int m, .lst (rs.map rrD)]) st) : wp (m__law_rows [.lst (ds.map D.int)]) Q st := by
  refine w_run' [.val (.lst (ds.map D.int)), .no, .no, .no, .no, .no, .no, .no] rfl ?_
  unfold s__law_rows
  false_or_by_contra
  refine w_ixML (i := 0) h0 ?_
  false_or_by_contra
  refine spec_scene _ ?_
  have hm := scnAt_in d0
  generalize scnAt d0 = z at q hm
  have S := sok hm
  false_or_by_contra
  refine sc_0 ?_
  false_or_by_contra
  refine sc_1 ?_
  false_or_by_contra
  refine w_words (y := z.x) (small3 (by have := S.le.1; omega)) ?_
  rw [S.wx, List.map_map]
  false_or_by_contra
  refine lc_mp (fun r : RWd => D.str r.w) (fun r => rrD (rrOf r)) z.rs (fun r hr => ⟨_, rfl, fun Q hQ => ?_⟩) ?_
  · have h := S.ro r hr
    unfold okR at h
    simp only [Bool.and_eq_true, decide_eq_true_eq] at h
    obtain ⟨⟨⟨⟨⟨h1, h2⟩, h3⟩, h4⟩, h5⟩, h6⟩ := h
    false_or_by_contra
    refine w_dig h2 h1 ?_
    false_or_by_contra
    refine w_dig h3 h1 ?_
    false_or_by_contra
    refine w_sg h4 h1 ?_
    false_or_by_contra
    exact hQ
  rw [show (z.rs.map fun r => rrD (rrOf r)) = (z.rs.map rrOf).map rrD by rw [List.map_map]; rfl]
  false_or_by_contra
  refine k_if (fun h => ?_) fun h => ?_
  · have hz0 : z.m = 0 := by have := of_decide_eq_true h; omega
    have hr0 : z.rs.map rrOf = [] := by
      cases hr : z.rs with
      | nil => rfl
      | cons r rs =>
        have := S.ro r (by rw [hr]; exact List.mem_cons_self)
        unfold okR at this
        rw [hz0] at this
        simp at this
    rw [hr0]
    obtain ⟨a, ha⟩ : ∃ a, ds[14]? = some a := ⟨_, List.getElem?_eq_getElem (by omega)⟩
    obtain ⟨b, hb⟩ : ∃ b, ds[15]? = some b := ⟨_, List.getElem?_eq_getElem (by omega)⟩
    false_or_by_contra
    refine w_ixML (i := 14) ha ?_
    false_or_by_contra
    have h4 : 0 ≤ a % 4 ∧ a % 4 < 4 := ⟨Int.emod_nonneg _ (by decide), Int.emod_lt_of_pos _ (by decide)⟩
    obtain ⟨m, hm⟩ : ∃ m : Nat, a % 4 = (m : Int) := ⟨(a % 4).toNat, by omega⟩
    rw [hm]
    false_or_by_contra
    refine k_if (fun h2 => ?_) fun h2 => ?_
    · have h2 : m = 2 ∨ m = 3 := by have := of_decide_eq_true h2; omega
      false_or_by_contra
      refine w_ixML (i := 14) ha ?_
      false_or_by_contra
      have h5 : 0 ≤ a / 4 % 5 ∧ a / 4 % 5 < 5 := ⟨Int.emod_nonneg _ (by decide), Int.emod_lt_of_pos _ (by decide)⟩
      obtain ⟨n, hn⟩ : ∃ n : Nat, a / 4 % 5 = (n : Int) := ⟨(a / 4 % 5).toNat, by omega⟩
      rw [hn]
      refine ⟨n, rfl, by omega, ?_⟩
      refine for_range (fun k ρ s => s = st ∧ ∃ (rs : List RR) (x5 x6 x7 : Slot), ρ = [.val (.lst (ds.map D.int)), .val (scnD z), .val (.int m), .own (rs.map rrD), .no, x5, x6, x7] ∧ rs.length = k ∧ ∀ r ∈ rs, r.s < m ∧ r.t < m ∧ r.s ≠ r.t ∧ (r.k = "?" ∨ r.k = "b" ∨ r.k = "c")) ?_ ⟨rfl, [], _, _, _, rfl, rfl, fun _ h => absurd h List.not_mem_nil⟩ ?_
      · rintro k ρ s hk ⟨rfl, rs, x5, x6, x7, rfl, hrl, hrs⟩
        obtain ⟨v, hv, hv1, hv2⟩ := pw4 (show k < 4 by omega)
        refine ⟨_, rfl, ?_⟩
        false_or_by_contra
        refine w_ixML (i := 15) hb ?_
        false_or_by_contra
        refine w_ixT hv ?_
        refine w_int2 (decide_eq_true ⟨hv1, hv2⟩) ?_
        false_or_by_contra
        generalize b / v % 6 = u
        refine w_int2 (decide_eq_true (by omega)) ?_
        false_or_by_contra
        refine w_int2 (decide_eq_true (by omega)) ?_
        false_or_by_contra
        refine w_int2 (decide_eq_true (by omega)) ?_
        false_or_by_contra
        refine w_int2 (decide_eq_true (by omega)) ?_
        false_or_by_contra
        have g1 : 0 ≤ u % (m : Int) ∧ u % (m : Int) < m := ⟨Int.emod_nonneg _ (by omega), Int.emod_lt_of_pos _ (by omega)⟩
        have g2 : 0 ≤ u / (m : Int) % ((m : Int) - 1) ∧ u / (m : Int) % ((m : Int) - 1) < (m : Int) - 1 := ⟨Int.emod_nonneg _ (by omega), Int.emod_lt_of_pos _ (by omega)⟩
        generalize u / (m : Int) % ((m : Int) - 1) = y at g2
        generalize u % (m : Int) = x at g1
        have g3 : 0 ≤ (x + 1 + y) % (m : Int) ∧ (x + 1 + y) % (m : Int) < m := ⟨Int.emod_nonneg _ (by omega), Int.emod_lt_of_pos _ (by omega)⟩
        have g4 := taker_ne (s := x) (m := m) (x := y) (by omega) g1 g2
        generalize (x + 1 + y) % (m : Int) = w at g3 g4
        obtain ⟨x, rfl⟩ : ∃ x' : Nat, x = (x' : Int) := ⟨x.toNat, by omega⟩
        obtain ⟨w, rfl⟩ : ∃ x' : Nat, w = (x' : Int) := ⟨w.toNat, by omega⟩
        refine ⟨small3 (by rw [List.length_map]; omega), ?_⟩
        rw [show rs.map rrD ++ [D.tup [.int x, .int w, .str "?"]] = (rs ++ [(⟨x, w, "?"⟩ : RR)]).map rrD by rw [List.map_append]; rfl]
        refine .inl ⟨rfl, rfl, rs ++ [(⟨x, w, "?"⟩ : RR)], _, _, _, rfl, by rw [List.length_append, hrl]; rfl, fun r hr => ?_⟩
        rcases List.mem_append.mp hr with hr | hr
        · exact hrs r hr
        · rw [List.mem_singleton.mp hr]
          exact ⟨by show x < m; omega, by show w < m; omega, by show x ≠ w; omega, .inl rfl⟩
      · rintro ρ s ⟨rfl, rs, x5, x6, x7, rfl, hrl, hrs⟩
        false_or_by_contra
        exact q m rs ⟨by omega, by omega, hrs, fun h => absurd hz0 h⟩
    · false_or_by_contra
      exact q m [] ⟨by omega, Nat.zero_le _, fun _ h => absurd h List.not_mem_nil, fun h => absurd hz0 h⟩
  · have hz0 : z.m ≠ 0 := by have := of_decide_eq_false h; omega
    false_or_by_contra
    exact q _ _ (rows_z hm hz0)
end
end LK
set_option linter.all false
set_option maxRecDepth 100000
set_option maxHeartbeats 4000000
/-! R18: the drawn names. -/
namespace LK
open PySem PySem.Spec L2 PL RN
def mkS (l : List Nat) : Str := ⟨l.toArray⟩
theorem mkS_inj {a b : List Nat} (h : mkS a = mkS b) : a = b := by
  have := congrArg Str.cps h
  exact List.toArray_inj this
theorem mkS_app (a b : List Nat) : mkS a ++ mkS b = mkS (a ++ b) := by
  show (⟨a.toArray ++ b.toArray⟩ : Str) = _
  rw [List.append_toArray]; rfl
theorem mkS_cut {l : List Nat} {i j : Nat} (hj : j ≤ l.length) (hi : i ≤ j) : cutS (mkS l) (some (i : Int)) (some (j : Int)) = mkS ((l.drop i).take (j - i)) := by
  have hl : (mkS l).length = l.length := rfl
  unfold cutS
  rw [HT.sIx_nat, HT.sIx_nat, hl, Nat.min_eq_left hj, Nat.min_eq_left (Nat.le_trans hi hj)]
  rfl
theorem mkS_cut0 {l : List Nat} {j : Nat} (hj : j ≤ l.length) : cutS (mkS l) none (some (j : Int)) = mkS (l.take j) := by
  have hl : (mkS l).length = l.length := rfl
  unfold cutS
  rw [HT.sIx_nat, HT.sIx_none, hl, Nat.min_eq_left hj]
  rfl
def lowL (l : List Nat) : Prop := ∀ c ∈ l, 97 ≤ c ∧ c ≤ 122
theorem low_ok {l : List Nat} (h : lowL l) : PyData.strOk (mkS l) = true := by
  unfold PyData.strOk
  rw [Array.all_eq_true_iff_forall_mem]
  intro c hc
  have := h c (by simpa [mkS] using hc)
  exact decide_eq_true (by omega)
def mkN (l : List Nat) (h : lowL l) (hl : l.length ≤ 8) : Nm := ⟨mkS l, low_ok h, by show l.toArray.size ≤ 8; simpa using hl⟩
theorem low_app {a b : List Nat} (ha : lowL a) (hb : lowL b) : lowL (a ++ b) := fun c hc => (List.mem_append.mp hc).elim (ha c) (hb c)
theorem low_take {a : List Nat} (h : lowL a) (n : Nat) : lowL (a.take n) := fun c hc => h c (List.mem_of_mem_take hc)
theorem low_drop {a : List Nat} (h : lowL a) (n : Nat) : lowL (a.drop n) := fun c hc => h c (List.mem_of_mem_drop hc)
theorem low_one {n : Nat} (h : n < 26) : lowL [97 + n] := fun c hc => by
  rw [List.mem_singleton.mp hc]; omega
theorem abc_at : ∀ n, n < 26 → atI (Str.ofString "abcdefghijklmnopqrstuvwxyz").cps.toList ((n : Nat) : Int) = some (97 + n) := by decide +kernel
theorem abc_len : (Str.ofString "abcdefghijklmnopqrstuvwxyz").length ≤ 1000000 := by decide +kernel
def md (x : Int) (n : Nat) : Nat := (x % (n : Int)).toNat
theorem md_lt {x : Int} {n : Nat} (h : 0 < n) : md x n < n := by
  have h1 := Int.emod_nonneg x (show (n : Int) ≠ 0 by omega)
  have h2 := Int.emod_lt_of_pos x (show 0 < (n : Int) by omega)
  unfold md
  omega
theorem md_is {x : Int} {n : Nat} (h : 0 < n) : x % (n : Int) = (md x n : Int) := by
  have h1 := Int.emod_nonneg x (show (n : Int) ≠ 0 by omega)
  unfold md
  omega
theorem nodup4 {f : Nat → Nm} (h : ∀ a b, a < b → b < 4 → f a ≠ f b) : ((List.range 4).map f).Nodup :=
  List.pairwise_map.mpr (List.Pairwise.imp_of_mem (fun {a b} _ hb hlt => h a b hlt (List.mem_range.mp hb)) List.pairwise_lt_range)
/-- where the k-th name turns: by n, first a, stride 1 + 2 s -/
def ixN' (n : Nat) (first s : Int) (k : Nat) : Nat := md (first + (k : Int) * (1 + 2 * s)) n
theorem turn_ne {n : Nat} (hn : n = 8 ∨ n = 26) {first s : Int} (hs : 0 ≤ s ∧ s < 6) {a b : Nat} (h : a < b) (hb : b < 4) : ixN' n first s a ≠ ixN' n first s b := by
  unfold ixN' md
  have h4 : a = 0 ∨ a = 1 ∨ a = 2 := by omega
  have h5 : b = 1 ∨ b = 2 ∨ b = 3 := by omega
  rcases hn with rfl | rfl <;> rcases h4 with rfl | rfl | rfl <;> rcases h5 with rfl | rfl | rfl <;> omega
def nmA (l : List Nat) (hl : lowL l) (first s : Int) (k : Nat) : Nm := mkN (l.take (1 + ixN' 8 first s k)) (low_take hl _) (by
  rw [List.length_take]
  have := md_lt (x := first + (k : Int) * (1 + 2 * s)) (n := 8) (by decide)
  unfold ixN'
  omega)
def nmB (l : List Nat) (hl : lowL l) (first s : Int) (z p : Nat) (hz : z ≤ 7) (hp : p ≤ z) (k : Nat) : Nm := mkN ((l.take p ++ [97 + ixN' 26 first s k]) ++ (l.drop p).take (z - p)) (low_app (low_app (low_take hl _) (low_one (md_lt (by decide)))) (low_take (low_drop hl _) _)) (by
  rw [List.length_append, List.length_append, List.length_take, List.length_take, List.length_singleton]
  omega)
theorem nmA_nd {l : List Nat} (hl : lowL l) (h9 : l.length = 9) {first s : Int} (hs : 0 ≤ s ∧ s < 6) : ((List.range 4).map (nmA l hl first s)).Nodup := nodup4 fun a b h hb e => by
  have e1 := congrArg List.length (mkS_inj (a := l.take (1 + ixN' 8 first s a)) (b := l.take (1 + ixN' 8 first s b)) (congrArg Nm.x e))
  have h1 := md_lt (x := first + (a : Int) * (1 + 2 * s)) (n := 8) (by decide)
  have h2 := md_lt (x := first + (b : Int) * (1 + 2 * s)) (n := 8) (by decide)
  have h3 := turn_ne (n := 8) (first := first) (.inl rfl) hs h hb
  unfold ixN' at h3 e1
  rw [List.length_take, List.length_take] at e1
  omega
theorem nmB_nd {l : List Nat} (hl : lowL l) {first s : Int} (hs : 0 ≤ s ∧ s < 6) {z p : Nat} (hz : z ≤ 7) (hp : p ≤ z) : ((List.range 4).map (nmB l hl first s z p hz hp)).Nodup := nodup4 fun a b h hb e => by
  have e1 := mkS_inj (congrArg Nm.x e)
  have e2 := List.append_cancel_left (List.append_cancel_right e1)
  have e3 := (List.cons.inj e2).1
  exact turn_ne (n := 26) (first := first) (.inr rfl) hs h hb (by omega)
section
variable {Q : D → Sto → Prop} {st : Sto}
theorem spec_names {ds : List Int} {at_ : Nat} (hl : at_ + 4 ≤ ds.length) (q : ∀ L : List Nm, L.length = 4 → L.Nodup → Q (.lst (txD L)) st) : wp (m__law_names [.lst (ds.map D.int), .int at_, .int 4]) Q st := by
  refine w_run' [.val (.lst (ds.map D.int)), .val (.int at_), .val (.int 4), .no, .no, .no, .no, .no, .no, .no, .no, .no, .no, .no] rfl ?_
  unfold s__law_names
  false_or_by_contra
  refine ⟨3, rfl, by decide, ?_⟩
  refine for_range (fun k ρ s => s = st ∧ ∃ (l : List Nat) (x5 x6 : Slot), ρ = [.val (.lst (ds.map D.int)), .val (.int at_), .val (.int 4), .val (.str "abcdefghijklmnopqrstuvwxyz"), .val (.str (mkS l)), x5, x6, .no, .no, .no, .no, .no, .no, .no] ∧ l.length = 3 * k ∧ lowL l) ?_ ⟨rfl, [], _, _, rfl, rfl, fun _ h => absurd h List.not_mem_nil⟩ ?_
  · rintro k ρ s hk ⟨rfl, l, x5, x6, rfl, hll, hlw⟩
    obtain ⟨d, hd⟩ : ∃ d, ds[at_ + k]? = some d := ⟨_, List.getElem?_eq_getElem (by omega)⟩
    refine ⟨_, rfl, ?_⟩
    false_or_by_contra
    refine for_mapI (f := D.int) (xs := [1, 26, 676]) (fun j ρ s' => s' = s ∧ ∃ (l : List Nat) (x6 : Slot), ρ = [.val (.lst (ds.map D.int)), .val (.int at_), .val (.int 4), .val (.str "abcdefghijklmnopqrstuvwxyz"), .val (.str (mkS l)), .val (.int k), x6, .no, .no, .no, .no, .no, .no, .no] ∧ l.length = 3 * k + j ∧ lowL l) ?_ ⟨rfl, l, _, rfl, hll, hlw⟩ ?_
    · rintro j y ρ s' hj ⟨rfl, l, x6, rfl, hll, hlw⟩
      have hy : 0 < y ∧ y < 1073741824 := by
        have := List.mem_of_getElem? hj
        simp only [List.mem_cons, List.not_mem_nil, or_false] at this
        omega
      have hjl : j < 3 := (List.getElem?_eq_some_iff.mp hj).1
      refine ⟨_, rfl, ?_⟩
      false_or_by_contra
      refine w_ixML (i := at_ + k) hd ?_
      false_or_by_contra
      refine w_int2 (decide_eq_true hy) ?_
      false_or_by_contra
      rw [show d / y % 26 = (md (d / y) 26 : Int) from md_is (by decide)]
      refine w_ixS (small3 abc_len) (abc_at _ (md_lt (by decide))) ?_
      refine w_addS (small3 ?_) ?_
      · show l.toArray.size + 1 ≤ _
        rw [List.size_toArray]; omega
      · false_or_by_contra
        show _ ∨ _
        rw [show mkS l ++ (⟨#[97 + md (d / y) 26]⟩ : Str) = mkS (l ++ [97 + md (d / y) 26]) from mkS_app _ _]
        exact .inl ⟨rfl, rfl, _, _, rfl, by rw [List.length_append, hll]; rfl, low_app hlw (low_one (md_lt (by decide)))⟩
    · rintro ρ s' ⟨rfl, l, x6, rfl, hll, hlw⟩
      exact .inl ⟨rfl, rfl, l, _, _, rfl, hll, hlw⟩
  · rintro ρ s ⟨rfl, l, x5, x6, rfl, h9, hlw⟩
    obtain ⟨d, hd⟩ : ∃ d, ds[at_ + 3]? = some d := ⟨_, List.getElem?_eq_getElem (by omega)⟩
    false_or_by_contra
    refine w_ixML (i := at_ + 3) hd ?_
    false_or_by_contra
    have hs : 0 ≤ d / 4 % 6 ∧ d / 4 % 6 < 6 := ⟨Int.emod_nonneg _ (by decide), Int.emod_lt_of_pos _ (by decide)⟩
    generalize d / 4 % 6 = sd at hs
    generalize d / 24 = first
    refine k_if (fun h => ?_) fun h => ?_
    · false_or_by_contra
      refine ⟨4, rfl, by decide, ?_⟩
      refine lc_mp (fun (k : Nat) => D.int k) (fun k => D.str (nmA l hlw first sd k).x) (List.range 4) (fun k hk => ⟨_, rfl, fun Q hQ => ?_⟩) ?_
      · have hk4 := List.mem_range.mp hk
        false_or_by_contra
        refine w_int2 (decide_eq_true (.inl ⟨by omega, by omega⟩)) ?_
        false_or_by_contra
        rw [show (first + (k : Int) * (1 + 2 * sd)) % 8 = (ixN' 8 first sd k : Int) from md_is (by decide)]
        false_or_by_contra
        refine w_slS (small3 (by show l.toArray.size ≤ _; rw [List.size_toArray]; omega)) ?_
        have hlt : ixN' 8 first sd k < 8 := md_lt (by decide)
        rw [show (1 + (ixN' 8 first sd k : Int)) = ((1 + ixN' 8 first sd k : Nat) : Int) by omega, mkS_cut0 (by omega)]
        exact hQ
      · false_or_by_contra
        have := q ((List.range 4).map (nmA l hlw first sd)) (by simp) (nmA_nd hlw h9 hs)
        unfold txD at this
        rw [List.map_map, List.map_map] at this
        exact this
    · false_or_by_contra
      rw [show first / 26 % 8 = (md (first / 26) 8 : Int) from md_is (by decide)]
      have hz : md (first / 26) 8 ≤ 7 := Nat.le_of_lt_succ (md_lt (by decide))
      generalize md (first / 26) 8 = z at hz
      false_or_by_contra
      refine w_int2 (decide_eq_true (by omega)) ?_
      rw [show first / 208 % ((z : Int) + 1) = (md (first / 208) (z + 1) : Int) from md_is (n := z + 1) (by omega)]
      have hp : md (first / 208) (z + 1) ≤ z := Nat.le_of_lt_succ (md_lt (by omega))
      generalize md (first / 208) (z + 1) = p at hp
      false_or_by_contra
      refine ⟨4, rfl, by decide, ?_⟩
      refine for_range (fun k ρ s' => s' = s ∧ ∃ (x5 x13 : Slot), ρ = [.val (.lst (ds.map D.int)), .val (.int at_), .val (.int 4), .val (.str "abcdefghijklmnopqrstuvwxyz"), .val (.str (mkS l)), x5, x6, .val (.int d), .val (.int (1 + 2 * sd)), .val (.int first), .val (.int z), .val (.int p), .own ((List.range k).map fun k => D.str (nmB l hlw first sd z p hz hp k).x), x13]) ?_ ⟨rfl, _, _, rfl⟩ ?_
      · rintro k ρ s' hk ⟨rfl, x5, x13, rfl⟩
        refine ⟨_, rfl, ?_⟩
        false_or_by_contra
        refine w_int2 (decide_eq_true (.inl ⟨by omega, by omega⟩)) ?_
        false_or_by_contra
        rw [show (first + (k : Int) * (1 + 2 * sd)) % 26 = (ixN' 26 first sd k : Int) from md_is (by decide)]
        refine w_ixS (small3 abc_len) (abc_at _ (md_lt (by decide))) ?_
        have hls : (mkS l).length ≤ 1000 := by show l.toArray.size ≤ _; rw [List.size_toArray]; omega
        false_or_by_contra
        refine w_slS (small3 (by omega)) ?_
        rw [mkS_cut0 (by omega)]
        false_or_by_contra
        refine w_addS (small3 ?_) ?_
        · show (l.take p).toArray.size + 1 ≤ _
          rw [List.size_toArray, List.length_take]; omega
        false_or_by_contra
        refine w_slS (small3 (by omega)) ?_
        rw [mkS_cut (by omega) (by omega)]
        rw [show mkS (l.take p) ++ (⟨#[97 + ixN' 26 first sd k]⟩ : Str) = mkS (l.take p ++ [97 + ixN' 26 first sd k]) from mkS_app _ _]
        refine w_addS (small3 ?_) ?_
        · show (l.take p ++ _).toArray.size + ((l.drop p).take _).toArray.size ≤ _
          rw [List.size_toArray, List.size_toArray, List.length_append, List.length_take, List.length_take, List.length_singleton]; omega
        rw [mkS_app]
        false_or_by_contra
        refine ⟨small3 (by rw [List.length_map, List.length_range]; omega), ?_⟩
        rw [show (List.range (k + 1)).map (fun k => D.str (nmB l hlw first sd z p hz hp k).x) = (List.range k).map (fun k => D.str (nmB l hlw first sd z p hz hp k).x) ++ [D.str (mkS ((l.take p ++ [97 + ixN' 26 first sd k]) ++ (l.drop p).take (z - p)))] by rw [List.range_succ, List.map_append]; rfl]
        exact .inl ⟨rfl, rfl, _, _, rfl⟩
      · rintro ρ s' ⟨rfl, x5, x13, rfl⟩
        false_or_by_contra
        have := q ((List.range 4).map (nmB l hlw first sd z p hz hp)) (by simp) (nmB_nd hlw hs hz hp)
        unfold txD at this
        rw [List.map_map, List.map_map] at this
        exact this
end
end LK
set_option linter.all false
set_option maxRecDepth 100000
set_option maxHeartbeats 4000000
/-! R19: the doings of a role, the form of a channel. -/
namespace LK
open PySem PySem.Spec L2 PL RN
def OwnR (rs : List RR) (C : List Nm) (role : Nat) : Dg → Prop
  | .doo _ => True
  | .put c _ => ∃ (j : Nat) (r : RR), rs[j]? = some r ∧ C[j]? = some c ∧ r.s = role
  | .tak c _ => ∃ (j : Nat) (r : RR), rs[j]? = some r ∧ C[j]? = some c ∧ r.t = role
theorem txD_map (L : List Nm) : txD L = L.map fun l => D.str l.x := by unfold txD; rw [List.map_map]; rfl
theorem cut_two (L : List Nm) : cutD (txD L) none (some 2) = (L.take 2).map fun l => D.str l.x := by
  unfold cutD
  rw [txD_map]
  show List.take (HT.sIx _ _ (some ((2 : Nat) : Int)) - 0) _ = _
  rw [HT.sIx_nat, HT.sIx_none, List.drop_zero, List.length_map, Nat.sub_zero, ← List.map_take]
  congr 1
  by_cases h : 2 ≤ L.length
  · rw [Nat.min_eq_left h]
  · rw [Nat.min_eq_right (by omega), List.take_of_length_le (Nat.le_refl _), List.take_of_length_le (by omega)]
section
variable {Q : D → Sto → Prop} {st : Sto}
theorem w_tx {L : List Nm} {i : Nat} {l : Nm} (h : L[i]? = some l) (k : Q (.str l.x) st) : wp (ixM (.lst (txD L)) (.int i)) Q st := by
  rw [txD_map]
  exact w_ixML (f := fun l : Nm => D.str l.x) h k
theorem dg_snoc (gs : List Dg) (g : Dg) : gs.map Dg.d ++ [g.d] = (gs ++ [g]).map Dg.d := by rw [List.map_append]; rfl
theorem own_snoc {rs : List RR} {C : List Nm} {role : Nat} {gs : List Dg} {g : Dg} (h : ∀ g ∈ gs, OwnR rs C role g) (hg : OwnR rs C role g) : ∀ h ∈ gs ++ [g], OwnR rs C role h := fun x hx => by
  rcases List.mem_append.mp hx with h' | h'
  · exact h x h'
  · rw [List.mem_singleton.mp h']; exact hg
theorem spec_doings {rs : List RR} {C L : List Nm} {role : Nat} (hr : rs.length ≤ 4) (hc : C.length = 4) (hL : L.length = 4) (q : ∀ gs : List Dg, gs ≠ [] → gs.length ≤ 20 → (∀ g ∈ gs, OwnR rs C role g) → Q (.lst (gs.map Dg.d)) st) : wp (m__law_doings [.int role, .lst (rs.map rrD), .lst (txD C), .lst (txD L)]) Q st := by
  refine w_run' [.val (.int role), .val (.lst (rs.map rrD)), .val (.lst (txD C)), .val (.lst (txD L)), .no, .no, .no] rfl ?_
  unfold s__law_doings
  obtain ⟨l3, h3⟩ : ∃ l, L[3]? = some l := ⟨_, List.getElem?_eq_getElem (by omega)⟩
  false_or_by_contra
  refine w_tx (i := 3) h3 ?_
  false_or_by_contra
  refine ⟨rs.length, rfl, by omega, ?_⟩
  refine for_range (fun m ρ s => s = st ∧ ∃ (gs : List Dg) (x5 x6 : Slot), ρ = [.val (.int role), .val (.lst (rs.map rrD)), .val (.lst (txD C)), .val (.lst (txD L)), .own (gs.map Dg.d), x5, x6] ∧ gs.length ≤ 1 + 4 * m ∧ gs ≠ [] ∧ ∀ g ∈ gs, OwnR rs C role g) ?_ ⟨rfl, [.doo l3], _, _, rfl, Nat.le_refl _, by simp, fun g hg => by rw [List.mem_singleton.mp hg]; show True; trivial⟩ ?_
  · rintro m ρ s hm ⟨rfl, gs, x5, x6, rfl, hgl, hg0, hgs⟩
    obtain ⟨r, hrm⟩ : ∃ r, rs[m]? = some r := ⟨_, List.getElem?_eq_getElem hm⟩
    obtain ⟨c, hcm⟩ : ∃ c, C[m]? = some c := ⟨_, List.getElem?_eq_getElem (by omega)⟩
    refine ⟨_, rfl, ?_⟩
    false_or_by_contra
    rw [cut_two]
    refine for_mapI (fun j ρ s' => s' = s ∧ ∃ (gs : List Dg) (x6 : Slot), ρ = [.val (.int role), .val (.lst (rs.map rrD)), .val (.lst (txD C)), .val (.lst (txD L)), .own (gs.map Dg.d), .val (.int m), x6] ∧ gs.length ≤ 1 + 4 * m + 2 * j ∧ gs ≠ [] ∧ ∀ g ∈ gs, OwnR rs C role g) ?_ ⟨rfl, gs, _, rfl, hgl, hg0, hgs⟩ ?_
    · rintro j l ρ s' hj ⟨rfl, gs, x6, rfl, hgl, hg0, hgs⟩
      have hj2 : j < 2 := by
        have := (List.getElem?_eq_some_iff.mp hj).1
        rw [List.length_take] at this
        omega
      refine ⟨_, rfl, ?_⟩
      false_or_by_contra
      refine rr_0 ?_
      false_or_by_contra
      refine k_if (fun h => ?_) fun h => ?_
      · false_or_by_contra
        refine w_tx hcm ?_
        false_or_by_contra
        refine ⟨small3 (by rw [List.length_map]; omega), ?_⟩
        rw [show D.tup [.str "put", .str c.x, .str l.x] = (Dg.put c l).d from rfl, dg_snoc]
        have hgs1 := own_snoc (g := .put c l) hgs ⟨m, r, hrm, hcm, by have := of_decide_eq_true h; omega⟩
        false_or_by_contra
        refine rr_1 ?_
        false_or_by_contra
        refine k_if (fun h2 => ?_) fun h2 => ?_
        · false_or_by_contra
          refine w_tx hcm ?_
          false_or_by_contra
          refine ⟨small3 (by rw [List.length_map]; rw [List.length_append, List.length_singleton]; omega), ?_⟩
          rw [show D.tup [.str "take", .str c.x, .str l.x] = (Dg.tak c l).d from rfl, dg_snoc]
          exact .inl ⟨rfl, rfl, (gs ++ [.put c l]) ++ [.tak c l], _, rfl, by rw [List.length_append, List.length_singleton]; rw [List.length_append, List.length_singleton]; omega, by simp, own_snoc (g := .tak c l) hgs1 ⟨m, r, hrm, hcm, by have := of_decide_eq_true h2; omega⟩⟩
        · false_or_by_contra
          exact .inl ⟨rfl, rfl, (gs ++ [.put c l]), _, rfl, by rw [List.length_append, List.length_singleton]; omega, by simp [hg0], hgs1⟩
      · skip
        false_or_by_contra
        refine rr_1 ?_
        false_or_by_contra
        refine k_if (fun h2 => ?_) fun h2 => ?_
        · false_or_by_contra
          refine w_tx hcm ?_
          false_or_by_contra
          refine ⟨small3 (by rw [List.length_map];  omega), ?_⟩
          rw [show D.tup [.str "take", .str c.x, .str l.x] = (Dg.tak c l).d from rfl, dg_snoc]
          exact .inl ⟨rfl, rfl, gs ++ [.tak c l], _, rfl, by rw [List.length_append, List.length_singleton];  omega, by simp, own_snoc (g := .tak c l) hgs ⟨m, r, hrm, hcm, by have := of_decide_eq_true h2; omega⟩⟩
        · false_or_by_contra
          exact .inl ⟨rfl, rfl, gs, _, rfl, by  omega, by simp [hg0], hgs⟩
    · rintro ρ s' ⟨rfl, gs, x6, rfl, hgl, hg0, hgs⟩
      have : (L.take 2).length = 2 := by rw [List.length_take]; omega
      exact .inl ⟨rfl, rfl, gs, _, _, rfl, by omega, hg0, hgs⟩
  · rintro ρ s ⟨rfl, gs, x5, x6, rfl, hgl, hg0, hgs⟩
    false_or_by_contra
    exact q gs hg0 (by omega) hgs
theorem pw5 {k : Nat} (h : k < 4) : ∃ v : Int, atI [D.int 1, .int 5, .int 25, .int 125] (k : Int) = some (.int v) ∧ 0 < v ∧ v < 1073741824 := by
  rcases k with _ | _ | _ | _ | k
  · exact ⟨1, rfl, by decide, by decide⟩
  · exact ⟨5, rfl, by decide, by decide⟩
  · exact ⟨25, rfl, by decide, by decide⟩
  · exact ⟨125, rfl, by decide, by decide⟩
  · omega
theorem fm5 {k : Nat} (h : k < 5) : ∃ f : Fm, atI [D.str "queue", .str "queue", .str "bag", .str "bag", .str "call"] (k : Int) = some (.str f.s) := by
  rcases k with _ | _ | _ | _ | _ | k
  · exact ⟨.q, rfl⟩
  · exact ⟨.q, rfl⟩
  · exact ⟨.b, rfl⟩
  · exact ⟨.b, rfl⟩
  · exact ⟨.c, rfl⟩
  · omega
theorem get_new (s : Sto) (o : Ob) : (s ++ [o])[s.length]? = some o := by
  rw [List.getElem?_append_right (Nat.le_refl _), Nat.sub_self]; rfl
theorem dict2 {a b : Str} {x y : D} (h : a ≠ b) : putAll [] (([a, b].map Sum.inr).zip [x, y]) = [((.inr a : Key), x), (.inr b, y)] := by
  have h1 : ¬((.inr a : Key) = .inr b) := fun e => h (Sum.inr.inj e)
  simp [putAll, putD, h]
theorem val2a {a b : Str} {x y : D} : valD (.inr a) [((.inr a : Key), x), (.inr b, y)] = some x := by simp [valD]
theorem val2b {a b : Str} {x y : D} (h : a ≠ b) : valD (.inr b) [((.inr a : Key), x), (.inr b, y)] = some y := by simp [valD, h]
theorem w_dict2 {a b : Str} {x y : D} {ρ : En} {f g h : En → M D} {k : Str} {v : D} (ne : a ≠ b) (e1 : ∀ {R : D → Sto → Prop} {s : Sto}, R x s → wp (f ρ) R s) (e2' : ∀ {R : D → Sto → Prop} {s : Sto}, R y s → wp (g ρ) R s) (e3 : ∀ {R : D → Sto → Prop} {s : Sto}, R (.str k) s → wp (h ρ) R s) (hk : (k = a ∧ v = x) ∨ (k = b ∧ v = y)) (q : Q v (st ++ [.dict [((.inr a : Key), x), (.inr b, y)]])) : wp (e2 dgM (eDict [a, b] [f, g]) h ρ) Q st := by
  refine w_e2 (w_dict (w_aLc (e1 (w_aLc (e2' (w_aLn (e3 ?_)))))))
  rw [dict2 ne]
  refine w_dg (get_new _ _) ?_ q
  rcases hk with ⟨rfl, rfl⟩ | ⟨rfl, rfl⟩
  · exact val2a
  · exact val2b ne
theorem spec_form {x : Str} {d : Int} {k : Nat} (hx : x = "?" ∨ x = "b" ∨ x = "c") (hk : k < 4) (q : ∀ (f : Fm) (t : Sto), Q (.str f.s) (st ++ t)) : wp (m__law_form [.str x, .int d, .int k]) Q st := by
  refine w_run' [.val (.str x), .val (.int d), .val (.int k)] rfl ?_
  unfold s__law_form
  have hok : PyData.strOk x = true ∧ PyData.strOk (Str.ofString "?") = true := by
    rcases hx with rfl | rfl | rfl <;> exact ⟨by decide +kernel, by decide +kernel⟩
  false_or_by_contra
  refine w_ne (shp_str hok.1).shp (shp_str hok.2).shp ?_
  rcases hx with rfl | rfl | rfl
  · rw [eqv_lit true (by decide +kernel)]
    false_or_by_contra
    obtain ⟨v, hv, hv1, hv2⟩ := pw5 hk
    refine w_ixT hv ?_
    refine w_int2 (decide_eq_true ⟨hv1, hv2⟩) ?_
    false_or_by_contra
    rw [show d / v % 5 = (md (d / v) 5 : Int) from md_is (by decide)]
    obtain ⟨f, hf⟩ := fm5 (md_lt (x := d / v) (n := 5) (by decide))
    refine w_ixT hf ?_
    false_or_by_contra
    have := q f []
    rw [List.append_nil] at this
    exact this
  · rw [eqv_lit false (by decide +kernel)]
    refine k_bl (k_ifT (w_ret (w_dict2 (a := "b") (b := "c") (x := .str "bag") (y := .str "call") (by decide +kernel) (fun k => w_c k) (fun k => w_c k) (fun k => w_var rfl k) (.inl ⟨rfl, rfl⟩) ?_)))
    false_or_by_contra
    exact q .b _
  · rw [eqv_lit false (by decide +kernel)]
    refine k_bl (k_ifT (w_ret (w_dict2 (a := "b") (b := "c") (x := .str "bag") (y := .str "call") (by decide +kernel) (fun k => w_c k) (fun k => w_c k) (fun k => w_var rfl k) (.inr ⟨rfl, rfl⟩) ?_)))
    false_or_by_contra
    exact q .c _
end
end LK
set_option linter.all false
set_option maxRecDepth 100000
set_option maxHeartbeats 4000000
/-! R20: what is known of drawn arrows. -/
namespace LK
open PySem PySem.Spec L2 PL RN
theorem nd_sub {α : Type} [DecidableEq α] : ∀ {l ys : List α}, l.Nodup → (∀ x ∈ l, x ∈ ys) → l.length ≤ ys.length
  | [], _, _, _ => Nat.zero_le _
  | a :: l, ys, nd, h => by
    rw [List.nodup_cons] at nd
    have ha := h a List.mem_cons_self
    have := nd_sub (l := l) (ys := ys.erase a) nd.2 fun x hx => by
      have hne : x ≠ a := fun e => nd.1 (e ▸ hx)
      exact (List.mem_erase_of_ne hne).mpr (h x (List.mem_cons_of_mem _ hx))
    rw [List.length_erase_of_mem ha] at this
    have := List.length_pos_of_mem ha
    rw [List.length_cons]; omega
def cntA (as : List Arw) (s : Int) (g : Dg) : Nat := (as.filter fun a => decide (a.s = s ∧ a.g = g)).length
theorem cntA_snoc (as : List Arw) (x : Arw) (s : Int) (g : Dg) : cntA (as ++ [x]) s g ≤ cntA as s g + 1 := by
  unfold cntA
  rw [List.filter_append, List.length_append]
  have := List.length_filter_le (fun a : Arw => decide (a.s = s ∧ a.g = g)) [x]
  rw [List.length_singleton] at this
  omega
structure GoodL (z : Scn) (rs : List RR) (C : List Nm) (k r : Nat) (as : List Arw) : Prop where
  ow : ∀ a ∈ as, OwnR rs C r a.g
  le : as.length ≤ 7
  z0 : z.m = 0 → as.Nodup ∧ ∀ a ∈ as, 0 ≤ a.e ∧ a.e < 3
  z1 : z.m ≠ 0 → ∀ s g, cntA as s g ≤ 1 + (k - 12)
theorem GoodL.mono {z : Scn} {rs : List RR} {C : List Nm} {k r : Nat} {as : List Arw} (h : GoodL z rs C k r as) : GoodL z rs C (k + 1) r as := ⟨h.ow, h.le, h.z0, fun hz s g => Nat.le_trans (h.z1 hz s g) (by omega)⟩
theorem GoodL.snoc {z : Scn} {rs : List RR} {C : List Nm} {k r : Nat} {as : List Arw} {x : Arw} (h : GoodL z rs C k r as) (hx : x ∉ as) (ho : OwnR rs C r x.g) (he : 0 ≤ x.e ∧ x.e < 3) (hl : as.length < 7) (hk : z.m = 0 ∨ 11 < k) : GoodL z rs C (k + 1) r (as ++ [x]) := by
  refine ⟨fun a ha => ?_, by rw [List.length_append, List.length_singleton]; omega, fun hz => ⟨?_, fun a ha => ?_⟩, fun hz s g => ?_⟩
  · rcases List.mem_append.mp ha with h' | h'
    · exact h.ow a h'
    · rw [List.mem_singleton.mp h']; exact ho
  · rw [List.nodup_append]
    refine ⟨(h.z0 hz).1, by simp, fun a ha b hb e => ?_⟩
    rw [List.mem_singleton.mp hb] at e
    exact hx (e ▸ ha)
  · rcases List.mem_append.mp ha with h' | h'
    · exact (h.z0 hz).2 a h'
    · rw [List.mem_singleton.mp h']; exact he
  · have h1 := cntA_snoc as x s g
    have h2 := h.z1 hz s g
    rcases hk with hk | hk
    · exact absurd hk hz
    · omega
theorem GoodL.fin {z : Scn} {rs : List RR} {C : List Nm} {r : Nat} {as : List Arw} (h : GoodL z rs C 14 r as) (s : Int) (g : Dg) : (as.filter fun a => decide (a.s = s ∧ a.g = g)).length ≤ 3 := by
  by_cases hz : z.m = 0
  · obtain ⟨nd, he⟩ := h.z0 hz
    generalize hF : (as.filter fun a => decide (a.s = s ∧ a.g = g)) = F
    have hm : ∀ a ∈ F, a ∈ as ∧ a.s = s ∧ a.g = g := fun a ha => by
      rw [← hF] at ha
      obtain ⟨h1, h2⟩ := List.mem_filter.mp ha
      have := of_decide_eq_true h2
      exact ⟨h1, this.1, this.2⟩
    have hF2 : F.Nodup := by rw [← hF]; exact nd.filter _
    refine nd_sub (ys := [⟨s, g, 0⟩, ⟨s, g, 1⟩, ⟨s, g, 2⟩]) hF2 fun a ha => ?_
    obtain ⟨h1, h2, h3⟩ := hm a ha
    obtain ⟨h4, h5⟩ := he a h1
    obtain ⟨s', g', e'⟩ := a
    dsimp only at h2 h3 h4 h5
    subst h2 h3
    have : e' = 0 ∨ e' = 1 ∨ e' = 2 := by omega
    rcases this with rfl | rfl | rfl <;> simp
  · exact h.z1 hz s g
/-! ### the arrows of a scene -/
def awOf (C L : List Nm) (a : AWd) : Arw := ⟨a.s, if a.p = true then .put ((C[a.c]?).getD default) ((L[a.l]?).getD default) else .tak ((C[a.c]?).getD default) ((L[a.l]?).getD default), a.e⟩
def scF (C L : List Nm) (xs : List AWd) (r : Nat) : List Arw := (xs.filter fun a => decide (a.r = r)).map (awOf C L)
def upd (F : Nat → List Arw) (r : Nat) (x : Arw) (r' : Nat) : List Arw := if r' = r then F r ++ [x] else F r'
theorem scF_snoc (C L : List Nm) (xs : List AWd) (a : AWd) : scF C L (xs ++ [a]) = upd (scF C L xs) a.r (awOf C L a) := by
  funext r
  unfold scF upd
  rw [List.filter_append, List.map_append]
  by_cases h : r = a.r
  · subst h
    rw [if_pos rfl, List.filter_cons_of_pos (p := fun y : AWd => decide (y.r = a.r)) (decide_eq_true rfl)]; rfl
  · rw [if_neg h, List.filter_cons_of_neg (p := fun y : AWd => decide (y.r = r)) (by simpa using fun e => h e.symm)]
    simp
theorem one_hit {α κ : Type} {f : α → κ} {P : α → Bool} : ∀ {xs : List α}, (xs.map f).Nodup → (∀ a ∈ xs, ∀ b ∈ xs, P a = true → P b = true → f a = f b) → (xs.filter P).length ≤ 1
  | [], _, _ => Nat.zero_le _
  | x :: xs, nd, h => by
    rw [List.map_cons, List.nodup_cons] at nd
    have ih := one_hit (P := P) nd.2 fun a ha b hb => h a (List.mem_cons_of_mem _ ha) b (List.mem_cons_of_mem _ hb)
    by_cases hx : P x = true
    · rw [List.filter_cons_of_pos hx, List.filter_eq_nil_iff.mpr fun y hy hp => nd.1 (by
        rw [h x List.mem_cons_self y (List.mem_cons_of_mem _ hy) hx hp]
        exact List.mem_map_of_mem hy)]
      exact Nat.le_refl _
    · rw [List.filter_cons_of_neg hx]; exact ih
theorem getD_inj {C : List Nm} {i j : Nat} (nd : C.Nodup) (hi : i < C.length) (hj : j < C.length) (h : (C[i]?).getD default = (C[j]?).getD default) : i = j := by
  refine (List.getElem?_inj hi nd).mp ?_
  rw [List.getElem?_eq_getElem hi, List.getElem?_eq_getElem hj] at h ⊢
  exact congrArg some h
theorem okA_is {m : Nat} {rs : List RWd} {a : AWd} (h : okA m rs a = true) : a.w.length ≤ 10 ∧ dig a.w 0 a.r = true ∧ dig a.w 1 a.s = true ∧ sg a.w 2 (if a.p = true then "p" else "t") = true ∧ dig a.w 3 a.c = true ∧ sg a.w 4 a.y = true ∧ Txt.find "xyz" a.y = (a.l : Int) ∧ dig a.w 5 a.e = true ∧ a.r < m ∧ a.l < 3 ∧ ∃ r, rs[a.c]? = some r ∧ (if a.p = true then r.s else r.t) = a.r := by
  unfold okA at h
  simp only [Bool.and_eq_true, decide_eq_true_eq] at h
  obtain ⟨⟨⟨⟨⟨⟨⟨⟨⟨h1, h2⟩, h3⟩, h4⟩, h5⟩, h6⟩, h7⟩, h8⟩, h9⟩, h10⟩ := h
  refine ⟨h1, h2, h3, h4, h5, h6, h7, h8, h9.1, h9.2, ?_⟩
  cases hr : rs[a.c]? with
  | none => rw [hr] at h10; cases h10
  | some r => rw [hr] at h10; exact ⟨r, rfl, of_decide_eq_true h10⟩
theorem good_scene {z : Scn} {m : Nat} {rs : List RR} {C L : List Nm} (hz : z ∈ scns) (R : RowsOk z m rs) (hC : C.length = 4) (hL : L.length = 4) (nC : C.Nodup) (nL : L.Nodup) (r : Nat) (hr : r < m) : GoodL z rs C 0 r (scF C L z.as r) := by
  have S := sok hz
  by_cases h0 : z.m = 0
  · have : z.as = [] := List.eq_nil_of_length_eq_zero (S.le.2.2.2.2.1 h0)
    rw [this]
    exact ⟨fun _ h => absurd h List.not_mem_nil, Nat.zero_le _, fun _ => ⟨List.nodup_nil, fun _ h => absurd h List.not_mem_nil⟩, fun h => absurd h0 h⟩
  · obtain ⟨rfl, rfl⟩ := R.sc h0
    have hcl : ∀ a ∈ z.as, a.c < 4 ∧ a.l < 4 := fun a ha => by
      obtain ⟨_, _, _, _, _, _, _, _, _, h1, w, h2, _⟩ := okA_is (S.ao a ha)
      have := (List.getElem?_eq_some_iff.mp h2).1
      have := S.le.2.2.1
      omega
    refine ⟨fun x hx => ?_, ?_, fun h => absurd h h0, fun _ s g => ?_⟩
    · obtain ⟨a, ha, rfl⟩ := List.mem_map.mp hx
      obtain ⟨ha, hra⟩ := List.mem_filter.mp ha
      have hra := of_decide_eq_true hra
      obtain ⟨_, _, _, _, _, _, _, _, _, _, w, h2, h3⟩ := okA_is (S.ao a ha)
      have hc := (hcl a ha).1
      have e1 : (z.rs.map rrOf)[a.c]? = some (rrOf w) := by rw [List.getElem?_map, h2]; rfl
      have e2 : C[a.c]? = some ((C[a.c]?).getD default) := by rw [List.getElem?_eq_getElem (by omega)]; rfl
      unfold awOf
      cases hp : a.p with
      | true =>
        rw [hp] at h3
        exact ⟨a.c, rrOf w, e1, e2, by rw [← hra, ← h3]; rfl⟩
      | false =>
        rw [hp] at h3
        exact ⟨a.c, rrOf w, e1, e2, by rw [← hra, ← h3]; rfl⟩
    · unfold scF
      rw [List.length_map]
      have := S.fi r (by have := S.le.2.2.2.1; omega)
      omega
    · unfold cntA scF
      rw [List.filter_map, List.length_map, List.filter_filter]
      refine Nat.le_trans (one_hit S.nd fun a ha b hb h1 h2 => ?_) (by omega)
      simp only [Function.comp, Bool.and_eq_true, decide_eq_true_eq] at h1 h2
      obtain ⟨⟨a1, a2⟩, a3⟩ := h1
      obtain ⟨⟨b1, b2⟩, b3⟩ := h2
      have es : a.s = b.s := by
        have : (a.s : Int) = b.s := a1.trans b1.symm
        omega
      have eg := a2.trans b2.symm
      unfold awOf at eg
      have hA := hcl a ha
      have hB := hcl b hb
      cases hp : a.p <;> cases hq : b.p <;> rw [hp, hq] at eg <;> first | (cases eg; done) | skip
      all_goals
        have e1 : a.c = b.c := getD_inj nC (by omega) (by omega) (by injection eg)
        have e2 : a.l = b.l := getD_inj nL (by omega) (by omega) (by injection eg)
        rw [a3, b3, es, e1, e2]
end LK
set_option linter.all false
set_option maxRecDepth 100000
set_option maxHeartbeats 4000000
/-! R21: the drawn arrows. -/
namespace LK
open PySem PySem.Spec L2 PL RN
def AtF (b m : Nat) (F : Nat → List Arw) (s : Sto) : Prop := ∀ r, r < m → s[b + r]? = some (.lst ((F r).map Arw.d))
theorem AtF.ext {b m : Nat} {F : Nat → List Arw} {s : Sto} (h : AtF b m F s) (t : Sto) : AtF b m F (s ++ t) := fun r hr => by
  have := h r hr
  rw [List.getElem?_append_left (List.getElem?_eq_some_iff.mp this).1]
  exact this
theorem AtF.upd {b m r : Nat} {F : Nat → List Arw} {s : Sto} (h : AtF b m F s) (hr : r < m) (x : Arw) : AtF b m (upd F r x) (s.set (b + r) (.lst ((F r).map Arw.d ++ [x.d]))) := fun r' hr' => by
  unfold LK.upd
  by_cases e : r' = r
  · subst e
    rw [if_pos rfl, List.getElem?_set_self (List.getElem?_eq_some_iff.mp (h r' hr')).1, List.map_append]; rfl
  · rw [if_neg e, List.getElem?_set_ne (by omega)]
    exact h r' hr'
theorem arw_shp (a : Arw) : Shp 2 a.d := shp_tup (k := 1) fun x hx => by
  simp only [List.mem_cons, List.not_mem_nil, or_false] at hx
  rcases hx with rfl | rfl | rfl
  · exact shp_int.mono
  · exact dg_shp _
  · exact shp_int.mono
theorem eqv_arw (a b : Arw) : a.d.eqv b.d = decide (a = b) := by
  unfold Arw.d
  rw [eqv_tt, eqvL_cons, eqvL_cons, eqvL_cons, eqvL_nn, eqv_int, eqv_dg, eqv_int, Bool.and_true, ← Bool.decide_and, ← Bool.decide_and]
  congr 1
  cases a; cases b
  simp
theorem any_arw (a : Arw) : ∀ as : List Arw, ((as.map Arw.d).any fun z => z.eqv a.d) = decide (a ∈ as)
  | [] => by simp
  | b :: as => by
    rw [List.map_cons, List.any_cons, any_arw a as, eqv_arw]
    by_cases h : b = a
    · subst h; simp
    · have h' : ¬a = b := fun e => h e.symm
      by_cases h2 : a ∈ as <;> simp [h, h', h2]
def vbA (p : Bool) : Str := if p = true then "put" else "take"
theorem vb_aw {C L : List Nm} (a : AWd) {c l : Nm} (hc : C[a.c]? = some c) (hl : L[a.l]? = some l) : D.tup [.str (vbA a.p), .str c.x, .str l.x] = (awOf C L a).g.d := by
  unfold awOf
  rw [hc, hl]
  cases a.p <;> rfl
section
variable {Q : D → Sto → Prop} {st : Sto}
theorem k_or {u : En → M Bool} {ρ : En} {P1 P2 : Sto → Prop} {b1 b2 : Bool} (hu : ∀ T : Bool → Sto → Prop, T b2 st → wp (u ρ) T st) (k : IfK (P1 st) (P2 st) (b1 || b2)) : IfK (IfK (P1 st) (P2 st) true) (wp (u ρ) (fun b s => IfK (P1 s) (P2 s) b) st) b1 := by
  cases b1
  · exact k_ifF (hu _ k)
  · exact k_ifT k
theorem w_ninA {a : Arw} {as : List Arw} (k : Q (.bl (!decide (a ∈ as))) st) : wp (notInM a.d (.lst (as.map Arw.d))) Q st :=
  w_notIn rfl (arw_shp a).shp (shp_lst (k := 2) fun x hx => by
    obtain ⟨r, _, rfl⟩ := List.mem_map.mp hx
    exact arw_shp r).shp (by rw [any_arw]; exact k)
theorem new_at (m b : Nat) (hb : st.length = b) : AtF b m (fun _ => []) (st ++ List.replicate m (.lst [])) := fun r hr => by
  rw [List.getElem?_append_right (by omega), hb, Nat.add_sub_cancel_left, List.getElem?_replicate, if_pos hr]; rfl
theorem spec_arrows {ds : List Int} {d0 : Int} {m : Nat} {rs : List RR} {C L : List Nm} (hl : 30 ≤ ds.length) (h0 : ds[0]? = some d0) (R : RowsOk (scnAt d0) m rs) (hC : C.length = 4) (hL : L.length = 4) (nC : C.Nodup) (nL : L.Nodup)
    (q : ∀ (b : Nat) (F : Nat → List Arw) (s : Sto), AtF b m F s → (∀ r, r < m → GoodL (scnAt d0) rs C 14 r (F r)) → Q (lyD b m) s) : wp (m__law_arrows [.lst (ds.map D.int), .int m, .lst (rs.map rrD), .lst (txD C), .lst (txD L)]) Q st := by
  refine w_run' [.val (.lst (ds.map D.int)), .val (.int m), .val (.lst (rs.map rrD)), .val (.lst (txD C)), .val (.lst (txD L)), .no, .no, .no, .no, .no, .no, .no, .no, .no, .no, .no] rfl ?_
  unfold s__law_arrows
  have m3 := R.m3
  false_or_by_contra
  refine ⟨m, rfl, by omega, ?_⟩
  refine lc_new (by simp [wipeE]) (fun (i : Nat) => D.int i) (List.range m) _ ?_
  rw [List.length_range]
  have hA := new_at (st := st) m st.length rfl
  generalize hb : st.length = b at hA
  rw [show D.lst ((List.range m).map fun (j : Nat) => D.ref (b + j)) = lyD b m from rfl]
  false_or_by_contra
  refine w_ixML (i := 0) h0 ?_
  false_or_by_contra
  refine spec_scene _ ?_
  have hz := scnAt_in d0
  generalize scnAt d0 = z at q hz R
  have S := sok hz
  false_or_by_contra
  refine sc_2 ?_
  false_or_by_contra
  refine w_words (y := z.y) (small3 (by have := S.le.2.1; omega)) ?_
  rw [S.wy, List.map_map]
  false_or_by_contra
  have hv : vbA true = "put" ∧ vbA false = "take" := ⟨rfl, rfl⟩
  refine for_mapI (f := fun a : AWd => D.str a.w) (fun i ρ s => AtF b m (scF C L (z.as.take i)) s ∧ ∃ (x8 x9 x10 : Slot), ρ = [.val (.lst (ds.map D.int)), .val (.int m), .val (.lst (rs.map rrD)), .val (.lst (txD C)), .val (.lst (txD L)), .val (lyD b m), .no, .val (scnD z), x8, x9, x10, .no, .no, .no, .no, .no]) ?_ ⟨hA, _, _, _, rfl⟩ ?_
  · rintro i a ρ s hi ⟨hA, x8, x9, x10, rfl⟩
    obtain ⟨h1, h2, h3, h4, h5, h6, h7, h8, h9, h10, w, h11, h12⟩ := okA_is (S.ao a (List.mem_of_getElem? hi))
    have hz0 : z.m ≠ 0 := by omega
    obtain ⟨rfl, rfl⟩ := R.sc hz0
    have hcl : a.c < 4 := by
      have := (List.getElem?_eq_some_iff.mp h11).1
      have := S.le.2.2.1
      omega
    have hc : C[a.c]? = some ((C[a.c]?).getD default) := by rw [List.getElem?_eq_getElem (by omega)]; rfl
    have hl : L[a.l]? = some ((L[a.l]?).getD default) := by rw [List.getElem?_eq_getElem (by omega)]; rfl
    have ht : z.as.take (i + 1) = z.as.take i ++ [a] := by rw [List.take_add_one, hi]; rfl
    refine ⟨_, rfl, ?_⟩
    false_or_by_contra
    refine w_sg h4 h1 ?_
    refine w_dg (get_new _ _) (d := .str (vbA a.p)) ?_ ?_
    · rw [dict2 (by decide +kernel)]
      cases a.p
      · exact val2b (by decide +kernel)
      · exact val2a
    rw [dict2 (by decide +kernel)]
    false_or_by_contra
    refine w_dig h5 h1 ?_
    refine w_tx hc ?_
    false_or_by_contra
    refine w_sg h6 h1 ?_
    false_or_by_contra
    rw [h7]
    refine w_tx hl ?_
    false_or_by_contra
    rw [vb_aw a hc hl]
    refine w_appE ?_
    false_or_by_contra
    refine w_dig h2 h1 ?_
    refine w_ly h9 ?_
    have hA2 := hA.ext [.dict [((.inr (Str.ofString "p") : Key), .str "put"), (.inr (Str.ofString "t"), .str "take")]]
    have hr := hA2 _ h9
    refine ⟨_, _, rfl, hr, ?_⟩
    false_or_by_contra
    refine w_dig h3 h1 ?_
    false_or_by_contra
    refine w_dig h8 h1 ?_
    false_or_by_contra
    refine ⟨_, hr, small3 ?_, .inl ⟨rfl, ?_, _, _, _, rfl⟩⟩
    · have := (good_scene hz R hC hL nC nL a.r h9).le
      have h13 : (scF C L (z.as.take i) a.r).length ≤ z.as.length := by
        unfold scF
        rw [List.length_map]
        refine Nat.le_trans (List.length_filter_le _ _) ?_
        rw [List.length_take]; omega
      have := S.le.2.2.2.2.2
      rw [List.length_map]; omega
    · rw [ht, scF_snoc]
      exact hA2.upd h9 (awOf C L a)
  · rintro ρ s ⟨hA, x8, x9, x10, rfl⟩
    rw [List.take_length] at hA
    have hG := good_scene hz R hC hL nC nL
    generalize scF C L z.as = F at hA hG
    obtain ⟨d14, h14⟩ : ∃ a, ds[14]? = some a := ⟨_, List.getElem?_eq_getElem (by omega)⟩
    false_or_by_contra
    refine w_ixML (i := 14) h14 ?_
    false_or_by_contra
    have hsz : 1 ≤ 1 + d14 / 20 % 3 ∧ 1 + d14 / 20 % 3 ≤ 3 := by
      have h1 := Int.emod_nonneg (d14 / 20) (show (3 : Int) ≠ 0 by decide)
      have h2 := Int.emod_lt_of_pos (d14 / 20) (show (0 : Int) < 3 by decide)
      omega
    generalize 1 + d14 / 20 % 3 = sz at hsz
    refine ⟨14, rfl, by decide, ?_⟩
    refine for_range (fun k ρ s => ∃ (F : Nat → List Arw) (x6 x10 x12 x13 x14 x15 : Slot), AtF b m F s ∧ (∀ r, r < m → GoodL z rs C k r (F r)) ∧ ρ = [.val (.lst (ds.map D.int)), .val (.int m), .val (.lst (rs.map rrD)), .val (.lst (txD C)), .val (.lst (txD L)), .val (lyD b m), x6, .val (scnD z), x8, x9, x10, .val (.int sz), x12, x13, x14, x15]) ?_ ⟨F, _, _, _, _, _, _, hA, hG, rfl⟩ ?_
    · rintro k ρ s hk ⟨F, x6, x10, x12, x13, x14, x15, hA, hG, rfl⟩
      obtain ⟨d, hd⟩ : ∃ a, ds[16 + k]? = some a := ⟨_, List.getElem?_eq_getElem (by omega)⟩
      have hzm := S.le.2.2.2.1
      refine ⟨_, rfl, ?_⟩
      false_or_by_contra
      refine w_ixML (i := 16 + k) hd ?_
      false_or_by_contra
      refine sc_0 ?_
      false_or_by_contra
      refine w_int2 (decide_eq_true (by omega)) ?_
      rw [show d % ((m : Int) + 1 + (z.m : Int)) = (md d (m + 1 + z.m) : Int) from md_is (n := m + 1 + z.m) (by omega)]
      generalize md d (m + 1 + z.m) = r
      false_or_by_contra
      have fin : ∀ (ρ : En) (x6 x10 x12 x13 x14 x15 : Slot), ρ = [.val (.lst (ds.map D.int)), .val (.int m), .val (.lst (rs.map rrD)), .val (.lst (txD C)), .val (.lst (txD L)), .val (lyD b m), x6, .val (scnD z), x8, x9, x10, .val (.int sz), x12, x13, x14, x15] → ∃ (F : Nat → List Arw) (x6 x10 x12 x13 x14 x15 : Slot), AtF b m F s ∧ (∀ r, r < m → GoodL z rs C (k + 1) r (F r)) ∧ ρ = [.val (.lst (ds.map D.int)), .val (.int m), .val (.lst (rs.map rrD)), .val (.lst (txD C)), .val (.lst (txD L)), .val (lyD b m), x6, .val (scnD z), x8, x9, x10, .val (.int sz), x12, x13, x14, x15] := fun ρ x6 x10 x12 x13 x14 x15 e => ⟨F, x6, x10, x12, x13, x14, x15, hA, fun r hr => (hG r hr).mono, e⟩
      refine k_if (fun h => ?_) fun h => ?_
      · have hrm : r < m := by have := of_decide_eq_true h; omega
        false_or_by_contra
        refine sc_0 ?_
        false_or_by_contra
        refine k_or (b2 := decide (11 < k)) (fun T hT => ?_) ?_
        · false_or_by_contra
          have e : decide ((11 : Int) < (k : Int)) = decide (11 < k) := by
            by_cases h1 : 11 < k
            · rw [decide_eq_true h1, decide_eq_true (by omega)]
            · rw [decide_eq_false h1, decide_eq_false (by omega)]
          rw [e]
          exact hT
        refine k_if (fun h1 => ?_) fun h1 => ?_
        · have hk2 : z.m = 0 ∨ 11 < k := by
            rcases (Bool.or_eq_true _ _).mp h1 with h2 | h2
            · left; have := of_decide_eq_true h2; omega
            · right; exact of_decide_eq_true h2
          false_or_by_contra
          refine spec_doings R.l4 hC hL fun gs hg0 hgl hgo => ?_
          have hgp : 0 < gs.length := List.length_pos_iff.mpr hg0
          false_or_by_contra
          refine w_ixML (i := 16 + k) hd ?_
          false_or_by_contra
          refine sc_0 ?_
          false_or_by_contra
          refine w_int2 (decide_eq_true (by omega)) ?_
          generalize d / ((m : Int) + 1 + (z.m : Int)) = dr
          false_or_by_contra
          refine w_int2 (decide_eq_true (by omega)) ?_
          false_or_by_contra
          refine w_int2 (decide_eq_true (by omega)) ?_
          rw [show dr / sz % (gs.length : Int) = (md (dr / sz) gs.length : Int) from md_is hgp]
          obtain ⟨g, hg⟩ : ∃ g, gs[md (dr / sz) gs.length]? = some g := ⟨_, List.getElem?_eq_getElem (md_lt hgp)⟩
          false_or_by_contra
          refine w_int2 (decide_eq_true (by omega)) ?_
          have hmul : 0 < sz * (gs.length : Int) ∧ sz * (gs.length : Int) < 1073741824 := by
            have : sz = 1 ∨ sz = 2 ∨ sz = 3 := by omega
            rcases this with rfl | rfl | rfl <;> omega
          false_or_by_contra
          refine w_int2 (decide_eq_true (.inl ⟨by omega, by omega⟩)) ?_
          refine w_int2 (decide_eq_true hmul) ?_
          false_or_by_contra
          refine w_int2 (decide_eq_true (by omega)) ?_
          generalize hx : (⟨dr % sz, g, dr / (sz * (gs.length : Int)) % sz⟩ : Arw) = x
          have hxd : D.tup [.int (dr % sz), g.d, .int (dr / (sz * (gs.length : Int)) % sz)] = x.d := by rw [← hx]; rfl
          have hxo : OwnR rs C r x.g := by rw [← hx]; exact hgo g (List.mem_of_getElem? hg)
          have hxe : 0 ≤ x.e ∧ x.e < 3 := by
            rw [← hx]
            have h1 := Int.emod_nonneg (dr / (sz * (gs.length : Int))) (show sz ≠ 0 by omega)
            have h2 := Int.emod_lt_of_pos (dr / (sz * (gs.length : Int))) (show 0 < sz by omega)
            exact ⟨h1, by show dr / (sz * (gs.length : Int)) % sz < 3; omega⟩
          false_or_by_contra
          rw [hxd]
          have hr := hA r hrm
          have hGr := hG r hrm
          false_or_by_contra
          refine w_ly hrm ?_
          false_or_by_contra
          refine w_ninA ?_
          false_or_by_contra
          refine k_if (fun h2 => ?_) fun h2 => ?_
          · have hxn : x ∉ F r := by simpa using h2
            false_or_by_contra
            refine w_ly hrm ?_
            false_or_by_contra
            refine k_if (fun h3 => ?_) fun h3 => ?_
            · have hl7 : (F r).length < 7 := by
                have := of_decide_eq_true h3
                try rw [List.length_map] at this
                omega
              false_or_by_contra
              refine w_appE ?_
              false_or_by_contra
              refine w_ly hrm ?_
              refine ⟨_, _, rfl, hr, ?_⟩
              false_or_by_contra
              refine ⟨_, hr, small3 (by rw [List.length_map]; omega), .inl ⟨rfl, upd F r x, _, _, _, _, _, _, hA.upd hrm x, fun r' hr' => ?_, rfl⟩⟩
              unfold upd
              by_cases e : r' = r
              · subst e
                rw [if_pos rfl]
                exact hGr.snoc hxn hxo hxe hl7 hk2
              · rw [if_neg e]
                exact (hG r' hr').mono
            · false_or_by_contra
              exact .inl ⟨rfl, fin _ _ _ _ _ _ _ rfl⟩
          · false_or_by_contra
            exact .inl ⟨rfl, fin _ _ _ _ _ _ _ rfl⟩
        · false_or_by_contra
          exact .inl ⟨rfl, fin _ _ _ _ _ _ _ rfl⟩
      · false_or_by_contra
        exact .inl ⟨rfl, fin _ _ _ _ _ _ _ rfl⟩
    · rintro ρ s ⟨F, x6, x10, x12, x13, x14, x15, hA, hG, rfl⟩
      false_or_by_contra
      exact q b F s hA hG
end
end LK
set_option linter.all false
set_option maxRecDepth 100000
set_option maxHeartbeats 4000000
/-! R22: keys of parties and channels; the program keeps Ok. -/
namespace LK
open PySem PySem.Spec L2 PL RN PySem.W
def dgK : Dg → NestedKey
  | .doo w => .tup [.text "do", .text w.x]
  | .put c l => .tup [.text "put", .text c.x, .text l.x]
  | .tak c l => .tup [.text "take", .text c.x, .text l.x]
theorem dgK_of (g : Dg) : KeyOf g.d (dgK g) 1 := by
  cases g with
  | doo w => exact KeyOf.tup (ps := [(.str "do", .text "do"), (.str w.x, .text w.x)]) (fun q hq => by
      simp only [List.mem_cons, List.not_mem_nil, or_false] at hq
      rcases hq with rfl | rfl <;> exact KeyOf.str _)
  | put c l => exact KeyOf.tup (ps := [(.str "put", .text "put"), (.str c.x, .text c.x), (.str l.x, .text l.x)]) (fun q hq => by
      simp only [List.mem_cons, List.not_mem_nil, or_false] at hq
      rcases hq with rfl | rfl | rfl <;> exact KeyOf.str _)
  | tak c l => exact KeyOf.tup (ps := [(.str "take", .text "take"), (.str c.x, .text c.x), (.str l.x, .text l.x)]) (fun q hq => by
      simp only [List.mem_cons, List.not_mem_nil, or_false] at hq
      rcases hq with rfl | rfl | rfl <;> exact KeyOf.str _)
def arwK (a : Arw) : NestedKey := .tup [.num a.s, dgK a.g, .num a.e]
theorem arwK_of (a : Arw) : KeyOf a.d (arwK a) 2 := KeyOf.tup (ps := [(.int a.s, .num a.s), (a.g.d, dgK a.g), (.int a.e, .num a.e)]) fun q hq => by
  simp only [List.mem_cons, List.not_mem_nil, or_false] at hq
  rcases hq with rfl | rfl | rfl
  · exact (KeyOf.int _).mono (by decide)
  · exact dgK_of _
  · exact (KeyOf.int _).mono (by decide)
def prtK (y : Prt) : NestedKey := .tup [.text y.n.x, .tup (y.es.map .num), .tup (y.as.map arwK)]
theorem prtK_of (y : Prt) : KeyOf y.d (prtK y) 4 := KeyOf.tup (ps := [(.str y.n.x, .text y.n.x), (.tup (y.es.map D.int), .tup (y.es.map .num)), (.tup (y.as.map Arw.d), .tup (y.as.map arwK))]) fun q hq => by
  simp only [List.mem_cons, List.not_mem_nil, or_false] at hq
  rcases hq with rfl | rfl | rfl
  · exact (KeyOf.str _).mono (by decide)
  · exact (KeyOf.map (n := 0) fun x _ => KeyOf.int x).mono (by decide)
  · exact KeyOf.map fun x _ => arwK_of x
def chnK (c : Chn) : NestedKey := .tup [.text c.n.x, .text c.s.x, .text c.t.x, .text c.f.s]
theorem chnK_of (c : Chn) : KeyOf c.d (chnK c) 1 := KeyOf.tup (ps := [(.str c.n.x, .text c.n.x), (.str c.s.x, .text c.s.x), (.str c.t.x, .text c.t.x), (.str c.f.s, .text c.f.s)]) fun q hq => by
  simp only [List.mem_cons, List.not_mem_nil, or_false] at hq
  rcases hq with rfl | rfl | rfl | rfl <;> exact KeyOf.str _
theorem alike_dg (a b : Dg) : alike (dgK a).data (dgK b).data = true := by
  cases a <;> cases b <;> simp [dgK, NestedKey.data, NestedKey.datas, alike, alikeAll]
theorem alike_arw (a b : Arw) : alike (arwK a).data (arwK b).data = true := by
  simp [arwK, NestedKey.data, NestedKey.datas, alike, alikeAll, alike_dg]
theorem alike_map {α : Type} {key : α → NestedKey} (h : ∀ x y, alike (key x).data (key y).data = true) (xs ys : List α) : alike (NestedKey.tup (xs.map key)).data (NestedKey.tup (ys.map key)).data = true := by
  unfold NestedKey.data
  rw [datas_map, datas_map]
  unfold alike
  refine alikeAll_of fun x hx y hy => ?_
  rw [List.map_map] at hx hy
  obtain ⟨u, _, rfl⟩ := List.mem_map.mp hx
  obtain ⟨v, _, rfl⟩ := List.mem_map.mp hy
  exact h u v
theorem alike_num (a b : Int) : alike (NestedKey.num a).data (NestedKey.num b).data = true := by simp [NestedKey.data, alike]
theorem alike_txt (a b : Str) : alike (NestedKey.text a).data (NestedKey.text b).data = true := by simp [NestedKey.data, alike]
theorem alike_prt (a b : Prt) : alike (prtK a).data (prtK b).data = true := by
  have h1 := alike_map alike_num a.es b.es
  have h2 := alike_map alike_arw a.as b.as
  have h0 := alike_txt a.n.x b.n.x
  unfold prtK
  generalize NestedKey.tup (a.es.map .num) = x1 at h1
  generalize NestedKey.tup (b.es.map .num) = y1 at h1
  generalize NestedKey.tup (a.as.map arwK) = x2 at h2
  generalize NestedKey.tup (b.as.map arwK) = y2 at h2
  simp [NestedKey.data, NestedKey.datas, alike, alikeAll, h1, h2]
theorem alike_chn (a b : Chn) : alike (chnK a).data (chnK b).data = true := by
  simp [chnK, NestedKey.data, NestedKey.datas, alike, alikeAll]
section
variable {Q : D → Sto → Prop} {st : Sto}
theorem w_ssetY {ps : List Prt} (hl : ps.length < 64) (k : ∀ so : List Prt, (∀ x ∈ so, x ∈ ps) → (∀ x ∈ ps, prtK x ∈ so.map prtK) → (so.map prtK).Pairwise (fun a b => ltK a b = true) → Q (.lst (so.map Prt.d)) st) : wp (ssetN (.lst (ps.map Prt.d))) Q st :=
  w_sset (key := prtK) (fun x _ => ⟨(prtK_of x).key (by decide), (prtK_of x).pl⟩) (fun x _ y _ => alike_prt x y) (fun _ _ => rfl) hl k
theorem w_ssetC {cs : List Chn} (hl : cs.length < 64) (k : ∀ so : List Chn, (∀ x ∈ so, x ∈ cs) → (∀ x ∈ cs, chnK x ∈ so.map chnK) → (so.map chnK).Pairwise (fun a b => ltK a b = true) → Q (.lst (so.map Chn.d)) st) : wp (ssetN (.lst (cs.map Chn.d))) Q st :=
  w_sset (key := chnK) (fun x _ => ⟨(chnK_of x).key (by decide), (chnK_of x).pl⟩) (fun x _ y _ => alike_chn x y) (fun _ _ => rfl) hl k
end
/-- a sorted set of things whose names differ: the same things, once each -/
theorem sorted_same {α : Type} {f : α → Nm} {key : α → NestedKey} {xs so : List α} (nd : (xs.map f).Nodup) (hf : ∀ x y, key x = key y → f x = f y) (h1 : ∀ x ∈ so, x ∈ xs) (h2 : ∀ x ∈ xs, key x ∈ so.map key) (h3 : (so.map key).Pairwise (fun a b => ltK a b = true)) : (so.map f).Nodup ∧ (∀ x ∈ xs, x ∈ so) ∧ so.length ≤ xs.length := by
  have inj : ∀ x ∈ xs, ∀ y ∈ xs, f x = f y → x = y := fun x hx y hy e => by
    obtain ⟨i, hi⟩ := List.getElem?_of_mem hx
    obtain ⟨j, hj⟩ := List.getElem?_of_mem hy
    have := nd_ix nd hi hj e
    subst this
    rw [hi] at hj
    exact Option.some.inj hj
  have hnd : (so.map f).Nodup := by
    refine List.pairwise_map.mpr (List.Pairwise.imp_of_mem (fun {a b} ha hb hlt e => ?_) (List.pairwise_map.mp h3))
    have := inj a (h1 a ha) b (h1 b hb) e
    subst this
    rw [ltK_irrefl] at hlt
    cases hlt
  refine ⟨hnd, fun x hx => ?_, ?_⟩
  · obtain ⟨y, hy, e⟩ := List.mem_map.mp (h2 x hx)
    have := inj y (h1 y hy) x hx (hf _ _ e)
    exact this ▸ hy
  · have := nd_sub (l := so.map f) (ys := xs.map f) hnd fun z hz => by
      obtain ⟨y, hy, rfl⟩ := List.mem_map.mp hz
      exact List.mem_map_of_mem (h1 y hy)
    simpa using this
end LK
set_option linter.all false
set_option maxRecDepth 100000
set_option maxHeartbeats 4000000
/-! R23: the drawn program. -/
namespace LK
open PySem PySem.Spec L2 PL RN
theorem k_if2 {f g : M (Fl × En)} {A B : Fl × En → Sto → Prop} {b : Bool} {st : Sto} (hf : b = true → wp f A st) (hg : b = false → wp g A st) (hk : ∀ r s, A r s → B r s) : IfK (wp f B st) (wp g B st) b := by
  cases b
  · exact k_ifF (wp_mono (hg rfl) hk)
  · exact k_ifT (wp_mono (hf rfl) hk)
/-- the drawn channels, parties, as far as told -/
def ChR (P C : List Nm) (rs : List RR) (cs : List Chn) : Prop := ∀ (i : Nat) (c : Chn), cs[i]? = some c → ∃ r : RR, rs[i]? = some r ∧ C[i]? = some c.n ∧ P[r.s]? = some c.s ∧ P[r.t]? = some c.t
def PtR (P : List Nm) (F : Nat → List Arw) (ps : List Prt) : Prop := ∀ (i : Nat) (y : Prt), ps[i]? = some y → P[i]? = some y.n ∧ y.as = F i
theorem names_nd {α : Type} {f : α → Nm} {P : List Nm} {xs : List α} (nd : P.Nodup) (h : ∀ (i : Nat) (x : α), xs[i]? = some x → P[i]? = some (f x)) : (xs.map f).Nodup := by
  have e : xs.map f = P.take xs.length := by
    apply List.ext_getElem?
    intro i
    rw [List.getElem?_map, List.getElem?_take]
    by_cases hi : i < xs.length
    · rw [if_pos hi, List.getElem?_eq_getElem hi, h i _ (List.getElem?_eq_getElem hi)]; rfl
    · rw [if_neg hi, List.getElem?_eq_none (by omega)]; rfl
  rw [e]
  exact nd.sublist (List.take_sublist _ _)
theorem prog_ok {z : Scn} {m : Nat} {rs : List RR} {P C : List Nm} {F : Nat → List Arw} {ps po : List Prt} {cs co : List Chn} (R : RowsOk z m rs) (nP : P.Nodup) (nC : C.Nodup) (hG : ∀ r, r < m → GoodL z rs C 14 r (F r))
    (hpl : ps.length = m) (hcl : cs.length = rs.length) (hp : PtR P F ps) (hc : ChR P C rs cs)
    (p1 : ∀ x ∈ po, x ∈ ps) (p2 : ∀ x ∈ ps, prtK x ∈ po.map prtK) (p3 : (po.map prtK).Pairwise (fun a b => ltK a b = true))
    (c1 : ∀ x ∈ co, x ∈ cs) (c2 : ∀ x ∈ cs, chnK x ∈ co.map chnK) (c3 : (co.map chnK).Pairwise (fun a b => ltK a b = true)) : Ok ⟨po, co⟩ := by
  have nps : (ps.map Prt.n).Nodup := names_nd nP fun i x hx => (hp i x hx).1
  have ncs : (cs.map Chn.n).Nodup := names_nd nC fun i x hx => by
    obtain ⟨r, _, h, _⟩ := hc i x hx
    exact h
  obtain ⟨a1, a2, a3⟩ := sorted_same nps (fun x y e => by
    have := (List.cons.inj (NestedKey.tup.inj e)).1
    exact Nm.ext' (NestedKey.text.inj this)) p1 p2 p3
  obtain ⟨b1, b2, b3⟩ := sorted_same ncs (fun x y e => by
    have := (List.cons.inj (NestedKey.tup.inj e)).1
    exact Nm.ext' (NestedKey.text.inj this)) c1 c2 c3
  have hg : ∀ y ∈ po, ∃ i, i < m ∧ P[i]? = some y.n ∧ GoodL z rs C 14 i y.as := fun y hy => by
    obtain ⟨i, hi⟩ := List.getElem?_of_mem (p1 y hy)
    obtain ⟨h1, h2⟩ := hp i y hi
    have hlt := (List.getElem?_eq_some_iff.mp hi).1
    exact ⟨i, by omega, h1, h2 ▸ hG i (by omega)⟩
  have chan : ∀ (j : Nat) (r : RR) (c : Nm), rs[j]? = some r → C[j]? = some c → ∃ ch ∈ co, ch.n = c ∧ P[r.s]? = some ch.s ∧ P[r.t]? = some ch.t := fun j r c h1 h2 => by
    have hlt := (List.getElem?_eq_some_iff.mp h1).1
    obtain ⟨ch, hch⟩ : ∃ ch, cs[j]? = some ch := ⟨_, List.getElem?_eq_getElem (by omega)⟩
    obtain ⟨r', e1, e2, e3, e4⟩ := hc j ch hch
    rw [h1] at e1
    obtain rfl := Option.some.inj e1
    rw [h2] at e2
    exact ⟨ch, b2 ch (List.mem_of_getElem? hch), (Option.some.inj e2).symm, e3, e4⟩
  refine ⟨a1, b1, fun y hy a ha => ?_, fun ch hch e => ?_, by show po.length ≤ 3; have := R.m3; omega, by show co.length ≤ 4; have := R.l4; omega, fun y hy => ?_, fun y hy s g => ?_⟩
  · obtain ⟨i, _, h1, h2⟩ := hg y hy
    have ho := h2.ow a ha
    cases hga : a.g with
    | doo w => trivial
    | put c l =>
      rw [hga] at ho
      obtain ⟨j, r, e1, e2, e3⟩ := ho
      obtain ⟨ch, h3, h4, h5, _⟩ := chan j r c e1 e2
      rw [e3, h1] at h5
      exact ⟨ch, h3, h4, (Option.some.inj h5).symm⟩
    | tak c l =>
      rw [hga] at ho
      obtain ⟨j, r, e1, e2, e3⟩ := ho
      obtain ⟨ch, h3, h4, _, h5⟩ := chan j r c e1 e2
      rw [e3, h1] at h5
      exact ⟨ch, h3, h4, (Option.some.inj h5).symm⟩
  · obtain ⟨i, hi⟩ := List.getElem?_of_mem (c1 ch hch)
    obtain ⟨r, e1, _, e3, e4⟩ := hc i ch hi
    have hr := R.ok r (List.mem_of_getElem? e1)
    rw [e] at e3
    exact hr.2.2.1 ((List.getElem?_inj (List.getElem?_eq_some_iff.mp e3).1 nP).mp (e3.trans e4.symm))
  · obtain ⟨i, _, _, h2⟩ := hg y hy
    exact h2.le
  · obtain ⟨i, _, _, h2⟩ := hg y hy
    exact h2.fin s g
theorem pw8 {k : Nat} (h : k < 4) : atI [D.int 1, .int 2, .int 4, .int 8] (k : Int) = some (.int ((2 : Int) ^ k)) ∧ 0 < (2 : Int) ^ k ∧ (2 : Int) ^ k < 1073741824 := by
  rcases k with _ | _ | _ | _ | k
  · exact ⟨rfl, by decide, by decide⟩
  · exact ⟨rfl, by decide, by decide⟩
  · exact ⟨rfl, by decide, by decide⟩
  · exact ⟨rfl, by decide, by decide⟩
  · omega
section
variable {Q : D → Sto → Prop} {st : Sto}
theorem spec_program {ds : List Int} (hl : ds.length = 60) (q : ∀ (p : Prg) (s : Sto), Ok p → Q p.d s) : wp (m__law_program [.lst (ds.map D.int)]) Q st := by
  refine w_run' [.val (.lst (ds.map D.int)), .no, .no, .no, .no, .no, .no, .no, .no, .no, .no, .no, .no, .no] rfl ?_
  unfold s__law_program
  obtain ⟨d0, h0⟩ : ∃ a, ds[0]? = some a := ⟨_, List.getElem?_eq_getElem (by omega)⟩
  obtain ⟨d34, h34⟩ : ∃ a, ds[34]? = some a := ⟨_, List.getElem?_eq_getElem (by omega)⟩
  obtain ⟨d30, h30⟩ : ∃ a, ds[30]? = some a := ⟨_, List.getElem?_eq_getElem (by omega)⟩
  false_or_by_contra
  refine spec_names (at_ := 2) (by omega) fun P hP nP => ?_
  false_or_by_contra
  refine spec_names (at_ := 6) (by omega) fun C0 hC0 nC0 => ?_
  false_or_by_contra
  refine w_ixML (i := 34) h34 ?_
  false_or_by_contra
  refine k_if2 (A := fun r s => s = st ∧ ∃ C : List Nm, C.length = 4 ∧ C.Nodup ∧ r = (.nx, [.val (.lst (ds.map D.int)), .val (.lst (txD P)), .val (.lst (txD C)), .no, .no, .no, .no, .no, .no, .no, .no, .no, .no, .no])) (fun _ => ?_) (fun _ => ?_) ?_
  · false_or_by_contra
    refine spec_names (at_ := 2) (by omega) fun C hC nC => ?_
    false_or_by_contra
    exact ⟨rfl, C, hC, nC, rfl⟩
  · false_or_by_contra
    exact ⟨rfl, C0, hC0, nC0, rfl⟩
  rintro r s ⟨rfl, C, hC, nC, rfl⟩
  refine k_seq ?_
  false_or_by_contra
  refine spec_names (at_ := 10) (by omega) fun L hL nL => ?_
  false_or_by_contra
  refine spec_rows (by omega) h0 fun m rs R => ?_
  refine ⟨_, rfl, ?_⟩
  false_or_by_contra
  refine spec_arrows (by omega) h0 R hC hL nC nL fun b F s' hA hG => ?_
  have m3 := R.m3
  have l4 := R.l4
  false_or_by_contra
  refine ⟨rs.length, rfl, by omega, ?_⟩
  refine for_range (fun k ρ s => AtF b m F s ∧ ∃ (cs : List Chn) (x8 x9 : Slot), ρ = [.val (.lst (ds.map D.int)), .val (.lst (txD P)), .val (.lst (txD C)), .val (.lst (txD L)), .val (.int m), .val (.lst (rs.map rrD)), .val (lyD b m), .own (cs.map Chn.d), x8, x9, .no, .no, .no, .no] ∧ cs.length = k ∧ ChR P C rs cs) ?_ ⟨hA, [], _, _, rfl, rfl, fun i c h => by simp at h⟩ ?_
  · rintro k ρ s hk ⟨hA, cs, x8, x9, rfl, hcl, hcs⟩
    obtain ⟨r, hr⟩ : ∃ r, rs[k]? = some r := ⟨_, List.getElem?_eq_getElem hk⟩
    have hro := R.ok r (List.mem_of_getElem? hr)
    obtain ⟨c, hc⟩ : ∃ c, C[k]? = some c := ⟨_, List.getElem?_eq_getElem (by omega)⟩
    obtain ⟨y1, hy1⟩ : ∃ c, P[r.s]? = some c := ⟨_, List.getElem?_eq_getElem (by omega)⟩
    obtain ⟨y2, hy2⟩ : ∃ c, P[r.t]? = some c := ⟨_, List.getElem?_eq_getElem (by omega)⟩
    refine ⟨_, rfl, ?_⟩
    false_or_by_contra
    refine rr_2 ?_
    false_or_by_contra
    refine w_ixML (i := 30) h30 ?_
    false_or_by_contra
    refine spec_form hro.2.2.2 (by omega) fun f t => ?_
    false_or_by_contra
    refine w_tx hc ?_
    false_or_by_contra
    refine rr_0 ?_
    refine w_tx hy1 ?_
    false_or_by_contra
    refine rr_1 ?_
    refine w_tx hy2 ?_
    false_or_by_contra
    refine ⟨small3 (by rw [List.length_map]; omega), ?_⟩
    rw [show cs.map Chn.d ++ [D.tup [.str c.x, .str y1.x, .str y2.x, .str f.s]] = (cs ++ [(⟨c, y1, y2, f⟩ : Chn)]).map Chn.d by rw [List.map_append]; rfl]
    refine .inl ⟨rfl, hA.ext t, cs ++ [(⟨c, y1, y2, f⟩ : Chn)], _, _, rfl, by rw [List.length_append, hcl]; rfl, fun i x hx => ?_⟩
    by_cases hi : i < cs.length
    · rw [List.getElem?_append_left hi] at hx
      exact hcs i x hx
    · have hi2 : i = k := by
        have := (List.getElem?_eq_some_iff.mp hx).1
        rw [List.length_append, List.length_singleton] at this
        omega
      subst hi2
      rw [List.getElem?_append_right (by omega), hcl, Nat.sub_self] at hx
      obtain rfl := Option.some.inj hx
      exact ⟨r, hr, hc, hy1, hy2⟩
  · rintro ρ s ⟨hA, cs, x8, x9, rfl, hcl, hcs⟩
    false_or_by_contra
    refine ⟨m, rfl, by omega, ?_⟩
    refine for_range (fun k ρ s => AtF b m F s ∧ ∃ (ps : List Prt) (x11 x12 : Slot), ρ = [.val (.lst (ds.map D.int)), .val (.lst (txD P)), .val (.lst (txD C)), .val (.lst (txD L)), .val (.int m), .val (.lst (rs.map rrD)), .val (lyD b m), .own (cs.map Chn.d), x8, x9, .own (ps.map Prt.d), x11, x12, .no] ∧ ps.length = k ∧ PtR P F ps) ?_ ⟨hA, [], _, _, rfl, rfl, fun i c h => by simp at h⟩ ?_
    · rintro k ρ s hk ⟨hA, ps, x11, x12, rfl, hpl, hps⟩
      obtain ⟨d, hd⟩ : ∃ a, ds[31 + k]? = some a := ⟨_, List.getElem?_eq_getElem (by omega)⟩
      obtain ⟨y1, hy1⟩ : ∃ c, P[k]? = some c := ⟨_, List.getElem?_eq_getElem (by omega)⟩
      have hAk := hA k hk
      refine ⟨_, rfl, ?_⟩
      false_or_by_contra
      refine ⟨4, rfl, by decide, ?_⟩
      refine lc_fm (fun (i : Nat) => D.int i) (fun i => decide (d / 2 ^ i % 2 = 1)) (fun (i : Nat) => D.int i) (List.range 4) (fun i hi => ⟨_, rfl, fun T hT => ?_, fun _ Q hQ => ?_⟩) ?_
      · obtain ⟨hv, hv1, hv2⟩ := pw8 (List.mem_range.mp hi)
        false_or_by_contra
        refine w_ixML (i := 31 + k) hd ?_
        false_or_by_contra
        refine w_ixT hv ?_
        refine w_int2 (decide_eq_true ⟨hv1, hv2⟩) ?_
        false_or_by_contra
        exact hT
      · false_or_by_contra
        exact hQ
      rw [show ((List.range 4).filter fun i => decide (d / 2 ^ i % 2 = 1)).map (fun (i : Nat) => D.int i) = (((List.range 4).filter fun i => decide (d / 2 ^ i % 2 = 1)).map fun (i : Nat) => (i : Int)).map D.int by rw [List.map_map]; rfl]
      generalize ((List.range 4).filter fun i => decide (d / 2 ^ i % 2 = 1)).map (fun (i : Nat) => (i : Int)) = es
      false_or_by_contra
      refine w_tx hy1 ?_
      false_or_by_contra
      refine w_ly hk ?_
      false_or_by_contra
      refine ⟨small3 (by rw [List.length_map]; omega), ?_⟩
      rw [show ps.map Prt.d ++ [D.tup [.str y1.x, .tup (es.map D.int), .tup ((F k).map Arw.d)]] = (ps ++ [(⟨y1, es, F k⟩ : Prt)]).map Prt.d by rw [List.map_append]; rfl]
      refine .inl ⟨rfl, hA, ps ++ [(⟨y1, es, F k⟩ : Prt)], _, _, rfl, by rw [List.length_append, hpl]; rfl, fun i x hx => ?_⟩
      by_cases hi : i < ps.length
      · rw [List.getElem?_append_left hi] at hx
        exact hps i x hx
      · have hi2 : i = k := by
          have := (List.getElem?_eq_some_iff.mp hx).1
          rw [List.length_append, List.length_singleton] at this
          omega
        subst hi2
        rw [List.getElem?_append_right (by omega), hpl, Nat.sub_self] at hx
        obtain rfl := Option.some.inj hx
        exact ⟨hy1, rfl⟩
    · rintro ρ s ⟨hA, ps, x11, x12, rfl, hpl, hps⟩
      false_or_by_contra
      refine w_ssetY (by omega) fun po p1 p2 p3 => ?_
      false_or_by_contra
      refine w_ssetC (by omega) fun co c1 c2 c3 => ?_
      false_or_by_contra
      exact q ⟨po, co⟩ s (prog_ok R nP nC hG hpl hcl hps hcs p1 p2 p3 c1 c2 c3)
end
end LK
set_option linter.all false
set_option maxRecDepth 100000
set_option maxHeartbeats 4000000
/-! S29 (k18): the law. -/
namespace LK
open PySem PySem.Spec L2 PL RN
theorem hd_shp (f : Fm) (L : List Nm) : Shp 1 (hdD f L) := by
  unfold hdD
  refine shp_tup fun x hx => ?_
  split at hx
  · obtain ⟨t, ht, rfl⟩ := List.mem_map.mp hx
    rw [mem_uniqS] at ht
    obtain ⟨n, _, rfl⟩ := List.mem_map.mp ht
    exact nm_shp n
  · unfold txD at hx
    obtain ⟨t, ht, rfl⟩ := List.mem_map.mp hx
    obtain ⟨n, _, rfl⟩ := List.mem_map.mp ht
    exact nm_shp n
theorem tx_shpT (L : List Nm) : Shp 1 (.tup (txD L)) := shp_tup fun x hx => by
  unfold txD at hx
  obtain ⟨t, ht, rfl⟩ := List.mem_map.mp hx
  obtain ⟨n, _, rfl⟩ := List.mem_map.mp ht
  exact nm_shp n
theorem ints_shp (L : List Int) : Shp 1 (.tup (L.map D.int)) := shp_tup fun x hx => by
  obtain ⟨n, _, rfl⟩ := List.mem_map.mp hx
  exact shp_int
theorem eqv_self {n : Nat} {d : D} (h : Shp n d) : d.eqv d = true := SeqAt.eqv_refl _ h.can
section
variable {Q : D → Sto → Prop} {st : Sto}
theorem w_neSelf {n : Nat} {d : D} (h : Shp n d) (hs : d.shp = true) (k : Q (.bl false) st) : wp (neM d d) Q st := w_ne hs hs (by rw [eqv_self h]; exact k)
theorem bools_true : ∀ {ds : List D}, (∀ d ∈ ds, d = .bl true) → ∃ bs, bools ds = some bs ∧ bs.all id = true
  | [], _ => ⟨[], rfl, rfl⟩
  | d :: ds, h => by
    obtain ⟨bs, e, hb⟩ := bools_true fun z hz => h z (List.mem_cons_of_mem _ hz)
    have hd := h d List.mem_cons_self
    subst hd
    exact ⟨true :: bs, by unfold bools; rw [e]; rfl, by simp at hb ⊢; exact hb⟩
theorem w_allT {ds : List D} {R : D → Sto → Prop} (h : ∀ d ∈ ds, d = .bl true) (k : R (.bl true) st) : wp (allM (.lst ds)) R st := by
  obtain ⟨bs, e, hb⟩ := bools_true h
  show wp ((opt (bools ds)).bind fun bs => PL.bl (bs.all id)) R st
  rw [wp_bind, e, wp_some, hb]
  exact ⟨k⟩
theorem spec_lis {i : Int} (k : Q (.bl true) st) : wp (m__law_is_integer [.int i]) Q st := by
  refine w_run' [.val (.int i)] rfl ?_
  unfold s__law_is_integer
  norm_cast0
  exact k
theorem law_wp (ns : List Int) (hn : ns.length ≤ 63) : wp (m_law [.frz (ns.map D.int)]) (fun d _ => d = .bl true) st := by
  refine w_run' [.val (.frz (ns.map D.int)), .no, .no, .no, .no, .no, .no, .no, .no, .no] rfl ?_
  unfold s_law
  false_or_by_contra
  refine spec_draws ns 60 (by decide) hn fun ds hdl hdd => ?_
  false_or_by_contra
  refine spec_program hdl fun p s o => ?_
  false_or_by_contra
  refine spec_walk (at_ := 35) (many := 10) o (by omega) (by omega) (by decide) fun xs s1 W hx => ?_
  false_or_by_contra
  refine ⟨xs.length + 1, rfl, by omega, ?_⟩
  refine for_range (fun m ρ s => ∃ x4 x5 x6 x7 x8 x9, ρ = [.val (.frz (ns.map D.int)), .val (.lst (ds.map D.int)), .val p.d, .val (.lst (xs.map (partD p))), x4, x5, x6, x7, x8, x9]) ?_ ⟨_, _, _, _, _, _, rfl⟩ ?_
  · rintro m ρ s hm ⟨x4, x5, x6, x7, x8, x9, rfl⟩
    have W' := walk_take m W
    have hwl := walk_len W'
    have hml : (xs.take m).flatten.length ≤ 20 := by rw [List.length_take] at hwl; omega
    obtain ⟨hR, hC⟩ := walk_run o (by unfold ly0; simp) (fun j ch L h1 _ h3 => by
      unfold ly0 at h3
      rw [List.getElem?_map, h1] at h3
      exact (Option.some.inj h3).symm) W'
    have hcl := fun ch => cont_len o hR ch
    have hcc := cont_call o hR hC
    have hev := run_evs hR
    refine ⟨_, rfl, ?_⟩
    false_or_by_contra
    rw [show cutD (xs.map (partD p)) none (some (m : Int)) = (xs.take m).map (partD p) by
      unfold cutD
      rw [HT.sIx_nat, HT.sIx_none, List.length_map, Nat.min_eq_left (by omega), List.drop_zero, Nat.sub_zero, List.map_take]]
    refine spec_joined (by omega) ?_
    generalize (xs.take m).flatten = es at hml hR hC hcl hcc hev
    false_or_by_contra
    refine spec_law_places o hev ?_
    false_or_by_contra
    refine spec_law_contents o hR (by omega) ?_
    false_or_by_contra
    refine spec_places o hR (by omega) fun s2 => ?_
    false_or_by_contra
    refine w_neSelf (ints_shp _) (ints_shp _).shp ?_
    false_or_by_contra
    refine lc_mp D.int (fun _ => D.bl true) (plA p es) (fun z hz => ⟨_, rfl, fun Q hQ => ?_⟩) ?_
    · false_or_by_contra
      refine spec_lis ?_
      exact hQ
    refine w_allT (fun d hd => by obtain ⟨_, _, rfl⟩ := List.mem_map.mp hd; rfl) ?_
    false_or_by_contra
    refine spec_contents o hR (by omega) fun s3 => ?_
    false_or_by_contra
    refine w_neSelf (n := 2) (shp_tup fun x hx => by obtain ⟨ch, _, rfl⟩ := List.mem_map.mp hx; exact tx_shpT _) (shp_tup fun x hx => by obtain ⟨ch, _, rfl⟩ := List.mem_map.mp hx; exact tx_shpT _).shp ?_
    false_or_by_contra
    refine spec_stand o hR (by omega) (fun ch _ => by have := hcl ch; omega) fun s4 => ?_
    false_or_by_contra
    refine spec_law_heads o hcc (fun ch _ => by have := hcl ch; omega) ?_
    have hsh : Shp 3 (D.tup [.tup ((plA p es).map D.int), .tup (p.cs.map fun ch => hdD ch.f (cont p es ch))]) := shp_tup fun x hx => by
      simp only [List.mem_cons, List.not_mem_nil, or_false] at hx
      rcases hx with rfl | rfl
      · exact (ints_shp _).mono
      · exact shp_tup fun x hx => by obtain ⟨ch, _, rfl⟩ := List.mem_map.mp hx; exact hd_shp _ _
    false_or_by_contra
    refine w_neSelf hsh hsh.shp ?_
    false_or_by_contra
    refine lc_mp D.int (fun _ => D.bl true) (plA p es) (fun z hz => ⟨_, rfl, fun Q hQ => ?_⟩) ?_
    · false_or_by_contra
      refine spec_lis ?_
      exact hQ
    refine w_allT (fun d hd => by obtain ⟨_, _, rfl⟩ := List.mem_map.mp hd; rfl) ?_
    false_or_by_contra
    exact .inl ⟨rfl, _, _, _, _, _, _, rfl⟩
  · rintro ρ s ⟨x4, x5, x6, x7, x8, x9, rfl⟩
    false_or_by_contra
    rfl
theorem law_ok : ∀ ns : List Int, ns.length ≤ 63 → ∃ st, m_law [.frz (ns.map D.int)] [] = .ok (.bl true) st := fun ns h => by
  obtain ⟨a, s, e, rfl⟩ := wp_ok (law_wp (st := []) ns h)
  exact ⟨s, e⟩
end
end LK
set_option linter.all false
set_option maxRecDepth 100000
set_option maxHeartbeats 4000000
namespace LK
open PySem PySem.Spec L2 PL
theorem all_mk {P : Program} {w : World} {K : PySem.W.Frag} {h : Heap} {mg : Str → Option Value} {fa : Addr} (X : K.In h) (N : h.Ns mainGlobals mg) (hfa : mg "law" = some (.ref fa))
    {eC0 eI0 : Addr} {eoc0 ekv0 edc0 epm0 ecd0 ect0 : Value} {eod0 ean0 : Option Addr} {esl0 : Array (Option Value)}
    {f0 : Addr} {oc0 : Value} {od0 an0 : Option Addr} {sl0 : Array (Option Value)} {kv0 dc0 pm0 cd0 ct0 : Value}
    {f1 : Addr} {oc1 : Value} {od1 an1 : Option Addr} {sl1 : Array (Option Value)} {kv1 dc1 pm1 cd1 ct1 : Value}
    {f2 : Addr} {oc2 : Value} {od2 an2 : Option Addr} {sl2 : Array (Option Value)} {kv2 dc2 pm2 cd2 ct2 : Value}
    {f3 : Addr} {oc3 : Value} {od3 an3 : Option Addr} {sl3 : Array (Option Value)} {kv3 dc3 pm3 cd3 ct3 : Value}
    {f4 : Addr} {oc4 : Value} {od4 an4 : Option Addr} {sl4 : Array (Option Value)} {kv4 dc4 pm4 cd4 ct4 : Value}
    {f5 : Addr} {oc5 : Value} {od5 an5 : Option Addr} {sl5 : Array (Option Value)} {kv5 dc5 pm5 cd5 ct5 : Value}
    {f6 : Addr} {oc6 : Value} {od6 an6 : Option Addr} {sl6 : Array (Option Value)} {kv6 dc6 pm6 cd6 ct6 : Value}
    {f7 : Addr} {oc7 : Value} {od7 an7 : Option Addr} {sl7 : Array (Option Value)} {kv7 dc7 pm7 cd7 ct7 : Value}
    {f8 : Addr} {oc8 : Value} {od8 an8 : Option Addr} {sl8 : Array (Option Value)} {kv8 dc8 pm8 cd8 ct8 : Value}
    {f9 : Addr} {oc9 : Value} {od9 an9 : Option Addr} {sl9 : Array (Option Value)} {kv9 dc9 pm9 cd9 ct9 : Value}
    {f10 : Addr} {oc10 : Value} {od10 an10 : Option Addr} {sl10 : Array (Option Value)} {kv10 dc10 pm10 cd10 ct10 : Value}
    {f11 : Addr} {oc11 : Value} {od11 an11 : Option Addr} {sl11 : Array (Option Value)} {kv11 dc11 pm11 cd11 ct11 : Value}
    {f12 : Addr} {oc12 : Value} {od12 an12 : Option Addr} {sl12 : Array (Option Value)} {kv12 dc12 pm12 cd12 ct12 : Value}
    {f13 : Addr} {oc13 : Value} {od13 an13 : Option Addr} {sl13 : Array (Option Value)} {kv13 dc13 pm13 cd13 ct13 : Value}
    {f14 : Addr} {oc14 : Value} {od14 an14 : Option Addr} {sl14 : Array (Option Value)} {kv14 dc14 pm14 cd14 ct14 : Value}
    {f15 : Addr} {oc15 : Value} {od15 an15 : Option Addr} {sl15 : Array (Option Value)} {kv15 dc15 pm15 cd15 ct15 : Value}
    {f16 : Addr} {oc16 : Value} {od16 an16 : Option Addr} {sl16 : Array (Option Value)} {kv16 dc16 pm16 cd16 ct16 : Value}
    {f17 : Addr} {oc17 : Value} {od17 an17 : Option Addr} {sl17 : Array (Option Value)} {kv17 dc17 pm17 cd17 ct17 : Value}
    {f18 : Addr} {oc18 : Value} {od18 an18 : Option Addr} {sl18 : Array (Option Value)} {kv18 dc18 pm18 cd18 ct18 : Value}
    {f19 : Addr} {oc19 : Value} {od19 an19 : Option Addr} {sl19 : Array (Option Value)} {kv19 dc19 pm19 cd19 ct19 : Value}
    {f20 : Addr} {oc20 : Value} {od20 an20 : Option Addr} {sl20 : Array (Option Value)} {kv20 dc20 pm20 cd20 ct20 : Value}
    {f21 : Addr} {oc21 : Value} {od21 an21 : Option Addr} {sl21 : Array (Option Value)} {kv21 dc21 pm21 cd21 ct21 : Value}
    {f22 : Addr} {oc22 : Value} {od22 an22 : Option Addr} {sl22 : Array (Option Value)} {kv22 dc22 pm22 cd22 ct22 : Value}
    {f23 : Addr} {oc23 : Value} {od23 an23 : Option Addr} {sl23 : Array (Option Value)} {kv23 dc23 pm23 cd23 ct23 : Value}
    {f24 : Addr} {oc24 : Value} {od24 an24 : Option Addr} {sl24 : Array (Option Value)} {kv24 dc24 pm24 cd24 ct24 : Value}
    {f25 : Addr} {oc25 : Value} {od25 an25 : Option Addr} {sl25 : Array (Option Value)} {kv25 dc25 pm25 cd25 ct25 : Value}
    {f26 : Addr} {oc26 : Value} {od26 an26 : Option Addr} {sl26 : Array (Option Value)} {kv26 dc26 pm26 cd26 ct26 : Value}
    {f27 : Addr} {oc27 : Value} {od27 an27 : Option Addr} {sl27 : Array (Option Value)} {kv27 dc27 pm27 cd27 ct27 : Value}
    {f28 : Addr} {oc28 : Value} {od28 an28 : Option Addr} {sl28 : Array (Option Value)} {kv28 dc28 pm28 cd28 ct28 : Value}
    {f29 : Addr} {oc29 : Value} {od29 an29 : Option Addr} {sl29 : Array (Option Value)} {kv29 dc29 pm29 cd29 ct29 : Value}
    {f30 : Addr} {oc30 : Value} {od30 an30 : Option Addr} {sl30 : Array (Option Value)} {kv30 dc30 pm30 cd30 ct30 : Value}
    {f31 : Addr} {oc31 : Value} {od31 an31 : Option Addr} {sl31 : Array (Option Value)} {kv31 dc31 pm31 cd31 ct31 : Value}
    {f32 : Addr} {oc32 : Value} {od32 an32 : Option Addr} {sl32 : Array (Option Value)} {kv32 dc32 pm32 cd32 ct32 : Value}
    {f33 : Addr} {oc33 : Value} {od33 an33 : Option Addr} {sl33 : Array (Option Value)} {kv33 dc33 pm33 cd33 ct33 : Value}
    {f34 : Addr} {oc34 : Value} {od34 an34 : Option Addr} {sl34 : Array (Option Value)} {kv34 dc34 pm34 cd34 ct34 : Value}
    {f35 : Addr} {oc35 : Value} {od35 an35 : Option Addr} {sl35 : Array (Option Value)} {kv35 dc35 pm35 cd35 ct35 : Value}
    {f36 : Addr} {oc36 : Value} {od36 an36 : Option Addr} {sl36 : Array (Option Value)} {kv36 dc36 pm36 cd36 ct36 : Value}
    {f37 : Addr} {oc37 : Value} {od37 an37 : Option Addr} {sl37 : Array (Option Value)} {kv37 dc37 pm37 cd37 ct37 : Value}
    {f38 : Addr} {oc38 : Value} {od38 an38 : Option Addr} {sl38 : Array (Option Value)} {kv38 dc38 pm38 cd38 ct38 : Value}
    {f39 : Addr} {oc39 : Value} {od39 an39 : Option Addr} {sl39 : Array (Option Value)} {kv39 dc39 pm39 cd39 ct39 : Value}
    {f40 : Addr} {oc40 : Value} {od40 an40 : Option Addr} {sl40 : Array (Option Value)} {kv40 dc40 pm40 cd40 ct40 : Value}
    {f41 : Addr} {oc41 : Value} {od41 an41 : Option Addr} {sl41 : Array (Option Value)} {kv41 dc41 pm41 cd41 ct41 : Value}
    (xa0 : PySem.W.nsIn K mainGlobals "InvalidPaper" = some (some (.ref eC0)))
    (xT0 : OexC K eC0)
    (xi0 : PySem.W.findIn K (.ref eC0) "__init__" = some (some (.ref eI0)))
    (xt0 : PySem.W.typeIn K (.ref eI0) = some (.type "function"))
    (xl0 : K.lookup eI0 = some ⟨eoc0, eod0, .func (PySem.W.fnOf "__init__" "InvalidPaper.__init__" (defArgs (L2.inClass (topS 4) 0)) (defBody (L2.inClass (topS 4) 0)) (defScope (L2.inClass (topS 4) 0)) .none ekv0 edc0 epm0 ean0 ecd0 ect0), esl0⟩)
    (xc0 : PySem.W.codeIn K ecd0 "InvalidPaper.__init__" = true)
    (xk0 : PySem.W.keepIn K (.ref eI0) = true)
    (xf0 : PySem.W.findIn K (.ref eC0) "word" = some none)
    (xg0 : PySem.W.findIn K (.ref eC0) "at" = some none)
    (xga0 : PySem.W.findIn K (.ref eC0) "__getattribute__" = some (some (.builtin "BaseException.__getattribute__")))
    (xgg0 : PySem.W.findIn K (.ref eC0) "__getattr__" = some none)
    (xhd0 : PySem.W.hasDictIn K eC0 = true)
    (xex0 : PySem.W.exmOne K (.ref eC0) (.ref eC0) = some true)
    (a0 : PySem.W.nsIn K mainGlobals "is_integer" = some (some (.ref f0)))
    (l0 : K.lookup f0 = some ⟨oc0, od0, .func (PySem.W.fnOf "is_integer" "is_integer" (defArgs (topS 7)) (defBody (topS 7)) (defScope (topS 7)) .none kv0 dc0 pm0 an0 cd0 ct0), sl0⟩)
    (c0 : PySem.W.codeIn K cd0 "is_integer" = true)
    (k0 : PySem.W.keepIn K (.ref f0) = true)
    (a1 : PySem.W.nsIn K mainGlobals "is_number" = some (some (.ref f1)))
    (l1 : K.lookup f1 = some ⟨oc1, od1, .func (PySem.W.fnOf "is_number" "is_number" (defArgs (topS 8)) (defBody (topS 8)) (defScope (topS 8)) .none kv1 dc1 pm1 an1 cd1 ct1), sl1⟩)
    (c1 : PySem.W.codeIn K cd1 "is_number" = true)
    (k1 : PySem.W.keepIn K (.ref f1) = true)
    (a2 : PySem.W.nsIn K mainGlobals "is_row" = some (some (.ref f2)))
    (l2 : K.lookup f2 = some ⟨oc2, od2, .func (PySem.W.fnOf "is_row" "is_row" (defArgs (topS 9)) (defBody (topS 9)) (defScope (topS 9)) .none kv2 dc2 pm2 an2 cd2 ct2), sl2⟩)
    (c2 : PySem.W.codeIn K cd2 "is_row" = true)
    (k2 : PySem.W.keepIn K (.ref f2) = true)
    (a3 : PySem.W.nsIn K mainGlobals "find_party" = some (some (.ref f3)))
    (l3 : K.lookup f3 = some ⟨oc3, od3, .func (PySem.W.fnOf "find_party" "find_party" (defArgs (topS 11)) (defBody (topS 11)) (defScope (topS 11)) .none kv3 dc3 pm3 an3 cd3 ct3), sl3⟩)
    (c3 : PySem.W.codeIn K cd3 "find_party" = true)
    (k3 : PySem.W.keepIn K (.ref f3) = true)
    (a4 : PySem.W.nsIn K mainGlobals "find_channel" = some (some (.ref f4)))
    (l4 : K.lookup f4 = some ⟨oc4, od4, .func (PySem.W.fnOf "find_channel" "find_channel" (defArgs (topS 12)) (defBody (topS 12)) (defScope (topS 12)) .none kv4 dc4 pm4 an4 cd4 ct4), sl4⟩)
    (c4 : PySem.W.codeIn K cd4 "find_channel" = true)
    (k4 : PySem.W.keepIn K (.ref f4) = true)
    (a5 : PySem.W.nsIn K mainGlobals "is_index" = some (some (.ref f5)))
    (l5 : K.lookup f5 = some ⟨oc5, od5, .func (PySem.W.fnOf "is_index" "is_index" (defArgs (topS 14)) (defBody (topS 14)) (defScope (topS 14)) .none kv5 dc5 pm5 an5 cd5 ct5), sl5⟩)
    (c5 : PySem.W.codeIn K cd5 "is_index" = true)
    (k5 : PySem.W.keepIn K (.ref f5) = true)
    (a6 : PySem.W.nsIn K mainGlobals "letter_to_take" = some (some (.ref f6)))
    (l6 : K.lookup f6 = some ⟨oc6, od6, .func (PySem.W.fnOf "letter_to_take" "letter_to_take" (defArgs (topS 22)) (defBody (topS 22)) (defScope (topS 22)) .none kv6 dc6 pm6 an6 cd6 ct6), sl6⟩)
    (c6 : PySem.W.codeIn K cd6 "letter_to_take" = true)
    (k6 : PySem.W.keepIn K (.ref f6) = true)
    (a7 : PySem.W.nsIn K mainGlobals "is_call" = some (some (.ref f7)))
    (l7 : K.lookup f7 = some ⟨oc7, od7, .func (PySem.W.fnOf "is_call" "is_call" (defArgs (topS 23)) (defBody (topS 23)) (defScope (topS 23)) .none kv7 dc7 pm7 an7 cd7 ct7), sl7⟩)
    (c7 : PySem.W.codeIn K cd7 "is_call" = true)
    (k7 : PySem.W.keepIn K (.ref f7) = true)
    (a8 : PySem.W.nsIn K mainGlobals "_contents_of" = some (some (.ref f8)))
    (l8 : K.lookup f8 = some ⟨oc8, od8, .func (PySem.W.fnOf "_contents_of" "_contents_of" (defArgs (topS 25)) (defBody (topS 25)) (defScope (topS 25)) .none kv8 dc8 pm8 an8 cd8 ct8), sl8⟩)
    (c8 : PySem.W.codeIn K cd8 "_contents_of" = true)
    (k8 : PySem.W.keepIn K (.ref f8) = true)
    (a9 : PySem.W.nsIn K mainGlobals "head_of" = some (some (.ref f9)))
    (l9 : K.lookup f9 = some ⟨oc9, od9, .func (PySem.W.fnOf "head_of" "head_of" (defArgs (topS 26)) (defBody (topS 26)) (defScope (topS 26)) .none kv9 dc9 pm9 an9 cd9 ct9), sl9⟩)
    (c9 : PySem.W.codeIn K cd9 "head_of" = true)
    (k9 : PySem.W.keepIn K (.ref f9) = true)
    (a10 : PySem.W.nsIn K mainGlobals "_law_mixed" = some (some (.ref f10)))
    (l10 : K.lookup f10 = some ⟨oc10, od10, .func (PySem.W.fnOf "_law_mixed" "_law_mixed" (defArgs (topS 28)) (defBody (topS 28)) (defScope (topS 28)) .none kv10 dc10 pm10 an10 cd10 ct10), sl10⟩)
    (c10 : PySem.W.codeIn K cd10 "_law_mixed" = true)
    (k10 : PySem.W.keepIn K (.ref f10) = true)
    (a11 : PySem.W.nsIn K mainGlobals "_law_draws" = some (some (.ref f11)))
    (l11 : K.lookup f11 = some ⟨oc11, od11, .func (PySem.W.fnOf "_law_draws" "_law_draws" (defArgs (topS 29)) (defBody (topS 29)) (defScope (topS 29)) .none kv11 dc11 pm11 an11 cd11 ct11), sl11⟩)
    (c11 : PySem.W.codeIn K cd11 "_law_draws" = true)
    (k11 : PySem.W.keepIn K (.ref f11) = true)
    (a12 : PySem.W.nsIn K mainGlobals "_law_names" = some (some (.ref f12)))
    (l12 : K.lookup f12 = some ⟨oc12, od12, .func (PySem.W.fnOf "_law_names" "_law_names" (defArgs (topS 30)) (defBody (topS 30)) (defScope (topS 30)) .none kv12 dc12 pm12 an12 cd12 ct12), sl12⟩)
    (c12 : PySem.W.codeIn K cd12 "_law_names" = true)
    (k12 : PySem.W.keepIn K (.ref f12) = true)
    (a13 : PySem.W.nsIn K mainGlobals "_law_scene" = some (some (.ref f13)))
    (l13 : K.lookup f13 = some ⟨oc13, od13, .func (PySem.W.fnOf "_law_scene" "_law_scene" (defArgs (topS 31)) (defBody (topS 31)) (defScope (topS 31)) .none kv13 dc13 pm13 an13 cd13 ct13), sl13⟩)
    (c13 : PySem.W.codeIn K cd13 "_law_scene" = true)
    (k13 : PySem.W.keepIn K (.ref f13) = true)
    (a14 : PySem.W.nsIn K mainGlobals "_law_rows" = some (some (.ref f14)))
    (l14 : K.lookup f14 = some ⟨oc14, od14, .func (PySem.W.fnOf "_law_rows" "_law_rows" (defArgs (topS 32)) (defBody (topS 32)) (defScope (topS 32)) .none kv14 dc14 pm14 an14 cd14 ct14), sl14⟩)
    (c14 : PySem.W.codeIn K cd14 "_law_rows" = true)
    (k14 : PySem.W.keepIn K (.ref f14) = true)
    (a15 : PySem.W.nsIn K mainGlobals "_law_doings" = some (some (.ref f15)))
    (l15 : K.lookup f15 = some ⟨oc15, od15, .func (PySem.W.fnOf "_law_doings" "_law_doings" (defArgs (topS 33)) (defBody (topS 33)) (defScope (topS 33)) .none kv15 dc15 pm15 an15 cd15 ct15), sl15⟩)
    (c15 : PySem.W.codeIn K cd15 "_law_doings" = true)
    (k15 : PySem.W.keepIn K (.ref f15) = true)
    (a16 : PySem.W.nsIn K mainGlobals "_law_arrows" = some (some (.ref f16)))
    (l16 : K.lookup f16 = some ⟨oc16, od16, .func (PySem.W.fnOf "_law_arrows" "_law_arrows" (defArgs (topS 34)) (defBody (topS 34)) (defScope (topS 34)) .none kv16 dc16 pm16 an16 cd16 ct16), sl16⟩)
    (c16 : PySem.W.codeIn K cd16 "_law_arrows" = true)
    (k16 : PySem.W.keepIn K (.ref f16) = true)
    (a17 : PySem.W.nsIn K mainGlobals "_law_form" = some (some (.ref f17)))
    (l17 : K.lookup f17 = some ⟨oc17, od17, .func (PySem.W.fnOf "_law_form" "_law_form" (defArgs (topS 35)) (defBody (topS 35)) (defScope (topS 35)) .none kv17 dc17 pm17 an17 cd17 ct17), sl17⟩)
    (c17 : PySem.W.codeIn K cd17 "_law_form" = true)
    (k17 : PySem.W.keepIn K (.ref f17) = true)
    (a18 : PySem.W.nsIn K mainGlobals "_law_program" = some (some (.ref f18)))
    (l18 : K.lookup f18 = some ⟨oc18, od18, .func (PySem.W.fnOf "_law_program" "_law_program" (defArgs (topS 36)) (defBody (topS 36)) (defScope (topS 36)) .none kv18 dc18 pm18 an18 cd18 ct18), sl18⟩)
    (c18 : PySem.W.codeIn K cd18 "_law_program" = true)
    (k18 : PySem.W.keepIn K (.ref f18) = true)
    (a19 : PySem.W.nsIn K mainGlobals "_law_arrow_of" = some (some (.ref f19)))
    (l19 : K.lookup f19 = some ⟨oc19, od19, .func (PySem.W.fnOf "_law_arrow_of" "_law_arrow_of" (defArgs (topS 37)) (defBody (topS 37)) (defScope (topS 37)) .none kv19 dc19 pm19 an19 cd19 ct19), sl19⟩)
    (c19 : PySem.W.codeIn K cd19 "_law_arrow_of" = true)
    (k19 : PySem.W.keepIn K (.ref f19) = true)
    (a20 : PySem.W.nsIn K mainGlobals "_law_doing" = some (some (.ref f20)))
    (l20 : K.lookup f20 = some ⟨oc20, od20, .func (PySem.W.fnOf "_law_doing" "_law_doing" (defArgs (topS 38)) (defBody (topS 38)) (defScope (topS 38)) .none kv20 dc20 pm20 an20 cd20 ct20), sl20⟩)
    (c20 : PySem.W.codeIn K cd20 "_law_doing" = true)
    (k20 : PySem.W.keepIn K (.ref f20) = true)
    (a21 : PySem.W.nsIn K mainGlobals "_law_takes" = some (some (.ref f21)))
    (l21 : K.lookup f21 = some ⟨oc21, od21, .func (PySem.W.fnOf "_law_takes" "_law_takes" (defArgs (topS 39)) (defBody (topS 39)) (defScope (topS 39)) .none kv21 dc21 pm21 an21 cd21 ct21), sl21⟩)
    (c21 : PySem.W.codeIn K cd21 "_law_takes" = true)
    (k21 : PySem.W.keepIn K (.ref f21) = true)
    (a22 : PySem.W.nsIn K mainGlobals "_law_steps_by" = some (some (.ref f22)))
    (l22 : K.lookup f22 = some ⟨oc22, od22, .func (PySem.W.fnOf "_law_steps_by" "_law_steps_by" (defArgs (topS 40)) (defBody (topS 40)) (defScope (topS 40)) .none kv22 dc22 pm22 an22 cd22 ct22), sl22⟩)
    (c22 : PySem.W.codeIn K cd22 "_law_steps_by" = true)
    (k22 : PySem.W.keepIn K (.ref f22) = true)
    (a23 : PySem.W.nsIn K mainGlobals "_law_steps" = some (some (.ref f23)))
    (l23 : K.lookup f23 = some ⟨oc23, od23, .func (PySem.W.fnOf "_law_steps" "_law_steps" (defArgs (topS 41)) (defBody (topS 41)) (defScope (topS 41)) .none kv23 dc23 pm23 an23 cd23 ct23), sl23⟩)
    (c23 : PySem.W.codeIn K cd23 "_law_steps" = true)
    (k23 : PySem.W.keepIn K (.ref f23) = true)
    (a24 : PySem.W.nsIn K mainGlobals "_law_act" = some (some (.ref f24)))
    (l24 : K.lookup f24 = some ⟨oc24, od24, .func (PySem.W.fnOf "_law_act" "_law_act" (defArgs (topS 42)) (defBody (topS 42)) (defScope (topS 42)) .none kv24 dc24 pm24 an24 cd24 ct24), sl24⟩)
    (c24 : PySem.W.codeIn K cd24 "_law_act" = true)
    (k24 : PySem.W.keepIn K (.ref f24) = true)
    (a25 : PySem.W.nsIn K mainGlobals "_law_wished" = some (some (.ref f25)))
    (l25 : K.lookup f25 = some ⟨oc25, od25, .func (PySem.W.fnOf "_law_wished" "_law_wished" (defArgs (topS 43)) (defBody (topS 43)) (defScope (topS 43)) .none kv25 dc25 pm25 an25 cd25 ct25), sl25⟩)
    (c25 : PySem.W.codeIn K cd25 "_law_wished" = true)
    (k25 : PySem.W.keepIn K (.ref f25) = true)
    (a26 : PySem.W.nsIn K mainGlobals "_law_walk" = some (some (.ref f26)))
    (l26 : K.lookup f26 = some ⟨oc26, od26, .func (PySem.W.fnOf "_law_walk" "_law_walk" (defArgs (topS 44)) (defBody (topS 44)) (defScope (topS 44)) .none kv26 dc26 pm26 an26 cd26 ct26), sl26⟩)
    (c26 : PySem.W.codeIn K cd26 "_law_walk" = true)
    (k26 : PySem.W.keepIn K (.ref f26) = true)
    (a27 : PySem.W.nsIn K mainGlobals "_law_joined" = some (some (.ref f27)))
    (l27 : K.lookup f27 = some ⟨oc27, od27, .func (PySem.W.fnOf "_law_joined" "_law_joined" (defArgs (topS 45)) (defBody (topS 45)) (defScope (topS 45)) .none kv27 dc27 pm27 an27 cd27 ct27), sl27⟩)
    (c27 : PySem.W.codeIn K cd27 "_law_joined" = true)
    (k27 : PySem.W.keepIn K (.ref f27) = true)
    (a28 : PySem.W.nsIn K mainGlobals "_law_is_integer" = some (some (.ref f28)))
    (l28 : K.lookup f28 = some ⟨oc28, od28, .func (PySem.W.fnOf "_law_is_integer" "_law_is_integer" (defArgs (topS 46)) (defBody (topS 46)) (defScope (topS 46)) .none kv28 dc28 pm28 an28 cd28 ct28), sl28⟩)
    (c28 : PySem.W.codeIn K cd28 "_law_is_integer" = true)
    (k28 : PySem.W.keepIn K (.ref f28) = true)
    (a29 : PySem.W.nsIn K mainGlobals "_law_places" = some (some (.ref f29)))
    (l29 : K.lookup f29 = some ⟨oc29, od29, .func (PySem.W.fnOf "_law_places" "_law_places" (defArgs (topS 47)) (defBody (topS 47)) (defScope (topS 47)) .none kv29 dc29 pm29 an29 cd29 ct29), sl29⟩)
    (c29 : PySem.W.codeIn K cd29 "_law_places" = true)
    (k29 : PySem.W.keepIn K (.ref f29) = true)
    (a30 : PySem.W.nsIn K mainGlobals "_law_named" = some (some (.ref f30)))
    (l30 : K.lookup f30 = some ⟨oc30, od30, .func (PySem.W.fnOf "_law_named" "_law_named" (defArgs (topS 48)) (defBody (topS 48)) (defScope (topS 48)) .none kv30 dc30 pm30 an30 cd30 ct30), sl30⟩)
    (c30 : PySem.W.codeIn K cd30 "_law_named" = true)
    (k30 : PySem.W.keepIn K (.ref f30) = true)
    (a31 : PySem.W.nsIn K mainGlobals "_law_contents" = some (some (.ref f31)))
    (l31 : K.lookup f31 = some ⟨oc31, od31, .func (PySem.W.fnOf "_law_contents" "_law_contents" (defArgs (topS 49)) (defBody (topS 49)) (defScope (topS 49)) .none kv31 dc31 pm31 an31 cd31 ct31), sl31⟩)
    (c31 : PySem.W.codeIn K cd31 "_law_contents" = true)
    (k31 : PySem.W.keepIn K (.ref f31) = true)
    (a32 : PySem.W.nsIn K mainGlobals "_law_heads" = some (some (.ref f32)))
    (l32 : K.lookup f32 = some ⟨oc32, od32, .func (PySem.W.fnOf "_law_heads" "_law_heads" (defArgs (topS 50)) (defBody (topS 50)) (defScope (topS 50)) .none kv32 dc32 pm32 an32 cd32 ct32), sl32⟩)
    (c32 : PySem.W.codeIn K cd32 "_law_heads" = true)
    (k32 : PySem.W.keepIn K (.ref f32) = true)
    (a33 : PySem.W.nsIn K mainGlobals "find_arrow" = some (some (.ref f33)))
    (l33 : K.lookup f33 = some ⟨oc33, od33, .func (PySem.W.fnOf "find_arrow" "find_arrow" (defArgs (topS 13)) (defBody (topS 13)) (defScope (topS 13)) .none kv33 dc33 pm33 an33 cd33 ct33), sl33⟩)
    (c33 : PySem.W.codeIn K cd33 "find_arrow" = true)
    (k33 : PySem.W.keepIn K (.ref f33) = true)
    (a34 : PySem.W.nsIn K mainGlobals "_is_taken_by" = some (some (.ref f34)))
    (l34 : K.lookup f34 = some ⟨oc34, od34, .func (PySem.W.fnOf "_is_taken_by" "_is_taken_by" (defArgs (topS 21)) (defBody (topS 21)) (defScope (topS 21)) .none kv34 dc34 pm34 an34 cd34 ct34), sl34⟩)
    (c34 : PySem.W.codeIn K cd34 "_is_taken_by" = true)
    (k34 : PySem.W.keepIn K (.ref f34) = true)
    (a35 : PySem.W.nsIn K mainGlobals "_places_after" = some (some (.ref f35)))
    (l35 : K.lookup f35 = some ⟨oc35, od35, .func (PySem.W.fnOf "_places_after" "_places_after" (defArgs (topS 24)) (defBody (topS 24)) (defScope (topS 24)) .none kv35 dc35 pm35 an35 cd35 ct35), sl35⟩)
    (c35 : PySem.W.codeIn K cd35 "_places_after" = true)
    (k35 : PySem.W.keepIn K (.ref f35) = true)
    (a36 : PySem.W.nsIn K mainGlobals "letter_rows" = some (some (.ref f36)))
    (l36 : K.lookup f36 = some ⟨oc36, od36, .func (PySem.W.fnOf "letter_rows" "letter_rows" (defArgs (topS 19)) (defBody (topS 19)) (defScope (topS 19)) .none kv36 dc36 pm36 an36 cd36 ct36), sl36⟩)
    (c36 : PySem.W.codeIn K cd36 "letter_rows" = true)
    (k36 : PySem.W.keepIn K (.ref f36) = true)
    (a37 : PySem.W.nsIn K mainGlobals "rows_of_run" = some (some (.ref f37)))
    (l37 : K.lookup f37 = some ⟨oc37, od37, .func (PySem.W.fnOf "rows_of_run" "rows_of_run" (defArgs (topS 20)) (defBody (topS 20)) (defScope (topS 20)) .none kv37 dc37 pm37 an37 cd37 ct37), sl37⟩)
    (c37 : PySem.W.codeIn K cd37 "rows_of_run" = true)
    (k37 : PySem.W.keepIn K (.ref f37) = true)
    (a38 : PySem.W.nsIn K mainGlobals "places_after" = some (some (.ref f38)))
    (l38 : K.lookup f38 = some ⟨oc38, od38, .func (PySem.W.fnOf "places_after" "places_after" (defArgs (topS 16)) (defBody (topS 16)) (defScope (topS 16)) .none kv38 dc38 pm38 an38 cd38 ct38), sl38⟩)
    (c38 : PySem.W.codeIn K cd38 "places_after" = true)
    (k38 : PySem.W.keepIn K (.ref f38) = true)
    (a39 : PySem.W.nsIn K mainGlobals "contents_of" = some (some (.ref f39)))
    (l39 : K.lookup f39 = some ⟨oc39, od39, .func (PySem.W.fnOf "contents_of" "contents_of" (defArgs (topS 17)) (defBody (topS 17)) (defScope (topS 17)) .none kv39 dc39 pm39 an39 cd39 ct39), sl39⟩)
    (c39 : PySem.W.codeIn K cd39 "contents_of" = true)
    (k39 : PySem.W.keepIn K (.ref f39) = true)
    (a40 : PySem.W.nsIn K mainGlobals "stand_after" = some (some (.ref f40)))
    (l40 : K.lookup f40 = some ⟨oc40, od40, .func (PySem.W.fnOf "stand_after" "stand_after" (defArgs (topS 18)) (defBody (topS 18)) (defScope (topS 18)) .none kv40 dc40 pm40 an40 cd40 ct40), sl40⟩)
    (c40 : PySem.W.codeIn K cd40 "stand_after" = true)
    (k40 : PySem.W.keepIn K (.ref f40) = true)
    (a41 : PySem.W.nsIn K mainGlobals "law" = some (some (.ref f41)))
    (l41 : K.lookup f41 = some ⟨oc41, od41, .func (PySem.W.fnOf "law" "law" (defArgs (topS 51)) (defBody (topS 51)) (defScope (topS 51)) .none kv41 dc41 pm41 an41 cd41 ct41), sl41⟩)
    (c41 : PySem.W.codeIn K cd41 "law" = true)
    (k41 : PySem.W.keepIn K (.ref f41) = true)
    (z_len : PySem.W.nsIn K mainGlobals "len" = some none)
    (z_all : PySem.W.nsIn K mainGlobals "all" = some none)
    (z_any : PySem.W.nsIn K mainGlobals "any" = some none)
    (z_range : PySem.W.nsIn K mainGlobals "range" = some none)
    (z_isinstance : PySem.W.nsIn K mainGlobals "isinstance" = some none)
    (z_int : PySem.W.nsIn K mainGlobals "int" = some none)
    (z_str : PySem.W.nsIn K mainGlobals "str" = some none)
    (z_tuple : PySem.W.nsIn K mainGlobals "tuple" = some none)
    (z_bool : PySem.W.nsIn K mainGlobals "bool" = some none)
    (z_list : PySem.W.nsIn K mainGlobals "list" = some none)
    (z_set : PySem.W.nsIn K mainGlobals "set" = some none)
    (z_sorted : PySem.W.nsIn K mainGlobals "sorted" = some none)
    (z_enumerate : PySem.W.nsIn K mainGlobals "enumerate" = some none)
    (z_sum : PySem.W.nsIn K mainGlobals "sum" = some none)
    (z_abs : PySem.W.nsIn K mainGlobals "abs" = some none)
    (z_zip : PySem.W.nsIn K mainGlobals "zip" = some none) :
    ∃ fd, (∀ (s : Shared) (u : Value), BindsTo s fd ⟨[u], []⟩ [("_law_script", u)]) ∧ ∀ base : Heap, K.In base → base.Ns mainGlobals mg → FnOk P w K mg base (L2.CX P w) 9 fa fd ["_law_script"] (spLaw K) := by
  have hx_InvalidPaper : mg "InvalidPaper" = some (.ref eC0) := PySem.W.mg_of X N xa0
  have x_InvalidPaper : ∀ base : Heap, Xc P w K mg base "InvalidPaper" "word" "at" := fun base => xc_of (qual := "InvalidPaper.__init__") (st := (L2.inClass (topS 4) 0)) X N xT0 xa0 xi0 xt0 xl0 xc0 xk0 xf0 xg0 xga0 xgg0 xhd0 xex0 ⟨rfl, rfl, rfl, by decide +kernel, rfl, by decide +kernel, by decide +kernel⟩ rfl (.inl rfl) (.inl rfl) (.inl rfl) (by decide) (by decide) (by decide) (by decide) fun _ _ _ _ _ _ us hl => match us, hl with | [_, _, _], _ => rfl
  have f_is_integer : Fn0 K mg "is_integer" (topS 7) ["thing"] := fn0_of X N ["thing"] a0 l0 c0 k0 fun _ _ _ _ _ _ us hl => match us, hl with | [_], _ => rfl
  have f_is_number : Fn0 K mg "is_number" (topS 8) ["thing"] := fn0_of X N ["thing"] a1 l1 c1 k1 fun _ _ _ _ _ _ us hl => match us, hl with | [_], _ => rfl
  have f_is_row : Fn0 K mg "is_row" (topS 9) ["thing", "size"] := fn0_of X N ["thing", "size"] a2 l2 c2 k2 fun _ _ _ _ _ _ us hl => match us, hl with | [_, _], _ => rfl
  have f_find_party : Fn0 K mg "find_party" (topS 11) ["program", "name"] := fn0_of X N ["program", "name"] a3 l3 c3 k3 fun _ _ _ _ _ _ us hl => match us, hl with | [_, _], _ => rfl
  have f_find_channel : Fn0 K mg "find_channel" (topS 12) ["program", "name"] := fn0_of X N ["program", "name"] a4 l4 c4 k4 fun _ _ _ _ _ _ us hl => match us, hl with | [_, _], _ => rfl
  have f_is_index : Fn0 K mg "is_index" (topS 14) ["thing", "row"] := fn0_of X N ["thing", "row"] a5 l5 c5 k5 fun _ _ _ _ _ _ us hl => match us, hl with | [_, _], _ => rfl
  have f_letter_to_take : Fn0 K mg "letter_to_take" (topS 22) ["program", "rows", "lying", "doing"] := fn0_of X N ["program", "rows", "lying", "doing"] a6 l6 c6 k6 fun _ _ _ _ _ _ us hl => match us, hl with | [_, _, _, _], _ => rfl
  have f_is_call : Fn0 K mg "is_call" (topS 23) ["program", "name"] := fn0_of X N ["program", "name"] a7 l7 c7 k7 fun _ _ _ _ _ _ us hl => match us, hl with | [_, _], _ => rfl
  have f__contents_of : Fn0 K mg "_contents_of" (topS 25) ["program", "rows"] := fn0_of X N ["program", "rows"] a8 l8 c8 k8 fun _ _ _ _ _ _ us hl => match us, hl with | [_, _], _ => rfl
  have f_head_of : Fn0 K mg "head_of" (topS 26) ["form", "names"] := fn0_of X N ["form", "names"] a9 l9 c9 k9 fun _ _ _ _ _ _ us hl => match us, hl with | [_, _], _ => rfl
  have f__law_mixed : Fn0 K mg "_law_mixed" (topS 28) ["_law_number", "_law_k"] := fn0_of X N ["_law_number", "_law_k"] a10 l10 c10 k10 fun _ _ _ _ _ _ us hl => match us, hl with | [_, _], _ => rfl
  have f__law_draws : Fn0 K mg "_law_draws" (topS 29) ["_law_script", "_law_many"] := fn0_of X N ["_law_script", "_law_many"] a11 l11 c11 k11 fun _ _ _ _ _ _ us hl => match us, hl with | [_, _], _ => rfl
  have f__law_names : Fn0 K mg "_law_names" (topS 30) ["_law_draws_here", "_law_at", "_law_many"] := fn0_of X N ["_law_draws_here", "_law_at", "_law_many"] a12 l12 c12 k12 fun _ _ _ _ _ _ us hl => match us, hl with | [_, _, _], _ => rfl
  have f__law_scene : Fn0 K mg "_law_scene" (topS 31) ["_law_draw"] := fn0_of X N ["_law_draw"] a13 l13 c13 k13 fun _ _ _ _ _ _ us hl => match us, hl with | [_], _ => rfl
  have f__law_rows : Fn0 K mg "_law_rows" (topS 32) ["_law_draws_here"] := fn0_of X N ["_law_draws_here"] a14 l14 c14 k14 fun _ _ _ _ _ _ us hl => match us, hl with | [_], _ => rfl
  have f__law_doings : Fn0 K mg "_law_doings" (topS 33) ["_law_role", "_law_rows_here", "_law_channels", "_law_letters"] := fn0_of X N ["_law_role", "_law_rows_here", "_law_channels", "_law_letters"] a15 l15 c15 k15 fun _ _ _ _ _ _ us hl => match us, hl with | [_, _, _, _], _ => rfl
  have f__law_arrows : Fn0 K mg "_law_arrows" (topS 34) ["_law_draws_here", "_law_many", "_law_rows_here", "_law_channels", "_law_letters"] := fn0_of X N ["_law_draws_here", "_law_many", "_law_rows_here", "_law_channels", "_law_letters"] a16 l16 c16 k16 fun _ _ _ _ _ _ us hl => match us, hl with | [_, _, _, _, _], _ => rfl
  have f__law_form : Fn0 K mg "_law_form" (topS 35) ["_law_mark", "_law_draw", "_law_k"] := fn0_of X N ["_law_mark", "_law_draw", "_law_k"] a17 l17 c17 k17 fun _ _ _ _ _ _ us hl => match us, hl with | [_, _, _], _ => rfl
  have f__law_program : Fn0 K mg "_law_program" (topS 36) ["_law_draws_here"] := fn0_of X N ["_law_draws_here"] a18 l18 c18 k18 fun _ _ _ _ _ _ us hl => match us, hl with | [_], _ => rfl
  have f__law_arrow_of : Fn0 K mg "_law_arrow_of" (topS 37) ["_law_program_here", "_law_event"] := fn0_of X N ["_law_program_here", "_law_event"] a19 l19 c19 k19 fun _ _ _ _ _ _ us hl => match us, hl with | [_, _], _ => rfl
  have f__law_doing : Fn0 K mg "_law_doing" (topS 38) ["_law_program_here", "_law_event"] := fn0_of X N ["_law_program_here", "_law_event"] a20 l20 c20 k20 fun _ _ _ _ _ _ us hl => match us, hl with | [_, _], _ => rfl
  have f__law_takes : Fn0 K mg "_law_takes" (topS 39) ["_law_program_here", "_law_places_here", "_law_channel", "_law_letter"] := fn0_of X N ["_law_program_here", "_law_places_here", "_law_channel", "_law_letter"] a21 l21 c21 k21 fun _ _ _ _ _ _ us hl => match us, hl with | [_, _, _, _], _ => rfl
  have f__law_steps_by : Fn0 K mg "_law_steps_by" (topS 40) ["_law_program_here", "_law_places_here", "_law_lying", "_law_event"] := fn0_of X N ["_law_program_here", "_law_places_here", "_law_lying", "_law_event"] a22 l22 c22 k22 fun _ _ _ _ _ _ us hl => match us, hl with | [_, _, _, _], _ => rfl
  have f__law_steps : Fn0 K mg "_law_steps" (topS 41) ["_law_program_here", "_law_places_here", "_law_lying"] := fn0_of X N ["_law_program_here", "_law_places_here", "_law_lying"] a23 l23 c23 k23 fun _ _ _ _ _ _ us hl => match us, hl with | [_, _, _], _ => rfl
  have f__law_act : Fn0 K mg "_law_act" (topS 42) ["_law_program_here", "_law_places_here", "_law_lying", "_law_event"] := fn0_of X N ["_law_program_here", "_law_places_here", "_law_lying", "_law_event"] a24 l24 c24 k24 fun _ _ _ _ _ _ us hl => match us, hl with | [_, _, _, _], _ => rfl
  have f__law_wished : Fn0 K mg "_law_wished" (topS 43) ["_law_program_here", "_law_options", "_law_draw", "_law_k"] := fn0_of X N ["_law_program_here", "_law_options", "_law_draw", "_law_k"] a25 l25 c25 k25 fun _ _ _ _ _ _ us hl => match us, hl with | [_, _, _, _], _ => rfl
  have f__law_walk : Fn0 K mg "_law_walk" (topS 44) ["_law_program_here", "_law_draws_here", "_law_at", "_law_many"] := fn0_of X N ["_law_program_here", "_law_draws_here", "_law_at", "_law_many"] a26 l26 c26 k26 fun _ _ _ _ _ _ us hl => match us, hl with | [_, _, _, _], _ => rfl
  have f__law_joined : Fn0 K mg "_law_joined" (topS 45) ["_law_parts"] := fn0_of X N ["_law_parts"] a27 l27 c27 k27 fun _ _ _ _ _ _ us hl => match us, hl with | [_], _ => rfl
  have f__law_is_integer : Fn0 K mg "_law_is_integer" (topS 46) ["_law_thing"] := fn0_of X N ["_law_thing"] a28 l28 c28 k28 fun _ _ _ _ _ _ us hl => match us, hl with | [_], _ => rfl
  have f__law_places : Fn0 K mg "_law_places" (topS 47) ["_law_program_here", "_law_made"] := fn0_of X N ["_law_program_here", "_law_made"] a29 l29 c29 k29 fun _ _ _ _ _ _ us hl => match us, hl with | [_, _], _ => rfl
  have f__law_named : Fn0 K mg "_law_named" (topS 48) ["_law_program_here", "_law_made", "_law_verb", "_law_channel"] := fn0_of X N ["_law_program_here", "_law_made", "_law_verb", "_law_channel"] a30 l30 c30 k30 fun _ _ _ _ _ _ us hl => match us, hl with | [_, _, _, _], _ => rfl
  have f__law_contents : Fn0 K mg "_law_contents" (topS 49) ["_law_program_here", "_law_made"] := fn0_of X N ["_law_program_here", "_law_made"] a31 l31 c31 k31 fun _ _ _ _ _ _ us hl => match us, hl with | [_, _], _ => rfl
  have f__law_heads : Fn0 K mg "_law_heads" (topS 50) ["_law_program_here", "_law_contents_here"] := fn0_of X N ["_law_program_here", "_law_contents_here"] a32 l32 c32 k32 fun _ _ _ _ _ _ us hl => match us, hl with | [_, _], _ => rfl
  have f_find_arrow : Fn0 K mg "find_arrow" (topS 13) ["program", "event"] := fn0_of X N ["program", "event"] a33 l33 c33 k33 fun _ _ _ _ _ _ us hl => match us, hl with | [_, _], _ => rfl
  have f__is_taken_by : Fn0 K mg "_is_taken_by" (topS 21) ["program", "places", "doing", "following"] := fn0_of X N ["program", "places", "doing", "following"] a34 l34 c34 k34 fun _ _ _ _ _ _ us hl => match us, hl with | [_, _, _, _], _ => rfl
  have f__places_after : Fn0 K mg "_places_after" (topS 24) ["program", "made"] := fn0_of X N ["program", "made"] a35 l35 c35 k35 fun _ _ _ _ _ _ us hl => match us, hl with | [_, _], _ => rfl
  have f_letter_rows : Fn0 K mg "letter_rows" (topS 19) ["program", "thing"] := fn0_of X N ["program", "thing"] a36 l36 c36 k36 fun _ _ _ _ _ _ us hl => match us, hl with | [_, _], _ => rfl
  have f_rows_of_run : Fn0 K mg "rows_of_run" (topS 20) ["program", "made", "word"] := fn0_of X N ["program", "made", "word"] a37 l37 c37 k37 fun _ _ _ _ _ _ us hl => match us, hl with | [_, _, _], _ => rfl
  have f_places_after : Fn0 K mg "places_after" (topS 16) ["program", "made"] := fn0_of X N ["program", "made"] a38 l38 c38 k38 fun _ _ _ _ _ _ us hl => match us, hl with | [_, _], _ => rfl
  have f_contents_of : Fn0 K mg "contents_of" (topS 17) ["program", "made"] := fn0_of X N ["program", "made"] a39 l39 c39 k39 fun _ _ _ _ _ _ us hl => match us, hl with | [_, _], _ => rfl
  have f_stand_after : Fn0 K mg "stand_after" (topS 18) ["program", "made"] := fn0_of X N ["program", "made"] a40 l40 c40 k40 fun _ _ _ _ _ _ us hl => match us, hl with | [_, _], _ => rfl
  have f_law : Fn0 K mg "law" (topS 51) ["_law_script"] := fn0_of X N ["_law_script"] a41 l41 c41 k41 fun _ _ _ _ _ _ us hl => match us, hl with | [_], _ => rfl
  have B : Blt mg := ⟨PySem.W.mg_none_of X N z_len, PySem.W.mg_none_of X N z_all, PySem.W.mg_none_of X N z_any, PySem.W.mg_none_of X N z_range, PySem.W.mg_none_of X N z_isinstance, PySem.W.mg_none_of X N z_int, PySem.W.mg_none_of X N z_str, PySem.W.mg_none_of X N z_tuple, PySem.W.mg_none_of X N z_bool, PySem.W.mg_none_of X N z_list, PySem.W.mg_none_of X N z_set, PySem.W.mg_none_of X N z_sorted, PySem.W.mg_none_of X N z_enumerate, PySem.W.mg_none_of X N z_sum, PySem.W.mg_none_of X N z_abs, PySem.W.mg_none_of X N z_zip⟩
  refine own_law hfa law_ok f_law fun base => ?_
  have o_is_integer := d_is_integer (P := P) (w := w) (base := base) f_is_integer B
  have o_is_number := d_is_number (P := P) (w := w) (base := base) f_is_number B o_is_integer
  have o_is_row := d_is_row (P := P) (w := w) (base := base) f_is_row B
  have o_find_party := d_find_party (P := P) (w := w) (base := base) f_find_party B
  have o_find_channel := d_find_channel (P := P) (w := w) (base := base) f_find_channel B
  have o_is_index := d_is_index (P := P) (w := w) (base := base) f_is_index B o_is_number
  have o_letter_to_take := d_letter_to_take (P := P) (w := w) (base := base) f_letter_to_take B o_find_channel
  have o_is_call := d_is_call (P := P) (w := w) (base := base) f_is_call B o_find_channel
  have o__contents_of := d__contents_of (P := P) (w := w) (base := base) f__contents_of B
  have o_head_of := d_head_of (P := P) (w := w) (base := base) f_head_of B
  have o__law_mixed := d__law_mixed (P := P) (w := w) (base := base) f__law_mixed B
  have o__law_draws := d__law_draws (P := P) (w := w) (base := base) f__law_draws B o__law_mixed
  have o__law_names := d__law_names (P := P) (w := w) (base := base) f__law_names B
  have o__law_scene := d__law_scene (P := P) (w := w) (base := base) f__law_scene B
  have o__law_rows := d__law_rows (P := P) (w := w) (base := base) f__law_rows B o__law_scene
  have o__law_doings := d__law_doings (P := P) (w := w) (base := base) f__law_doings B
  have o__law_arrows := d__law_arrows (P := P) (w := w) (base := base) f__law_arrows B o__law_scene o__law_doings
  have o__law_form := d__law_form (P := P) (w := w) (base := base) f__law_form B
  have o__law_program := d__law_program (P := P) (w := w) (base := base) f__law_program B o__law_names o__law_rows o__law_arrows o__law_form
  have o__law_arrow_of := d__law_arrow_of (P := P) (w := w) (base := base) f__law_arrow_of B
  have o__law_doing := d__law_doing (P := P) (w := w) (base := base) f__law_doing B o__law_arrow_of
  have o__law_takes := d__law_takes (P := P) (w := w) (base := base) f__law_takes B
  have o__law_steps_by := d__law_steps_by (P := P) (w := w) (base := base) f__law_steps_by B o__law_doing o__law_takes
  have o__law_steps := d__law_steps (P := P) (w := w) (base := base) f__law_steps B o__law_steps_by
  have o__law_act := d__law_act (P := P) (w := w) (base := base) f__law_act B o__law_doing
  have o__law_wished := d__law_wished (P := P) (w := w) (base := base) f__law_wished B o__law_doing
  have o__law_walk := d__law_walk (P := P) (w := w) (base := base) f__law_walk B o__law_steps o__law_wished o__law_act
  have o__law_joined := d__law_joined (P := P) (w := w) (base := base) f__law_joined B
  have o__law_is_integer := d__law_is_integer (P := P) (w := w) (base := base) f__law_is_integer B
  have o__law_places := d__law_places (P := P) (w := w) (base := base) f__law_places B
  have o__law_named := d__law_named (P := P) (w := w) (base := base) f__law_named B o__law_doing
  have o__law_contents := d__law_contents (P := P) (w := w) (base := base) f__law_contents B o__law_named
  have o__law_heads := d__law_heads (P := P) (w := w) (base := base) f__law_heads B
  have o_find_arrow := d_find_arrow (P := P) (w := w) (base := base) f_find_arrow B o_is_row o_find_party o_is_index
  have o__is_taken_by := d__is_taken_by (P := P) (w := w) (base := base) f__is_taken_by B o_find_arrow
  have o__places_after := d__places_after (P := P) (w := w) (base := base) f__places_after B o_find_arrow
  have o_letter_rows := d_letter_rows (P := P) (w := w) (base := base) f_letter_rows B o_find_arrow o_is_call o__is_taken_by o_letter_to_take (x_InvalidPaper base)
  have o_rows_of_run := d_rows_of_run (P := P) (w := w) (base := base) f_rows_of_run B o_letter_rows
  have o_places_after := d_places_after (P := P) (w := w) (base := base) f_places_after B o_rows_of_run o__places_after
  have o_contents_of := d_contents_of (P := P) (w := w) (base := base) f_contents_of B o__contents_of o_rows_of_run
  have o_stand_after := d_stand_after (P := P) (w := w) (base := base) f_stand_after B o__contents_of o_rows_of_run o_head_of o__places_after
  have o_law := d_law (P := P) (w := w) (base := base) f_law B o__law_draws o__law_program o__law_walk o__law_joined o__law_places o__law_contents o_places_after o__law_is_integer o_contents_of o_stand_after o__law_heads
  exact o_law
end LK
open PySem PySem.W PyProof.Rows
set_option maxHeartbeats 0 in
theorem PySem.Challenge.cw_ascalls_k18_places_contents_stands_holds : PySem.Challenge.rw_ascalls_k18_places_contents_stands.Holds := by
  w_on; o_law; k_head; (case hw => w_witness2)
  k_fill
  refine L2.walk_of (l := PySem.Challenge.rw_ascalls_k18_places_contents_stands) (n := 63) (k := 9) (x := "_law_script") (CX := fun w => L2.CX PySem.Challenge.pw_ascalls_k18_places_contents_stands w) (sp := fun w => PL.spLaw _) rfl (by decide) rfl ⟨rfl, by decide, by decide⟩ (fun w h Y => PySem.W.kIn_of Y) ?F (fun _ _ a ns hl _ hS => ⟨a, ns, rfl, hS, hl, fun _ => rfl⟩) ?X
  case X =>
    intro w H s e s' hx
    exact PL.no_cx hx
  case F =>
    intro w mg fa h KX G hmg
    refine' LK.all_mk KX G hmg ?h_xa0 ?h_xT0 ?h_xi0 ?h_xt0 ?h_xl0 ?h_xc0 ?h_xk0 ?h_xf0 ?h_xg0 ?h_xga0 ?h_xgg0 ?h_xhd0 ?h_xex0 ?h_a0 ?h_l0 ?h_c0 ?h_k0 ?h_a1 ?h_l1 ?h_c1 ?h_k1 ?h_a2 ?h_l2 ?h_c2 ?h_k2 ?h_a3 ?h_l3 ?h_c3 ?h_k3 ?h_a4 ?h_l4 ?h_c4 ?h_k4 ?h_a5 ?h_l5 ?h_c5 ?h_k5 ?h_a6 ?h_l6 ?h_c6 ?h_k6 ?h_a7 ?h_l7 ?h_c7 ?h_k7 ?h_a8 ?h_l8 ?h_c8 ?h_k8 ?h_a9 ?h_l9 ?h_c9 ?h_k9 ?h_a10 ?h_l10 ?h_c10 ?h_k10 ?h_a11 ?h_l11 ?h_c11 ?h_k11 ?h_a12 ?h_l12 ?h_c12 ?h_k12 ?h_a13 ?h_l13 ?h_c13 ?h_k13 ?h_a14 ?h_l14 ?h_c14 ?h_k14 ?h_a15 ?h_l15 ?h_c15 ?h_k15 ?h_a16 ?h_l16 ?h_c16 ?h_k16 ?h_a17 ?h_l17 ?h_c17 ?h_k17 ?h_a18 ?h_l18 ?h_c18 ?h_k18 ?h_a19 ?h_l19 ?h_c19 ?h_k19 ?h_a20 ?h_l20 ?h_c20 ?h_k20 ?h_a21 ?h_l21 ?h_c21 ?h_k21 ?h_a22 ?h_l22 ?h_c22 ?h_k22 ?h_a23 ?h_l23 ?h_c23 ?h_k23 ?h_a24 ?h_l24 ?h_c24 ?h_k24 ?h_a25 ?h_l25 ?h_c25 ?h_k25 ?h_a26 ?h_l26 ?h_c26 ?h_k26 ?h_a27 ?h_l27 ?h_c27 ?h_k27 ?h_a28 ?h_l28 ?h_c28 ?h_k28 ?h_a29 ?h_l29 ?h_c29 ?h_k29 ?h_a30 ?h_l30 ?h_c30 ?h_k30 ?h_a31 ?h_l31 ?h_c31 ?h_k31 ?h_a32 ?h_l32 ?h_c32 ?h_k32 ?h_a33 ?h_l33 ?h_c33 ?h_k33 ?h_a34 ?h_l34 ?h_c34 ?h_k34 ?h_a35 ?h_l35 ?h_c35 ?h_k35 ?h_a36 ?h_l36 ?h_c36 ?h_k36 ?h_a37 ?h_l37 ?h_c37 ?h_k37 ?h_a38 ?h_l38 ?h_c38 ?h_k38 ?h_a39 ?h_l39 ?h_c39 ?h_k39 ?h_a40 ?h_l40 ?h_c40 ?h_k40 ?h_a41 ?h_l41 ?h_c41 ?h_k41 ?h_z_len ?h_z_all ?h_z_any ?h_z_range ?h_z_isinstance ?h_z_int ?h_z_str ?h_z_tuple ?h_z_bool ?h_z_list ?h_z_set ?h_z_sorted ?h_z_enumerate ?h_z_sum ?h_z_abs ?h_z_zip
    (case h_xa0 => k_is); (case h_xT0 => exact ⟨⟨_, _, _, _, _, _, _, _, _, _, _, _, _, _, _, by k_is, by kernel_rfl⟩, by k_is, by k_is, by k_is, by k_is⟩); (case h_xi0 => k_is); (case h_xt0 => k_is); (case h_xl0 => k_is); (case h_xc0 => k_is); (case h_xk0 => k_is); (case h_xf0 => k_is); (case h_xg0 => k_is); (case h_xga0 => k_is); (case h_xgg0 => k_is); (case h_xhd0 => k_is); (case h_xex0 => kernel_rfl); (case h_a0 => k_is); (case h_l0 => k_is); (case h_c0 => k_is); (case h_k0 => k_is); (case h_a1 => k_is); (case h_l1 => k_is); (case h_c1 => k_is); (case h_k1 => k_is); (case h_a2 => k_is); (case h_l2 => k_is); (case h_c2 => k_is); (case h_k2 => k_is); (case h_a3 => k_is); (case h_l3 => k_is); (case h_c3 => k_is); (case h_k3 => k_is); (case h_a4 => k_is); (case h_l4 => k_is); (case h_c4 => k_is); (case h_k4 => k_is); (case h_a5 => k_is); (case h_l5 => k_is); (case h_c5 => k_is); (case h_k5 => k_is); (case h_a6 => k_is); (case h_l6 => k_is); (case h_c6 => k_is); (case h_k6 => k_is); (case h_a7 => k_is); (case h_l7 => k_is); (case h_c7 => k_is); (case h_k7 => k_is); (case h_a8 => k_is); (case h_l8 => k_is); (case h_c8 => k_is); (case h_k8 => k_is); (case h_a9 => k_is); (case h_l9 => k_is); (case h_c9 => k_is); (case h_k9 => k_is); (case h_a10 => k_is); (case h_l10 => k_is); (case h_c10 => k_is); (case h_k10 => k_is); (case h_a11 => k_is); (case h_l11 => k_is); (case h_c11 => k_is); (case h_k11 => k_is); (case h_a12 => k_is); (case h_l12 => k_is); (case h_c12 => k_is); (case h_k12 => k_is); (case h_a13 => k_is); (case h_l13 => k_is); (case h_c13 => k_is); (case h_k13 => k_is); (case h_a14 => k_is); (case h_l14 => k_is); (case h_c14 => k_is); (case h_k14 => k_is); (case h_a15 => k_is); (case h_l15 => k_is); (case h_c15 => k_is); (case h_k15 => k_is); (case h_a16 => k_is); (case h_l16 => k_is); (case h_c16 => k_is); (case h_k16 => k_is); (case h_a17 => k_is); (case h_l17 => k_is); (case h_c17 => k_is); (case h_k17 => k_is); (case h_a18 => k_is); (case h_l18 => k_is); (case h_c18 => k_is); (case h_k18 => k_is); (case h_a19 => k_is); (case h_l19 => k_is); (case h_c19 => k_is); (case h_k19 => k_is); (case h_a20 => k_is); (case h_l20 => k_is); (case h_c20 => k_is); (case h_k20 => k_is); (case h_a21 => k_is); (case h_l21 => k_is); (case h_c21 => k_is); (case h_k21 => k_is); (case h_a22 => k_is); (case h_l22 => k_is); (case h_c22 => k_is); (case h_k22 => k_is); (case h_a23 => k_is); (case h_l23 => k_is); (case h_c23 => k_is); (case h_k23 => k_is); (case h_a24 => k_is); (case h_l24 => k_is); (case h_c24 => k_is); (case h_k24 => k_is); (case h_a25 => k_is); (case h_l25 => k_is); (case h_c25 => k_is); (case h_k25 => k_is); (case h_a26 => k_is); (case h_l26 => k_is); (case h_c26 => k_is); (case h_k26 => k_is); (case h_a27 => k_is); (case h_l27 => k_is); (case h_c27 => k_is); (case h_k27 => k_is); (case h_a28 => k_is); (case h_l28 => k_is); (case h_c28 => k_is); (case h_k28 => k_is); (case h_a29 => k_is); (case h_l29 => k_is); (case h_c29 => k_is); (case h_k29 => k_is); (case h_a30 => k_is); (case h_l30 => k_is); (case h_c30 => k_is); (case h_k30 => k_is); (case h_a31 => k_is); (case h_l31 => k_is); (case h_c31 => k_is); (case h_k31 => k_is); (case h_a32 => k_is); (case h_l32 => k_is); (case h_c32 => k_is); (case h_k32 => k_is); (case h_a33 => k_is); (case h_l33 => k_is); (case h_c33 => k_is); (case h_k33 => k_is); (case h_a34 => k_is); (case h_l34 => k_is); (case h_c34 => k_is); (case h_k34 => k_is); (case h_a35 => k_is); (case h_l35 => k_is); (case h_c35 => k_is); (case h_k35 => k_is); (case h_a36 => k_is); (case h_l36 => k_is); (case h_c36 => k_is); (case h_k36 => k_is); (case h_a37 => k_is); (case h_l37 => k_is); (case h_c37 => k_is); (case h_k37 => k_is); (case h_a38 => k_is); (case h_l38 => k_is); (case h_c38 => k_is); (case h_k38 => k_is); (case h_a39 => k_is); (case h_l39 => k_is); (case h_c39 => k_is); (case h_k39 => k_is); (case h_a40 => k_is); (case h_l40 => k_is); (case h_c40 => k_is); (case h_k40 => k_is); (case h_a41 => k_is); (case h_l41 => k_is); (case h_c41 => k_is); (case h_k41 => k_is); (case h_z_len => k_is); (case h_z_all => k_is); (case h_z_any => k_is); (case h_z_range => k_is); (case h_z_isinstance => k_is); (case h_z_int => k_is); (case h_z_str => k_is); (case h_z_tuple => k_is); (case h_z_bool => k_is); (case h_z_list => k_is); (case h_z_set => k_is); (case h_z_sorted => k_is); (case h_z_enumerate => k_is); (case h_z_sum => k_is); (case h_z_abs => k_is); (case h_z_zip => k_is)
