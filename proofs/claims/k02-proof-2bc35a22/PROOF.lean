import PyProof.Rows.All
import Wide.All
import OpenK.AllK
import Wide.FinOn
import HandS.ForMost
import HandS.IsInst
import HandS.Wide
import HandS.EndBits
import HandS.Style
import HandS.Flow
import HandS.Zip
import HandS.TupMul
import HandS.SortInts
import HandS.Deep
import HandS.TupAny
import HandS.RaiseMore
import HandS.Walk
import KE.GoesMore
import KE.GoesEnum
import HandS.SetFor
import HandS.Gcd
import HandS.Conv
import HandS.WideBits
import KE.DataEq
import PyProof.ReprBulk
import PySem.Challenge.RW_lookmade_k02_bits_turns_amounts_lots
set_option Elab.async false
set_option linter.all false
set_option maxRecDepth 100000
set_option maxHeartbeats 4000001
set_option autoImplicit false
namespace DL
open PySem PySem.Spec PyProof.Rows L2

/-! data -/
inductive D where
  | non
  | bl (b : Bool)
  | int (i : Int)
  | str (s : Str)
  | tup (ds : List D)
  | lst (ds : List D)
  /-- a list that is read alone (the script) -/
  | scr (ds : List D)
  /-- an object of the class at C, made: its attributes' names and values -/
  | obj (C : Addr) (ns : List Str) (ds : List D)
  /-- a reference that nobody looks into -/
  | raw (a : Addr)
  /-- a dict that nobody changes: its keys, its values -/
  | dct (ks : List Key) (ds : List D)

abbrev AS := Addr → Prop
abbrev Fg := PySem.W.Frag
abbrev Sg := List (Option V)
def H0 : Hp := fun _ => none

def TupAt (K : Fg) (O : AS) (H : Hp) (a : Addr) (xs : List V) : Prop :=
  (¬ O a ∧ Rd H a (.tup xs)) ∨ SqT K H0 a xs
def LstAt (K : Fg) (O : AS) (H : Hp) (a : Addr) (xs : List V) : Prop :=
  (¬ O a ∧ Rd H a (.lst xs)) ∨ SqL K H0 a xs

mutual
def Rep (K : Fg) (O : AS) (H : Hp) : D → V → Prop
  | .non, v => v = .non
  | .bl b, v => v = .bl b
  | .int i, v => v = .int i
  | .str s, v => v = .str s
  | .tup ds, v => ∃ a xs, v = .ref a ∧ TupAt K O H a xs ∧ RepL K O H ds xs
  | .lst ds, v => ∃ a xs, v = .ref a ∧ (¬ O a ∧ H a = some (.lst xs)) ∧ RepL K O H ds xs
  | .scr ds, v => ∃ a xs, v = .ref a ∧ LstAt K O H a xs ∧ RepL K O H ds xs
  | .obj C ns ds, v => ∃ a dx xs, v = .ref a ∧ ((¬ O a ∧ H a = some (.ins C dx (ns.zip xs))) ∧ (¬ O dx ∧ H dx = some (.own a)) ∧ ns.length = ds.length ∧ Cls K C ∧ ∀ f ∈ ns, NoAttr K C f) ∧ RepL K O H ds xs
  | .raw a, v => v = .ref a
  | .dct ks ds, v => ∃ a xs, v = .ref a ∧ ((¬ O a ∧ H a = some (.dK (ks.zip xs))) ∧ ks.length = ds.length) ∧ RepL K O H ds xs
def RepL (K : Fg) (O : AS) (H : Hp) : List D → List V → Prop
  | [], xs => xs = []
  | d :: ds, xs => ∃ x r, xs = x :: r ∧ Rep K O H d x ∧ RepL K O H ds r
end

/-- what stands outside O at H stands outside O' at H' -/
def Ext (O : AS) (H : Hp) (O' : AS) (H' : Hp) : Prop := ∀ b o, ¬ O b → H b = some o → ¬ O' b ∧ H' b = some o
theorem Ext.refl {O : AS} {H : Hp} : Ext O H O H := fun _ _ a b => ⟨a, b⟩
theorem Ext.trans {O1 O2 O3 : AS} {H1 H2 H3 : Hp} (p : Ext O1 H1 O2 H2) (q : Ext O2 H2 O3 H3) : Ext O1 H1 O3 H3 :=
  fun b o n e => let r := p b o n e; q b o r.1 r.2

section
variable {K : Fg} {O O' : AS} {H H' : Hp}
theorem rd_ext (x : Ext O H O' H') {a : Addr} {u : HO} (n : ¬ O a) (h : Rd H a u) : ¬ O' a ∧ Rd H' a u := by
  rcases h with h | ⟨o, h⟩
  · exact ⟨(x _ _ n h).1, .inl (x _ _ n h).2⟩
  · exact ⟨(x _ _ n h).1, .inr ⟨o, (x _ _ n h).2⟩⟩
theorem TupAt.ext (x : Ext O H O' H') {a xs} (h : TupAt K O H a xs) : TupAt K O' H' a xs := by
  rcases h with ⟨n, h⟩ | h
  · exact .inl (rd_ext x n h)
  · exact .inr h
theorem LstAt.ext (x : Ext O H O' H') {a xs} (h : LstAt K O H a xs) : LstAt K O' H' a xs := by
  rcases h with ⟨n, h⟩ | h
  · exact .inl (rd_ext x n h)
  · exact .inr h
theorem SqT.of0 {a xs} (h : SqT K H0 a xs) : SqT K H a xs := by
  rcases h with (h | ⟨o, h⟩) | h
  · exact nomatch h
  · exact nomatch h
  · exact .inr h
theorem SqL.of0 {a xs} (h : SqL K H0 a xs) : SqL K H a xs := by
  rcases h with (h | ⟨o, h⟩) | h
  · exact nomatch h
  · exact nomatch h
  · exact .inr h
theorem TupAt.sq {a xs} (h : TupAt K O H a xs) : SqT K H a xs := by
  rcases h with ⟨_, h⟩ | h
  · exact .inl h
  · exact SqT.of0 h
theorem LstAt.sq {a xs} (h : LstAt K O H a xs) : SqL K H a xs := by
  rcases h with ⟨_, h⟩ | h
  · exact .inl h
  · exact SqL.of0 h

mutual
theorem Rep.ext (x : Ext O H O' H') : ∀ (d : D) {v : V}, Rep K O H d v → Rep K O' H' d v
  | .non, _, h => h
  | .bl _, _, h => h
  | .int _, _, h => h
  | .str _, _, h => h
  | .tup ds, _, ⟨a, xs, e, t, r⟩ => ⟨a, xs, e, t.ext x, RepL.ext x ds r⟩
  | .lst ds, _, ⟨a, xs, e, t, r⟩ => ⟨a, xs, e, x _ _ t.1 t.2, RepL.ext x ds r⟩
  | .scr ds, _, ⟨a, xs, e, t, r⟩ => ⟨a, xs, e, t.ext x, RepL.ext x ds r⟩
  | .obj C ns ds, _, ⟨a, dx, xs, e, t, r⟩ => ⟨a, dx, xs, e, ⟨x _ _ t.1.1 t.1.2, x _ _ t.2.1.1 t.2.1.2, t.2.2⟩, RepL.ext x ds r⟩
  | .raw _, _, h => h
  | .dct ks ds, _, ⟨a, xs, e, t, r⟩ => ⟨a, xs, e, ⟨x _ _ t.1.1 t.1.2, t.2⟩, RepL.ext x ds r⟩
theorem RepL.ext (x : Ext O H O' H') : ∀ (ds : List D) {xs : List V}, RepL K O H ds xs → RepL K O' H' ds xs
  | [], _, h => h
  | d :: ds, _, ⟨y, r, e, h1, h2⟩ => ⟨y, r, e, Rep.ext x d h1, RepL.ext x ds h2⟩
end

theorem RepL.nil : RepL K O H [] [] := rfl
theorem RepL.cons {d ds x xs} (h : Rep K O H d x) (t : RepL K O H ds xs) : RepL K O H (d :: ds) (x :: xs) := ⟨x, xs, rfl, h, t⟩
theorem RepL.len : ∀ {ds xs}, RepL K O H ds xs → ds.length = xs.length
  | [], _, h => by cases h; rfl
  | _ :: ds, _, ⟨_, _, e, _, h2⟩ => by subst e; simp [RepL.len h2]
theorem RepL.get : ∀ {ds xs} {i : Nat} {d : D}, RepL K O H ds xs → ds[i]? = some d → ∃ x, xs[i]? = some x ∧ Rep K O H d x
  | [], _, _, _, _, e => by simp at e
  | _ :: ds, _, 0, d, ⟨y, r, e, h1, h2⟩, q => by
    have q' : _ = d := Option.some.inj q
    subst e q'
    exact ⟨y, rfl, h1⟩
  | _ :: ds, _, i + 1, d, ⟨y, r, e, h1, h2⟩, q => by
    subst e
    exact RepL.get (i := i) h2 q
theorem RepL.getx : ∀ {ds xs} {i : Nat} {x : V}, RepL K O H ds xs → xs[i]? = some x → ∃ d, ds[i]? = some d ∧ Rep K O H d x := fun {ds xs i x} h q => by
  have l := h.len
  have hi : i < ds.length := by rw [l]; exact (List.getElem?_eq_some_iff.mp q).1
  obtain ⟨y, e, r⟩ := h.get (List.getElem?_eq_getElem hi)
  rw [e] at q
  cases q
  exact ⟨_, List.getElem?_eq_getElem hi, r⟩
theorem RepL.of : ∀ {ds : List D} {xs : List V}, ds.length = xs.length → (∀ (i : Nat) d x, ds[i]? = some d → xs[i]? = some x → Rep K O H d x) → RepL K O H ds xs
  | [], [], _, _ => rfl
  | [], _ :: _, e, _ => by simp at e
  | _ :: _, [], e, _ => by simp at e
  | d :: ds, x :: xs, e, h => ⟨x, xs, rfl, h 0 d x rfl rfl, RepL.of (by simpa using e) fun i d x e1 e2 => h (i + 1) d x e1 e2⟩
theorem RepL.append : ∀ {ds es : List D} {xs ys : List V}, RepL K O H ds xs → RepL K O H es ys → RepL K O H (ds ++ es) (xs ++ ys)
  | [], _, _, _, h, q => by cases h; exact q
  | _ :: ds, _, _, _, ⟨y, r, e, h1, h2⟩, q => by subst e; exact ⟨y, _, rfl, h1, RepL.append h2 q⟩
theorem RepL.set {ds : List D} {xs : List V} {i : Nat} {d : D} {x : V} (h : RepL K O H ds xs) (q : Rep K O H d x) : RepL K O H (ds.set i d) (xs.set i x) := by
  refine RepL.of (by simp [h.len]) fun j d' x' e1 e2 => ?_
  by_cases hj : i = j
  · subst hj
    have l1 : i < ds.length := by have := (List.getElem?_eq_some_iff.mp e1).1; simpa using this
    rw [List.getElem?_set_self l1] at e1
    rw [List.getElem?_set_self (by rw [← h.len]; exact l1)] at e2
    cases e1; cases e2
    exact q
  · rw [List.getElem?_set_ne hj] at e1 e2
    obtain ⟨y, e3, r⟩ := h.get e1
    rw [e3] at e2; cases e2
    exact r
theorem RepL.take {ds : List D} {xs : List V} (n : Nat) (h : RepL K O H ds xs) : RepL K O H (ds.take n) (xs.take n) := by
  refine RepL.of (by simp [h.len]) fun j d' x' e1 e2 => ?_
  rw [List.getElem?_take] at e1 e2
  split at e1
  · rename_i hj
    rw [if_pos hj] at e2
    obtain ⟨y, e3, r⟩ := h.get e1
    rw [e3] at e2; cases e2
    exact r
  · cases e1
theorem RepL.drop {ds : List D} {xs : List V} (n : Nat) (h : RepL K O H ds xs) : RepL K O H (ds.drop n) (xs.drop n) := by
  refine RepL.of (by simp [h.len]) fun j d' x' e1 e2 => ?_
  rw [List.getElem?_drop] at e1 e2
  obtain ⟨y, e3, r⟩ := h.get e1
  rw [e3] at e2; cases e2
  exact r
theorem RepL.eraseIdx {ds : List D} {xs : List V} (n : Nat) (h : RepL K O H ds xs) : RepL K O H (ds.eraseIdx n) (xs.eraseIdx n) := by
  rw [List.eraseIdx_eq_take_drop_succ, List.eraseIdx_eq_take_drop_succ]
  exact (h.take n).append (h.drop (n + 1))
end

/-! environments -/
inductive Sl where
  | no
  | va (d : D)
  | ow (d : D)
  | mu (d : D)
abbrev En := List Sl
/-- an expression's value: data; a new list of one's own; a list that a slot holds -/
inductive Rv where
  | va (d : D)
  | fr (d : D)
  | vw (i : Nat)

abbrev LA := Nat → Option Addr
def Ow (Ox : AS) (L : LA) : AS := fun a => Ox a ∨ ∃ i, L i = some a
def plusA (O : AS) (a : Addr) : AS := fun b => O b ∨ b = a
def OwRep (K : Fg) (O : AS) (H : Hp) (a : Addr) (d : D) : Prop := ∃ ds xs, d = .lst ds ∧ H a = some (.lst xs) ∧ RepL K O H ds xs

structure EnOk (K : Fg) (Ox : AS) (L : LA) (H : Hp) (σ : Sg) (ρ : En) : Prop where
  len : σ.length = ρ.length
  nd : ∀ i j a, L i = some a → L j = some a → i = j
  ext : ∀ a, Ox a → H a ≠ none
  dis : ∀ i a, L i = some a → ¬ Ox a
  va : ∀ (i : Nat) d, ρ[i]? = some (.va d) → ∃ v, σ[i]? = some (some v) ∧ Rep K (Ow Ox L) H d v
  ow : ∀ (i : Nat) d, ρ[i]? = some (.ow d) ∨ ρ[i]? = some (.mu d) → ∃ a, L i = some a ∧ σ[i]? = some (some (.ref a)) ∧ OwRep K (Ow Ox L) H a d
  li : ∀ (i : Nat) a, L i = some a → ∃ d, ρ[i]? = some (.ow d) ∨ ρ[i]? = some (.mu d)

/-- all but the own lists stays, and nothing goes -/
structure Stp (L : LA) (H H' : Hp) : Prop where
  st : ∀ b o, (∀ i, L i ≠ some b) → H b = some o → H' b = some o
  tk : ∀ b, H b ≠ none → H' b ≠ none
theorem Stp.refl {L : LA} {H : Hp} : Stp L H H := ⟨fun _ _ _ e => e, fun _ h => h⟩
theorem Stp.same {L : LA} {H H' : Hp} (a : Same H H') : Stp L H H' := ⟨fun c o _ e => a c o e, fun b h q => by
  cases e : H b with
  | none => exact h e
  | some o => rw [a b o e] at q; cases q⟩
/-- what an expression may do to the slots: give lists away -/
structure Mv (ρ : En) (L : LA) (ρ' : En) (L' : LA) : Prop where
  le : ∀ i a, L' i = some a → L i = some a
  mu : ∀ (i : Nat) d, ρ[i]? = some (.mu d) → L' i = L i ∧ ∃ d', ρ'[i]? = some (.mu d')
theorem Mv.refl {ρ : En} {L : LA} : Mv ρ L ρ L := ⟨fun _ _ h => h, fun _ d h => ⟨rfl, d, h⟩⟩
theorem Mv.trans {ρ ρ1 ρ2 : En} {L L1 L2 : LA} (a : Mv ρ L ρ1 L1) (b : Mv ρ1 L1 ρ2 L2) : Mv ρ L ρ2 L2 :=
  ⟨fun i x h => a.le i x (b.le i x h), fun i d h => by
    obtain ⟨e1, d1, h1⟩ := a.mu i d h
    obtain ⟨e2, d2, h2⟩ := b.mu i d1 h1
    exact ⟨e2.trans e1, d2, h2⟩⟩
theorem Stp.trans {ρ ρ1 : En} {L L1 : LA} {H H1 H2 : Hp} (a : Stp L H H1) (m : Mv ρ L ρ1 L1) (b : Stp L1 H1 H2) : Stp L H H2 :=
  ⟨fun c o n e => b.st c o (fun i q => n i (m.le i c q)) (a.st c o n e), fun c h => b.tk c (a.tk c h)⟩

section
variable {K : Fg} {Ox : AS} {L : LA} {H H' : Hp} {σ : Sg} {ρ ρ' : En}
theorem EnOk.trk (E : EnOk K Ox L H σ ρ) {a : Addr} (h : Ow Ox L a) : H a ≠ none := by
  rcases h with h | ⟨i, h⟩
  · exact E.ext a h
  · obtain ⟨d, q⟩ := E.li i a h
    obtain ⟨b, e1, _, ds, xs, _, e2, _⟩ := E.ow i d q
    rw [h] at e1; cases e1
    rw [e2]
    exact nofun
theorem Stp.ext (s : Stp L H H') : Ext (Ow Ox L) H (Ow Ox L) H' := fun b o n e => ⟨n, s.st b o (fun i q => n (.inr ⟨i, q⟩)) e⟩
theorem Stp.extM {ρ ρ' : En} {L' : LA} (s : Stp L H H') (m : Mv ρ L ρ' L') : Ext (Ow Ox L) H (Ow Ox L') H' :=
  fun b o n e => ⟨fun z => n (z.elim .inl fun ⟨i, q⟩ => .inr ⟨i, m.le i b q⟩), s.st b o (fun i q => n (.inr ⟨i, q⟩)) e⟩
theorem ext_new {O : AS} {a : Addr} (s : Same H H') (n : H a = none) : Ext O H (plusA O a) H' := fun b o nb e =>
  ⟨fun q => q.elim nb fun z => (by
    rw [z, n] at e
    cases e), s b o e⟩
theorem ext_less {O O' : AS} (h : ∀ a, O' a → O a) : Ext O H O' H := fun b o nb e => ⟨fun q => nb (h b q), e⟩
theorem ow_plus {Ox : AS} {L : LA} {a b : Addr} : Ow (plusA Ox a) L b ↔ plusA (Ow Ox L) a b := by
  unfold Ow plusA
  constructor
  · rintro ((h | h) | h)
    · exact .inl (.inl h)
    · exact .inr h
    · exact .inl (.inr h)
  · rintro ((h | h) | h)
    · exact .inl (.inl h)
    · exact .inr h
    · exact .inl (.inr h)
theorem OwRep.ext {O O' : AS} {a : Addr} {d : D} (x : Ext O H O' H') (s : H a = H' a) (h : OwRep K O H a d) : OwRep K O' H' a d := by
  obtain ⟨ds, xs, e, h1, h2⟩ := h
  exact ⟨ds, xs, e, s ▸ h1, RepL.ext x ds h2⟩
theorem EnOk.same (E : EnOk K Ox L H σ ρ) (s : Same H H') : EnOk K Ox L H' σ ρ where
  len := E.len
  nd := E.nd
  ext := fun a h q => by
    cases e : H a with
    | none => exact E.ext a h e
    | some o => rw [s a o e] at q; cases q
  dis := E.dis
  va := fun i d h => by
    obtain ⟨v, e, r⟩ := E.va i d h
    exact ⟨v, e, Rep.ext (Stp.same (L := L) s).ext d r⟩
  ow := fun i d h => by
    obtain ⟨a, e1, e2, ds, xs, e3, e4, r⟩ := E.ow i d h
    exact ⟨a, e1, e2, ds, xs, e3, s _ _ e4, RepL.ext (Stp.same s).ext ds r⟩
  li := E.li
/-- a new object besides -/
theorem EnOk.plus (E : EnOk K Ox L H σ ρ) (s : Same H H') {a : Addr} (n : H a = none) (n' : H' a ≠ none) : EnOk K (plusA Ox a) L H' σ ρ where
  len := E.len
  nd := E.nd
  ext := fun b h q => by
    rcases h with h | h
    · exact (E.same s).ext b h q
    · subst h; exact n' q
  dis := fun i b h q => by
    rcases q with q | q
    · exact E.dis i b h q
    · subst q
      exact E.trk (.inr ⟨i, h⟩) n
  va := fun i d h => by
    obtain ⟨v, e, r⟩ := E.va i d h
    refine ⟨v, e, Rep.ext (fun b o nb e => ?_) d r⟩
    have := ext_new (O := Ow Ox L) s n b o nb e
    exact ⟨fun q => this.1 (ow_plus.mp q), this.2⟩
  ow := fun i d h => by
    obtain ⟨b, e1, e2, ds, xs, e3, e4, r⟩ := E.ow i d h
    refine ⟨b, e1, e2, ds, xs, e3, s _ _ e4, RepL.ext (fun b o nb e => ?_) ds r⟩
    have := ext_new (O := Ow Ox L) s n b o nb e
    exact ⟨fun q => this.1 (ow_plus.mp q), this.2⟩
  li := E.li
/-- fewer others -/
theorem EnOk.less (E : EnOk K Ox L H σ ρ) {Ox' : AS} (h : ∀ a, Ox' a → Ox a) : EnOk K Ox' L H σ ρ where
  len := E.len
  nd := E.nd
  ext := fun a q => E.ext a (h a q)
  dis := fun i a q z => E.dis i a q (h a z)
  va := fun i d q => by
    obtain ⟨v, e, r⟩ := E.va i d q
    exact ⟨v, e, Rep.ext (ext_less fun a z => z.elim (fun z => .inl (h a z)) .inr) d r⟩
  ow := fun i d q => by
    obtain ⟨a, e1, e2, ds, xs, e3, e4, r⟩ := E.ow i d q
    exact ⟨a, e1, e2, ds, xs, e3, e4, RepL.ext (ext_less fun a z => z.elim (fun z => .inl (h a z)) .inr) ds r⟩
  li := E.li
end

/-! an expression's end -/
def RvOk (K : Fg) (Ox : AS) (L' : LA) (H H' : Hp) (σ : Sg) (ρ' : En) (v : V) : Rv → Prop
  | .va d => EnOk K Ox L' H' σ ρ' ∧ Rep K (Ow Ox L') H' d v
  | .fr d => ∃ a, v = .ref a ∧ H a = none ∧ EnOk K (plusA Ox a) L' H' σ ρ' ∧ OwRep K (plusA (Ow Ox L') a) H' a d
  | .vw i => EnOk K Ox L' H' σ ρ' ∧ σ[i]? = some (some v)

abbrev Fx := En → (Rv → En → Prop) → Prop
def tR (K : Fg) (f : Fx) : TE := fun σ H Q => ∃ Ox L ρ R, EnOk K Ox L H σ ρ ∧ f ρ R ∧
  ∀ r ρ' L' v H', R r ρ' → Mv ρ L ρ' L' → Stp L H H' → RvOk K Ox L' H H' σ ρ' v r → Q v H'

/-- an argument: data, or a slot's list -/
inductive Av where
  | dat (d : D)
  | ref (i : Nat)
def Rv.av : Rv → Av
  | .va d => .dat d
  | .fr d => .dat d
  | .vw i => .ref i
def AvOk (K : Fg) (Ox : AS) (L : LA) (H : Hp) (σ : Sg) (v : V) : Av → Prop
  | .dat d => Rep K (Ow Ox L) H d v
  | .ref i => σ[i]? = some (some v)
inductive AvsOk (K : Fg) (Ox : AS) (L : LA) (H : Hp) (σ : Sg) : List V → List Av → Prop where
  | nil : AvsOk K Ox L H σ [] []
  | cons {v vs a as} : AvOk K Ox L H σ v a → AvsOk K Ox L H σ vs as → AvsOk K Ox L H σ (v :: vs) (a :: as)

section
variable {K : Fg} {Ox : AS} {L L1 L' : LA} {H H1 H' : Hp} {σ : Sg} {ρ ρ1 ρ' : En}
theorem RvOk.en {v : V} {r : Rv} (h : RvOk K Ox L H H' σ ρ' v r) : EnOk K Ox L H' σ ρ' := by
  cases r with
  | va d => exact h.1
  | fr d =>
    obtain ⟨a, _, _, h, _⟩ := h
    exact h.less fun _ z => .inl z
  | vw i => exact h.1
/-- a new list becomes data -/
theorem RvOk.av {v : V} {r : Rv} (E0 : EnOk K Ox L H σ ρ) (m : Mv ρ L ρ' L') (h : RvOk K Ox L' H H' σ ρ' v r) : AvOk K Ox L' H' σ v r.av := by
  cases r with
  | va d => exact h.2
  | fr d =>
    obtain ⟨a, e, n, h, ds, xs, rfl, e2, r⟩ := h
    refine ⟨a, xs, e, ⟨fun z => E0.trk (z.elim .inl fun ⟨i, q⟩ => .inr ⟨i, m.le i a q⟩) n, e2⟩, RepL.ext (ext_less fun _ z => .inl z) ds r⟩
  | vw i => exact h.2
theorem AvOk.stp {v : V} {a : Av} (s : Stp L H H') (m : Mv ρ L ρ' L') (h : AvOk K Ox L H σ v a) : AvOk K Ox L' H' σ v a := by
  cases a with
  | dat d => exact Rep.ext (s.extM m) d h
  | ref i => exact h
theorem AvsOk.stp {vs : List V} {as : List Av} (s : Stp L H H') (m : Mv ρ L ρ' L') (h : AvsOk K Ox L H σ vs as) : AvsOk K Ox L' H' σ vs as := by
  induction h with
  | nil => exact .nil
  | cons h _ ih => exact .cons (h.stp s m) ih
theorem RvOk.from {v : V} {r : Rv} (s : Stp L H H1) (h : RvOk K Ox L' H1 H' σ ρ' v r) : RvOk K Ox L' H H' σ ρ' v r := by
  cases r with
  | va d => exact h
  | fr d =>
    obtain ⟨a, e, n, h⟩ := h
    refine ⟨a, e, ?_, h⟩
    cases q : H a with
    | none => rfl
    | some o => exact absurd n (s.tk a (by rw [q]; exact nofun))
  | vw i => exact h
end
end DL

namespace DL
open PySem PySem.Spec PyProof.Rows L2

/-! data as the library's data -/
/-- what stands for an object that is no data: neither shown nor compared -/
def junkP : PyData := .tuple [.str ⟨#[0x110000]⟩, .int (2 ^ 2000)]
mutual
def D.py : D → PyData
  | .non => .none
  | .bl b => .bool b
  | .int i => .int i
  | .str s => .str s
  | .tup ds => .tuple (D.pys ds)
  | .lst ds => .list (D.pys ds)
  | .scr ds => .list (D.pys ds)
  | .obj _ _ _ => junkP
  | .raw _ => junkP
  | .dct _ _ => junkP
def D.pys : List D → List PyData
  | [] => []
  | d :: ds => D.py d :: D.pys ds
end
mutual
def D.noO : D → Bool
  | .tup ds => D.noOs ds
  | .lst ds => D.noOs ds
  | .scr ds => D.noOs ds
  | .obj _ _ _ => false
  | .raw _ => false
  | .dct _ _ => false
  | _ => true
def D.noOs : List D → Bool
  | [] => true
  | d :: ds => D.noO d && D.noOs ds
end
/-- no object at the top -/
def D.std : D → Bool
  | .obj _ _ _ => false
  | .raw _ => false
  | _ => true
/-- what is shown: dicts too -/
def keyP : Key → PyData
  | .inl i => .int i
  | .inr s => .str s
mutual
def D.pyR : D → PyData
  | .non => .none
  | .bl b => .bool b
  | .int i => .int i
  | .str s => .str s
  | .tup ds => .tuple (D.pysR ds)
  | .lst ds => .list (D.pysR ds)
  | .scr ds => .list (D.pysR ds)
  | .obj _ _ _ => junkP
  | .raw _ => junkP
  | .dct ks ds => .dict ((ks.map keyP).zip (D.pysR ds))
def D.pysR : List D → List PyData
  | [] => []
  | d :: ds => D.pyR d :: D.pysR ds
end
def eqD (d e : D) : Bool := PyData.eqv d.py e.py
def okD (d : D) : Prop := SeqAt.shaped d.py = true
def shD (d : D) : Str := d.pyR.shown
def okS (d : D) : Prop := d.pyR.showable = true ∧ d.pyR.depth ≤ 64 ∧ d.pyR.shown.length ≤ sizeLine

abbrev RK := Rv → Prop
def mulOk (i j : Int) : Prop := ((-(2 ^ 64) < i ∧ i < 2 ^ 64) ∨ (-(2 ^ 64) < j ∧ j < 2 ^ 64)) ∨ i.natAbs.log2 + j.natAbs.log2 < 1000000

def binP : Operator → D → D → RK → Prop
  | .Add, .int i, .int j, R => R (.va (.int (i + j)))
  | .Add, .str x, .str y, R => x.length + y.length ≤ sizeLine ∧ R (.va (.str (x ++ y)))
  | .Add, .lst a, .lst b, R => a.length + b.length ≤ sizeLine ∧ R (.fr (.lst (a ++ b)))
  | .Add, .tup a, .tup b, R => a.length + b.length ≤ sizeLine ∧ R (.va (.tup (a ++ b)))
  | .Sub, .int i, .int j, R => R (.va (.int (i - j)))
  | .Mult, .int i, .int j, R => mulOk i j ∧ R (.va (.int (i * j)))
  | .Mult, .tup ds, .int k, R => (ds ≠ [] ∧ 1 ≤ k ∧ ds.length * k.toNat ≤ sizeLine) ∧ R (.va (.tup (List.replicate k.toNat ds).flatten))
  | .Mult, .lst ds, .int k, R => (-(2 ^ 63) ≤ k ∧ k < 2 ^ 63 ∧ ds.length * k.toNat ≤ sizeLine) ∧ R (.fr (.lst (List.replicate k.toNat ds).flatten))
  | .FloorDiv, .int i, .int j, R => (0 < j ∧ j.natAbs.log2 < 9000) ∧ R (.va (.int (i / j)))
  | .Mod, .int i, .int j, R => 0 < j ∧ R (.va (.int (i % j)))
  | .Pow, .int i, .int j, R => (0 ≤ j ∧ j ≤ 1000000 ∧ i.natAbs < 2 ^ 64) ∧ R (.va (.int (i ^ j.toNat)))
  | .LShift, .int i, .int j, R => (0 ≤ j ∧ j ≤ 1000000 ∧ i.natAbs < 2 ^ 64) ∧ R (.va (.int (i * 2 ^ j.toNat)))
  | .RShift, .int i, .int j, R => 0 ≤ j ∧ R (.va (.int (i / 2 ^ j.toNat)))
  | .BitAnd, .int i, .int j, R => R (.va (.int (Builtin.bitAnd i j)))
  | .BitOr, .int i, .int j, R => R (.va (.int (Builtin.bitOr i j)))
  | .BitXor, .int i, .int j, R => R (.va (.int (Builtin.bitXor i j)))
  | _, _, _, _ => False
def D.isN : D → Bool
  | .non => true
  | _ => false
def vD : D → Option V
  | .non => some .non
  | .bl b => some (.bl b)
  | .int i => some (.int i)
  | .str s => some (.str s)
  | _ => none
def vDs : List D → Option (List V)
  | [] => some []
  | d :: r => match vD d, vDs r with
    | some v, some vs => some (v :: vs)
    | _, _ => none
def cmpP : CmpOp → D → D → RK → Prop
  | .Eq, .str x, .str y, R => R (.va (.bl (decide (x = y))))
  | .NotEq, .str x, .str y, R => R (.va (.bl (!decide (x = y))))
  | .Eq, d, e, R => okD d ∧ okD e ∧ R (.va (.bl (eqD d e)))
  | .NotEq, d, e, R => okD d ∧ okD e ∧ R (.va (.bl (!eqD d e)))
  | .Lt, .int i, .int j, R => R (.va (.bl (decide (i < j))))
  | .LtE, .int i, .int j, R => R (.va (.bl (decide (i ≤ j))))
  | .Gt, .int i, .int j, R => R (.va (.bl (decide (j < i))))
  | .GtE, .int i, .int j, R => R (.va (.bl (decide (j ≤ i))))
  | .Is, d, .non, R => R (.va (.bl d.isN))
  | .IsNot, d, .non, R => R (.va (.bl (!d.isN)))
  | .Is, .bl a, .bl b, R => R (.va (.bl (a == b)))
  | .IsNot, .bl a, .bl b, R => R (.va (.bl (!(a == b))))
  | .In, d, .lst ds, R => okD d ∧ okD (.lst ds) ∧ R (.va (.bl (ds.any fun e => eqD e d)))
  | .NotIn, d, .lst ds, R => okD d ∧ okD (.lst ds) ∧ R (.va (.bl (!ds.any fun e => eqD e d)))
  | .In, d, .tup ds, R => ∃ v vs, vD d = some v ∧ vDs ds = some vs ∧ R (.va (.bl (inV v vs)))
  | .NotIn, d, .tup ds, R => ∃ v vs, vD d = some v ∧ vDs ds = some vs ∧ R (.va (.bl (!inV v vs)))
  | _, _, _, _ => False
def ixP : D → D → RK → Prop
  | .lst ds, .int i, R => ∃ d, atI ds i = some d ∧ R (.va d)
  | .tup ds, .int i, R => ∃ d, atI ds i = some d ∧ R (.va d)
  | _, _, _ => False
def cutD (xs : List D) (lo hi : Option Int) : List D := (xs.drop (HT.sIx xs.length 0 lo)).take (HT.sIx xs.length xs.length hi - HT.sIx xs.length 0 lo)
def slP : D → Option Int → Option Int → RK → Prop
  | .lst ds, lo, hi, R => R (.fr (.lst (cutD ds lo hi)))
  | .scr ds, lo, hi, R => R (.fr (.lst (cutD ds lo hi)))
  | .tup ds, lo, hi, R => R (.va (.tup (cutD ds lo hi)))
  | _, _, _, _ => False

def attrD : D → Str → Option D
  | .obj _ ns ds, f => (ns.zip ds).lookup f
  | _, _ => none
/-- built-ins -/
inductive Bi where
  | len | abs | int | tuple | list | all | any | sum | repr | sorted | max | min | str
  deriving DecidableEq
def Bi.name : Bi → Str
  | .len => "len" | .abs => "abs" | .int => "int" | .tuple => "tuple" | .list => "list" | .all => "all" | .any => "any" | .sum => "sum" | .repr => "repr" | .sorted => "sorted" | .max => "max" | .min => "min" | .str => "str"
def bls? : List D → Option (List Bool)
  | [] => some []
  | .bl b :: r => (bls? r).map (b :: ·)
  | _ => none
def ints? : List D → Option (List Int)
  | [] => some []
  | .int b :: r => (ints? r).map (b :: ·)
  | _ => none
/-- the ints of a list or a tuple -/
def seqI? : D → Option (List Int)
  | .lst ds => ints? ds
  | .tup ds => ints? ds
  | _ => none
def bltP : Bi → List D → RK → Prop
  | .len, [.lst ds], R => R (.va (.int ds.length))
  | .len, [.scr ds], R => R (.va (.int ds.length))
  | .len, [.tup ds], R => R (.va (.int ds.length))
  | .len, [.str s], R => s.length ≤ sizeLine ∧ R (.va (.int s.length))
  | .abs, [.int i], R => R (.va (.int (if i < 0 then -i else i)))
  | .int, [.int i], R => R (.va (.int i))
  | .int, [.bl b], R => R (.va (.int (if b then 1 else 0)))
  | .tuple, [.lst ds], R => R (.va (.tup ds))
  | .tuple, [.tup ds], R => R (.va (.tup ds))
  | .list, [.lst ds], R => R (.fr (.lst ds))
  | .list, [.tup ds], R => R (.fr (.lst ds))
  | .all, [.lst ds], R => ∃ bs, bls? ds = some bs ∧ R (.va (.bl (bs.all id)))
  | .any, [.lst ds], R => ∃ bs, bls? ds = some bs ∧ R (.va (.bl (bs.any id)))
  | .sum, [.lst ds], R => ∃ ns, ints? ds = some ns ∧ R (.va (.int ns.sum))
  | .repr, [d], R => okS d ∧ R (.va (.str (shD d)))
  | .sorted, [.tup ds], R => ∃ ns, ints? ds = some ns ∧ ∀ ms : List Int, ms.Perm ns → ms.Pairwise (· ≤ ·) → R (.fr (.lst (ms.map .int)))
  | .sorted, [.lst ds], R => ∃ ns, ints? ds = some ns ∧ ∀ ms : List Int, ms.Perm ns → ms.Pairwise (· ≤ ·) → R (.fr (.lst (ms.map .int)))
  | .max, [.lst ds], R => ∃ ns, ints? ds = some ns ∧ 0 < ns.length ∧ ∀ m : Int, m ∈ ns → (∀ y ∈ ns, y ≤ m) → R (.va (.int m))
  | .min, [.lst ds], R => ∃ ns, ints? ds = some ns ∧ 0 < ns.length ∧ ∀ m : Int, m ∈ ns → (∀ y ∈ ns, m ≤ y) → R (.va (.int m))
  | .str, [.int i], R => i.natAbs.log2 < 1920 ∧ R (.va (.str (toString i)))
  | _, _, _ => False
/-- isinstance: whether the kind is the class of that name (bool is an int) -/
inductive Cn where
  | int | bool | str | list | tuple | dict
  deriving DecidableEq
def Cn.name : Cn → Str
  | .int => "int" | .bool => "bool" | .str => "str" | .list => "list" | .tuple => "tuple" | .dict => "dict"
inductive Kd where
  | non | bl | int | str | tup | lst | dct | oth
  deriving DecidableEq
def D.kd : D → Kd
  | .non => .non
  | .bl _ => .bl
  | .int _ => .int
  | .str _ => .str
  | .tup _ => .tup
  | .lst _ => .lst
  | .scr _ => .lst
  | .obj _ _ _ => .oth
  | .raw _ => .oth
  | .dct _ _ => .dct
def isK : Kd → Cn → Bool
  | .bl, .int => true
  | .bl, .bool => true
  | .int, .int => true
  | .str, .str => true
  | .lst, .list => true
  | .tup, .tuple => true
  | .dct, .dict => true
  | _, _ => false
def isD (d : D) (k : Cn) : Bool := isK d.kd k
def truD : D → Option Bool
  | .non => some false
  | .bl b => some b
  | .int i => some (i != 0)
  | .lst ds => some (!ds.isEmpty)
  | .tup ds => some (!ds.isEmpty)
  | .scr ds => some (!ds.isEmpty)
  | _ => none

/-! the words -/
mutual
inductive Tg where
  | name (i : Nat)
  | tup (ts : Tgs)
inductive Tgs where
  | nil
  | cons (t : Tg) (ts : Tgs)
end
mutual
inductive Ex where
  | var (i : Nat)
  | frz (i : Nat)
  | int (n : Int)
  | str (s : Str)
  | bl (b : Bool)
  | non
  | con (c : Nat)
  | bin (o : Operator) (a b : Ex)
  | neg (a : Ex)
  | cmp (o : CmpOp) (a b : Ex)
  | chain (o p : CmpOp) (a b c : Ex)
  | bop (isAnd : Bool) (es : Exs)
  | not (a : Ex)
  | ite (c a b : Ex)
  | tup (es : Exs)
  | lst (es : Exs)
  | ix (a i : Ex)
  | sl (a : Ex) (lo hi : Exs)
  | call (f : Nat) (es : Exs)
  | callk (f : Nat) (ns : List Str) (perm : List Nat) (es ks : Exs)
  | blt (b : Bi) (es : Exs)
  | isi (a : Ex) (cs : List Cn)
  | comp (g : Tg) (it : It) (c : Exs) (e : Ex) (own : List Nat)
  | bits (a : Ex)
  | attr (a : Ex) (f : Str)
  | lset (a : Ex)
  | lrng (a : Ex)
  | pop (j : Nat) (i : Ex)
  | gcd (es : Exs)
  | emp (neg : Bool) (a : Ex)
  | dn0
  | dn1 (a b : Ex)
  | comp2 (g : Tg) (it : It) (g1 : Tg) (it1 : It) (e : Ex) (own own1 : List Nat)
inductive Exs where
  | nil
  | cons (e : Ex) (es : Exs)
inductive It where
  | seq (e : Ex)
  | rng1 (a : Ex)
  | rng2 (a b : Ex)
  | enm (e : Ex)
  | zip (a b : Ex)
end
mutual
inductive Sm where
  | asg (g : Tg) (e : Ex)
  | alt (i : Nat) (e : Ex)
  | par (is : List Nat) (es : Exs)
  | setI (j : Nat) (i e : Ex)
  | app (j : Nat) (e : Ex)
  | ext (j : Nat) (e : Ex)
  | expr (e : Ex)
  | iff (c : Ex) (a b : Sms)
  | forr (g : Tg) (it : It) (b : Sms)
  | whil (c : Ex) (b : Sms)
  | ret (e : Ex)
  | pass
  | brk
  | cnt
  | never
inductive Sms where
  | nil
  | cons (s : Sm) (ss : Sms)
end

/-- what a def is worth: its arguments' slots, what is wanted of its value and of the slots of the lists that it may change -/
abbrev Fe := List Sl → (Rv → List Sl → Prop) → Prop
def br (k : Bool) (a b : Prop) : Prop := match k with
  | true => a
  | false => b
def cl (fe : Fe) (ss : List Sl) (k : Rv → List Sl → Prop) : Prop := fe ss k

def hasL (ρ : En) (j : Nat) : Bool := match ρ[j]? with
  | some (.ow (.lst _)) => true
  | some (.mu (.lst _)) => true
  | _ => false
/-- at a place of a slot's list -/
def onL (ρ : En) (j : Nat) (K : (D → Sl) → List D → Prop) : Prop := match ρ[j]? with
  | some (.ow (.lst ds)) => K .ow ds
  | some (.mu (.lst ds)) => K .mu ds
  | _ => False
theorem onL_at {ρ : En} {j : Nat} {K : (D → Sl) → List D → Prop} (h : onL ρ j K) : ∃ f ds, (f = .ow ∨ f = .mu) ∧ ρ[j]? = some (f (.lst ds)) ∧ K f ds := by
  unfold onL at h
  split at h
  · exact ⟨_, _, .inl rfl, by assumption, h⟩
  · exact ⟨_, _, .inr rfl, by assumption, h⟩
  · exact h.elim
def vwA (ρ : En) : Av → Option D
  | .dat d => some d
  | .ref i => match ρ[i]? with
    | some (.va d) => some d
    | some (.ow d) => some d
    | some (.mu d) => some d
    | _ => none
def datA (ρ : En) : Av → Option D
  | .dat d => some d
  | .ref i => match ρ[i]? with
    | some (.va d) => some d
    | _ => none
def vwAs (ρ : En) : List Av → Option (List D)
  | [] => some []
  | a :: r => match vwA ρ a, vwAs ρ r with
    | some d, some ds => some (d :: ds)
    | _, _ => none
def datAs (ρ : En) : List Av → Option (List D)
  | [] => some []
  | a :: r => match datA ρ a, datAs ρ r with
    | some d, some ds => some (d :: ds)
    | _, _ => none
/-- the callee's slots -/
def argS (ρ : En) : List Av → Option (List Sl)
  | [] => some []
  | .dat d :: r => (argS ρ r).map (.va d :: ·)
  | .ref i :: r => match ρ[i]? with
    | some (.va d) => (argS ρ r).map (.va d :: ·)
    | some (.ow d) => (argS ρ r).map (.mu d :: ·)
    | some (.mu d) => (argS ρ r).map (.mu d :: ·)
    | _ => none
def refsA : List Av → List Nat
  | [] => []
  | .dat _ :: r => refsA r
  | .ref i :: r => i :: refsA r
/-- the caller's slots behind the call -/
def updA (ρ : En) : List Av → List Sl → En
  | .ref i :: r, .mu d :: o => updA (match ρ[i]? with
      | some (.ow _) => ρ.set i (.ow d)
      | some (.mu _) => ρ.set i (.mu d)
      | _ => ρ) r o
  | _ :: r, _ :: o => updA ρ r o
  | _, _ => ρ

def Tgs.len : Tgs → Nat
  | .nil => 0
  | .cons _ ts => ts.len + 1
mutual
def tgP : Tg → D → En → (En → Prop) → Prop
  | .name i, d, ρ, R => match ρ[i]? with
    | some .no => R (ρ.set i (.va d))
    | some (.va _) => R (ρ.set i (.va d))
    | _ => False
  | .tup ts, .tup ds, ρ, R => ts.len = ds.length ∧ tgsP ts ds ρ R
  | .tup _, _, _, _ => False
def tgsP : Tgs → List D → En → (En → Prop) → Prop
  | .nil, [], ρ, R => R ρ
  | .cons t ts, d :: ds, ρ, R => tgP t d ρ fun ρ' => tgsP ts ds ρ' R
  | _, _, _, _ => False
end
def wipeE (own : List Nat) (ρ : En) : En := own.foldl (fun ρ i => ρ.set i .no) ρ
def backE (own : List Nat) (ρ ρ' : En) : En := own.foldl (fun r i => r.set i (ρ.getD i .no)) ρ'
def ownOk (own : List Nat) (ρ : En) : Prop := ∀ i ∈ own, ρ[i]? = some .no ∨ ∃ d, ρ[i]? = some (.va d)
/-- the walked slot has not changed -/
def watchOk (w : Option Nat) (ρ ρ' : En) : Prop := match w with
  | none => True
  | some i => ρ'[i]? = ρ[i]?
/-- while a slot's list is walked the slot is nobody's to give away -/
def lockE (w : Option Nat) (ρ : En) : En := match w with
  | none => ρ
  | some i => match ρ[i]? with
    | some (.ow d) => ρ.set i (.mu d)
    | _ => ρ
def openE (w : Option Nat) (ρ0 ρ : En) : En := match w with
  | none => ρ
  | some i => match ρ0[i]?, ρ[i]? with
    | some (.ow _), some (.mu d) => ρ.set i (.ow d)
    | _, _ => ρ
/-- the same, with the slots' row written out -/
def forceS : Sl → (Sl → Prop) → Prop
  | .no, K => K .no
  | .va d, K => K (.va d)
  | .ow d, K => K (.ow d)
  | .mu d, K => K (.mu d)
def force : En → (En → Prop) → Prop
  | [], K => K []
  | x :: r, K => forceS x fun x => force r fun r => K (x :: r)
theorem forceS_eq {x : Sl} {K : Sl → Prop} : forceS x K = K x := by cases x <;> rfl
theorem force_eq : ∀ {ρ : En} {K : En → Prop}, force ρ K = K ρ
  | [], _ => rfl
  | x :: r, K => by
    unfold force
    rw [forceS_eq, force_eq]
def compP (w : Option Nat) (ρ0 : En) (own : List Nat) (g : D → En → (En → Prop) → Prop) (c : En → (Bool → En → Prop) → Prop) (e : En → (D → En → Prop) → Prop) : List D → List D → En → (List D → En → Prop) → Prop
  | [], acc, ρ, R => R acc ρ
  | d :: ds, acc, ρ, R => g d ρ fun ρ1 => c ρ1 fun b ρ2 => match b with
    | true => e ρ2 fun y ρ3 => acc.length < sizeLine ∧ watchOk w ρ0 ρ3 ∧ force (wipeE own ρ3) fun ρ3 => compP w ρ0 own g c e ds (acc ++ [y]) ρ3 R
    | false => watchOk w ρ0 ρ2 ∧ force (wipeE own ρ2) fun ρ2 => compP w ρ0 own g c e ds acc ρ2 R
/-- two clauses, neither with a test -/
def inP (own1 : List Nat) (g1 : D → En → (En → Prop) → Prop) (e : En → (D → En → Prop) → Prop) : List D → List D → En → (List D → En → Prop) → Prop
  | [], acc, ρ, R => R acc ρ
  | d :: ds, acc, ρ, R => g1 d ρ fun ρ1 => e ρ1 fun y ρ2 => acc.length < sizeLine ∧ inP own1 g1 e ds (acc ++ [y]) (wipeE own1 ρ2) R
def comp2P (w : Option Nat) (ρ0 : En) (own own1 : List Nat) (g : D → En → (En → Prop) → Prop) (i1 : En → (List D → Option Nat → En → Prop) → Prop) (g1 : D → En → (En → Prop) → Prop) (e : En → (D → En → Prop) → Prop) : List D → List D → En → (List D → En → Prop) → Prop
  | [], acc, ρ, R => R acc ρ
  | d :: ds, acc, ρ, R => g d ρ fun ρ1 => i1 ρ1 fun es w1 ρ2 => w1 = none ∧ inP own1 g1 e es acc (wipeE own1 ρ2) fun acc ρ3 => watchOk w ρ0 ρ3 ∧ comp2P w ρ0 own own1 g i1 g1 e ds acc (wipeE own ρ3) R
def gcdP : List D → RK → Prop
  | [.int i, .int j], R => R (.va (.int ((Nat.gcd i.natAbs j.natAbs : Nat) : Int)))
  | _, _ => False
def enumD (i : Nat) : List D → List D
  | [] => []
  | d :: ds => .tup [.int i, d] :: enumD (i + 1) ds
def zipD : List D → List D → List D
  | a :: r, b :: s => .tup [a, b] :: zipD r s
  | _, _ => []
def rngD (lo : Int) (n : Nat) : List D := (List.range n).map fun i : Nat => .int (lo + i)
def itemsD : D → Option (List D)
  | .lst ds => some ds
  | .tup ds => some ds
  | .scr ds => some ds
  | _ => none
def seqD : D → Option (List D)
  | .lst ds => some ds
  | .scr ds => some ds
  | _ => none
def pairsD : D → D → Option (List D)
  | .tup ds, .tup es => some (zipD ds es)
  | d, e => match seqD d, seqD e with
    | some ds, some es => some (zipD ds es)
    | _, _ => none
def Rv.watch (ρ : En) : Rv → Option Nat
  | .vw i => match ρ[i]? with
    | some (.va _) => none
    | _ => some i
  | _ => none
def valR (ρ : En) (R : D → En → Prop) : Rv → Prop
  | .va d => R d ρ
  | .fr d => R d ρ
  | .vw i => match ρ[i]? with
    | some (.va d) => R d ρ
    | _ => False

/-- a dict's key -/
def keyR : Rv → Option Key
  | .va (.int i) => some (.inl i)
  | .va (.str s) => some (.inr s)
  | _ => none
/-- the arguments in the parameters' order -/
def permL {α : Type} (perm : List Nat) (l : List α) : List α := perm.filterMap fun i => l[i]?
section
variable (F : List Fe) (C : List D)
mutual
def ex : Ex → En → (Rv → En → Prop) → Prop
  | .var i, ρ, R => match ρ[i]? with
    | some (.va d) => R (.va d) ρ
    | some (.ow _) => R (.vw i) ρ
    | some (.mu _) => R (.vw i) ρ
    | _ => False
  | .frz i, ρ, R => match ρ[i]? with
    | some (.va d) => R (.va d) ρ
    | some (.ow d) => R (.va d) (ρ.set i (.va d))
    | _ => False
  | .int n, ρ, R => R (.va (.int n)) ρ
  | .str s, ρ, R => R (.va (.str s)) ρ
  | .bl b, ρ, R => R (.va (.bl b)) ρ
  | .non, ρ, R => R (.va .non) ρ
  | .con c, ρ, R => match C[c]? with
    | some d => R (.va d) ρ
    | none => False
  | .bin o a b, ρ, R => ex a ρ fun r ρ1 => ex b ρ1 fun s ρ2 => ∃ d e, vwA ρ2 r.av = some d ∧ vwA ρ2 s.av = some e ∧ binP o d e fun t => R t ρ2
  | .neg a, ρ, R => ex a ρ fun r ρ1 => ∃ i, vwA ρ1 r.av = some (.int i) ∧ R (.va (.int (-i))) ρ1
  | .cmp o a b, ρ, R => ex a ρ fun r ρ1 => ex b ρ1 fun s ρ2 => ∃ d e, vwA ρ2 r.av = some d ∧ vwA ρ2 s.av = some e ∧ cmpP o d e fun t => R t ρ2
  | .chain o p a b c, ρ, R => ex a ρ fun r ρ1 => ex b ρ1 fun s ρ2 => ∃ d e, vwA ρ2 r.av = some d ∧ vwA ρ2 s.av = some e ∧ cmpP o d e fun t => ∃ k, t = .va (.bl k) ∧ br k (ex c ρ2 fun u ρ3 => ∃ e' f, vwA ρ3 s.av = some e' ∧ vwA ρ3 u.av = some f ∧ cmpP p e' f fun t => R t ρ3) (R (.va (.bl false)) ρ2)
  | .bop k es, ρ, R => bop k es ρ R
  | .not a, ρ, R => ex a ρ fun r ρ1 => ∃ d k, vwA ρ1 r.av = some d ∧ truD d = some k ∧ R (.va (.bl (!k))) ρ1
  | .ite c a b, ρ, R => ex c ρ fun r ρ1 => ∃ d k, vwA ρ1 r.av = some d ∧ truD d = some k ∧ br k (ex a ρ1 R) (ex b ρ1 R)
  | .tup es, ρ, R => exs es ρ fun as ρ' => ∃ ds, datAs ρ' as = some ds ∧ ds.length ≤ sizeLine ∧ R (.va (.tup ds)) ρ'
  | .lst es, ρ, R => exs es ρ fun as ρ' => ∃ ds, datAs ρ' as = some ds ∧ ds.length ≤ sizeLine ∧ R (.fr (.lst ds)) ρ'
  | .ix a i, ρ, R => ex a ρ fun r ρ1 => ex i ρ1 fun s ρ2 => ∃ d e, vwA ρ2 r.av = some d ∧ vwA ρ2 s.av = some e ∧ ixP d e fun t => R t ρ2
  | .sl a lo hi, ρ, R => ex a ρ fun r ρ1 => part lo ρ1 fun l ρ2 => part hi ρ2 fun h ρ3 => ∃ d, vwA ρ3 r.av = some d ∧ slP d l h fun t => R t ρ3
  | .call f es, ρ, R => exs es ρ fun as ρ' => ∃ fe ss, F[f]? = some fe ∧ argS ρ' as = some ss ∧ (refsA as).Nodup ∧ cl fe ss fun r outs => R r (updA ρ' as outs)
  | .callk f _ perm es ks, ρ, R => exs es ρ fun as ρ1 => exs ks ρ1 fun bs ρ' => ∃ fe ss, F[f]? = some fe ∧ (permL perm (as ++ bs)).length = perm.length ∧ argS ρ' (permL perm (as ++ bs)) = some ss ∧ (refsA (permL perm (as ++ bs))).Nodup ∧
      cl fe ss fun r outs => R r (updA ρ' (permL perm (as ++ bs)) outs)
  | .blt b es, ρ, R => exs es ρ fun as ρ' => ∃ ds, vwAs ρ' as = some ds ∧ bltP b ds fun t => R t ρ'
  | .attr a f, ρ, R => ex a ρ fun r ρ1 => ∃ d e, vwA ρ1 r.av = some d ∧ attrD d f = some e ∧ R (.va e) ρ1
  | .pop j i, ρ, R => hasL ρ j = true ∧ ex i ρ fun s ρ1 => ∃ k, s = .va (.int k) ∧ onL ρ1 j fun f ds => ds.length ≤ sizeLine ∧ ∃ n, ixN ds.length k = some n ∧ ∃ d, ds[n]? = some d ∧ R (.va d) (ρ1.set j (f (.lst (ds.eraseIdx n))))
  | .lrng a, ρ, R => ex a ρ fun r ρ1 => ∃ j, r = .va (.int j) ∧ (-(2 ^ 62) ≤ j ∧ j ≤ 16777216) ∧ R (.fr (.lst (rngD 0 j.toNat))) ρ1
  | .lset a, ρ, R => ex a ρ fun r ρ1 => ∃ d ns, vwA ρ1 r.av = some d ∧ seqI? d = some ns ∧ ns.length ≤ 4000 ∧ ∀ k : Nat, k ≤ ns.length → (k = ns.length ↔ ns.Nodup) → R (.va (.int k)) ρ1
  | .bits a, ρ, R => ex a ρ fun r ρ1 => ∃ i, vwA ρ1 r.av = some (.int i) ∧ R (.va (.int (Builtin.Int.intBits i : Nat))) ρ1
  | .gcd es, ρ, R => exs es ρ fun as ρ' => ∃ ds, vwAs ρ' as = some ds ∧ gcdP ds fun t => R t ρ'
  | .emp neg a, ρ, R => ex a ρ fun r ρ1 => ∃ ds, vwA ρ1 r.av = some (.lst ds) ∧ R (.va (.bl (ds.isEmpty != neg))) ρ1
  | .dn0, ρ, R => R (.va (.dct [] [])) ρ
  | .dn1 a b, ρ, R => ex a ρ fun r ρ1 => ∃ k, keyR r = some k ∧ ex b ρ1 fun s ρ2 => ∃ d, datA ρ2 s.av = some d ∧ R (.va (.dct [k] [d])) ρ2
  | .comp2 g it g1 it1 e own own1, ρ, R => itm it ρ fun ds w ρ1 => ownOk own ρ1 ∧
      comp2P w (wipeE own (lockE w ρ1)) own own1 (tgP g) (fun ρ2 K => itm it1 ρ2 K) (tgP g1) (fun ρ2 K => ex e ρ2 fun r ρ3 => valR ρ3 K r) ds [] (wipeE own (lockE w ρ1)) fun acc ρ4 => R (.fr (.lst acc)) (openE w ρ1 (backE own ρ1 ρ4))
  | .isi a cs, ρ, R => ex a ρ fun r ρ1 => ∃ d, vwA ρ1 r.av = some d ∧ d.std = true ∧ R (.va (.bl (cs.any (isD d)))) ρ1
  | .comp g it c e own, ρ, R => itm it ρ fun ds w ρ1 => ownOk own ρ1 ∧
      compP w (wipeE own (lockE w ρ1)) own (tgP g) (fun ρ2 K => tsts c ρ2 K) (fun ρ2 K => ex e ρ2 fun r ρ3 => valR ρ3 K r) ds [] (wipeE own (lockE w ρ1)) fun acc ρ4 => R (.fr (.lst acc)) (openE w ρ1 (backE own ρ1 ρ4))
def exs : Exs → En → (List Av → En → Prop) → Prop
  | .nil, ρ, R => R [] ρ
  | .cons e es, ρ, R => ex e ρ fun r ρ1 => exs es ρ1 fun as ρ2 => R (r.av :: as) ρ2
def bop (k : Bool) : Exs → En → (Rv → En → Prop) → Prop
  | .nil, _, _ => False
  | .cons e es, ρ, R => match es with
    | .nil => ex e ρ R
    | .cons e' es' => ex e ρ fun r ρ1 => ∃ b, r = .va (.bl b) ∧ br (b == k) (bop k (.cons e' es') ρ1 R) (R (.va (.bl b)) ρ1)
def part : Exs → En → (Option Int → En → Prop) → Prop
  | .nil, ρ, R => R none ρ
  | .cons e _, ρ, R => ex e ρ fun r ρ1 => ∃ i, r = .va (.int i) ∧ R (some i) ρ1
def tsts : Exs → En → (Bool → En → Prop) → Prop
  | .nil, ρ, R => R true ρ
  | .cons c _, ρ, R => ex c ρ fun r ρ1 => ∃ d k, vwA ρ1 r.av = some d ∧ truD d = some k ∧ R k ρ1
def itm : It → En → (List D → Option Nat → En → Prop) → Prop
  | .seq e, ρ, R => ex e ρ fun r ρ1 => ∃ d ds, vwA ρ1 r.av = some d ∧ itemsD d = some ds ∧ R ds (r.watch ρ1) ρ1
  | .rng1 a, ρ, R => ex a ρ fun r ρ1 => ∃ j, r = .va (.int j) ∧ -(2 ^ 62) ≤ j ∧ j < 2 ^ 62 ∧ R (rngD 0 j.toNat) none ρ1
  | .rng2 a b, ρ, R => ex a ρ fun r ρ1 => ex b ρ1 fun s ρ2 => ∃ i j, r = .va (.int i) ∧ s = .va (.int j) ∧ (-(2 ^ 62) ≤ i ∧ i < 2 ^ 62 ∧ -(2 ^ 62) ≤ j ∧ j < 2 ^ 62) ∧ R (rngD i (j - i).toNat) none ρ2
  | .enm e, ρ, R => ex e ρ fun r ρ1 => ∃ d ds, vwA ρ1 r.av = some d ∧ itemsD d = some ds ∧ R (enumD 0 ds) (r.watch ρ1) ρ1
  | .zip a b, ρ, R => ex a ρ fun r ρ1 => ex b ρ1 fun s ρ2 => ∃ d e ps, vwA ρ2 r.av = some d ∧ vwA ρ2 s.av = some e ∧ pairsD d e = some ps ∧ (r.watch ρ2 = none ∧ s.watch ρ2 = none) ∧ R ps none ρ2
end
def tst (c : Ex) (ρ : En) (R : Bool → En → Prop) : Prop := ex F C c ρ fun r ρ1 => ∃ d k, vwA ρ1 r.av = some d ∧ truD d = some k ∧ R k ρ1
end

/-! statements -/
inductive Out where
  | nxt
  | brk
  | cnt
  | ret (r : Rv)
def forP (w : Option Nat) (ρ0 : En) (g : D → En → (En → Prop) → Prop) (b : En → (Out → En → Prop) → Prop) : List D → En → (Out → En → Prop) → Prop
  | [], ρ, R => R .nxt ρ
  | d :: ds, ρ, R => g d ρ fun ρ1 => force ρ1 fun ρ1 => b ρ1 fun o ρ2 => match o with
    | .nxt => watchOk w ρ0 ρ2 ∧ forP w ρ0 g b ds ρ2 R
    | .cnt => watchOk w ρ0 ρ2 ∧ forP w ρ0 g b ds ρ2 R
    | .brk => R .nxt ρ2
    | .ret r => R (.ret r) ρ2
/-- a value given to a name -/
def nameP (i : Nat) (ρ : En) (R : En → Prop) : Rv → Prop
  | .va d => match ρ[i]? with
    | some .no => R (ρ.set i (.va d))
    | some (.va _) => R (ρ.set i (.va d))
    | some (.ow _) => R (ρ.set i (.va d))
    | _ => False
  | .fr d => match ρ[i]? with
    | some .no => R (ρ.set i (.ow d))
    | some (.va _) => R (ρ.set i (.ow d))
    | some (.ow _) => R (ρ.set i (.ow d))
    | _ => False
  | .vw _ => False
def asgP (g : Tg) (ρ : En) (R : En → Prop) (r : Rv) : Prop := match g with
  | .name i => nameP i ρ R r
  | .tup ts => valR ρ (fun d ρ => tgP (.tup ts) d ρ R) r
def parP : List Nat → List Rv → En → (En → Prop) → Prop
  | [], [], ρ, R => R ρ
  | i :: is, r :: rs, ρ, R => nameP i ρ (fun ρ' => parP is rs ρ' R) r
  | _, _, _, _ => False
/-- a returned value -/
def retP (ρ : En) (R : Rv → En → Prop) : Rv → Prop
  | .va d => R (.va d) ρ
  | .fr d => R (.fr d) ρ
  | .vw i => match ρ[i]? with
    | some (.ow d) => R (.fr d) (ρ.set i .no)
    | some (.va d) => R (.va d) ρ
    | _ => False
section
variable (F : List Fe) (C : List D)
/-- data, or a new list -/
def noVw (r : Rv) (K : Prop) : Prop := match r with
  | .va _ => K
  | .fr _ => K
  | .vw _ => False
def exr : Exs → En → (List Rv → En → Prop) → Prop
  | .nil, ρ, R => R [] ρ
  | .cons e es, ρ, R => ex F C e ρ fun r ρ1 => noVw r (exr es ρ1 fun rs ρ2 => R (r :: rs) ρ2)
mutual
def sm : Sm → En → (Out → En → Prop) → Prop
  | .asg g e, ρ, R => ex F C e ρ fun r ρ1 => asgP g ρ1 (R .nxt) r
  | .alt i e, ρ, R => ex F C e ρ fun r ρ1 => nameP i ρ1 (R .nxt) r
  | .par is es, ρ, R => exr F C es ρ fun rs ρ1 => parP is rs ρ1 (R .nxt)
  | .setI j i e, ρ, R => ex F C e ρ fun r ρ1 => hasL ρ1 j = true ∧ ex F C i ρ1 fun s ρ2 => ∃ d k n, datA ρ2 r.av = some d ∧ s = .va (.int k) ∧
      match ρ2[j]? with
      | some (.ow (.lst ds)) => ixN ds.length k = some n ∧ R .nxt (ρ2.set j (.ow (.lst (ds.set n d))))
      | some (.mu (.lst ds)) => ixN ds.length k = some n ∧ R .nxt (ρ2.set j (.mu (.lst (ds.set n d))))
      | _ => False
  | .app j e, ρ, R => hasL ρ j = true ∧ ex F C e ρ fun r ρ1 => ∃ d, datA ρ1 r.av = some d ∧
      match ρ1[j]? with
      | some (.ow (.lst ds)) => ds.length < sizeLine ∧ R .nxt (ρ1.set j (.ow (.lst (ds ++ [d]))))
      | some (.mu (.lst ds)) => ds.length < sizeLine ∧ R .nxt (ρ1.set j (.mu (.lst (ds ++ [d]))))
      | _ => False
  | .ext j e, ρ, R => hasL ρ j = true ∧ ex F C e ρ fun r ρ1 => ∃ es, vwA ρ1 r.av = some (.lst es) ∧
      match ρ1[j]? with
      | some (.ow (.lst ds)) => ds.length + es.length ≤ sizeLine ∧ R .nxt (ρ1.set j (.ow (.lst (ds ++ es))))
      | some (.mu (.lst ds)) => ds.length + es.length ≤ sizeLine ∧ R .nxt (ρ1.set j (.mu (.lst (ds ++ es))))
      | _ => False
  | .expr e, ρ, R => ex F C e ρ fun _ ρ1 => R .nxt ρ1
  | .iff c a b, ρ, R => tst F C c ρ fun k ρ1 => br k (sms a ρ1 R) (sms b ρ1 R)
  | .forr g it b, ρ, R => itm F C it ρ fun ds w ρ1 => force ρ1 fun ρ1 => forP w (lockE w ρ1) (tgP g) (fun ρ2 K => sms b ρ2 K) ds (lockE w ρ1) fun o ρ2 => R o (openE w ρ1 ρ2)
  | .whil c b, ρ, R => ∃ W : Nat → En → Prop, (∃ m, W m ρ) ∧ ∀ m ρ1, W m ρ1 → tst F C c ρ1 fun k ρ2 => match k with
    | false => R .nxt ρ2
    | true => sms b ρ2 fun o ρ3 => match o with
      | .nxt => ∃ m', m' < m ∧ W m' ρ3
      | .cnt => ∃ m', m' < m ∧ W m' ρ3
      | .brk => R .nxt ρ3
      | .ret r => R (.ret r) ρ3
  | .ret e, ρ, R => ex F C e ρ fun r ρ1 => retP ρ1 (fun r ρ => R (.ret r) ρ) r
  | .pass, ρ, R => R .nxt ρ
  | .brk, ρ, R => R .brk ρ
  | .cnt, ρ, R => R .cnt ρ
  | .never, _, _ => False
def sms : Sms → En → (Out → En → Prop) → Prop
  | .nil, ρ, R => R .nxt ρ
  | .cons s ss, ρ, R => sm s ρ fun o ρ1 => match o with
    | .nxt => force ρ1 fun ρ1 => sms ss ρ1 R
    | .brk => R .brk ρ1
    | .cnt => R .cnt ρ1
    | .ret r => R (.ret r) ρ1
end
/-- a def: n its number of names, p of parameters -/
def outE : List Sl → En → List Sl
  | [], _ => []
  | .mu _ :: ss, .mu d :: r => .mu d :: outE ss r
  | _ :: ss, _ :: r => .no :: outE ss r
  | _ :: ss, [] => .no :: outE ss []
def noOw : List Sl → Bool
  | [] => true
  | .ow _ :: _ => false
  | _ :: r => noOw r
def runF (b : Sms) (p n : Nat) (ss : List Sl) (R : Rv → List Sl → Prop) : Prop :=
  (ss.length = p ∧ p ≤ n) ∧ noOw ss = true ∧ force (ss ++ List.replicate (n - p) .no) fun ρ => sms F C b ρ fun o ρ => match o with
    | .nxt => R (.va .non) (outE ss ρ)
    | .ret r => R r (outE ss ρ)
    | _ => False
end
end DL

namespace DL
open PySem PySem.Spec PyProof.Rows L2
/-! a tuple times an int from 1 on -/
theorem tuple_mul1 (l : Addr) (items : Array Value) (n : Nat) (sl : Array (Option Value)) (dd : Option Addr) (u : Tok) :
    Meets (Builtin.«tuple.__mul__» ⟨[.ref l, .int 1 u], []⟩) (fun _ R s => s.heap.get? l = some { cls := .type "tuple", dict := dd, data := .seq items n, slots := sl } ∧ R (.ok (.ret (Value.ref l))) s) :=
  .of_wp fun prog w A R s h => by
    obtain ⟨hp, g, d, tk, os⟩ := s
    obtain ⟨hl, h⟩ := h
    have f1 := AutoSeq1.idx_int
    wp_walk using wpAny_loadPart' hl
    exact ⟨_, rfl, h⟩
def rMulT (K : PySem.W.Frag) : R2 := fun x y H Q => ∃ l k xs, x = .ref l ∧ y = .int k ∧ SqT K H l xs ∧ xs ≠ [] ∧ xs.length * k.toNat ≤ sizeLine ∧
  ((k = 1 ∧ Q (.ref l) H) ∨ (2 ≤ k ∧ ∀ p, H p = none → Q (.ref p) (upd H p (.tup (List.replicate k.toNat xs).flatten))))
section
variable {X : Cx}
theorem vals_rep {xs : List V} {its : List Value} (r : Vals xs its) : ∀ m : Nat, Vals (List.replicate m xs).flatten (List.replicate m its).flatten
  | 0 => .nil
  | m + 1 => by
    rw [List.replicate_succ, List.replicate_succ, List.flatten_cons, List.flatten_cons]
    exact r.append (vals_rep r m)
theorem op_mulT : OpR X (binaryOp .Mult) (rMulT X.K) := by
  intro pins s σ H x y v u Q I rx ry h
  obtain ⟨l, k, xs, rfl, rfl, hT, hne, hz, q⟩ := h
  cases rx
  obtain ⟨t, rfl⟩ := ry
  obtain ⟨its, r, ⟨⟨cls, dd, data, sl⟩, ho, hc, n, hd⟩, hs⟩ := I.tuple hT
  simp only at hc hd
  subst hc hd
  have hle : its.length = xs.length := r.length.symm
  have pos : 0 < its.length := by
    rw [hle]
    exact List.length_pos_iff.mpr hne
  have go : ∀ {Q' : Value → Shared → Prop}, (wpAny (model X.prog X.w) X.A (call (.builtin "tuple.__mul__") [.ref l, .int k t]) Q' X.xe s) → wpAny (model X.prog X.w) X.A (binaryOp .Mult (.ref l) (.int k t)) Q' X.xe s := fun h =>
    wpAny_binaryOp_repeat_ref (T := "tuple") (U := "int") (by decide) ⟨_, ho, rfl⟩ (fun s' => typeIs_int s' k t) noFill_tuple_mul F.fills_int_mul F.slot_int_rmul repeat_tuple F.slot_int_index.lookup
      (call_meets F.slot_int_rmul (typeIs_int s k t) F.entry_int_rmul (F.args_int_rmul_2 _ _) (int_rmul_tuple k t l its.toArray n dd sl) ⟨ho, rfl, ⟨_, ho, rfl⟩, h⟩)
  rcases q with ⟨rfl, q⟩ | ⟨k2, q⟩
  · exact go (call_meets F.slot_tuple_mul ⟨_, ho, rfl⟩ F.entry_tuple_mul (F.args_tuple_mul_2 _ _) (tuple_mul1 l its.toArray n sl dd t) ⟨ho, ⟨.ref l, H, I, rfl, q⟩⟩)
  · have flen : (List.replicate k.toNat its).flatten.length ≤ sizeLine := by
      rw [PyProof.Rows.lm_len_rep_flat, hle, Nat.mul_comm]
      exact hz
    have hm : ((its.toArray.size : Nat) : Int) * k = ((xs.length * k.toNat : Nat) : Int) := by
      rw [List.size_toArray, hle, Int.natCast_mul, Int.toNat_of_nonneg (by omega)]
    have kz : k.toNat ≤ sizeLine := Nat.le_trans (Nat.le_mul_of_pos_left _ (by omega)) hz
    rw [sizeLine_eq] at hz kz
    have hi : its.toArray.isEmpty = false := by
      cases its with
      | nil => exact absurd pos (by decide)
      | cons a b => rfl
    have c0 : (decide (k < -(2 ^ 63)) || decide (k ≥ 2 ^ 63)) = false := by
      rw [decide_eq_false (by omega), decide_eq_false (by omega)] <;> rfl
    have c1 : (its.toArray.isEmpty || k == 1) = false := by
      rw [hi, Bool.false_or]
      exact beq_eq_false_iff_ne.mpr (by omega)
    have c2 : (decide (k ≤ 0) || its.toArray.isEmpty) = false := by
      rw [hi, Bool.or_false]
      exact decide_eq_false (by omega)
    have c4 : Builtin.Tuple.tupleTooMany (((its.toArray.size : Nat) : Int) * k) = false := by
      unfold Builtin.Tuple.tupleTooMany
      rw [hm, sizeLine_eq]
      exact decide_eq_false (by omega)
    refine go (call_meets F.slot_tuple_mul ⟨_, ho, rfl⟩ F.entry_tuple_mul (F.args_tuple_mul_2 _ _) (tuple_mulW l its.toArray n dd sl k t c0 c1 c2 (by rw [hm]; omega) c4 (by rw [size_rep, List.size_toArray]; exact flen)) ⟨ho, ?_⟩)
    rw [size_rep]
    exact ⟨.ref s.heap.objs.size, upd H s.heap.objs.size (.tup (List.replicate k.toNat xs).flatten), I.laid (t' := s.toks) (fun b o e => Heap.get?_push_of_some _ e) (Nat.le_refl _)
      (show ObjOk X.prog X.w _ _ _ (.tup _) from ⟨by rw [(vals_rep r k.toNat).length]; exact flen, _, vals_rep r k.toNat, IsTup.new _ _⟩), rfl, q _ (I.hok.fresh (Nat.le_refl _))⟩
end
end DL

/-! sorted of a tuple of ints -/
namespace SrtO
open PySem PyProof.Rows Srt
section
variable {prog : Program} {w : World} {A : Around} {E : Value → Shared → Prop} {s : Shared}
theorem collect_tupleD {l : Addr} {vs : List Value} {Q : List Value → Shared → Prop} (hl : s.heap.IsTuple l vs.toArray)
    (h : Q vs { s with heap := (s.heap.push (seqObj "list" #[] 0)).update s.heap.objs.size (Obj.mapSeq (· ++ vs.toArray)) }) (hsz : vs.length ≤ sizeLine) :
    wpAny (model prog w) A (collect (.ref l)) Q E s := by
  obtain ⟨o, ho, hc, n, hd⟩ := id hl
  unfold collect
  refine wpAny_bind (wpAny_runValue (codeAny_builtin entry_proto_collect' ?_))
  show wpAny _ _ (do again (.builtin "list.__iadd__" ⟨[← newList [], .ref l], []⟩)) _ _ s
  refine wpAny_bind (wpAny_newList (wpAny_pure ⟨Code.quiet_builtin _ (by decide +kernel), codeAny_builtin entry_list_iadd' ?_⟩))
  show wpAny _ _ (Builtin.List.listExtendWith (.ref s.heap.objs.size) (.ref l) (.ref s.heap.objs.size)) _ _ { s with heap := s.heap.push (seqObj "list" #[] 0) }
  unfold Builtin.List.listExtendWith
  have ho' : (s.heap.push (seqObj "list" #[] 0)).get? l = some o := Heap.get?_push_of_some _ ho
  refine wpAny_bind (wpAny_typeOf (T := "tuple") ⟨o, ho', hc⟩ ?_)
  have ht : (Value.type "tuple" == Value.type "tuple") = true := by rfl
  rw [if_pos (by rw [ht]; simp)]
  refine wpAny_bind (listItems_at ho' hd ?_)
  refine wpAny_bind (listItems_at (xs := #[]) (n := 0) (Heap.get?_push_size _ rfl) rfl ?_)
  rw [if_neg (by simp)]
  refine wpAny_bind (listUpdate_at (xs := #[]) (n := 0) (Heap.get?_push_size _ rfl) rfl ?_ (Nat.zero_le _) (by show (#[] ++ vs.toArray).size ≤ sizeLine + 1; simp only [Array.size_append, List.size_toArray, List.length_nil]; omega))
  refine wpAny_pure ?_
  show wpAny (model prog w) A (do
      let o ← load s.heap.objs.size
      match o.data with
      | .seq xs _ => pure xs.toList
      | _ => unsupported "internal:collect") Q E { s with heap := (s.heap.push (seqObj "list" #[] 0)).update s.heap.objs.size (Obj.mapSeq (· ++ vs.toArray)) }
  refine wpAny_bind (wpAny_load (get?_update_seq (Heap.get?_push_size _ rfl) _) ?_)
  show wpAny _ _ (pure ((#[] : Array Value) ++ vs.toArray).toList) Q E _
  rw [show ((#[] : Array Value) ++ vs.toArray).toList = vs by simp]
  exact wpAny_pure h
theorem sorted_ordT {l : Addr} {vs : List Value} {ltv : Value → Value → Bool} {Q : Value → Shared → Prop} (O : Swo ltv) (hl : s.heap.IsTuple l vs.toArray) (hz : vs.length ≤ sizeLine)
    (hS : 2 ≤ vs.length → ∀ (h₁ : Heap) (a : Addr), h₁.get? a = some (seqObj "list" vs.toArray 0) → (∀ b o, s.heap.get? b = some o → b ≠ a ∧ h₁.get? b = some o) → SortableO prog w A.in1.in1 { s with heap := h₁ } a vs ltv)
    (h : ∀ out : List Value, Srtd ltv out → Stb ltv out vs → Q (.ref (s.heap.objs.size + 1)) { s with heap := sortedAll s.heap vs out.toArray }) :
    wpAny (model prog w) A (call (.builtin "sorted") [.ref l]) Q E s := by
  refine Calls.call_function_entry kind_sorted plain_sorted entry_sorted (args_sorted1 _) ?_
  unfold Builtin.«sorted»
  refine wpAny_bind (m := checkCount "sorted" 1 1 _) (wpAny_pure ?_)
  refine wpAny_bind (collect_tupleD hl ?_ hz)
  refine wpAny_bind (wpAny_newList ?_ hz)
  have hsz : ((s.heap.push (seqObj "list" #[] 0)).update s.heap.objs.size (Obj.mapSeq (· ++ vs.toArray))).objs.size = s.heap.objs.size + 1 := by
    rw [Heap.size_update, size_push']
  have hoL : (((s.heap.push (seqObj "list" #[] 0)).update s.heap.objs.size (Obj.mapSeq (· ++ vs.toArray))).push (seqObj "list" vs.toArray 0)).get? (s.heap.objs.size + 1) = some (seqObj "list" vs.toArray 0) := by
    rw [← hsz]; exact Heap.get?_push_size _ rfl
  have keep : ∀ b o, s.heap.get? b = some o → b ≠ s.heap.objs.size + 1 ∧ (((s.heap.push (seqObj "list" #[] 0)).update s.heap.objs.size (Obj.mapSeq (· ++ vs.toArray))).push (seqObj "list" vs.toArray 0)).get? b = some o := fun b o q => by
    have hlt : b < s.heap.objs.size := Heap.lt_size q
    refine ⟨Nat.ne_of_lt (Nat.lt_succ_of_lt hlt), Heap.get?_push_of_some _ ?_⟩
    rw [Heap.get?_update_ne _ _ _ _ (Nat.ne_of_lt hlt)]
    exact Heap.get?_push_of_some _ q
  show wpAny _ _ _ _ _ { s with heap := ((s.heap.push (seqObj "list" #[] 0)).update s.heap.objs.size (Obj.mapSeq (· ++ vs.toArray))).push (seqObj "list" vs.toArray 0) }
  rw [hsz]
  refine wpAny_bind (wpAny_holding (wpAny_call_entry slot_list_sort ⟨_, hoL, rfl⟩ entry_list_sort (list_sort_ord O hoL hz (fun h2 => hS h2 _ _ hoL keep) fun out hs hb => ⟨_, rfl, ?_⟩) (args_list_sort _)))
  exact wpAny_pure ⟨_, rfl, h out hs hb⟩
end
end SrtO
namespace DL
open PySem PySem.Spec PyProof.Rows L2
section
variable {X : Cx}
theorem cr_sortedT : CallR X (.builtin "sorted") (fun vs H Q => ∃ (a : Addr) (ns : List Int), vs = [V.ref a] ∧ SqT X.K H a (ns.map V.int) ∧
    ∀ (ns' : List Int) (p : Addr), ns'.Perm ns → ns'.Pairwise (· ≤ ·) → H p = none → Q (.ref p) (upd H p (.lst (ns'.map V.int)))) := by
  intro pins s σ H vs us Q I r h
  obtain ⟨a, ns, rfl, hs, q⟩ := h
  obtain ⟨its, rv, hl, hz⟩ := I.tuple hs
  rw [Vals.ref1 r]
  have hi := rv.ints
  have hl' : s.heap.IsTuple a its.toArray := by
    obtain ⟨o, h1, h2, n, h3⟩ := hl
    exact ⟨o, h1, h2, n, h3⟩
  refine SrtO.sorted_ordT SrtO.swo_int hl' (by rw [← rv.length]; exact hz) (fun h2 h₁ a' _ _ => SrtO.ints_sortable hi h2) fun out h1 h2 => ?_
  obtain ⟨k1, k2, k3⟩ := SrtO.ints_out hi h1 h2
  obtain ⟨ep, he'⟩ := PyProof.Rows.sortedAll_at s.heap its out.toArray
  have hlen : ((out.map SrtO.iv).map V.int).length ≤ sizeLine := by
    rw [List.length_map, k2.length_eq]
    rw [List.length_map] at hz
    exact hz
  exact ⟨.ref _, upd H (s.heap.objs.size + 1) (.lst ((out.map SrtO.iv).map V.int)), I.laid (t' := s.toks) (fun _ _ => PyProof.Rows.sortedAll_old) (Nat.le_succ _) ⟨hlen, out, ep, vals_of_ints k1, he'⟩, rfl, q _ _ k2 k3 (I.hok.fresh (Nat.le_succ _))⟩
end
end DL

namespace DL
open PySem PySem.Spec PyProof.Rows L2

/-! data that is looked at: also a list of one's own -/
def VRep (K : Fg) (O : AS) (H : Hp) (d : D) (v : V) : Prop := Rep K O H d v ∨ ∃ a, v = .ref a ∧ OwRep K O H a d
section
variable {K : Fg} {O : AS} {H : Hp}
theorem VRep.lst {ds : List D} {v : V} (h : VRep K O H (.lst ds) v) : ∃ a xs, v = .ref a ∧ H a = some (.lst xs) ∧ RepL K O H ds xs := by
  rcases h with ⟨a, xs, e, t, r⟩ | ⟨a, e, ds', xs, e2, e3, r⟩
  · exact ⟨a, xs, e, t.2, r⟩
  · cases e2
    exact ⟨a, xs, e, e3, r⟩
theorem VRep.scr {ds : List D} {v : V} (h : VRep K O H (.scr ds) v) : ∃ a xs, v = .ref a ∧ SqL K H a xs ∧ RepL K O H ds xs := by
  rcases h with ⟨a, xs, e, t, r⟩ | ⟨a, e, ds', xs, e2, e3, r⟩
  · exact ⟨a, xs, e, t.sq, r⟩
  · cases e2
theorem VRep.tup {ds : List D} {v : V} (h : VRep K O H (.tup ds) v) : ∃ a xs, v = .ref a ∧ SqT K H a xs ∧ RepL K O H ds xs ∧ Rep K O H (.tup ds) v := by
  rcases h with ⟨a, xs, e, t, r⟩ | ⟨a, e, ds', xs, e2, e3, r⟩
  · exact ⟨a, xs, e, t.sq, r, ⟨a, xs, e, t, r⟩⟩
  · cases e2
theorem VRep.int {i : Int} {v : V} (h : VRep K O H (.int i) v) : v = .int i := by
  rcases h with h | ⟨a, e, ds', xs, e2, e3, r⟩
  · exact h
  · cases e2
theorem VRep.bl {i : Bool} {v : V} (h : VRep K O H (.bl i) v) : v = .bl i := by
  rcases h with h | ⟨a, e, ds', xs, e2, e3, r⟩
  · exact h
  · cases e2
theorem VRep.str {i : Str} {v : V} (h : VRep K O H (.str i) v) : v = .str i := by
  rcases h with h | ⟨a, e, ds', xs, e2, e3, r⟩
  · exact h
  · cases e2
theorem VRep.non {v : V} (h : VRep K O H .non v) : v = .non := by
  rcases h with h | ⟨a, e, ds', xs, e2, e3, r⟩
  · exact h
  · cases e2

theorem VRep.obj {C : Addr} {ns : List Str} {ds : List D} {v : V} (h : VRep K O H (.obj C ns ds) v) : ∃ a dx xs, v = .ref a ∧ H a = some (.ins C dx (ns.zip xs)) ∧ ns.length = ds.length ∧ Cls K C ∧ (∀ f ∈ ns, NoAttr K C f) ∧ RepL K O H ds xs := by
  rcases h with ⟨a, dx, xs, e, ⟨t1, _, t3, t4, t5⟩, r⟩ | ⟨a, e, ds', xs, e2, e3, r⟩
  · exact ⟨a, dx, xs, e, t1.2, t3, t4, t5, r⟩
  · cases e2
theorem VRep.dct {ks : List Key} {ds : List D} {v : V} (h : VRep K O H (.dct ks ds) v) : ∃ a xs, v = .ref a ∧ H a = some (.dK (ks.zip xs)) ∧ ks.length = ds.length ∧ RepL K O H ds xs := by
  rcases h with ⟨a, xs, e, t, r⟩ | ⟨a, e, ds', xs, e2, e3, r⟩
  · exact ⟨a, xs, e, t.1.2, t.2, r⟩
  · cases e2
theorem zip_look {f : Str} : ∀ {ns : List Str} {ds : List D} {xs : List V} {e : D}, RepL K O H ds xs → (ns.zip ds).lookup f = some e → ∃ v, (ns.zip xs).lookup f = some v ∧ Rep K O H e v ∧ f ∈ ns
  | [], _, _, _, _, h => by simp at h
  | _ :: _, [], _, _, _, h => by simp at h
  | n :: ns, d :: ds, _, e, ⟨y, r, e1, r1, r2⟩, h => by
    subst e1
    rw [List.zip_cons_cons, List.lookup_cons] at h ⊢
    cases q : f == n with
    | true =>
      rw [q] at h
      cases h
      have : f = n := by simpa using q
      exact ⟨y, rfl, r1, this ▸ List.mem_cons_self⟩
    | false =>
      rw [q] at h
      obtain ⟨v, h1, h2, h3⟩ := zip_look r2 h
      exact ⟨v, h1, h2, List.mem_cons_of_mem _ h3⟩
mutual
theorem Rep.dp : ∀ (d : D) {v : V}, d.noO = true → Rep K O H d v → Dp K H v d.py
  | .non, _, _, h => by
    have h' : _ = V.non := h
    subst h'
    exact .non
  | .bl b, _, _, h => by
    have h' : _ = V.bl b := h
    subst h'
    exact .bl b
  | .int b, _, _, h => by
    have h' : _ = V.int b := h
    subst h'
    exact .int b
  | .str b, _, _, h => by
    have h' : _ = V.str b := h
    subst h'
    exact .str b
  | .tup ds, _, n, ⟨a, xs, e, t, r⟩ => by
    subst e
    exact .tup t.sq (RepL.dp ds n r)
  | .lst ds, _, n, ⟨a, xs, e, t, r⟩ => by
    subst e
    exact .lst (SqL.of t.2) (RepL.dp ds n r)
  | .scr ds, _, n, ⟨a, xs, e, t, r⟩ => by
    subst e
    exact .lst t.sq (RepL.dp ds n r)
  | .obj _ _ _, _, n, _ => nomatch n
  | .raw _, _, n, _ => nomatch n
  | .dct _ _, _, n, _ => nomatch n
theorem RepL.dp : ∀ (ds : List D) {xs : List V}, D.noOs ds = true → RepL K O H ds xs → DpAll K H xs (D.pys ds)
  | [], _, _, h => by
    have h' : _ = [] := h
    subst h'
    exact .nil
  | d :: ds, _, n, ⟨y, r, e, h1, h2⟩ => by
    subst e
    have n' : (D.noO d && D.noOs ds) = true := n
    rw [Bool.and_eq_true] at n'
    exact .cons (Rep.dp d n'.1 h1) (RepL.dp ds n'.2 h2)
end
theorem VRep.dp {d : D} {v : V} (n : d.noO = true) (h : VRep K O H d v) : Dp K H v d.py := by
  rcases h with h | ⟨a, e, ds, xs, e2, e3, r⟩
  · exact Rep.dp d n h
  · subst e e2
    exact .lst (SqL.of e3) (RepL.dp ds n r)
theorem junk_lay : junkP.canLay0 = false := by decide +kernel
mutual
theorem lay_no : ∀ d : D, d.py.canLay0 = true → d.noO = true
  | .non, _ => rfl
  | .bl _, _ => rfl
  | .int _, _ => rfl
  | .str _, _ => rfl
  | .tup ds, h => lay_nos ds h
  | .lst ds, h => lay_nos ds h
  | .scr ds, h => lay_nos ds h
  | .obj _ _ _, h => by
    have h : junkP.canLay0 = true := h
    rw [junk_lay] at h
    cases h
  | .raw _, h => by
    have h : junkP.canLay0 = true := h
    rw [junk_lay] at h
    cases h
  | .dct _ _, h => by
    have h : junkP.canLay0 = true := h
    rw [junk_lay] at h
    cases h
theorem lay_nos : ∀ ds : List D, PyData.canLayAll0 (D.pys ds) = true → D.noOs ds = true
  | [], _ => rfl
  | d :: ds, h => by
    have h : (d.py.canLay0 && PyData.canLayAll0 (D.pys ds)) = true := h
    rw [Bool.and_eq_true] at h
    show (D.noO d && D.noOs ds) = true
    rw [lay_no d h.1, lay_nos ds h.2]
    rfl
end
theorem okD_no {d : D} (h : okD d) : d.noO = true := by
  have h : (d.py.canLay0 && decide (d.py.depth ≤ 64)) = true := h
  rw [Bool.and_eq_true] at h
  exact lay_no d h.1
theorem pys_any {d : D} : ∀ ds : List D, ((D.pys ds).any fun z => PyData.eqv z d.py) = ds.any fun e => eqD e d
  | [] => rfl
  | e :: ds => by
    show ((PyData.eqv e.py d.py) || ((D.pys ds).any fun z => PyData.eqv z d.py)) = (eqD e d || ds.any fun e => eqD e d)
    rw [pys_any ds]
    rfl
end

/-! an operation on data -/
def RpOk (K : Fg) (O : AS) (H H' : Hp) (v : V) : Rv → Prop
  | .va d => Rep K O H' d v
  | .fr d => ∃ a, v = .ref a ∧ H a = none ∧ OwRep K (plusA O a) H' a d
  | .vw _ => False
/-- what is wanted of the result -/
def Fin (K : Fg) (O : AS) (H : Hp) (R : Rv → Prop) (Q : VK) : Prop := ∀ r v H', R r → Same H H' → RpOk K O H H' v r → Q v H'
def Trk (O : AS) (H : Hp) : Prop := ∀ a, O a → H a ≠ none
def rD2 (K : Fg) (g : D → D → RK → Prop) : R2 := fun x y H Q => ∃ O d e R, Trk O H ∧ VRep K O H d x ∧ VRep K O H e y ∧ g d e R ∧ Fin K O H R Q
section
variable {K : Fg} {O : AS} {H : Hp} {R : Rv → Prop} {Q : VK}
theorem Fin.va (f : Fin K O H R Q) {d : D} {v : V} (h : R (.va d)) (r : Rep K O H d v) : Q v H := f _ v H h (Same.refl H) r
theorem same_new {p : Addr} {o : HO} (n : H p = none) : Same H (upd H p o) := fun b o' e => by
  rw [upd_ne (ne_of_none e n)]
  exact e
theorem Fin.lst (f : Fin K O H R Q) {ds : List D} {xs : List V} (h : R (.fr (.lst ds))) (r : RepL K O H ds xs) {p : Addr} (n : H p = none) : Q (.ref p) (upd H p (.lst xs)) :=
  f _ _ _ h (same_new n) ⟨p, rfl, n, ds, xs, rfl, upd_same, RepL.ext (ext_new (same_new n) n) ds r⟩
theorem Fin.tup (f : Fin K O H R Q) (t : Trk O H) {ds : List D} {xs : List V} (h : R (.va (.tup ds))) (r : RepL K O H ds xs) {p : Addr} (n : H p = none) : Q (.ref p) (upd H p (.tup xs)) :=
  f _ _ _ h (same_new n) ⟨p, xs, rfl, .inl ⟨fun z => t p z n, .inl upd_same⟩, RepL.ext (fun b o nb e => ⟨nb, same_new n b o e⟩) ds r⟩
end

section
variable {X : Cx}
theorem opr_imp {f : Value → Value → Sem Value} {r r' : R2} (h : OpR X f r) (i : ∀ x y H Q, r' x y H Q → r x y H Q) : OpR X f r' :=
  fun pins s σ H x y v u Q I rx ry q => h pins s σ H x y v u Q I rx ry (i x y H Q q)
theorem callr_imp {f : Value} {r r' : List V → Hp → VK → Prop} (h : CallR X f r) (i : ∀ x H Q, r' x H Q → r x H Q) : CallR X f r' :=
  fun pins s σ H xs us Q I rx q => h pins s σ H xs us Q I rx (i xs H Q q)
theorem never_op {f : Value → Value → Sem Value} : OpR X f (fun _ _ _ _ => False) := fun _ _ _ _ _ _ _ _ _ _ _ _ h => h.elim

theorem opr_mulB : OpR X (binaryOp .Mult) (rI mulOk fun i j => .int (i * j)) := by
  intro pins s σ H x y v u Q I rx ry h
  obtain ⟨i, j, rfl, rfl, c, q⟩ := h
  rcases c with c | c
  · exact op_mul pins s σ H _ _ v u Q I rx ry ⟨i, j, rfl, rfl, c, q⟩
  · exact op_mulW pins s σ H _ _ v u Q I rx ry ⟨i, j, rfl, rfl, c, q⟩

theorem repL_rep {K : Fg} {O : AS} {H : Hp} {ds : List D} {xs : List V} (r : RepL K O H ds xs) : ∀ m : Nat, RepL K O H (List.replicate m ds).flatten (List.replicate m xs).flatten
  | 0 => RepL.nil
  | m + 1 => by
    rw [List.replicate_succ, List.replicate_succ, List.flatten_cons, List.flatten_cons]
    exact r.append (repL_rep r m)
theorem bin_ok (o : Operator) : OpR X (binaryOp o) (rD2 X.K (binP o)) := by
  intro pins s σ H x y v u Q I rx ry h
  obtain ⟨O, d, e, R, t, h1, h2, g, f⟩ := h
  unfold binP at g
  split at g
  · obtain rfl := h1.int
    obtain rfl := h2.int
    exact op_add pins s σ H _ _ v u Q I rx ry ⟨_, _, rfl, rfl, f.va g rfl⟩
  · obtain rfl := h1.str
    obtain rfl := h2.str
    exact op_add_str pins s σ H _ _ v u Q I rx ry ⟨_, _, rfl, rfl, g.1, f.va g.2 rfl⟩
  · obtain ⟨a, xs, rfl, e1, r1⟩ := h1.lst
    obtain ⟨b, ys, rfl, e2, r2⟩ := h2.lst
    refine op_cat pins s σ H _ _ v u Q I rx ry ⟨a, b, xs, ys, rfl, rfl, e1, e2, ?_, fun p n => f.lst g.2 (r1.append r2) n⟩
    rw [← r1.len, ← r2.len]
    exact g.1
  · rename_i ds es
    obtain ⟨a, xs, rfl, e1, r1, t1⟩ := h1.tup
    obtain ⟨b, ys, rfl, e2, r2, t2⟩ := h2.tup
    refine op_catA pins s σ H _ _ v u Q I rx ry ⟨a, b, xs, ys, rfl, rfl, e1, e2, by rw [← r1.len, ← r2.len]; exact g.1, fun z => ?_, fun _ z => ?_, fun _ _ p n => f.tup t g.2 (r1.append r2) n⟩
    · have e : ds = [] := List.eq_nil_of_length_eq_zero (by rw [r1.len, z]; rfl)
      subst e
      exact f.va g.2 t2
    · have e : es = [] := List.eq_nil_of_length_eq_zero (by rw [r2.len, z]; rfl)
      subst e
      have g2 := g.2
      rw [List.append_nil] at g2
      exact f.va g2 t1
  · obtain rfl := h1.int
    obtain rfl := h2.int
    exact op_sub pins s σ H _ _ v u Q I rx ry ⟨_, _, rfl, rfl, f.va g rfl⟩
  · obtain rfl := h1.int
    obtain rfl := h2.int
    exact opr_mulB pins s σ H _ _ v u Q I rx ry ⟨_, _, rfl, rfl, g.1, f.va g.2 rfl⟩
  · rename_i ds k
    obtain ⟨a, xs, rfl, e1, r1, t1⟩ := h1.tup
    obtain rfl := h2.int
    obtain ⟨⟨g1, g2, g3⟩, g4⟩ := g
    refine op_mulT pins s σ H _ _ v u Q I rx ry ⟨a, k, xs, rfl, rfl, e1, fun e => g1 (List.eq_nil_of_length_eq_zero (by rw [r1.len, e]; rfl)), by rw [← r1.len]; exact g3, ?_⟩
    by_cases h : k = 1
    · subst h
      have e : (List.replicate (1 : Int).toNat ds).flatten = ds := by
        show (List.replicate 1 ds).flatten = ds
        simp
      rw [e] at g4
      exact .inl ⟨rfl, f.va g4 t1⟩
    · exact .inr ⟨by omega, fun p n => f.tup t g4 (repL_rep r1 k.toNat) n⟩
  · rename_i ds k
    obtain ⟨a, xs, rfl, e1, r1⟩ := h1.lst
    obtain rfl := h2.int
    obtain ⟨⟨g1, g2, g3⟩, g4⟩ := g
    exact op_rep pins s σ H _ _ v u Q I rx ry ⟨a, k, xs, rfl, rfl, e1, g1, g2, by rw [← r1.len]; exact g3, fun p n => f.lst g4 (repL_rep r1 k.toNat) n⟩
  · obtain rfl := h1.int
    obtain rfl := h2.int
    exact op_fdivW pins s σ H _ _ v u Q I rx ry ⟨_, _, rfl, rfl, g.1, f.va g.2 rfl⟩
  · obtain rfl := h1.int
    obtain rfl := h2.int
    exact op_mod pins s σ H _ _ v u Q I rx ry ⟨_, _, rfl, rfl, g.1, f.va g.2 rfl⟩
  · obtain rfl := h1.int
    obtain rfl := h2.int
    exact op_pow pins s σ H _ _ v u Q I rx ry ⟨_, _, rfl, rfl, g.1, f.va g.2 rfl⟩
  · obtain rfl := h1.int
    obtain rfl := h2.int
    exact op_shl pins s σ H _ _ v u Q I rx ry ⟨_, _, rfl, rfl, g.1, f.va g.2 rfl⟩
  · obtain rfl := h1.int
    obtain rfl := h2.int
    exact op_shr pins s σ H _ _ v u Q I rx ry ⟨_, _, rfl, rfl, g.1, f.va g.2 rfl⟩
  · obtain rfl := h1.int
    obtain rfl := h2.int
    exact op_and pins s σ H _ _ v u Q I rx ry ⟨_, _, rfl, rfl, f.va g rfl⟩
  · obtain rfl := h1.int
    obtain rfl := h2.int
    exact op_or pins s σ H _ _ v u Q I rx ry ⟨_, _, rfl, rfl, f.va g rfl⟩
  · obtain rfl := h1.int
    obtain rfl := h2.int
    exact op_xor pins s σ H _ _ v u Q I rx ry ⟨_, _, rfl, rfl, f.va g rfl⟩
  · exact g.elim

theorem rep_non {K : Fg} {O : AS} {H : Hp} {d : D} {v : V} (h : VRep K O H d v) : decide (v = .non) = d.isN := by
  cases d with
  | non => obtain rfl := h.non; rfl
  | bl b => obtain rfl := h.bl; rfl
  | int b => obtain rfl := h.int; rfl
  | str b => obtain rfl := h.str; rfl
  | tup ds => obtain ⟨a, xs, rfl, _⟩ := h.tup; rfl
  | lst ds => obtain ⟨a, xs, rfl, _⟩ := h.lst; rfl
  | scr ds => obtain ⟨a, xs, rfl, _⟩ := h.scr; rfl
  | obj C ns ds =>
    rcases h with ⟨a, dx, xs, rfl, _⟩ | ⟨a, e, ds', xs, e2, _⟩
    · rfl
    · cases e2
  | raw a =>
    rcases h with h | ⟨a, e, ds', xs, e2, _⟩
    · cases (show v = V.ref a from h)
      rfl
    · cases e2
  | dct ks ds => obtain ⟨a, xs, rfl, _⟩ := h.dct; rfl

theorem vD_rep0 {K : Fg} {O : AS} {H : Hp} {d : D} {v w : V} (h : Rep K O H d v) (e : vD d = some w) : v = w ∧ flatV w = true := by
  cases d with
  | non => cases e; exact ⟨h, rfl⟩
  | bl b => cases e; exact ⟨h, rfl⟩
  | int b => cases e; exact ⟨h, rfl⟩
  | str b => cases e; exact ⟨h, rfl⟩
  | _ => cases e
theorem vD_rep {K : Fg} {O : AS} {H : Hp} {d : D} {v w : V} (h : VRep K O H d v) (e : vD d = some w) : v = w ∧ flatV w = true := by
  rcases h with h | ⟨a, e1, ds, xs, e2, _⟩
  · exact vD_rep0 h e
  · subst e2
    cases e
theorem vDs_rep {K : Fg} {O : AS} {H : Hp} : ∀ {ds : List D} {xs ws : List V}, RepL K O H ds xs → vDs ds = some ws → xs = ws ∧ ws.all flatV = true
  | [], _, ws, h, e => by
    cases e
    exact ⟨h, rfl⟩
  | d :: ds, _, ws, ⟨y, r, e, h1, h2⟩, q => by
    subst e
    cases e1 : vD d with
    | none => simp [vDs, e1] at q
    | some w =>
      cases e2 : vDs ds with
      | none => simp [vDs, e1, e2] at q
      | some us =>
        simp only [vDs, e1, e2] at q
        cases q
        obtain ⟨rfl, f1⟩ := vD_rep0 h1 e1
        obtain ⟨rfl, f2⟩ := vDs_rep h2 e2
        exact ⟨rfl, by rw [List.all_cons, f1, f2]; rfl⟩
theorem op_isB : OpR X (compareOp .Is) (fun x y H Q => ∃ m n, x = .bl m ∧ y = .bl n ∧ Q (.bl (m == n)) H) := by
  intro pins s σ H x y v u Q I rx ry h
  obtain ⟨m, n, rfl, rfl, q⟩ := h
  cases (show v = Value.bool m from rx)
  cases (show u = Value.bool n from ry)
  by_cases e : m = n
  · subst e
    exact wpAny_is_self rfl ⟨.bl true, H, I, rfl, by simpa using q⟩
  · exact wpAny_is_other rfl (fun z => e (Value.bool.inj z)) ⟨.bl false, H, I, rfl, by rw [beq_false_of_ne e] at q; exact q⟩
theorem op_isNotB : OpR X (compareOp .IsNot) (fun x y H Q => ∃ m n, x = .bl m ∧ y = .bl n ∧ Q (.bl (!(m == n))) H) := by
  intro pins s σ H x y v u Q I rx ry h
  obtain ⟨m, n, rfl, rfl, q⟩ := h
  cases (show v = Value.bool m from rx)
  cases (show u = Value.bool n from ry)
  by_cases e : m = n
  · subst e
    exact wpAny_isNot_self rfl ⟨.bl false, H, I, rfl, by simpa using q⟩
  · exact wpAny_isNot_other rfl (fun z => e (Value.bool.inj z)) ⟨.bl true, H, I, rfl, by rw [beq_false_of_ne e] at q; exact q⟩
theorem cmp_ok (hu : X.A.units + 65 < cLine) (o : CmpOp) : OpR X (compareOp o) (rD2 X.K (cmpP o)) := by
  intro pins s σ H x y v u Q I rx ry h
  obtain ⟨O, d, e, R, t, h1, h2, g, f⟩ := h
  unfold cmpP at g
  split at g
  · obtain rfl := h1.str
    obtain rfl := h2.str
    refine op_eq pins s σ H _ _ v u Q I rx ry ⟨rfl, f.va g ?_⟩
    show _ = _
    simp
  · obtain rfl := h1.str
    obtain rfl := h2.str
    refine op_ne pins s σ H _ _ v u Q I rx ry ⟨rfl, f.va g ?_⟩
    show _ = _
    simp
  · exact op_eqD (by omega) pins s σ H _ _ v u Q I rx ry ⟨_, _, VRep.dp (okD_no g.1) h1, VRep.dp (okD_no g.2.1) h2, g.1, g.2.1, f.va g.2.2 rfl⟩
  · exact op_neD (by omega) pins s σ H _ _ v u Q I rx ry ⟨_, _, VRep.dp (okD_no g.1) h1, VRep.dp (okD_no g.2.1) h2, g.1, g.2.1, f.va g.2.2 rfl⟩
  · obtain rfl := h1.int
    obtain rfl := h2.int
    exact op_lt pins s σ H _ _ v u Q I rx ry ⟨_, _, rfl, rfl, f.va g rfl⟩
  · obtain rfl := h1.int
    obtain rfl := h2.int
    exact op_le pins s σ H _ _ v u Q I rx ry ⟨_, _, rfl, rfl, f.va g rfl⟩
  · obtain rfl := h1.int
    obtain rfl := h2.int
    exact op_gt pins s σ H _ _ v u Q I rx ry ⟨_, _, rfl, rfl, f.va g rfl⟩
  · obtain rfl := h1.int
    obtain rfl := h2.int
    exact op_ge pins s σ H _ _ v u Q I rx ry ⟨_, _, rfl, rfl, f.va g rfl⟩
  · refine op_isN pins s σ H _ _ v u Q I rx ry ⟨h2.non, f.va g ?_⟩
    show _ = _
    rw [rep_non h1]
  · refine op_notN pins s σ H _ _ v u Q I rx ry ⟨h2.non, f.va g ?_⟩
    show _ = _
    rw [rep_non h1]
  · obtain rfl := h1.bl
    obtain rfl := h2.bl
    exact op_isB pins s σ H _ _ v u Q I rx ry ⟨_, _, rfl, rfl, f.va g rfl⟩
  · obtain rfl := h1.bl
    obtain rfl := h2.bl
    exact op_isNotB pins s σ H _ _ v u Q I rx ry ⟨_, _, rfl, rfl, f.va g rfl⟩
  · refine op_inD hu pins s σ H _ _ v u Q I rx ry ⟨_, _, VRep.dp (okD_no g.1) h1, VRep.dp (okD_no g.2.1) h2, g.1, g.2.1, f.va g.2.2 ?_⟩
    show _ = _
    rw [pys_any]
  · refine op_notInD hu pins s σ H _ _ v u Q I rx ry ⟨_, _, VRep.dp (okD_no g.1) h1, VRep.dp (okD_no g.2.1) h2, g.1, g.2.1, f.va g.2.2 ?_⟩
    show _ = _
    rw [pys_any]
  · obtain ⟨w, ws, e1, e2, g⟩ := g
    obtain ⟨a, xs, rfl, t1, r1, _⟩ := h2.tup
    obtain ⟨rfl, fv⟩ := vD_rep h1 e1
    obtain ⟨rfl, fs⟩ := vDs_rep r1 e2
    exact op_in_seq pins s σ H _ _ v u Q I rx ry ⟨a, _, rfl, .inr t1, fv, fs, f.va g rfl⟩
  · obtain ⟨w, ws, e1, e2, g⟩ := g
    obtain ⟨a, xs, rfl, t1, r1, _⟩ := h2.tup
    obtain ⟨rfl, fv⟩ := vD_rep h1 e1
    obtain ⟨rfl, fs⟩ := vDs_rep r1 e2
    exact op_notIn_seq pins s σ H _ _ v u Q I rx ry ⟨a, _, rfl, .inr t1, fv, fs, f.va g rfl⟩
  · exact g.elim

theorem atI_rep {K : Fg} {O : AS} {H : Hp} {ds : List D} {xs : List V} {i : Int} {d : D} (r : RepL K O H ds xs) (h : atI ds i = some d) : ∃ x, atI xs i = some x ∧ Rep K O H d x := by
  unfold atI at h ⊢
  rw [← r.len]
  cases e : ixN ds.length i with
  | none => rw [e] at h; cases h
  | some j =>
    rw [e] at h
    exact r.get h
theorem ix_ok : IxR X (rD2 X.K ixP) := by
  intro value slice pins s σ H x y v u Q I rx ry h hs
  obtain ⟨O, d, e, R, t, h1, h2, g, f⟩ := h
  unfold ixP at g
  split at g
  · obtain ⟨a, xs, rfl, e1, r1⟩ := h1.lst
    obtain rfl := h2.int
    obtain ⟨d, e2, g⟩ := g
    obtain ⟨z, e3, r3⟩ := atI_rep r1 e2
    exact ix_list value slice pins s σ H _ _ v u Q I rx ry ⟨a, xs, _, z, rfl, rfl, SqL.of e1, e3, f.va g r3⟩ hs
  · obtain ⟨a, xs, rfl, e1, r1, _⟩ := h1.tup
    obtain rfl := h2.int
    obtain ⟨d, e2, g⟩ := g
    obtain ⟨z, e3, r3⟩ := atI_rep r1 e2
    exact ix_tup value slice pins s σ H _ _ v u Q I rx ry ⟨a, xs, _, z, rfl, rfl, e1, e3, f.va g r3⟩ hs
  · exact g.elim

/-- slices -/
def rDS (K : Fg) : V → Option Int → Option Int → Hp → VK → Prop := fun x lo hi H Q => ∃ O d R, Trk O H ∧ VRep K O H d x ∧ slP d lo hi R ∧ Fin K O H R Q
theorem cut_rep {K : Fg} {O : AS} {H : Hp} {ds : List D} {xs : List V} (lo hi : Option Int) (r : RepL K O H ds xs) : RepL K O H (cutD ds lo hi) (cutV xs lo hi) := by
  unfold cutD cutV
  rw [r.len]
  exact (r.drop _).take _
theorem cut_all {ds : List D} {xs : List V} {lo hi : Option Int} (l : ds.length = xs.length) (w : HT.sIx xs.length 0 lo = 0 ∧ HT.sIx xs.length xs.length hi = xs.length) : cutD ds lo hi = ds := by
  unfold cutD
  rw [l, w.1, w.2, List.drop_zero, Nat.sub_zero, ← l]
  exact List.take_length
theorem sl_ok : SlR X (rDS X.K) := by
  intro pins s σ H x v vl vu lo hi sl Q I rx hs pl pu h
  obtain ⟨O, d, R, t, h1, g, f⟩ := h
  unfold slP at g
  split at g
  · obtain ⟨a, xs, rfl, e1, r1⟩ := h1.lst
    exact sl_list pins s σ H _ v vl vu lo hi sl Q I rx hs pl pu ⟨a, xs, rfl, SqL.of e1, fun p n => f.lst g (cut_rep lo hi r1) n⟩
  · obtain ⟨a, xs, rfl, e1, r1⟩ := h1.scr
    exact sl_list pins s σ H _ v vl vu lo hi sl Q I rx hs pl pu ⟨a, xs, rfl, e1, fun p n => f.lst g (cut_rep lo hi r1) n⟩
  · obtain ⟨a, xs, rfl, e1, r1, r2⟩ := h1.tup
    refine sl_tupA pins s σ H _ v vl vu lo hi sl Q I rx hs pl pu ⟨a, xs, rfl, e1, fun w => f.va g ?_, fun _ p n => f.tup t g (cut_rep lo hi r1) n⟩
    rw [cut_all r1.len w]
    exact r2
  · exact g.elim

/-! built-ins -/
def rDs (K : Fg) (g : List D → RK → Prop) : List V → Hp → VK → Prop := fun xs H Q => ∃ O ds R, Trk O H ∧ ds.length = xs.length ∧ (∀ (i : Nat) d x, ds[i]? = some d → xs[i]? = some x → VRep K O H d x) ∧ g ds R ∧ Fin K O H R Q
theorem bls_rep {K : Fg} {O : AS} {H : Hp} : ∀ {ds : List D} {xs : List V} {bs : List Bool}, RepL K O H ds xs → bls? ds = some bs → xs = bs.map V.bl
  | [], _, bs, h, e => by
    have h' : _ = [] := h
    cases e
    exact h'
  | d :: ds, _, bs, ⟨y, r, e, h1, h2⟩, q => by
    subst e
    cases d with
    | bl b =>
      have q' : (bls? ds).map (b :: ·) = some bs := q
      cases e2 : bls? ds with
      | none => rw [e2] at q'; cases q'
      | some cs =>
        rw [e2] at q'
        cases q'
        have h1' : y = V.bl b := h1
        subst h1'
        rw [bls_rep h2 e2]
        rfl
    | _ => cases q
theorem ints_rep {K : Fg} {O : AS} {H : Hp} : ∀ {ds : List D} {xs : List V} {bs : List Int}, RepL K O H ds xs → ints? ds = some bs → xs = bs.map V.int
  | [], _, bs, h, e => by
    have h' : _ = [] := h
    cases e
    exact h'
  | d :: ds, _, bs, ⟨y, r, e, h1, h2⟩, q => by
    subst e
    cases d with
    | int b =>
      have q' : (ints? ds).map (b :: ·) = some bs := q
      cases e2 : ints? ds with
      | none => rw [e2] at q'; cases q'
      | some cs =>
        rw [e2] at q'
        cases q'
        have h1' : y = V.int b := h1
        subst h1'
        rw [ints_rep h2 e2]
        rfl
    | _ => cases q
theorem one_of {ds : List D} {xs : List V} {d : D} (l : ds.length = xs.length) (e : ds = [d]) : ∃ x, xs = [x] := by
  subst e
  match xs, l with
  | [x], _ => exact ⟨x, rfl⟩

theorem junk_show : junkP.showable = false := by decide +kernel
theorem pysR_len : ∀ ds : List D, (D.pysR ds).length = ds.length
  | [] => rfl
  | d :: ds => by
    show (D.pysR ds).length + 1 = _
    rw [pysR_len ds, List.length_cons]
theorem zip_fst {α β : Type} : ∀ {l : List α} {m : List β}, l.length = m.length → (l.zip m).map (·.1) = l
  | [], [], _ => rfl
  | a :: l, b :: m, h => by
    rw [List.zip_cons_cons, List.map_cons, zip_fst (by simpa using h)]
theorem zip_snd {α β : Type} : ∀ {l : List α} {m : List β}, l.length = m.length → (l.zip m).map (·.2) = m
  | [], [], _ => rfl
  | a :: l, b :: m, h => by
    rw [List.zip_cons_cons, List.map_cons, zip_snd (by simpa using h)]
theorem show_zip : ∀ (ks : List Key) (ps : List PyData), ks.length = ps.length → PyData.showableKv ((ks.map keyP).zip ps) = true → PyData.showableAll ps = true
  | [], [], _, _ => rfl
  | k :: ks, p :: ps, l, h => by
    have h : ((keyP k).showable && p.showable && PyData.showableKv ((ks.map keyP).zip ps)) = true := h
    simp only [Bool.and_eq_true] at h
    show (p.showable && PyData.showableAll ps) = true
    rw [h.1.2, show_zip ks ps (by simpa using l) h.2]
    rfl
/-- the table of modules is a dict -/
def Sb (base : Heap) : Prop := ∃ mm, base.Ns sysModules mm
theorem no_sys {pins : List (Addr × Obj)} {σ : Sg} {H : Hp} {s : Shared} (I : Inv X pins σ H s) (sb : Sb X.base) {a : Addr} {o : Obj} {xs : Array Value} {n : Nat} (ho : s.heap.get? a = some o) (hd : o.data = .seq xs n) : sysModules ≠ a := by
  rintro rfl
  obtain ⟨mm, o2, es, ep, e1, e2, _⟩ := sb
  have := I.bk _ _ e1
  rw [ho] at this
  cases this
  rw [hd] at e2
  cases e2
theorem dct_reads {h : Heap} : ∀ {ks : List Key} {xs : List V} {vs : List (Key × Value)} {es : List DictEntry}, ks.length = xs.length → KV (ks.zip xs) vs → Pairs (mixKind X.prog X.w) es vs → ReadsAll h (es.map (·.key)) (ks.map keyP) [] ∧ Vals xs (es.map (·.val))
  | [], [], vs, es, _, kv, p => by
    have kv : KV [] vs := kv
    cases kv
    cases p
    exact ⟨.nil, .nil⟩
  | k :: ks, x :: xs, vs, es, l, kv, p => by
    rw [List.zip_cons_cons] at kv
    cases kv with
    | @cons a b as bs h1 h2 =>
      cases p with
      | @cons e kv es kvs p1 p2 p3 =>
        obtain ⟨i1, i2⟩ := dct_reads (by simpa using l) h2 p3
        obtain ⟨e1, e2⟩ := h1
        refine ⟨?_, .cons (by show L2.RelV x e.val; rw [p2]; exact e2) i2⟩
        have e1 : k = b.1 := e1
        rw [← e1] at p1
        rcases keyIs_shape p1 with ⟨i, t, rfl, q⟩ | ⟨x, t, rfl, q⟩
        · rw [List.map_cons, List.map_cons, q]
          exact .cons (Reads.int i t) i1
        · rw [List.map_cons, List.map_cons, q]
          exact .cons (Reads.str x t) i1
mutual
theorem Rep.rds {pins : List (Addr × Obj)} {σ : Sg} {H : Hp} {s : Shared} {O : AS} (I : Inv X pins σ H s) (sb : Sb X.base) : ∀ (d : D) {v : V} {u : Value}, d.pyR.showable = true → Rep X.K O H d v → RelV v u → ∃ as, Reads s.heap u d.pyR as ∧ sysModules ∉ as
  | .non, v, u, _, h, r => by
    have h : v = .non := h
    subst h
    cases (show u = Value.none from r)
    exact ⟨_, Reads.none, by simp⟩
  | .bl b, v, u, _, h, r => by
    have h : v = .bl b := h
    subst h
    cases (show u = Value.bool b from r)
    exact ⟨_, Reads.bool b, by simp⟩
  | .int b, v, u, _, h, r => by
    have h : v = .int b := h
    subst h
    obtain ⟨t, rfl⟩ := (show ∃ t, u = Value.int b t from r)
    exact ⟨_, Reads.int b t, by simp⟩
  | .str b, v, u, _, h, r => by
    have h : v = .str b := h
    subst h
    obtain ⟨t, rfl⟩ := (show ∃ t, u = Value.str b t from r)
    exact ⟨_, Reads.str b t, by simp⟩
  | .tup ds, v, u, n, ⟨a, xs, e, t, r⟩, ru => by
    subst e
    cases (show u = Value.ref a from ru)
    obtain ⟨its, rv, ⟨o, ho, hc, n0, hd⟩, _⟩ := I.tuple t.sq
    obtain ⟨as, hr, hn⟩ := RepL.rds I sb ds n r rv
    exact ⟨_, Reads.tuple ho hc hd hr, hn⟩
  | .lst ds, v, u, n, ⟨a, xs, e, t, r⟩, ru => by
    subst e
    cases (show u = Value.ref a from ru)
    obtain ⟨its, rv, ⟨o, n0, ho, hc, _, hd⟩, _⟩ := I.list (SqL.of t.2)
    obtain ⟨as, hr, hn⟩ := RepL.rds I sb ds n r rv
    exact ⟨_, Reads.list ho hc hd hr, by simp only [List.mem_cons, not_or]; exact ⟨no_sys I sb ho hd, hn⟩⟩
  | .scr ds, v, u, n, ⟨a, xs, e, t, r⟩, ru => by
    subst e
    cases (show u = Value.ref a from ru)
    obtain ⟨its, rv, ⟨o, n0, ho, hc, _, hd⟩, _⟩ := I.list t.sq
    obtain ⟨as, hr, hn⟩ := RepL.rds I sb ds n r rv
    exact ⟨_, Reads.list ho hc hd hr, by simp only [List.mem_cons, not_or]; exact ⟨no_sys I sb ho hd, hn⟩⟩
  | .obj _ _ _, _, _, h, _, _ => by
    have h : junkP.showable = true := h
    rw [junk_show] at h
    cases h
  | .raw _, _, _, h, _, _ => by
    have h : junkP.showable = true := h
    rw [junk_show] at h
    cases h
  | .dct ks ds, v, u, n, ⟨a, xs, e, t, r⟩, ru => by
    subst e
    cases (show u = Value.ref a from ru)
    obtain ⟨_, hne, vs0, kv, o, es, ep, ho, hx, hd, _, hp, _⟩ := dk_of I.hok t.1.2
    have l := t.2
    have l2 := r.len
    have l3 := pysR_len ds
    obtain ⟨h1, h2⟩ := dct_reads (X := X) (h := s.heap) (by omega) kv hp
    have n2 : PyData.showableAll (D.pysR ds) = true := show_zip ks (D.pysR ds) (by omega) n
    obtain ⟨bs, hr, hn⟩ := RepL.rds I sb ds n2 r h2
    refine ⟨_, Reads.dict (as := []) (bs := bs) ho hx.1 hd (by rw [zip_fst (by rw [List.length_map]; omega)]; exact h1) (by rw [zip_snd (by rw [List.length_map]; omega)]; exact hr), ?_⟩
    have hne' : sysModules ≠ a := fun e => by rw [e] at hne; simp at hne
    simp only [List.cons_append, List.nil_append, List.mem_cons, not_or]
    exact ⟨hne', hn⟩
theorem RepL.rds {pins : List (Addr × Obj)} {σ : Sg} {H : Hp} {s : Shared} {O : AS} (I : Inv X pins σ H s) (sb : Sb X.base) : ∀ (ds : List D) {vs : List V} {us : List Value}, PyData.showableAll (D.pysR ds) = true → RepL X.K O H ds vs → Vals vs us → ∃ as, ReadsAll s.heap us (D.pysR ds) as ∧ sysModules ∉ as
  | [], vs, us, _, h, r => by
    have h : vs = [] := h
    subst h
    cases r
    exact ⟨[], .nil, by simp⟩
  | d :: ds, vs, us, n, ⟨y, r, e, h1, h2⟩, q => by
    subst e
    cases q with
    | cons q1 q2 =>
      have n : (d.pyR.showable && PyData.showableAll (D.pysR ds)) = true := n
      rw [Bool.and_eq_true] at n
      obtain ⟨as, a1, a2⟩ := Rep.rds I sb d n.1 h1 q1
      obtain ⟨bs, b1, b2⟩ := RepL.rds I sb ds n.2 h2 q2
      exact ⟨_, .cons a1 b1, by simp only [List.mem_append, not_or]; exact ⟨a2, b2⟩⟩
end
theorem repr_ok (sb : Sb X.base) (hg : X.A.guards = some []) (hu : X.A.units + 80 < cLine) : CallR X (.builtin "repr") (fun xs H Q => ∃ O d x, xs = [x] ∧ VRep X.K O H d x ∧ okS d ∧ Q (.str (shD d)) H) := by
  intro pins s σ H xs us Q I r h
  obtain ⟨O, d, x, rfl, h1, ⟨s1, s2, s3⟩, q⟩ := h
  obtain ⟨u, rfl, ru⟩ := vals1 r
  obtain ⟨as, rd, nm⟩ : ∃ as, Reads s.heap u d.pyR as ∧ sysModules ∉ as := by
    rcases h1 with h1 | ⟨a, e, ds, xs, e2, e3, rr⟩
    · exact Rep.rds I sb d s1 h1 ru
    · subst e e2
      cases (show u = Value.ref a from ru)
      obtain ⟨its, rv, ⟨o, n0, ho, hc, _, hd⟩, _⟩ := I.list (SqL.of e3)
      obtain ⟨as, hr, hn⟩ := RepL.rds I sb ds s1 rr rv
      exact ⟨_, Reads.list ho hc hd hr, by simp only [List.mem_cons, not_or]; exact ⟨no_sys I sb ho hd, hn⟩⟩
  have fin : ∀ h' (t : Tok) tk, (∀ b o, s.heap.get? b = some o → h'.get? b = some o) → EP X pins σ Q (.str d.pyR.shown t) { s with heap := h', toks := tk } :=
    fun h' t tk k => ⟨.str (shD d), H, I.kept k, ⟨t, rfl⟩, q⟩
  have isref : ∀ a : Addr, u = .ref a → wpAny (model X.prog X.w) X.A (call (.builtin "repr") [u]) (EP X pins σ Q) X.xe s := by
    intro a e
    subst e
    exact repr_of_reads' rd s1 (fun _ => nm) hg (by omega) (fun _ _ z => z) fin s3
  have same : ∀ b o, s.heap.get? b = some o → s.heap.get? b = some o := fun _ _ z => z
  cases d with
  | non =>
    obtain rfl := h1.non
    cases (show u = Value.none from ru)
    exact PySem.P.repr_of_none (fin s.heap s.toks (s.toks + 1) same)
  | bl b =>
    obtain rfl := h1.bl
    cases (show u = Value.bool b from ru)
    exact PySem.P.repr_of_bool (fin s.heap s.toks (s.toks + 1) same)
  | int i =>
    obtain rfl := h1.int
    obtain ⟨t, rfl⟩ := (show ∃ t, u = Value.int i t from ru)
    exact PySem.P.repr_of_int (of_decide_eq_true s1) (fin s.heap s.toks (s.toks + 1) same)
  | str i =>
    obtain rfl := h1.str
    obtain ⟨t, rfl⟩ := (show ∃ t, u = Value.str i t from ru)
    exact PySem.P.repr_of_str (fin s.heap s.toks (s.toks + 1) same) s3
  | tup ds =>
    obtain ⟨a, xs, rfl, _⟩ := h1.tup
    exact isref a ru
  | lst ds =>
    obtain ⟨a, xs, rfl, _⟩ := h1.lst
    exact isref a ru
  | scr ds =>
    obtain ⟨a, xs, rfl, _⟩ := h1.scr
    exact isref a ru
  | dct ks ds =>
    obtain ⟨a, xs, rfl, _⟩ := h1.dct
    exact isref a ru
  | obj _ _ _ =>
    have s1 : junkP.showable = true := s1
    rw [junk_show] at s1
    cases s1
  | raw _ =>
    have s1 : junkP.showable = true := s1
    rw [junk_show] at s1
    cases s1

/-- which value a built-in's name has -/
def Bi.val : Bi → Value
  | .int => .type "int"
  | .tuple => .type "tuple"
  | .list => .type "list"
  | .len => .builtin "len"
  | .abs => .builtin "abs"
  | .all => .builtin "all"
  | .any => .builtin "any"
  | .sum => .builtin "sum"
  | .repr => .builtin "repr"
  | .sorted => .builtin "sorted"
  | .max => .builtin "max"
  | .min => .builtin "min"
  | .str => .type "str"
theorem one_v {K : Fg} {O : AS} {H : Hp} {d : D} {xs : List V} (l : [d].length = xs.length) (h : ∀ (i : Nat) e x, [d][i]? = some e → xs[i]? = some x → VRep K O H e x) : ∃ x, xs = [x] ∧ VRep K O H d x := by
  match xs, l with
  | [x], _ => exact ⟨x, rfl, h 0 d x rfl rfl⟩
theorem repL_ints {K : Fg} {O : AS} {H : Hp} : ∀ (ms : List Int), RepL K O H (ms.map D.int) (ms.map V.int)
  | [] => RepL.nil
  | _ :: r => RepL.cons rfl (repL_ints r)
theorem blt_ok (sb : Sb X.base) (hc : X.calm = true) (hg : X.A.guards = some []) (hu : X.A.units + 80 < cLine) (b : Bi) : CallR X b.val (rDs X.K (bltP b)) := by
  intro pins s σ H xs us Q I r h
  obtain ⟨O, ds, R, t, l, hv, g, f⟩ := h
  unfold bltP at g
  split at g
  · obtain ⟨x, rfl, h1⟩ := one_v l hv
    obtain ⟨a, ys, rfl, e1, r1⟩ := h1.lst
    refine call_len_seq pins s σ H _ us Q I r ⟨a, ys, rfl, .inl (SqL.of e1), ?_⟩
    rw [← r1.len]
    exact f.va g rfl
  · obtain ⟨x, rfl, h1⟩ := one_v l hv
    obtain ⟨a, ys, rfl, e1, r1⟩ := h1.scr
    refine call_len_seq pins s σ H _ us Q I r ⟨a, ys, rfl, .inl e1, ?_⟩
    rw [← r1.len]
    exact f.va g rfl
  · obtain ⟨x, rfl, h1⟩ := one_v l hv
    obtain ⟨a, ys, rfl, e1, r1, _⟩ := h1.tup
    refine call_len_seq pins s σ H _ us Q I r ⟨a, ys, rfl, .inr e1, ?_⟩
    rw [← r1.len]
    exact f.va g rfl
  · obtain ⟨x, rfl, h1⟩ := one_v l hv
    obtain rfl := h1.str
    exact call_len_str pins s σ H _ us Q I r ⟨_, rfl, g.1, f.va g.2 rfl⟩
  · obtain ⟨x, rfl, h1⟩ := one_v l hv
    obtain rfl := h1.int
    exact call_abs pins s σ H _ us Q I r ⟨_, rfl, f.va g rfl⟩
  · obtain ⟨x, rfl, h1⟩ := one_v l hv
    obtain rfl := h1.int
    exact call_int1 pins s σ H _ us Q I r (.inl ⟨_, rfl, f.va g rfl⟩)
  · obtain ⟨x, rfl, h1⟩ := one_v l hv
    obtain rfl := h1.bl
    exact call_int1 pins s σ H _ us Q I r (.inr ⟨_, rfl, f.va g rfl⟩)
  · obtain ⟨x, rfl, h1⟩ := one_v l hv
    obtain ⟨a, ys, rfl, e1, r1⟩ := h1.lst
    exact call_tuple_of pins s σ H _ us Q I r ⟨a, ys, rfl, .inl ⟨SqL.of e1, fun p n => f.tup t g r1 n⟩⟩
  · obtain ⟨x, rfl, h1⟩ := one_v l hv
    obtain ⟨a, ys, rfl, e1, r1, r2⟩ := h1.tup
    exact call_tuple_of pins s σ H _ us Q I r ⟨a, ys, rfl, .inr ⟨e1, f.va g r2⟩⟩
  · obtain ⟨x, rfl, h1⟩ := one_v l hv
    obtain ⟨a, ys, rfl, e1, r1⟩ := h1.lst
    exact call_list_of pins s σ H _ us Q I r ⟨a, ys, rfl, .inl (SqL.of e1), fun p n => f.lst g r1 n⟩
  · obtain ⟨x, rfl, h1⟩ := one_v l hv
    obtain ⟨a, ys, rfl, e1, r1, r2⟩ := h1.tup
    exact call_list_of pins s σ H _ us Q I r ⟨a, ys, rfl, .inr e1, fun p n => f.lst g r1 n⟩
  · obtain ⟨x, rfl, h1⟩ := one_v l hv
    obtain ⟨a, ys, rfl, e1, r1⟩ := h1.lst
    obtain ⟨bs, e2, g⟩ := g
    obtain rfl := bls_rep r1 e2
    exact cr_all hc pins s σ H _ us Q I r ⟨a, bs, rfl, SqL.of e1, f.va g rfl⟩
  · obtain ⟨x, rfl, h1⟩ := one_v l hv
    obtain ⟨a, ys, rfl, e1, r1⟩ := h1.lst
    obtain ⟨bs, e2, g⟩ := g
    obtain rfl := bls_rep r1 e2
    exact cr_any hc pins s σ H _ us Q I r ⟨a, bs, rfl, SqL.of e1, f.va g rfl⟩
  · obtain ⟨x, rfl, h1⟩ := one_v l hv
    obtain ⟨a, ys, rfl, e1, r1⟩ := h1.lst
    obtain ⟨bs, e2, g⟩ := g
    obtain rfl := ints_rep r1 e2
    exact cr_sum hc pins s σ H _ us Q I r ⟨a, bs, rfl, SqL.of e1, f.va g rfl⟩
  · obtain ⟨x, rfl, h1⟩ := one_v l hv
    exact repr_ok sb hg hu pins s σ H _ us Q I r ⟨O, _, x, rfl, h1, g.1, f.va g.2 rfl⟩
  · obtain ⟨x, rfl, h1⟩ := one_v l hv
    obtain ⟨a, ys, rfl, e1, r1, _⟩ := h1.tup
    obtain ⟨bs, e2, g⟩ := g
    obtain rfl := ints_rep r1 e2
    exact cr_sortedT pins s σ H _ us Q I r ⟨a, bs, rfl, e1, fun ms p h1 h2 n => f.lst (g ms h1 h2) (repL_ints ms) n⟩
  · obtain ⟨x, rfl, h1⟩ := one_v l hv
    obtain ⟨a, ys, rfl, e1, r1⟩ := h1.lst
    obtain ⟨bs, e2, g⟩ := g
    obtain rfl := ints_rep r1 e2
    exact cr_sortedI pins s σ H _ us Q I r ⟨a, bs, rfl, SqL.of e1, fun ms p h1 h2 n => f.lst (g ms h1 h2) (repL_ints ms) n⟩
  · obtain ⟨x, rfl, h1⟩ := one_v l hv
    obtain ⟨a, ys, rfl, e1, r1⟩ := h1.lst
    obtain ⟨bs, e2, g0, g⟩ := g
    obtain rfl := ints_rep r1 e2
    exact cr_max hc pins s σ H _ us Q I r ⟨a, bs, rfl, SqL.of e1, g0, fun m h1 h2 => f.va (g m h1 h2) rfl⟩
  · obtain ⟨x, rfl, h1⟩ := one_v l hv
    obtain ⟨a, ys, rfl, e1, r1⟩ := h1.lst
    obtain ⟨bs, e2, g0, g⟩ := g
    obtain rfl := ints_rep r1 e2
    exact cr_min hc pins s σ H _ us Q I r ⟨a, bs, rfl, SqL.of e1, g0, fun m h1 h2 => f.va (g m h1 h2) rfl⟩
  · obtain ⟨x, rfl, h1⟩ := one_v l hv
    obtain rfl := h1.int
    exact call_str_int pins s σ H _ us Q I r ⟨_, rfl, g.1, f.va g.2 rfl⟩
  · exact g.elim
end
end DL

namespace DL
open PySem PySem.Spec PyProof.Rows L2

/-! defs, nothing being shown meanwhile -/
abbrev Sq := List V → Hp → VK → Prop
structure GOk (P : Program) (w : World) (K : Fg) (mg : Str → Option Value) (base : Heap) (k : Nat) (f : Addr) (fd : FuncData) (ps : List Str) (sp : Sq) : Prop where
  len : ∀ vs H Q, sp vs H Q → vs.length = ps.length
  run : ∀ (A : Around) (outer : List Env) (s : Shared) (H : Hp) (args : Args) (us : List Value) (vs : List V) (Q : VK),
    Room k A → A.guards = some [] → Env0 P w K mg base A outer s H → BindsTo s fd args (ps.zip us) → Vals vs us → sp vs H Q →
    codeAny (model P w) A (.call (.ref f) args) (CR CX0 outer P w H s Q E0) s
theorem GOk.up {P : Program} {w : World} {K : Fg} {mg : Str → Option Value} {base : Heap} {j k : Nat} {f : Addr} {fd : FuncData} {ps : List Str} {sp : Sq}
    (G : GOk P w K mg base j f fd ps sp) (h : j ≤ k) : GOk P w K mg base k f fd ps sp :=
  ⟨G.len, fun A outer s H args us vs Q hr => G.run A outer s H args us vs Q (hr.mono h)⟩
theorem GOk.imp {P : Program} {w : World} {K : Fg} {mg : Str → Option Value} {base : Heap} {k : Nat} {f : Addr} {fd : FuncData} {ps : List Str} {sp sp' : Sq}
    (G : GOk P w K mg base k f fd ps sp) (h : ∀ vs H Q, sp' vs H Q → sp vs H Q) : GOk P w K mg base k f fd ps sp' :=
  ⟨fun vs H Q q => G.len vs H Q (h _ _ _ q), fun A outer s H args us vs Q hr hg he hb hv hs => G.run A outer s H args us vs Q hr hg he hb hv (h _ _ _ hs)⟩

/-- from the body -/
theorem g_of {P : Program} {w : World} {K : Fg} {mg : Str → Option Value} {base : Heap} {k : Nat} {f : Addr} {name qual : Str} {params : Arguments}
    {body : List Stmt} {scope : Scope} {dV kV doc pm cdv ct oc : Value} {an od : Option Addr} {osl : Array (Option Value)} {N ps : List Str} {sp : Sq}
    (lk : K.lookup f = some ⟨oc, od, .func (PySem.W.fnOf name qual params body scope dV kV doc pm an cdv ct), osl⟩)
    (hcd : PySem.W.codeIn K cdv qual = true) (S : FnScope N ps scope) (len : ∀ vs H Q, sp vs H Q → vs.length = ps.length)
    (hb : ∀ (A : Around) (outer : List Env) (s : Shared) (H : Hp) (vs : List V) (Q : VK), Room k (A.deeper (envOfC qual scope s.heap.objs.size f cdv)) →
      A.guards = some [] → sp vs H Q →
      ∃ t, PSs (cxOf CX0 P w K mg base N qual scope f cdv A outer s H E0).nox body t ∧ t { nx := fun _ H' => Q .non H', rt := Q } (start N vs) H) :
    GOk P w K mg base (k + 1) f (PySem.W.fnOf name qual params body scope dV kV doc pm an cdv ct) ps sp := by
  refine ⟨len, ?_⟩
  intro A outer s H args us vs Q hr hg e0 hbd r hsp
  have hl := len _ _ _ hsp
  have kin : ∀ b o, base.get? b = some o → s.heap.get? b = some o := fun b o e => (e0.bs b o e).1
  have KX : K.In s.heap := e0.mod.kin.keeps kin
  have hk : ∀ y ∈ ps.zip us, scope.names.lookup y.1 = some .local ∨ (scope.names.lookup y.1 = some .cell ∧
      ((cellsFrom (s.heap.objs.size + 1) scope.names []).lookup y.1).isSome = true) := by
    rintro ⟨n, v⟩ hy
    exact (S.par n (List.of_mem_zip hy).1).elim .inl fun q => .inr ⟨q, PySem.W.cellsFrom_some _ _ _ (.inl q)⟩
  refine codeAny_call_function hr.depth (KX _ _ lk) rfl S.co S.gen rfl (PySem.W.codeRec_of KX hcd) ?_
  refine hbd _ _ _ _ (wpAny_newFunctionEnv_cells S.kind hk ?_)
  intro fun_env he s1 xc
  subst he
  refine ⟨(e0.mod.nolimit.keeps kin).keeps xc.toInCall.keep, codeAny_func ?_⟩
  obtain ⟨t, ht, hq⟩ := hb A outer s H vs Q (hr.deeper _) hg hsp
  have I := inv_start (CX := CX0) (P := P) (w := w) (K := K) (mg := mg) (base := base) (E := E0) S hr.hd e0 hl r xc
  refine wpAny_mono (ht.nox.run [] s1 (start N vs) H _ I hq) ?_ (fun _ _ z => z)
  intro fl s2 h2
  cases fl with
  | ret u =>
    obtain ⟨v, _, H2, J, rv, q⟩ := h2
    exact ⟨v, H2, J.os, J.bare, J.base, J.hok, rv, q⟩
  | next =>
    obtain ⟨_, H2, J, q⟩ := h2
    exact ⟨.non, H2, J.os, J.bare, J.base, J.hok, rfl, q⟩
  | brk => exact h2.elim fun _ z => z.elim fun _ z => z.2.elim
  | cont => exact h2.elim fun _ z => z.elim fun _ z => z.2.elim

section
variable {X : Cx} {k : Nat} {f : Addr} {fd : FuncData} {ps : List Str} {sp : Sq}
/-- a call, its arguments bound -/
theorem run_g {pins : List (Addr × Obj)} {σ : Sg} {H : Hp} {s : Shared} {Q : VK} {us gs : List Value} {kw : List (Str × Value)} {vs : List V}
    (G : GOk X.prog X.w X.K X.mg X.base k f fd ps sp) (hr : Room k X.A) (hg : X.A.guards = some []) (I : L2.Inv X pins σ H s)
    (hb : BindsTo s fd ⟨us, kw⟩ (ps.zip gs)) (r : Vals vs gs) (h : sp vs H Q) : wpAny (model X.prog X.w) X.A (call (.ref f) us kw) (EP X pins σ Q) X.xe s := by
  refine wpAny_call (codeAny_mono (G.run X.A X.stack s H ⟨us, kw⟩ gs vs Q hr hg I.env0 hb r h) ?_)
  intro q s2 hq
  match q, hq with
  | .error e, hq => exact False.elim hq
  | .ok (.ret u), hq => exact I.after hq
  | .ok .next, hq => exact False.elim hq
  | .ok .brk, hq => exact False.elim hq
  | .ok .cont, hq => exact False.elim hq
end
/-- how a call by names binds -/
def KB (K : Fg) (fd : FuncData) (ps : List Str) (m : Nat) (ks : List Str) (perm : List Nat) : Prop :=
  ∀ (s : Shared) (us ws : List Value), K.In s.heap → us.length = m → ws.length = ks.length → BindsTo s fd ⟨us, ks.zip ws⟩ (ps.zip (permL perm (us ++ ws)))
/-- what may be called: a def, a class -/
structure COk (P : Program) (w : World) (K : Fg) (mg : Str → Option Value) (base : Heap) (k : Nat) (f : Addr) (n : Nat) (kws : List (Nat × List Str × List Nat)) (sp : Sq) : Prop where
  len : ∀ vs H Q, sp vs H Q → vs.length = n
  run : ∀ (X : Cx), X.prog = P → X.w = w → X.K = K → X.mg = mg → X.base = base → Room k X.A → X.A.guards = some [] → ∀ (pins : List (Addr × Obj)) (σ : Sg) (H : Hp) (s : Shared) (Q : VK) (us : List Value) (vs : List V),
    L2.Inv X pins σ H s → Vals vs us → sp vs H Q → wpAny (model X.prog X.w) X.A (call (.ref f) us []) (EP X pins σ Q) X.xe s
  kw : ∀ q ∈ kws, ∀ (X : Cx), X.prog = P → X.w = w → X.K = K → X.mg = mg → X.base = base → Room k X.A → X.A.guards = some [] → ∀ (pins : List (Addr × Obj)) (σ : Sg) (H : Hp) (s : Shared) (Q : VK) (us ws : List Value) (vs : List V),
    L2.Inv X pins σ H s → us.length = q.1 → ws.length = q.2.1.length → Vals vs (permL q.2.2 (us ++ ws)) → sp vs H Q → wpAny (model X.prog X.w) X.A (call (.ref f) us (q.2.1.zip ws)) (EP X pins σ Q) X.xe s
theorem COk.up {P : Program} {w : World} {K : Fg} {mg : Str → Option Value} {base : Heap} {j k : Nat} {f : Addr} {n : Nat} {kws : List (Nat × List Str × List Nat)} {sp : Sq}
    (G : COk P w K mg base j f n kws sp) (h : j ≤ k) : COk P w K mg base k f n kws sp :=
  ⟨G.len, fun X a b c d e r => G.run X a b c d e (r.mono h), fun q hq X a b c d e r => G.kw q hq X a b c d e (r.mono h)⟩
theorem COk.of_g {P : Program} {w : World} {K : Fg} {mg : Str → Option Value} {base : Heap} {k : Nat} {f : Addr} {fd : FuncData} {ps : List Str} {kws : List (Nat × List Str × List Nat)} {sp : Sq}
    (G : GOk P w K mg base k f fd ps sp) (hb : Binds K fd ps []) (kb : ∀ q ∈ kws, KB K fd ps q.1 q.2.1 q.2.2) : COk P w K mg base k f ps.length kws sp := by
  refine ⟨G.len, ?_, ?_⟩
  · rintro X rfl rfl rfl rfl rfl hr hg pins σ H s Q us vs I r q
    have hl : us.length = ps.length := by rw [← r.length]; exact G.len _ _ _ q
    have b := hb s us I.kIn (by rw [List.append_nil]; exact hl)
    rw [List.append_nil] at b
    exact run_g G hr hg I b r q
  · rintro ⟨m, ks, perm⟩ hq X rfl rfl rfl rfl rfl hr hg pins σ H s Q us ws vs I l1 l2 r q
    exact run_g G hr hg I (kb _ hq s us ws I.kIn l1 l2) r q
section
variable {X : Cx} {k : Nat} {f : Addr} {n : Nat} {kws0 : List (Nat × List Str × List Nat)} {sp : Sq}
/-- no starred argument -/
def noStar : Expr → Bool
  | .Starred _ _ => false
  | _ => true
theorem star_cons {e : Expr} {es : List Expr} {env : Env} (h : noStar e = true) : starEach (e :: es) env = (false, eval e env) :: starEach es env := by
  cases e <;> first | rfl | cases h
theorem star_any {env : Env} {pos : Pos} : ∀ {es : List Expr}, es.all noStar = true → (backTo pos (starEach es env)).any (·.1) = false
  | [], _ => rfl
  | e :: es, h => by
    rw [List.all_cons, Bool.and_eq_true] at h
    rw [star_cons h.1]
    show (false || (backTo pos (starEach es env)).any (·.1)) = false
    rw [star_any h.2]
    rfl
def tG (sp : Sq) (t : TA) : TE := fun σ H Q => t σ H fun vs H1 => sp vs H1 Q
section
variable {x : Str} {p pos : Pos}
theorem pe_g {e : Expr} {es : List Expr} {t : TA} (G : COk X.prog X.w X.K X.mg X.base k f n kws0 sp) (hr : Room k X.A) (hg : X.A.guards = some []) (gl : Gl X x) (hm : X.mg x = some (.ref f))
    (hk : PySem.W.keepIn X.K (.ref f) = true) (ha : PA X (e :: es) t) (hs : (e :: es).all noStar = true) (hd : (x == ("__debug__" : Str)) = false) : PE X (.Call (.Name x p) (e :: es) [] pos) (tG sp t) := by
  refine ⟨fun pins s σ H Q I h => wpAny_Call_Name_kw (ld_glob I gl hm ?_ hd)⟩
  rw [List.all_cons, Bool.and_eq_true] at hs
  refine PySem.W.callWith_K (h₀ := X.base) I.ok.mod.kin hk (thn (ha.run pos pins s σ H _ I h) ?_) (star_cons hs.1) (star_any hs.2)
  rintro us s1 ⟨vs, H1, I1, r, q⟩
  refine ⟨I1.kIn, ?_⟩
  exact G.run X rfl rfl rfl rfl rfl hr hg _ _ _ _ _ _ _ I1 r q
theorem pe_g0 (G : COk X.prog X.w X.K X.mg X.base k f n kws0 sp) (hr : Room k X.A) (hg : X.A.guards = some []) (gl : Gl X x) (hm : X.mg x = some (.ref f))
    (hk : PySem.W.keepIn X.K (.ref f) = true) (hd : (x == ("__debug__" : Str)) = false) : PE X (.Call (.Name x p) [] [] pos) (fun _ H Q => sp [] H Q) := by
  refine ⟨fun pins s σ H Q I h => wpAny_Call_Name_kw (ld_glob I gl hm ?_ hd)⟩
  exact PySem.W.callWith_K0 I.kIn hk (G.run X rfl rfl rfl rfl rfl hr hg _ _ _ _ _ _ _ I .nil h)
theorem perm_vals {perm : List Nat} {vs : List V} {us : List Value} (r : Vals vs us) : Vals (permL perm vs) (permL perm us) := by
  unfold permL
  induction perm with
  | nil => exact .nil
  | cons i is ih =>
    rw [List.filterMap_cons, List.filterMap_cons]
    cases e : vs[i]? with
    | none =>
      rw [Vals.none_of r e]
      exact ih
    | some v =>
      obtain ⟨u, e2, q⟩ := Vals.get r e
      rw [e2]
      exact .cons q ih
def tGK (perm : List Nat) (m n : Nat) (sp : Sq) (t u : TA) : TE := fun σ H Q => t σ H fun vs H1 => u σ H1 fun zs H2 => vs.length = m ∧ zs.length = n ∧ sp (permL perm (vs ++ zs)) H2 Q
theorem pe_gk {e : Expr} {es : List Expr} {kws : List Keyword} {t u : TA} {perm : List Nat} {m : Nat} {ks : List Str} (G : COk X.prog X.w X.K X.mg X.base k f n kws0 sp) (hr : Room k X.A) (hg : X.A.guards = some []) (gl : Gl X x) (hm : X.mg x = some (.ref f))
    (hk : PySem.W.keepIn X.K (.ref f) = true) (hb : (m, ks, perm) ∈ kws0) (ha : PA X (e :: es) t) (hu : PK X kws u) (hs : (e :: es).all noStar = true)
    (hall : (backToKw pos (keywordEach kws X.env)).all (·.1.isSome) = true) (hks : (backToKw pos (keywordEach kws X.env)).filterMap (·.1) = ks) (hno : (backToKw pos (keywordEach kws X.env)).any (·.1.isNone) = false)
    (hd : (x == ("__debug__" : Str)) = false) : PE X (.Call (.Name x p) (e :: es) kws pos) (tGK perm m ks.length sp t u) := by
  refine ⟨fun pins s σ H Q I h => wpAny_Call_Name_kw (ld_glob I gl hm ?_ hd)⟩
  have hs' := hs
  rw [List.all_cons, Bool.and_eq_true] at hs'
  refine PySem.W.callWith_KW (h₀ := X.base) I.ok.mod.kin hk hall (thn (ha.run pos pins s σ H _ I h) ?_) (by rw [star_any hs, hno]; rfl) (star_cons hs'.1)
  rintro us s1 ⟨vs, H1, I1, r, q⟩
  refine thn (hu.run pos pins s1 σ H1 _ I1 q) ?_
  rintro ws s2 ⟨zs, H2, I2, rz, l1, l2, q2⟩
  refine ⟨I2.kIn, ?_⟩
  rw [hks]
  exact G.kw _ hb X rfl rfl rfl rfl rfl hr hg _ _ _ _ _ _ _ _ I2 (by rw [List.nil_append, ← r.length]; exact l1) (by rw [← rz.length]; exact l2) (perm_vals (r.append rz)) q2
theorem pe_gk0 {kws : List Keyword} {u : TA} {perm : List Nat} {ks : List Str} (G : COk X.prog X.w X.K X.mg X.base k f n kws0 sp) (hr : Room k X.A) (hg : X.A.guards = some []) (gl : Gl X x) (hm : X.mg x = some (.ref f))
    (hk : PySem.W.keepIn X.K (.ref f) = true) (hb : (0, ks, perm) ∈ kws0) (hu : PK X kws u)
    (hall : (backToKw pos (keywordEach kws X.env)).all (·.1.isSome) = true) (hks : (backToKw pos (keywordEach kws X.env)).filterMap (·.1) = ks) (hno : (backToKw pos (keywordEach kws X.env)).any (·.1.isNone) = false)
    (hd : (x == ("__debug__" : Str)) = false) : PE X (.Call (.Name x p) [] kws pos) (fun σ H Q => u σ H fun zs H2 => zs.length = ks.length ∧ sp (permL perm zs) H2 Q) := by
  refine ⟨fun pins s σ H Q I h => wpAny_Call_Name_kw (ld_glob I gl hm ?_ hd)⟩
  refine PySem.W.callWith_KW0 (h₀ := X.base) I.ok.mod.kin hk hall (thn (hu.run pos pins s σ H _ I h) ?_) (by rw [hno]; rfl)
  rintro ws s2 ⟨zs, H2, I2, rz, l2, q2⟩
  refine ⟨I2.kIn, ?_⟩
  rw [hks]
  exact G.kw _ hb X rfl rfl rfl rfl rfl hr hg _ _ _ _ _ _ _ _ I2 rfl (by rw [← rz.length]; exact l2) (perm_vals rz) q2
end
end
end DL

namespace DL
open PySem PySem.Spec PyProof.Rows L2

/-! the words against the text -/
structure Mc where
  N : List Str
  sc : Scope
  fn : Str → Bool
  fs : List Str
  cs : List Str
  bs : List Str
  kw : List (Nat × Nat × List Str × List Nat)
  /-- names that math.gcd has -/
  gs : List Str
def visB (c : Mc) (x : Str) : Bool := match c.sc.names.lookup x with
  | some .local => true
  | some .cell => true
  | some .free => true
  | _ => false
def plainN (x : Str) : Bool := !(x == ("__debug__" : Str)) && !(x == ("__classdict__" : Str))
def nmB (c : Mc) (i : Nat) (x : Str) : Bool := decide (c.N[i]? = some x) && visB c x && plainN x
def glB (c : Mc) (x : Str) : Bool := decide (c.sc.names.lookup x = some .globalImplicit) && plainN x
def btB (c : Mc) (x : Str) : Bool := glB c x && decide (x ∈ c.bs)
def locB (c : Mc) (i : Nat) (x : Str) : Bool := decide (c.N[i]? = some x) && (decide (c.sc.names.lookup x = some .local) || (decide (c.sc.names.lookup x = some .cell) && c.fn x))
def noSet : Expr → Bool
  | .Set _ _ _ => false
  | _ => true
def plainIxB : Expr → Bool
  | .Slice _ _ _ _ => false
  | _ => true
def notIn : CmpOp → Bool
  | .In => false
  | .NotIn => false
  | _ => true
def nameIs (n : Str) : Expr → Bool
  | .Name x _ => decide (x = n)
  | _ => false
def clsNames (c : Mc) : List Cn → List Expr → Bool
  | [], [] => true
  | k :: ks, .Name x _ :: es => decide (x = k.name) && btB c x && clsNames c ks es
  | _, _ => false
def kwNames : List Keyword → List Str → Bool
  | [], [] => true
  | ⟨some x, _, _⟩ :: r, y :: ys => decide (x = y) && kwNames r ys
  | _, _ => false
mutual
def matg (c : Mc) : Tg → Expr → Bool
  | .name i, .Name x _ => locB c i x
  | .tup ts, .Tuple es _ _ => matgs c ts es
  | _, _ => false
def matgs (c : Mc) : Tgs → List Expr → Bool
  | .nil, [] => true
  | .cons t ts, e :: es => noStar e && matg c t e && matgs c ts es
  | _, _ => false
end
mutual
def tgIn (own : List Nat) : Tg → Bool
  | .name i => decide (i ∈ own)
  | .tup ts => tgsIn own ts
def tgsIn (own : List Nat) : Tgs → Bool
  | .nil => true
  | .cons t ts => tgIn own t && tgsIn own ts
end
def ownN (c : Mc) (own : List Nat) : List (Str × Nat) := own.map fun i => (c.N.getD i "", i)
def isTup : Expr → Bool
  | .Tuple _ _ _ => true
  | _ => false
def noSuper : Expr → Bool
  | .Call (.Name _ _) [] [] _ => false
  | _ => true
mutual
def mat : Ex → Mc → Expr → Bool
  | .var i, c, x => match x with
    | .Name n _ => nmB c i n
    | _ => false
  | .frz i, c, x => match x with
    | .Name n _ => nmB c i n
    | _ => false
  | .int n, c, x => match x with
    | .Constant (.int m) _ _ => decide (m = n)
    | _ => false
  | .str n, c, x => match x with
    | .Constant (.str m) _ _ => decide (m = n)
    | _ => false
  | .bl n, c, x => match x with
    | .Constant (.bool m) _ _ => decide (m = n)
    | _ => false
  | .non, c, x => match x with
    | .Constant .none _ _ => true
    | _ => false
  | .con k, c, x => match x with
    | .Name n _ => glB c n && decide (c.cs[k]? = some n)
    | _ => false
  | .bin o a b, c, x => match x with
    | .BinOp l p r _ => decide (p = o) && mat a c l && mat b c r
    | _ => false
  | .neg a, c, x => match x with
    | .UnaryOp .USub l _ => mat a c l
    | _ => false
  | .cmp o a b, c, x => match x with
    | .Compare l [p] [r] _ => decide (p = o) && (!behindInMarks p r) && mat a c l && mat b c r
    | _ => false
  | .chain o p a b d, c, x => match x with
    | .Compare l [o', p'] [r, t] _ => decide (o' = o) && decide (p' = p) && notIn o && notIn p && mat a c l && mat b c r && mat d c t
    | _ => false
  | .bop k es, c, x => match x with
    | .BoolOp .And vs _ => k && mats es c vs
    | .BoolOp .Or vs _ => (!k) && mats es c vs
    | _ => false
  | .not a, c, x => match x with
    | .UnaryOp .Not l _ => mat a c l
    | _ => false
  | .ite t a b, c, x => match x with
    | .IfExp t' l r _ => mat t c t' && mat a c l && mat b c r
    | _ => false
  | .tup es, c, x => match x with
    | .Tuple vs _ _ => mats es c vs
    | _ => false
  | .lst es, c, x => match x with
    | .List vs _ => mats es c vs
    | _ => false
  | .ix a i, c, x => match x with
    | .Subscript l r _ => plainIxB r && mat a c l && mat i c r
    | _ => false
  | .sl a lo hi, c, x => match x with
    | .Subscript l (.Slice lo' hi' none _) _ => mat a c l && matp lo c lo' && matp hi c hi'
    | _ => false
  | .call f es, c, x => match x with
    | .Call (.Name n _) vs [] _ => glB c n && decide (c.fs[f]? = some n) && mats es c vs
    | _ => false
  | .callk f ns perm es ks, c, x => match x with
    | .Call (.Name n _) vs kws _ => glB c n && decide (c.fs[f]? = some n) && mats es c vs && matk ks c kws && kwNames kws ns && decide ((f, vs.length, ns, perm) ∈ c.kw)
    | _ => false
  | .blt b es, c, x => match x with
    | .Call (.Name n _) vs [] _ => decide (n = b.name) && btB c n && (!vs.isEmpty) && mats es c vs
    | _ => false
  | .attr a f, c, x => match x with
    | .Attribute l n _ => decide (n = f) && noSuper l && mat a c l
    | _ => false
  | .pop j i, c, x => match x with
    | .Call (.Attribute (.Name n _) f ap) [a] [] cp => nmB c j n && decide (f = "pop") && (ap.endLine == cp.line) && noStar a && mat i c a
    | _ => false
  | .lrng a, c, x => match x with
    | .Call (.Name n1 _) [.Call (.Name n2 _) [l] [] _] [] _ => decide (n1 = "list") && btB c n1 && decide (n2 = "range") && btB c n2 && noStar l && mat a c l
    | _ => false
  | .lset a, c, x => match x with
    | .Call (.Name n1 _) [.Call (.Name n2 _) [l] [] _] [] _ => decide (n1 = "len") && btB c n1 && decide (n2 = "set") && btB c n2 && noStar l && mat a c l
    | _ => false
  | .bits a, c, x => match x with
    | .Call (.Attribute l n apos) [] [] pos => decide (n = "bit_length") && noSuper l && (apos.endLine == pos.line) && mat a c l
    | _ => false
  | .gcd es, c, x => match x with
    | .Call (.Name n _) vs [] _ => glB c n && decide (n ∈ c.gs) && (!vs.isEmpty) && mats es c vs
    | _ => false
  | .emp neg a, c, x => match x with
    | .Compare l [p] [.List [] _] _ => decide (p = (match neg with | true => .NotEq | false => .Eq)) && mat a c l
    | _ => false
  | .dn0, c, x => match x with
    | .Dict [] [] _ => true
    | _ => false
  | .dn1 a b, c, x => match x with
    | .Dict [some k] [v] _ => mat a c k && mat b c v
    | _ => false
  | .comp2 g it g1 it1 e own own1, c, x => match x with
    | .ListComp elt [⟨tg, iter, [], 0⟩, ⟨tg1, iter1, [], 0⟩] scope _ => mati it c tg iter && noSet iter && noSet iter1 && blkC c.N c.sc scope (ownN c own) && tgIn own g && tgIn own1 g1 && own1.all (fun i => decide (i ∈ own)) &&
        matg { c with sc := relS scope c.sc, fn := fun x => scope.names.lookup x == some .cell } g tg &&
        mati it1 { c with sc := relS scope c.sc, fn := fun x => scope.names.lookup x == some .cell } tg1 iter1 &&
        matg { c with sc := relS scope c.sc, fn := fun x => scope.names.lookup x == some .cell } g1 tg1 &&
        mat e { c with sc := relS scope c.sc, fn := fun x => scope.names.lookup x == some .cell } elt
    | _ => false
  | .isi a cs, c, x => match x with
    | .Call (.Name n _) [l, .Name y q] [] _ => decide (n = "isinstance") && btB c n && clsNames c cs [.Name y q] && noStar l && mat a c l
    | .Call (.Name n _) [l, .Tuple vs _ _] [] _ => decide (n = "isinstance") && btB c n && clsNames c cs vs && noStar l && decide (cs.length ≤ 20) && mat a c l
    | _ => false
  | .comp g it t e own, c, x => match x with
    | .ListComp elt [⟨tg, iter, ifs, 0⟩] scope _ => mati it c tg iter && noSet iter && blkC c.N c.sc scope (ownN c own) && tgIn own g &&
        matg { c with sc := relS scope c.sc, fn := fun x => scope.names.lookup x == some .cell } g tg &&
        matt t { c with sc := relS scope c.sc, fn := fun x => scope.names.lookup x == some .cell } ifs &&
        mat e { c with sc := relS scope c.sc, fn := fun x => scope.names.lookup x == some .cell } elt
    | _ => false
def mats : Exs → Mc → List Expr → Bool
  | .nil, c, xs => xs.isEmpty
  | .cons e es, c, xs => match xs with
    | x :: r => noStar x && mat e c x && mats es c r
    | [] => false
def matk : Exs → Mc → List Keyword → Bool
  | .nil, c, xs => xs.isEmpty
  | .cons e es, c, xs => match xs with
    | ⟨_, x, _⟩ :: r => mat e c x && matk es c r
    | [] => false
def matp : Exs → Mc → Option Expr → Bool
  | .nil, c, x => x.isNone
  | .cons e es, c, x => match x with
    | some y => mat e c y
    | none => false
def matt : Exs → Mc → List Expr → Bool
  | .nil, c, xs => xs.isEmpty
  | .cons e es, c, xs => match xs with
    | [x] => mat e c x
    | _ => false
def mati : It → Mc → Expr → Expr → Bool
  | .seq e, c, tg, x => mat e c x
  | .rng1 a, c, tg, x => match x with
    | .Call (.Name n _) [l] [] _ => decide (n = "range") && btB c n && noStar l && mat a c l
    | _ => false
  | .rng2 a b, c, tg, x => match x with
    | .Call (.Name n _) [l, r] [] _ => decide (n = "range") && btB c n && noStar l && noStar r && mat a c l && mat b c r
    | _ => false
  | .enm e, c, tg, x => match x with
    | .Call (.Name n _) [l] [] _ => decide (n = "enumerate") && btB c n && isTup tg && noStar l && mat e c l
    | _ => false
  | .zip a b, c, tg, x => match x with
    | .Call (.Name n _) [l, r] [] _ => decide (n = "zip") && btB c n && isTup tg && noStar l && noStar r && mat a c l && mat b c r
    | _ => false
end

/-! a def's worth as a promise -/
def spF (K : Fg) (n : Nat) (fe : Fe) : Sq := fun vs H Q => ∃ Ox L ss R, ss.length = n ∧ EnOk K Ox L H (vs.map some) ss ∧ fe ss R ∧
  ∀ r outs v H', R r outs → Stp L H H' → RvOk K Ox L H H' (vs.map some) outs v r → (∀ i, r ≠ .vw i) → (∀ (k : Nat) d, outs[k]? ≠ some (.ow d)) → Q v H'
structure FnFact (X : Cx) (i : Nat) (kw : List (Nat × Nat × List Str × List Nat)) (x : Str) (fe : Fe) : Prop where
  ex : ∃ (f : Addr) (n : Nat) (kws : List (Nat × List Str × List Nat)) (k : Nat), COk X.prog X.w X.K X.mg X.base k f n kws (spF X.K n fe) ∧ Room k X.A ∧ X.mg x = some (.ref f) ∧
    PySem.W.keepIn X.K (.ref f) = true ∧ (∀ ss R, fe ss R → ss.length = n) ∧ ∀ m ks perm, (i, m, ks, perm) ∈ kw → (m, ks, perm) ∈ kws
structure XOk (X : Cx) (c : Mc) (F : List Fe) (C : List D) : Prop where
  calm : X.calm = true
  nd : X.N.Nodup
  gd : X.A.guards = some []
  un : X.A.units + 80 < cLine
  N : X.N = c.N
  sc : X.env.scope = c.sc
  fn : X.fn = c.fn
  bs : ∀ x ∈ c.bs, X.mg x = none
  fl : F.length = c.fs.length
  fs : ∀ (i : Nat) fe x, F[i]? = some fe → c.fs[i]? = some x → FnFact X i c.kw x fe
  cs : ∀ (i : Nat) d x, C[i]? = some d → c.cs[i]? = some x → ∃ v u, X.mg x = some u ∧ RelV v u ∧ ∀ O H, Rep X.K O H d v
  gs : ∀ x ∈ c.gs, X.mg x = some (.builtin "math.gcd")
  sb : Sb X.base

section
variable {X : Cx} {c : Mc} {F : List Fe} {C : List D}
theorem and3 {a b : Bool} (h : (a && b) = true) : a = true ∧ b = true := by
  rw [Bool.and_eq_true] at h
  exact h
theorem plain1 {x : Str} (h : plainN x = true) : (x == ("__debug__" : Str)) = false ∧ (x == ("__classdict__" : Str)) = false := by
  unfold plainN at h
  have h := and3 h
  simpa using h
theorem nm_pe (o : XOk X c F C) {i : Nat} {x : Str} {pos : Pos} (h : nmB c i x = true) : PE X (.Name x pos) (tVar i) := by
  unfold nmB at h
  obtain ⟨h1, h2⟩ := and3 h
  obtain ⟨h0, h1⟩ := and3 h1
  have p := plain1 h2
  refine pe_var (by rw [o.N]; exact of_decide_eq_true h0) ?_ p.1 p.2
  unfold visB at h1
  unfold Vis
  rw [o.sc]
  split at h1
  · rename_i e; exact .inl e
  · rename_i e; exact .inr (.inl e)
  · rename_i e; exact .inr (.inr e)
  · cases h1
theorem gl_of (o : XOk X c F C) {x : Str} (h : glB c x = true) : Gl X x ∧ (x == ("__debug__" : Str)) = false := by
  obtain ⟨h1, h2⟩ := and3 h
  refine ⟨?_, (plain1 h2).1⟩
  show X.env.scope.names.lookup x = _
  rw [o.sc]
  exact of_decide_eq_true h1
theorem bt_of (o : XOk X c F C) {x : Str} (h : btB c x = true) : Gl X x ∧ (x == ("__debug__" : Str)) = false ∧ X.mg x = none := by
  obtain ⟨h1, h2⟩ := and3 h
  have g := gl_of o h1
  exact ⟨g.1, g.2, o.bs x (of_decide_eq_true h2)⟩

theorem pe_imp {e : Expr} {t t' : TE} (h : PE X e t) (i : ∀ σ H Q, t' σ H Q → t σ H Q) : PE X e t' := ⟨fun pins s σ H Q I q => h.run pins s σ H Q I (i σ H Q q)⟩
theorem pt_imp {e : Expr} {t t' : TT} (h : PT X e t) (i : ∀ σ H Q, t' σ H Q → t σ H Q) : PT X e t' := ⟨fun pins s σ H Q I q => h.run pins s σ H Q I (i σ H Q q)⟩
theorem pa_imp {e : List Expr} {t t' : TA} (h : PA X e t) (i : ∀ σ H Q, t' σ H Q → t σ H Q) : PA X e t' := ⟨fun pos pins s σ H Q I q => h.run pos pins s σ H Q I (i σ H Q q)⟩

/-! readings -/
def tA (K : Fg) (n : Nat) (f : En → (List Av → En → Prop) → Prop) : TA := fun σ H Q => ∃ Ox L ρ R, EnOk K Ox L H σ ρ ∧ f ρ R ∧
  ∀ as ρ' L' vs H', R as ρ' → Mv ρ L ρ' L' → Stp L H H' → EnOk K Ox L' H' σ ρ' → AvsOk K Ox L' H' σ vs as → vs.length = n → Q vs H'
def tTs (K : Fg) (f : En → (Bool → En → Prop) → Prop) : TT := fun σ H Q => ∃ Ox L ρ R, EnOk K Ox L H σ ρ ∧ f ρ R ∧
  ∀ b ρ' L' H', R b ρ' → Mv ρ L ρ' L' → Stp L H H' → EnOk K Ox L' H' σ ρ' → Q b H'
/-- a value's truth -/
def tTv (K : Fg) (f : Fx) : TT := fun σ H Q => ∃ Ox L ρ R, EnOk K Ox L H σ ρ ∧ f ρ R ∧
  ∀ r ρ' L' v H', R r ρ' → Mv ρ L ρ' L' → Stp L H H' → RvOk K Ox L' H H' σ ρ' v r → ∃ d k, vwA ρ' r.av = some d ∧ truD d = some k ∧ Q k H'
def tPo (K : Fg) (f : En → (Option Int → En → Prop) → Prop) : TO := fun σ H Q => ∃ Ox L ρ R, EnOk K Ox L H σ ρ ∧ f ρ R ∧
  ∀ b ρ' L' H', R b ρ' → Mv ρ L ρ' L' → Stp L H H' → EnOk K Ox L' H' σ ρ' → Q b H'

section
variable {K : Fg} {Ox : AS} {L L' : LA} {H H' : Hp} {σ : Sg} {ρ ρ' : En}
theorem EnOk.trk' (E : EnOk K Ox L H σ ρ) : Trk (Ow Ox L) H := fun a h => E.trk h
theorem EnOk.vrep (E : EnOk K Ox L H σ ρ) {v : V} {a : Av} {d : D} (h : AvOk K Ox L H σ v a) (q : vwA ρ a = some d) : VRep K (Ow Ox L) H d v := by
  cases a with
  | dat e =>
    cases q
    exact .inl h
  | ref i =>
    have h' : σ[i]? = some (some v) := h
    simp only [vwA] at q
    split at q
    · cases q
      obtain ⟨u, e, r⟩ := E.va i d (by assumption)
      rw [h'] at e
      cases e
      exact .inl r
    · cases q
      obtain ⟨a, _, e, r⟩ := E.ow i d (.inl (by assumption))
      rw [h'] at e
      cases e
      exact .inr ⟨a, rfl, r⟩
    · cases q
      obtain ⟨a, _, e, r⟩ := E.ow i d (.inr (by assumption))
      rw [h'] at e
      cases e
      exact .inr ⟨a, rfl, r⟩
    · cases q
theorem EnOk.drep (E : EnOk K Ox L H σ ρ) {v : V} {a : Av} {d : D} (h : AvOk K Ox L H σ v a) (q : datA ρ a = some d) : Rep K (Ow Ox L) H d v := by
  cases a with
  | dat e =>
    cases q
    exact h
  | ref i =>
    have h' : σ[i]? = some (some v) := h
    simp only [datA] at q
    split at q
    · cases q
      obtain ⟨u, e, r⟩ := E.va i d (by assumption)
      rw [h'] at e
      cases e
      exact r
    · cases q
theorem EnOk.dreps (E : EnOk K Ox L H σ ρ) : ∀ {vs : List V} {as : List Av} {ds : List D}, AvsOk K Ox L H σ vs as → datAs ρ as = some ds → RepL K (Ow Ox L) H ds vs
  | _, _, ds, .nil, q => by
    cases q
    rfl
  | _, _, ds, .cons (a := a) (as := as) h t, q => by
    unfold datAs at q
    split at q
    · rename_i d es e1 e2
      cases q
      exact RepL.cons (E.drep h e1) (E.dreps t e2)
    · cases q
theorem EnOk.vreps (E : EnOk K Ox L H σ ρ) : ∀ {vs : List V} {as : List Av} {ds : List D}, AvsOk K Ox L H σ vs as → vwAs ρ as = some ds →
    ds.length = vs.length ∧ ∀ (i : Nat) d x, ds[i]? = some d → vs[i]? = some x → VRep K (Ow Ox L) H d x
  | _, _, ds, .nil, q => by
    cases q
    exact ⟨rfl, fun i d x e => by simp at e⟩
  | _, _, ds, .cons (a := a) (as := as) h t, q => by
    unfold vwAs at q
    split at q
    · rename_i d es e1 e2
      cases q
      obtain ⟨l, f⟩ := E.vreps t e2
      refine ⟨by simp [l], fun i d x q1 q2 => ?_⟩
      cases i with
      | zero =>
        cases q1
        cases q2
        exact E.vrep h e1
      | succ i => exact f i d x q1 q2
    · cases q
/-- the result of an operation -/
theorem RpOk.rv (E : EnOk K Ox L H σ ρ) (s : Same H H') {v : V} {r : Rv} (h : RpOk K (Ow Ox L) H H' v r) : RvOk K Ox L H H' σ ρ v r := by
  cases r with
  | va d => exact ⟨E.same s, h⟩
  | fr d =>
    obtain ⟨a, e, n, q⟩ := h
    obtain ⟨ds, xs, _, q2, _⟩ := id q
    exact ⟨a, e, n, E.plus s n (by rw [q2]; exact nofun), q⟩
  | vw i => exact h.elim
theorem RpOk.fin {Q : VK} {R : Rv → En → Prop} {H0 : Hp} {L0 : LA} {ρ0 : En} (E : EnOk K Ox L H σ ρ) (m : Mv ρ0 L0 ρ L) (s0 : Stp L0 H0 H)
    (k : ∀ r ρ' L' v H', R r ρ' → Mv ρ0 L0 ρ' L' → Stp L0 H0 H' → RvOk K Ox L' H0 H' σ ρ' v r → Q v H') : Fin K (Ow Ox L) H (fun r => R r ρ) Q :=
  fun r v H' hr s rp => k r ρ L v H' hr m (s0.trans m (Stp.same s)) ((rp.rv E s).from s0)
end
end
end DL

namespace DL
open PySem PySem.Spec PyProof.Rows L2

section
variable {K : Fg} {Ox : AS} {L L' : LA} {H H' : Hp} {σ σ' : Sg} {ρ ρ' : En}
theorem get_set {α : Type} {l : List α} {i j : Nat} {x y : α} (h : (l.set i x)[j]? = some y) : (i = j ∧ y = x) ∨ (i ≠ j ∧ l[j]? = some y) := by
  by_cases e : i = j
  · subst e
    refine .inl ⟨rfl, ?_⟩
    by_cases l1 : i < l.length
    · rw [List.getElem?_set_self l1] at h
      exact (Option.some.inj h).symm
    · rw [List.getElem?_eq_none (by simpa using l1)] at h
      cases h
  · rw [List.getElem?_set_ne e] at h
    exact .inr ⟨e, h⟩
theorem lt_of_get {α : Type} {l : List α} {i : Nat} {x : α} (h : l[i]? = some x) : i < l.length := (List.getElem?_eq_some_iff.mp h).1
theorem EnOk.noL (E : EnOk K Ox L H σ ρ) {i : Nat} (h : ρ[i]? = some .no ∨ ∃ d, ρ[i]? = some (.va d)) : L i = none := by
  cases e : L i with
  | none => rfl
  | some a =>
    obtain ⟨d, q⟩ := E.li i a e
    rcases h with h | ⟨d', h⟩ <;> rcases q with q | q <;> (rw [h] at q; cases q)
theorem EnOk.setVa (E : EnOk K Ox L H σ ρ) {i : Nat} {d : D} {v : V} (h : ρ[i]? = some .no ∨ ∃ d, ρ[i]? = some (.va d)) (r : Rep K (Ow Ox L) H d v) :
    EnOk K Ox L H (σ.set i (some v)) (ρ.set i (.va d)) := by
  have nl := E.noL h
  have li : i < ρ.length := by
    rcases h with h | ⟨_, h⟩ <;> exact lt_of_get h
  refine ⟨by simp [E.len], E.nd, E.ext, E.dis, fun j e q => ?_, fun j e q => ?_, fun j a q => ?_⟩
  · rcases get_set q with ⟨rfl, z⟩ | ⟨z, q⟩
    · cases z
      exact ⟨v, List.getElem?_set_self (by rw [E.len]; exact li), r⟩
    · obtain ⟨u, e1, r1⟩ := E.va j e q
      exact ⟨u, by rw [List.getElem?_set_ne z]; exact e1, r1⟩
  · have q' : i ≠ j ∧ (ρ[j]? = some (.ow e) ∨ ρ[j]? = some (.mu e)) := by
      rcases q with q | q
      · rcases get_set q with ⟨_, z⟩ | ⟨z, q⟩
        · cases z
        · exact ⟨z, .inl q⟩
      · rcases get_set q with ⟨_, z⟩ | ⟨z, q⟩
        · cases z
        · exact ⟨z, .inr q⟩
    obtain ⟨a, e1, e2, r⟩ := E.ow j e q'.2
    exact ⟨a, e1, by rw [List.getElem?_set_ne q'.1]; exact e2, r⟩
  · have ne : i ≠ j := fun z => by
      subst z
      rw [nl] at q
      cases q
    obtain ⟨e, q⟩ := E.li j a q
    refine ⟨e, ?_⟩
    rw [List.getElem?_set_ne ne]
    exact q
theorem mv_set {i : Nat} {s : Sl} (h : ρ[i]? = some .no ∨ (∃ d, ρ[i]? = some (.va d)) ∨ ∃ d, ρ[i]? = some (.ow d)) : Mv ρ L (ρ.set i s) L := ⟨fun _ _ z => z, fun j d q => ⟨rfl, d, by
  have ne : i ≠ j := fun z => by
    subst z
    rcases h with h | ⟨_, h⟩ | ⟨_, h⟩ <;> (rw [h] at q; cases q)
  rw [List.getElem?_set_ne ne]
  exact q⟩⟩

/-! targets -/
/-- what a target may change -/
structure Tch (own : List Nat) (σ : Sg) (ρ : En) (σ' : Sg) (ρ' : En) : Prop where
  s : ∀ (i : Nat), i ∉ own → σ'[i]? = σ[i]?
  r : ∀ (i : Nat), i ∉ own → ρ'[i]? = ρ[i]?
  l : σ'.length = σ.length
theorem Tch.refl {own : List Nat} : Tch own σ ρ σ ρ := ⟨fun _ _ => rfl, fun _ _ => rfl, rfl⟩
theorem Tch.trans {own : List Nat} {σ1 σ2 : Sg} {ρ1 ρ2 : En} (a : Tch own σ ρ σ1 ρ1) (b : Tch own σ1 ρ1 σ2 ρ2) : Tch own σ ρ σ2 ρ2 :=
  ⟨fun i h => (b.s i h).trans (a.s i h), fun i h => (b.r i h).trans (a.r i h), b.l.trans a.l⟩
def tTg (K : Fg) (own : List Nat) (g : Tg) : TG := fun v σ H Q => ∃ Ox L ρ d R, EnOk K Ox L H σ ρ ∧ Rep K (Ow Ox L) H d v ∧ tgP g d ρ R ∧
  ∀ σ' ρ', R ρ' → EnOk K Ox L H σ' ρ' → Mv ρ L ρ' L → (tgIn own g = true → Tch own σ ρ σ' ρ') → Q σ' H
def tTgs (K : Fg) (own : List Nat) (g : Tgs) : TGs := fun vs σ H Q => ∃ Ox L ρ ds R, EnOk K Ox L H σ ρ ∧ RepL K (Ow Ox L) H ds vs ∧ tgsP g ds ρ R ∧
  ∀ σ' ρ', R ρ' → EnOk K Ox L H σ' ρ' → Mv ρ L ρ' L → (tgsIn own g = true → Tch own σ ρ σ' ρ') → Q σ' H
end

section
variable {X : Cx} {c : Mc} {F : List Fe} {C : List D}
theorem asg_each {env : Env} : ∀ {es : List Expr}, es.all noStar = true → (assignEach es env).length = es.length ∧ (assignEach es env).findIdx? (·.1) = none
  | [], _ => ⟨rfl, rfl⟩
  | e :: es, h => by
    rw [List.all_cons] at h
    have h := and3 h
    obtain ⟨a, b⟩ := asg_each (env := env) h.2
    have q : assignEach (e :: es) env = (false, assign e env) :: assignEach es env := by
      have h1 := h.1
      cases e <;> first | rfl | cases h1
    rw [q]
    refine ⟨by simp [a], ?_⟩
    rw [List.findIdx?_cons]
    simp [b]
theorem asg_map {env : Env} {e : Expr} {es : List Expr} (h : noStar e = true) : (assignEach (e :: es) env).map (·.2) = assign e env :: (assignEach es env).map (·.2) := by
  cases e <;> first | rfl | cases h
theorem matgs_star : ∀ {ts : Tgs} {es : List Expr}, matgs c ts es = true → es.all noStar = true
  | .nil, [], _ => rfl
  | .nil, _ :: _, h => by simp [matgs] at h
  | .cons _ _, [], h => by simp [matgs] at h
  | .cons t ts, e :: es, h => by
    simp only [matgs] at h
    have h1 := and3 h
    have h2 := and3 h1.1
    rw [List.all_cons, h2.1, matgs_star h1.2]
    rfl
theorem matgs_len : ∀ {ts : Tgs} {es : List Expr}, matgs c ts es = true → ts.len = es.length
  | .nil, [], _ => rfl
  | .nil, _ :: _, h => by simp [matgs] at h
  | .cons _ _, [], h => by simp [matgs] at h
  | .cons t ts, e :: es, h => by
    simp only [matgs] at h
    have h1 := and3 h
    show ts.len + 1 = es.length + 1
    rw [matgs_len h1.2]
theorem loc_of (o : XOk X c F C) {i : Nat} {x : Str} (h : locB c i x = true) : X.N[i]? = some x ∧ L2.Loc X.env.scope x ∧ (X.fn x = true ∨ X.env.scope.names.lookup x = some .local) := by
  unfold locB at h
  obtain ⟨h1, h2⟩ := and3 h
  rw [o.N, o.sc, o.fn]
  unfold L2.Loc
  refine ⟨of_decide_eq_true h1, ?_⟩
  rw [Bool.or_eq_true] at h2
  rcases h2 with h2 | h2
  · exact ⟨.inl (of_decide_eq_true h2), .inr (of_decide_eq_true h2)⟩
  · have h3 := and3 h2
    exact ⟨.inr (of_decide_eq_true h3.1), .inl h3.2⟩
mutual
theorem tg_ok (o : XOk X c F C) (own : List Nat) : ∀ (g : Tg) {tg : Expr}, matg c g tg = true → PG X tg (tTg X.K own g)
  | .name i, tg, m => by
    cases tg with
    | Name x p =>
      simp only [matg] at m
      obtain ⟨h1, h2, h3⟩ := loc_of o m
      refine ⟨fun pins s σ H v u Q I r h => (pg_name (X := X) o.nd h1 h2 h3).run pins s σ H v u Q I r ?_⟩
      obtain ⟨Ox, L, ρ, d, R, E, rp, g, k⟩ := h
      have slot : ρ[i]? = some .no ∨ ∃ d, ρ[i]? = some (.va d) := by
        simp only [tgP] at g
        split at g
        · exact .inl (by assumption)
        · exact .inr ⟨_, by assumption⟩
        · exact g.elim
      have g' : R (ρ.set i (.va d)) := by
        simp only [tgP] at g
        split at g
        · exact g
        · exact g
        · exact g.elim
      refine k _ _ g' (E.setVa slot rp) (mv_set (by rcases slot with z | z; exact .inl z; exact .inr (.inl z))) fun t => ?_
      have hi : i ∈ own := by
        simp only [tgIn] at t
        exact of_decide_eq_true t
      have ne : ∀ j, j ∉ own → i ≠ j := fun j hj z => hj (z ▸ hi)
      exact ⟨fun j hj => List.getElem?_set_ne (ne j hj), fun j hj => List.getElem?_set_ne (ne j hj), List.length_set⟩
    | _ => simp [matg] at m
  | .tup ts, tg, m => by
    cases tg with
    | Tuple es n p =>
      simp only [matg] at m
      have st := asg_each (env := X.env) (matgs_star m)
      have pg := pg_tup (X := X) (pos := p) (k := n) o.calm (tgs_ok o own ts m) st.1 st.2
      refine ⟨fun pins s σ H v u Q I r h => pg.run pins s σ H v u Q I r ?_⟩
      obtain ⟨Ox, L, ρ, d, R, E, rp, g, k⟩ := h
      cases d with
      | tup ds =>
        simp only [tgP] at g
        obtain ⟨a, xs, e, t, rl⟩ := rp
        exact ⟨a, xs, e, t.sq, by rw [← rl.len, ← g.1, matgs_len m], Ox, L, ρ, ds, R, E, rl, g.2, fun σ' ρ' r' E' mv t' => k σ' ρ' r' E' mv fun z => t' (by simpa only [tgIn] using z)⟩
      | _ => simp only [tgP] at g
    | _ => simp [matg] at m
theorem tgs_ok (o : XOk X c F C) (own : List Nat) : ∀ (g : Tgs) {es : List Expr}, matgs c g es = true → PGs X es (tTgs X.K own g)
  | .nil, es, m => by
    cases es with
    | nil =>
      refine ⟨fun pins s σ H vs us Q I r h => (pgs_nil (X := X)).run pins s σ H vs us Q I r ?_⟩
      obtain ⟨Ox, L, ρ, ds, R, E, rp, g, k⟩ := h
      cases ds with
      | nil =>
        have e : vs = [] := rp
        simp only [tgsP] at g
        exact ⟨e, k σ ρ g E Mv.refl fun _ => Tch.refl⟩
      | cons _ _ => simp only [tgsP] at g
    | cons _ _ => simp [matgs] at m
  | .cons t ts, es, m => by
    cases es with
    | nil => simp [matgs] at m
    | cons e es =>
      simp only [matgs] at m
      have h1 := and3 m
      have h2 := and3 h1.1
      have pg := pgs_cons (X := X) (tg_ok o own t h2.2) (tgs_ok o own ts h1.2) (asg_map h2.1)
      refine ⟨fun pins s σ H vs us Q I r h => pg.run pins s σ H vs us Q I r ?_⟩
      obtain ⟨Ox, L, ρ, ds, R, E, rp, g, k⟩ := h
      cases ds with
      | nil => simp only [tgsP] at g
      | cons d ds =>
        simp only [tgsP] at g
        obtain ⟨x, xr, e, r1, r2⟩ := rp
        refine ⟨x, xr, e, Ox, L, ρ, d, _, E, r1, g, fun σ1 ρ1 g1 E1 m1 t1 => ?_⟩
        exact ⟨Ox, L, ρ1, ds, _, E1, r2, g1, fun σ2 ρ2 g2 E2 m2 t2 => k σ2 ρ2 g2 E2 (m1.trans m2) fun z => by
          simp only [tgsIn] at z
          have z := and3 z
          exact (t1 z.1).trans (t2 z.2)⟩
end
end
end DL

namespace DL
open PySem PySem.Spec PyProof.Rows L2

/-! enumerate(tuple) -/
/-- the iterator over a tuple at a -/
abbrev tupIt (a : Addr) : Obj := { cls := .type "tuple_iterator", data := .fields #[.ref a, .int 0 0] }
abbrev enIt (i : Addr) : Obj := { cls := .type "enumerate", data := .fields #[.none, .bool false, .ref i, rawInt 0, .none, .none] }
def EnumWish (a : Addr) (its : Array Value) (R : Result → Shared → Prop) (s : Shared) : Prop :=
  s.heap.IsTuple a its ∧ R (.ok (.ret (.ref (s.heap.push (tupIt a)).objs.size))) { s with heap := (s.heap.push (tupIt a)).push (enIt s.heap.objs.size) }
theorem meets_enumT (a : Addr) (its : Array Value) : Meets (Builtin.«enumerate.__new__» ⟨[.type "enumerate", .ref a], []⟩) (fun _ => EnumWish a its) :=
  .of_wp fun prog w A R s h => by
    obtain ⟨hp, gn, dr, tk, os⟩ := s
    obtain ⟨ht, hr⟩ := h
    have hsub := sub_enumerate
    have step : ∀ {B : Around} {E : Value → Shared → Prop} {Q : Value → Shared → Prop}, Q (.ref hp.objs.size) ⟨hp.push (tupIt a), gn, dr, tk, os⟩ →
        wpAny (model prog w) B (pyIter (.ref a)) Q E ⟨hp, gn, dr, tk, os⟩ := fun q => (begins_tuple a its).iter prog w _ _ ⟨hp, gn, dr, tk, os⟩ _ ht q
    wp_walk using step
    refine wpAny_stack_any fun st => ?_
    refine wpAny_pure ?_
    split
    case h_1 =>
      rename_i c _ _ _ _ _
      cases (c == Value.type "enumerate") <;> (wp_walk using step; exact ⟨_, rfl, hr⟩)
    case h_2 =>
      wp_walk using step
      exact ⟨_, rfl, hr⟩
section
variable {prog : Program} {w : World} {A : Around} {E : Value → Shared → Prop} {s : Shared}
theorem call_enumT {a : Addr} {its : Array Value} {Q : Value → Shared → Prop} (ht : s.heap.IsTuple a its)
    (h : ∀ h', IsEnum h' (s.heap.objs.size + 1) s.heap.objs.size 0 .none → h'.IsTupleIter s.heap.objs.size a 0 → (∀ b o, s.heap.get? b = some o → h'.get? b = some o) → Q (.ref (s.heap.objs.size + 1)) { s with heap := h' }) :
    wpAny (model prog w) A (call (.type "enumerate") [.ref a]) Q E s := by
  refine callType_new F.called_enumerate (by decide) (F.typeCall_enumerate_1 _) (F.newCall_enumerate_1 _) (fun obj => F.args_object_init_2 obj _) F.entry_enumerate_new (meets_enumT a its) ⟨ht, ?_⟩
  have hz : (s.heap.push (tupIt a)).objs.size = s.heap.objs.size + 1 := Heap.size_push ..
  have he : ((s.heap.push (tupIt a)).push (enIt s.heap.objs.size)).get? (s.heap.objs.size + 1) = some (enIt s.heap.objs.size) := by
    have q := Heap.get?_push_size (s.heap.push (tupIt a)) (o := enIt s.heap.objs.size) rfl
    rwa [hz] at q
  rw [hz]
  refine ⟨⟨_, he, rfl⟩, h _ he ⟨_, Heap.get?_push_of_some _ (Heap.get?_push_size _ rfl), rfl, rfl⟩ ?_⟩
  intro b o e
  exact Heap.get?_push_of_some _ (Heap.get?_push_of_some _ e)
end

/-- the tuple at a, each item in a new pair -/
def IteT (K : Fg) (a : Addr) : L2.It where
  go := fun i H => ∃ (xs : List V) (x : V), SqT K H a xs ∧ xs[i]? = some x
  yld := fun i H v H' => ∃ T x, v = .ref T ∧ H T = none ∧ H' = upd H T (.tup [.int (i : Nat), x]) ∧ ∀ xs, SqT K H a xs → xs[i]? = some x
  stop := fun i H => ∃ xs : List V, SqT K H a xs ∧ xs.length ≤ i
theorem turn_enumT {P : Program} {w : World} {K : Fg} {elts : List Expr} {kk : Nat} {tpos : Pos} (a e it : Addr) :
    Turn P w K (.Tuple elts kk tpos) (IteT K a) [e, it] e (fun i h => (∃ old, IsEnum h e it ((i : Nat) : Int) old) ∧ h.IsTupleIter it a i ∧ e ≠ it ∧ a ≠ it ∧ a ≠ e) where
  mem := List.mem_cons_self
  obj := by
    rintro i h ⟨⟨old, he⟩, ⟨o, ho, _, hd⟩, _⟩ b hb
    rcases List.mem_cons.mp hb with rfl | hb
    · exact ⟨_, he, fun v q => nomatch q⟩
    · obtain rfl := List.mem_singleton.mp hb
      refine ⟨o, ho, fun v q => ?_⟩
      rw [hd] at q
      cases q
  keep := by
    rintro i h h' ⟨⟨old, he⟩, hi, hn⟩ k
    exact ⟨⟨old, k e List.mem_cons_self _ he⟩, hi.at fun o q => k it (List.mem_cons_of_mem _ List.mem_cons_self) o q, hn⟩
  item := by
    intro X hP hw hK hc i pins s σ H E I hf st hg
    subst hP hw hK
    obtain ⟨⟨old, he⟩, hit, hne, nai, nae⟩ := st
    obtain ⟨xs, x, hq, hx⟩ := hg
    obtain ⟨its, rv, p, hz⟩ := I.tuple hq
    obtain ⟨u, hu, ru⟩ := rv.get hx
    have lt : i < its.toArray.size := by
      rw [List.size_toArray, ← rv.length]
      exact lt_of_get hx
    have hel : e < s.heap.objs.size := Heap.lt_size he
    have hil : it < s.heap.objs.size := by
      obtain ⟨_, q, _⟩ := hit
      exact Heap.lt_size q
    have DR := Draws.tuple (prog := X.prog) (w := X.w) (A := X.A.in1) (I.ok.hd hc) it a nai its.toArray
    refine wpAny_pyNext_enum_itemD DR he ⟨hit, p⟩ lt hne (by simp [hne, Ne.symm nae]) ?_
    intro y h' tk hy ho hst hT hsz hk
    have ey : y = u := by
      have hy' : its.toArray[i]? = some y := hy
      have : its[i]? = some y := by simpa using hy'
      rw [hu] at this
      exact (Option.some.inj this).symm
    subst ey
    refine ⟨_, rfl, wpAny_letOwnedTupleGo_enum (s := { s with heap := h', toks := tk + 1 }) ho ?_⟩
    intro h2 he2 sb
    have hT2 : h2.get? s.heap.objs.size = some { cls := .type "tuple", data := .seq #[.int i tk, y] } := (sb.2 _ (Nat.ne_of_gt hel)).trans hT
    have new : ObjOk X.prog X.w (upd H s.heap.objs.size (.tup [.int (i : Nat), x])) h2 s.heap.objs.size (.tup [.int (i : Nat), x]) :=
      ⟨by show 2 ≤ sizeLine; decide, [.int i tk, y], .cons ⟨_, rfl⟩ (.cons ru .nil), ⟨_, hT2, rfl, _, rfl⟩⟩
    have ne2 : ∀ {b : Addr}, b ∉ [e, it] → b ≠ e ∧ b ≠ it := fun {b} hb => by simpa using hb
    have I1 : L2.Inv X pins σ (upd H s.heap.objs.size (.tup [.int (i : Nat), x])) { s with heap := h2, toks := tk + 1 } := by
      refine I.turnedNew (ch := [e, it]) (fun b ob hb q => ?_) hf (Nat.le_refl _) new
      exact (sb.2 b (ne2 hb).1).trans (hk b ob (ne2 hb).1 (ne2 hb).2 q)
    refine ⟨.ref s.heap.objs.size, _, I1, rfl, ⟨_, x, rfl, I.hok.fresh (Nat.le_refl _), rfl, fun ys hy => ?_⟩, ⟨⟨y, ?_⟩, hst.1.at fun o q => (sb.2 it (Ne.symm hne)).trans q, hne, nai, nae⟩, fun b hb => ?_⟩
    · rw [I.tuple_inj hy hq]
      exact hx
    · have e1 : ((i + 1 : Nat) : Int) = (i : Int) + 1 := by omega
      rw [e1]
      exact he2
    · have hb2 : b < s.heap.objs.size := by
        rcases List.mem_cons.mp hb with z | z
        · rw [z]; exact hel
        · rw [List.mem_singleton.mp z]; exact hil
      rw [upd_ne (Nat.ne_of_lt hb2)]
      exact (hf b hb).1
  done := by
    intro X hP hw hK hc i pins s σ H E I hf st hg
    subst hP hw hK
    obtain ⟨⟨old, he⟩, hit, hne, nai, nae⟩ := st
    obtain ⟨xs, hq, hx⟩ := hg
    obtain ⟨its, rv, p, hz⟩ := I.tuple hq
    obtain ⟨f0, f1, f2, f3, f4, f5⟩ := hf it (List.mem_cons_of_mem _ List.mem_cons_self)
    have DR : Draws X.prog X.w X.A.in1 it [it, a] i (fun _ _ => True) (fun j h => j = i ∧ h.IsTupleIter it a i ∧ h.IsTuple a its.toArray) :=
      { live := fun j h st => by
          obtain ⟨_, ⟨o, ho, _⟩, _⟩ := st
          exact ⟨o, ho⟩
        frame := fun j h h' st k => ⟨st.1, st.2.1.at fun o q => k it List.mem_cons_self o q, st.2.2.at fun o q => k a (List.mem_cons_of_mem _ List.mem_cons_self) o q⟩
        item := fun j s Q E hj st _ => absurd (st.1 ▸ hj) (Nat.lt_irrefl _)
        done := fun s Q E st hE => wpAny_nextOf_tuple_end (I.ok.hd hc) st.2.1 st.2.2 (by
          have l := rv.length
          simp
          omega) hE }
    exact wpAny_pyNext_enum_endD DR he ⟨rfl, hit, p⟩ fun h' eb => ⟨rfl, I.turned (t' := s.toks) (fun b o hb q => eb b o hb q) f0 f1 f3 f4 f5⟩
  self := by
    rintro A i s Q E ⟨⟨_, he⟩, _⟩ h
    exact wpAny_pyIter_enum he h

/-! what is walked -/
section
variable {X : Cx} {tg : Expr}
/-- a list or a tuple -/
def iAny (K : Fg) (tl : TE) : TI := fun σ H R => tl σ H fun x H1 => ∃ a, x = .ref a ∧ ((∃ xs, SqL K H1 a xs) ∧ R (Itl K a) H1 ∨ (∃ xs, SqT K H1 a xs) ∧ R (Itt K a) H1)
theorem pi_any {l : Expr} {tl : TE} (hl : PE X l tl) : PI X tg l (iAny X.K tl) := by
  refine ⟨fun pins s σ H R I h => thn (hl.run pins s σ H _ I h) ?_⟩
  rintro v s1 ⟨x, H1, I1, r1, a, rfl, q⟩
  cases (show v = Value.ref a from r1)
  have fp : ∀ b ∈ [s1.heap.objs.size], FpOk X pins H1 b := fun b hb => by
    obtain rfl := List.mem_singleton.mp hb
    exact I1.fpOk (Nat.le_refl _) (I1.hok.fresh (Nat.le_refl _))
  rcases q with ⟨⟨xs, hq⟩, q⟩ | ⟨⟨xs, hq⟩, q⟩
  · obtain ⟨its, rv, p, _⟩ := I1.list hq
    refine wpAny_pyIter_list p.isList ⟨s1.heap.objs.size, [s1.heap.objs.size], _, _, H1, rfl, ?_, turn_list a _, ⟨_, Heap.get?_push_size _ rfl, rfl, rfl⟩, fp, q⟩
    exact I1.kept (t' := s1.toks) fun b o e => Heap.get?_push_of_some _ e
  · obtain ⟨its, rv, p, _⟩ := I1.tuple hq
    refine wpAny_pyIter_tuple (show s1.heap.IsTuple a its.toArray from p) ⟨s1.heap.objs.size, [s1.heap.objs.size], _, _, H1, rfl, ?_, turn_tuple a _, ⟨_, Heap.get?_push_size _ rfl, rfl, rfl⟩, fp, q⟩
    exact I1.kept (t' := s1.toks) fun b o e => Heap.get?_push_of_some _ e
/-- enumerate of a list or a tuple -/
def iEnumA (K : Fg) (ta : TA) : TI := fun σ H R => ta σ H fun vs H1 => ∃ a, vs = [.ref a] ∧ ((∃ xs, SqL K H1 a xs) ∧ R (Ite K a) H1 ∨ (∃ xs, SqT K H1 a xs) ∧ R (IteT K a) H1)
theorem pi_enumA {e : Expr} {ta : TA} {p pos tpos : Pos} {elts : List Expr} {kk : Nat} (hg : Gl X "enumerate") (hm : X.mg "enumerate" = none) (ha : PA X [e] ta) (hs : noStar e = true) :
    PI X (.Tuple elts kk tpos) (.Call (.Name "enumerate" p) [e] [] pos) (iEnumA X.K ta) := by
  refine ⟨fun pins s σ H R I h => ?_⟩
  have hst : starEach [e] X.env = [(false, eval e X.env)] := star_cons hs
  refine Call_ (ld_blt I hg hm boot_enumerate (callWith_type1 (thn (ha.run pos pins s σ H _ I h) ?_) hst rfl))
  rintro us s1 ⟨vs, H1, I1, r1, a, rfl, q⟩
  obtain ⟨u, rfl, ru⟩ := vals1 r1
  cases (show u = Value.ref a from ru)
  have fp : ∀ b ∈ [s1.heap.objs.size + 1, s1.heap.objs.size], FpOk X pins H1 b := fun b hb => by
    have hle : s1.heap.objs.size ≤ b := by
      rcases List.mem_cons.mp hb with z | z
      · omega
      · rw [List.mem_singleton.mp z]
        exact Nat.le_refl _
    exact I1.fpOk hle (I1.hok.fresh hle)
  rcases q with ⟨⟨xs, hq⟩, q⟩ | ⟨⟨xs, hq⟩, q⟩
  · obtain ⟨its, rv, p', _⟩ := I1.list hq
    refine call_enumerate_list p'.isList fun h' he hit _ hk => wpAny_pyIter_enum he ?_
    exact ⟨s1.heap.objs.size + 1, [s1.heap.objs.size + 1, s1.heap.objs.size], _, _, H1, rfl, I1.kept (t' := s1.toks) hk, turn_enum a _ _, ⟨⟨.none, he⟩, hit, Nat.succ_ne_self _⟩, fp, q⟩
  · obtain ⟨its, rv, p', _⟩ := I1.tuple hq
    have hlt : a < s1.heap.objs.size := p'.lt
    refine call_enumT p' fun h' he hit hk => wpAny_pyIter_enum he ?_
    exact ⟨s1.heap.objs.size + 1, [s1.heap.objs.size + 1, s1.heap.objs.size], _, _, H1, rfl, I1.kept (t' := s1.toks) hk, turn_enumT a _ _, ⟨⟨.none, he⟩, hit, Nat.succ_ne_self _, Nat.ne_of_lt hlt, Nat.ne_of_lt (Nat.lt_succ_of_lt hlt)⟩, fp, q⟩
end
end DL

namespace DL
open PySem PySem.Spec PyProof.Rows L2

/-! what stays while it is walked -/
def Later (K : Fg) (Ox : AS) (L : LA) (ρ : En) (H : Hp) (w : Option Nat) (O2 : AS) (L2 : LA) (σ2 : Sg) (ρ2 : En) (H2 : Hp) : Prop :=
  EnOk K O2 L2 H2 σ2 ρ2 ∧ Ext (Ow Ox L) H (Ow O2 L2) H2 ∧ ∀ i, w = some i → L2 i = L i ∧ vwA ρ2 (.ref i) = vwA ρ (.ref i)
def Per (K : Fg) (Ox : AS) (L : LA) (ρ : En) (H : Hp) (w : Option Nat) (d : D) (v : V) : Prop :=
  ∀ O2 L2 σ2 ρ2 H2, Later K Ox L ρ H w O2 L2 σ2 ρ2 H2 → VRep K (Ow O2 L2) H2 d v
def SrcOk (K : Fg) (Ox : AS) (L : LA) (ρ : En) (H : Hp) (w : Option Nat) (J : L2.It) (ds : List D) : Prop :=
  ∀ O2 L2 σ2 ρ2 H2, Later K Ox L ρ H w O2 L2 σ2 ρ2 H2 → (∀ i, i < ds.length → J.go i H2) ∧ J.stop ds.length H2 ∧
    ∀ i x H3 d, ds[i]? = some d → J.yld i H2 x H3 → Same H2 H3 ∧ Rep K (Ow O2 L2) H3 d x
section
variable {K : Fg} {Ox : AS} {L L' : LA} {H H' : Hp} {σ : Sg} {ρ ρ' : En}
theorem per_data {d : D} {v : V} {w : Option Nat} (h : Rep K (Ow Ox L) H d v) : Per K Ox L ρ H w d v := fun O2 L2 σ2 ρ2 H2 l => .inl (Rep.ext l.2.1 d h)
theorem per_of {H0 : Hp} {v : V} {r : Rv} {d : D} (E0 : EnOk K Ox L H0 σ ρ) (m : Mv ρ L ρ' L') (h : RvOk K Ox L' H0 H' σ ρ' v r) (e : vwA ρ' r.av = some d) : Per K Ox L' ρ' H' (r.watch ρ') d v := by
  have av := h.av E0 m
  have E := h.en
  cases r with
  | va d' =>
    cases e
    exact per_data av
  | fr d' =>
    cases e
    exact per_data av
  | vw i =>
    have hs : σ[i]? = some (some v) := h.2
    have go : (ρ'[i]? = some (.ow d) ∨ ρ'[i]? = some (.mu d)) → Per K Ox L' ρ' H' (some i) d v := by
      intro q O2 L2 σ2 ρ2 H2 ⟨E2, x, w⟩
      obtain ⟨a, e1, e2, _⟩ := E.ow i d q
      rw [hs] at e2
      cases e2
      obtain ⟨w1, w2⟩ := w i rfl
      rw [e1] at w1
      obtain ⟨d2, q2⟩ := E2.li i a w1
      obtain ⟨b, e3, _, r⟩ := E2.ow i d2 q2
      rw [w1] at e3
      cases e3
      have : d2 = d := by
        have z : vwA ρ2 (.ref i) = some d2 := by
          simp only [vwA]
          rcases q2 with q2 | q2 <;> rw [q2]
        rw [z] at w2
        have z2 : vwA ρ' (.ref i) = some d := by
          simp only [vwA]
          rcases q with q | q <;> rw [q]
        rw [z2] at w2
        exact Option.some.inj w2
      subst this
      exact .inr ⟨a, rfl, r⟩
    have e' : vwA ρ' (.ref i) = some d := e
    simp only [vwA] at e'
    simp only [Rv.watch]
    split at e'
    · rename_i q
      cases e'
      rw [q]
      exact per_data (E.drep (a := .ref i) hs (by simp only [datA]; rw [q]))
    · rename_i q
      cases e'
      rw [q]
      exact go (.inl q)
    · rename_i q
      cases e'
      rw [q]
      exact go (.inr q)
    · cases e'
theorem src_list {w : Option Nat} {ds : List D} {a : Addr} (h : Per K Ox L ρ H w (.lst ds) (.ref a)) : SrcOk K Ox L ρ H w (Itl K a) ds := by
  intro O2 L2 σ2 ρ2 H2 l
  obtain ⟨b, xs, e, hx, r⟩ := (h O2 L2 σ2 ρ2 H2 l).lst
  cases e
  have W := walk_list (K := K) (a := a) (xs := xs)
  refine ⟨fun i hi => W.goes i H2 (by rw [← r.len]; exact hi) (SqL.of hx), by rw [r.len]; exact W.stops H2 (SqL.of hx), fun i x H3 d e y => ?_⟩
  obtain ⟨y1, y2⟩ := W.yields i H2 x H3 (by rw [← r.len]; exact lt_of_get e) (SqL.of hx) y
  subst y1
  obtain ⟨z, e2, q⟩ := r.get e
  rw [y2] at e2
  cases e2
  exact ⟨Same.refl _, q⟩
theorem src_scr {w : Option Nat} {ds : List D} {a : Addr} (h : Per K Ox L ρ H w (.scr ds) (.ref a)) : SrcOk K Ox L ρ H w (Itl K a) ds := by
  intro O2 L2 σ2 ρ2 H2 l
  obtain ⟨b, xs, e, hx, r⟩ := (h O2 L2 σ2 ρ2 H2 l).scr
  cases e
  have W := walk_list (K := K) (a := a) (xs := xs)
  refine ⟨fun i hi => W.goes i H2 (by rw [← r.len]; exact hi) hx, by rw [r.len]; exact W.stops H2 hx, fun i x H3 d e y => ?_⟩
  obtain ⟨y1, y2⟩ := W.yields i H2 x H3 (by rw [← r.len]; exact lt_of_get e) hx y
  subst y1
  obtain ⟨z, e2, q⟩ := r.get e
  rw [y2] at e2
  cases e2
  exact ⟨Same.refl _, q⟩
theorem src_tup {w : Option Nat} {ds : List D} {a : Addr} (h : Per K Ox L ρ H w (.tup ds) (.ref a)) : SrcOk K Ox L ρ H w (Itt K a) ds := by
  intro O2 L2 σ2 ρ2 H2 l
  obtain ⟨b, xs, e, hx, r, _⟩ := (h O2 L2 σ2 ρ2 H2 l).tup
  cases e
  have W := walk_tup (K := K) (a := a) (xs := xs)
  refine ⟨fun i hi => W.goes i H2 (by rw [← r.len]; exact hi) hx, by rw [r.len]; exact W.stops H2 hx, fun i x H3 d e y => ?_⟩
  obtain ⟨y1, y2⟩ := W.yields i H2 x H3 (by rw [← r.len]; exact lt_of_get e) hx y
  subst y1
  obtain ⟨z, e2, q⟩ := r.get e
  rw [y2] at e2
  cases e2
  exact ⟨Same.refl _, q⟩
theorem enumD_len : ∀ (ds : List D) (k : Nat), (enumD k ds).length = ds.length
  | [], _ => rfl
  | d :: ds, k => by
    show (enumD (k + 1) ds).length + 1 = ds.length + 1
    rw [enumD_len ds]
theorem enumD_get : ∀ {ds : List D} {k i : Nat} {d : D}, (enumD k ds)[i]? = some d → ∃ e, ds[i]? = some e ∧ d = .tup [.int ((k + i : Nat) : Int), e]
  | [], _, _, _, h => by simp [enumD] at h
  | e :: ds, k, 0, d, h => by
    have h' : D.tup [.int (k : Nat), e] = d := Option.some.inj h
    exact ⟨e, rfl, h'.symm⟩
  | e :: ds, k, i + 1, d, h => by
    obtain ⟨e', h1, h2⟩ := enumD_get (ds := ds) (k := k + 1) (i := i) h
    refine ⟨e', h1, ?_⟩
    rw [h2]
    have : k + 1 + i = k + (i + 1) := by omega
    rw [this]
theorem zipD_get : ∀ {ds es : List D} {i : Nat} {d : D}, (zipD ds es)[i]? = some d → ∃ a b, ds[i]? = some a ∧ es[i]? = some b ∧ d = .tup [a, b]
  | [], _, _, _, h => by simp [zipD] at h
  | _ :: _, [], _, _, h => by simp [zipD] at h
  | a :: ds, b :: es, 0, d, h => by
    have h' : D.tup [a, b] = d := Option.some.inj h
    exact ⟨a, b, rfl, rfl, h'.symm⟩
  | a :: ds, b :: es, i + 1, d, h => zipD_get (ds := ds) (es := es) (i := i) h
theorem zipD_len : ∀ (ds es : List D), (zipD ds es).length = min ds.length es.length
  | [], _ => by simp [zipD]
  | _ :: _, [] => by simp [zipD]
  | a :: ds, b :: es => by
    simp only [zipD, List.length_cons, zipD_len ds es]
    omega
theorem pair_rep {O : AS} {T : Addr} {x y : V} {d e : D} (t : Trk O H) (n : H T = none) (h1 : Rep K O H d x) (h2 : Rep K O H e y) : Rep K O (upd H T (.tup [x, y])) (.tup [d, e]) (.ref T) := by
  have x1 : Ext O H O (upd H T (.tup [x, y])) := fun b o nb q => ⟨nb, same_new n b o q⟩
  exact ⟨T, [x, y], rfl, .inl ⟨fun z => t T z n, .inl upd_same⟩, x, [y], rfl, Rep.ext x1 d h1, y, [], rfl, Rep.ext x1 e h2, rfl⟩
theorem src_enumL {w : Option Nat} {ds : List D} {a : Addr} {d0 : D} (h : Per K Ox L ρ H w d0 (.ref a)) (hd : d0 = .lst ds ∨ d0 = .scr ds) : SrcOk K Ox L ρ H w (Ite K a) (enumD 0 ds) := by
  intro O2 L2 σ2 ρ2 H2 l
  obtain ⟨xs, hx, r⟩ : ∃ xs, SqL K H2 a xs ∧ RepL K (Ow O2 L2) H2 ds xs := by
    rcases hd with rfl | rfl
    · obtain ⟨b, xs, e, hx, r⟩ := (h O2 L2 σ2 ρ2 H2 l).lst
      cases e
      exact ⟨xs, SqL.of hx, r⟩
    · obtain ⟨b, xs, e, hx, r⟩ := (h O2 L2 σ2 ρ2 H2 l).scr
      cases e
      exact ⟨xs, hx, r⟩
  have W := walk_enum (K := K) (a := a) (xs := xs)
  rw [enumD_len, r.len]
  refine ⟨fun i hi => W.goes i H2 hi hx, W.stops H2 hx, fun i x H3 d e y => ?_⟩
  obtain ⟨d1, e1, rfl⟩ := enumD_get e
  obtain ⟨z, e2, q⟩ := r.get e1
  obtain ⟨T, x1, y1, rfl, nT, rfl, f1, f2⟩ := W.yields i H2 x H3 (lt_of_get e2) hx y
  cases f1
  replace f2 : xs[i]? = some y1 := f2
  rw [e2] at f2
  cases f2
  rw [Nat.zero_add]
  exact ⟨same_new nT, pair_rep l.1.trk' nT rfl q⟩
theorem src_enumT {w : Option Nat} {ds : List D} {a : Addr} (h : Per K Ox L ρ H w (.tup ds) (.ref a)) : SrcOk K Ox L ρ H w (IteT K a) (enumD 0 ds) := by
  intro O2 L2 σ2 ρ2 H2 l
  obtain ⟨b, xs, e, hx, r, _⟩ := (h O2 L2 σ2 ρ2 H2 l).tup
  cases e
  rw [enumD_len, r.len]
  refine ⟨fun i hi => ⟨xs, xs[i], hx, by simp [hi]⟩, ⟨xs, hx, Nat.le_refl _⟩, fun i x H3 d e y => ?_⟩
  obtain ⟨d1, e1, rfl⟩ := enumD_get e
  obtain ⟨z, e2, q⟩ := r.get e1
  obtain ⟨T, x1, rfl, nT, rfl, f2⟩ := y
  have f2 := f2 xs hx
  rw [e2] at f2
  cases f2
  rw [Nat.zero_add]
  exact ⟨same_new nT, pair_rep l.1.trk' nT rfl q⟩
theorem src_rng {w : Option Nat} {lo : Int} {n : Nat} : SrcOk K Ox L ρ H w (Itr lo n) (rngD lo n) := by
  intro O2 L2 σ2 ρ2 H2 l
  have len : (rngD lo n).length = n := by simp [rngD]
  rw [len]
  refine ⟨fun i hi => hi, Nat.le_refl _, fun i x H3 d e y => ?_⟩
  obtain ⟨y1, y2⟩ := y
  subst y1 y2
  have hi : i < n := by
    have := lt_of_get e
    rwa [len] at this
  have e' : d = .int (lo + i) := by
    simp [rngD, hi] at e
    exact e.symm
  subst e'
  exact ⟨Same.refl _, rfl⟩
theorem src_zipL {ds es : List D} {a b : Addr} {d0 e0 : D} (h : Per K Ox L ρ H none d0 (.ref a)) (h' : Per K Ox L ρ H none e0 (.ref b)) (hd : d0 = .lst ds ∨ d0 = .scr ds) (he : e0 = .lst es ∨ e0 = .scr es) : SrcOk K Ox L ρ H none (Itz K a b) (zipD ds es) := by
  intro O2 L2 σ2 ρ2 H2 l
  have get : ∀ {d0 : D} {a : Addr} {ds : List D}, Per K Ox L ρ H none d0 (.ref a) → (d0 = .lst ds ∨ d0 = .scr ds) → ∃ xs, SqL K H2 a xs ∧ RepL K (Ow O2 L2) H2 ds xs := by
    intro d0 a ds h hd
    rcases hd with rfl | rfl
    · obtain ⟨b, xs, e, hx, r⟩ := (h O2 L2 σ2 ρ2 H2 l).lst
      cases e
      exact ⟨xs, SqL.of hx, r⟩
    · obtain ⟨b, xs, e, hx, r⟩ := (h O2 L2 σ2 ρ2 H2 l).scr
      cases e
      exact ⟨xs, hx, r⟩
  obtain ⟨xs, hx, r⟩ := get h hd
  obtain ⟨ys, hy, r'⟩ := get h' he
  have W := walk_zip (K := K) (a := a) (b := b) (xs := xs) (ys := ys) (n := (zipD ds es).length) (by rw [zipD_len, r.len, r'.len])
  refine ⟨fun i hi => W.goes i H2 hi ⟨hx, hy⟩, W.stops H2 ⟨hx, hy⟩, fun i x H3 d e y => ?_⟩
  obtain ⟨d1, d2, e1, e2, rfl⟩ := zipD_get e
  obtain ⟨T, x1, y1, rfl, nT, rfl, f1, f2⟩ := W.yields i H2 x H3 (lt_of_get e) ⟨hx, hy⟩ y
  obtain ⟨z, g1, q1⟩ := r.get e1
  obtain ⟨z', g2, q2⟩ := r'.get e2
  replace f1 : xs[i]? = some x1 := f1
  replace f2 : ys[i]? = some y1 := f2
  rw [g1] at f1
  rw [g2] at f2
  cases f1
  cases f2
  exact ⟨same_new nT, pair_rep l.1.trk' nT q1 q2⟩
theorem src_zipT {ds es : List D} {a b : Addr} (h : Per K Ox L ρ H none (.tup ds) (.ref a)) (h' : Per K Ox L ρ H none (.tup es) (.ref b)) : SrcOk K Ox L ρ H none (RZ.ItzT K a b) (zipD ds es) := by
  intro O2 L2 σ2 ρ2 H2 l
  obtain ⟨_, xs, e, hx, r, _⟩ := (h O2 L2 σ2 ρ2 H2 l).tup
  cases e
  obtain ⟨_, ys, e, hy, r', _⟩ := (h' O2 L2 σ2 ρ2 H2 l).tup
  cases e
  have hn : (zipD ds es).length = min xs.length ys.length := by rw [zipD_len, r.len, r'.len]
  refine ⟨fun i hi => ?_, ⟨xs, ys, hx, hy, by omega⟩, fun i x H3 d e y => ?_⟩
  · have h1 : i < xs.length := by omega
    have h2 : i < ys.length := by omega
    exact ⟨xs, ys, xs[i], ys[i], hx, hy, by simp [h1], by simp [h2]⟩
  · obtain ⟨d1, d2, e1, e2, rfl⟩ := zipD_get e
    obtain ⟨T, x1, y1, rfl, nT, rfl, f1, f2⟩ := y
    have f1 := f1 xs hx
    have f2 := f2 ys hy
    obtain ⟨z, g1, q1⟩ := r.get e1
    obtain ⟨z', g2, q2⟩ := r'.get e2
    rw [g1] at f1
    rw [g2] at f2
    cases f1
    cases f2
    exact ⟨same_new nT, pair_rep l.1.trk' nT q1 q2⟩
end
/-- a walked slot holds a list of one's own -/
def WOk (w : Option Nat) (ρ : En) : Prop := ∀ i, w = some i → ∃ d, ρ[i]? = some (.ow d) ∨ ρ[i]? = some (.mu d)
theorem wok_of {ρ : En} {r : Rv} {d : D} (h : vwA ρ r.av = some d) : WOk (r.watch ρ) ρ := by
  intro i e
  cases r with
  | vw j =>
    simp only [Rv.av, vwA] at h
    simp only [Rv.watch] at e
    split at h
    · rename_i q
      rw [q] at e
      cases e
    · rename_i q
      rw [q] at e
      cases e
      exact ⟨_, .inl q⟩
    · rename_i q
      rw [q] at e
      cases e
      exact ⟨_, .inr q⟩
    · cases h
  | va d => cases e
  | fr d => cases e
def tIt (K : Fg) (f : En → (List D → Option Nat → En → Prop) → Prop) : TI := fun σ H R => ∃ Ox L ρ R0, EnOk K Ox L H σ ρ ∧ f ρ R0 ∧
  ∀ ds w ρ' L' H' J, R0 ds w ρ' → Mv ρ L ρ' L' → Stp L H H' → EnOk K Ox L' H' σ ρ' → SrcOk K Ox L' ρ' H' w J ds → WOk w ρ' → R J H'
end DL

namespace DL
open PySem PySem.Spec PyProof.Rows L2

/-! a call's slots -/
section
variable {K : Fg} {Ox : AS} {L L' : LA} {H H' : Hp} {σ : Sg} {ρ ρ' : En}
/-- the callee's lists -/
def LC (L : LA) (as : List Av) : LA := fun k => match as[k]? with
  | some (.ref i) => L i
  | _ => none
/-- what the callee doesn't have -/
def OC (Ox : AS) (L : LA) (as : List Av) : AS := fun a => Ow Ox L a ∧ ∀ k, LC L as k ≠ some a
theorem lc_of {as : List Av} {k : Nat} {a : Addr} (h : LC L as k = some a) : ∃ i, as[k]? = some (.ref i) ∧ L i = some a := by
  unfold LC at h
  split at h
  · exact ⟨_, by assumption, h⟩
  · cases h
theorem ow_call {as : List Av} {a : Addr} : Ow (OC Ox L as) (LC L as) a ↔ Ow Ox L a := by
  constructor
  · rintro (h | ⟨k, h⟩)
    · exact h.1
    · obtain ⟨i, _, q⟩ := lc_of h
      exact .inr ⟨i, q⟩
  · intro h
    by_cases q : ∃ k, LC L as k = some a
    · exact .inr q
    · exact .inl ⟨h, fun k z => q ⟨k, z⟩⟩
theorem ext_ow {O O' : AS} {H : Hp} (h : ∀ a, O' a ↔ O a) : Ext O H O' H := fun b o n e => ⟨fun z => n ((h b).mp z), e⟩
theorem AvsOk.get {vs : List V} {as : List Av} (h : AvsOk K Ox L H σ vs as) : ∀ {k : Nat} {a : Av}, as[k]? = some a → ∃ v, vs[k]? = some v ∧ AvOk K Ox L H σ v a := by
  induction h with
  | nil => intro k a e; simp at e
  | cons h t ih =>
    intro k a e
    cases k with
    | zero => cases e; exact ⟨_, rfl, h⟩
    | succ k => exact ih e
theorem AvsOk.len {vs : List V} {as : List Av} (h : AvsOk K Ox L H σ vs as) : vs.length = as.length := by
  induction h with
  | nil => rfl
  | cons h t ih => simp [ih]
theorem argS_get {as : List Av} : ∀ {ss : List Sl}, argS ρ as = some ss → ss.length = as.length ∧ ∀ (k : Nat) s, ss[k]? = some s →
    (∃ d, s = .va d ∧ (as[k]? = some (.dat d) ∨ ∃ i, as[k]? = some (.ref i) ∧ ρ[i]? = some (.va d))) ∨ ∃ d i, s = .mu d ∧ as[k]? = some (.ref i) ∧ (ρ[i]? = some (.ow d) ∨ ρ[i]? = some (.mu d)) := by
  induction as with
  | nil =>
    intro ss h
    cases h
    exact ⟨rfl, fun k s e => by simp at e⟩
  | cons a as ih =>
    have step : ∀ {s0 : Sl} {ss : List Sl}, (argS ρ as).map (s0 :: ·) = some ss → ((∃ d, s0 = .va d ∧ (a = .dat d ∨ ∃ i, a = .ref i ∧ ρ[i]? = some (.va d))) ∨ ∃ d i, s0 = .mu d ∧ a = .ref i ∧ (ρ[i]? = some (.ow d) ∨ ρ[i]? = some (.mu d))) →
        ss.length = (a :: as).length ∧ ∀ (k : Nat) s, ss[k]? = some s →
        (∃ d, s = .va d ∧ ((a :: as)[k]? = some (.dat d) ∨ ∃ i, (a :: as)[k]? = some (.ref i) ∧ ρ[i]? = some (.va d))) ∨ ∃ d i, s = .mu d ∧ (a :: as)[k]? = some (.ref i) ∧ (ρ[i]? = some (.ow d) ∨ ρ[i]? = some (.mu d)) := by
      intro s0 ss h h0
      cases e : argS ρ as with
      | none => rw [e] at h; cases h
      | some r =>
        rw [e] at h
        cases h
        obtain ⟨l, g⟩ := ih e
        refine ⟨by simp [l], fun k s e => ?_⟩
        cases k with
        | zero =>
          cases e
          rcases h0 with ⟨d, e1, h0⟩ | ⟨d, i, e1, e2, h0⟩
          · refine .inl ⟨d, e1, ?_⟩
            rcases h0 with h0 | ⟨i, h0, q⟩
            · exact .inl (by rw [h0]; rfl)
            · exact .inr ⟨i, by rw [h0]; rfl, q⟩
          · exact .inr ⟨d, i, e1, by rw [e2]; rfl, h0⟩
        | succ k => exact g k s e
    intro ss h
    cases a with
    | dat d => exact step h (.inl ⟨d, rfl, .inl rfl⟩)
    | ref i =>
      simp only [argS] at h
      split at h
      · rename_i d q
        exact step h (.inl ⟨d, rfl, .inr ⟨i, rfl, q⟩⟩)
      · rename_i d q
        exact step h (.inr ⟨d, i, rfl, rfl, .inl q⟩)
      · rename_i d q
        exact step h (.inr ⟨d, i, rfl, rfl, .inr q⟩)
      · cases h
theorem refs_of {as : List Av} {k i : Nat} (h : as[k]? = some (.ref i)) : i ∈ refsA as := by
  induction as generalizing k with
  | nil => simp at h
  | cons a as ih =>
    cases k with
    | zero => cases h; exact List.mem_cons_self
    | succ k =>
      have := ih (k := k) h
      cases a with
      | dat d => exact this
      | ref j => exact List.mem_cons_of_mem _ this
theorem refs_inj {as : List Av} (nd : (refsA as).Nodup) {k j i : Nat} (h : as[k]? = some (.ref i)) (h' : as[j]? = some (.ref i)) : k = j := by
  induction as generalizing k j with
  | nil => simp at h
  | cons a as ih =>
    cases a with
    | dat d =>
      cases k with
      | zero => cases h
      | succ k =>
        cases j with
        | zero => cases h'
        | succ j => rw [ih nd (k := k) (j := j) h h']
    | ref m =>
      have nd' : m ∉ refsA as ∧ (refsA as).Nodup := List.nodup_cons.mp nd
      cases k with
      | zero =>
        cases h
        cases j with
        | zero => rfl
        | succ j => exact absurd (refs_of (k := j) h') nd'.1
      | succ k =>
        cases j with
        | zero =>
          cases h'
          exact absurd (refs_of (k := k) h) nd'.1
        | succ j => rw [ih nd'.2 (k := k) (j := j) h h']
theorem call_en {vs : List V} {as : List Av} {ss : List Sl} (E : EnOk K Ox L H σ ρ) (hv : AvsOk K Ox L H σ vs as) (h : argS ρ as = some ss) (nd : (refsA as).Nodup) :
    EnOk K (OC Ox L as) (LC L as) H (vs.map some) ss := by
  obtain ⟨l, g⟩ := argS_get h
  have xo : Ext (Ow Ox L) H (Ow (OC Ox L as) (LC L as)) H := ext_ow fun a => ow_call
  refine ⟨by rw [List.length_map, hv.len, l], fun k j a h1 h2 => ?_, fun a h1 => E.trk h1.1, fun k a h1 h2 => h2.2 k h1, fun k d h1 => ?_, fun k d h1 => ?_, fun k a h1 => ?_⟩
  · obtain ⟨i, q1, q2⟩ := lc_of h1
    obtain ⟨i', q3, q4⟩ := lc_of h2
    have := E.nd i i' a q2 q4
    subst this
    exact refs_inj nd q1 q3
  · rcases g k _ h1 with ⟨d', e, q⟩ | ⟨d', i, e, _⟩
    · cases e
      have : ∃ v, vs[k]? = some v ∧ Rep K (Ow Ox L) H d v := by
        rcases q with q | ⟨i, q, q2⟩
        · obtain ⟨v, e, r⟩ := hv.get q
          exact ⟨v, e, r⟩
        · obtain ⟨v, e, r⟩ := hv.get q
          exact ⟨v, e, E.drep r (by simp only [datA]; rw [q2])⟩
      obtain ⟨v, e, r⟩ := this
      exact ⟨v, by rw [List.getElem?_map, e]; rfl, Rep.ext xo d r⟩
    · cases e
  · have h1' : ss[k]? = some (.mu d) := by
      rcases h1 with h1 | h1
      · rcases g k _ h1 with ⟨d', e, _⟩ | ⟨d', i, e, _⟩ <;> cases e
      · exact h1
    rcases g k _ h1' with ⟨d', e, _⟩ | ⟨d', i, e, q1, q2⟩
    · cases e
    · cases e
      obtain ⟨a, e1, e2, r⟩ := E.ow i d q2
      obtain ⟨v, e3, r3⟩ := hv.get q1
      have r3' : σ[i]? = some (some v) := r3
      rw [e2] at r3'
      cases r3'
      refine ⟨a, ?_, by rw [List.getElem?_map, e3]; rfl, r.ext xo rfl⟩
      unfold LC
      rw [q1]
      exact e1
  · obtain ⟨i, q1, q2⟩ := lc_of h1
    have lt : k < ss.length := by rw [l]; exact lt_of_get q1
    have e := List.getElem?_eq_getElem lt
    rcases g k _ e with ⟨d', e1, q⟩ | ⟨d', j, e1, _⟩
    · exfalso
      rcases q with q | ⟨j, q, q'⟩
      · rw [q1] at q; cases q
      · rw [q1] at q
        cases q
        have := E.noL (.inr ⟨d', q'⟩)
        rw [this] at q2
        cases q2
    · exact ⟨d', .inr (by rw [e, e1])⟩
/-- the caller's slots behind the call -/
theorem updA_get {ρ0 : En} : ∀ {as : List Av} {outs : List Sl} {ρ : En}, (refsA as).Nodup → (∀ i ∈ refsA as, ρ[i]? = ρ0[i]?) →
    (updA ρ as outs).length = ρ.length ∧
    (∀ i, i ∉ refsA as → (updA ρ as outs)[i]? = ρ[i]?) ∧
    (∀ (k i : Nat) d, as[k]? = some (.ref i) → outs[k]? = some (.mu d) → ((∃ e, ρ0[i]? = some (.ow e)) → (updA ρ as outs)[i]? = some (.ow d)) ∧ ((∃ e, ρ0[i]? = some (.mu e)) → (updA ρ as outs)[i]? = some (.mu d)) ∧
      ((¬ ∃ e, ρ0[i]? = some (.ow e) ∨ ρ0[i]? = some (.mu e)) → (updA ρ as outs)[i]? = ρ0[i]?)) ∧
    (∀ (k i : Nat), as[k]? = some (.ref i) → (∀ d, outs[k]? ≠ some (.mu d)) → (updA ρ as outs)[i]? = ρ0[i]?) := by
  intro as
  induction as with
  | nil =>
    intro outs ρ _ _
    have e : updA ρ [] outs = ρ := by cases outs <;> rfl
    rw [e]
    exact ⟨rfl, fun _ _ => rfl, fun k i d h => by simp at h, fun k i h => by simp at h⟩
  | cons a as ih =>
    intro outs ρ nd eq
    cases outs with
    | nil =>
      have e : updA ρ (a :: as) [] = ρ := by cases a <;> rfl
      rw [e]
      refine ⟨rfl, fun _ _ => rfl, fun k i d _ h => by simp at h, fun k i h _ => eq i (refs_of h)⟩
    | cons o os =>
      have skip : updA ρ (a :: as) (o :: os) = updA ρ as os → (∀ i, a = .ref i → ∀ d, o ≠ .mu d) →
          (updA ρ (a :: as) (o :: os)).length = ρ.length ∧ (∀ i, i ∉ refsA (a :: as) → (updA ρ (a :: as) (o :: os))[i]? = ρ[i]?) ∧
          (∀ (k i : Nat) d, (a :: as)[k]? = some (.ref i) → (o :: os)[k]? = some (.mu d) → ((∃ e, ρ0[i]? = some (.ow e)) → (updA ρ (a :: as) (o :: os))[i]? = some (.ow d)) ∧ ((∃ e, ρ0[i]? = some (.mu e)) → (updA ρ (a :: as) (o :: os))[i]? = some (.mu d)) ∧
            ((¬ ∃ e, ρ0[i]? = some (.ow e) ∨ ρ0[i]? = some (.mu e)) → (updA ρ (a :: as) (o :: os))[i]? = ρ0[i]?)) ∧
          (∀ (k i : Nat), (a :: as)[k]? = some (.ref i) → (∀ d, (o :: os)[k]? ≠ some (.mu d)) → (updA ρ (a :: as) (o :: os))[i]? = ρ0[i]?) := by
        intro e hno
        rw [e]
        have nd' : (refsA as).Nodup ∧ ∀ i, a = .ref i → i ∉ refsA as := by
          cases a with
          | dat d => exact ⟨nd, nofun⟩
          | ref j =>
            have := List.nodup_cons.mp nd
            exact ⟨this.2, fun i z => by cases z; exact this.1⟩
        have sub : ∀ i, i ∈ refsA as → i ∈ refsA (a :: as) := fun i h => by
          cases a with
          | dat d => exact h
          | ref j => exact List.mem_cons_of_mem _ h
        obtain ⟨h1, h2, h3, h4⟩ := ih (outs := os) (ρ := ρ) nd'.1 fun i h => eq i (sub i h)
        refine ⟨h1, fun i h => h2 i fun z => h (sub i z), fun k i d q1 q2 => ?_, fun k i q1 q2 => ?_⟩
        · cases k with
          | zero =>
            have q1' : a = .ref i := Option.some.inj q1
            exact absurd (Option.some.inj q2) (hno i q1' d)
          | succ k => exact h3 k i d q1 q2
        · cases k with
          | zero =>
            have q1' : a = .ref i := Option.some.inj q1
            rw [h2 i (nd'.2 i q1')]
            refine eq i ?_
            rw [q1']
            exact List.mem_cons_self
          | succ k => exact h4 k i q1 q2
      cases a with
      | dat d => exact skip rfl nofun
      | ref j =>
        have hno : ∀ {o : Sl}, (∀ d, o ≠ .mu d) → updA ρ (.ref j :: as) (o :: os) = updA ρ as os := fun {o} h => by
          cases o with
          | mu d => exact absurd rfl (h d)
          | _ => rfl
        cases o with
        | mu d =>
          have nd' := List.nodup_cons.mp (show (j :: refsA as).Nodup from nd)
          have ej : ρ[j]? = ρ0[j]? := eq j List.mem_cons_self
          have fin : ∀ (ρ1 : En), ρ1.length = ρ.length → (∀ i, i ≠ j → ρ1[i]? = ρ[i]?) → updA ρ (.ref j :: as) (.mu d :: os) = updA ρ1 as os →
              (((∃ e, ρ0[j]? = some (.ow e)) → ρ1[j]? = some (.ow d)) ∧ ((∃ e, ρ0[j]? = some (.mu e)) → ρ1[j]? = some (.mu d)) ∧ ((¬ ∃ e, ρ0[j]? = some (.ow e) ∨ ρ0[j]? = some (.mu e)) → ρ1[j]? = ρ0[j]?)) →
              (updA ρ (.ref j :: as) (.mu d :: os)).length = ρ.length ∧ (∀ i, i ∉ refsA (.ref j :: as) → (updA ρ (.ref j :: as) (.mu d :: os))[i]? = ρ[i]?) ∧
              (∀ (k i : Nat) d', (Av.ref j :: as)[k]? = some (.ref i) → (Sl.mu d :: os)[k]? = some (.mu d') → ((∃ e, ρ0[i]? = some (.ow e)) → (updA ρ (.ref j :: as) (.mu d :: os))[i]? = some (.ow d')) ∧ ((∃ e, ρ0[i]? = some (.mu e)) → (updA ρ (.ref j :: as) (.mu d :: os))[i]? = some (.mu d')) ∧
                ((¬ ∃ e, ρ0[i]? = some (.ow e) ∨ ρ0[i]? = some (.mu e)) → (updA ρ (.ref j :: as) (.mu d :: os))[i]? = ρ0[i]?)) ∧
              (∀ (k i : Nat), (Av.ref j :: as)[k]? = some (.ref i) → (∀ d', (Sl.mu d :: os)[k]? ≠ some (.mu d')) → (updA ρ (.ref j :: as) (.mu d :: os))[i]? = ρ0[i]?) := by
            intro ρ1 l1 e1 e2 e3
            rw [e2]
            obtain ⟨h1, h2, h3, h4⟩ := ih (outs := os) (ρ := ρ1) nd'.2 fun i h => by
              rw [e1 i fun z => nd'.1 (z ▸ h)]
              exact eq i (List.mem_cons_of_mem _ h)
            refine ⟨h1.trans l1, fun i h => ?_, fun k i d' q1 q2 => ?_, fun k i q1 q2 => ?_⟩
            · have hi : i ≠ j ∧ i ∉ refsA as := ⟨fun z => h (z ▸ List.mem_cons_self), fun z => h (List.mem_cons_of_mem _ z)⟩
              rw [h2 i hi.2, e1 i hi.1]
            · cases k with
              | zero =>
                cases q1
                cases q2
                rw [h2 j nd'.1]
                exact e3
              | succ k => exact h3 k i d' q1 q2
            · cases k with
              | zero => exact absurd rfl (q2 d)
              | succ k => exact h4 k i q1 q2
          cases q : ρ[j]? with
          | none =>
            refine fin ρ rfl (fun _ _ => rfl) (by simp only [updA, q]) ?_
            rw [← ej, q]
            exact ⟨nofun, nofun, fun _ => rfl⟩
          | some s =>
            have lj := lt_of_get q
            cases s with
            | ow e =>
              refine fin (ρ.set j (.ow d)) (by simp) (fun i h => List.getElem?_set_ne (Ne.symm h)) (by simp only [updA, q]) ?_
              rw [← ej, q]
              exact ⟨fun _ => List.getElem?_set_self lj, nofun, fun h => absurd ⟨e, .inl rfl⟩ h⟩
            | mu e =>
              refine fin (ρ.set j (.mu d)) (by simp) (fun i h => List.getElem?_set_ne (Ne.symm h)) (by simp only [updA, q]) ?_
              rw [← ej, q]
              exact ⟨nofun, fun _ => List.getElem?_set_self lj, fun h => absurd ⟨e, .inr rfl⟩ h⟩
            | no =>
              refine fin ρ rfl (fun _ _ => rfl) (by simp only [updA, q]) ?_
              rw [← ej, q]
              exact ⟨nofun, nofun, fun _ => rfl⟩
            | va e =>
              refine fin ρ rfl (fun _ _ => rfl) (by simp only [updA, q]) ?_
              rw [← ej, q]
              exact ⟨nofun, nofun, fun _ => rfl⟩
        | no => exact skip (hno nofun) (fun _ _ => nofun)
        | va d => exact skip (hno nofun) (fun _ _ => nofun)
        | ow d => exact skip (hno nofun) (fun _ _ => nofun)
/-- behind a call -/
theorem call_back {vs : List V} {as : List Av} {ss outs : List Sl} {O1 O2 : AS} (E : EnOk K Ox L H σ ρ) (hv : AvsOk K Ox L H σ vs as) (h : argS ρ as = some ss) (nd : (refsA as).Nodup)
    (st : Stp (LC L as) H H') (E' : EnOk K O1 (LC L as) H' (vs.map some) outs) (hno : ∀ (k : Nat) d, outs[k]? ≠ some (.ow d)) (ho : ∀ a, Ow O1 (LC L as) a ↔ Ow O2 L a)
    (x : Ext (Ow Ox L) H (Ow O2 L) H') (dis : ∀ i a, L i = some a → ¬ O2 a) (tr : ∀ a, O2 a → H' a ≠ none) : EnOk K O2 L H' σ (updA ρ as outs) ∧ Mv ρ L (updA ρ as outs) L := by
  obtain ⟨g1, g2, g3, g4⟩ := updA_get (ρ0 := ρ) (as := as) (outs := outs) (ρ := ρ) nd fun _ _ => rfl
  have refk : ∀ i, i ∈ refsA as → ∃ k : Nat, as[k]? = some (Av.ref i) := by
    intro i hi
    clear g1 g2 g3 g4 h nd hv st E' ho x
    induction as with
    | nil => cases hi
    | cons a as ih =>
      cases a with
      | dat d =>
        obtain ⟨k, e⟩ := ih hi
        exact ⟨k + 1, e⟩
      | ref j =>
        rcases List.mem_cons.mp hi with z | z
        · exact ⟨0, by rw [z]; rfl⟩
        · obtain ⟨k, e⟩ := ih z
          exact ⟨k + 1, e⟩
  -- a list that was handed over
  have own : ∀ (i : Nat) (a : Addr), i ∈ refsA as → L i = some a → ∃ (k : Nat) (d : D), as[k]? = some (.ref i) ∧ outs[k]? = some (.mu d) ∧ OwRep K (Ow O2 L) H' a d := by
    intro i a hi hL
    obtain ⟨k, e⟩ := refk i hi
    have lk : LC L as k = some a := by
      unfold LC
      rw [e]
      exact hL
    obtain ⟨d, q⟩ := E'.li k a lk
    have q' : outs[k]? = some (.mu d) := q.elim (fun z => absurd z (hno k d)) id
    obtain ⟨b, e1, _, r⟩ := E'.ow k d (.inr q')
    rw [lk] at e1
    cases e1
    exact ⟨k, d, e, q', r.ext (ext_ow fun z => (ho z).symm) rfl⟩
  have slot : ∀ (i : Nat) (a : Addr), L i = some a → ∃ d, (updA ρ as outs)[i]? = some (.ow d) ∨ (updA ρ as outs)[i]? = some (.mu d) := by
    intro i a hL
    obtain ⟨e, q⟩ := E.li i a hL
    by_cases hi : i ∈ refsA as
    · obtain ⟨k, d, e1, e2, _⟩ := own i a hi hL
      have g := g3 k i d e1 e2
      rcases q with q | q
      · exact ⟨d, .inl (g.1 ⟨e, q⟩)⟩
      · exact ⟨d, .inr (g.2.1 ⟨e, q⟩)⟩
    · rw [g2 i hi]
      exact ⟨e, q⟩
  refine ⟨⟨by rw [g1]; exact E.len, E.nd, tr, dis, fun i d q => ?_, fun i d q => ?_, fun i a q => slot i a q⟩, fun _ _ z => z, fun i d q => ⟨rfl, ?_⟩⟩
  · have q0 : ρ[i]? = some (.va d) := by
      by_cases hi : i ∈ refsA as
      · obtain ⟨k, e⟩ := refk i hi
        by_cases hm : ∃ d', outs[k]? = some (.mu d')
        · obtain ⟨d', hm⟩ := hm
          have g := g3 k i d' e hm
          by_cases hs : ∃ e, ρ[i]? = some (.ow e) ∨ ρ[i]? = some (.mu e)
          · obtain ⟨e', hs | hs⟩ := hs
            · rw [g.1 ⟨e', hs⟩] at q; cases q
            · rw [g.2.1 ⟨e', hs⟩] at q; cases q
          · rw [g.2.2 hs] at q
            exact q
        · rw [g4 k i e fun d' z => hm ⟨d', z⟩] at q
          exact q
      · rw [g2 i hi] at q
        exact q
    obtain ⟨v, e, r⟩ := E.va i d q0
    exact ⟨v, e, Rep.ext x d r⟩
  · by_cases hi : i ∈ refsA as
    · have hs : ∃ e, ρ[i]? = some (.ow e) ∨ ρ[i]? = some (.mu e) := by
        refine Classical.byContradiction fun hs => ?_
        obtain ⟨k, e⟩ := refk i hi
        have z : (updA ρ as outs)[i]? = ρ[i]? := by
          by_cases hm : ∃ d', outs[k]? = some (.mu d')
          · obtain ⟨d', hm⟩ := hm
            exact (g3 k i d' e hm).2.2 hs
          · exact g4 k i e fun d' z => hm ⟨d', z⟩
        rw [z] at q
        exact hs ⟨d, q⟩
      obtain ⟨e, hs⟩ := hs
      obtain ⟨a, e1, e2, _⟩ := E.ow i e hs
      obtain ⟨k, d', q1, q2, r⟩ := own i a hi e1
      have g := g3 k i d' q1 q2
      have ed : d = d' := by
        rcases hs with hs | hs
        · rw [g.1 ⟨e, hs⟩] at q
          rcases q with q | q <;> cases q
          rfl
        · rw [g.2.1 ⟨e, hs⟩] at q
          rcases q with q | q <;> cases q
          rfl
      subst ed
      exact ⟨a, e1, e2, r⟩
    · rw [g2 i hi] at q
      obtain ⟨a, e1, e2, ds, xs, e3, e4, r⟩ := E.ow i d q
      refine ⟨a, e1, e2, ds, xs, e3, st.st a _ (fun k z => ?_) e4, RepL.ext x ds r⟩
      obtain ⟨j, z1, z2⟩ := lc_of z
      have := E.nd i j a e1 z2
      subst this
      exact hi (refs_of z1)
  · obtain ⟨a, e1, _, _⟩ := E.ow i d (.inr q)
    by_cases hi : i ∈ refsA as
    · obtain ⟨k, d', q1, q2, _⟩ := own i a hi e1
      exact ⟨d', (g3 k i d' q1 q2).2.1 ⟨d, q⟩⟩
    · exact ⟨d, by rw [g2 i hi]; exact q⟩
end
end DL

namespace DL
open PySem PySem.Spec PyProof.Rows L2

/-! slots wiped and put back -/
theorem wipeE_len (own : List Nat) : ∀ ρ : En, (wipeE own ρ).length = ρ.length := by
  unfold wipeE
  induction own with
  | nil => intro ρ; rfl
  | cons i is ih =>
    intro ρ
    rw [List.foldl_cons, ih]
    simp
theorem wipeE_out {own : List Nat} {i : Nat} : ∀ {ρ : En}, i ∉ own → (wipeE own ρ)[i]? = ρ[i]? := by
  unfold wipeE
  induction own with
  | nil => intro ρ _; rfl
  | cons j is ih =>
    intro ρ h
    rw [List.foldl_cons, ih fun z => h (List.mem_cons_of_mem _ z)]
    exact List.getElem?_set_ne (fun z : j = i => h (by rw [z]; exact List.mem_cons_self))
theorem wipeE_in {own : List Nat} {i : Nat} : ∀ {ρ : En}, i ∈ own → i < ρ.length → (wipeE own ρ)[i]? = some .no := by
  induction own with
  | nil => intro ρ h; cases h
  | cons j is ih =>
    intro ρ h l
    show (wipeE is (ρ.set j .no))[i]? = some .no
    by_cases hi : i ∈ is
    · exact ih hi (by simpa using l)
    · rw [wipeE_out hi]
      rcases List.mem_cons.mp h with z | z
      · subst z
        exact List.getElem?_set_self l
      · exact absurd z hi
theorem backE_len (own : List Nat) (ρ : En) : ∀ ρ' : En, (backE own ρ ρ').length = ρ'.length := by
  unfold backE
  induction own with
  | nil => intro ρ'; rfl
  | cons i is ih =>
    intro ρ'
    rw [List.foldl_cons, ih]
    simp
theorem backE_out {own : List Nat} {ρ : En} {i : Nat} : ∀ {ρ' : En}, i ∉ own → (backE own ρ ρ')[i]? = ρ'[i]? := by
  unfold backE
  induction own with
  | nil => intro ρ' _; rfl
  | cons j is ih =>
    intro ρ' h
    rw [List.foldl_cons, ih fun z => h (List.mem_cons_of_mem _ z)]
    exact List.getElem?_set_ne (fun z : j = i => h (by rw [z]; exact List.mem_cons_self))
theorem backE_in {own : List Nat} {ρ : En} {i : Nat} : ∀ {ρ' : En}, i ∈ own → i < ρ'.length → (backE own ρ ρ')[i]? = some (ρ.getD i .no) := by
  induction own with
  | nil => intro ρ' h; cases h
  | cons j is ih =>
    intro ρ' h l
    show (backE is ρ (ρ'.set j (ρ.getD j .no)))[i]? = _
    by_cases hi : i ∈ is
    · exact ih hi (by simpa using l)
    · rw [backE_out hi]
      rcases List.mem_cons.mp h with z | z
      · subst z
        exact List.getElem?_set_self l
      · exact absurd z hi
theorem wipe_in {own : List Nat} {σ : Sg} {i : Nat} (h : i ∈ own) (l : i < σ.length) : (wipe σ own)[i]? = some none := by
  have l' : i < (wipe σ own).length := by rw [wipe_length]; exact l
  cases e : (wipe σ own)[i] with
  | none => rw [List.getElem?_eq_getElem l', e]
  | some x =>
    have := wipe_some (σ := σ) (i := i) (x := x) (vs := own) (by rw [List.getElem?_eq_getElem l', e])
    exact absurd h this.2
theorem wipe_eq {own : List Nat} {σ σ' : Sg} (l : σ'.length = σ.length) (h : ∀ i, i ∉ own → σ'[i]? = σ[i]?) : wipe σ' own = wipe σ own := by
  refine List.ext_getElem? fun i => ?_
  by_cases hi : i ∈ own
  · by_cases li : i < σ.length
    · rw [wipe_in hi li, wipe_in hi (by rw [l]; exact li)]
    · rw [List.getElem?_eq_none (by rw [wipe_length, l]; omega), List.getElem?_eq_none (by rw [wipe_length]; omega)]
  · rw [wipe_out hi, wipe_out hi, h i hi]
theorem wipe_wipe {own : List Nat} {σ : Sg} : wipe (wipe σ own) own = wipe σ own := wipe_eq (wipe_length σ own) fun i h => wipe_out h

section
variable {K : Fg} {Ox Ox1 : AS} {L L1 : LA} {H H1 H' : Hp} {σ σ' : Sg} {ρ ρ1 ρ' : En} {own : List Nat}
theorem EnOk.wipe (E : EnOk K Ox L H σ ρ) (hL : ∀ i ∈ own, L i = none) : EnOk K Ox L H (L2.wipe σ own) (wipeE own ρ) := by
  have out : ∀ {i : Nat} {s : Sl}, s ≠ .no → (wipeE own ρ)[i]? = some s → i ∉ own ∧ ρ[i]? = some s := by
    intro i s ns h
    by_cases hi : i ∈ own
    · exfalso
      by_cases li : i < ρ.length
      · rw [wipeE_in hi li] at h
        exact ns (Option.some.inj h).symm
      · rw [List.getElem?_eq_none (by rw [wipeE_len]; omega)] at h
        cases h
    · rw [wipeE_out hi] at h
      exact ⟨hi, h⟩
  refine ⟨by rw [wipe_length, wipeE_len]; exact E.len, E.nd, E.ext, E.dis, fun i d h => ?_, fun i d h => ?_, fun i a h => ?_⟩
  · obtain ⟨hi, h⟩ := out (by intro z; cases z) h
    obtain ⟨v, e, r⟩ := E.va i d h
    exact ⟨v, by rw [wipe_out hi]; exact e, r⟩
  · have h' : i ∉ own ∧ (ρ[i]? = some (.ow d) ∨ ρ[i]? = some (.mu d)) := by
      rcases h with h | h
      · have := out (by intro z; cases z) h; exact ⟨this.1, .inl this.2⟩
      · have := out (by intro z; cases z) h; exact ⟨this.1, .inr this.2⟩
    obtain ⟨a, e1, e2, r⟩ := E.ow i d h'.2
    exact ⟨a, e1, by rw [wipe_out h'.1]; exact e2, r⟩
  · have hi : i ∉ own := fun z => by
      rw [hL i z] at h
      cases h
    rw [wipeE_out hi]
    exact E.li i a h
/-- an object of others is written -/
theorem EnOk.updO (E : EnOk K Ox L H σ ρ) {D : Addr} {o : HO} (h : Ox D) : EnOk K Ox L (upd H D o) σ ρ ∧ Ext (Ow Ox L) H (Ow Ox L) (upd H D o) := by
  have x : Ext (Ow Ox L) H (Ow Ox L) (upd H D o) := fun b ob n e => ⟨n, by
    rw [upd_ne (show b ≠ D from fun z => n (by rw [z]; exact .inl h))]
    exact e⟩
  refine ⟨⟨E.len, E.nd, fun a q z => ?_, E.dis, fun i d q => ?_, fun i d q => ?_, E.li⟩, x⟩
  · by_cases e : a = D
    · subst e
      rw [upd_same] at z
      cases z
    · rw [upd_ne e] at z
      exact E.ext a q z
  · obtain ⟨v, e, r⟩ := E.va i d q
    exact ⟨v, e, Rep.ext x d r⟩
  · obtain ⟨a, e1, e2, r⟩ := E.ow i d q
    have ne : a ≠ D := fun z => E.dis i a e1 (z ▸ h)
    exact ⟨a, e1, e2, r.ext x (by rw [upd_ne ne])⟩
/-- the outer slots come back -/
theorem EnOk.back (E1 : EnOk K Ox L1 H1 σ ρ1) (hown : ownOk own ρ1) (E : EnOk K Ox1 L H (L2.wipe σ own) ρ) (x : Ext (Ow Ox L1) H1 (Ow Ox1 L) H) (hL : ∀ i ∈ own, L i = none) : EnOk K Ox1 L H σ (backE own ρ1 ρ) := by
  have len : ρ.length = ρ1.length := by
    have a := E.len
    rw [wipe_length] at a
    rw [← a, E1.len]
  have cases1 : ∀ {i : Nat} {s : Sl}, (backE own ρ1 ρ)[i]? = some s → (i ∈ own ∧ ρ1[i]? = some s) ∨ (i ∉ own ∧ ρ[i]? = some s) := by
    intro i s h
    by_cases hi : i ∈ own
    · have li : i < ρ1.length := by
        rcases hown i hi with z | ⟨d, z⟩ <;> exact lt_of_get z
      rw [backE_in hi (by rw [len]; exact li)] at h
      refine .inl ⟨hi, ?_⟩
      rw [← h]
      simp [List.getD, List.getElem?_eq_getElem li]
    · rw [backE_out hi] at h
      exact .inr ⟨hi, h⟩
  refine ⟨by rw [backE_len, len]; exact E1.len, E.nd, E.ext, E.dis, fun i d h => ?_, fun i d h => ?_, fun i a h => ?_⟩
  · rcases cases1 h with ⟨_, h⟩ | ⟨hi, h⟩
    · obtain ⟨v, e, r⟩ := E1.va i d h
      exact ⟨v, e, Rep.ext x d r⟩
    · obtain ⟨v, e, r⟩ := E.va i d h
      rw [wipe_out hi] at e
      exact ⟨v, e, r⟩
  · have h' : i ∉ own ∧ (ρ[i]? = some (.ow d) ∨ ρ[i]? = some (.mu d)) := by
      rcases h with h | h
      · rcases cases1 h with ⟨hi, h⟩ | ⟨hi, h⟩
        · rcases hown i hi with z | ⟨d, z⟩ <;> (rw [h] at z; cases z)
        · exact ⟨hi, .inl h⟩
      · rcases cases1 h with ⟨hi, h⟩ | ⟨hi, h⟩
        · rcases hown i hi with z | ⟨d, z⟩ <;> (rw [h] at z; cases z)
        · exact ⟨hi, .inr h⟩
    obtain ⟨a, e1, e2, r⟩ := E.ow i d h'.2
    rw [wipe_out h'.1] at e2
    exact ⟨a, e1, e2, r⟩
  · have hi : i ∉ own := fun z => by
      rw [hL i z] at h
      cases h
    rw [backE_out hi]
    exact E.li i a h
/-- ow and mu change places -/
theorem EnOk.swap (E : EnOk K Ox L H σ ρ) {i : Nat} {d : D} {s t : Sl} (hs : (s = .ow d ∧ t = .mu d) ∨ (s = .mu d ∧ t = .ow d)) (h : ρ[i]? = some s) : EnOk K Ox L H σ (ρ.set i t) := by
  have sd : ρ[i]? = some (.ow d) ∨ ρ[i]? = some (.mu d) := by
    rcases hs with ⟨rfl, _⟩ | ⟨rfl, _⟩
    · exact .inl h
    · exact .inr h
  have td : t = .ow d ∨ t = .mu d := by
    rcases hs with ⟨_, rfl⟩ | ⟨_, rfl⟩
    · exact .inr rfl
    · exact .inl rfl
  have li := lt_of_get h
  refine ⟨by simp [E.len], E.nd, E.ext, E.dis, fun j e q => ?_, fun j e q => ?_, fun j a q => ?_⟩
  · rcases get_set q with ⟨rfl, z⟩ | ⟨z, q⟩
    · rcases td with td | td <;> (rw [td] at z; cases z)
    · exact E.va j e q
  · by_cases hij : i = j
    · subst hij
      have : e = d := by
        rw [List.getElem?_set_self li] at q
        rcases td with td | td <;> (subst td; rcases q with q | q <;> cases q <;> rfl)
      subst this
      exact E.ow i e sd
    · rw [List.getElem?_set_ne hij] at q
      exact E.ow j e q
  · by_cases hij : i = j
    · subst hij
      refine ⟨d, ?_⟩
      rw [List.getElem?_set_self li]
      rcases td with td | td <;> subst td
      · exact .inl rfl
      · exact .inr rfl
    · rw [List.getElem?_set_ne hij]
      exact E.li j a q
theorem EnOk.lock (E : EnOk K Ox L H σ ρ) (w : Option Nat) : EnOk K Ox L H σ (lockE w ρ) := by
  unfold lockE
  split
  · exact E
  · split
    · exact E.swap (.inl ⟨rfl, rfl⟩) (by assumption)
    · exact E
theorem EnOk.opens (E : EnOk K Ox L H σ ρ) (w : Option Nat) (ρ0 : En) : EnOk K Ox L H σ (openE w ρ0 ρ) := by
  unfold openE
  split
  · exact E
  · split
    · exact E.swap (.inr ⟨rfl, rfl⟩) (by assumption)
    · exact E
theorem Mv.lock (w : Option Nat) : Mv ρ L (lockE w ρ) L := by
  unfold lockE
  split
  · exact .refl
  · split
    · exact mv_set (.inr (.inr ⟨_, by assumption⟩))
    · exact .refl
/-- the locked slot is none of the caller's -/
theorem Mv.opens {L' : LA} {ρ0 : En} (m : Mv ρ0 L ρ L') (w : Option Nat) : Mv ρ0 L (openE w ρ0 ρ) L' := by
  refine ⟨m.le, fun i d q => ⟨(m.mu i d q).1, ?_⟩⟩
  unfold openE
  split
  · exact (m.mu i d q).2
  · split
    · rename_i j _ _ e _ h1 h2
      have ne : j ≠ i := fun z => by
        subst z
        rw [q] at h1
        cases h1
      rw [List.getElem?_set_ne ne]
      exact (m.mu i d q).2
    · exact (m.mu i d q).2
end
end DL

namespace DL
open PySem PySem.Spec PyProof.Rows L2

section
variable {K : Fg} {F : List Fe} {C : List D}
theorem valR_rep {Ox : AS} {L : LA} {H0 H : Hp} {σ : Sg} {ρ : En} {v : V} {r : Rv} {Kt : D → En → Prop} (E0 : ∃ L0 ρ0, EnOk K Ox L0 H0 σ ρ0 ∧ Mv ρ0 L0 ρ L) (h : RvOk K Ox L H0 H σ ρ v r) (q : valR ρ Kt r) :
    ∃ d, Kt d ρ ∧ Rep K (Ow Ox L) H d v := by
  obtain ⟨L0, ρ0, E0, m⟩ := E0
  have av := h.av E0 m
  cases r with
  | va d => exact ⟨d, q, av⟩
  | fr d => exact ⟨d, q, av⟩
  | vw i =>
    simp only [valR] at q
    split at q
    · rename_i d e
      exact ⟨d, q, h.en.drep (a := .ref i) av (by simp only [datA]; rw [e])⟩
    · exact q.elim
theorem mv_own {own : List Nat} {ρ ρ' : En} {L L' : LA} (w : Option Nat) (m : Mv (wipeE own (lockE w ρ)) L ρ' L') (hown : ownOk own ρ) : Mv ρ L (backE own ρ ρ') L' := by
  refine ⟨m.le, fun i d q => ?_⟩
  have hi : i ∉ own := fun z => by
    rcases hown i z with e | ⟨d', e⟩ <;> (rw [q] at e; cases e)
  have q' : (wipeE own (lockE w ρ))[i]? = some (.mu d) := by
    rw [wipeE_out hi]
    unfold lockE
    cases w with
    | none => exact q
    | some j =>
      dsimp only
      split
      · rename_i e
        have ne : j ≠ i := fun z => by
          subst z
          rw [q] at e
          cases e
        rw [List.getElem?_set_ne ne]
        exact q
      · exact q
  obtain ⟨e, d', z⟩ := m.mu i d q'
  exact ⟨e, d', by rw [backE_out hi]; exact z⟩
/-- what a comprehension asks, from what its words say -/
theorem comp_imp {g : Tg} {it : It} {cnd : Exs} {e : Ex} {own : List Nat} (hg : tgIn own g = true) {σ : Sg} {H : Hp} {Q : VK} (h : tR K (ex F C (.comp g it cnd e own)) σ H Q) :
    tLc (tIt K (itm F C it)) (tTg K own g) (tTs K (tsts F C cnd)) (tR K (ex F C e)) own σ H Q := by
  obtain ⟨Ox, L, ρ, R, E, h, k⟩ := h
  simp only [ex] at h
  refine ⟨Ox, L, ρ, _, E, h, ?_⟩
  intro ds w ρ1 L1 H1 J ⟨hown, hc⟩ m1 s1 E1 src wok D nD
  generalize hρ0 : wipeE own (lockE w ρ1) = ρ0 at hc
  have noL : ∀ i ∈ own, L1 i = none := fun i hi => E1.noL (hown i hi)
  have sm1 := same_new (o := .lst []) nD
  have xD : Ext (Ow Ox L1) H1 (Ow (plusA Ox D) L1) (upd H1 D (.lst [])) := fun b o nb q => by
    have z := ext_new (O := Ow Ox L1) sm1 nD b o nb q
    exact ⟨fun t => z.1 (ow_plus.mp t), z.2⟩
  have Eb : EnOk K (plusA Ox D) L1 (upd H1 D (.lst [])) (wipe σ own) ρ0 := by
    rw [← hρ0]
    exact ((E1.plus sm1 nD (by rw [upd_same]; exact nofun)).lock w).wipe noL
  -- the walked slot is locked
  have wat : ∀ i, w = some i → ∃ d, ρ0[i]? = some (.mu d) ∧ vwA ρ1 (.ref i) = some d := by
    intro i hw
    obtain ⟨d, q⟩ := wok i hw
    have hi : i ∉ own := fun z => by
      rcases hown i z with e | ⟨d', e⟩ <;> rcases q with q | q <;> (rw [q] at e; cases e)
    have li : i < ρ1.length := by rcases q with q | q <;> exact lt_of_get q
    refine ⟨d, ?_, ?_⟩
    · rw [← hρ0, wipeE_out hi, hw]
      unfold lockE
      dsimp only
      rcases q with q | q
      · rw [q]
        exact List.getElem?_set_self li
      · rw [q]
        exact q
    · simp only [vwA]
      rcases q with q | q <;> rw [q]
  let Iv : Nat → Hp → Prop := fun j H2 => ∃ L2 ρ2 acc xs, EnOk K (plusA Ox D) L2 H2 (wipe σ own) ρ2 ∧ H2 D = some (.lst xs) ∧ RepL K (Ow (plusA Ox D) L2) H2 acc xs ∧
    compP w ρ0 own (tgP g) (fun ρ2 K => tsts F C cnd ρ2 K) (fun ρ2 K => ex F C e ρ2 fun r ρ3 => valR ρ3 K r) (ds.drop j) acc ρ2 (fun acc ρ4 => R (.fr (.lst acc)) (openE w ρ1 (backE own ρ1 ρ4))) ∧
    Mv ρ0 L1 ρ2 L2 ∧ Stp L1 H1 H2 ∧ Ext (Ow Ox L1) H1 (Ow (plusA Ox D) L2) H2 ∧ ∀ i, w = some i → ρ2[i]? = ρ0[i]?
  have later : ∀ {L2 ρ2 H2 σ2}, EnOk K (plusA Ox D) L2 H2 σ2 ρ2 → Mv ρ0 L1 ρ2 L2 → Ext (Ow Ox L1) H1 (Ow (plusA Ox D) L2) H2 → (∀ i, w = some i → ρ2[i]? = ρ0[i]?) → Later K Ox L1 ρ1 H1 w (plusA Ox D) L2 σ2 ρ2 H2 := by
    intro L2 ρ2 H2 σ2 E2 m x hw
    refine ⟨E2, x, fun i e => ?_⟩
    obtain ⟨d, q1, q2⟩ := wat i e
    refine ⟨(m.mu i d q1).1, ?_⟩
    rw [q2]
    simp only [vwA]
    rw [hw i e, q1]
  have fin : ∀ {H2}, Iv ds.length H2 → Q (.ref D) H2 := by
    rintro H2 ⟨L2, ρ2, acc, xs, E2, hD, rp, hc, m2, s2, x2, hw⟩
    rw [List.drop_length] at hc
    simp only [compP, force_eq] at hc
    have m := (mv_own w (hρ0 ▸ m2) hown).opens w
    have nD0 : H D = none := by
      cases q : H D with
      | none => rfl
      | some ob => exact absurd nD (s1.tk D (by rw [q]; exact nofun))
    have noL2 : ∀ i ∈ own, L2 i = none := fun i hi => by
      cases q : L2 i with
      | none => rfl
      | some a =>
        have := m2.le i a q
        rw [noL i hi] at this
        cases this
    have E3 := (E1.back hown E2 x2 noL2).opens w ρ1
    have mo := (mv_own w (hρ0 ▸ m2) hown)
    refine k _ _ L2 _ H2 hc (m1.trans ?_) (s1.trans m1 s2) ⟨D, rfl, nD0, E3, acc, xs, rfl, hD, RepL.ext (ext_ow fun a => ow_plus.symm) acc rp⟩
    exact mo.opens w
  refine ⟨fun j m H2 => m = ds.length - j ∧ j ≤ ds.length ∧ Iv j H2, ⟨ds.length, by omega, Nat.zero_le _, L1, ρ0, [], [], Eb, upd_same, rfl, by rw [List.drop_zero]; exact hc, .refl, .same sm1, xD, fun _ _ => rfl⟩, ?_⟩
  rintro j m H2 ⟨rfl, hj, iv⟩
  obtain ⟨L2, ρ2, acc, xs, E2, hD, rp, hc, m2, s2, x2, hw⟩ := id iv
  obtain ⟨goes, stops, yields⟩ := src _ _ _ _ _ (later E2 m2 x2 hw)
  by_cases hlt : j < ds.length
  · refine .inr ⟨goes j hlt, Iv (j + 1), fun H3 iv3 => ⟨ds.length - (j + 1), by omega, rfl, hlt, iv3⟩, fun x H3 y => ?_⟩
    obtain ⟨sm3, rx⟩ := yields j x H3 ds[j] (List.getElem?_eq_getElem hlt) y
    rw [List.drop_eq_getElem_cons hlt] at hc
    simp only [compP, force_eq] at hc
    have E3 := E2.same sm3
    have dO : ∀ {L' : LA} {Hx : Hp} {σx : Sg} {ρx : En}, EnOk K (plusA Ox D) L' Hx σx ρx → ∀ i, L' i ≠ some D := fun E i z => E.dis i D z (.inr rfl)
    refine ⟨plusA Ox D, L2, ρ2, ds[j], _, E3, rx, hc, fun σ4 ρ4 hc4 E4 m4 t4 => ?_⟩
    have tch := t4 hg
    have w4 : wipe σ4 own = wipe σ own := (wipe_eq tch.l tch.s).trans wipe_wipe
    refine ⟨w4, plusA Ox D, L2, ρ4, _, E4, hc4, fun b ρ5 L5 H5 hc5 m5 s5 E5 => ?_⟩
    have m25 : Mv ρ0 L1 ρ5 L5 := (m2.trans m4).trans m5
    have x3 : Ext (Ow (plusA Ox D) L2) H2 (Ow (plusA Ox D) L2) H3 := (Stp.same (L := L2) sm3).ext
    have hD3 : H3 D = some (.lst xs) := sm3 D _ hD
    have hD5 : H5 D = some (.lst xs) := s5.st D _ (dO E4) hD3
    have x5 : Ext (Ow (plusA Ox D) L2) H2 (Ow (plusA Ox D) L5) H5 := x3.trans (s5.extM m5)
    have s25 : Stp L1 H1 H5 := (s2.trans m2 (Stp.same sm3)).trans (m2.trans m4) s5
    have noLx : ∀ {ρx : En} {Lx : LA}, Mv ρ0 L1 ρx Lx → ∀ i ∈ own, Lx i = none := by
      intro ρx Lx m i hi
      cases q : Lx i with
      | none => rfl
      | some a =>
        have := m.le i a q
        rw [noL i hi] at this
        cases this
    have mvw : ∀ {ρx : En} {Lx : LA}, Mv ρ0 L1 ρx Lx → Mv ρ0 L1 (wipeE own ρx) Lx := by
      intro ρx Lx m
      refine ⟨m.le, fun i d q => ?_⟩
      have hi : i ∉ own := fun z => by
        have li : i < ρ0.length := lt_of_get q
        rw [← hρ0] at q li
        rw [wipeE_len] at li
        rw [wipeE_in z li] at q
        cases q
      rw [wipeE_out hi]
      exact m.mu i d q
    have hww : ∀ {ρx : En}, watchOk w ρ0 ρx → ∀ i, w = some i → (wipeE own ρx)[i]? = ρ0[i]? := by
      intro ρx h i hi
      obtain ⟨d, q, _⟩ := wat i hi
      subst hi
      have ni : i ∉ own := fun z => by
        have li : i < ρ0.length := lt_of_get q
        rw [← hρ0] at q li
        rw [wipeE_len] at li
        rw [wipeE_in z li] at q
        cases q
      rw [wipeE_out ni]
      exact h
    cases b with
    | false =>
      refine iteF ?_
      obtain ⟨hwo, hc6⟩ := hc5
      have Ew := E5.wipe (noLx m25)
      rw [w4] at Ew
      exact ⟨L5, wipeE own ρ5, acc, xs, Ew, hD5, RepL.ext x5 acc rp, hc6, mvw m25, s25, x2.trans x5, hww hwo⟩
    | true =>
      refine iteT ?_
      refine ⟨plusA Ox D, L5, ρ5, _, E5, hc5, fun r ρ6 L6 y H6 hc6 m6 s6 o6 => ?_⟩
      obtain ⟨d, ⟨hl, hwo, hc7⟩, ry⟩ := valR_rep ⟨L5, ρ5, E5, m6⟩ o6 hc6
      have E6 := o6.en
      have m26 := m25.trans m6
      have hD6 : H6 D = some (.lst xs) := s6.st D _ (dO E5) hD5
      have x6 : Ext (Ow (plusA Ox D) L2) H2 (Ow (plusA Ox D) L6) H6 := x5.trans (s6.extM m6)
      have s26 : Stp L1 H1 H6 := s25.trans m25 s6
      have rp6 := RepL.ext x6 acc rp
      obtain ⟨E7, x7⟩ := E6.updO (D := D) (o := .lst (xs ++ [y])) (.inr rfl)
      have Ew := E7.wipe (noLx m26)
      rw [w4] at Ew
      have s7 : Stp L1 H1 (upd H6 D (.lst (xs ++ [y]))) := by
        refine ⟨fun b o n q => ?_, fun b n q => ?_⟩
        · have ne : b ≠ D := fun z => by
            rw [z, nD] at q
            cases q
          rw [upd_ne ne]
          exact s26.st b o n q
        · by_cases e : b = D
          · rw [e, upd_same] at q
            cases q
          · rw [upd_ne e] at q
            exact s26.tk b n q
      refine ⟨xs, hD6, by rw [← rp.len]; exact hl, L6, wipeE own ρ6, acc ++ [d], xs ++ [y], Ew, upd_same, ?_, hc7, mvw m26, s7, (x2.trans x6).trans x7, hww hwo⟩
      exact (RepL.ext x7 acc rp6).append (RepL.cons (Rep.ext x7 d ry) RepL.nil)
  · have e : j = ds.length := by omega
    subst e
    exact .inl ⟨stops, fin iv⟩
end
end DL

namespace DL
open PySem PySem.Spec PyProof.Rows L2
section
variable {K : Fg} {F : List Fe} {C : List D}
theorem comp2_imp {g g1 : Tg} {it it1 : It} {e : Ex} {own own1 : List Nat} (hg : tgIn own g = true) (hg1 : tgIn own1 g1 = true) (sub : ∀ i ∈ own1, i ∈ own) {σ : Sg} {H : Hp} {Q : VK} (h : tR K (ex F C (.comp2 g it g1 it1 e own own1)) σ H Q) :
    tLc2 (tIt K (itm F C it)) (tTg K own g) (tTs K (tsts F C .nil)) (tIt K (itm F C it1)) (tTg K own1 g1) (tTs K (tsts F C .nil)) (tR K (ex F C e)) own own1 σ H Q := by
  obtain ⟨Ox, L, ρ, R, E, h, k⟩ := h
  simp only [ex] at h
  refine ⟨Ox, L, ρ, _, E, h, ?_⟩
  intro ds w ρ1 L1 H1 J ⟨hown, hc⟩ m1 s1 E1 src wok D nD
  generalize hρ0 : wipeE own (lockE w ρ1) = ρ0 at hc
  have noL : ∀ i ∈ own, L1 i = none := fun i hi => E1.noL (hown i hi)
  have sm1 := same_new (o := .lst []) nD
  have xD : Ext (Ow Ox L1) H1 (Ow (plusA Ox D) L1) (upd H1 D (.lst [])) := fun b o nb q => by
    have z := ext_new (O := Ow Ox L1) sm1 nD b o nb q
    exact ⟨fun t => z.1 (ow_plus.mp t), z.2⟩
  have Eb : EnOk K (plusA Ox D) L1 (upd H1 D (.lst [])) (wipe σ own) ρ0 := by
    rw [← hρ0]
    exact ((E1.plus sm1 nD (by rw [upd_same]; exact nofun)).lock w).wipe noL
  -- the walked slot is locked
  have wat : ∀ i, w = some i → ∃ d, ρ0[i]? = some (.mu d) ∧ vwA ρ1 (.ref i) = some d := by
    intro i hw
    obtain ⟨d, q⟩ := wok i hw
    have hi : i ∉ own := fun z => by
      rcases hown i z with e | ⟨d', e⟩ <;> rcases q with q | q <;> (rw [q] at e; cases e)
    have li : i < ρ1.length := by rcases q with q | q <;> exact lt_of_get q
    refine ⟨d, ?_, ?_⟩
    · rw [← hρ0, wipeE_out hi, hw]
      unfold lockE
      dsimp only
      rcases q with q | q
      · rw [q]
        exact List.getElem?_set_self li
      · rw [q]
        exact q
    · simp only [vwA]
      rcases q with q | q <;> rw [q]
  let Iv : Nat → Hp → Prop := fun j H2 => ∃ L2 ρ2 acc xs, EnOk K (plusA Ox D) L2 H2 (wipe σ own) ρ2 ∧ H2 D = some (.lst xs) ∧ RepL K (Ow (plusA Ox D) L2) H2 acc xs ∧
    comp2P w ρ0 own own1 (tgP g) (fun ρ2 K => itm F C it1 ρ2 K) (tgP g1) (fun ρ2 K => ex F C e ρ2 fun r ρ3 => valR ρ3 K r) (ds.drop j) acc ρ2 (fun acc ρ4 => R (.fr (.lst acc)) (openE w ρ1 (backE own ρ1 ρ4))) ∧
    Mv ρ0 L1 ρ2 L2 ∧ Stp L1 H1 H2 ∧ Ext (Ow Ox L1) H1 (Ow (plusA Ox D) L2) H2 ∧ ∀ i, w = some i → ρ2[i]? = ρ0[i]?
  have later : ∀ {L2 ρ2 H2 σ2}, EnOk K (plusA Ox D) L2 H2 σ2 ρ2 → Mv ρ0 L1 ρ2 L2 → Ext (Ow Ox L1) H1 (Ow (plusA Ox D) L2) H2 → (∀ i, w = some i → ρ2[i]? = ρ0[i]?) → Later K Ox L1 ρ1 H1 w (plusA Ox D) L2 σ2 ρ2 H2 := by
    intro L2 ρ2 H2 σ2 E2 m x hw
    refine ⟨E2, x, fun i e => ?_⟩
    obtain ⟨d, q1, q2⟩ := wat i e
    refine ⟨(m.mu i d q1).1, ?_⟩
    rw [q2]
    simp only [vwA]
    rw [hw i e, q1]
  have fin : ∀ {H2}, Iv ds.length H2 → Q (.ref D) H2 := by
    rintro H2 ⟨L2, ρ2, acc, xs, E2, hD, rp, hc, m2, s2, x2, hw⟩
    rw [List.drop_length] at hc
    simp only [comp2P] at hc
    have m := (mv_own w (hρ0 ▸ m2) hown).opens w
    have nD0 : H D = none := by
      cases q : H D with
      | none => rfl
      | some ob => exact absurd nD (s1.tk D (by rw [q]; exact nofun))
    have noL2 : ∀ i ∈ own, L2 i = none := fun i hi => by
      cases q : L2 i with
      | none => rfl
      | some a =>
        have := m2.le i a q
        rw [noL i hi] at this
        cases this
    have E3 := (E1.back hown E2 x2 noL2).opens w ρ1
    have mo := (mv_own w (hρ0 ▸ m2) hown)
    refine k _ _ L2 _ H2 hc (m1.trans ?_) (s1.trans m1 s2) ⟨D, rfl, nD0, E3, acc, xs, rfl, hD, RepL.ext (ext_ow fun a => ow_plus.symm) acc rp⟩
    exact mo.opens w
  have dO : ∀ {L' : LA} {Hx : Hp} {σx : Sg} {ρx : En}, EnOk K (plusA Ox D) L' Hx σx ρx → ∀ i, L' i ≠ some D := fun E i z => E.dis i D z (.inr rfl)
  have noLx : ∀ {ρx : En} {Lx : LA}, Mv ρ0 L1 ρx Lx → ∀ i ∈ own, Lx i = none := by
    intro ρx Lx m i hi
    cases q : Lx i with
    | none => rfl
    | some a =>
      have := m.le i a q
      rw [noL i hi] at this
      cases this
  have notown : ∀ {i : Nat} {d : DL.D}, ρ0[i]? = some (.mu d) → i ∉ own := by
    intro i d q z
    have li : i < ρ0.length := lt_of_get q
    rw [← hρ0] at q li
    rw [wipeE_len] at li
    rw [wipeE_in z li] at q
    cases q
  have mvw : ∀ {ow : List Nat} {ρx : En} {Lx : LA}, (∀ i ∈ ow, i ∈ own) → Mv ρ0 L1 ρx Lx → Mv ρ0 L1 (wipeE ow ρx) Lx := by
    intro ow ρx Lx so m
    refine ⟨m.le, fun i d q => ?_⟩
    have hi : i ∉ ow := fun z => notown q (so i z)
    rw [wipeE_out hi]
    exact m.mu i d q
  have hww : ∀ {ρx : En}, watchOk w ρ0 ρx → ∀ i, w = some i → (wipeE own ρx)[i]? = ρ0[i]? := by
    intro ρx h i hi
    obtain ⟨d, q, _⟩ := wat i hi
    subst hi
    rw [wipeE_out (notown q)]
    exact h
  refine ⟨fun j m H2 => m = ds.length - j ∧ j ≤ ds.length ∧ Iv j H2, ⟨ds.length, by omega, Nat.zero_le _, L1, ρ0, [], [], Eb, upd_same, rfl, by rw [List.drop_zero]; exact hc, .refl, .same sm1, xD, fun _ _ => rfl⟩, ?_⟩
  rintro j m H2 ⟨rfl, hj, iv⟩
  obtain ⟨L2, ρ2, acc, xs, E2, hD, rp, hc, m2, s2, x2, hw⟩ := id iv
  obtain ⟨goes, stops, yields⟩ := src _ _ _ _ _ (later E2 m2 x2 hw)
  by_cases hlt : j < ds.length
  · refine .inr ⟨goes j hlt, Iv (j + 1), fun H3 iv3 => ⟨ds.length - (j + 1), by omega, rfl, hlt, iv3⟩, fun x H3 y => ?_⟩
    obtain ⟨sm3, rx⟩ := yields j x H3 ds[j] (List.getElem?_eq_getElem hlt) y
    rw [List.drop_eq_getElem_cons hlt] at hc
    simp only [comp2P] at hc
    have E3 := E2.same sm3
    refine ⟨plusA Ox D, L2, ρ2, ds[j], _, E3, rx, hc, fun σ4 ρ4 hc4 E4 m4 t4 => ?_⟩
    have tch := t4 hg
    have w4 : wipe σ4 own = wipe σ own := (wipe_eq tch.l tch.s).trans wipe_wipe
    refine ⟨w4, plusA Ox D, L2, ρ4, fun b ρ => b = true ∧ ρ = ρ4, E4, by simp only [tsts, and_self], fun b ρ5 L5 H5 hb5 m5 s5 E5 => ?_⟩
    obtain ⟨rfl, rfl⟩ := hb5
    refine iteT ?_
    refine ⟨plusA Ox D, L5, ρ5, _, E5, hc4, fun es w1 ρ6 L6 H6 J1 hb6 m6 s6 E6 src1 wok1 => ?_⟩
    obtain ⟨rfl, hc6⟩ := hb6
    have m26 : Mv ρ0 L1 ρ6 L6 := ((m2.trans m4).trans m5).trans m6
    have x3 : Ext (Ow (plusA Ox D) L2) H2 (Ow (plusA Ox D) L2) H3 := (Stp.same (L := L2) sm3).ext
    have hD3 : H3 D = some (.lst xs) := sm3 D _ hD
    have hD5 : H5 D = some (.lst xs) := s5.st D _ (dO E4) hD3
    have hD6 : H6 D = some (.lst xs) := s6.st D _ (dO E5) hD5
    have x6 : Ext (Ow (plusA Ox D) L2) H2 (Ow (plusA Ox D) L6) H6 := (x3.trans (s5.extM m5)).trans (s6.extM m6)
    have s26 : Stp L1 H1 H6 := ((s2.trans m2 (Stp.same sm3)).trans (m2.trans m4) s5).trans ((m2.trans m4).trans m5) s6
    have Ew6 : EnOk K (plusA Ox D) L6 H6 (wipe σ4 own1) (wipeE own1 ρ6) := E6.wipe fun i hi => noLx m26 i (sub i hi)
    let Iv1 : Nat → Hp → Prop := fun j1 H7 => ∃ L7 ρ7 acc xs, EnOk K (plusA Ox D) L7 H7 (wipe σ4 own1) ρ7 ∧ H7 D = some (.lst xs) ∧ RepL K (Ow (plusA Ox D) L7) H7 acc xs ∧
      inP own1 (tgP g1) (fun ρ2 K => ex F C e ρ2 fun r ρ3 => valR ρ3 K r) (es.drop j1) acc ρ7 (fun acc ρ3 => watchOk w ρ0 ρ3 ∧ comp2P w ρ0 own own1 (tgP g) (fun ρ2 K => itm F C it1 ρ2 K) (tgP g1) (fun ρ2 K => ex F C e ρ2 fun r ρ3 => valR ρ3 K r) (ds.drop (j + 1)) acc (wipeE own ρ3) fun acc ρ4 => R (.fr (.lst acc)) (openE w ρ1 (backE own ρ1 ρ4))) ∧
      Mv ρ0 L1 ρ7 L7 ∧ Stp L1 H1 H7 ∧ Ext (Ow Ox L1) H1 (Ow (plusA Ox D) L7) H7 ∧ Ext (Ow (plusA Ox D) L6) H6 (Ow (plusA Ox D) L7) H7
    refine ⟨fun j1 k1 H7 => k1 = es.length - j1 ∧ j1 ≤ es.length ∧ Iv1 j1 H7, ⟨es.length, by omega, Nat.zero_le _, L6, wipeE own1 ρ6, acc, xs, Ew6, hD6, RepL.ext x6 acc rp, by rw [List.drop_zero]; exact hc6, mvw sub m26, s26, x2.trans x6, .refl⟩, ?_⟩
    rintro j1 k1 H7 ⟨rfl, hj1, L7, ρ7, acc7, xs7, E7, hD7, rp7, hc7, m7, s7, x7, y7⟩
    obtain ⟨goes1, stops1, yields1⟩ := src1 _ _ _ _ _ ⟨E7, y7, fun i e => nomatch e⟩
    by_cases hlt1 : j1 < es.length
    · refine .inr ⟨goes1 j1 hlt1, Iv1 (j1 + 1), fun H8 iv => ⟨es.length - (j1 + 1), by omega, rfl, hlt1, iv⟩, fun x1 H8 y1 => ?_⟩
      obtain ⟨sm8, rx8⟩ := yields1 j1 x1 H8 es[j1] (List.getElem?_eq_getElem hlt1) y1
      rw [List.drop_eq_getElem_cons hlt1] at hc7
      simp only [inP] at hc7
      have E8 := E7.same sm8
      refine ⟨plusA Ox D, L7, ρ7, es[j1], _, E8, rx8, hc7, fun σ9 ρ9 hc9 E9 m9 t9 => ?_⟩
      have tch1 := t9 hg1
      have w9 : wipe σ9 own1 = wipe σ4 own1 := (wipe_eq tch1.l tch1.s).trans wipe_wipe
      refine ⟨w9, plusA Ox D, L7, ρ9, fun b ρ => b = true ∧ ρ = ρ9, E9, by simp only [tsts, and_self], fun b ρa La Ha hba ma sa Ea => ?_⟩
      obtain ⟨rfl, rfl⟩ := hba
      refine iteT ?_
      refine ⟨plusA Ox D, La, ρa, _, Ea, hc9, fun r ρb Lb y Hb hcb mb sb ob => ?_⟩
      obtain ⟨d, ⟨hl, hcc⟩, ry⟩ := valR_rep ⟨La, ρa, Ea, mb⟩ ob hcb
      have Eb := ob.en
      have mab : Mv ρ0 L1 ρb Lb := ((m7.trans m9).trans ma).trans mb
      have hD8 : H8 D = some (.lst xs7) := sm8 D _ hD7
      have hDa : Ha D = some (.lst xs7) := sa.st D _ (dO E9) hD8
      have hDb : Hb D = some (.lst xs7) := sb.st D _ (dO Ea) hDa
      have x8 : Ext (Ow (plusA Ox D) L7) H7 (Ow (plusA Ox D) L7) H8 := (Stp.same (L := L7) sm8).ext
      have xb : Ext (Ow (plusA Ox D) L7) H7 (Ow (plusA Ox D) Lb) Hb := (x8.trans (sa.extM ma)).trans (sb.extM mb)
      have sb1 : Stp L1 H1 Hb := ((s7.trans m7 (Stp.same sm8)).trans (m7.trans m9) sa).trans ((m7.trans m9).trans ma) sb
      have rpb := RepL.ext xb acc7 rp7
      obtain ⟨Ec, xc⟩ := Eb.updO (D := D) (o := .lst (xs7 ++ [y])) (.inr rfl)
      have Ew := Ec.wipe (own := own1) fun i hi => noLx mab i (sub i hi)
      rw [w9] at Ew
      have sc : Stp L1 H1 (upd Hb D (.lst (xs7 ++ [y]))) := by
        refine ⟨fun b o n q => ?_, fun b n q => ?_⟩
        · have ne : b ≠ D := fun z => by
            rw [z, nD] at q
            cases q
          rw [upd_ne ne]
          exact sb1.st b o n q
        · by_cases e : b = D
          · rw [e, upd_same] at q
            cases q
          · rw [upd_ne e] at q
            exact sb1.tk b n q
      refine ⟨xs7, hDb, by rw [← rp7.len]; exact hl, Lb, wipeE own1 ρb, acc7 ++ [d], xs7 ++ [y], Ew, upd_same, ?_, hcc, mvw sub mab, sc, (x7.trans xb).trans xc, (y7.trans xb).trans xc⟩
      exact (RepL.ext xc acc7 rpb).append (RepL.cons (Rep.ext xc d ry) RepL.nil)
    · have e : j1 = es.length := by omega
      subst e
      rw [List.drop_length] at hc7
      simp only [inP] at hc7
      obtain ⟨hwo, hc8⟩ := hc7
      have Ew := E7.wipe (own := own) (noLx m7)
      have e4 : wipe (wipe σ4 own1) own = wipe σ own := (wipe_eq (wipe_length σ4 own1) fun i h => wipe_out fun z => h (sub i z)).trans w4
      rw [e4] at Ew
      exact .inl ⟨stops1, L7, wipeE own ρ7, acc7, xs7, Ew, hD7, rp7, hc8, mvw (fun _ z => z) m7, s7, x7, hww hwo⟩
  · have e : j = ds.length := by omega
    subst e
    exact .inl ⟨stops, fin iv⟩
end
end DL

namespace DL
open PySem PySem.Spec PyProof.Rows L2

section
variable {K : Fg} {Ox : AS} {L L' : LA} {H H' : Hp} {σ : Sg} {ρ ρ' : En}
def lessL (L : LA) (i : Nat) : LA := fun j => if j = i then none else L j
/-- a list of one's own becomes data -/
theorem EnOk.freeze (E : EnOk K Ox L H σ ρ) {i : Nat} {d : D} (h : ρ[i]? = some (.ow d)) :
    EnOk K Ox (lessL L i) H σ (ρ.set i (.va d)) ∧ Mv ρ L (ρ.set i (.va d)) (lessL L i) ∧ ∃ v, σ[i]? = some (some v) ∧ Rep K (Ow Ox (lessL L i)) H d v := by
  obtain ⟨a, e1, e2, ds, xs, rfl, e4, r⟩ := E.ow i d (.inl h)
  have le : ∀ j b, lessL L i j = some b → L j = some b := fun j b z => by
    unfold lessL at z
    split at z
    · cases z
    · exact z
  have x : Ext (Ow Ox L) H (Ow Ox (lessL L i)) H := ext_less fun b z => z.elim .inl fun ⟨j, q⟩ => .inr ⟨j, le j b q⟩
  have li := lt_of_get h
  have rp : Rep K (Ow Ox (lessL L i)) H (.lst ds) (.ref a) := by
    refine ⟨a, xs, rfl, ⟨fun z => ?_, e4⟩, RepL.ext x ds r⟩
    rcases z with z | ⟨j, z⟩
    · exact E.dis i a e1 z
    · have ej := E.nd i j a e1 (le j a z)
      unfold lessL at z
      rw [if_pos ej.symm] at z
      cases z
  refine ⟨⟨by simp [E.len], fun j k b h1 h2 => E.nd j k b (le j b h1) (le k b h2), E.ext, fun j b h1 => E.dis j b (le j b h1), fun j e q => ?_, fun j e q => ?_, fun j b q => ?_⟩, ⟨le, fun j e q => ?_⟩, .ref a, e2, rp⟩
  · rcases get_set q with ⟨rfl, z⟩ | ⟨z, q⟩
    · cases z
      exact ⟨.ref a, e2, rp⟩
    · obtain ⟨v, e3, r3⟩ := E.va j e q
      exact ⟨v, e3, Rep.ext x e r3⟩
  · have q' : i ≠ j ∧ (ρ[j]? = some (.ow e) ∨ ρ[j]? = some (.mu e)) := by
      rcases q with q | q
      · rcases get_set q with ⟨_, z⟩ | ⟨z, q⟩
        · cases z
        · exact ⟨z, .inl q⟩
      · rcases get_set q with ⟨_, z⟩ | ⟨z, q⟩
        · cases z
        · exact ⟨z, .inr q⟩
    obtain ⟨b, e3, e5, r3⟩ := E.ow j e q'.2
    exact ⟨b, by unfold lessL; rw [if_neg (Ne.symm q'.1)]; exact e3, e5, r3.ext x rfl⟩
  · have ne : i ≠ j := fun z => by
      subst z
      unfold lessL at q
      rw [if_pos rfl] at q
      cases q
    obtain ⟨e, z⟩ := E.li j b (le j b q)
    refine ⟨e, ?_⟩
    rw [List.getElem?_set_ne ne]
    exact z
  · have ne : i ≠ j := fun z => by
      subst z
      rw [h] at q
      cases q
    refine ⟨by unfold lessL; rw [if_neg (Ne.symm ne)], e, ?_⟩
    rw [List.getElem?_set_ne ne]
    exact q
theorem tru_of {O : AS} {d : D} {v : V} {k : Bool} (h : VRep K O H d v) (e : truD d = some k) : TruV K v H k := by
  cases d with
  | non => obtain rfl := h.non; cases e; exact rfl
  | bl b => obtain rfl := h.bl; cases e; exact rfl
  | int i => obtain rfl := h.int; cases e; exact rfl
  | str s => cases e
  | tup ds =>
    obtain ⟨a, xs, rfl, hx, r, _⟩ := h.tup
    cases e
    exact .inr (.inl ⟨xs, hx, by have := r.len; cases ds <;> cases xs <;> simp_all⟩)
  | lst ds =>
    obtain ⟨a, xs, rfl, hx, r⟩ := h.lst
    cases e
    exact .inl ⟨xs, SqL.of hx, by have := r.len; cases ds <;> cases xs <;> simp_all⟩
  | scr ds =>
    obtain ⟨a, xs, rfl, hx, r⟩ := h.scr
    cases e
    exact .inl ⟨xs, hx, by have := r.len; cases ds <;> cases xs <;> simp_all⟩
  | obj _ _ _ => cases e
  | raw _ => cases e
  | dct _ _ => cases e
end

/-! classes -/
def Cn.ty : Cn → String
  | .int => "int" | .bool => "bool" | .str => "str" | .list => "list" | .tuple => "tuple" | .dict => "dict"
def Kd.ty : Kd → String
  | .non => "NoneType" | .bl => "bool" | .int => "int" | .str => "str" | .tup => "tuple" | .lst => "list" | .dct => "dict" | .oth => "NoneType"
def D.ty (d : D) : String := d.kd.ty
theorem kit_k (a : Kd) (k : Cn) : kitB a.ty k.ty = some (isK a k) := by
  cases a <;> cases k <;> decide +kernel
theorem kit_d (K : Fg) (d : D) (k : Cn) : PySem.W.kitOne K (.type d.ty) (.type k.ty) = some (isD d k) := kit_ty (kit_k d.kd k)
theorem boot_cn (k : Cn) : bootBuiltins k.name = some (.type k.ty) := by
  cases k <;> decide +kernel
theorem cn_plain (k : Cn) : k.name ≠ ("__name__" : Str) := by
  cases k <;> decide
theorem tyx_of {K : Fg} {O : AS} {H : Hp} {d : D} {v : V} (n : d.std = true) (h : VRep K O H d v) : TyX K H v (.type d.ty) := by
  cases d with
  | obj _ _ _ => cases n
  | raw _ => cases n
  | dct ks ds => obtain ⟨a, xs, rfl, hx, _⟩ := h.dct; exact .base (.dK hx)
  | non => obtain rfl := h.non; exact .base .non
  | bl b => obtain rfl := h.bl; exact .base (.bl b)
  | int i => obtain rfl := h.int; exact .base (.int i)
  | str s => obtain rfl := h.str; exact .base (.str s)
  | tup ds =>
    obtain ⟨a, xs, rfl, hx, _, _⟩ := h.tup
    rcases hx with (hx | ⟨o, hx⟩) | ⟨o, its, n, e, c, _⟩
    · exact .base (.tup hx)
    · exact .fTuple hx
    · exact .kTuple e c
  | lst ds =>
    obtain ⟨a, xs, rfl, hx, _⟩ := h.lst
    exact .base (.lst hx)
  | scr ds =>
    obtain ⟨a, xs, rfl, hx, _⟩ := h.scr
    rcases hx with (hx | ⟨o, hx⟩) | ⟨o, its, n, e, c, _⟩
    · exact .base (.lst hx)
    · exact .base (.frz hx)
    · exact .kList e c
theorem tyx_same {K : Fg} {H : Hp} {v : V} {d : D} {O : AS} {p : Addr} {o : HO} (n : H p = none) (sd : d.std = true) (h : VRep K O H d v) : TyX K (upd H p o) v (.type d.ty) := by
  have s := same_new (o := o) n
  refine tyx_of (O := fun _ => False) (d := d) sd ?_
  rcases h with h | ⟨a, e, ds, xs, e2, e3, r⟩
  · exact .inl (Rep.ext (fun b ob nb q => ⟨id, s b ob q⟩) d h)
  · exact .inr ⟨a, e, ds, xs, e2, s _ _ e3, RepL.ext (fun b ob nb q => ⟨id, s b ob q⟩) ds r⟩
theorem kit_any (K : Fg) (d : D) : ∀ cs : List Cn, PySem.W.kitAny K (.type d.ty) (cs.map fun k => .type k.ty) = some (cs.any (isD d))
  | [] => rfl
  | k :: cs => by
    rw [List.map_cons, List.any_cons]
    refine kitAny_cons (kit_d K d k) (fun e => ?_) (fun e => ?_)
    · rw [kit_any K d cs, e]
      rfl
    · rw [e]
      rfl

section
variable {X : Cx} {c : Mc} {F : List Fe} {C : List D}
theorem cls_pa (o : XOk X c F C) : ∀ {cs : List Cn} {es : List Expr}, clsNames c cs es = true → PA X es (fun _ H Q => Q (cs.map fun k => V.ty k.ty) H) ∧ es.all noStar = true
  | [], [], _ => ⟨pa_nil, rfl⟩
  | [], _ :: _, h => by simp [clsNames] at h
  | _ :: _, [], h => by simp [clsNames] at h
  | k :: cs, e :: es, h => by
    cases e with
    | Name x p =>
      simp only [clsNames] at h
      obtain ⟨h1, h2⟩ := and3 h
      obtain ⟨h0, h1⟩ := and3 h1
      obtain rfl : x = k.name := of_decide_eq_true h0
      obtain ⟨gl, hd, hm⟩ := bt_of o h1
      obtain ⟨pa, st⟩ := cls_pa o h2
      refine ⟨pa_imp (pa_cons (pe_bltn (v := V.ty k.ty) gl hm (boot_cn k) rfl (cn_plain k) hd) pa) fun σ H Q q => q, by rw [List.all_cons, st]; rfl⟩
    | _ => simp [clsNames] at h
theorem plain_true {x : Expr} (h : (match x with | .UnaryOp .Not _ _ => false | .BoolOp _ _ _ => false | .IfExp _ _ _ _ => false | .Compare _ _ _ _ => false | _ => true) = true) (env : Env) :
    ∀ whole, isTrue x env whole = (do let v ← whole; standAt x.pos; holding [v] (truthy v)) := by
  intro whole
  cases x with
  | UnaryOp o a p => cases o <;> first | rfl | cases h
  | BoolOp _ _ _ => cases h
  | IfExp _ _ _ _ => cases h
  | Compare _ _ _ _ => cases h
  | _ => rfl
end
end DL

namespace DL
open PySem PySem.Spec PyProof.Rows L2

section
variable {X : Cx} {c : Mc} {F : List Fe} {C : List D}
theorem bi_boot (b : Bi) : bootBuiltins b.name = some b.val := by
  cases b <;> decide +kernel
theorem bi_plain (b : Bi) : b.name ≠ ("__name__" : Str) := by
  cases b <;> decide
theorem mats_star : ∀ {es : Exs} {xs : List Expr}, mats es c xs = true → xs.all noStar = true
  | .nil, [], _ => rfl
  | .nil, _ :: _, h => by simp [mats] at h
  | .cons _ _, [], h => by simp [mats] at h
  | .cons e es, x :: xs, h => by
    simp only [mats] at h
    have h1 := and3 h
    have h2 := and3 h1.1
    rw [List.all_cons, h2.1, mats_star h1.2]
    rfl
theorem kw_facts {env : Env} {pos : Pos} : ∀ {kws : List Keyword} {ks : List Str}, kwNames kws ks = true →
    (backToKw pos (keywordEach kws env)).all (·.1.isSome) = true ∧ (backToKw pos (keywordEach kws env)).filterMap (·.1) = ks ∧ (backToKw pos (keywordEach kws env)).any (·.1.isNone) = false
  | [], [], _ => ⟨rfl, rfl, rfl⟩
  | [], _ :: _, h => by simp [kwNames] at h
  | ⟨none, _, _⟩ :: _, _, h => by simp [kwNames] at h
  | ⟨some _, _, _⟩ :: _, [], h => by simp [kwNames] at h
  | ⟨some x, e, p⟩ :: r, y :: ys, h => by
    simp only [kwNames] at h
    have h1 := and3 h
    obtain rfl : x = y := of_decide_eq_true h1.1
    obtain ⟨a, b, d⟩ := kw_facts (env := env) (pos := pos) h1.2
    have e0 : backToKw pos (keywordEach (⟨some x, e, p⟩ :: r) env) = (some x, do let v ← eval e env; standAt pos; pure v) :: backToKw pos (keywordEach r env) := rfl
    rw [e0]
    refine ⟨by rw [List.all_cons, a]; rfl, ?_, by rw [List.any_cons, d]; rfl⟩
    rw [List.filterMap_cons]
    simp [b]
/-- a test from a value -/
theorem pt_of {x : Expr} {f : Fx} (he : PE X x (tR X.K f)) (h : ∀ whole, isTrue x X.env whole = (do let v ← whole; standAt x.pos; holding [v] (truthy v))) : PT X x (tTv X.K f) := by
  refine pt_imp (pt_truth he h) ?_
  rintro σ H Q ⟨Ox, L, ρ, R, E, h, k⟩
  refine ⟨Ox, L, ρ, _, E, h, fun r ρ1 L1 v H1 q m s o1 => ?_⟩
  obtain ⟨d, b, e1, e2, q⟩ := k r ρ1 L1 v H1 q m s o1
  exact ⟨b, tru_of (o1.en.vrep (o1.av E m) e1) e2, q⟩
/-- as a test's words are said -/
theorem pt_tst {x : Expr} {e : Ex} (h : PT X x (tTv X.K (ex F C e))) : PT X x (tTs X.K (tst F C e)) := by
  refine pt_imp h ?_
  rintro σ H Q ⟨Ox, L, ρ, R, E, h, k⟩
  exact ⟨Ox, L, ρ, _, E, h, fun r ρ1 L1 v H1 ⟨d, b, e1, e2, q⟩ m s o1 => ⟨d, b, e1, e2, k b ρ1 L1 H1 q m s o1.en⟩⟩
theorem cmpP_bl {op : CmpOp} {d e : D} {R : RK} (h : cmpP op d e R) : cmpP op d e fun r => R r ∧ ∃ b, r = .va (.bl b) := by
  unfold cmpP at h ⊢
  split at h
  · exact ⟨h, _, rfl⟩
  · exact ⟨h, _, rfl⟩
  · exact ⟨h.1, h.2.1, h.2.2, _, rfl⟩
  · exact ⟨h.1, h.2.1, h.2.2, _, rfl⟩
  · exact ⟨h, _, rfl⟩
  · exact ⟨h, _, rfl⟩
  · exact ⟨h, _, rfl⟩
  · exact ⟨h, _, rfl⟩
  · exact ⟨h, _, rfl⟩
  · exact ⟨h, _, rfl⟩
  · exact ⟨h, _, rfl⟩
  · exact ⟨h, _, rfl⟩
  · exact ⟨h.1, h.2.1, h.2.2, _, rfl⟩
  · exact ⟨h.1, h.2.1, h.2.2, _, rfl⟩
  · obtain ⟨v, vs, e1, e2, h⟩ := h
    exact ⟨v, vs, e1, e2, h, _, rfl⟩
  · obtain ⟨v, vs, e1, e2, h⟩ := h
    exact ⟨v, vs, e1, e2, h, _, rfl⟩
  · exact h.elim

theorem itm_data {σ : Sg} {H0 H1 : Hp} {Ox : AS} {L L1 : LA} {ρ ρ1 : En} {r : Rv} {v : V} {d : D} {ds : List D} {J : Prop} (E : EnOk X.K Ox L H0 σ ρ) (m : Mv ρ L ρ1 L1) (o1 : RvOk X.K Ox L1 H0 H1 σ ρ1 v r) (e1 : vwA ρ1 r.av = some d) (e2 : itemsD d = some ds) :
    ∃ a, v = .ref a ∧ (((∃ xs, SqL X.K H1 a xs) ∧ SrcOk X.K Ox L1 ρ1 H1 (r.watch ρ1) (Itl X.K a) ds ∧ SrcOk X.K Ox L1 ρ1 H1 (r.watch ρ1) (Ite X.K a) (enumD 0 ds) ∧ (d = .lst ds ∨ d = .scr ds)) ∨
      ((∃ xs, SqT X.K H1 a xs) ∧ SrcOk X.K Ox L1 ρ1 H1 (r.watch ρ1) (Itt X.K a) ds ∧ SrcOk X.K Ox L1 ρ1 H1 (r.watch ρ1) (IteT X.K a) (enumD 0 ds) ∧ d = .tup ds)) := by
  have vr := o1.en.vrep (o1.av E m) e1
  have pr := per_of E m o1 e1
  cases d with
  | lst ds' =>
    cases e2
    obtain ⟨a, xs, rfl, hx, _⟩ := vr.lst
    exact ⟨a, rfl, .inl ⟨⟨xs, SqL.of hx⟩, src_list pr, src_enumL pr (.inl rfl), .inl rfl⟩⟩
  | scr ds' =>
    cases e2
    obtain ⟨a, xs, rfl, hx, _⟩ := vr.scr
    exact ⟨a, rfl, .inl ⟨⟨xs, hx⟩, src_scr pr, src_enumL pr (.inr rfl), .inr rfl⟩⟩
  | tup ds' =>
    cases e2
    obtain ⟨a, xs, rfl, hx, _, _⟩ := vr.tup
    exact ⟨a, rfl, .inr ⟨⟨xs, hx⟩, src_tup pr, src_enumT pr, rfl⟩⟩
  | _ => cases e2
end

theorem per_av {K : Fg} {Ox : AS} {L : LA} {H : Hp} {σ : Sg} {ρ : En} {r : Rv} {v : V} {d : D} (E : EnOk K Ox L H σ ρ) (av : AvOk K Ox L H σ v r.av) (e : vwA ρ r.av = some d) (g : r.watch ρ = none) : Per K Ox L ρ H none d v := by
  cases r with
  | va d' =>
    cases e
    exact per_data av
  | fr d' =>
    cases e
    exact per_data av
  | vw i =>
    simp only [Rv.watch] at g
    split at g
    · rename_i q
      refine per_data (E.drep (a := .ref i) av ?_)
      have e : vwA ρ (.ref i) = some d := e
      simp only [vwA] at e
      simp only [datA]
      rw [q] at e ⊢
      exact e
    · cases g
theorem seqD_in {d : D} {ds : List D} (h : seqD d = some ds) : d = .lst ds ∨ d = .scr ds := by
  cases d with
  | lst _ => cases h; exact .inl rfl
  | scr _ => cases h; exact .inr rfl
  | _ => cases h
theorem pairs_in {d e : D} {ps : List D} (h : pairsD d e = some ps) : (∃ ds es, (d = .lst ds ∨ d = .scr ds) ∧ (e = .lst es ∨ e = .scr es) ∧ ps = zipD ds es) ∨ ∃ ds es, d = .tup ds ∧ e = .tup es ∧ ps = zipD ds es := by
  unfold pairsD at h
  split at h
  · cases h
    exact .inr ⟨_, _, rfl, rfl, rfl⟩
  · split at h
    · rename_i e1 e2
      cases h
      exact .inl ⟨_, _, seqD_in e1, seqD_in e2, rfl⟩
    · cases h
theorem sq_in {K : Fg} {O : AS} {H : Hp} {d : D} {ds : List D} {v : V} (h : VRep K O H d v) (e : d = .lst ds ∨ d = .scr ds) : ∃ a xs, v = .ref a ∧ SqL K H a xs := by
  rcases e with rfl | rfl
  · obtain ⟨a, xs, rfl, hx, _⟩ := h.lst
    exact ⟨a, xs, rfl, SqL.of hx⟩
  · obtain ⟨a, xs, rfl, hx, _⟩ := h.scr
    exact ⟨a, xs, rfl, hx⟩

theorem xok_blk {X : Cx} {c : Mc} {F : List Fe} {C : List D} (o : XOk X c F C) (s : Shared) (H : Hp) (scope : Scope) (cl : List (Str × Addr)) (A : Addr) (fp : List Addr) :
    XOk (X.blk s H scope (compEnvC scope cl A X.env) fp) { c with sc := relS scope c.sc, fn := fun x => scope.names.lookup x == some .cell } F C := by
  refine ⟨o.calm, o.nd, o.gd, o.un, o.N, ?_, rfl, o.bs, o.fl, fun i fe x h1 h2 => ?_, o.cs, o.gs, o.sb⟩
  · show relS scope X.env.scope = _
    rw [o.sc]
  · obtain ⟨f, fd, ps, k, G⟩ := (o.fs i fe x h1 h2).ex
    exact ⟨f, fd, ps, k, G⟩
end DL

namespace DL
open PySem PySem.Spec PyProof.Rows L2

/-! len(set(xs)) of a list or a tuple of ints, doubles too -/
theorem pig : ∀ (ks ns : List Int), ks.Nodup → (∀ k ∈ ks, k ∈ ns) → ks.length ≤ ns.length
  | [], _, _, _ => Nat.zero_le _
  | k :: ks, ns, nd, h => by
    rw [List.nodup_cons] at nd
    have hk := h k List.mem_cons_self
    have := pig ks (ns.erase k) nd.2 fun y hy => (List.mem_erase_of_ne (fun e => nd.1 (by rw [← e]; exact hy))).mpr (h y (List.mem_cons_of_mem _ hy))
    rw [List.length_erase_of_mem hk] at this
    have hp : 0 < ns.length := List.length_pos_of_mem hk
    rw [List.length_cons]
    omega
theorem nodup_full : ∀ (ns ks : List Int), ks.Nodup → (∀ k ∈ ks, k ∈ ns) → ks.length = ns.length → ns.Nodup
  | [], _, _, _, _ => List.nodup_nil
  | x :: r, ks, nd, h, l => by
    have nx : x ∉ r := fun hx => by
      have := pig ks r nd fun k hk => by
        rcases List.mem_cons.mp (h k hk) with rfl | h1
        · exact hx
        · exact h1
      rw [List.length_cons] at l
      omega
    rw [List.nodup_cons]
    refine ⟨nx, ?_⟩
    by_cases hk : x ∈ ks
    · refine nodup_full r (ks.erase x) (nd.erase x) (fun k h1 => ?_) (by rw [List.length_erase_of_mem hk, l, List.length_cons]; rfl)
      have h2 := (List.Nodup.mem_erase_iff nd).mp h1
      rcases List.mem_cons.mp (h k h2.2) with e | h3
      · exact absurd e h2.1
      · exact h3
    · exfalso
      have := pig ks r nd fun k h1 => by
        rcases List.mem_cons.mp (h k h1) with rfl | h3
        · exact absurd h1 hk
        · exact h3
      rw [List.length_cons] at l
      omega
theorem count_of {ks ns : List Int} (nd : ks.Nodup) (h : ∀ k, k ∈ ks ↔ k ∈ ns) : ks.length ≤ ns.length ∧ (ks.length = ns.length ↔ ns.Nodup) :=
  ⟨pig ks ns nd fun k hk => (h k).mp hk, fun l => nodup_full ns ks nd (fun k hk => (h k).mp hk) l, fun d =>
    Nat.le_antisymm (pig ks ns nd fun k hk => (h k).mp hk) (pig ns ks d fun k hk => (h k).mpr hk)⟩
theorem first_nodup (val : Nat → Int) : ∀ i, (firstMet val i).Nodup
  | 0 => List.nodup_nil
  | i + 1 => by
    rw [firstMet_succ]
    unfold step_dedup
    have ih := first_nodup val i
    split
    · exact ih
    · rename_i n
      rw [List.nodup_append]
      refine ⟨ih, by simp, fun a ha b hb e => n ?_⟩
      rw [List.mem_singleton.mp hb] at e
      exact List.any_eq_true.mpr ⟨a, ha, by rw [e]; exact beq_self_eq_true _⟩
theorem getD_all (ns : List Int) : (List.range ns.length).map (fun i => ns.getD i 0) = ns := by
  refine List.ext_getElem (by simp) fun i h1 h2 => ?_
  simp [List.getElem?_eq_getElem h2]
theorem firstMet_in (ns : List Int) (k : Int) : k ∈ firstMet (fun i => ns.getD i 0) ns.length ↔ k ∈ ns := by
  have := firstMet_any (fun i => ns.getD i 0) ns.length k
  rw [getD_all] at this
  have f : ∀ l : List Int, k ∈ l ↔ l.any (· == k) = true := fun l => by simp
  rw [f, f, this]
def tLenSetD (K : PySem.W.Frag) (ta : TE) : TE := fun σ H Q => ta σ H fun x H1 => ∃ (l : Addr) (ns : List Int), x = .ref l ∧ (SqL K H1 l (ns.map V.int) ∨ SqT K H1 l (ns.map V.int)) ∧ ns.length ≤ 4000 ∧
  ∀ k : Nat, k ≤ ns.length → (k = ns.length ↔ ns.Nodup) → Q (.int (k : Nat)) H1
theorem pe_lenSetD {X : Cx} {a : Expr} {ta : TE} {p p2 q pos : Pos} (hg : Gl X "len") (hm : X.mg "len" = none) (hg2 : Gl X "set") (hm2 : X.mg "set" = none) (ha : PE X a ta) (hc : X.calm = true)
    (na : starEach [a] X.env = (false, eval a X.env) :: starEach [] X.env) : PE X (.Call (.Name "len" p) [.Call (.Name "set" p2) [a] [] q] [] pos) (tLenSetD X.K ta) := by
  refine ⟨fun pins s σ H Q I h => ?_⟩
  refine Call_ (ld_blt I hg hm boot_len ?_)
  refine PyProof.Rows.callWith_builtin1 (PyProof.Rows.args_cons ?_ rfl) rfl rfl
  refine Call_ (ld_blt I hg2 hm2 boot_set ?_)
  refine PyProof.Rows.callWith_type1 (PyProof.Rows.args_cons (thn (ha.run pins s σ H _ I h) fun v s1 ⟨x, H1, I1, r1, q1⟩ => PyProof.Rows.args_nil ?_) na) na rfl
  obtain ⟨l, ns, rfl, hq, hl, q1⟩ := q1
  cases r1
  rcases hq with hq | hq
  · obtain ⟨its, r, pl, hz⟩ := I1.list hq
    have hlen : its.toArray.size = ns.length := by rw [List.size_toArray, ← r.length, List.length_map]
    refine call_set_list (ns := ns) (I1.ok.hd hc) pl.isList (by simpa using RZ.intsAre_vals r) (by rw [hlen]; unfold scanBound; omega) fun h' tk hS hk => ?_
    refine PyProof.Rows.args_nil ?_
    rw [hlen] at hS
    obtain ⟨o, es, ep, t, ho, hex, hd, _, _, _, hf, hn⟩ := hS
    have I2 : Inv X pins σ H1 { s1 with heap := h', toks := tk } := I1.kept fun b o e => hk b o (Heap.lt_size e) e
    obtain ⟨c1, c2⟩ := count_of (first_nodup (fun i => ns.getD i 0) ns.length) (firstMet_in ns)
    rw [← hn] at c1 c2
    exact call_len_set ho hex hd hf (by omega) ⟨.int es.size, H1, I2.tok _, ⟨_, rfl⟩, q1 es.size c1 c2⟩
  · obtain ⟨its, r, pl, hz⟩ := I1.tuple hq
    refine call_set_tupI ns (I1.ok.hd hc) (show s1.heap.IsTuple l its.toArray from pl) (by simpa using RZ.intsAre_vals r) (by unfold scanBound; omega) fun h' tk c R hcn hk => ?_
    refine PyProof.Rows.args_nil ?_
    obtain ⟨o, es, ep, t, ho, hex, hd, g, nd, hmm, hbz, hf, hn, _⟩ := R
    have I2 : Inv X pins σ H1 { s1 with heap := h', toks := tk } := I1.kept fun b o e => hk b o e
    obtain ⟨c1, c2⟩ := count_of nd fun k => (hmm k).symm.trans ⟨fun e => of_decide_eq_true e, fun e => decide_eq_true e⟩
    rw [List.length_map, Array.length_toList] at c1 c2
    exact call_len_set ho hex hd hf (by omega) ⟨.int es.size, H1, I2.tok _, ⟨_, rfl⟩, q1 es.size c1 c2⟩
end DL

namespace DL
open PySem PySem.Spec PyProof.Rows L2

/-- an own list is written -/
theorem EnOk.write0 {K : Fg} {Ox : AS} {L : LA} {H : Hp} {σ : Sg} {ρ : En} (E : EnOk K Ox L H σ ρ) {i : Nat} {a : Addr} {d d' : D} {s' : Sl} {xs : List V} {ds : List D} (h : (ρ[i]? = some (.ow d) ∧ s' = .ow d') ∨ (ρ[i]? = some (.mu d) ∧ s' = .mu d')) (e : L i = some a) (hd : d' = .lst ds)
    (r : RepL K (Ow Ox L) H ds xs) : EnOk K Ox L (upd H a (.lst xs)) σ (ρ.set i s') ∧ Mv ρ L (ρ.set i s') L ∧ Stp L H (upd H a (.lst xs)) := by
  subst hd
  have li : i < ρ.length := by
    rcases h with h | h <;> exact lt_of_get h.1
  have x : Ext (Ow Ox L) H (Ow Ox L) (upd H a (.lst xs)) := fun b ob n q => ⟨n, by
    rw [upd_ne (show b ≠ a from fun z => n (by rw [z]; exact .inr ⟨i, e⟩))]
    exact q⟩
  have sg : σ[i]? = some (some (.ref a)) := by
    rcases h with h | h
    · obtain ⟨b, e1, e2, _⟩ := E.ow i d (.inl h.1)
      rw [e] at e1
      cases e1
      exact e2
    · obtain ⟨b, e1, e2, _⟩ := E.ow i d (.inr h.1)
      rw [e] at e1
      cases e1
      exact e2
  have tk : ∀ b, H b ≠ none → upd H a (.lst xs) b ≠ none := fun b n => by
    by_cases z : b = a
    · rw [z, upd_same]
      exact nofun
    · rw [upd_ne z]
      exact n
  refine ⟨⟨by simp [E.len], E.nd, fun b z => tk b (E.ext b z), E.dis, fun j f q => ?_, fun j f q => ?_, fun j b q => ?_⟩, ⟨fun _ _ z => z, fun j f q => ⟨rfl, ?_⟩⟩, fun b o n q => (upd_ne (show b ≠ a from fun z => n i (by rw [z]; exact e))).trans q, tk⟩
  · rcases get_set q with ⟨_, z⟩ | ⟨z, q⟩
    · rcases h with h | h <;> (rw [h.2] at z; cases z)
    · obtain ⟨v, e3, r3⟩ := E.va j f q
      exact ⟨v, e3, Rep.ext x f r3⟩
  · by_cases hij : i = j
    · subst hij
      have : f = .lst ds := by
        rw [List.getElem?_set_self li] at q
        rcases h with h | h <;> (rw [h.2] at q; rcases q with q | q <;> cases q <;> rfl)
      subst this
      exact ⟨a, e, sg, ds, xs, rfl, upd_same, RepL.ext x ds r⟩
    · rw [List.getElem?_set_ne hij] at q
      obtain ⟨b, e3, e5, r3⟩ := E.ow j f q
      have ne : b ≠ a := fun z => hij (E.nd i j a e (z ▸ e3))
      exact ⟨b, e3, e5, r3.ext x (by rw [upd_ne ne])⟩
  · by_cases hij : i = j
    · subst hij
      refine ⟨.lst ds, ?_⟩
      rw [List.getElem?_set_self li]
      rcases h with h | h <;> rw [h.2]
      · exact .inl rfl
      · exact .inr rfl
    · obtain ⟨f, q⟩ := E.li j b q
      refine ⟨f, ?_⟩
      rw [List.getElem?_set_ne hij]
      exact q
  · by_cases hij : i = j
    · subst hij
      rw [List.getElem?_set_self li]
      rcases h with h | h
      · rw [q] at h
        cases h.1
      · exact ⟨_, by rw [h.2]⟩
    · exact ⟨f, by rw [List.getElem?_set_ne hij]; exact q⟩

theorem hasL_sq {K : Fg} {Ox : AS} {L : LA} {ρ : En} {H : Hp} {σ : Sg} (E : EnOk K Ox L H σ ρ) {j : Nat} (h : hasL ρ j = true) : ∃ a, σ[j]? = some (some (.ref a)) ∧ ∃ xs, SqL K H a xs := by
  unfold hasL at h
  split at h
  · obtain ⟨a, _, e, ds, xs, _, hx, _⟩ := E.ow j _ (.inl (by assumption))
    exact ⟨a, e, xs, SqL.of hx⟩
  · obtain ⟨a, _, e, ds, xs, _, hx, _⟩ := E.ow j _ (.inr (by assumption))
    exact ⟨a, e, xs, SqL.of hx⟩
  · cases h
theorem rgV_rep {K : Fg} {O : AS} {H : Hp} (j : Int) : RepL K O H (rngD 0 j.toNat) (rgV 0 j) := by
  have e1 : rngD 0 j.toNat = ((List.range j.toNat).map fun i : Nat => (0 + (i : Int))).map D.int := by
    unfold rngD
    rw [List.map_map]
    rfl
  have e2 : rgV 0 j = ((List.range j.toNat).map fun i : Nat => (0 + (i : Int))).map V.int := by
    unfold rgV
    rw [Int.sub_zero, List.map_map]
    rfl
  rw [e1, e2]
  exact repL_ints _
section
variable {K : Fg} {Ox : AS} {L L' : LA} {H H' : Hp} {σ : Sg} {ρ ρ' : En}
/-- what a call leaves, the caller's way -/
theorem call_rv {vs : List V} {as : List Av} {ss outs : List Sl} {r : Rv} {v : V} (E : EnOk K Ox L H σ ρ) (hv : AvsOk K Ox L H σ vs as) (h : argS ρ as = some ss) (nd : (refsA as).Nodup)
    (st : Stp (LC L as) H H') (rv : RvOk K (OC Ox L as) (LC L as) H H' (vs.map some) outs v r) (nv : ∀ i, r ≠ .vw i) (hno : ∀ (k : Nat) d, outs[k]? ≠ some (.ow d)) :
    RvOk K Ox L H H' σ (updA ρ as outs) v r ∧ Mv ρ L (updA ρ as outs) L ∧ Stp L H H' := by
  have nlc : ∀ {b : Addr}, ¬ Ow Ox L b → ∀ k, LC L as k ≠ some b := fun n k z => by
    obtain ⟨i, _, q⟩ := lc_of z
    exact n (.inr ⟨i, q⟩)
  have stp : Stp L H H' := by
    refine ⟨fun b o n e => st.st b o (fun k z => ?_) e, st.tk⟩
    obtain ⟨i, _, q⟩ := lc_of z
    exact n i q
  have x0 : Ext (Ow Ox L) H (Ow Ox L) H' := fun b o n e => ⟨n, st.st b o (nlc n) e⟩
  cases r with
  | va d =>
    obtain ⟨E', rp⟩ := rv
    obtain ⟨e, m⟩ := call_back E hv h nd st E' hno (fun a => ow_call) x0 E.dis (fun a z => st.tk a (E.ext a z))
    exact ⟨⟨e, Rep.ext (ext_ow fun a => ow_call.symm) d rp⟩, m, stp⟩
  | fr d =>
    obtain ⟨a, ev, na, E', rp⟩ := rv
    have ho : ∀ b, Ow (plusA (OC Ox L as) a) (LC L as) b ↔ Ow (plusA Ox a) L b := fun b => by
      rw [ow_plus, ow_plus]
      unfold plusA
      rw [ow_call]
    have x1 : Ext (Ow Ox L) H (Ow (plusA Ox a) L) H' := fun b o n e => ⟨fun z => (by
      rcases ow_plus.mp z with z | z
      · exact n z
      · rw [z, na] at e
        cases e), (x0 b o n e).2⟩
    have na' : H' a ≠ none := by
      obtain ⟨_, xs, _, q, _⟩ := rp
      rw [q]
      exact nofun
    obtain ⟨e, m⟩ := call_back E hv h nd st E' hno ho x1 (fun i b z q => q.elim (E.dis i b z) fun q => by
      rw [q] at z
      exact E.trk (.inr ⟨i, z⟩) na) (fun b z => z.elim (fun z => st.tk b (E.ext b z)) fun z => z ▸ na')
    refine ⟨⟨a, ev, na, e, rp.ext (ext_ow fun b => ?_) rfl⟩, m, stp⟩
    unfold plusA
    rw [ow_call]
  | vw i => exact absurd rfl (nv i)
end

section
variable {X : Cx} {c : Mc} {F : List Fe} {C : List D}
theorem bl_of {K : Fg} {Ox : AS} {L : LA} {H H' : Hp} {σ : Sg} {ρ : En} {v : V} {b : Bool} (h : RvOk K Ox L H H' σ ρ v (.va (.bl b))) : v = .bl b := h.2
theorem int_of {K : Fg} {Ox : AS} {L : LA} {H H' : Hp} {σ : Sg} {ρ : En} {v : V} {b : Int} (h : RvOk K Ox L H H' σ ρ v (.va (.int b))) : v = .int b := h.2
theorem var_rd (o : XOk X c F C) {i : Nat} {σ : Sg} {H : Hp} {Q : VK} (h : tR X.K (ex F C (.var i)) σ H Q) : tVar i σ H Q := by
  obtain ⟨Ox, L, ρ, R, E, h, k⟩ := h
  simp only [ex] at h
  split at h
  · rename_i d q
    obtain ⟨v, e, r⟩ := E.va i d q
    exact ⟨v, e, k _ _ _ v H h .refl .refl ⟨E, r⟩⟩
  · rename_i d q
    obtain ⟨a, _, e, _⟩ := E.ow i d (.inl q)
    exact ⟨_, e, k _ _ _ _ H h .refl .refl ⟨E, e⟩⟩
  · rename_i d q
    obtain ⟨a, _, e, _⟩ := E.ow i d (.inr q)
    exact ⟨_, e, k _ _ _ _ H h .refl .refl ⟨E, e⟩⟩
  · exact h.elim
theorem frz_rd {i : Nat} {σ : Sg} {H : Hp} {Q : VK} (h : tR X.K (ex F C (.frz i)) σ H Q) : tVar i σ H Q := by
  obtain ⟨Ox, L, ρ, R, E, h, k⟩ := h
  simp only [ex] at h
  split at h
  · rename_i d q
    obtain ⟨v, e, r⟩ := E.va i d q
    exact ⟨v, e, k _ _ _ v H h .refl .refl ⟨E, r⟩⟩
  · rename_i d q
    obtain ⟨E', m, v, e, r⟩ := E.freeze q
    exact ⟨v, e, k _ _ _ v H h m .refl ⟨E', r⟩⟩
  · exact h.elim
theorem marks_of {o p : CmpOp} {b c : Expr} (h2 : notIn p = true) : lastMarks [o, p] [b, c] = false := by
  show behindInMarks p c = false
  refine nobehind c ?_ ?_
  · intro z
    subst z
    cases h2
  · intro z
    subst z
    cases h2
theorem own_map (c : Mc) (own : List Nat) : (ownN c own).map (·.2) = own := by
  unfold ownN
  rw [List.map_map]
  exact List.map_id _
theorem fold_pure {iter : Expr} {env : Env} (h : noSet iter = true) : ∀ x, foldedSetIterable iter env x = pure x := by
  intro x
  cases iter <;> first | rfl | cases h
theorem ix_plain {b : Expr} (h : plainIxB b = true) : PlainIx b := by
  intro o i
  cases b <;> first | rfl | cases h
theorem pt_if {a b t : Expr} {pos : Pos} {tt ta tb : TT} (ht : PT X t tt) (ha : PT X a ta) (hb : PT X b tb) : PT X (.IfExp t a b pos) (fun σ H Q => tt σ H fun k H1 => if k = true then ta σ H1 Q else tb σ H1 Q) := by
  refine ⟨fun pins s σ H Q I h => isTrue_IfExp (thn (ht.run pins s σ H _ I h) ?_)⟩
  rintro k s1 ⟨H1, I1, q⟩
  cases k with
  | true => exact ha.run pins s1 σ H1 Q I1 q
  | false => exact hb.run pins s1 σ H1 Q I1 q
/-- a call of a built-in function or class -/
theorem pe_bi {b : Bi} {x : Str} {p pos : Pos} {e : Expr} {es : List Expr} {r : List V → Hp → VK → Prop} {t : TA} (h : CallR X b.val r) (hx : x = b.name) (gl : Gl X x) (hm : X.mg x = none) (hd : (x == ("__debug__" : Str)) = false)
    (ha : PA X (e :: es) t) (hs : (e :: es).all noStar = true) : PE X (.Call (.Name x p) (e :: es) [] pos) (tCB r t) := by
  subst hx
  have hs' := hs
  rw [List.all_cons, Bool.and_eq_true] at hs'
  have hb := bi_boot b
  have hn := bi_plain b
  cases b with
  | len => exact pe_callB h gl hm hb ha hn hd (star_cons hs'.1) (star_any hs'.2)
  | abs => exact pe_callB h gl hm hb ha hn hd (star_cons hs'.1) (star_any hs'.2)
  | all => exact pe_callB h gl hm hb ha hn hd (star_cons hs'.1) (star_any hs'.2)
  | any => exact pe_callB h gl hm hb ha hn hd (star_cons hs'.1) (star_any hs'.2)
  | sum => exact pe_callB h gl hm hb ha hn hd (star_cons hs'.1) (star_any hs'.2)
  | repr => exact pe_callB h gl hm hb ha hn hd (star_cons hs'.1) (star_any hs'.2)
  | int => exact pe_callTy h gl hm hb ha hn hd (star_cons hs'.1) (star_any hs'.2)
  | tuple => exact pe_callTy h gl hm hb ha hn hd (star_cons hs'.1) (star_any hs'.2)
  | list => exact pe_callTy h gl hm hb ha hn hd (star_cons hs'.1) (star_any hs'.2)
  | str => exact pe_callTy h gl hm hb ha hn hd (star_cons hs'.1) (star_any hs'.2)
  | sorted => exact pe_callB h gl hm hb ha hn hd (star_cons hs'.1) (star_any hs'.2)
  | max => exact pe_callB h gl hm hb ha hn hd (star_cons hs'.1) (star_any hs'.2)
  | min => exact pe_callB h gl hm hb ha hn hd (star_cons hs'.1) (star_any hs'.2)
/-- what a call of a def asks -/
theorem call_rd {K : Fg} {fe : Fe} {n : Nat} {as : List Av} {ss : List Sl} {σ : Sg} {H0 H1 : Hp} {Ox : AS} {L0 L1 : LA} {ρ0 ρ1 : En} {vs : List V} {Q : VK} {R : Rv → En → Prop} (ar : ∀ ss R, fe ss R → ss.length = n)
    (E1 : EnOk K Ox L1 H1 σ ρ1) (av : AvsOk K Ox L1 H1 σ vs as) (h : argS ρ1 as = some ss) (nd : (refsA as).Nodup) (q : fe ss fun r outs => R r (updA ρ1 as outs)) (m1 : Mv ρ0 L0 ρ1 L1) (s1 : Stp L0 H0 H1)
    (k : ∀ r ρ' L' v H', R r ρ' → Mv ρ0 L0 ρ' L' → Stp L0 H0 H' → RvOk K Ox L' H0 H' σ ρ' v r → Q v H') : spF K n fe vs H1 Q := by
  refine ⟨_, _, ss, _, ar _ _ q, call_en E1 av h nd, q, fun r outs v H2 hr st rv nv hno => ?_⟩
  obtain ⟨rv', m, st'⟩ := call_rv E1 av h nd st rv nv hno
  exact k _ _ _ v H2 hr (m1.trans m) (s1.trans m1 st') (rv'.from s1)
theorem spF_len {K : Fg} {n : Nat} {fe : Fe} {vs : List V} {H : Hp} {Q : VK} (h : spF K n fe vs H Q) : vs.length = n := by
  obtain ⟨Ox, L, ss, R, l, E, _⟩ := h
  have := E.len
  rw [List.length_map] at this
  rw [this, l]
theorem perm_avs {K : Fg} {Ox : AS} {L : LA} {H : Hp} {σ : Sg} {vs : List V} {as : List Av} (h : AvsOk K Ox L H σ vs as) : ∀ perm : List Nat, AvsOk K Ox L H σ (permL perm vs) (permL perm as) := by
  intro perm
  unfold permL
  induction perm with
  | nil => exact .nil
  | cons i is ih =>
    rw [List.filterMap_cons, List.filterMap_cons]
    cases e : as[i]? with
    | none =>
      have : vs[i]? = none := by
        rw [List.getElem?_eq_none_iff] at e ⊢
        rw [h.len]
        exact e
      rw [this]
      exact ih
    | some a =>
      obtain ⟨v, e2, q⟩ := h.get e
      rw [e2]
      exact .cons q ih
theorem AvsOk.app {K : Fg} {Ox : AS} {L : LA} {H : Hp} {σ : Sg} {vs ws : List V} {as bs : List Av} (h : AvsOk K Ox L H σ vs as) (h' : AvsOk K Ox L H σ ws bs) : AvsOk K Ox L H σ (vs ++ ws) (as ++ bs) := by
  induction h with
  | nil => exact h'
  | cons a _ ih => exact .cons a ih
theorem matk_len : ∀ {es : Exs} {kws : List Keyword} {ns : List Str}, matk es c kws = true → kwNames kws ns = true → ns.length = kws.length
  | _, [], [], _, _ => rfl
  | _, [], _ :: _, _, h => by simp [kwNames] at h
  | _, ⟨none, _, _⟩ :: _, _, _, h => by simp [kwNames] at h
  | _, ⟨some _, _, _⟩ :: _, [], _, h => by simp [kwNames] at h
  | .nil, ⟨some x, e, p⟩ :: r, y :: ys, h, _ => by simp [matk] at h
  | .cons e' es, ⟨some x, e, p⟩ :: r, y :: ys, h, h' => by
    simp only [matk] at h
    simp only [kwNames] at h'
    have := matk_len (and3 h).2 (and3 h').2
    simp [this]
theorem cls_pair : ∀ cs : List Cn, Paired ClsV (cs.map fun k => V.ty k.ty) (cs.map fun k => Value.type k.ty)
  | [] => .nil
  | k :: cs => .cons (.ty _) (cls_pair cs)
theorem tsts_nil {X : Cx} {c : Mc} {xs : List Expr} (o : XOk X c F C) (m : matt .nil c xs = true) : PTs X xs (tTs X.K (tsts F C .nil)) := by
  cases xs with
  | nil =>
    refine ⟨fun pins s σ H Q I h => pts_nil.run pins s σ H Q I ?_⟩
    obtain ⟨Ox, L, ρ, R, E, h, k⟩ := h
    simp only [tsts] at h
    exact k _ _ _ H h .refl .refl E
  | cons _ _ => simp [matt] at m
theorem base_plain {l : Expr} {env : Env} {f : Str} (h : noSuper l = true) : attributeBase l f env (eval l env) = eval l env := by
  unfold attributeBase
  split
  · cases h
  · rfl
theorem ext_wr {Ox : AS} {L : LA} {H : Hp} {p : Addr} {o : HO} : Ext (Ow (plusA Ox p) L) H (Ow Ox L) (upd H p o) := fun b u nb e =>
  ⟨fun z => nb (z.elim (fun z => .inl (.inl z)) .inr), by rw [upd_ne (fun q => nb (.inl (.inr q)))]; exact e⟩
theorem EnOk.wr {K : Fg} {Ox : AS} {L : LA} {H : Hp} {σ : Sg} {ρ : En} {p : Addr} {o : HO} (E : EnOk K (plusA Ox p) L H σ ρ) : EnOk K Ox L (upd H p o) σ ρ where
  len := E.len
  nd := E.nd
  ext := fun a h => by
    by_cases e : a = p
    · subst e
      rw [upd_same]
      exact nofun
    · rw [upd_ne e]
      exact E.ext a (.inl h)
  dis := fun i a e z => E.dis i a e (.inl z)
  va := fun i d h => let ⟨v, e, r⟩ := E.va i d h; ⟨v, e, Rep.ext ext_wr d r⟩
  ow := fun i d h => by
    obtain ⟨a, l, e, ds, xs, e1, e2, r⟩ := E.ow i d h
    have ne : a ≠ p := fun q => E.dis i a l (.inr q)
    exact ⟨a, l, e, ds, xs, e1, by rw [upd_ne ne]; exact e2, RepL.ext ext_wr ds r⟩
  li := E.li
theorem emp_ok {X : Cx} {neg : Bool} {p : CmpOp} (hu : X.A.units < cLine) (hp : p = (match neg with | true => .NotEq | false => .Eq)) : OpR X (compareOp p) (fun x y H Q => ∃ O ds, VRep X.K O H (.lst ds) x ∧ ∃ b, y = .ref b ∧ H b = some (.lst []) ∧ Q (.bl (ds.isEmpty != neg)) H) := by
  intro pins s σ H x y v u Q I rx ry h
  obtain ⟨O, ds, h1, b, rfl, h2, q⟩ := h
  obtain ⟨a, xs, rfl, h3, r⟩ := h1.lst
  cases (show v = Value.ref a from rx)
  cases (show u = Value.ref b from ry)
  obtain ⟨its, rv, pl, _⟩ := I.list (SqL.of h3)
  obtain ⟨its2, rv2, pl2, _⟩ := I.list (SqL.of h2)
  cases rv2
  have e : ds.isEmpty = decide (its.length = 0) := by
    have l1 := r.len
    have l2 := rv.length
    cases ds with
    | nil => simp at l1; rw [← l2, ← l1]; rfl
    | cons d ds =>
      rw [List.length_cons] at l1
      exact (decide_eq_false (by omega)).symm
  have fin : EP X pins σ Q (.bool (ds.isEmpty != neg)) s := ⟨.bl _, H, I, rfl, q⟩
  by_cases hz : its.length = 0
  · have : its = [] := List.eq_nil_of_length_eq_zero hz
    subst this
    rw [show ds.isEmpty = true by rw [e]; rfl] at fin
    subst hp
    cases neg with
    | false => exact SeqAt.RcAt.lists (e := fun _ => true) pl.isList pl2.isList rfl hu (fun j h1 => absurd h1 (by simp)) _ _ _ _ fin
    | true => exact SeqAt.RcNeAt.lists (e := fun _ => true) pl.isList pl2.isList rfl hu (fun j h1 => absurd h1 (by simp)) _ _ _ _ fin
  · have hz2 : (its.toArray.size != (#[] : Array Value).size) = true := by simpa using hz
    rw [show ds.isEmpty = false by rw [e]; simpa using hz] at fin
    subst hp
    cases neg with
    | false => exact SeqAt.RcAt.lists_lengths pl.isList pl2.isList hz2 hu _ _ _ _ fin
    | true => exact SeqAt.RcNeAt.lists_lengths pl.isList pl2.isList hz2 hu _ _ _ _ fin
theorem gcd_ok {X : Cx} : CallR X (.builtin "math.gcd") (rDs X.K gcdP) := by
  intro pins s σ H xs us Q I r h
  obtain ⟨O, ds, R, t, l, hv, g, f⟩ := h
  unfold gcdP at g
  split at g
  · rename_i i j
    match xs, l with
    | [x, y], _ =>
      obtain rfl := (hv 0 _ x rfl rfl).int
      obtain rfl := (hv 1 _ y rfl rfl).int
      exact cr_gcd pins s σ H _ us Q I r ⟨i, j, rfl, f.va g rfl⟩
  · exact g.elim
mutual
theorem ex_ok : ∀ (e : Ex) {X : Cx} {c : Mc} {x : Expr}, XOk X c F C → mat e c x = true → PE X x (tR X.K (ex F C e))
  | .var i, X, c, x, o, m => by
    unfold mat at m
    split at m
    · exact pe_imp (nm_pe o m) fun σ H Q h => var_rd o h
    · cases m
  | .frz i, X, c, x, o, m => by
    unfold mat at m
    split at m
    · exact pe_imp (nm_pe o m) fun σ H Q h => frz_rd h
    · cases m
  | .int n, X, c, x, o, m => by
    unfold mat at m
    split at m
    · obtain rfl := of_decide_eq_true m
      refine pe_imp pe_int ?_
      rintro σ H Q ⟨Ox, L, ρ, R, E, h, k⟩
      exact k _ _ _ _ H h .refl .refl ⟨E, rfl⟩
    · cases m
  | .str n, X, c, x, o, m => by
    unfold mat at m
    split at m
    · obtain rfl := of_decide_eq_true m
      refine pe_imp pe_str ?_
      rintro σ H Q ⟨Ox, L, ρ, R, E, h, k⟩
      exact k _ _ _ _ H h .refl .refl ⟨E, rfl⟩
    · cases m
  | .bl n, X, c, x, o, m => by
    unfold mat at m
    split at m
    · obtain rfl := of_decide_eq_true m
      refine pe_imp pe_bl ?_
      rintro σ H Q ⟨Ox, L, ρ, R, E, h, k⟩
      exact k _ _ _ _ H h .refl .refl ⟨E, rfl⟩
    · cases m
  | .non, X, c, x, o, m => by
    unfold mat at m
    split at m
    · refine pe_imp pe_non ?_
      rintro σ H Q ⟨Ox, L, ρ, R, E, h, k⟩
      exact k _ _ _ _ H h .refl .refl ⟨E, rfl⟩
    · cases m
  | .con n, X, c, x, o, m => by
    unfold mat at m
    split at m
    · rename_i nm p
      obtain ⟨m1, m2⟩ := and3 m
      have m2 := of_decide_eq_true m2
      obtain ⟨gl, hd⟩ := gl_of o m1
      cases e : C[n]? with
      | none =>
        refine ⟨fun pins s σ H Q I h => ?_⟩
        obtain ⟨Ox, L, ρ, R, E, h, k⟩ := h
        simp only [ex, e] at h
      | some d =>
        obtain ⟨v, u, hm, r, rp⟩ := o.cs n d nm e m2
        refine pe_imp (pe_glob gl hm r hd) ?_
        rintro σ H Q ⟨Ox, L, ρ, R, E, h, k⟩
        simp only [ex, e] at h
        exact k _ _ _ _ H h .refl .refl ⟨E, rp _ _⟩
    · cases m
  | .bin op a b, X, c, x, o, m => by
    unfold mat at m
    split at m
    · obtain ⟨mp, mb⟩ := and3 m
      obtain ⟨mo, ma⟩ := and3 mp
      obtain rfl := of_decide_eq_true mo
      refine pe_imp (pe_op (bin_ok _) (ex_ok a o ma) (ex_ok b o mb)) ?_
      rintro σ H Q ⟨Ox, L, ρ, R, E, h, k⟩
      simp only [ex] at h
      refine ⟨Ox, L, ρ, _, E, h, fun r ρ1 L1 v H1 h1 m1 s1 o1 => ⟨Ox, L1, ρ1, _, o1.en, h1, fun s ρ2 L2 u H2 h2 m2 s2 o2 => ?_⟩⟩
      obtain ⟨d, e, e1, e2, g⟩ := h2
      exact ⟨Ow Ox L2, d, e, _, o2.en.trk', o2.en.vrep ((o1.av E m1).stp s2 m2) e1, o2.en.vrep (o2.av o1.en m2) e2, g, RpOk.fin o2.en (m1.trans m2) (s1.trans m1 s2) k⟩
    · cases m
  | .neg a, X, c, x, o, m => by
    unfold mat at m
    split at m
    · refine pe_imp (pe_un un_neg (ex_ok a o m)) ?_
      rintro σ H Q ⟨Ox, L, ρ, R, E, h, k⟩
      simp only [ex] at h
      refine ⟨Ox, L, ρ, _, E, h, fun r ρ1 L1 v H1 ⟨i, e1, q⟩ m1 s1 o1 => ?_⟩
      exact ⟨i, (o1.en.vrep (o1.av E m1) e1).int, k _ _ _ _ H1 q m1 s1 ⟨o1.en, rfl⟩⟩
    · cases m
  | .cmp op a b, X, c, x, o, m => by
    unfold mat at m
    split at m
    · obtain ⟨mp, mb⟩ := and3 m
      obtain ⟨mq, ma⟩ := and3 mp
      obtain ⟨mo, mi⟩ := and3 mq
      obtain rfl := of_decide_eq_true mo
      refine pe_imp (pe_cmpR (cmp_ok (by have := o.un; omega) _) (ex_ok a o ma) (ex_ok b o mb) (by simpa using mi)) ?_
      rintro σ H Q ⟨Ox, L, ρ, R, E, h, k⟩
      simp only [ex] at h
      refine ⟨Ox, L, ρ, _, E, h, fun r ρ1 L1 v H1 h1 m1 s1 o1 => ⟨Ox, L1, ρ1, _, o1.en, h1, fun s ρ2 L2 u H2 h2 m2 s2 o2 => ?_⟩⟩
      obtain ⟨d, e, e1, e2, g⟩ := h2
      exact ⟨Ow Ox L2, d, e, _, o2.en.trk', o2.en.vrep ((o1.av E m1).stp s2 m2) e1, o2.en.vrep (o2.av o1.en m2) e2, g, RpOk.fin o2.en (m1.trans m2) (s1.trans m1 s2) k⟩
    · cases m
  | .chain op p a b t, X, c, x, o, m => by
    unfold mat at m
    split at m
    · obtain ⟨w1, mt⟩ := and3 m
      obtain ⟨w2, mb⟩ := and3 w1
      obtain ⟨w3, ma⟩ := and3 w2
      obtain ⟨w4, n2⟩ := and3 w3
      obtain ⟨w5, n1⟩ := and3 w4
      obtain ⟨w6, w7⟩ := and3 w5
      obtain rfl := of_decide_eq_true w6
      obtain rfl := of_decide_eq_true w7
      have hu : X.A.units + 65 < cLine := by have := o.un; omega
      refine pe_imp (pe_chain (cmp_ok hu _) (cmp_ok hu _) (ex_ok a o ma) (ex_ok b o mb) (ex_ok t o mt) (marks_of n2)) ?_
      rintro σ H Q ⟨Ox, L, ρ, R, E, h, k⟩
      simp only [ex] at h
      refine ⟨Ox, L, ρ, _, E, h, fun r ρ1 L1 v H1 h1 m1 s1 o1 => ⟨Ox, L1, ρ1, _, o1.en, h1, fun s ρ2 L2 u H2 h2 m2 s2 o2 => ?_⟩⟩
      obtain ⟨d, e, e1, e2, g⟩ := h2
      have vs := o2.av o1.en m2
      refine ⟨Ow Ox L2, d, e, _, o2.en.trk', o2.en.vrep ((o1.av E m1).stp s2 m2) e1, o2.en.vrep vs e2, g, ?_⟩
      rintro r2 z H3 ⟨b, rfl, q⟩ sm rp
      obtain rfl : z = .bl b := rp
      refine ⟨b, rfl, ?_⟩
      have E3 := o2.en.same sm
      have s3 : Stp L H H3 := (s1.trans m1 s2).trans (m1.trans m2) (Stp.same sm)
      cases b with
      | false =>
        refine iteF ?_
        exact k _ _ _ _ H3 q (m1.trans m2) s3 ⟨E3, rfl⟩
      | true =>
        refine iteT ?_
        refine ⟨Ox, L2, ρ2, _, E3, q, fun w ρ4 L4 y H4 h4 m4 s4 o4 => ?_⟩
        obtain ⟨e', f, q1, q2, g4⟩ := h4
        have vs3 : AvOk X.K Ox L2 H3 σ u s.av := vs.stp (ρ := ρ2) (ρ' := ρ2) (Stp.same sm) .refl
        exact ⟨Ow Ox L4, e', f, _, o4.en.trk', o4.en.vrep (vs3.stp s4 m4) q1, o4.en.vrep (o4.av E3 m4) q2, g4, RpOk.fin o4.en ((m1.trans m2).trans m4) (s3.trans (m1.trans m2) s4) k⟩
    · cases m
  | .bop k es, X, c, x, o, m => by
    unfold mat at m
    split at m
    · obtain ⟨m0, m1⟩ := and3 m
      subst m0
      exact pe_imp (bop_ok es o true m1) fun σ H Q h => by simpa only [ex] using h
    · obtain ⟨m0, m1⟩ := and3 m
      have e : k = false := by simpa using m0
      subst e
      exact pe_imp (bop_ok es o false m1) fun σ H Q h => by simpa only [ex] using h
    · cases m
  | .not a, X, c, x, o, m => by
    unfold mat at m
    split at m
    · refine pe_imp (pe_notT (ex_ok a o m)) ?_
      rintro σ H Q ⟨Ox, L, ρ, R, E, h, k⟩
      simp only [ex] at h
      refine ⟨Ox, L, ρ, _, E, h, ?_⟩
      rintro r ρ1 L1 v H1 ⟨d, b, e1, e2, q⟩ m1 s1 o1
      exact ⟨b, tru_of (o1.en.vrep (o1.av E m1) e1) e2, k _ _ _ _ H1 q m1 s1 ⟨o1.en, rfl⟩⟩
    · cases m
  | .ite t a b, X, c, x, o, m => by
    unfold mat at m
    split at m
    · obtain ⟨m1, m3⟩ := and3 m
      obtain ⟨m1, m2⟩ := and3 m1
      refine pe_imp (pe_ifExp (tst_ok t o m1) (ex_ok a o m2) (ex_ok b o m3)) ?_
      rintro σ H Q ⟨Ox, L, ρ, R, E, h, k⟩
      simp only [ex] at h
      refine ⟨Ox, L, ρ, _, E, h, ?_⟩
      rintro r ρ1 L1 v H1 ⟨d, kk, e1, e2, q⟩ mv1 s1 o1
      refine ⟨d, kk, e1, e2, ?_⟩
      cases kk with
      | true => exact iteT ⟨Ox, L1, ρ1, _, o1.en, q, fun r ρ2 L2 v H2 h2 mv2 s2 o2 => k r ρ2 L2 v H2 h2 (mv1.trans mv2) (s1.trans mv1 s2) (o2.from s1)⟩
      | false => exact iteF ⟨Ox, L1, ρ1, _, o1.en, q, fun r ρ2 L2 v H2 h2 mv2 s2 o2 => k r ρ2 L2 v H2 h2 (mv1.trans mv2) (s1.trans mv1 s2) (o2.from s1)⟩
    · cases m
  | .tup es, X, c, x, o, m => by
    unfold mat at m
    split at m
    · refine pe_imp (pe_tup (exs_ok es o m)) ?_
      rintro σ H Q ⟨Ox, L, ρ, R, E, h, k⟩
      simp only [ex] at h
      refine ⟨Ox, L, ρ, _, E, h, fun as ρ1 L1 vs H1 ⟨ds, e1, l, q⟩ m1 s1 E1 av _ => ?_⟩
      have rl := E1.dreps av e1
      refine ⟨by rw [← rl.len]; exact l, fun p n => ?_⟩
      have sm := same_new (o := .tup vs) n
      refine k _ _ _ _ _ q m1 (s1.trans m1 (Stp.same sm)) ⟨E1.same sm, p, vs, rfl, .inl ⟨fun z => E1.trk z n, .inl upd_same⟩, RepL.ext (Stp.same (L := L1) sm).ext ds rl⟩
    · cases m
  | .lst es, X, c, x, o, m => by
    unfold mat at m
    split at m
    · refine pe_imp (pe_lst (exs_ok es o m)) ?_
      rintro σ H Q ⟨Ox, L, ρ, R, E, h, k⟩
      simp only [ex] at h
      refine ⟨Ox, L, ρ, _, E, h, fun as ρ1 L1 vs H1 ⟨ds, e1, l, q⟩ m1 s1 E1 av _ => ?_⟩
      have rl := E1.dreps av e1
      refine ⟨by rw [← rl.len]; exact l, fun p n => ?_⟩
      have sm := same_new (o := .lst vs) n
      have nH : H p = none := by
        cases q' : H p with
        | none => rfl
        | some ob => exact absurd n (s1.tk p (by rw [q']; exact nofun))
      exact k _ _ _ _ _ q m1 (s1.trans m1 (Stp.same sm)) ⟨p, rfl, nH, E1.plus sm n (by rw [upd_same]; exact nofun), ds, vs, rfl, upd_same, RepL.ext (ext_new sm n) ds rl⟩
    · cases m
  | .ix a b, X, c, x, o, m => by
    unfold mat at m
    split at m
    · obtain ⟨m1, m2⟩ := and3 m
      obtain ⟨m0, m1⟩ := and3 m1
      refine pe_imp (pe_ix ix_ok (ex_ok a o m1) (ex_ok b o m2) (ix_plain m0)) ?_
      rintro σ H Q ⟨Ox, L, ρ, R, E, h, k⟩
      simp only [ex] at h
      refine ⟨Ox, L, ρ, _, E, h, fun r ρ1 L1 v H1 h1 m1 s1 o1 => ⟨Ox, L1, ρ1, _, o1.en, h1, fun s ρ2 L2 u H2 h2 m2 s2 o2 => ?_⟩⟩
      obtain ⟨d, e, e1, e2, g⟩ := h2
      exact ⟨Ow Ox L2, d, e, _, o2.en.trk', o2.en.vrep ((o1.av E m1).stp s2 m2) e1, o2.en.vrep (o2.av o1.en m2) e2, g, RpOk.fin o2.en (m1.trans m2) (s1.trans m1 s2) k⟩
    · cases m
  | .sl a lo hi, X, c, x, o, m => by
    unfold mat at m
    split at m
    · obtain ⟨m1, m3⟩ := and3 m
      obtain ⟨m1, m2⟩ := and3 m1
      refine pe_imp (pe_slice sl_ok (ex_ok a o m1) (part_ok lo o m2) (part_ok hi o m3)) ?_
      rintro σ H Q ⟨Ox, L, ρ, R, E, h, k⟩
      simp only [ex] at h
      refine ⟨Ox, L, ρ, _, E, h, fun r ρ1 L1 v H1 h1 m1 s1 o1 => ⟨Ox, L1, ρ1, _, o1.en, h1, fun l ρ2 L2 H2 h2 m2 s2 E2 => ⟨Ox, L2, ρ2, _, E2, h2, fun u ρ3 L3 H3 h3 m3 s3 E3 => ?_⟩⟩⟩
      obtain ⟨d, e1, g⟩ := h3
      exact ⟨Ow Ox L3, d, _, E3.trk', E3.vrep (((o1.av E m1).stp s2 m2).stp s3 m3) e1, g, RpOk.fin E3 ((m1.trans m2).trans m3) ((s1.trans m1 s2).trans (m1.trans m2) s3) k⟩
    · cases m
  | .call f es, X, c, x, o, m => by
    unfold mat at m
    split at m
    · rename_i nm p vs pos
      obtain ⟨m1, m2⟩ := and3 m
      obtain ⟨m0, m1⟩ := and3 m1
      have m1 := of_decide_eq_true m1
      obtain ⟨gl, hd⟩ := gl_of o m0
      cases e : F[f]? with
      | none =>
        have := lt_of_get m1
        rw [← o.fl] at this
        rw [List.getElem?_eq_getElem this] at e
        cases e
      | some fe =>
        obtain ⟨fa, nn, kws0, kk, G, hr, hm, kp, ar, kb⟩ := (o.fs f fe nm e m1).ex
        have rd : ∀ σ H Q, tR X.K (ex F C (.call f es)) σ H Q → tG (spF X.K nn fe) (tA X.K vs.length (exs F C es)) σ H Q := by
          rintro σ H Q ⟨Ox, L, ρ, R, E, h, k⟩
          simp only [ex] at h
          refine ⟨Ox, L, ρ, _, E, h, ?_⟩
          rintro as ρ1 L1 vs1 H1 ⟨fe', ss, e1, e2, nd, q⟩ m1 s1 E1 av _
          rw [e] at e1
          cases e1
          exact call_rd ar E1 av e2 nd q m1 s1 k
        have st := mats_star m2
        have pa := exs_ok es o m2
        cases vs with
        | nil =>
          refine pe_imp (pe_g0 G hr o.gd gl hm kp hd) fun σ H Q h => ?_
          cases es with
          | nil =>
            obtain ⟨Ox, L, ρ, R, E, h, k⟩ := rd σ H Q h
            simp only [exs] at h
            exact k _ _ _ _ H h .refl .refl E .nil rfl
          | cons _ _ => simp [mats] at m2
        | cons e es' => exact pe_imp (pe_g G hr o.gd gl hm kp pa st hd) rd
    · cases m
  | .callk f ns perm es ks, X, c, x, o, m => by
    unfold mat at m
    split at m
    · rename_i nm p vs kws pos
      obtain ⟨m1, m5⟩ := and3 m
      obtain ⟨m1, m4⟩ := and3 m1
      obtain ⟨m1, m3⟩ := and3 m1
      obtain ⟨m1, m2⟩ := and3 m1
      obtain ⟨m0, m1⟩ := and3 m1
      have m1 := of_decide_eq_true m1
      have m5 := of_decide_eq_true m5
      obtain ⟨gl, hd⟩ := gl_of o m0
      cases e : F[f]? with
      | none =>
        have := lt_of_get m1
        rw [← o.fl] at this
        rw [List.getElem?_eq_getElem this] at e
        cases e
      | some fe =>
        obtain ⟨fa, nn, kws0, kk, G, hr, hm, kp, ar, kb⟩ := (o.fs f fe nm e m1).ex
        have st := mats_star m2
        have pa := exs_ok es o m2
        have pk := exk_ok ks o m3
        obtain ⟨k1, k2, k3⟩ := kw_facts (env := X.env) (pos := pos) m4
        have len := matk_len m3 m4
        cases vs with
        | nil =>
          cases es with
          | cons _ _ => simp [mats] at m2
          | nil =>
            refine pe_imp (pe_gk0 G hr o.gd gl hm kp (kb _ _ _ m5) pk k1 k2 k3 hd) ?_
            rintro σ H Q ⟨Ox, L, ρ, R, E, h, k⟩
            simp only [ex, exs] at h
            refine ⟨Ox, L, ρ, _, E, h, ?_⟩
            rintro as ρ1 L1 vs1 H1 ⟨fe', ss, e1, e2, e3, nd, q⟩ m1 s1 E1 av ln
            rw [e] at e1
            cases e1
            rw [List.nil_append] at e2 e3 nd q
            exact ⟨ln.trans len.symm, call_rd ar E1 (perm_avs av perm) e3 nd q m1 s1 k⟩
        | cons e' es' =>
          refine pe_imp (pe_gk G hr o.gd gl hm kp (kb _ _ _ m5) pa pk st k1 k2 k3 hd) ?_
          rintro σ H Q ⟨Ox, L, ρ, R, E, h, k⟩
          simp only [ex] at h
          refine ⟨Ox, L, ρ, _, E, h, fun as ρ1 L1 vs1 H1 h1 m1 s1 E1 av ln => ⟨Ox, L1, ρ1, _, E1, h1, ?_⟩⟩
          rintro bs ρ2 L2 zs H2 ⟨fe', ss, e1, e2, e3, nd, q⟩ m2 s2 E2 av2 ln2
          rw [e] at e1
          cases e1
          exact ⟨ln, ln2.trans len.symm, call_rd ar E2 (perm_avs ((av.stp s2 m2).app av2) perm) e3 nd q (m1.trans m2) (s1.trans m1 s2) k⟩
    · cases m
  | .blt b es, X, c, x, o, m => by
    unfold mat at m
    split at m
    · rename_i nm p vs pos
      obtain ⟨m1, m3⟩ := and3 m
      obtain ⟨m1, m2⟩ := and3 m1
      obtain ⟨m0, m1⟩ := and3 m1
      have m0 := of_decide_eq_true m0
      obtain ⟨gl, hd, hm⟩ := bt_of o m1
      cases vs with
      | nil => simp at m2
      | cons e es' =>
        refine pe_imp (pe_bi (blt_ok o.sb o.calm o.gd o.un b) m0 gl hm hd (exs_ok es o m3) (mats_star m3)) ?_
        rintro σ H Q ⟨Ox, L, ρ, R, E, h, k⟩
        simp only [ex] at h
        refine ⟨Ox, L, ρ, _, E, h, fun as ρ1 L1 vs H1 ⟨ds, e1, g⟩ m1 s1 E1 av _ => ?_⟩
        obtain ⟨l, vr⟩ := E1.vreps av e1
        exact ⟨Ow Ox L1, ds, _, E1.trk', l, vr, g, RpOk.fin E1 m1 s1 k⟩
    · cases m
  | .isi a cs, X, c, x, o, m => by
    unfold mat at m
    split at m
    · rename_i nm p l y q pos
      obtain ⟨w1, m4⟩ := and3 m
      obtain ⟨w2, m3⟩ := and3 w1
      obtain ⟨w3, m2⟩ := and3 w2
      obtain ⟨w4, w5⟩ := and3 w3
      obtain rfl := of_decide_eq_true w4
      obtain ⟨gl, hd, hm⟩ := bt_of o w5
      obtain ⟨pa, st⟩ := cls_pa o m2
      refine pe_imp (pe_callB call_isi gl hm boot_isinstance (pa_cons (ex_ok a o m4) pa (star_cons m3)) (by decide) hd (star_cons m3) (star_any st)) ?_
      rintro σ H Q ⟨Ox, L, ρ, R, E, h, k⟩
      simp only [ex] at h
      refine ⟨Ox, L, ρ, _, E, h, fun r ρ1 L1 v H1 ⟨d, e1, sd, q⟩ mv1 s1 o1 => ?_⟩
      have vr := o1.en.vrep (o1.av E mv1) e1
      match cs, m2, q with
      | [kk], m2, q =>
        refine ⟨v, .ty kk.ty, .type d.ty, .type kk.ty, isD d kk, rfl, .ty _, tyx_of sd vr, kit_d _ d kk, ?_⟩
        refine k _ _ _ _ H1 q mv1 s1 ⟨o1.en, ?_⟩
        show _ = _
        simp
      | [], m2, q => simp [clsNames] at m2
      | _ :: _ :: _, m2, q => simp [clsNames] at m2
    · rename_i nm p l vs kk q pos
      obtain ⟨w1, m4⟩ := and3 m
      obtain ⟨w1, m6⟩ := and3 w1
      have few : cs.length ≤ 20 := of_decide_eq_true m6
      obtain ⟨w2, m3⟩ := and3 w1
      obtain ⟨w3, m2⟩ := and3 w2
      obtain ⟨w4, w5⟩ := and3 w3
      obtain rfl := of_decide_eq_true w4
      obtain ⟨gl, hd, hm⟩ := bt_of o w5
      obtain ⟨pa, st⟩ := cls_pa o m2
      refine pe_imp (pe_callB call_isiT gl hm boot_isinstance (pa_cons (ex_ok a o m4) (pa_cons (pe_tup pa) pa_nil rfl) (star_cons m3)) (by decide) hd (star_cons m3) rfl) ?_
      rintro σ H Q ⟨Ox, L, ρ, R, E, h, k⟩
      simp only [ex] at h
      refine ⟨Ox, L, ρ, _, E, h, fun r ρ1 L1 v H1 ⟨d, e1, sd, q⟩ mv1 s1 o1 => ?_⟩
      have vr := o1.en.vrep (o1.av E mv1) e1
      refine ⟨by rw [List.length_map]; exact Nat.le_trans few (by decide), fun p' n => ?_⟩
      have sm := same_new (o := .tup (cs.map fun k => V.ty k.ty)) n
      refine ⟨v, p', _, .type d.ty, cs.map (fun k => .type k.ty), cs.any (isD d), rfl, upd_same, cls_pair cs, tyx_same n sd vr, kit_any _ d cs, ?_⟩
      exact k _ _ _ _ _ q mv1 (s1.trans mv1 (Stp.same sm)) ⟨o1.en.same sm, rfl⟩
    · cases m
  | .comp g it t e own, X, c, x, o, m => by
    unfold mat at m
    split at m
    · rename_i elt tg iter ifs scope pos
      obtain ⟨m1, m7⟩ := and3 m
      obtain ⟨m1, m6⟩ := and3 m1
      obtain ⟨m1, m5⟩ := and3 m1
      obtain ⟨m1, m4⟩ := and3 m1
      obtain ⟨m1, m3⟩ := and3 m1
      obtain ⟨m1, m2⟩ := and3 m1
      have bo : BlkOk X.N X.env.scope scope (ownN c own) := by
        rw [o.N, o.sc]
        exact blkOk_by m3
      have L := pe_lc (pos := pos) (te := tR X.K (ex F C e)) (tt := tTs X.K (tsts F C t)) (g := tTg X.K own g) o.calm o.nd (itm_ok it o m1) bo (fun s H A cl fp => tg_ok (F := F) (C := C) (xok_blk o s H scope cl A fp) own g m5) (fun s H A cl fp => tsts_ok t (xok_blk o s H scope cl A fp) m6)
        (fun s H A cl fp => ex_ok e (xok_blk o s H scope cl A fp) m7) (fold_pure m2)
      rw [own_map] at L
      exact pe_imp L fun σ H Q h => comp_imp m4 h
    · cases m
  | .attr a f, X, c, x, o, m => by
    unfold mat at m
    split at m
    · rename_i l n pos
      obtain ⟨m1, m4⟩ := and3 m
      obtain ⟨m1, m2⟩ := and3 m1
      obtain rfl := of_decide_eq_true m1
      refine pe_imp (pe_fld (ex_ok a o m4) (base_plain m2)) ?_
      rintro σ H Q ⟨Ox, L, ρ, R, E, h, k⟩
      simp only [ex] at h
      refine ⟨Ox, L, ρ, _, E, h, fun r ρ1 L1 v H1 ⟨d, e, e1, e2, q⟩ m1 s1 o1 => ?_⟩
      have vr := o1.en.vrep (o1.av E m1) e1
      unfold attrD at e2
      split at e2
      · obtain ⟨b, dx, xs, rfl, hb, _, hc, hn, rl⟩ := vr.obj
        obtain ⟨u, h1, h2, h3⟩ := zip_look rl e2
        exact ⟨b, _, dx, _, u, rfl, hb, hc, hn _ h3, h1, k _ _ _ _ H1 q m1 s1 ⟨o1.en, h2⟩⟩
      · cases e2
    · cases m
  | .pop j i, X, c, x, o, m => by
    unfold mat at m
    split at m
    · rename_i n np f ap a cp
      obtain ⟨w1, m5⟩ := and3 m
      obtain ⟨w2, m4⟩ := and3 w1
      obtain ⟨w3, m3⟩ := and3 w2
      obtain ⟨m1, m2⟩ := and3 w3
      obtain rfl := of_decide_eq_true m2
      refine pe_imp (pe_bm PySem.F.plainAttrs_list PySem.F.slot_list_pop PySem.F.type_list_pop mt_popAt (nm_pe o m1) (pa_cons (ex_ok i o m5) pa_nil (star_cons m4)) (by rfl)
        (by rw [star_cons m4]; rfl) m3 (star_cons m4) (by rfl)) ?_
      rintro σ H Q ⟨Ox, L, ρ, R, E, h, k⟩
      simp only [ex] at h
      obtain ⟨hl, h⟩ := h
      obtain ⟨a, q, sq⟩ := hasL_sq E hl
      refine ⟨.ref a, q, .inl ⟨rfl, sq⟩, Ox, L, ρ, _, E, h, fun r ρ1 L1 v H1 ⟨kk, e1, h1⟩ mv1 s1 o1 => ?_⟩
      obtain ⟨ff, ds, hf, q1, hz, n, hn, d, hd, hR⟩ := onL_at h1
      subst e1
      have E1 := o1.en
      have ei : v = .int kk := int_of o1
      obtain ⟨b, l1, l2, ds', xs, q2, q3, rp⟩ := E1.ow j (.lst ds) (by rcases hf with rfl | rfl; exact .inl q1; exact .inr q1)
      cases q2
      rw [q] at l2
      cases l2
      obtain ⟨E3, mv, st⟩ := E1.write0 (d := .lst ds) (d' := .lst (ds.eraseIdx n)) (s' := ff (.lst (ds.eraseIdx n))) (xs := xs.eraseIdx n) (by rcases hf with rfl | rfl; exact .inl ⟨q1, rfl⟩; exact .inr ⟨q1, rfl⟩) l1 rfl (rp.eraseIdx n)
      obtain ⟨y, hy, ry⟩ := rp.get hd
      obtain ⟨g1, g2, g3, g4⟩ := ixN_seq hn
      rw [sizeLine_eq] at hz
      exact ⟨a, xs, kk, n, y, rfl, by rw [ei], q3, by omega, by omega, by rw [← rp.len]; exact g1, hy, k (.va d) _ L1 y _ hR (mv1.trans mv) (s1.trans mv1 st) ⟨E3, Rep.ext st.ext d ry⟩⟩
    · cases m
  | .lrng a, X, c, x, o, m => by
    unfold mat at m
    split at m
    · obtain ⟨w1, m6⟩ := and3 m
      obtain ⟨w2, m5⟩ := and3 w1
      obtain ⟨w3, m4⟩ := and3 w2
      obtain ⟨w4, m3⟩ := and3 w3
      obtain ⟨w5, m2⟩ := and3 w4
      obtain rfl := of_decide_eq_true w5
      obtain rfl := of_decide_eq_true m3
      obtain ⟨gl1, hd1, hm1⟩ := bt_of o m2
      obtain ⟨gl2, hd2, hm2⟩ := bt_of o m4
      refine pe_imp (pe_listRg o.calm gl1 hm1 (prg_1 gl2 hm2 (ex_ok a o m6) (star_cons m5)) (star_cons rfl)) ?_
      rintro σ H Q ⟨Ox, L, ρ, R, E, h, k⟩
      simp only [ex] at h
      refine ⟨Ox, L, ρ, _, E, h, ?_⟩
      rintro r ρ1 L1 v H1 ⟨j, rfl, b, q⟩ mv1 s1 o1
      have E1 := o1.en
      refine ⟨j, int_of o1, ⟨by omega, by omega, by omega, by omega, by omega⟩, fun p n => ?_⟩
      have sm := same_new (o := .lst (rgV 0 j)) n
      have nH : H p = none := by
        cases q' : H p with
        | none => rfl
        | some ob => exact absurd n (s1.tk p (by rw [q']; exact nofun))
      exact k _ _ _ _ _ q mv1 (s1.trans mv1 (Stp.same sm)) ⟨p, rfl, nH, E1.plus sm n (by rw [upd_same]; exact nofun), rngD 0 j.toNat, rgV 0 j, rfl, upd_same, rgV_rep j⟩
    · cases m
  | .emp neg a, X, c, x, o, m => by
    unfold mat at m
    split at m
    · rename_i l p lp pos
      obtain ⟨mo, ma⟩ := and3 m
      have mp := of_decide_eq_true mo
      have hb : behindInMarks p (.List [] lp) = false := by cases neg <;> (subst mp; rfl)
      refine pe_imp (pe_cmpR (emp_ok (neg := neg) (by have := o.un; omega) mp) (ex_ok a o ma) (pe_lst pa_nil) hb) ?_
      rintro σ H Q ⟨Ox, L, ρ, R, E, h, k⟩
      simp only [ex] at h
      refine ⟨Ox, L, ρ, _, E, h, fun r ρ1 L1 v H1 h1 m1 s1 o1 => ?_⟩
      obtain ⟨ds, e1, q⟩ := h1
      refine ⟨Nat.zero_le _, fun p n => ?_⟩
      have sm := same_new (o := .lst []) n
      exact ⟨Ow Ox L1, ds, (o1.en.same sm).vrep ((o1.av E m1).stp (ρ := ρ1) (ρ' := ρ1) (Stp.same sm) .refl) e1, p, rfl, upd_same, k (.va (.bl _)) ρ1 L1 _ _ q m1 (s1.trans m1 (Stp.same sm)) ⟨o1.en.same sm, rfl⟩⟩
    · cases m
  | .dn0, X, c, x, o, m => by
    unfold mat at m
    split at m
    · refine pe_imp pe_dnewK ?_
      rintro σ H Q ⟨Ox, L, ρ, R, E, h, k⟩
      simp only [ex] at h
      intro p n
      have sm := same_new (o := .dK []) n
      exact k _ _ _ _ _ h .refl (Stp.same sm) ⟨E.same sm, p, [], rfl, ⟨⟨fun z => E.trk' p z n, upd_same⟩, rfl⟩, RepL.nil⟩
    · cases m
  | .dn1 a b, X, c, x, o, m => by
    unfold mat at m
    split at m
    · rename_i k v pos
      obtain ⟨m1, m2⟩ := and3 m
      refine pe_imp (pe_disp (pps_cons (ex_ok a o m1) (ex_ok b o m2) pps_nil) rfl rfl (by simp) (by simp)) ?_
      rintro σ H Q ⟨Ox, L, ρ, R, E, h, kk⟩
      simp only [ex] at h
      intro p n
      have sm := same_new (o := .dK []) n
      have E0 : EnOk X.K (plusA Ox p) L (upd H p (.dK [])) σ ρ := E.plus sm n (by rw [upd_same]; exact nofun)
      refine ⟨plusA Ox p, L, ρ, _, E0, h, fun r ρ1 L1 x H1 h1 m1 s1 o1 => ?_⟩
      obtain ⟨k, e1, h1⟩ := h1
      refine ⟨plusA Ox p, L1, ρ1, _, o1.en, h1, fun r2 ρ2 L2 y H2 h2 m2 s2 o2 => ?_⟩
      obtain ⟨d, e2, q⟩ := h2
      have hx : x = kV k := by
        unfold keyR at e1
        split at e1
        · cases e1; exact o1.2
        · cases e1; exact o1.2
        · cases e1
      subst hx
      have nL : ∀ {L : LA} {H : Hp} {ρ : En}, EnOk X.K (plusA Ox p) L H σ ρ → ∀ i, L i ≠ some p := fun E i e => E.dis i p e (.inr rfl)
      have hp1 : H1 p = some (.dK []) := s1.st p _ (nL E0) upd_same
      have hp2 : H2 p = some (.dK []) := s2.st p _ (nL o1.en) hp1
      have ry := o2.en.drep (o2.av o1.en m2) e2
      have s12 := s1.trans m1 s2
      refine ⟨hp2, [(k, y)], rfl, by simp, ?_⟩
      have x2 : Ext (Ow (plusA Ox p) L2) H2 (Ow Ox L2) (upd H2 p (.dK [(k, y)])) := ext_wr
      refine kk (.va (.dct [k] [d])) ρ2 L2 (.ref p) _ q (m1.trans m2) ⟨fun b u nb e => ?_, fun b e => ?_⟩ ⟨o2.en.wr, p, [y], rfl, ⟨⟨?_, upd_same⟩, rfl⟩, RepL.cons (Rep.ext x2 d ry) RepL.nil⟩
      · have ne : b ≠ p := ne_of_none e n
        rw [upd_ne ne]
        exact s12.st b u nb (by rw [upd_ne ne]; exact e)
      · by_cases ne : b = p
        · subst ne
          show upd H2 b _ b ≠ none
          rw [upd_same]
          exact nofun
        · show upd H2 p _ b ≠ none
          rw [upd_ne ne]
          exact s12.tk b (by rw [upd_ne ne]; exact e)
      · rintro (z | ⟨i, z⟩)
        · exact E.ext p z n
        · exact nL o2.en i z
    · cases m
  | .lset a, X, c, x, o, m => by
    unfold mat at m
    split at m
    · obtain ⟨w1, m6⟩ := and3 m
      obtain ⟨w2, m5⟩ := and3 w1
      obtain ⟨w3, m4⟩ := and3 w2
      obtain ⟨w4, m3⟩ := and3 w3
      obtain ⟨w5, m2⟩ := and3 w4
      obtain rfl := of_decide_eq_true w5
      obtain rfl := of_decide_eq_true m3
      obtain ⟨gl1, hd1, hm1⟩ := bt_of o m2
      obtain ⟨gl2, hd2, hm2⟩ := bt_of o m4
      refine pe_imp (pe_lenSetD gl1 hm1 gl2 hm2 (ex_ok a o m6) o.calm (star_cons m5)) ?_
      rintro σ H Q ⟨Ox, L, ρ, R, E, h, k⟩
      simp only [ex] at h
      refine ⟨Ox, L, ρ, _, E, h, ?_⟩
      rintro r ρ1 L1 v H1 ⟨d, ns, e1, e2, hz, q⟩ mv1 s1 o1
      have vr := o1.en.vrep (o1.av E mv1) e1
      unfold seqI? at e2
      split at e2
      · obtain ⟨b, xs, rfl, hb, rl⟩ := vr.lst
        obtain rfl := ints_rep rl e2
        exact ⟨b, ns, rfl, .inl (SqL.of hb), hz, fun kk h1 h2 => k _ _ _ _ _ (q kk h1 h2) mv1 s1 ⟨o1.en, rfl⟩⟩
      · obtain ⟨b, xs, rfl, hb, rl, _⟩ := vr.tup
        obtain rfl := ints_rep rl e2
        exact ⟨b, ns, rfl, .inr hb, hz, fun kk h1 h2 => k _ _ _ _ _ (q kk h1 h2) mv1 s1 ⟨o1.en, rfl⟩⟩
      · cases e2
    · cases m
  | .bits a, X, c, x, o, m => by
    unfold mat at m
    split at m
    · rename_i l n apos pos
      obtain ⟨m1, m4⟩ := and3 m
      obtain ⟨m1, m3⟩ := and3 m1
      obtain ⟨m1, m2⟩ := and3 m1
      obtain rfl := of_decide_eq_true m1
      refine pe_imp (pe_bits (ex_ok a o m4) (base_plain m2) m3) ?_
      rintro σ H Q ⟨Ox, L, ρ, R, E, h, k⟩
      simp only [ex] at h
      refine ⟨Ox, L, ρ, _, E, h, fun r ρ1 L1 v H1 ⟨i, e1, q⟩ m1 s1 o1 => ?_⟩
      exact ⟨i, (o1.en.vrep (o1.av E m1) e1).int, k _ _ _ _ H1 q m1 s1 ⟨o1.en, rfl⟩⟩
    · cases m
  | .gcd es, X, c, x, o, m => by
    unfold mat at m
    split at m
    · rename_i nm p vs pos
      obtain ⟨m1, m3⟩ := and3 m
      obtain ⟨m1, m2⟩ := and3 m1
      obtain ⟨m0, mg⟩ := and3 m1
      have mg := of_decide_eq_true mg
      obtain ⟨gl, hd⟩ := gl_of o m0
      cases vs with
      | nil => simp at m2
      | cons e es' =>
        have hs := mats_star m3
        have hs' := hs
        rw [List.all_cons, Bool.and_eq_true] at hs'
        refine pe_imp (pe_callBfun gcd_ok gl (o.gs nm mg) (exs_ok es o m3) hd (star_cons hs'.1) (star_any hs'.2)) ?_
        rintro σ H Q ⟨Ox, L, ρ, R, E, h, k⟩
        simp only [ex] at h
        refine ⟨Ox, L, ρ, _, E, h, fun as ρ1 L1 vs H1 ⟨ds, e1, g⟩ m1 s1 E1 av _ => ?_⟩
        obtain ⟨l, vr⟩ := E1.vreps av e1
        exact ⟨Ow Ox L1, ds, _, E1.trk', l, vr, g, RpOk.fin E1 m1 s1 k⟩
    · cases m
  | .comp2 g it g1 it1 e own own1, X, c, x, o, m => by
    unfold mat at m
    split at m
    · rename_i elt tg iter tg1 iter1 scope pos
      obtain ⟨m1, n11⟩ := and3 m
      obtain ⟨m1, n10⟩ := and3 m1
      obtain ⟨m1, n9⟩ := and3 m1
      obtain ⟨m1, n8⟩ := and3 m1
      obtain ⟨m1, n7⟩ := and3 m1
      obtain ⟨m1, n6⟩ := and3 m1
      obtain ⟨m1, n5⟩ := and3 m1
      obtain ⟨m1, n4⟩ := and3 m1
      obtain ⟨m1, n3⟩ := and3 m1
      obtain ⟨m1, n2⟩ := and3 m1
      have bo : BlkOk X.N X.env.scope scope (ownN c own) := by
        rw [o.N, o.sc]
        exact blkOk_by n4
      have sub : ∀ i ∈ own1, i ∈ own := fun i hi => of_decide_eq_true (List.all_eq_true.mp n7 i hi)
      have L := pe_lc2 (pos := pos) (vs1 := own1) (wi1 := tIt X.K (itm F C it1)) (te := tR X.K (ex F C e)) (tt := tTs X.K (tsts F C .nil)) (tt1 := tTs X.K (tsts F C .nil)) (g := tTg X.K own g) (g1 := tTg X.K own1 g1) o.calm o.nd (itm_ok it o m1) bo (by rw [own_map]; exact sub)
        (fun s H A cl fp => tg_ok (F := F) (C := C) (xok_blk o s H scope cl A fp) own g n8) (fun s H A cl fp => tsts_nil (xs := []) (xok_blk o s H scope cl A fp) (by simp [matt]))
        (fun s H A cl fp => itm_ok it1 (xok_blk o s H scope cl A fp) n9)
        (fun s H A cl fp => tg_ok (F := F) (C := C) (xok_blk o s H scope cl A fp) own1 g1 n10) (fun s H A cl fp => tsts_nil (xs := []) (xok_blk o s H scope cl A fp) (by simp [matt]))
        (fun s H A cl fp => ex_ok e (xok_blk o s H scope cl A fp) n11) (fold_pure n2) (fun env => fold_pure n3)
      rw [own_map] at L
      exact pe_imp L fun σ H Q h => comp2_imp n5 n6 sub h
    · cases m
theorem tst_ok : ∀ (e : Ex) {X : Cx} {c : Mc} {x : Expr}, XOk X c F C → mat e c x = true → PT X x (tTv X.K (ex F C e))
  | .cmp op a b, X, c, x, o, m => by
    unfold mat at m
    split at m
    · obtain ⟨mp, mb⟩ := and3 m
      obtain ⟨mq, ma⟩ := and3 mp
      obtain ⟨mo, mi⟩ := and3 mq
      obtain rfl := of_decide_eq_true mo
      refine pt_imp (pt_cmpR (cmp_ok (by have := o.un; omega) _) (ex_ok a o ma) (ex_ok b o mb) (by simpa using mi)) ?_
      rintro σ H Q ⟨Ox, L, ρ, R, E, h, k⟩
      simp only [ex] at h
      refine ⟨Ox, L, ρ, _, E, h, fun r ρ1 L1 v H1 h1 m1 s1 o1 => ⟨Ox, L1, ρ1, _, o1.en, h1, fun s ρ2 L2 u H2 h2 m2 s2 o2 => ?_⟩⟩
      obtain ⟨d, e, e1, e2, g⟩ := h2
      refine ⟨Ow Ox L2, d, e, _, o2.en.trk', o2.en.vrep ((o1.av E m1).stp s2 m2) e1, o2.en.vrep (o2.av o1.en m2) e2, cmpP_bl g, ?_⟩
      rintro r2 z H3 ⟨q, b, rfl⟩ sm rp
      obtain rfl : z = .bl b := rp
      obtain ⟨d', k', f1, f2, f3⟩ := k _ ρ2 L2 _ H3 q (m1.trans m2) ((s1.trans m1 s2).trans (m1.trans m2) (Stp.same sm)) ⟨o2.en.same sm, rfl⟩
      cases f1
      cases f2
      exact ⟨b, rfl, f3⟩
    · cases m
  | .chain op p a b t, X, c, x, o, m => by
    unfold mat at m
    split at m
    · obtain ⟨w1, mt⟩ := and3 m
      obtain ⟨w2, mb⟩ := and3 w1
      obtain ⟨w3, ma⟩ := and3 w2
      obtain ⟨w4, n2⟩ := and3 w3
      obtain ⟨w5, n1⟩ := and3 w4
      obtain ⟨w6, w7⟩ := and3 w5
      obtain rfl := of_decide_eq_true w6
      obtain rfl := of_decide_eq_true w7
      have hu : X.A.units + 65 < cLine := by have := o.un; omega
      refine pt_imp (pt_chain (cmp_ok hu _) (cmp_ok hu _) (ex_ok a o ma) (ex_ok b o mb) (ex_ok t o mt) (marks_of n2)) ?_
      rintro σ H Q ⟨Ox, L, ρ, R, E, h, k⟩
      simp only [ex] at h
      refine ⟨Ox, L, ρ, _, E, h, fun r ρ1 L1 v H1 h1 m1 s1 o1 => ⟨Ox, L1, ρ1, _, o1.en, h1, fun s ρ2 L2 u H2 h2 m2 s2 o2 => ?_⟩⟩
      obtain ⟨d, e, e1, e2, g⟩ := h2
      have vs := o2.av o1.en m2
      refine ⟨Ow Ox L2, d, e, _, o2.en.trk', o2.en.vrep ((o1.av E m1).stp s2 m2) e1, o2.en.vrep vs e2, g, ?_⟩
      rintro r2 z H3 ⟨b, rfl, q⟩ sm rp
      obtain rfl : z = .bl b := rp
      refine ⟨b, rfl, ?_⟩
      have E3 := o2.en.same sm
      have s3 : Stp L H H3 := (s1.trans m1 s2).trans (m1.trans m2) (Stp.same sm)
      cases b with
      | false =>
        refine iteF ?_
        obtain ⟨d', k', f1, f2, f3⟩ := k _ ρ2 L2 (.bl false) H3 q (m1.trans m2) s3 ⟨E3, rfl⟩
        cases f1
        cases f2
        exact ⟨false, rfl, f3⟩
      | true =>
        refine iteT ?_
        refine ⟨Ox, L2, ρ2, _, E3, q, fun w ρ4 L4 y H4 h4 m4 s4 o4 => ?_⟩
        obtain ⟨e', f, q1, q2, g4⟩ := h4
        have vs3 : AvOk X.K Ox L2 H3 σ u s.av := vs.stp (ρ := ρ2) (ρ' := ρ2) (Stp.same sm) .refl
        refine ⟨Ow Ox L4, e', f, _, o4.en.trk', o4.en.vrep (vs3.stp s4 m4) q1, o4.en.vrep (o4.av E3 m4) q2, cmpP_bl g4, ?_⟩
        rintro r5 z5 H5 ⟨q5, b5, rfl⟩ sm5 rp5
        obtain rfl : z5 = .bl b5 := rp5
        obtain ⟨d', k', f1, f2, f3⟩ := k _ ρ4 L4 _ H5 q5 ((m1.trans m2).trans m4) ((s3.trans (m1.trans m2) s4).trans ((m1.trans m2).trans m4) (Stp.same sm5)) ⟨o4.en.same sm5, rfl⟩
        cases f1
        cases f2
        exact ⟨b5, rfl, f3⟩
    · cases m
  | .bop k es, X, c, x, o, m => by
    unfold mat at m
    split at m
    · obtain ⟨m0, m1⟩ := and3 m
      subst m0
      exact pt_imp (bopt_ok es o true m1).pt fun σ H Q h => by simpa only [ex] using h
    · obtain ⟨m0, m1⟩ := and3 m
      have e : k = false := by simpa using m0
      subst e
      exact pt_imp (bopt_ok es o false m1).pt fun σ H Q h => by simpa only [ex] using h
    · cases m
  | .not a, X, c, x, o, m => by
    unfold mat at m
    split at m
    · refine pt_imp (pt_not (tst_ok a o m)) ?_
      rintro σ H Q ⟨Ox, L, ρ, R, E, h, k⟩
      simp only [ex] at h
      refine ⟨Ox, L, ρ, _, E, h, ?_⟩
      rintro r ρ1 L1 v H1 ⟨d, b, e1, e2, q⟩ m1 s1 o1
      obtain ⟨d', k', f1, f2, f3⟩ := k _ ρ1 L1 (.bl (!b)) H1 q m1 s1 ⟨o1.en, rfl⟩
      cases f1
      cases f2
      exact ⟨d, b, e1, e2, f3⟩
    · cases m
  | .ite t a b, X, c, x, o, m => by
    unfold mat at m
    split at m
    · obtain ⟨w1, mb⟩ := and3 m
      obtain ⟨mt, ma⟩ := and3 w1
      refine pt_imp (pt_if (tst_ok t o mt) (tst_ok a o ma) (tst_ok b o mb)) ?_
      rintro σ H Q ⟨Ox, L, ρ, R, E, h, k⟩
      simp only [ex] at h
      refine ⟨Ox, L, ρ, _, E, h, ?_⟩
      rintro r ρ1 L1 v H1 ⟨d, kk, e1, e2, q⟩ m1 s1 o1
      refine ⟨d, kk, e1, e2, ?_⟩
      cases kk with
      | true => exact iteT ⟨Ox, L1, ρ1, _, o1.en, q, fun r ρ2 L2 v H2 h2 m2 s2 o2 => k r ρ2 L2 v H2 h2 (m1.trans m2) (s1.trans m1 s2) (o2.from s1)⟩
      | false => exact iteF ⟨Ox, L1, ρ1, _, o1.en, q, fun r ρ2 L2 v H2 h2 m2 s2 o2 => k r ρ2 L2 v H2 h2 (m1.trans m2) (s1.trans m1 s2) (o2.from s1)⟩
    · cases m
  | .neg a, X, c, x, o, m => by
    have h := ex_ok (.neg a) o m
    unfold mat at m
    split at m
    · exact pt_of h fun _ => rfl
    · cases m
  | .var i, X, c, x, o, m => by
    have h := ex_ok (.var i) o m
    unfold mat at m
    split at m
    · exact pt_of h fun _ => rfl
    · cases m
  | .frz i, X, c, x, o, m => by
    have h := ex_ok (.frz i) o m
    unfold mat at m
    split at m
    · exact pt_of h fun _ => rfl
    · cases m
  | .int n, X, c, x, o, m => by
    have h := ex_ok (.int n) o m
    unfold mat at m
    split at m
    · exact pt_of h fun _ => rfl
    · cases m
  | .str n, X, c, x, o, m => by
    have h := ex_ok (.str n) o m
    unfold mat at m
    split at m
    · exact pt_of h fun _ => rfl
    · cases m
  | .bl n, X, c, x, o, m => by
    have h := ex_ok (.bl n) o m
    unfold mat at m
    split at m
    · exact pt_of h fun _ => rfl
    · cases m
  | .non, X, c, x, o, m => by
    have h := ex_ok .non o m
    unfold mat at m
    split at m
    · exact pt_of h fun _ => rfl
    · cases m
  | .con n, X, c, x, o, m => by
    have h := ex_ok (.con n) o m
    unfold mat at m
    split at m
    · exact pt_of h fun _ => rfl
    · cases m
  | .bin p a b, X, c, x, o, m => by
    have h := ex_ok (.bin p a b) o m
    unfold mat at m
    split at m
    · exact pt_of h fun _ => rfl
    · cases m
  | .tup es, X, c, x, o, m => by
    have h := ex_ok (.tup es) o m
    unfold mat at m
    split at m
    · exact pt_of h fun _ => rfl
    · cases m
  | .lst es, X, c, x, o, m => by
    have h := ex_ok (.lst es) o m
    unfold mat at m
    split at m
    · exact pt_of h fun _ => rfl
    · cases m
  | .ix a b, X, c, x, o, m => by
    have h := ex_ok (.ix a b) o m
    unfold mat at m
    split at m
    · exact pt_of h fun _ => rfl
    · cases m
  | .sl a lo hi, X, c, x, o, m => by
    have h := ex_ok (.sl a lo hi) o m
    unfold mat at m
    split at m
    · exact pt_of h fun _ => rfl
    · cases m
  | .call f es, X, c, x, o, m => by
    have h := ex_ok (.call f es) o m
    unfold mat at m
    split at m
    · exact pt_of h fun _ => rfl
    · cases m
  | .callk f ns perm es ks, X, c, x, o, m => by
    have h := ex_ok (.callk f ns perm es ks) o m
    unfold mat at m
    split at m
    · exact pt_of h fun _ => rfl
    · cases m
  | .blt b es, X, c, x, o, m => by
    have h := ex_ok (.blt b es) o m
    unfold mat at m
    split at m
    · exact pt_of h fun _ => rfl
    · cases m
  | .isi a cs, X, c, x, o, m => by
    have h := ex_ok (.isi a cs) o m
    unfold mat at m
    split at m
    · exact pt_of h fun _ => rfl
    · exact pt_of h fun _ => rfl
    · cases m
  | .comp g it t e own, X, c, x, o, m => by
    have h := ex_ok (.comp g it t e own) o m
    unfold mat at m
    split at m
    · exact pt_of h fun _ => rfl
    · cases m
  | .attr a f, X, c, x, o, m => by
    have h := ex_ok (.attr a f) o m
    unfold mat at m
    split at m
    · exact pt_of h fun _ => rfl
    · cases m
  | .pop j i, X, c, x, o, m => by
    have h := ex_ok (.pop j i) o m
    unfold mat at m
    split at m
    · exact pt_of h fun _ => rfl
    · cases m
  | .lrng a, X, c, x, o, m => by
    have h := ex_ok (.lrng a) o m
    unfold mat at m
    split at m
    · exact pt_of h fun _ => rfl
    · cases m
  | .lset a, X, c, x, o, m => by
    have h := ex_ok (.lset a) o m
    unfold mat at m
    split at m
    · exact pt_of h fun _ => rfl
    · cases m
  | .emp neg a, X, c, x, o, m => by
    unfold mat at m
    split at m
    · rename_i l p lp pos
      obtain ⟨mo, ma⟩ := and3 m
      have mp := of_decide_eq_true mo
      have hb : behindInMarks p (.List [] lp) = false := by cases neg <;> (subst mp; rfl)
      refine pt_imp (pt_cmpR (emp_ok (neg := neg) (by have := o.un; omega) mp) (ex_ok a o ma) (pe_lst pa_nil) hb) ?_
      rintro σ H Q ⟨Ox, L, ρ, R, E, h, k⟩
      simp only [ex] at h
      refine ⟨Ox, L, ρ, _, E, h, fun r ρ1 L1 v H1 h1 m1 s1 o1 => ?_⟩
      obtain ⟨ds, e1, q⟩ := h1
      refine ⟨Nat.zero_le _, fun p n => ?_⟩
      have sm := same_new (o := .lst []) n
      refine ⟨Ow Ox L1, ds, (o1.en.same sm).vrep ((o1.av E m1).stp (ρ := ρ1) (ρ' := ρ1) (Stp.same sm) .refl) e1, p, rfl, upd_same, ?_⟩
      obtain ⟨d', k', f1, f2, f3⟩ := k (.va (.bl _)) ρ1 L1 _ _ q m1 (s1.trans m1 (Stp.same sm)) ⟨o1.en.same sm, rfl⟩
      cases f1
      cases f2
      exact ⟨_, rfl, f3⟩
    · cases m
  | .dn0, X, c, x, o, m => by
    have h := ex_ok .dn0 o m
    unfold mat at m
    split at m
    · exact pt_of h fun _ => rfl
    · cases m
  | .dn1 a b, X, c, x, o, m => by
    have h := ex_ok (.dn1 a b) o m
    unfold mat at m
    split at m
    · exact pt_of h fun _ => rfl
    · cases m
  | .bits a, X, c, x, o, m => by
    have h := ex_ok (.bits a) o m
    unfold mat at m
    split at m
    · exact pt_of h fun _ => rfl
    · cases m
  | .gcd es, X, c, x, o, m => by
    have h := ex_ok (.gcd es) o m
    unfold mat at m
    split at m
    · exact pt_of h fun _ => rfl
    · cases m
  | .comp2 g it g1 it1 e own own1, X, c, x, o, m => by
    have h := ex_ok (.comp2 g it g1 it1 e own own1) o m
    unfold mat at m
    split at m
    · exact pt_of h fun _ => rfl
    · cases m
theorem exs_ok : ∀ (es : Exs) {X : Cx} {c : Mc} {xs : List Expr}, XOk X c F C → mats es c xs = true → PA X xs (tA X.K xs.length (exs F C es))
  | .nil, X, c, xs, o, m => by
    cases xs with
    | nil =>
      refine pa_imp pa_nil ?_
      rintro σ H Q ⟨Ox, L, ρ, R, E, h, k⟩
      simp only [exs] at h
      exact k _ _ _ _ H h .refl .refl E .nil rfl
    | cons _ _ => simp [mats] at m
  | .cons e es, X, c, xs, o, m => by
    cases xs with
    | nil => simp [mats] at m
    | cons x xs =>
      simp only [mats] at m
      obtain ⟨m1, m2⟩ := and3 m
      obtain ⟨m0, m1⟩ := and3 m1
      refine pa_imp (pa_cons (ex_ok e o m1) (exs_ok es o m2) (star_cons m0)) ?_
      rintro σ H Q ⟨Ox, L, ρ, R, E, h, k⟩
      simp only [exs] at h
      refine ⟨Ox, L, ρ, _, E, h, fun r ρ1 L1 v H1 h1 m1 s1 o1 => ⟨Ox, L1, ρ1, _, o1.en, h1, fun as ρ2 L2 vs H2 h2 m2 s2 E2 av ln => ?_⟩⟩
      exact k _ _ _ _ H2 h2 (m1.trans m2) (s1.trans m1 s2) E2 (.cons ((o1.av E m1).stp s2 m2) av) (by simp [ln])
theorem exk_ok : ∀ (es : Exs) {X : Cx} {c : Mc} {xs : List Keyword}, XOk X c F C → matk es c xs = true → PK X xs (tA X.K xs.length (exs F C es))
  | .nil, X, c, xs, o, m => by
    cases xs with
    | nil =>
      refine ⟨fun pos pins s σ H Q I h => pk_nil.run pos pins s σ H Q I ?_⟩
      obtain ⟨Ox, L, ρ, R, E, h, k⟩ := h
      simp only [exs] at h
      exact k _ _ _ _ H h .refl .refl E .nil rfl
    | cons _ _ => simp [matk] at m
  | .cons e es, X, c, xs, o, m => by
    cases xs with
    | nil => simp [matk] at m
    | cons kw xs =>
      obtain ⟨nm, x, kp⟩ := kw
      simp only [matk] at m
      obtain ⟨m1, m2⟩ := and3 m
      refine ⟨fun pos pins s σ H Q I h => (pk_cons (ex_ok e o m1) (exk_ok es o m2)).run pos pins s σ H Q I ?_⟩
      obtain ⟨Ox, L, ρ, R, E, h, k⟩ := h
      simp only [exs] at h
      refine ⟨Ox, L, ρ, _, E, h, fun r ρ1 L1 v H1 h1 m1 s1 o1 => ⟨Ox, L1, ρ1, _, o1.en, h1, fun as ρ2 L2 vs H2 h2 m2 s2 E2 av ln => ?_⟩⟩
      exact k _ _ _ _ H2 h2 (m1.trans m2) (s1.trans m1 s2) E2 (.cons ((o1.av E m1).stp s2 m2) av) (by simp [ln])
theorem bop_ok : ∀ (es : Exs) {X : Cx} {c : Mc} {xs : List Expr} {pos : Pos}, XOk X c F C → (k : Bool) → mats es c xs = true → PE X (.BoolOp (if k then .And else .Or) xs pos) (tR X.K (bop F C k es))
  | .nil, X, c, xs, pos, o, k, m => by
    cases xs with
    | nil =>
      refine ⟨fun pins s σ H Q I h => ?_⟩
      obtain ⟨Ox, L, ρ, R, E, h, _⟩ := h
      simp only [bop] at h
    | cons _ _ => simp [mats] at m
  | .cons e es, X, c, xs, pos, o, k, m => by
    cases xs with
    | nil => simp [mats] at m
    | cons x xs =>
      simp only [mats] at m
      obtain ⟨m1, m2⟩ := and3 m
      obtain ⟨m0, m1⟩ := and3 m1
      cases es with
      | nil =>
        cases xs with
        | nil => exact pe_imp (pe_one (ex_ok e o m1)) fun σ H Q h => by simpa only [bop] using h
        | cons _ _ => simp [mats] at m2
      | cons e' es' =>
        cases xs with
        | nil => simp [mats] at m2
        | cons x' xs =>
          have rec' := bop_ok (.cons e' es') (pos := pos) o k m2
          cases k with
          | true =>
            refine pe_imp (pe_and (ex_ok e o m1) rec') ?_
            rintro σ H Q ⟨Ox, L, ρ, R, E, h, k⟩
            rw [bop] at h
            refine ⟨Ox, L, ρ, _, E, h, ?_⟩
            rintro r ρ1 L1 v H1 ⟨b, rfl, q⟩ mv s1 o1
            refine ⟨b, bl_of o1, ?_⟩
            cases b with
            | true => exact iteT ⟨Ox, L1, ρ1, _, o1.en, q, fun r ρ2 L2 v H2 h2 m2 s2 o2 => k r ρ2 L2 v H2 h2 (mv.trans m2) (s1.trans mv s2) (o2.from s1)⟩
            | false => exact iteF (k _ _ _ _ H1 q mv s1 ⟨o1.en, rfl⟩)
          | false =>
            refine pe_imp (pe_or (ex_ok e o m1) rec') ?_
            rintro σ H Q ⟨Ox, L, ρ, R, E, h, k⟩
            rw [bop] at h
            refine ⟨Ox, L, ρ, _, E, h, ?_⟩
            rintro r ρ1 L1 v H1 ⟨b, rfl, q⟩ mv s1 o1
            refine ⟨b, bl_of o1, ?_⟩
            cases b with
            | true => exact iteT (k _ _ _ _ H1 q mv s1 ⟨o1.en, rfl⟩)
            | false => exact iteF ⟨Ox, L1, ρ1, _, o1.en, q, fun r ρ2 L2 v H2 h2 m2 s2 o2 => k r ρ2 L2 v H2 h2 (mv.trans m2) (s1.trans mv s2) (o2.from s1)⟩
theorem bopt_ok : ∀ (es : Exs) {X : Cx} {c : Mc} {xs : List Expr} {pos : Pos}, XOk X c F C → (k : Bool) → mats es c xs = true → PW X (.BoolOp (if k then .And else .Or) xs pos) (tTv X.K (bop F C k es))
  | .nil, X, c, xs, pos, o, k, m => by
    cases xs with
    | nil =>
      refine ⟨fun wh pins s σ H Q I h => ?_⟩
      obtain ⟨Ox, L, ρ, R, E, h, _⟩ := h
      simp only [bop] at h
    | cons _ _ => simp [mats] at m
  | .cons e es, X, c, xs, pos, o, k, m => by
    cases xs with
    | nil => simp [mats] at m
    | cons x xs =>
      simp only [mats] at m
      obtain ⟨m1, m2⟩ := and3 m
      obtain ⟨m0, m1⟩ := and3 m1
      have pe := tst_ok e o m1
      cases es with
      | nil =>
        cases xs with
        | nil =>
          have pe' : PT X x (tTv X.K (bop F C k (.cons e .nil))) := pt_imp pe fun σ H Q h => by simpa only [bop] using h
          cases k with
          | true => exact pw_and1 pe'
          | false => exact pw_or1 pe'
        | cons _ _ => simp [mats] at m2
      | cons e' es' =>
        cases xs with
        | nil => simp [mats] at m2
        | cons x' xs =>
          have rec' := bopt_ok (.cons e' es') (pos := pos) o k m2
          cases k with
          | true =>
            refine ⟨fun wh pins s σ H Q I h => (pw_and pe rec').run wh pins s σ H Q I ?_⟩
            obtain ⟨Ox, L, ρ, R, E, h, k⟩ := h
            rw [bop] at h
            refine ⟨Ox, L, ρ, _, E, h, ?_⟩
            rintro r ρ1 L1 v H1 ⟨b, rfl, q⟩ mv s1 o1
            refine ⟨.bl b, b, rfl, rfl, ?_⟩
            cases b with
            | true => exact iteT ⟨Ox, L1, ρ1, _, o1.en, q, fun r ρ2 L2 v H2 h2 m2 s2 o2 => k r ρ2 L2 v H2 h2 (mv.trans m2) (s1.trans mv s2) (o2.from s1)⟩
            | false =>
              refine iteF ?_
              obtain ⟨d', k', f1, f2, f3⟩ := k _ _ _ (.bl false) H1 q mv s1 ⟨o1.en, rfl⟩
              cases f1
              cases f2
              exact f3
          | false =>
            refine ⟨fun wh pins s σ H Q I h => (pw_or pe rec').run wh pins s σ H Q I ?_⟩
            obtain ⟨Ox, L, ρ, R, E, h, k⟩ := h
            rw [bop] at h
            refine ⟨Ox, L, ρ, _, E, h, ?_⟩
            rintro r ρ1 L1 v H1 ⟨b, rfl, q⟩ mv s1 o1
            refine ⟨.bl b, b, rfl, rfl, ?_⟩
            cases b with
            | true =>
              refine iteT ?_
              obtain ⟨d', k', f1, f2, f3⟩ := k _ _ _ (.bl true) H1 q mv s1 ⟨o1.en, rfl⟩
              cases f1
              cases f2
              exact f3
            | false => exact iteF ⟨Ox, L1, ρ1, _, o1.en, q, fun r ρ2 L2 v H2 h2 m2 s2 o2 => k r ρ2 L2 v H2 h2 (mv.trans m2) (s1.trans mv s2) (o2.from s1)⟩
theorem part_ok : ∀ (es : Exs) {X : Cx} {c : Mc} {x : Option Expr}, XOk X c F C → matp es c x = true → PO X x (tPo X.K (part F C es))
  | .nil, X, c, x, o, m => by
    cases x with
    | none =>
      refine ⟨fun pins s σ H Q I h => po_none.run pins s σ H Q I ?_⟩
      obtain ⟨Ox, L, ρ, R, E, h, k⟩ := h
      simp only [part] at h
      exact k _ _ _ H h .refl .refl E
    | some _ => simp [matp] at m
  | .cons e es, X, c, x, o, m => by
    cases x with
    | none => simp [matp] at m
    | some y =>
      simp only [matp] at m
      refine ⟨fun pins s σ H Q I h => (po_some (ex_ok e o m)).run pins s σ H Q I ?_⟩
      obtain ⟨Ox, L, ρ, R, E, h, k⟩ := h
      simp only [part] at h
      refine ⟨Ox, L, ρ, _, E, h, ?_⟩
      rintro r ρ1 L1 v H1 ⟨i, rfl, q⟩ mv s1 o1
      exact ⟨i, int_of o1, k _ _ _ H1 q mv s1 o1.en⟩
theorem tsts_ok : ∀ (es : Exs) {X : Cx} {c : Mc} {xs : List Expr}, XOk X c F C → matt es c xs = true → PTs X xs (tTs X.K (tsts F C es))
  | .nil, X, c, xs, o, m => by
    cases xs with
    | nil =>
      refine ⟨fun pins s σ H Q I h => pts_nil.run pins s σ H Q I ?_⟩
      obtain ⟨Ox, L, ρ, R, E, h, k⟩ := h
      simp only [tsts] at h
      exact k _ _ _ H h .refl .refl E
    | cons _ _ => simp [matt] at m
  | .cons e es, X, c, xs, o, m => by
    match xs, m with
    | [x], m =>
      simp only [matt] at m
      refine ⟨fun pins s σ H Q I h => (pts_one (tst_ok e o m)).run pins s σ H Q I ?_⟩
      obtain ⟨Ox, L, ρ, R, E, h, k⟩ := h
      simp only [tsts] at h
      refine ⟨Ox, L, ρ, _, E, h, ?_⟩
      rintro r ρ1 L1 v H1 ⟨d, b, e1, e2, q⟩ mv s1 o1
      exact ⟨d, b, e1, e2, k _ _ _ H1 q mv s1 o1.en⟩
    | [], m => simp [matt] at m
    | _ :: _ :: _, m => simp [matt] at m
theorem itm_ok : ∀ (it : It) {X : Cx} {c : Mc} {tg x : Expr}, XOk X c F C → mati it c tg x = true → PI X tg x (tIt X.K (itm F C it))
  | .seq e, X, c, tg, x, o, m => by
    simp only [mati] at m
    refine ⟨fun pins s σ H R I h => (pi_any (ex_ok e o m)).run pins s σ H R I ?_⟩
    obtain ⟨Ox, L, ρ, R0, E, h, k⟩ := h
    simp only [itm] at h
    refine ⟨Ox, L, ρ, _, E, h, ?_⟩
    rintro r ρ1 L1 v H1 ⟨d, ds, e1, e2, q⟩ mv s1 o1
    obtain ⟨a, rfl, hh⟩ := itm_data (J := True) E mv o1 e1 e2
    refine ⟨a, rfl, ?_⟩
    rcases hh with ⟨hx, sr, _, _⟩ | ⟨hx, sr, _, _⟩
    · exact .inl ⟨hx, k _ _ _ _ _ _ q mv s1 o1.en sr (wok_of e1)⟩
    · exact .inr ⟨hx, k _ _ _ _ _ _ q mv s1 o1.en sr (wok_of e1)⟩
  | .rng1 a, X, c, tg, x, o, m => by
    unfold mati at m
    split at m
    · obtain ⟨w1, ma⟩ := and3 m
      obtain ⟨w2, ms⟩ := and3 w1
      obtain ⟨w3, mb⟩ := and3 w2
      obtain rfl := of_decide_eq_true w3
      obtain ⟨gl, hd, hm⟩ := bt_of o mb
      refine ⟨fun pins s σ H R I h => (pi_range1 gl hm (pa_cons (ex_ok a o ma) pa_nil (star_cons ms)) (star_cons ms)).run pins s σ H R I ?_⟩
      obtain ⟨Ox, L, ρ, R0, E, h, k⟩ := h
      simp only [itm] at h
      refine ⟨Ox, L, ρ, _, E, h, ?_⟩
      rintro r ρ1 L1 v H1 ⟨j, rfl, b1, b2, q⟩ mv s1 o1
      exact ⟨j, by rw [int_of o1], b1, b2, k _ _ _ _ _ _ q mv s1 o1.en src_rng (fun _ z => nomatch z)⟩
    · cases m
  | .rng2 a b, X, c, tg, x, o, m => by
    unfold mati at m
    split at m
    · obtain ⟨w1, mb⟩ := and3 m
      obtain ⟨w2, ma⟩ := and3 w1
      obtain ⟨w3, ms2⟩ := and3 w2
      obtain ⟨w4, ms⟩ := and3 w3
      obtain ⟨w5, mt⟩ := and3 w4
      obtain rfl := of_decide_eq_true w5
      obtain ⟨gl, hd, hm⟩ := bt_of o mt
      refine ⟨fun pins s σ H R I h => (pi_range2 gl hm (pa_cons (ex_ok a o ma) (pa_cons (ex_ok b o mb) pa_nil (star_cons ms2)) (star_cons ms)) (by rw [star_cons ms, star_cons ms2]; rfl) (star_cons ms2)).run pins s σ H R I ?_⟩
      obtain ⟨Ox, L, ρ, R0, E, h, k⟩ := h
      simp only [itm] at h
      refine ⟨Ox, L, ρ, _, E, h, fun r ρ1 L1 v H1 h1 m1 s1 o1 => ⟨Ox, L1, ρ1, _, o1.en, h1, ?_⟩⟩
      rintro r2 ρ2 L2 v2 H2 ⟨i, j, rfl, rfl, bb, q⟩ m2 s2 o2
      have ev : v = .int i := int_of o1
      exact ⟨i, j, by rw [ev, int_of o2], bb, k _ _ _ _ _ _ q (m1.trans m2) (s1.trans m1 s2) o2.en src_rng (fun _ z => nomatch z)⟩
    · cases m
  | .enm e, X, c, tg, x, o, m => by
    unfold mati at m
    split at m
    · obtain ⟨w1, ma⟩ := and3 m
      obtain ⟨w2, ms⟩ := and3 w1
      obtain ⟨w3, mt⟩ := and3 w2
      obtain ⟨w4, mb⟩ := and3 w3
      obtain rfl := of_decide_eq_true w4
      obtain ⟨gl, hd, hm⟩ := bt_of o mb
      cases tg with
      | Tuple els kk tp =>
        refine ⟨fun pins s σ H R I h => (pi_enumA gl hm (pa_cons (ex_ok e o ma) pa_nil (star_cons ms)) ms).run pins s σ H R I ?_⟩
        obtain ⟨Ox, L, ρ, R0, E, h, k⟩ := h
        simp only [itm] at h
        refine ⟨Ox, L, ρ, _, E, h, ?_⟩
        rintro r ρ1 L1 v H1 ⟨d, ds, e1, e2, q⟩ mv s1 o1
        obtain ⟨a, rfl, hh⟩ := itm_data (J := True) E mv o1 e1 e2
        refine ⟨a, rfl, ?_⟩
        rcases hh with ⟨hx, _, sr, _⟩ | ⟨hx, _, sr, _⟩
        · exact .inl ⟨hx, k _ _ _ _ _ _ q mv s1 o1.en sr (wok_of e1)⟩
        · exact .inr ⟨hx, k _ _ _ _ _ _ q mv s1 o1.en sr (wok_of e1)⟩
      | _ => simp [isTup] at mt
    · cases m
  | .zip a b, X, c, tg, x, o, m => by
    unfold mati at m
    split at m
    · obtain ⟨w1, mb⟩ := and3 m
      obtain ⟨w2, ma⟩ := and3 w1
      obtain ⟨w3, ms2⟩ := and3 w2
      obtain ⟨w4, ms⟩ := and3 w3
      obtain ⟨w5, mt⟩ := and3 w4
      obtain ⟨w6, mg⟩ := and3 w5
      obtain rfl := of_decide_eq_true w6
      obtain ⟨gl, hd, hm⟩ := bt_of o mg
      cases tg with
      | Tuple els kk tp =>
        refine ⟨fun pins s σ H R I h => (RZ.pi_zipA gl hm (pa_cons (ex_ok a o ma) (pa_cons (ex_ok b o mb) pa_nil (star_cons ms2)) (star_cons ms)) (star_cons ms) (star_any (es := [_]) (by rw [List.all_cons, ms2]; rfl))).run pins s σ H R I ?_⟩
        obtain ⟨Ox, L, ρ, R0, E, h, k⟩ := h
        simp only [itm] at h
        refine ⟨Ox, L, ρ, _, E, h, fun r ρ1 L1 v H1 h1 m1 s1 o1 => ⟨Ox, L1, ρ1, _, o1.en, h1, ?_⟩⟩
        rintro r2 ρ2 L2 v2 H2 ⟨d, e, ps, e1, e2, fp, ⟨g1, g2⟩, q⟩ m2 s2 o2
        have av1 : AvOk X.K Ox L2 H2 σ v r.av := (o1.av E m1).stp s2 m2
        have pa : Per X.K Ox L2 ρ2 H2 none d v := per_av o2.en av1 e1 g1
        have pb : Per X.K Ox L2 ρ2 H2 none e v2 := per_av o2.en (o2.av o1.en m2) e2 g2
        have va := o2.en.vrep av1 e1
        have vb := o2.en.vrep (o2.av o1.en m2) e2
        have kk : ∀ J, SrcOk X.K Ox L2 ρ2 H2 none J ps → R J H2 := fun J sr => k _ _ _ _ _ _ q (m1.trans m2) (s1.trans m1 s2) o2.en sr (fun _ z => nomatch z)
        rcases pairs_in fp with ⟨ds, es, hd, he, rfl⟩ | ⟨ds, es, rfl, rfl, rfl⟩
        · obtain ⟨a1, xs, rfl, hx⟩ := sq_in va hd
          obtain ⟨a2, ys, rfl, hy⟩ := sq_in vb he
          exact ⟨a1, a2, xs, ys, rfl, .inl ⟨hx, hy, kk _ (src_zipL pa pb hd he)⟩⟩
        · obtain ⟨a1, xs, rfl, hx, _, _⟩ := va.tup
          obtain ⟨a2, ys, rfl, hy, _, _⟩ := vb.tup
          exact ⟨a1, a2, xs, ys, rfl, .inr ⟨hx, hy, kk _ (src_zipT pa pb)⟩⟩
      | _ => simp [isTup] at mt
    · cases m
end
end
end DL

namespace DL
open PySem PySem.Spec PyProof.Rows L2

/-! what statements do -/
structure SS (ρ : En) (L : LA) (H : Hp) (ρ' : En) (L' : LA) (H' : Hp) : Prop where
  st : ∀ b o, (∀ i, L i ≠ some b) → H b = some o → H' b = some o
  tk : ∀ b, H b ≠ none → H' b ≠ none
  ad : ∀ i a, L' i = some a → (∃ j, L j = some a) ∨ H a = none
  mu : ∀ (i : Nat) d, ρ[i]? = some (.mu d) → L' i = L i ∧ ∃ d', ρ'[i]? = some (.mu d')
def FrA (L : LA) (ρ : En) (H : Hp) (a : Addr) : Prop := H a = none ∨ ∃ j d, L j = some a ∧ ρ[j]? = some (.ow d)
def RtOk (K : Fg) (Ox : AS) (L : LA) (ρ : En) (H : Hp) (L' : LA) (H' : Hp) (σ' : Sg) (ρ' : En) (v : V) : Rv → Prop
  | .va d => EnOk K Ox L' H' σ' ρ' ∧ Rep K (Ow Ox L') H' d v
  | .fr d => ∃ a, v = .ref a ∧ FrA L ρ H a ∧ EnOk K (plusA Ox a) L' H' σ' ρ' ∧ OwRep K (plusA (Ow Ox L') a) H' a d
  | .vw _ => False
def EndOk (K : Fg) (Ox : AS) (L : LA) (ρ : En) (H : Hp) (D : Ends) (L' : LA) (H' : Hp) (σ' : Sg) (ρ' : En) : Out → Prop
  | .nxt => EnOk K Ox L' H' σ' ρ' → D.nx σ' H'
  | .brk => EnOk K Ox L' H' σ' ρ' → D.bk σ' H'
  | .cnt => EnOk K Ox L' H' σ' ρ' → D.ct σ' H'
  | .ret r => ∀ v, RtOk K Ox L ρ H L' H' σ' ρ' v r → D.rt v H'
def tSm (K : Fg) (f : En → (Out → En → Prop) → Prop) : TS := fun D σ H => ∃ Ox L ρ R, EnOk K Ox L H σ ρ ∧ f ρ R ∧
  ∀ o ρ' L' σ' H', R o ρ' → SS ρ L H ρ' L' H' → EndOk K Ox L ρ H D L' H' σ' ρ' o

section
variable {K : Fg} {Ox : AS} {L L1 L2 L' : LA} {H H1 H2 H' : Hp} {σ σ1 σ' : Sg} {ρ ρ1 ρ2 ρ' : En}
theorem SS.refl : SS ρ L H ρ L H := ⟨fun _ _ _ e => e, fun _ h => h, fun i a h => .inl ⟨i, h⟩, fun _ d h => ⟨rfl, d, h⟩⟩
theorem SS.of (m : Mv ρ L ρ' L') (s : Stp L H H') : SS ρ L H ρ' L' H' := ⟨s.st, s.tk, fun i a h => .inl ⟨i, m.le i a h⟩, m.mu⟩
theorem SS.trans (a : SS ρ L H ρ1 L1 H1) (b : SS ρ1 L1 H1 ρ2 L2 H2) : SS ρ L H ρ2 L2 H2 where
  st := fun c o n e => b.st c o (fun i q => by
    rcases a.ad i c q with ⟨j, z⟩ | z
    · exact n j z
    · rw [z] at e
      cases e) (a.st c o n e)
  tk := fun c h => b.tk c (a.tk c h)
  ad := fun i x h => by
    rcases b.ad i x h with ⟨j, z⟩ | z
    · exact a.ad j x z
    · right
      cases q : H x with
      | none => rfl
      | some o => exact absurd z (a.tk x (by rw [q]; exact nofun))
  mu := fun i d h => by
    obtain ⟨e1, d1, h1⟩ := a.mu i d h
    obtain ⟨e2, d2, h2⟩ := b.mu i d1 h1
    exact ⟨e2.trans e1, d2, h2⟩
theorem SS.ext (s : SS ρ L H ρ' L' H') : Ext (Ow Ox L) H (Ow Ox L') H' := fun b o n e => ⟨fun z => by
  rcases z with z | ⟨i, z⟩
  · exact n (.inl z)
  · rcases s.ad i b z with ⟨j, q⟩ | q
    · exact n (.inr ⟨j, q⟩)
    · rw [q] at e
      exact absurd e nofun, s.st b o (fun i q => n (.inr ⟨i, q⟩)) e⟩
theorem FrA.from {a : Addr} (s : SS ρ L H ρ1 L1 H1) (E : EnOk K Ox L H σ ρ) (E1 : EnOk K Ox L1 H1 σ1 ρ1) (h : FrA L1 ρ1 H1 a) : FrA L ρ H a := by
  rcases h with h | ⟨j, d, h1, h2⟩
  · left
    cases q : H a with
    | none => rfl
    | some o => exact absurd h (s.tk a (by rw [q]; exact nofun))
  · rcases s.ad j a h1 with ⟨i, q⟩ | q
    · obtain ⟨e, z⟩ := E.li i a q
      rcases z with z | z
      · exact .inr ⟨i, e, q, z⟩
      · obtain ⟨e1, d1, q1⟩ := s.mu i e z
        have ij := E1.nd i j a (e1.trans q) h1
        subst ij
        rw [h2] at q1
        cases q1
    · exact .inl q
theorem RtOk.from {v : V} {r : Rv} (s : SS ρ L H ρ1 L1 H1) (E : EnOk K Ox L H σ ρ) (E1 : EnOk K Ox L1 H1 σ1 ρ1) (h : RtOk K Ox L1 ρ1 H1 L' H' σ' ρ' v r) : RtOk K Ox L ρ H L' H' σ' ρ' v r := by
  cases r with
  | va d => exact h
  | fr d =>
    obtain ⟨a, e, f, q⟩ := h
    exact ⟨a, e, f.from s E E1, q⟩
  | vw i => exact h
theorem EndOk.from {D : Ends} {o : Out} (s : SS ρ L H ρ1 L1 H1) (E : EnOk K Ox L H σ ρ) (E1 : EnOk K Ox L1 H1 σ1 ρ1) (h : EndOk K Ox L ρ H D L' H' σ' ρ' o) : EndOk K Ox L1 ρ1 H1 D L' H' σ' ρ' o := by
  cases o with
  | nxt => exact h
  | brk => exact h
  | cnt => exact h
  | ret r => exact fun v q => h v (q.from s E E1)
theorem lock_get {w : Option Nat} {i : Nat} {s : Sl} (h : (lockE w ρ)[i]? = some s) : ρ[i]? = some s ∨ ∃ d, s = .mu d ∧ ρ[i]? = some (.ow d) := by
  unfold lockE at h
  cases w with
  | none => exact .inl h
  | some j =>
    dsimp only at h
    split at h
    · rename_i d e
      rcases get_set h with ⟨rfl, z⟩ | ⟨_, q⟩
      · exact .inr ⟨d, z, e⟩
      · exact .inl q
    · exact .inl h
theorem lock_mu {w : Option Nat} {i : Nat} {d : D} (h : ρ[i]? = some (.mu d)) : (lockE w ρ)[i]? = some (.mu d) := by
  unfold lockE
  cases w with
  | none => exact h
  | some j =>
    dsimp only
    split
    · rename_i e q
      have ne : j ≠ i := fun z => by
        subst z
        rw [h] at q
        cases q
      rw [List.getElem?_set_ne ne]
      exact h
    · exact h
theorem open_mu {w : Option Nat} {i : Nat} {d d' : D} (h : ρ[i]? = some (.mu d)) (h' : ρ'[i]? = some (.mu d')) : (openE w ρ ρ')[i]? = some (.mu d') := by
  unfold openE
  split
  · exact h'
  · split
    · rename_i j _ _ _ _ e1 e2
      have ne : j ≠ i := fun z => by
        subst z
        rw [h] at e1
        cases e1
      rw [List.getElem?_set_ne ne]
      exact h'
    · exact h'
theorem SS.unlock {w : Option Nat} (s : SS (lockE w ρ) L H ρ' L' H') : SS ρ L H (openE w ρ ρ') L' H' :=
  ⟨s.st, s.tk, s.ad, fun i d h => by
    obtain ⟨e, d', q⟩ := s.mu i d (lock_mu h)
    exact ⟨e, d', open_mu h q⟩⟩
theorem RtOk.unlock {w : Option Nat} {v : V} {r : Rv} (h : RtOk K Ox L (lockE w ρ) H L' H' σ' ρ' v r) : RtOk K Ox L ρ H L' H' σ' (openE w ρ ρ') v r := by
  cases r with
  | va d => exact ⟨h.1.opens w ρ, h.2⟩
  | fr d =>
    obtain ⟨a, e, f, E, q⟩ := h
    refine ⟨a, e, ?_, E.opens w ρ, q⟩
    rcases f with f | ⟨j, d', f1, f2⟩
    · exact .inl f
    · rcases lock_get f2 with z | ⟨_, z, _⟩
      · exact .inr ⟨j, d', f1, z⟩
      · cases z
  | vw i => exact h

/-- a slot emptied of its own list -/
theorem EnOk.empty (E : EnOk K Ox L H σ ρ) (i : Nat) (s : Sl) (hs : s = .no) : EnOk K Ox (lessL L i) H σ (ρ.set i s) := by
  subst hs
  have le : ∀ j b, lessL L i j = some b → L j = some b := fun j b z => by
    unfold lessL at z
    split at z
    · cases z
    · exact z
  have x : Ext (Ow Ox L) H (Ow Ox (lessL L i)) H := ext_less fun b z => z.elim .inl fun ⟨j, q⟩ => .inr ⟨j, le j b q⟩
  refine ⟨by simp [E.len], fun j k b h1 h2 => E.nd j k b (le j b h1) (le k b h2), E.ext, fun j b h1 => E.dis j b (le j b h1), fun j e q => ?_, fun j e q => ?_, fun j b q => ?_⟩
  · rcases get_set q with ⟨_, z⟩ | ⟨z, q⟩
    · cases z
    · obtain ⟨v, e3, r3⟩ := E.va j e q
      exact ⟨v, e3, Rep.ext x e r3⟩
  · have q' : i ≠ j ∧ (ρ[j]? = some (.ow e) ∨ ρ[j]? = some (.mu e)) := by
      rcases q with q | q
      · rcases get_set q with ⟨_, z⟩ | ⟨z, q⟩
        · cases z
        · exact ⟨z, .inl q⟩
      · rcases get_set q with ⟨_, z⟩ | ⟨z, q⟩
        · cases z
        · exact ⟨z, .inr q⟩
    obtain ⟨b, e3, e5, r3⟩ := E.ow j e q'.2
    exact ⟨b, by unfold lessL; rw [if_neg (Ne.symm q'.1)]; exact e3, e5, r3.ext x rfl⟩
  · have ne : i ≠ j := fun z => by
      subst z
      unfold lessL at q
      rw [if_pos rfl] at q
      cases q
    obtain ⟨e, q⟩ := E.li j b (le j b q)
    refine ⟨e, ?_⟩
    rw [List.getElem?_set_ne ne]
    exact q
theorem lessL_no (E : EnOk K Ox L H σ ρ) {i : Nat} (h : ρ[i]? = some .no ∨ ∃ d, ρ[i]? = some (.va d)) : lessL L i = L := by
  funext j
  unfold lessL
  split
  · rename_i e
    subst e
    exact (E.noL h).symm
  · rfl
def plusL (L : LA) (i : Nat) (a : Addr) : LA := fun j => if j = i then some a else L j
/-- a name gets a list of its own -/
theorem EnOk.setOw {i : Nat} {d : D} {A : Addr} (E : EnOk K (plusA Ox A) L H σ ρ) (hA : ¬ Ox A) (h : ρ[i]? = some .no ∨ ∃ d, ρ[i]? = some (.va d)) (r : OwRep K (plusA (Ow Ox L) A) H A d) :
    EnOk K Ox (plusL L i A) H (σ.set i (some (.ref A))) (ρ.set i (.ow d)) := by
  have nl := E.noL h
  have li : i < ρ.length := by
    rcases h with h | ⟨_, h⟩ <;> exact lt_of_get h
  have nA : ∀ j, L j ≠ some A := fun j z => E.dis j A z (.inr rfl)
  have pl : ∀ {j b}, plusL L i A j = some b → (j = i ∧ b = A) ∨ (j ≠ i ∧ L j = some b) := by
    intro j b z
    unfold plusL at z
    split at z
    · cases z
      exact .inl ⟨by assumption, rfl⟩
    · exact .inr ⟨by assumption, z⟩
  have pi : plusL L i A i = some A := by
    unfold plusL
    rw [if_pos rfl]
  have po : ∀ {j}, j ≠ i → plusL L i A j = L j := by
    intro j z
    unfold plusL
    rw [if_neg z]
  have ow : ∀ b, Ow Ox (plusL L i A) b ↔ Ow (plusA Ox A) L b := by
    intro b
    constructor
    · rintro (z | ⟨j, z⟩)
      · exact .inl (.inl z)
      · rcases pl z with ⟨_, rfl⟩ | ⟨_, z⟩
        · exact .inl (.inr rfl)
        · exact .inr ⟨j, z⟩
    · rintro ((z | z) | ⟨j, z⟩)
      · exact .inl z
      · exact .inr ⟨i, by rw [z]; exact pi⟩
      · have ne : j ≠ i := fun e => by
          subst e
          rw [nl] at z
          cases z
        exact .inr ⟨j, by rw [po ne]; exact z⟩
  have x : Ext (Ow (plusA Ox A) L) H (Ow Ox (plusL L i A)) H := ext_ow ow
  have x2 : Ext (plusA (Ow Ox L) A) H (Ow Ox (plusL L i A)) H := ext_ow fun b => (ow b).trans ow_plus
  refine ⟨by simp [E.len], fun j k b h1 h2 => ?_, fun b z => E.ext b (.inl z), fun j b h1 z => ?_, fun j e q => ?_, fun j e q => ?_, fun j b q => ?_⟩
  · rcases pl h1 with ⟨rfl, rfl⟩ | ⟨n1, h1'⟩
    · rcases pl h2 with ⟨rfl, _⟩ | ⟨_, h2⟩
      · rfl
      · exact absurd h2 (nA k)
    · rcases pl h2 with ⟨e1, e2⟩ | ⟨_, h2⟩
      · subst e2
        rcases pl h1 with ⟨z, _⟩ | ⟨_, h1⟩
        · exact absurd z (by assumption)
        · exact absurd h1 (nA j)
      · rcases pl h1 with ⟨z, _⟩ | ⟨_, h1⟩
        · exact absurd z (by assumption)
        · exact E.nd j k b h1 h2
  · rcases pl h1 with ⟨_, rfl⟩ | ⟨_, h1⟩
    · exact hA z
    · exact E.dis j b h1 (.inl z)
  · rcases get_set q with ⟨_, z⟩ | ⟨z, q⟩
    · cases z
    · obtain ⟨v, e3, r3⟩ := E.va j e q
      exact ⟨v, by rw [List.getElem?_set_ne z]; exact e3, Rep.ext x e r3⟩
  · by_cases hij : i = j
    · subst hij
      have : e = d := by
        rw [List.getElem?_set_self li] at q
        rcases q with q | q
        · cases q
          rfl
        · cases q
      subst this
      exact ⟨A, pi, List.getElem?_set_self (by rw [E.len]; exact li), r.ext x2 rfl⟩
    · rw [List.getElem?_set_ne hij] at q
      obtain ⟨b, e3, e5, r3⟩ := E.ow j e q
      exact ⟨b, by rw [po (Ne.symm hij)]; exact e3, by rw [List.getElem?_set_ne hij]; exact e5, r3.ext x rfl⟩
  · rcases pl q with ⟨rfl, rfl⟩ | ⟨ne, q⟩
    · exact ⟨d, .inl (List.getElem?_set_self li)⟩
    · obtain ⟨e, q⟩ := E.li j b q
      refine ⟨e, ?_⟩
      rw [List.getElem?_set_ne (Ne.symm ne)]
      exact q
/-- an own list is written -/
theorem EnOk.write (E : EnOk K Ox L H σ ρ) {i : Nat} {a : Addr} {d d' : D} {s' : Sl} {xs : List V} {ds : List D} (h : (ρ[i]? = some (.ow d) ∧ s' = .ow d') ∨ (ρ[i]? = some (.mu d) ∧ s' = .mu d')) (e : L i = some a) (hd : d' = .lst ds)
    (r : RepL K (Ow Ox L) H ds xs) : EnOk K Ox L (upd H a (.lst xs)) σ (ρ.set i s') ∧ SS ρ L H (ρ.set i s') L (upd H a (.lst xs)) :=
  ⟨(E.write0 h e hd r).1, SS.of (E.write0 h e hd r).2.1 (E.write0 h e hd r).2.2⟩
/-- a value given to a name -/
theorem name_ok {v : V} {r : Rv} {i : Nat} {R : En → Prop} (E0 : EnOk K Ox L H σ ρ) (m : Mv ρ L ρ1 L1) (s : Stp L H H1) (o : RvOk K Ox L1 H H1 σ ρ1 v r) (h : nameP i ρ1 R r) :
    ∃ ρ2 L2, R ρ2 ∧ SS ρ L H ρ2 L2 H1 ∧ EnOk K Ox L2 H1 (σ.set i (some v)) ρ2 := by
  have s0 := SS.of m s
  cases r with
  | va d =>
    obtain ⟨E, rp⟩ := o
    simp only [nameP] at h
    have free : (ρ1[i]? = some .no ∨ ∃ d, ρ1[i]? = some (.va d)) → R (ρ1.set i (.va d)) → ∃ ρ2 L2, R ρ2 ∧ SS ρ L H ρ2 L2 H1 ∧ EnOk K Ox L2 H1 (σ.set i (some v)) ρ2 := by
      intro q h
      exact ⟨_, L1, h, s0.trans (SS.of (mv_set (q.elim .inl fun z => .inr (.inl z))) .refl), E.setVa q rp⟩
    split at h
    · exact free (.inl (by assumption)) h
    · exact free (.inr ⟨_, by assumption⟩) h
    · rename_i d0 q
      have E2 := E.empty i .no rfl
      have li : i < ρ1.length := lt_of_get q
      have le : ∀ b, Ow Ox (lessL L1 i) b → Ow Ox L1 b := fun b z => z.elim .inl fun ⟨j, q⟩ => .inr ⟨j, by
        unfold lessL at q
        split at q
        · cases q
        · exact q⟩
      have E3 := E2.setVa (i := i) (d := d) (v := v) (.inl (List.getElem?_set_self li)) (Rep.ext (ext_less le) d rp)
      rw [List.set_set] at E3
      refine ⟨_, _, h, s0.trans ⟨fun _ _ _ e => e, fun _ z => z, fun j a z => .inl ⟨j, ?_⟩, fun j e z => ?_⟩, E3⟩
      · unfold lessL at z
        split at z
        · cases z
        · exact z
      · have ne : j ≠ i := fun y => by
          subst y
          rw [z] at q
          cases q
        refine ⟨by unfold lessL; rw [if_neg ne], e, ?_⟩
        rw [List.getElem?_set_ne (Ne.symm ne)]
        exact z
    · exact h.elim
  | fr d =>
    obtain ⟨a, rfl, na, E, rp⟩ := o
    simp only [nameP] at h
    have nA : ¬ Ox a := fun z => E0.ext a z na
    have add : ∀ {Lx : LA} {ρx : En}, SS ρ L H ρx Lx H1 → (∀ j d', ρx[j]? = some (.mu d') → j ≠ i) → ∀ ρy, (∀ j, j ≠ i → ρy[j]? = ρx[j]?) → SS ρ L H ρy (plusL Lx i a) H1 := by
      intro Lx ρx sx nm ρy hy
      refine ⟨sx.st, sx.tk, fun j b z => ?_, fun j e z => ?_⟩
      · unfold plusL at z
        split at z
        · cases z
          exact .inr na
        · exact sx.ad j b z
      · obtain ⟨e1, d1, q1⟩ := sx.mu j e z
        have ne := nm j d1 q1
        exact ⟨by unfold plusL; rw [if_neg ne]; exact e1, d1, by rw [hy j ne]; exact q1⟩
    have free : (ρ1[i]? = some .no ∨ ∃ d, ρ1[i]? = some (.va d)) → R (ρ1.set i (.ow d)) → ∃ ρ2 L2, R ρ2 ∧ SS ρ L H ρ2 L2 H1 ∧ EnOk K Ox L2 H1 (σ.set i (some (.ref a))) ρ2 := by
      intro q h
      refine ⟨_, _, h, add s0 (fun j d' z y => ?_) _ fun j ne => List.getElem?_set_ne (Ne.symm ne), E.setOw nA q rp⟩
      subst y
      rcases q with q | ⟨_, q⟩ <;> (rw [z] at q; cases q)
    split at h
    · exact free (.inl (by assumption)) h
    · exact free (.inr ⟨_, by assumption⟩) h
    · rename_i d0 q
      have li : i < ρ1.length := lt_of_get q
      have E2 := E.empty i .no rfl
      have le : ∀ b, plusA (Ow Ox (lessL L1 i)) a b → plusA (Ow Ox L1) a b := fun b z => z.elim (fun z => .inl (z.elim .inl fun ⟨j, q⟩ => .inr ⟨j, by
        unfold lessL at q
        split at q
        · cases q
        · exact q⟩)) .inr
      have E3 := E2.setOw (i := i) (d := d) nA (.inl (List.getElem?_set_self li)) (rp.ext (ext_less le) rfl)
      rw [List.set_set] at E3
      have s1 : SS ρ L H (ρ1.set i .no) (lessL L1 i) H1 := s0.trans ⟨fun _ _ _ e => e, fun _ z => z, fun j b z => .inl ⟨j, by
        unfold lessL at z
        split at z
        · cases z
        · exact z⟩, fun j e z => by
          have ne : j ≠ i := fun y => by
            subst y
            rw [z] at q
            cases q
          refine ⟨by unfold lessL; rw [if_neg ne], e, ?_⟩
          rw [List.getElem?_set_ne (Ne.symm ne)]
          exact z⟩
      refine ⟨_, _, h, add s1 (fun j d' z y => ?_) _ fun j ne => ?_, E3⟩
      · subst y
        rw [List.getElem?_set_self li] at z
        cases z
      · rw [List.getElem?_set_ne (Ne.symm ne), List.getElem?_set_ne (Ne.symm ne)]
    · exact h.elim
  | vw j => exact h.elim
/-- a new list given to a name -/
theorem name_fr {a : Addr} {d : D} {i : Nat} {R : En → Prop} (s0 : SS ρ L H ρ1 L1 H1) (na : H a = none) (nA : ¬ Ox a) (E : EnOk K (plusA Ox a) L1 H1 σ ρ1) (rp : OwRep K (plusA (Ow Ox L1) a) H1 a d) (h : nameP i ρ1 R (.fr d)) :
    ∃ ρ2 L2, R ρ2 ∧ SS ρ L H ρ2 L2 H1 ∧ EnOk K Ox L2 H1 (σ.set i (some (.ref a))) ρ2 ∧ ∀ j b, L2 j = some b → L1 j = some b ∨ b = a := by
  simp only [nameP] at h
  have add : ∀ {Lx : LA} {ρx : En}, SS ρ L H ρx Lx H1 → (∀ j d', ρx[j]? = some (.mu d') → j ≠ i) → ∀ ρy, (∀ j, j ≠ i → ρy[j]? = ρx[j]?) → SS ρ L H ρy (plusL Lx i a) H1 := by
    intro Lx ρx sx nm ρy hy
    refine ⟨sx.st, sx.tk, fun j b z => ?_, fun j e z => ?_⟩
    · unfold plusL at z
      split at z
      · cases z
        exact .inr na
      · exact sx.ad j b z
    · obtain ⟨e1, d1, q1⟩ := sx.mu j e z
      have ne := nm j d1 q1
      exact ⟨by unfold plusL; rw [if_neg ne]; exact e1, d1, by rw [hy j ne]; exact q1⟩
  have free : (ρ1[i]? = some .no ∨ ∃ d, ρ1[i]? = some (.va d)) → R (ρ1.set i (.ow d)) → ∃ ρ2 L2, R ρ2 ∧ SS ρ L H ρ2 L2 H1 ∧ EnOk K Ox L2 H1 (σ.set i (some (.ref a))) ρ2 ∧ ∀ j b, L2 j = some b → L1 j = some b ∨ b = a := by
    intro q h
    refine ⟨_, _, h, add s0 (fun j d' z y => ?_) _ fun j ne => List.getElem?_set_ne (Ne.symm ne), E.setOw nA q rp, fun j b z => ?_⟩
    · subst y
      rcases q with q | ⟨_, q⟩ <;> (rw [z] at q; cases q)
    · unfold plusL at z
      split at z
      · cases z
        exact .inr rfl
      · exact .inl z
  split at h
  · exact free (.inl (by assumption)) h
  · exact free (.inr ⟨_, by assumption⟩) h
  · rename_i d0 q
    have li : i < ρ1.length := lt_of_get q
    have E2 := E.empty i .no rfl
    have le : ∀ b, plusA (Ow Ox (lessL L1 i)) a b → plusA (Ow Ox L1) a b := fun b z => z.elim (fun z => .inl (z.elim .inl fun ⟨j, q⟩ => .inr ⟨j, by
      unfold lessL at q
      split at q
      · cases q
      · exact q⟩)) .inr
    have E3 := E2.setOw (i := i) (d := d) nA (.inl (List.getElem?_set_self li)) (rp.ext (ext_less le) rfl)
    rw [List.set_set] at E3
    have s1 : SS ρ L H (ρ1.set i .no) (lessL L1 i) H1 := s0.trans ⟨fun _ _ _ e => e, fun _ z => z, fun j b z => .inl ⟨j, by
      unfold lessL at z
      split at z
      · cases z
      · exact z⟩, fun j e z => by
        have ne : j ≠ i := fun y => by
          subst y
          rw [z] at q
          cases q
        refine ⟨by unfold lessL; rw [if_neg ne], e, ?_⟩
        rw [List.getElem?_set_ne (Ne.symm ne)]
        exact z⟩
    refine ⟨_, _, h, add s1 (fun j d' z y => ?_) _ fun j ne => ?_, E3, fun j b z => ?_⟩
    · subst y
      rw [List.getElem?_set_self li] at z
      cases z
    · rw [List.getElem?_set_ne (Ne.symm ne), List.getElem?_set_ne (Ne.symm ne)]
    · unfold plusL at z
      split at z
      · cases z
        exact .inr rfl
      · unfold lessL at z
        split at z
        · cases z
        · exact .inl z
  · exact h.elim
/-- what several expressions leave: data, and new lists -/
inductive Its (K : Fg) (O : AS) (H : Hp) : List Addr → List V → List Rv → Prop where
  | nil : Its K O H [] [] []
  | va {fa : List Addr} {vs : List V} {rs : List Rv} {v : V} {d : D} : Rep K O H d v → Its K O H fa vs rs → Its K O H fa (v :: vs) (.va d :: rs)
  | fr {fa : List Addr} {vs : List V} {rs : List Rv} {a : Addr} {d : D} : OwRep K O H a d → Its K O H fa vs rs → Its K O H (a :: fa) (.ref a :: vs) (.fr d :: rs)
theorem Its.ext {O O' : AS} {fa : List Addr} {vs : List V} {rs : List Rv} (x : Ext O H O' H) (h : Its K O H fa vs rs) : Its K O' H fa vs rs := by
  induction h with
  | nil => exact .nil
  | va h _ ih => exact .va (Rep.ext x _ h) ih
  | fr h _ ih => exact .fr (h.ext x rfl) ih
def plusS (Ox : AS) (fa : List Addr) : AS := fun b => Ox b ∨ b ∈ fa
theorem plusS_nil : plusS Ox [] = Ox := funext fun b => propext ⟨fun h => h.elim id fun z => (nomatch z), fun h => .inl h⟩
theorem plusS_cons {a : Addr} {fa : List Addr} : plusS Ox (a :: fa) = plusA (plusS Ox fa) a := funext fun b => propext ⟨fun h => by
  rcases h with h | h
  · exact .inl (.inl h)
  · rcases List.mem_cons.mp h with h | h
    · exact .inr h
    · exact .inl (.inr h), fun h => by
  rcases h with (h | h) | h
  · exact .inl h
  · exact .inr (List.mem_cons_of_mem _ h)
  · exact .inr (h ▸ List.mem_cons_self)⟩
theorem plusS_two {a : Addr} {fa : List Addr} : plusS (plusA Ox a) fa = plusS Ox (a :: fa) := funext fun b => propext ⟨fun h => by
  rcases h with (h | h) | h
  · exact .inl h
  · exact .inr (h ▸ List.mem_cons_self)
  · exact .inr (List.mem_cons_of_mem _ h), fun h => by
  rcases h with h | h
  · exact .inl (.inl h)
  · rcases List.mem_cons.mp h with h | h
    · exact .inl (.inr h)
    · exact .inr h⟩
theorem ow_plusA {a : Addr} : Ow (plusA Ox a) L = plusA (Ow Ox L) a := funext fun _ => propext ow_plus
def RsOk (K : Fg) (Ox : AS) (L' : LA) (H H' : Hp) (σ : Sg) (ρ' : En) (vs : List V) (rs : List Rv) : Prop :=
  ∃ fa : List Addr, fa.Nodup ∧ (∀ a ∈ fa, H a = none ∧ ¬ Ox a) ∧ EnOk K (plusS Ox fa) L' H' σ ρ' ∧ Its K (Ow (plusS Ox fa) L') H' fa vs rs
def tRs (K : Fg) (n : Nat) (f : En → (List Rv → En → Prop) → Prop) : TA := fun σ H Q => ∃ Ox L ρ R, EnOk K Ox L H σ ρ ∧ f ρ R ∧
  ∀ rs ρ' L' vs H', R rs ρ' → Mv ρ L ρ' L' → Stp L H H' → RsOk K Ox L' H H' σ ρ' vs rs → vs.length = n → Q vs H'
theorem par_rs {R : En → Prop} : ∀ {is : List Nat} {rs : List Rv} {vs : List V} {fa : List Addr} {ρ1 : En} {L1 : LA} {σ1 : Sg}, SS ρ L H ρ1 L1 H1 → EnOk K (plusS Ox fa) L1 H1 σ1 ρ1 → fa.Nodup → (∀ a ∈ fa, H a = none ∧ ¬ Ox a) →
    Its K (Ow (plusS Ox fa) L1) H1 fa vs rs → parP is rs ρ1 R → ∃ ρ2 L2, R ρ2 ∧ SS ρ L H ρ2 L2 H1 ∧ EnOk K Ox L2 H1 ((is.zip vs).foldl (fun s p => s.set p.1 (some p.2)) σ1) ρ2
  | [], [], vs, fa, ρ1, L1, σ1, s, E1, _, _, r, h => by
    cases r
    rw [plusS_nil] at E1
    exact ⟨ρ1, L1, h, s, E1⟩
  | [], _ :: _, _, _, _, _, _, _, _, _, _, _, h => by simp [parP] at h
  | _ :: _, [], _, _, _, _, _, _, _, _, _, _, h => by simp [parP] at h
  | i :: is, r :: rs, vs, fa, ρ1, L1, σ1, s, E1, nd, nf, its, h => by
    rw [parP] at h
    cases its with
    | va r1 r2 =>
      obtain ⟨ρ2, L2, h2, s2, E2⟩ := name_ok (r := .va _) E1 .refl .refl ⟨E1, r1⟩ h
      exact par_rs (is := is) (rs := rs) (s.trans s2) E2 nd nf (r2.ext s2.ext) h2
    | fr r1 r2 =>
      rename_i fa vs a d
      have na := nf a List.mem_cons_self
      have nd' := List.nodup_cons.mp nd
      rw [plusS_cons] at E1 r1 r2
      rw [ow_plusA] at r1
      obtain ⟨ρ2, L2, h2, s2, E2, hl⟩ := name_fr s na.1 (fun z => z.elim na.2 nd'.1) E1 r1 h
      refine par_rs (is := is) (rs := rs) s2 E2 nd'.2 (fun b hb => nf b (List.mem_cons_of_mem _ hb)) (r2.ext ?_) h2
      refine ext_less fun b z => ?_
      rcases z with z | ⟨j, z⟩
      · exact .inl (.inl z)
      · rcases hl j b z with q | q
        · exact .inr ⟨j, q⟩
        · exact .inl (.inr q)
/-- a returned value -/
theorem ret_ok {v : V} {r : Rv} {R : Rv → En → Prop} (E0 : EnOk K Ox L H σ ρ) (m : Mv ρ L ρ1 L1) (s : Stp L H H1) (o : RvOk K Ox L1 H H1 σ ρ1 v r) (h : retP ρ1 R r) :
    ∃ r' ρ2 L2, R r' ρ2 ∧ SS ρ L H ρ2 L2 H1 ∧ RtOk K Ox L ρ H L2 H1 σ ρ2 v r' := by
  have s0 := SS.of m s
  cases r with
  | va d => exact ⟨_, _, _, h, s0, o⟩
  | fr d =>
    obtain ⟨a, e, n, q⟩ := o
    exact ⟨_, _, _, h, s0, a, e, .inl n, q⟩
  | vw i =>
    obtain ⟨E, e⟩ := o
    simp only [retP] at h
    split at h
    · rename_i d q
      obtain ⟨a, e1, e2, rp⟩ := E.ow i d (.inl q)
      rw [e] at e2
      cases e2
      have li : i < ρ1.length := lt_of_get q
      have Em := E.empty i .no rfl
      have le : ∀ j b, lessL L1 i j = some b → j ≠ i ∧ L1 j = some b := fun j b z => by
        unfold lessL at z
        split at z
        · cases z
        · exact ⟨by assumption, z⟩
      have iff : ∀ b, plusA (Ow Ox (lessL L1 i)) a b ↔ Ow Ox L1 b := by
        intro b
        constructor
        · rintro ((z | ⟨j, z⟩) | z)
          · exact .inl z
          · exact .inr ⟨j, (le j b z).2⟩
          · exact .inr ⟨i, by rw [z]; exact e1⟩
        · rintro (z | ⟨j, z⟩)
          · exact .inl (.inl z)
          · by_cases hj : j = i
            · subst hj
              rw [e1] at z
              cases z
              exact .inr rfl
            · exact .inl (.inr ⟨j, by unfold lessL; rw [if_neg hj]; exact z⟩)
      have x : Ext (Ow Ox L1) H1 (Ow (plusA Ox a) (lessL L1 i)) H1 := ext_ow fun b => ow_plus.trans (iff b)
      have fr : FrA L ρ H a := by
        obtain ⟨f, z⟩ := E0.li i a (m.le i a e1)
        rcases z with z | z
        · exact .inr ⟨i, f, m.le i a e1, z⟩
        · obtain ⟨_, d', y⟩ := m.mu i f z
          rw [q] at y
          cases y
      have Ep : EnOk K (plusA Ox a) (lessL L1 i) H1 σ (ρ1.set i .no) := by
        have xE : Ext (Ow Ox (lessL L1 i)) H1 (Ow (plusA Ox a) (lessL L1 i)) H1 → True := fun _ => trivial
        refine ⟨Em.len, Em.nd, fun b z => z.elim (Em.ext b) fun z => by rw [z]; exact E.trk (.inr ⟨i, e1⟩), fun j b z y => ?_, fun j f y => ?_, fun j f y => ?_, Em.li⟩
        · rcases y with y | y
          · exact Em.dis j b z y
          · obtain ⟨ne, z⟩ := le j b z
            exact ne (E.nd j i a (y ▸ z) e1)
        · rcases get_set y with ⟨_, y⟩ | ⟨_, y⟩
          · cases y
          · obtain ⟨u, e3, r3⟩ := E.va j f y
            exact ⟨u, e3, Rep.ext x f r3⟩
        · have ne : i ≠ j := fun z => by
            subst z
            rw [List.getElem?_set_self li] at y
            rcases y with y | y <;> cases y
          rw [List.getElem?_set_ne ne] at y
          obtain ⟨b, e3, e5, r3⟩ := E.ow j f y
          exact ⟨b, by unfold lessL; rw [if_neg (Ne.symm ne)]; exact e3, e5, r3.ext x rfl⟩
      refine ⟨_, _, _, h, s0.trans ⟨fun _ _ _ e => e, fun _ z => z, fun j b z => .inl ⟨j, (le j b z).2⟩, fun j f z => ?_⟩, a, rfl, fr, Ep, rp.ext (ext_ow fun b => iff b) rfl⟩
      have ne : j ≠ i := fun y => by
        subst y
        rw [z] at q
        cases q
      refine ⟨by unfold lessL; rw [if_neg ne], f, ?_⟩
      rw [List.getElem?_set_ne (Ne.symm ne)]
      exact z
    · rename_i d q
      obtain ⟨u, e2, rp⟩ := E.va i d q
      rw [e] at e2
      cases e2
      exact ⟨_, _, _, h, s0, E, rp⟩
    · exact h.elim
end
end DL

namespace DL
open PySem PySem.Spec PyProof.Rows L2

/-! the statements against the text -/
def notComp : Expr → Bool
  | .ListComp _ _ _ _ => false
  | .SetComp _ _ _ _ => false
  | .DictComp _ _ _ _ _ => false
  | _ => true
def swOff (p : Pos) : Expr → Bool
  | .ListComp _ _ _ q => !(p.line == q.line)
  | .SetComp _ _ _ _ => false
  | .DictComp _ _ _ _ _ => false
  | _ => true
def notName : Expr → Bool
  | .Name _ _ => false
  | _ => true
theorem sw_non {e : Expr} {t : Option Expr} {l : Nat} {env : Env} (h : notComp e = true) : swapsWith e t l env = pure false := by
  cases e <;> first | rfl | cases h
theorem sw_off {e : Expr} {n : Str} {p : Pos} {l : Nat} {env : Env} (h : swOff p e = true) : swapsWith e (some (.Name n p)) l env = pure false := by
  cases e with
  | ListComp a b c q =>
    have h' : (p.line == q.line) = false := by simpa [swOff] using h
    unfold swapsWith
    simp only [Expr.pos, h', Bool.and_false, Bool.false_and]
  | SetComp => cases h
  | DictComp => cases h
  | _ => rfl
theorem sw_other {e t : Expr} {l : Nat} {env : Env} (h : notName t = true) : swapsWith e (some t) l env = pure false := by
  cases t with
  | Name => cases h
  | _ => cases e <;> rfl

/-- when a tuple's stores go from the left -/
def plainSt (sc : Scope) : List Expr → Expr → Bool
  | ts, .Tuple vs _ _ => !(ts.length == 2 || ts.length == 3) || !(vs.length == ts.length) || ((!(vs.any fun | .Starred .. => true | _ => false)) && vs.all (foldedForSure 8)) || !(ts.all fun | .Name x _ => decide (sc.names.lookup x = some .local) | _ => false)
  | _, _ => true
theorem fm_len {α β : Type} {f : α → Option β} : ∀ {l : List α}, (l.filterMap f).length = l.length → ∀ x ∈ l, (f x).isSome = true
  | [], _, _, h => by cases h
  | a :: l, e, x, h => by
    rw [List.filterMap_cons] at e
    have le : (l.filterMap f).length ≤ l.length := List.length_filterMap_le f l
    cases q : f a with
    | none =>
      rw [q] at e
      dsimp only at e
      rw [List.length_cons] at e
      omega
    | some b =>
      rw [q] at e
      dsimp only at e
      rw [List.length_cons, List.length_cons] at e
      rcases List.mem_cons.mp h with rfl | h
      · rw [q]
        rfl
      · exact fm_len (by omega) x h
theorem st_plain {ts : List Expr} {e : Expr} {k : Nat} {p : Pos} {env : Env} (h : plainSt env.scope ts e = true) : swappedStores [.Tuple ts k p] e env = pure none := by
  cases e with
  | Tuple vs kk q =>
    unfold swappedStores
    dsimp only
    simp only [plainSt, Bool.or_eq_true] at h
    split
    · rfl
    · rename_i c1
      simp only [Bool.not_or, Bool.or_eq_true, Bool.and_eq_true, Bool.not_eq_true', bne_iff_ne, not_or, not_and, ne_eq] at c1
      split
      · rfl
      · rename_i c2
        split
        · rfl
        · rename_i c3
          split
          · rfl
          · rename_i c4
            exfalso
            rcases h with ((h | h) | h) | h
            · simp at c1 h
              omega
            · simp at c1 h
              omega
            · rw [Bool.and_eq_true] at h
              exact c4 h.2
            · simp only [Bool.not_eq_true', List.all_eq_false] at h
              obtain ⟨x, hx, hx2⟩ := h
              simp only [bne_iff_ne, ne_eq, Bool.or_eq_true, not_or, Decidable.not_not] at c3
              have := fm_len c3.1 x hx
              have kd : ∀ y, env.kindOf y = env.scope.names.lookup y := fun _ => rfl
              cases x <;> simp at hx2 this
              rw [kd] at this
              exact absurd this.1 hx2
  | _ => rfl
def parOk (vs : List Expr) : Bool := (!(vs.any fun | .Starred .. => true | _ => false)) && !(vs.all (foldedForSure 8)) && !(vs.all (constantsAlone 8))
theorem st_two {x y : Str} {px py p q : Pos} {k k' : Nat} {a b : Expr} {env : Env} (hk : env.scope.kind = .function) (hx : env.scope.names.lookup x = some .local) (hy : env.scope.names.lookup y = some .local) (hl : (py.line == px.line) = true) (hn : (y == x) = false)
    (h : parOk [a, b] = true) : swappedStores [.Tuple [.Name x px, .Name y py] k p] (.Tuple [a, b] k' q) env = pure (some [x, y]) := by
  have kx : env.kindOf x = some .local := hx
  have ky : env.kindOf y = some .local := hy
  have hb : env.blockKind = .function := by unfold Env.blockKind; rw [hk]; rfl
  unfold parOk at h
  obtain ⟨h1, h3⟩ := and3 h
  obtain ⟨h1, h2⟩ := and3 h1
  simp only [Bool.not_eq_true'] at h1 h2 h3
  have hl' : py.line = px.line := by simpa using hl
  have hne : ¬ y = x := by simpa using hn
  unfold swappedStores
  dsimp only
  split
  · rename_i c1
    simp [hb] at c1
  · split
    · rename_i c2
      exact absurd (h1.symm.trans c2) nofun
    · split
      · rename_i c3
        simp [kx, ky, hl', Expr.pos, List.eraseDups, List.eraseDupsBy, List.eraseDupsBy.loop, hn, hne] at c3
      · split
        · rename_i c4
          exact absurd (h2.symm.trans c4) nofun
        · split
          · rename_i c5
            exact absurd (h3.symm.trans c5) nofun
          · simp [kx, ky, hl', Expr.pos]
theorem st_three {x y z : Str} {px py pz p q : Pos} {k k' : Nat} {a b c : Expr} {env : Env} (hk : env.scope.kind = .function) (hx : env.scope.names.lookup x = some .local) (hy : env.scope.names.lookup y = some .local) (hz : env.scope.names.lookup z = some .local)
    (hl : (py.line == px.line) = true) (hl2 : (pz.line == px.line) = true) (hn : (y == x) = false) (hn2 : (z == x) = false) (hn3 : (z == y) = false)
    (h : parOk [a, b, c] = true) : swappedStores [.Tuple [.Name x px, .Name y py, .Name z pz] k p] (.Tuple [a, b, c] k' q) env = pure (some [x, y, z]) := by
  have kx : env.kindOf x = some .local := hx
  have ky : env.kindOf y = some .local := hy
  have kz : env.kindOf z = some .local := hz
  have hb : env.blockKind = .function := by unfold Env.blockKind; rw [hk]; rfl
  unfold parOk at h
  obtain ⟨h1, h3⟩ := and3 h
  obtain ⟨h1, h2⟩ := and3 h1
  simp only [Bool.not_eq_true'] at h1 h2 h3
  have hl' : py.line = px.line := by simpa using hl
  have hl2' : pz.line = px.line := by simpa using hl2
  have hne : ¬ y = x := by simpa using hn
  have hne2 : ¬ z = x := by simpa using hn2
  have hne3 : ¬ z = y := by simpa using hn3
  unfold swappedStores
  dsimp only
  split
  · rename_i c1
    simp [hb] at c1
  · split
    · rename_i c2
      exact absurd (h1.symm.trans c2) nofun
    · split
      · rename_i c3
        simp [kx, ky, kz, hl2', hl', Expr.pos, List.eraseDups, List.eraseDupsBy, List.eraseDupsBy.loop, hn, hne, hn2, hne2, hn3, hne3] at c3
      · split
        · rename_i c4
          exact absurd (h2.symm.trans c4) nofun
        · split
          · rename_i c5
            exact absurd (h3.symm.trans c5) nofun
          · simp [kx, ky, kz, hl2', hl', Expr.pos]
end DL

namespace DL
open PySem PySem.Spec PyProof.Rows L2

def lclB (c : Mc) (i : Nat) (x : Str) : Bool := decide (c.N[i]? = some x) && decide (c.sc.names.lookup x = some .local)
def ownAny (scope : Scope) (y : Str) : Bool := scope.names.any fun (n, k) => n == y && (k == .local || k == .cell)
mutual
def matS : Sm → Mc → Stmt → Bool
  | .asg (.name i) e, c, st => match st with
    | .Assign [.Name x p] v _ => locB c i x && swOff p v && mat e c v
    | _ => false
  | .asg (.tup ts) e, c, st => match st with
    | .Assign [.Tuple es k p] v _ => plainSt c.sc es v && matg c (.tup ts) (.Tuple es k p) && mat e c v
    | _ => false
  | .alt i e, c, st => match e, st with
    | .comp g it t e own, .Assign [.Name y p] (.ListComp elt [⟨tg, iter, ifs, 0⟩] scope q) _ => lclB c i y && decide (c.sc.kind = .function) && (p.line == q.line) && !(ownAny scope y) && mat (.comp g it t e own) c (.ListComp elt [⟨tg, iter, ifs, 0⟩] scope q)
    | _, _ => false
  | .par is es, c, st => match is, st with
    | [i, j], .Assign [.Tuple [.Name x px, .Name y py] _ _] (.Tuple [a, b] _ _) _ => lclB c i x && lclB c j y && decide (c.sc.kind = .function) && (py.line == px.line) && decide (i ≠ j) && !(y == x) && parOk [a, b] && mats es c [a, b]
    | [i, j, l], .Assign [.Tuple [.Name x px, .Name y py, .Name z pz] _ _] (.Tuple [a, b, d] _ _) _ => lclB c i x && lclB c j y && lclB c l z && decide (c.sc.kind = .function) && (py.line == px.line) && (pz.line == px.line) &&
        decide (i ≠ j ∧ i ≠ l ∧ j ≠ l) && !(y == x) && !(z == x) && !(z == y) && parOk [a, b, d] && mats es c [a, b, d]
    | _, _ => false
  | .setI j i e, c, st => match st with
    | .Assign [.Subscript (.Name n _) r _] v _ => nmB c j n && plainIxB r && mat i c r && mat e c v
    | _ => false
  | .app j e, c, st => match st with
    | .Expr (.Call (.Attribute (.Name n _) f ap) [a] [] cp) _ => nmB c j n && decide (f = "append") && (ap.endLine == cp.line) && noStar a && mat e c a
    | _ => false
  | .ext j e, c, st => match st with
    | .Expr (.Call (.Attribute (.Name n _) f ap) [a] [] cp) _ => nmB c j n && decide (f = "extend") && (ap.endLine == cp.line) && noStar a && mat e c a
    | _ => false
  | .expr e, c, st => match st with
    | .Expr v _ => notComp v && mat e c v
    | _ => false
  | .iff t a b, c, st => match st with
    | .If u p q _ => mat t c u && matSs a c p && matSs b c q
    | _ => false
  | .forr g it b, c, st => match st with
    | .For tg iter body [] _ => noSet iter && mati it c tg iter && matg c g tg && matSs b c body
    | _ => false
  | .whil t b, c, st => match st with
    | .While u body [] _ => mat t c u && matSs b c body
    | _ => false
  | .ret e, c, st => match st with
    | .Return (some v) _ => mat e c v
    | _ => false
  | .pass, c, st => match st with
    | .Pass _ => true
    | .Expr (.Constant (.str _) _ _) _ => true
    | _ => false
  | .brk, c, st => match st with
    | .Break _ => true
    | _ => false
  | .cnt, c, st => match st with
    | .Continue _ => true
    | _ => false
  | .never, c, st => true
def matSs : Sms → Mc → List Stmt → Bool
  | .nil, c, sts => sts.isEmpty
  | .cons s ss, c, sts => match sts with
    | st :: r => matS s c st && matSs ss c r
    | [] => false
end

section
variable {X : Cx} {c : Mc} {F : List Fe} {C : List D}
theorem ps_imp {st : Stmt} {t t' : TS} (h : PS X st t) (i : ∀ D σ H, t' D σ H → t D σ H) : PS X st t' := ⟨fun pins s σ H D I q => h.run pins s σ H D I (i D σ H q)⟩
theorem pss_imp {st : List Stmt} {t t' : TS} (h : PSs X st t) (i : ∀ D σ H, t' D σ H → t D σ H) : PSs X st t' := ⟨fun pins s σ H D I q => h.run pins s σ H D I (i D σ H q)⟩
theorem lcl_of (o : XOk X c F C) {i : Nat} {x : Str} (h : lclB c i x = true) : X.N[i]? = some x ∧ X.env.scope.names.lookup x = some .local := by
  unfold lclB at h
  obtain ⟨h1, h2⟩ := and3 h
  rw [o.N, o.sc]
  exact ⟨of_decide_eq_true h1, of_decide_eq_true h2⟩
/-- a sub-run -/
theorem sub_run {K : Fg} {Ox : AS} {L L1 : LA} {ρ ρ1 : En} {H H1 : Hp} {σ σ1 : Sg} {D : Ends} {f : En → (Out → En → Prop) → Prop} {R : Out → En → Prop} (E : EnOk K Ox L H σ ρ) (E1 : EnOk K Ox L1 H1 σ1 ρ1) (s1 : SS ρ L H ρ1 L1 H1) (h : f ρ1 R)
    (k : ∀ o ρ' L' σ' H', R o ρ' → SS ρ L H ρ' L' H' → EndOk K Ox L ρ H D L' H' σ' ρ' o) : tSm K f D σ1 H1 :=
  ⟨Ox, L1, ρ1, R, E1, h, fun o ρ' L' σ' H' hR s2 => (k o ρ' L' σ' H' hR (s1.trans s2)).from s1 E E1⟩
theorem sws_other {e t : Expr} {l : Nat} {env : Env} (h : notName t = true) : swapsWithSole [t] e l env = pure false := sw_other h
theorem sub_asg {o r : Expr} {p : Pos} {env : Env} (h : plainIxB r = true) : ∀ v, assign (.Subscript o r p) env v = (do
      let ov ← holding [v] (eval o env)
      let iv ← holding [v, ov] (eval r env)
      standAt p
      holding [v, ov, iv] (setItem ov iv v)
      release [v, ov, iv] []) := by
  intro v
  cases r <;> first | rfl | cases h
theorem hasL_at {K : Fg} {Ox : AS} {L : LA} {ρ : En} {H : Hp} {σ : Sg} (E : EnOk K Ox L H σ ρ) {j : Nat} (h : hasL ρ j = true) : ∃ a, σ[j]? = some (some (.ref a)) := by
  unfold hasL at h
  split at h
  · obtain ⟨a, _, e, _⟩ := E.ow j _ (.inl (by assumption))
    exact ⟨a, e⟩
  · obtain ⟨a, _, e, _⟩ := E.ow j _ (.inr (by assumption))
    exact ⟨a, e⟩
  · cases h
theorem set_rd {i : Nat} {e : Ex} {D : Ends} {σ : Sg} {H : Hp} (h : tSm X.K (sm F C (.alt i e)) D σ H) : tR X.K (ex F C e) σ H fun x H1 => gName i x σ H1 D.nx := by
  obtain ⟨Ox, L, ρ, R, E, h, k⟩ := h
  simp only [sm] at h
  refine ⟨Ox, L, ρ, _, E, h, fun r ρ1 L1 v H1 h1 m1 s1 o1 => ?_⟩
  obtain ⟨ρ2, L2, h2, ss, E2⟩ := name_ok E m1 s1 o1 h1
  exact k .nxt ρ2 L2 _ H1 h2 ss E2
theorem exr_ok : ∀ (es : Exs) {X : Cx} {c : Mc} {xs : List Expr}, XOk X c F C → mats es c xs = true → PA X xs (tRs X.K xs.length (exr F C es))
  | .nil, X, c, xs, o, m => by
    cases xs with
    | nil =>
      refine pa_imp pa_nil ?_
      rintro σ H Q ⟨Ox, L, ρ, R, E, h, k⟩
      simp only [exr] at h
      exact k _ _ _ _ H h .refl .refl ⟨[], .nil, fun _ z => (nomatch z), by rw [plusS_nil]; exact E, .nil⟩ rfl
    | cons _ _ => simp [mats] at m
  | .cons e es, X, c, xs, o, m => by
    cases xs with
    | nil => simp [mats] at m
    | cons x xs =>
      simp only [mats] at m
      obtain ⟨m1, m2⟩ := and3 m
      obtain ⟨m0, m1⟩ := and3 m1
      refine pa_imp (pa_cons (ex_ok e o m1) (exr_ok es o m2) (star_cons m0)) ?_
      rintro σ H Q ⟨Ox, L, ρ, R, E, h, k⟩
      simp only [exr] at h
      refine ⟨Ox, L, ρ, _, E, h, fun r ρ1 L1 v H1 h1 m1 s1 o1 => ?_⟩
      have none0 : ∀ {a : Addr}, H1 a = none → H a = none := fun {a} z => by
        cases q : H a with
        | none => rfl
        | some o => exact absurd z (s1.tk a (by rw [q]; exact nofun))
      cases r with
      | va d =>
        refine ⟨Ox, L1, ρ1, _, o1.1, h1, fun rs ρ2 L2 vs H2 h2 m2 s2 ⟨fa, nd, nf, E2, its⟩ ln => ?_⟩
        refine k _ _ L2 _ H2 h2 (m1.trans m2) (s1.trans m1 s2) ⟨fa, nd, fun a ha => ⟨none0 (nf a ha).1, (nf a ha).2⟩, E2, .va (Rep.ext (fun b o nb e => ⟨fun z => ?_, s2.st b o (fun i q => nb (.inr ⟨i, q⟩)) e⟩) d o1.2) its⟩ (by simp [ln])
        rcases z with (z | z) | ⟨j, z⟩
        · exact nb (.inl z)
        · rw [(nf b z).1] at e
          cases e
        · exact nb (.inr ⟨j, m2.le j b z⟩)
      | fr d =>
        obtain ⟨a, rfl, na, E1, rp⟩ := o1
        refine ⟨plusA Ox a, L1, ρ1, _, E1, h1, fun rs ρ2 L2 vs H2 h2 m2 s2 ⟨fa, nd, nf, E2, its⟩ ln => ?_⟩
        rw [plusS_two] at E2 its
        have la : ∀ i, L1 i ≠ some a := fun i z => E1.dis i a z (.inr rfl)
        refine k _ _ L2 _ H2 h2 (m1.trans m2) (s1.trans m1 s2) ⟨a :: fa, List.nodup_cons.mpr ⟨fun z => (nf a z).2 (.inr rfl), nd⟩, fun b hb => ?_, E2, .fr (rp.ext (fun b o nb e => ⟨fun z => ?_, s2.st b o (fun i q => nb (.inl (.inr ⟨i, q⟩))) e⟩) ?_) its⟩ (by simp [ln])
        · rcases List.mem_cons.mp hb with rfl | hb
          · exact ⟨na, fun z => E.ext _ z na⟩
          · exact ⟨none0 (nf b hb).1, fun z => (nf b hb).2 (.inl z)⟩
        · rcases z with (z | z) | ⟨j, z⟩
          · exact nb (.inl (.inl z))
          · rcases List.mem_cons.mp z with z | z
            · exact nb (.inr z)
            · rw [(nf b z).1] at e
              cases e
          · exact nb (.inl (.inr ⟨j, m2.le j b z⟩))
        · obtain ⟨ds, ys, _, e, _⟩ := rp
          rw [e]
          exact (s2.st a _ la e).symm
      | vw i => exact h1.elim
mutual
theorem sm_ok (hp : PassesOwn (model X.prog X.w) X.A X.env X.xe) (o : XOk X c F C) : ∀ (s : Sm) {st : Stmt}, matS s c st = true → PS X st (tSm X.K (sm F C s))
  | .asg (.name i) e, st, m => by
    unfold matS at m
    split at m
    · obtain ⟨m1, m3⟩ := and3 m
      obtain ⟨m1, m2⟩ := and3 m1
      obtain ⟨h1, h2, h3⟩ := loc_of o m1
      refine ps_imp (ps_set o.nd h1 h2 (ex_ok e o m3) (sw_off m2) h3) fun D σ H h => set_rd (i := i) (e := e) ?_
      obtain ⟨Ox, L, ρ, R, E, h, k⟩ := h
      simp only [sm] at h
      exact ⟨Ox, L, ρ, R, E, by simp only [sm]; exact h, k⟩
    · cases m
  | .asg (.tup ts) e, st, m => by
    unfold matS at m
    split at m
    · obtain ⟨m1, m3⟩ := and3 m
      obtain ⟨m1, m2⟩ := and3 m1
      refine ps_imp (ps_asg (ex_ok e o m3) (tg_ok o [] (.tup ts) m2) (sws_other rfl) (st_plain (o.sc ▸ m1)) (by rfl)) ?_
      rintro D σ H ⟨Ox, L, ρ, R, E, h, k⟩
      simp only [sm] at h
      refine ⟨Ox, L, ρ, _, E, h, fun r ρ1 L1 v H1 h1 m1 s1 o1 => ?_⟩
      have h1 : valR ρ1 (fun d ρ => tgP (.tup ts) d ρ (R .nxt)) r := h1
      obtain ⟨d, q, rp⟩ := valR_rep ⟨L, ρ, E, m1⟩ o1 h1
      exact ⟨Ox, L1, ρ1, d, _, o1.en, rp, q, fun σ' ρ' r' E' mv _ => k .nxt ρ' L1 σ' H1 r' (SS.of (m1.trans mv) s1) E'⟩
    · cases m
  | .alt i e, st, m => by
    unfold matS at m
    split at m
    · rename_i g it t e own y p elt tg iter ifs scope q l
      obtain ⟨m1, mm⟩ := and3 m
      obtain ⟨m1, w4⟩ := and3 m1
      obtain ⟨m1, w3⟩ := and3 m1
      obtain ⟨w1, w2⟩ := and3 m1
      obtain ⟨hi, hl⟩ := lcl_of o w1
      unfold mat at mm
      obtain ⟨m1, m7⟩ := and3 mm
      obtain ⟨m1, m6⟩ := and3 m1
      obtain ⟨m1, m5⟩ := and3 m1
      obtain ⟨m1, m4⟩ := and3 m1
      obtain ⟨m1, m3⟩ := and3 m1
      obtain ⟨m1, m2⟩ := and3 m1
      have bo : BlkOk X.N X.env.scope scope (ownN c own) := by
        rw [o.N, o.sc]
        exact blkOk_by m3
      have hk : X.env.scope.kind = .function := by
        rw [o.sc]
        exact of_decide_eq_true w2
      have L := ps_setLc (pos := q) (spos := l) (py := p) (te := tR X.K (ex F C e)) (tt := tTs X.K (tsts F C t)) (g := tTg X.K own g) o.calm o.nd hi hl (sw_true hk hl w3 (by simpa [ownAny] using w4)) (itm_ok it o m1) bo (fun s H A cl fp => tg_ok (F := F) (C := C) (xok_blk o s H scope cl A fp) own g m5) (fun s H A cl fp => tsts_ok t (xok_blk o s H scope cl A fp) m6)
        (fun s H A cl fp => ex_ok e (xok_blk o s H scope cl A fp) m7) (fold_pure m2)
      rw [own_map] at L
      exact ps_imp L fun D σ H h => comp_imp m4 (set_rd h)
    · cases m
  | .par is es, st, m => by
    unfold matS at m
    split at m
    · rename_i i j x px y py kt pt a b k2 pt2 pos
      obtain ⟨m1, m8⟩ := and3 m
      obtain ⟨m1, m7⟩ := and3 m1
      obtain ⟨m1, m6⟩ := and3 m1
      obtain ⟨m1, m5⟩ := and3 m1
      obtain ⟨m1, m4⟩ := and3 m1
      obtain ⟨m1, m3⟩ := and3 m1
      obtain ⟨m1, m2⟩ := and3 m1
      obtain ⟨hi, hx⟩ := lcl_of o m1
      obtain ⟨hj, hy⟩ := lcl_of o m2
      have hk : X.env.scope.kind = .function := by
        rw [o.sc]
        exact of_decide_eq_true m3
      refine ps_imp (ps_par o.calm o.nd hi hj (of_decide_eq_true m5) hx hy (exr_ok es o m8) (st_two hk hx hy m4 (by simpa using m6) m7) (sws_other rfl)) ?_
      rintro D σ H ⟨Ox, L, ρ, R, E, h, k⟩
      simp only [sm] at h
      refine ⟨Ox, L, ρ, _, E, h, fun rs ρ1 L1 vs H1 q mv s1 ⟨fa, nd, nf, E1, its⟩ len => ?_⟩
      obtain ⟨ρ2, L2, h2, s2, E2⟩ := par_rs (SS.of mv s1) E1 nd nf its q
      match vs, len, E2 with
      | [v, w], _, E2 => exact ⟨v, w, rfl, k .nxt ρ2 L2 _ H1 h2 s2 E2⟩
    · rename_i i j l x px y py z pz kt pt a b d k2 pt2 pos
      obtain ⟨m1, n5⟩ := and3 m
      obtain ⟨m1, n4⟩ := and3 m1
      obtain ⟨m1, n3⟩ := and3 m1
      obtain ⟨m1, n2⟩ := and3 m1
      obtain ⟨m1, n1⟩ := and3 m1
      obtain ⟨m1, m7⟩ := and3 m1
      obtain ⟨m1, m6⟩ := and3 m1
      obtain ⟨m1, m5⟩ := and3 m1
      obtain ⟨m1, m4⟩ := and3 m1
      obtain ⟨m1, m3⟩ := and3 m1
      obtain ⟨m1, m2⟩ := and3 m1
      obtain ⟨hi, hx⟩ := lcl_of o m1
      obtain ⟨hj, hy⟩ := lcl_of o m2
      obtain ⟨hl, hz⟩ := lcl_of o m3
      have hk : X.env.scope.kind = .function := by
        rw [o.sc]
        exact of_decide_eq_true m4
      obtain ⟨d1, d2, d3⟩ := of_decide_eq_true m7
      refine ps_imp (ps_par3 o.calm o.nd hi hj hl d1 d2 d3 hx hy hz (exr_ok es o n5) (st_three hk hx hy hz m5 m6 (by simpa using n1) (by simpa using n2) (by simpa using n3) n4) (sws_other rfl)) ?_
      rintro D σ H ⟨Ox, L, ρ, R, E, h, k⟩
      simp only [sm] at h
      refine ⟨Ox, L, ρ, _, E, h, fun rs ρ1 L1 vs H1 q mv s1 ⟨fa, nd, nf, E1, its⟩ len => ?_⟩
      obtain ⟨ρ2, L2, h2, s2, E2⟩ := par_rs (SS.of mv s1) E1 nd nf its q
      match vs, len, E2 with
      | [u, v, w], _, E2 => exact ⟨u, v, w, rfl, k .nxt ρ2 L2 _ H1 h2 s2 E2⟩
    · cases m
  | .setI j i e, st, m => by
    unfold matS at m
    split at m
    · obtain ⟨m1, m4⟩ := and3 m
      obtain ⟨m1, m3⟩ := and3 m1
      obtain ⟨m1, m2⟩ := and3 m1
      refine ps_imp (ps_asg (ex_ok e o m4) (pg_sub (nm_pe o m1) (ex_ok i o m3) set_list (sub_asg m2)) (sws_other rfl) (by rfl) (by rfl)) ?_
      rintro De σ H ⟨Ox, L, ρ, R, E, h, k⟩
      simp only [sm] at h
      refine ⟨Ox, L, ρ, _, E, h, fun r ρ1 L1 v H1 ⟨hl, h1⟩ mv1 s1 o1 => ?_⟩
      -- the slot's list is there, and stays
      have fin : ∀ (s : Rv) ρ2 L2 iv H2, (∃ d k n, datA ρ2 r.av = some d ∧ s = .va (.int k) ∧
          match ρ2[j]? with
          | some (.ow (.lst ds)) => ixN ds.length k = some n ∧ R .nxt (ρ2.set j (.ow (.lst (ds.set n d))))
          | some (.mu (.lst ds)) => ixN ds.length k = some n ∧ R .nxt (ρ2.set j (.mu (.lst (ds.set n d))))
          | _ => False) → Mv ρ1 L1 ρ2 L2 → Stp L1 H1 H2 → RvOk X.K Ox L2 H1 H2 σ ρ2 iv s → ∃ a, σ[j]? = some (some (.ref a)) ∧ rSetL (.ref a) iv v H2 fun H3 => De.nx σ H3 := by
        rintro s ρ2 L2 iv H2 ⟨d, kk, n, e1, rfl, hm⟩ mv2 s2 o2
        have E2 := o2.en
        have rd : Rep X.K (Ow Ox L2) H2 d v := E2.drep ((o1.av E mv1).stp s2 mv2) e1
        have ei : iv = .int kk := int_of o2
        have go : ∀ ds (f : D → Sl), ((f = .ow) ∨ (f = .mu)) → ρ2[j]? = some (f (.lst ds)) → ixN ds.length kk = some n → R .nxt (ρ2.set j (f (.lst (ds.set n d)))) → ∃ a, σ[j]? = some (some (.ref a)) ∧ rSetL (.ref a) iv v H2 fun H3 => De.nx σ H3 := by
          intro ds f hf q hn hR
          obtain ⟨a, l1, l2, ds', xs, q1, q2, rp⟩ := E2.ow j (.lst ds) (by rcases hf with rfl | rfl; exact .inl q; exact .inr q)
          cases q1
          obtain ⟨E3, s3⟩ := E2.write (d := .lst ds) (d' := .lst (ds.set n d)) (s' := f (.lst (ds.set n d))) (xs := xs.set n v) (by rcases hf with rfl | rfl; exact .inl ⟨q, rfl⟩; exact .inr ⟨q, rfl⟩) l1 rfl (rp.set rd)
          exact ⟨a, l2, a, xs, kk, n, rfl, ei, q2, by rw [← rp.len]; exact hn, k .nxt _ L2 σ _ hR ((SS.of mv1 s1).trans ((SS.of mv2 s2).trans s3)) E3⟩
        split at hm
        · exact go _ .ow (.inl rfl) (by assumption) hm.1 hm.2
        · exact go _ .mu (.inr rfl) (by assumption) hm.1 hm.2
        · exact hm.elim
      have stay : ∃ u, σ[j]? = some (some u) ∧ tR X.K (ex F C i) σ H1 fun iv H2 => rSetL u iv v H2 fun H3 => De.nx σ H3 := by
        have slot : ∀ u, (∀ a, σ[j]? = some (some (.ref a)) → u = .ref a) → tR X.K (ex F C i) σ H1 fun iv H2 => rSetL u iv v H2 fun H3 => De.nx σ H3 := by
          intro u hu
          refine ⟨Ox, L1, ρ1, _, o1.en, h1, fun s ρ2 L2 iv H2 h2 mv2 s2 o2 => ?_⟩
          obtain ⟨a, e1, q⟩ := fin s ρ2 L2 iv H2 h2 mv2 s2 o2
          rw [hu a e1]
          exact q
        obtain ⟨a, q⟩ := hasL_at o1.en hl
        exact ⟨.ref a, q, slot _ fun b z => by
          rw [q] at z
          cases z
          rfl⟩
      exact stay
    · cases m
  | .app j e, st, m => by
    unfold matS at m
    split at m
    · rename_i n np f ap a cp ep
      obtain ⟨w1, m5⟩ := and3 m
      obtain ⟨w2, m4⟩ := and3 w1
      obtain ⟨w3, m3⟩ := and3 w2
      obtain ⟨m1, m2⟩ := and3 w3
      obtain rfl := of_decide_eq_true m2
      refine ps_imp (ps_expr (pe_bm PySem.F.plainAttrs_list PySem.F.slot_list_append PySem.F.type_list_append mt_append (nm_pe o m1) (pa_cons (ex_ok e o m5) pa_nil (star_cons m4)) (by rfl)
        (by rw [star_cons m4]; rfl) m3 (star_cons m4) (by rfl)) (sw_non rfl)) ?_
      rintro De σ H ⟨Ox, L, ρ, R, E, h, k⟩
      simp only [sm] at h
      obtain ⟨hl, h⟩ := h
      obtain ⟨a, q, sq⟩ := hasL_sq E hl
      refine ⟨.ref a, q, .inl ⟨rfl, sq⟩, Ox, L, ρ, _, E, h, fun r ρ1 L1 v H1 h1 mv1 s1 o1 => ?_⟩
      obtain ⟨d, e1, hm⟩ := h1
      have E1 := o1.en
      have rd : Rep X.K (Ow Ox L1) H1 d v := E1.drep (o1.av E mv1) e1
      have go : ∀ ds (f : D → Sl), ((f = .ow) ∨ (f = .mu)) → ρ1[j]? = some (f (.lst ds)) → ds.length < sizeLine → R .nxt (ρ1.set j (f (.lst (ds ++ [d])))) → rAppend (.ref a) [v] H1 fun _ H3 => De.nx σ H3 := by
        intro ds f hf q1 hn hR
        obtain ⟨b, l1, l2, ds', xs, q2, q3, rp⟩ := E1.ow j (.lst ds) (by rcases hf with rfl | rfl; exact .inl q1; exact .inr q1)
        cases q2
        rw [q] at l2
        cases l2
        obtain ⟨E3, s3⟩ := E1.write (d := .lst ds) (d' := .lst (ds ++ [d])) (s' := f (.lst (ds ++ [d]))) (xs := xs ++ [v]) (by rcases hf with rfl | rfl; exact .inl ⟨q1, rfl⟩; exact .inr ⟨q1, rfl⟩) l1 rfl (rp.append (RepL.cons rd RepL.nil))
        exact ⟨a, xs, v, rfl, rfl, q3, by rw [← rp.len]; exact hn, k .nxt _ L1 σ _ hR ((SS.of mv1 s1).trans s3) E3⟩
      split at hm
      · exact go _ .ow (.inl rfl) (by assumption) hm.1 hm.2
      · exact go _ .mu (.inr rfl) (by assumption) hm.1 hm.2
      · exact hm.elim
    · cases m
  | .ext j e, st, m => by
    unfold matS at m
    split at m
    · rename_i n np f ap a cp ep
      obtain ⟨w1, m5⟩ := and3 m
      obtain ⟨w2, m4⟩ := and3 w1
      obtain ⟨w3, m3⟩ := and3 w2
      obtain ⟨m1, m2⟩ := and3 w3
      obtain rfl := of_decide_eq_true m2
      refine ps_imp (ps_expr (pe_bm PySem.F.plainAttrs_list PySem.F.slot_list_extend PySem.F.type_list_extend mt_extend (nm_pe o m1) (pa_cons (ex_ok e o m5) pa_nil (star_cons m4)) (by rfl)
        (by rw [star_cons m4]; rfl) m3 (star_cons m4) (by rfl)) (sw_non rfl)) ?_
      rintro De σ H ⟨Ox, L, ρ, R, E, h, k⟩
      simp only [sm] at h
      obtain ⟨hl, h⟩ := h
      obtain ⟨a, q, sq⟩ := hasL_sq E hl
      refine ⟨.ref a, q, .inl ⟨rfl, sq⟩, Ox, L, ρ, _, E, h, fun r ρ1 L1 v H1 h1 mv1 s1 o1 => ?_⟩
      obtain ⟨es, e1, hm⟩ := h1
      have E1 := o1.en
      obtain ⟨bb, zs, rfl, hb, rz⟩ := (E1.vrep (o1.av E mv1) e1).lst
      have go : ∀ ds (f : D → Sl), ((f = .ow) ∨ (f = .mu)) → ρ1[j]? = some (f (.lst ds)) → ds.length + es.length ≤ sizeLine → R .nxt (ρ1.set j (f (.lst (ds ++ es)))) → rExtend (.ref a) [.ref bb] H1 fun _ H3 => De.nx σ H3 := by
        intro ds f hf q1 hn hR
        obtain ⟨b, l1, l2, ds', xs, q2, q3, rp⟩ := E1.ow j (.lst ds) (by rcases hf with rfl | rfl; exact .inl q1; exact .inr q1)
        cases q2
        rw [q] at l2
        cases l2
        obtain ⟨E3, s3⟩ := E1.write (d := .lst ds) (d' := .lst (ds ++ es)) (s' := f (.lst (ds ++ es))) (xs := xs ++ zs) (by rcases hf with rfl | rfl; exact .inl ⟨q1, rfl⟩; exact .inr ⟨q1, rfl⟩) l1 rfl (rp.append rz)
        exact ⟨a, bb, xs, zs, rfl, rfl, q3, hb, by rw [← rp.len, ← rz.len]; exact hn, k .nxt _ L1 σ _ hR ((SS.of mv1 s1).trans s3) E3⟩
      split at hm
      · exact go _ .ow (.inl rfl) (by assumption) hm.1 hm.2
      · exact go _ .mu (.inr rfl) (by assumption) hm.1 hm.2
      · exact hm.elim
    · cases m
  | .expr e, st, m => by
    unfold matS at m
    split at m
    · obtain ⟨m1, m2⟩ := and3 m
      refine ps_imp (ps_expr (ex_ok e o m2) (sw_non m1)) ?_
      rintro D σ H ⟨Ox, L, ρ, R, E, h, k⟩
      simp only [sm] at h
      exact ⟨Ox, L, ρ, _, E, h, fun r ρ1 L1 v H1 h1 m1 s1 o1 => k .nxt ρ1 L1 σ H1 h1 (SS.of m1 s1) o1.en⟩
    · cases m
  | .iff t a b, st, m => by
    unfold matS at m
    split at m
    · obtain ⟨m1, m3⟩ := and3 m
      obtain ⟨m1, m2⟩ := and3 m1
      refine ps_imp (ps_if (tst_ok t o m1) (sms_ok hp o a m2) (sms_ok hp o b m3)) ?_
      rintro D σ H ⟨Ox, L, ρ, R, E, h, k⟩
      simp only [sm, tst] at h
      refine ⟨Ox, L, ρ, _, E, h, ?_⟩
      rintro r ρ1 L1 v H1 ⟨d, kk, e1, e2, q⟩ mv s1 o1
      refine ⟨d, kk, e1, e2, ?_⟩
      cases kk with
      | true => exact iteT (sub_run E o1.en (SS.of mv s1) q k)
      | false => exact iteF (sub_run E o1.en (SS.of mv s1) q k)
    · cases m
  | .forr g it b, st, m => by
    unfold matS at m
    split at m
    · obtain ⟨m1, m4⟩ := and3 m
      obtain ⟨m1, m3⟩ := and3 m1
      obtain ⟨m1, m2⟩ := and3 m1
      refine ps_imp (ps_for hp o.calm (itm_ok it o m2) (tg_ok o [] g m3) (sms_ok hp o b m4) (fold_pure m1)) ?_
      rintro D σ H ⟨Ox, L, ρ, R, E, h, k⟩
      simp only [sm] at h
      refine ⟨Ox, L, ρ, _, E, h, fun ds w ρ1 L1 H1 J hf m1 s1 E1 src wok => ?_⟩
      rw [force_eq] at hf
      generalize hρ0 : lockE w ρ1 = ρ0 at hf
      have E0 : EnOk X.K Ox L1 H1 σ ρ0 := hρ0 ▸ E1.lock w
      have wat : ∀ i, w = some i → ∃ d, ρ0[i]? = some (.mu d) ∧ vwA ρ1 (.ref i) = some d := by
        intro i hw
        obtain ⟨d, q⟩ := wok i hw
        have li : i < ρ1.length := by rcases q with q | q <;> exact lt_of_get q
        refine ⟨d, ?_, ?_⟩
        · rw [← hρ0, hw]
          unfold lockE
          dsimp only
          rcases q with q | q
          · rw [q]
            exact List.getElem?_set_self li
          · rw [q]
            exact q
        · simp only [vwA]
          rcases q with q | q <;> rw [q]
      let R' : Out → En → Prop := fun oo ρ2 => R oo (openE w ρ1 ρ2)
      let Iv : Nat → Sg → Hp → Prop := fun i σ2 H2 => ∃ L2 ρ2, EnOk X.K Ox L2 H2 σ2 ρ2 ∧
        forP w ρ0 (tgP g) (fun ρ2 K => sms F C b ρ2 K) (ds.drop i) ρ2 R' ∧ SS ρ0 L1 H1 ρ2 L2 H2 ∧ ∀ i, w = some i → ρ2[i]? = ρ0[i]?
      -- an end of the loop
      have endk : ∀ {oo ρ2 L2 σ2 H2}, R' oo ρ2 → SS ρ0 L1 H1 ρ2 L2 H2 → EndOk X.K Ox L1 ρ1 H1 D L2 H2 σ2 (openE w ρ1 ρ2) oo := by
        intro oo ρ2 L2 σ2 H2 hR ss
        have s3 : SS ρ1 L1 H1 (openE w ρ1 ρ2) L2 H2 := (show SS (lockE w ρ1) L1 H1 ρ2 L2 H2 from hρ0 ▸ ss).unlock
        exact (k oo _ L2 σ2 H2 hR ((SS.of m1 s1).trans s3)).from (SS.of m1 s1) E E1
      refine ⟨fun i n σ2 H2 => n = ds.length - i ∧ i ≤ ds.length ∧ Iv i σ2 H2, ⟨ds.length, by omega, Nat.zero_le _, L1, ρ0, E0, by rw [List.drop_zero]; exact hf, .refl, fun _ _ => rfl⟩, ?_⟩
      rintro i n σ2 H2 ⟨rfl, hi, L2, ρ2, E2, hf2, ss2, hw2⟩
      have later : Later X.K Ox L1 ρ1 H1 w Ox L2 σ2 ρ2 H2 := by
        refine ⟨E2, ss2.ext, fun j e => ?_⟩
        obtain ⟨d, q1, q2⟩ := wat j e
        refine ⟨(ss2.mu j d q1).1, ?_⟩
        rw [q2]
        simp only [vwA]
        rw [hw2 j e, q1]
      obtain ⟨goes, stops, yields⟩ := src _ _ _ _ _ later
      by_cases hlt : i < ds.length
      · refine .inr ⟨goes i hlt, Iv (i + 1), fun σ3 H3 iv3 => ⟨ds.length - (i + 1), by omega, rfl, hlt, iv3⟩, fun x H3 y => ?_⟩
        obtain ⟨sm3, rx⟩ := yields i x H3 ds[i] (List.getElem?_eq_getElem hlt) y
        rw [List.drop_eq_getElem_cons hlt] at hf2
        simp only [forP, force_eq] at hf2
        have E3 := E2.same sm3
        refine ⟨Ox, L2, ρ2, ds[i], _, E3, rx, hf2, fun σ4 ρ4 hb E4 m4 _ => ?_⟩
        have ss4 : SS ρ0 L1 H1 ρ4 L2 H3 := ss2.trans (SS.of m4 (Stp.same sm3))
        refine ⟨Ox, L2, ρ4, _, E4, hb, fun oo ρ5 L5 σ5 H5 h5 s5 => ?_⟩
        have ss5 := ss4.trans s5
        have hww : watchOk w ρ0 ρ5 → ∀ i, w = some i → ρ5[i]? = ρ0[i]? := by
          intro h i hi
          subst hi
          exact h
        cases oo with
        | nxt => exact fun E5 => ⟨L5, ρ5, E5, h5.2, ss5, hww h5.1⟩
        | cnt => exact fun E5 => ⟨L5, ρ5, E5, h5.2, ss5, hww h5.1⟩
        | brk => exact fun E5 => endk (oo := .nxt) h5 ss5 (E5.opens w ρ1)
        | ret r => exact fun v z => endk (oo := .ret r) h5 ss5 v (RtOk.unlock (by
            have z := z.from ss4 E0 E4
            rw [← hρ0] at z
            exact z))
      · have e : i = ds.length := by omega
        subst e
        rw [List.drop_length] at hf2
        simp only [forP, force_eq] at hf2
        exact .inl ⟨stops, endk (oo := .nxt) hf2 ss2 (E2.opens w ρ1)⟩
    · cases m
  | .whil t b, st, m => by
    unfold matS at m
    split at m
    · obtain ⟨m1, m2⟩ := and3 m
      refine ps_imp (ps_while hp (tst_ok t o m1) (sms_ok hp o b m2)) ?_
      rintro D σ H ⟨Ox, L, ρ, R, E, h, k⟩
      simp only [sm, tst] at h
      obtain ⟨W, ⟨m0, w0⟩, turn⟩ := h
      refine ⟨fun n σ2 H2 => ∃ L2 ρ2, EnOk X.K Ox L2 H2 σ2 ρ2 ∧ W n ρ2 ∧ SS ρ L H ρ2 L2 H2, ⟨m0, L, ρ, E, w0, .refl⟩, ?_⟩
      rintro n σ2 H2 ⟨L2, ρ2, E2, w2, s2⟩
      refine ⟨Ox, L2, ρ2, _, E2, turn n ρ2 w2, ?_⟩
      rintro r ρ3 L3 v H3 ⟨d, kk, e1, e2, q⟩ mv s3 o3
      refine ⟨d, kk, e1, e2, ?_⟩
      have E3 := o3.en
      have s23 := s2.trans (SS.of mv s3)
      cases kk with
      | false => exact iteF (k .nxt ρ3 L3 σ2 H3 q s23 E3)
      | true =>
        refine iteT ⟨fun σ4 H4 => ∃ m', m' < n ∧ ∃ L4 ρ4, EnOk X.K Ox L4 H4 σ4 ρ4 ∧ W m' ρ4 ∧ SS ρ L H ρ4 L4 H4, fun _ _ z => z, Ox, L3, ρ3, _, E3, q, fun oo ρ4 L4 σ4 H4 h4 s4 => ?_⟩
        have s24 := s23.trans s4
        cases oo with
        | nxt =>
          obtain ⟨m', lt, w⟩ := h4
          exact fun E4 => ⟨m', lt, L4, ρ4, E4, w, s24⟩
        | cnt =>
          obtain ⟨m', lt, w⟩ := h4
          exact fun E4 => ⟨m', lt, L4, ρ4, E4, w, s24⟩
        | brk => exact fun E4 => k .nxt ρ4 L4 σ4 H4 h4 s24 E4
        | ret r => exact fun v z => k (.ret r) ρ4 L4 σ4 H4 h4 s24 v (z.from s23 E E3)
    · cases m
  | .ret e, st, m => by
    unfold matS at m
    split at m
    · refine ps_imp (ps_ret (ex_ok e o m)) ?_
      rintro D σ H ⟨Ox, L, ρ, R, E, h, k⟩
      simp only [sm] at h
      refine ⟨Ox, L, ρ, _, E, h, fun r ρ1 L1 v H1 h1 m1 s1 o1 => ?_⟩
      obtain ⟨r', ρ2, L2, h2, ss, q⟩ := ret_ok E m1 s1 o1 h1
      exact k (.ret r') ρ2 L2 σ H1 h2 ss v q
    · cases m
  | .pass, st, m => by
    unfold matS at m
    split at m
    · refine ps_imp ps_pass ?_
      rintro D σ H ⟨Ox, L, ρ, R, E, h, k⟩
      simp only [sm] at h
      exact k .nxt ρ L σ H h .refl E
    · refine ps_imp ps_doc ?_
      rintro D σ H ⟨Ox, L, ρ, R, E, h, k⟩
      simp only [sm] at h
      exact k .nxt ρ L σ H h .refl E
    · cases m
  | .brk, st, m => by
    unfold matS at m
    split at m
    · refine ps_imp ps_break ?_
      rintro D σ H ⟨Ox, L, ρ, R, E, h, k⟩
      simp only [sm] at h
      exact k .brk ρ L σ H h .refl E
    · cases m
  | .cnt, st, m => by
    unfold matS at m
    split at m
    · refine ps_imp ps_continue ?_
      rintro D σ H ⟨Ox, L, ρ, R, E, h, k⟩
      simp only [sm] at h
      exact k .cnt ρ L σ H h .refl E
    · cases m
  | .never, st, m => by
    refine ps_imp ps_never ?_
    rintro D σ H ⟨Ox, L, ρ, R, E, h, k⟩
    simp only [sm] at h
theorem sms_ok (hp : PassesOwn (model X.prog X.w) X.A X.env X.xe) (o : XOk X c F C) : ∀ (ss : Sms) {sts : List Stmt}, matSs ss c sts = true → PSs X sts (tSm X.K (sms F C ss))
  | .nil, sts, m => by
    cases sts with
    | nil =>
      refine pss_imp pss_nil ?_
      rintro D σ H ⟨Ox, L, ρ, R, E, h, k⟩
      simp only [sms, force_eq] at h
      exact k .nxt ρ L σ H h .refl E
    | cons _ _ => simp [matSs] at m
  | .cons s ss, sts, m => by
    cases sts with
    | nil => simp [matSs] at m
    | cons st r =>
      simp only [matSs] at m
      obtain ⟨m1, m2⟩ := and3 m
      refine pss_imp (pss_cons (sm_ok hp o s m1) (sms_ok hp o ss m2)) ?_
      rintro D σ H ⟨Ox, L, ρ, R, E, h, k⟩
      simp only [sms, force_eq] at h
      refine ⟨Ox, L, ρ, _, E, h, fun oo ρ1 L1 σ1 H1 h1 s1 => ?_⟩
      cases oo with
      | nxt => exact fun E1 => sub_run E E1 s1 h1 k
      | brk => exact k .brk ρ1 L1 σ1 H1 h1 s1
      | cnt => exact k .cnt ρ1 L1 σ1 H1 h1 s1
      | ret r => exact k (.ret r) ρ1 L1 σ1 H1 h1 s1
end
end
end DL

namespace DL
open PySem PySem.Spec PyProof.Rows L2

section
variable {K : Fg} {Ox Ox' : AS} {L L' : LA} {H H' : Hp} {σ σ' : Sg} {ρ ρ' : En}
theorem outE_len : ∀ (ss : List Sl) (ρ : En), (outE ss ρ).length = ss.length
  | [], _ => rfl
  | s :: ss, [] => by cases s <;> simp [outE, outE_len ss]
  | s :: ss, t :: r => by cases s <;> cases t <;> simp [outE, outE_len ss]
theorem outE_get : ∀ {ss : List Sl} {ρ : En} {i : Nat} {s : Sl}, (outE ss ρ)[i]? = some s → s = .no ∨ ∃ d d', s = .mu d ∧ ss[i]? = some (.mu d') ∧ ρ[i]? = some (.mu d)
  | [], _, _, _, h => by simp [outE] at h
  | x :: ss, [], 0, s, h => by
    cases x <;> (simp [outE] at h; exact .inl h.symm)
  | x :: ss, [], i + 1, s, h => by
    have h' : (outE ss [])[i]? = some s := by cases x <;> simpa [outE] using h
    rcases outE_get h' with e | ⟨d, d', e1, e2, e3⟩
    · exact .inl e
    · simp at e3
  | x :: ss, y :: r, 0, s, h => by
    cases x <;> cases y <;> (simp [outE] at h) <;> first | exact .inl h.symm | exact .inr ⟨_, _, h.symm, rfl, rfl⟩
  | x :: ss, y :: r, i + 1, s, h => by
    have h' : (outE ss r)[i]? = some s := by cases x <;> cases y <;> simpa [outE] using h
    rcases outE_get h' with e | ⟨d, d', e1, e2, e3⟩
    · exact .inl e
    · exact .inr ⟨d, d', e1, e2, e3⟩
theorem outE_mu : ∀ {ss : List Sl} {ρ : En} {i : Nat} {d d' : D}, ss[i]? = some (.mu d') → ρ[i]? = some (.mu d) → (outE ss ρ)[i]? = some (.mu d)
  | [], _, _, _, _, h, _ => by simp at h
  | _ :: _, [], _, _, _, _, h => by simp at h
  | x :: ss, y :: r, 0, d, d', h1, h2 => by
    cases Option.some.inj h1
    cases Option.some.inj h2
    rfl
  | x :: ss, y :: r, i + 1, d, d', h1, h2 => by
    have z : (outE ss r)[i]? = some (.mu d) := outE_mu (by simpa using h1) (by simpa using h2)
    cases x <;> cases y <;> simpa [outE] using z
theorem noOw_get : ∀ {ss : List Sl} {i : Nat} {d : D}, noOw ss = true → ss[i]? ≠ some (.ow d)
  | [], _, _, _ => by simp
  | x :: ss, 0, d, h => by
    cases x <;> simp [noOw] at h ⊢
  | x :: ss, i + 1, d, h => by
    have h' : noOw ss = true := by cases x <;> first | exact h | cases h
    simpa using noOw_get (i := i) (d := d) h'
theorem app_get {ss : List Sl} {n i : Nat} {s : Sl} (h : (ss ++ List.replicate n .no)[i]? = some s) : ss[i]? = some s ∨ s = .no := by
  by_cases l : i < ss.length
  · rw [List.getElem?_append_left l] at h
    exact .inl h
  · rw [List.getElem?_append_right (by omega), List.getElem?_replicate] at h
    split at h
    · exact .inr (Option.some.inj h).symm
    · cases h
theorem app_left {α : Type} {ss t : List α} {i : Nat} {s : α} (h : ss[i]? = some s) : (ss ++ t)[i]? = some s := by
  rw [List.getElem?_append_left (List.getElem?_eq_some_iff.mp h).1]
  exact h
theorem EnOk.more (E : EnOk K Ox L H σ ρ) (n : Nat) : EnOk K Ox L H (σ ++ List.replicate n none) (ρ ++ List.replicate n .no) := by
  refine ⟨by simp [E.len], E.nd, E.ext, E.dis, fun i d h => ?_, fun i d h => ?_, fun i a h => ?_⟩
  · rcases app_get h with h | h
    · obtain ⟨v, e, r⟩ := E.va i d h
      exact ⟨v, app_left e, r⟩
    · cases h
  · have h' : ρ[i]? = some (.ow d) ∨ ρ[i]? = some (.mu d) := by
      rcases h with h | h
      · rcases app_get h with h | h
        · exact .inl h
        · cases h
      · rcases app_get h with h | h
        · exact .inr h
        · cases h
    obtain ⟨a, e1, e2, r⟩ := E.ow i d h'
    exact ⟨a, e1, app_left e2, r⟩
  · obtain ⟨d, h⟩ := E.li i a h
    exact ⟨d, h.imp app_left app_left⟩
/-- a def's end -/
theorem out_ok {n : Nat} (E0 : EnOk K Ox L H σ ρ) (no : noOw ρ = true) (s : SS (ρ ++ List.replicate n .no) L H ρ' L' H') (E : EnOk K Ox' L' H' σ' ρ') : EnOk K Ox' L H' σ (outE ρ ρ') ∧ Ext (Ow Ox' L') H' (Ow Ox' L) H' := by
  have at_ : ∀ {i a}, L i = some a → ∃ d d', ρ[i]? = some (.mu d) ∧ L' i = some a ∧ ρ'[i]? = some (.mu d') := by
    intro i a h
    obtain ⟨d, z⟩ := E0.li i a h
    rcases z with z | z
    · exact absurd z (noOw_get no)
    · obtain ⟨e, d', q⟩ := s.mu i d (app_left z)
      exact ⟨d, d', z, e.trans h, q⟩
  have x : Ext (Ow Ox' L') H' (Ow Ox' L) H' := ext_less fun b z => z.elim .inl fun ⟨i, q⟩ => .inr ⟨i, (at_ q).choose_spec.choose_spec.2.1⟩
  refine ⟨⟨by rw [outE_len]; exact E0.len, E0.nd, E.ext, fun i a h => ?_, fun i d h => ?_, fun i d h => ?_, fun i a h => ?_⟩, x⟩
  · obtain ⟨_, _, _, e, _⟩ := at_ h
    exact E.dis i a e
  · rcases outE_get h with z | ⟨_, _, z, _⟩ <;> cases z
  · have h' : ∃ d', ρ[i]? = some (.mu d') ∧ ρ'[i]? = some (.mu d) := by
      rcases h with h | h
      · rcases outE_get h with z | ⟨_, _, z, _⟩ <;> cases z
      · rcases outE_get h with z | ⟨_, _, z, q1, q2⟩
        · cases z
        · cases z
          exact ⟨_, q1, q2⟩
    obtain ⟨d', q1, q2⟩ := h'
    obtain ⟨a, e1, e2, _⟩ := E0.ow i d' (.inr q1)
    obtain ⟨_, _, _, e3, _⟩ := at_ e1
    obtain ⟨b, e4, _, r⟩ := E.ow i d (.inr q2)
    rw [e3] at e4
    cases e4
    exact ⟨a, e1, e2, r.ext x rfl⟩
  · obtain ⟨d, d', q1, _, q2⟩ := at_ h
    exact ⟨d', .inr (outE_mu q1 q2)⟩
end

/-- what the defs of a text may call on -/
structure Md (P : Program) (w : World) (K : Fg) (mg : Str → Option Value) (base : Heap) (k : Nat) (F : List Fe) (C : List D) (c : Mc) : Prop where
  bs : ∀ x ∈ c.bs, mg x = none
  fl : F.length = c.fs.length
  fs : ∀ (i : Nat) fe x, F[i]? = some fe → c.fs[i]? = some x → ∃ (f : Addr) (n : Nat) (kws : List (Nat × List Str × List Nat)), COk P w K mg base k f n kws (spF K n fe) ∧ mg x = some (.ref f) ∧
    PySem.W.keepIn K (.ref f) = true ∧ (∀ ss R, fe ss R → ss.length = n) ∧ ∀ m ks perm, (i, m, ks, perm) ∈ c.kw → (m, ks, perm) ∈ kws
  cs : ∀ (i : Nat) d x, C[i]? = some d → c.cs[i]? = some x → ∃ v u, mg x = some u ∧ RelV v u ∧ ∀ O H, Rep K O H d v
  gs : ∀ x ∈ c.gs, mg x = some (.builtin "math.gcd")
  sb : Sb base
theorem g_body {P : Program} {w : World} {K : Fg} {mg : Str → Option Value} {base : Heap} {k : Nat} {f : Addr} {x : Str} {st : Stmt} {fd : FuncData} {N ps : List Str} {F : List Fe} {C : List D} {c : Mc} {b : Sms} {fe : Fe}
    (Fn : Fun K x x st f fd) (S : FnScope N ps (defScope st)) (M : Md P w K mg base k F C c) (hN : c.N = N) (hsc : c.sc = defScope st) (hfn : c.fn = fun _ => true) (mt : matSs b c (defBody st) = true)
    (sp : ∀ ss R, fe ss R → runF F C b ps.length N.length ss R) : GOk P w K mg base (k + 1) f fd ps (spF K ps.length fe) := by
  obtain ⟨oc, od, kV, doc, pm, an, cdv, ct, osl, rfl, lk, hcd⟩ := Fn.ex
  refine g_of lk hcd S (fun vs H Q h => spF_len h) fun A outer s H vs Q hr hg h => ?_
  have xo : XOk (cxOf CX0 P w K mg base N x (defScope st) f cdv A outer s H E0).nox c F C := by
    refine ⟨rfl, S.nd, hg, ?_, hN.symm, hsc.symm, hfn.symm, M.bs, M.fl, fun i fe x h1 h2 => ?_, M.cs, M.gs, M.sb⟩
    · have := hr.un
      show (A.deeper _).units + 80 < cLine
      omega
    · obtain ⟨f, n, kws, G, e1, e2, e4, e5⟩ := M.fs i fe x h1 h2
      exact ⟨f, n, kws, k, G, hr, e1, e2, e4, e5⟩
  refine ⟨_, sms_ok (F := F) (C := C) PassesOwn.never xo b mt, ?_⟩
  obtain ⟨Ox, L, ss, R, hl, E, hfe, kk⟩ := h
  obtain ⟨⟨l1, l2⟩, no, hb⟩ := sp ss R hfe
  rw [force_eq] at hb
  have lv : vs.length = ps.length := by
    have := E.len
    rw [List.length_map] at this
    rw [this, hl]
  refine ⟨Ox, L, ss ++ List.replicate (N.length - ps.length) .no, _, ?_, hb, fun o ρ' L' σ' H' hR s' => ?_⟩
  · have := E.more (N.length - ps.length)
    unfold L2.start
    rw [lv]
    exact this
  · have st : Stp L H H' := ⟨s'.st, s'.tk⟩
    have no2 : ∀ (i : Nat) d, (outE ss ρ')[i]? ≠ some (.ow d) := fun i d z => by
      rcases outE_get z with z | ⟨_, _, z, _⟩ <;> cases z
    cases o with
    | nxt =>
      intro E'
      obtain ⟨Eo, x⟩ := out_ok E no s' E'
      exact kk (.va .non) _ .non H' hR st ⟨Eo, rfl⟩ nofun no2
    | brk => exact hR.elim
    | cnt => exact hR.elim
    | ret r =>
      intro v z
      cases r with
      | va d =>
        obtain ⟨E', rp⟩ := z
        obtain ⟨Eo, x⟩ := out_ok E no s' E'
        exact kk (.va d) _ v H' hR st ⟨Eo, Rep.ext x d rp⟩ nofun no2
      | fr d =>
        obtain ⟨a, rfl, fa, E', rp⟩ := z
        obtain ⟨Eo, x⟩ := out_ok E no s' E'
        have na : H a = none := by
          rcases fa with fa | ⟨j, e, _, q⟩
          · exact fa
          · rcases app_get q with q | q
            · exact absurd q (noOw_get no)
            · cases q
        refine kk (.fr d) _ _ H' hR st ⟨a, rfl, na, Eo, rp.ext (fun b o n e => ?_) rfl⟩ nofun no2
        have z := x b o (fun z => n (ow_plus.mp z)) e
        exact ⟨fun y => z.1 (ow_plus.mpr y), z.2⟩
      | vw i => exact z.elim
end DL

namespace DL
open PySem PySem.Spec PyProof.Rows L2

/-! the law's own call -/
def isD' (n : Int) : D := .int n
def lawF (n : Nat) : Fe := fun ss R => ∃ ns : List Int, ss = [.va (.scr (ns.map .int))] ∧ ns.length ≤ n ∧ (∀ z ∈ ns, Builtin.Int.intBits z ≤ 1048576) ∧ R (.va (.bl true)) [.no]
theorem scr_rep {K : Fg} {O : AS} {H : Hp} : ∀ (ns : List Int), RepL K O H (ns.map .int) (ns.map V.int)
  | [] => rfl
  | n :: ns => RepL.cons (d := .int n) (x := .int n) rfl (scr_rep ns)
theorem noneA (b : Addr) : ¬ Ow (fun _ => False) (fun _ => none) b := by
  rintro (z | ⟨i, z⟩)
  · exact z
  · cases z
theorem law_spec {K : Fg} {n : Nat} {H : Hp} {a : Addr} {ns : List Int} (h : SqL K H a (ns.map V.int)) (hl : ns.length ≤ n) (hb : ∀ z ∈ ns, Builtin.Int.intBits z ≤ 1048576) : spF K 1 (lawF n) [.ref a] H fun v _ => v = .bl true := by
  refine ⟨fun _ => False, fun _ => none, [.va (.scr (ns.map .int))], fun r outs => r = .va (.bl true), rfl, ?_, ⟨ns, rfl, hl, hb, rfl⟩, ?_⟩
  · refine ⟨rfl, fun i j b e => (by cases e), fun b z => z.elim, fun i b e => (by cases e), fun i d e => ?_, fun i d e => ?_, fun i b e => (by cases e)⟩
    · match i, e with
      | 0, e =>
        cases e
        refine ⟨_, rfl, a, _, rfl, ?_, scr_rep ns⟩
        rcases h with h | h
        · exact .inl ⟨noneA a, h⟩
        · exact .inr (.inr h)
      | i + 1, e => simp at e
    · match i, e with
      | 0, e => rcases e with e | e <;> cases e
      | i + 1, e => simp at e
  · rintro r outs v H' rfl _ rv _ _
    exact rv.2
/-- the call of the law, at the heap behind the top -/
theorem law_go {P : Program} {w : World} {K : Fg} {mg mb : Str → Option Value} {k n : Nat} {fa a : Addr} {fd : FuncData} {x : Str} {s₁ : Shared} {vs : List Value} {ns : List Int}
    (KX : K.In s₁.heap) (hns : s₁.heap.Ns mainGlobals mg) (hb : s₁.heap.Ns builtinsNs mb) (hbb : ∀ x : Str, x ≠ "__name__" → mb x = bootBuiltins x) (hlim : s₁.heap.NoLimit) (hg : s₁.gens = #[])
    (ha : s₁.heap.get? a = some { cls := .type "list", data := .seq vs.toArray }) (hi : IntsAre vs ns) (hl : ns.length ≤ n) (hn : n ≤ sizeLine) (hz : ∀ z ∈ ns, Builtin.Int.intBits z ≤ 1048576) (hr : Room k callerA)
    (sb : Sb s₁.heap) (F : ∀ base : Heap, K.In base → base.Ns mainGlobals mg → Sb base → GOk P w K mg base k fa fd [x] (spF K 1 (lawF n))) (hbind : ∀ (s : Shared) (u : Value), BindsTo s fd ⟨[u], []⟩ [(x, u)]) :
    codeAny (model P w) callerA (.call (.ref fa) ⟨[.ref a], []⟩) (fun r s' => r = .ok (.ret (.bool true)) ∧ OldK s₁.heap s'.heap ∧ s'.os = s₁.os ∧ AllBare s'.gens) s₁ := by
  have rv := vals_ints hi
  have lenV := hi.length
  let ob : Obj := { cls := .type "list", data := .seq vs.toArray }
  -- the script stands frozen where the written part has it not
  obtain ⟨H, hH⟩ : ∃ H : Hp, ∀ b, H b = if b = a ∧ K.lookup a = none then some (.frz ob (.lst (ns.map V.int))) else none := ⟨fun b => _, fun b => rfl⟩
  have only : ∀ {b u}, H b = some u → b = a ∧ K.lookup a = none ∧ u = .frz ob (.lst (ns.map V.int)) := by
    intro b u e
    rw [hH] at e
    split at e
    · rename_i c
      cases e
      exact ⟨c.1, c.2, rfl⟩
    · cases e
  have hok : HOk P w H s₁.heap := fun b u e => by
    obtain ⟨rfl, _, rfl⟩ := only e
    exact ⟨ha, by rw [List.length_map]; exact Nat.le_trans hl hn, vs, _, rv, ha⟩
  have sq : SqL K H a (ns.map V.int) := by
    cases hk : K.lookup a with
    | none => exact .inl (.inr ⟨ob, by rw [hH, if_pos ⟨rfl, hk⟩]⟩)
    | some o =>
      have e := KX a o hk
      rw [ha] at e
      cases e
      exact .inr ⟨_, vs.toArray, _, hk, rfl, rfl, rfl, by rw [List.size_toArray, lenV]; exact Nat.le_trans hl hn, by simpa using rv⟩
  have seen : ∀ {b : Addr} {o : Obj}, s₁.heap.get? b = some o → H b = none → (hidT s₁.heap H).get? b = some o := fun e n => hidT_get e n
  have plain : ∀ {b : Addr} {o : Obj} {es : Array DictEntry} {ep : Nat}, s₁.heap.get? b = some o → o.data = .dict es ep → H b = none := fun {b o es ep} e d => by
    cases q : H b with
    | none => rfl
    | some u =>
      obtain ⟨rfl, _, _⟩ := only q
      rw [ha] at e
      cases e
      exact absurd (show Data.seq vs.toArray _ = Data.dict es ep from d) nofun
  have ns' : ∀ {b : Addr} {m : Str → Option Value}, s₁.heap.Ns b m → (hidT s₁.heap H).Ns b m := fun {b m} ⟨o, es, ep, e, d, r⟩ => ⟨o, es, ep, seen e (plain e d), d, r⟩
  have inK : K.In (hidT s₁.heap H) := fun b o e => seen (KX b o e) (by
    cases q : H b with
    | none => rfl
    | some u =>
      obtain ⟨rfl, z, _⟩ := only q
      rw [z] at e
      cases e)
  obtain ⟨mc, l1, l2⟩ := hlim
  have md : Mod K mg (hidT s₁.heap H) := ⟨inK, ns' hns, ⟨mb, ns' hb, hbb⟩, mc, ns' l1, l2⟩
  have e0 : Env0 P w K mg (hidT s₁.heap H) callerA [] s₁ H := ⟨rfl, md, fun b o e => of_hidT e, Nat.le_of_eq (hidT_size _ _), trivial, fun b z => (nomatch z), hok, .of_eq hg⟩
  refine codeAny_mono ((F _ inK (ns' hns) (let ⟨mm, h⟩ := sb; ⟨mm, ns' h⟩)).run callerA [] s₁ H ⟨[.ref a], []⟩ [.ref a] [.ref a] _ hr rfl e0 (hbind s₁ (.ref a)) (.cons rfl .nil) (law_spec sq hl hz)) fun r s' h => ?_
  match r, h with
  | .error e, h => exact False.elim h
  | .ok .next, h => exact False.elim h
  | .ok .brk, h => exact False.elim h
  | .ok .cont, h => exact False.elim h
  | .ok (.ret u), ⟨v, H', os, bare, un, hok', r', q⟩ =>
    obtain rfl : v = .bl true := q
    obtain rfl : u = Value.bool true := r'
    refine ⟨rfl, OldK.of_keep fun b o e => ?_, os, bare⟩
    cases q : H b with
    | none => exact un.keep b o e q (fun z => nomatch z) (fun z => nomatch z)
    | some u =>
      obtain ⟨_, _, rfl⟩ := only q
      obtain ⟨e1, _⟩ := hok b _ q
      obtain ⟨e2, _⟩ := hok' b _ (un.frzs b ob _ q)
      rw [e] at e1
      cases e1
      exact e2
theorem sb_of {h : Heap} (x : h.NoSeer) : Sb h := let ⟨mm, e, _⟩ := x.mods; ⟨mm, e⟩
theorem walk_go {l : PySem.W.OpenLaw} {n k : Nat} {q : Program} {loose : List Str} {XP : (Str → Option Value) → Heap → Prop} {YP : World → Heap → Prop} {d : DefRec} {K : Params → Fg} {x : Str}
    (hn : l.most = some n) (hn2 : n ≤ sizeLine) (him : importsNone q = true) (hdf : d.params.defaults = []) (hr : Room k callerA)
    (hY : ∀ (w : World) (h : Heap), YP w h → (K w.params).In h)
    (F : ∀ (w : World) (mg : Str → Option Value) (fa : Addr) (h : Heap), (K w.params).In h → h.Ns mainGlobals mg → mg d.name = some (.ref fa) →
      ∃ fd : FuncData, (∀ (s : Shared) (u : Value), BindsTo s fd ⟨[u], []⟩ [(x, u)]) ∧
        ∀ base : Heap, (K w.params).In base → base.Ns mainGlobals mg → Sb base → GOk l.prog w (K w.params) mg base k fa fd [x] (spF (K w.params) 1 (lawF n))) :
    PySem.W.WalkO q loose XP YP l.row.toRowW d [] (fun f vs => PySem.call f vs) := by
  refine Att.attach_callB hn hdf fun w s₀ s₁ mg mb fa o pm cd doc a vs ns G Y ho hd hcd hmg hobj hints hlen hbits hg => ?_
  obtain ⟨fd, hb, hF⟩ := F w mg fa _ (hY w _ Y) G.T.g hmg
  exact law_go (hY w _ Y) G.T.g G.T.b G.T.builtins G.T.nolimit hg hobj hints hlen hn2 hbits hr (sb_of (G.T.seer him)) hF hb
end DL

namespace DL
open PySem PySem.Spec PyProof.Rows L2

/-! evaluation -/
section
variable {R : RK} {i j : Int} {x y : Str} {a b : List D} {d e : D}
theorem bin_add : binP .Add (.int i) (.int j) R = R (.va (.int (i + j))) := rfl
theorem bin_adds : binP .Add (.str x) (.str y) R = (x.length + y.length ≤ sizeLine ∧ R (.va (.str (x ++ y)))) := rfl
theorem bin_addl : binP .Add (.lst a) (.lst b) R = (a.length + b.length ≤ sizeLine ∧ R (.fr (.lst (a ++ b)))) := rfl
theorem bin_addt : binP .Add (.tup a) (.tup b) R = (a.length + b.length ≤ sizeLine ∧ R (.va (.tup (a ++ b)))) := rfl
theorem bin_sub : binP .Sub (.int i) (.int j) R = R (.va (.int (i - j))) := rfl
theorem bin_mul : binP .Mult (.int i) (.int j) R = (mulOk i j ∧ R (.va (.int (i * j)))) := rfl
theorem bin_fd : binP .FloorDiv (.int i) (.int j) R = ((0 < j ∧ j.natAbs.log2 < 9000) ∧ R (.va (.int (i / j)))) := rfl
theorem bin_mod : binP .Mod (.int i) (.int j) R = (0 < j ∧ R (.va (.int (i % j)))) := rfl
theorem bin_pow : binP .Pow (.int i) (.int j) R = ((0 ≤ j ∧ j ≤ 1000000 ∧ i.natAbs < 2 ^ 64) ∧ R (.va (.int (i ^ j.toNat)))) := rfl
theorem bin_shl : binP .LShift (.int i) (.int j) R = ((0 ≤ j ∧ j ≤ 1000000 ∧ i.natAbs < 2 ^ 64) ∧ R (.va (.int (i * 2 ^ j.toNat)))) := rfl
theorem bin_shr : binP .RShift (.int i) (.int j) R = (0 ≤ j ∧ R (.va (.int (i / 2 ^ j.toNat)))) := rfl
theorem bin_and : binP .BitAnd (.int i) (.int j) R = R (.va (.int (Builtin.bitAnd i j))) := rfl
theorem bin_or : binP .BitOr (.int i) (.int j) R = R (.va (.int (Builtin.bitOr i j))) := rfl
theorem bin_xor : binP .BitXor (.int i) (.int j) R = R (.va (.int (Builtin.bitXor i j))) := rfl
theorem cmp_eqs : cmpP .Eq (.str x) (.str y) R = R (.va (.bl (decide (x = y)))) := rfl
theorem cmp_nes : cmpP .NotEq (.str x) (.str y) R = R (.va (.bl (!decide (x = y)))) := rfl
theorem cmp_eqi : cmpP .Eq (.int i) (.int j) R = (okD (.int i) ∧ okD (.int j) ∧ R (.va (.bl (eqD (.int i) (.int j))))) := rfl
theorem cmp_nei : cmpP .NotEq (.int i) (.int j) R = (okD (.int i) ∧ okD (.int j) ∧ R (.va (.bl (!eqD (.int i) (.int j))))) := rfl
theorem cmp_eqb {k l : Bool} : cmpP .Eq (.bl k) (.bl l) R = (okD (.bl k) ∧ okD (.bl l) ∧ R (.va (.bl (eqD (.bl k) (.bl l))))) := rfl
theorem cmp_neb {k l : Bool} : cmpP .NotEq (.bl k) (.bl l) R = (okD (.bl k) ∧ okD (.bl l) ∧ R (.va (.bl (!eqD (.bl k) (.bl l))))) := rfl
theorem cmp_eqt : cmpP .Eq (.tup a) (.tup b) R = (okD (.tup a) ∧ okD (.tup b) ∧ R (.va (.bl (eqD (.tup a) (.tup b))))) := rfl
theorem cmp_net : cmpP .NotEq (.tup a) (.tup b) R = (okD (.tup a) ∧ okD (.tup b) ∧ R (.va (.bl (!eqD (.tup a) (.tup b))))) := rfl
theorem cmp_eql : cmpP .Eq (.lst a) (.lst b) R = (okD (.lst a) ∧ okD (.lst b) ∧ R (.va (.bl (eqD (.lst a) (.lst b))))) := rfl
theorem cmp_nel : cmpP .NotEq (.lst a) (.lst b) R = (okD (.lst a) ∧ okD (.lst b) ∧ R (.va (.bl (!eqD (.lst a) (.lst b))))) := rfl
theorem cmp_lt : cmpP .Lt (.int i) (.int j) R = R (.va (.bl (decide (i < j)))) := rfl
theorem cmp_le : cmpP .LtE (.int i) (.int j) R = R (.va (.bl (decide (i ≤ j)))) := rfl
theorem cmp_gt : cmpP .Gt (.int i) (.int j) R = R (.va (.bl (decide (j < i)))) := rfl
theorem cmp_ge : cmpP .GtE (.int i) (.int j) R = R (.va (.bl (decide (j ≤ i)))) := rfl
theorem cmp_is : cmpP .Is d .non R = R (.va (.bl d.isN)) := by cases d <;> rfl
theorem cmp_ns : cmpP .IsNot d .non R = R (.va (.bl (!d.isN))) := by cases d <;> rfl
theorem cmp_in : cmpP .In d (.lst a) R = (okD d ∧ okD (.lst a) ∧ R (.va (.bl (a.any fun e => eqD e d)))) := by cases d <;> rfl
theorem cmp_ni : cmpP .NotIn d (.lst a) R = (okD d ∧ okD (.lst a) ∧ R (.va (.bl (!a.any fun e => eqD e d)))) := by cases d <;> rfl
theorem ix_l : ixP (.lst a) (.int i) R = (∃ d, atI a i = some d ∧ R (.va d)) := rfl
theorem ix_t : ixP (.tup a) (.int i) R = (∃ d, atI a i = some d ∧ R (.va d)) := rfl
theorem sl_l {lo hi : Option Int} : slP (.lst a) lo hi R = R (.fr (.lst (cutD a lo hi))) := rfl
theorem sl_s {lo hi : Option Int} : slP (.scr a) lo hi R = R (.fr (.lst (cutD a lo hi))) := rfl
theorem sl_t {lo hi : Option Int} : slP (.tup a) lo hi R = R (.va (.tup (cutD a lo hi))) := rfl
theorem bl_len_l : bltP .len [.lst a] R = R (.va (.int a.length)) := rfl
theorem bl_len_s : bltP .len [.scr a] R = R (.va (.int a.length)) := rfl
theorem bl_len_t : bltP .len [.tup a] R = R (.va (.int a.length)) := rfl
theorem bl_len_x : bltP .len [.str x] R = (x.length ≤ sizeLine ∧ R (.va (.int x.length))) := rfl
theorem bl_abs : bltP .abs [.int i] R = R (.va (.int (if i < 0 then -i else i))) := rfl
theorem bl_int : bltP .int [.int i] R = R (.va (.int i)) := rfl
theorem bl_intb {k : Bool} : bltP .int [.bl k] R = R (.va (.int (if k then 1 else 0))) := rfl
theorem bl_tup_l : bltP .tuple [.lst a] R = R (.va (.tup a)) := rfl
theorem bl_tup_t : bltP .tuple [.tup a] R = R (.va (.tup a)) := rfl
theorem bl_lst_l : bltP .list [.lst a] R = R (.fr (.lst a)) := rfl
theorem bl_lst_t : bltP .list [.tup a] R = R (.fr (.lst a)) := rfl
theorem bl_all : bltP .all [.lst a] R = (∃ bs, bls? a = some bs ∧ R (.va (.bl (bs.all id)))) := rfl
theorem bl_any : bltP .any [.lst a] R = (∃ bs, bls? a = some bs ∧ R (.va (.bl (bs.any id)))) := rfl
theorem bl_sum : bltP .sum [.lst a] R = (∃ bs, ints? a = some bs ∧ R (.va (.int bs.sum))) := rfl
theorem bl_repr : bltP .repr [d] R = (okS d ∧ R (.va (.str (shD d)))) := by cases d <;> rfl
end
theorem ixn_nat {n k : Nat} (h : k < n) : ixN n (k : Int) = some k := by
  unfold ixN
  rw [if_pos (by omega), if_pos (by omega)]
  simp
theorem at_nat {α : Type} {xs : List α} {k : Nat} {x : α} (h : xs[k]? = some x) : atI xs (k : Int) = some x := by
  unfold atI
  rw [ixn_nat (List.getElem?_eq_some_iff.mp h).1]
  exact h
theorem at0 {α : Type} {x : α} {r : List α} : atI (x :: r) 0 = some x := at_nat (k := 0) rfl
theorem at1 {α : Type} {x y : α} {r : List α} : atI (x :: y :: r) 1 = some y := at_nat (k := 1) rfl
theorem at2 {α : Type} {x y z : α} {r : List α} : atI (x :: y :: z :: r) 2 = some z := at_nat (k := 2) rfl
theorem at3 {α : Type} {x y z w : α} {r : List α} : atI (x :: y :: z :: w :: r) 3 = some w := at_nat (k := 3) rfl
theorem ixn0 {n : Nat} : ixN (n + 1) 0 = some 0 := ixn_nat (k := 0) (by omega)
theorem ixn1 {n : Nat} : ixN (n + 1 + 1) 1 = some 1 := ixn_nat (k := 1) (by omega)
theorem ixn2 {n : Nat} : ixN (n + 1 + 1 + 1) 2 = some 2 := ixn_nat (k := 2) (by omega)
theorem ixn3 {n : Nat} : ixN (n + 1 + 1 + 1 + 1) 3 = some 3 := ixn_nat (k := 3) (by omega)
theorem exS {α : Type} {P : α → Prop} {x : α} : (∃ a, some x = some a ∧ P a) = P x := by
  apply propext
  constructor
  · rintro ⟨a, e, h⟩
    cases e
    exact h
  · exact fun h => ⟨x, rfl, h⟩
theorem exE {α : Type} {P : α → Prop} {x : α} : (∃ a, x = a ∧ P a) = P x := by
  apply propext
  constructor
  · rintro ⟨a, rfl, h⟩
    exact h
  · exact fun h => ⟨x, rfl, h⟩
theorem br_t {a b : Prop} : br true a b = a := rfl
theorem br_f {a b : Prop} : br false a b = b := rfl
theorem exI {P : Int → Prop} {x : Int} : (∃ a, some (D.int x) = some (D.int a) ∧ P a) = P x := by
  apply propext
  constructor
  · rintro ⟨a, e, h⟩
    cases e
    exact h
  · exact fun h => ⟨x, rfl, h⟩
theorem exV {P : Int → Prop} {x : Int} : (∃ a, Rv.va (D.int x) = Rv.va (D.int a) ∧ P a) = P x := by
  apply propext
  constructor
  · rintro ⟨a, e, h⟩
    cases e
    exact h
  · exact fun h => ⟨x, rfl, h⟩
theorem exB {P : Bool → Prop} {x : Bool} : (∃ a, Rv.va (D.bl x) = Rv.va (D.bl a) ∧ P a) = P x := by
  apply propext
  constructor
  · rintro ⟨a, e, h⟩
    cases e
    exact h
  · exact fun h => ⟨x, rfl, h⟩
theorem okD_i {n : Int} : okD (.int n) = True := eq_true rfl
theorem okD_b {b : Bool} : okD (.bl b) = True := eq_true rfl
theorem eqD_i {n m : Int} : eqD (.int n) (.int m) = (n == m) := by simp [eqD, D.py, PyData.eqv]
theorem eqD_b {n m : Bool} : eqD (.bl n) (.bl m) = (n == m) := by simp [eqD, D.py, PyData.eqv]
theorem isN_i {n : Int} : (D.int n).isN = false := rfl
theorem isN_n : D.non.isN = true := rfl
end DL

namespace DL
open PySem PySem.Spec PyProof.Rows L2

/-! evaluation by the head -/
def Bd (k : Nat) (x : Int) : Prop := x.natAbs < 2 ^ k
theorem Bd.up {m n : Nat} {x : Int} (h : Bd m x) (l : m ≤ n) : Bd n x := Nat.lt_of_lt_of_le h (Nat.pow_le_pow_right (by decide) l)
theorem Bd.neg {m : Nat} {x : Int} (h : Bd m x) : Bd m (-x) := by unfold Bd at *; omega
theorem Bd.add {m n : Nat} {x y : Int} (h : Bd m x) (q : Bd n y) : Bd (max m n + 1) (x + y) := by
  have h := h.up (Nat.le_max_left m n)
  have q := q.up (Nat.le_max_right m n)
  unfold Bd at *
  rw [Nat.pow_succ]
  omega
theorem Bd.sub {m n : Nat} {x y : Int} (h : Bd m x) (q : Bd n y) : Bd (max m n + 1) (x - y) := by
  have := h.add q.neg
  rwa [← Int.sub_eq_add_neg] at this
theorem Bd.mul {m n : Nat} {x y : Int} (h : Bd m x) (q : Bd n y) : Bd (m + n) (x * y) := by
  unfold Bd at *
  rw [Int.natAbs_mul, Nat.pow_add]
  exact Nat.mul_lt_mul'' h q
theorem Bd.of {m : Nat} {x : Int} (h : -(2 ^ m) < x ∧ x < 2 ^ m) : Bd m x := by
  unfold Bd
  have e : ((2 ^ m : Nat) : Int) = 2 ^ m := by norm_cast
  omega
theorem Bd.zero : Bd 1 0 := by unfold Bd; decide
theorem Bd.one : Bd 1 1 := by unfold Bd; decide
theorem Bd.mone : Bd 1 (-1) := by unfold Bd; decide
theorem Bd.log {m : Nat} {x : Int} (h : Bd m x) : x.natAbs.log2 < m + 1 := by
  by_cases e : x.natAbs = 0
  · rw [e]; exact Nat.succ_pos _
  · have := (Nat.log2_lt e).mpr h
    omega
theorem mulOk_bd {m n : Nat} {x y : Int} (h : Bd m x) (q : Bd n y) (l : m + n ≤ 999990) : mulOk x y := by
  have := h.log
  have := q.log
  exact .inr (by omega)
theorem mul_l {i j : Int} (h : -(2 ^ 64) < i ∧ i < 2 ^ 64) : mulOk i j := .inl (.inl h)
theorem mul_r {i j : Int} (h : -(2 ^ 64) < j ∧ j < 2 ^ 64) : mulOk i j := .inl (.inr h)
theorem cl_i {fe : Fe} {ss : List Sl} {k : Rv → List Sl → Prop} (h : fe ss k) : cl fe ss k := h
theorem rng_get {lo : Int} {n i : Nat} {d : D} (h : (rngD lo n)[i]? = some d) : i < n ∧ d = .int (lo + i) := by
  unfold rngD at h
  have hi : i < n := by
    have := (List.getElem?_eq_some_iff.mp h).1
    simpa using this
  refine ⟨hi, ?_⟩
  simp [hi] at h
  exact h.symm
theorem rng_len {lo : Int} {n : Nat} : (rngD lo n).length = n := by simp [rngD]
theorem log_lt {x : Int} {k : Nat} (hk : 0 < k) (h : x.natAbs < 2 ^ k) : x.natAbs.log2 < k := by
  by_cases e : x.natAbs = 0
  · rw [e]
    exact hk
  · exact (Nat.log2_lt e).mpr h
theorem mul_ok {x y : Int} (h1 : x.natAbs < 2 ^ 400) (h2 : y.natAbs < 2 ^ 400) : mulOk x y := by
  have a := log_lt (by omega) h1
  have b := log_lt (by omega) h2
  exact .inr (by omega)
theorem g_never {P : Program} {w : World} {K : Fg} {mg : Str → Option Value} {base : Heap} {k : Nat} {f : Addr} {fd : FuncData} {ps : List Str} : GOk P w K mg base k f fd ps (spF K ps.length fun _ _ => False) :=
  ⟨fun vs H Q h => spF_len h, fun A outer s H args us vs Q _ _ _ _ _ h => by
    obtain ⟨_, _, _, _, _, _, z, _⟩ := h
    exact z.elim⟩
theorem g_imp {P : Program} {w : World} {K : Fg} {mg : Str → Option Value} {base : Heap} {k : Nat} {f : Addr} {fd : FuncData} {ps : List Str} {fe fe' : Fe} (G : GOk P w K mg base k f fd ps (spF K ps.length fe)) (h : ∀ ss R, fe' ss R → fe ss R) : GOk P w K mg base k f fd ps (spF K ps.length fe') :=
  G.imp fun vs H Q ⟨Ox, L, ss, R, l, E, q, k⟩ => ⟨Ox, L, ss, R, l, E, h _ _ q, k⟩
/-- callees, in Md's order -/
theorem okD_int (n : Int) : okD (.int n) := rfl
theorem okD_bl (b : Bool) : okD (.bl b) := rfl
end DL

namespace DL
open PySem PySem.Spec PyProof.Rows L2

abbrev Kw := Nat × List Str × List Nat
/-- a def as the top has left it -/
def Has (K : Fg) (x : Str) (st : Stmt) : Prop := ∃ (f : Addr) (oc : Value) (od : Option Addr) (kV dc pm : Value) (an : Option Addr) (cd ct : Value) (sl : Array (Option Value)),
  PySem.W.nsIn K mainGlobals x = some (some (.ref f)) ∧ K.lookup f = some ⟨oc, od, .func (PySem.W.fnOf x x (defArgs st) (defBody st) (defScope st) .none kV dc pm an cd ct), sl⟩ ∧ PySem.W.codeIn K cd x = true ∧ PySem.W.keepIn K (.ref f) = true
theorem has_mk {K : Fg} {x : Str} {st : Stmt} {f : Addr} {oc : Value} {od : Option Addr} {kV dc pm : Value} {an : Option Addr} {cd ct : Value} {sl : Array (Option Value)}
    (a : PySem.W.nsIn K mainGlobals x = some (some (.ref f))) (l : K.lookup f = some ⟨oc, od, .func (PySem.W.fnOf x x (defArgs st) (defBody st) (defScope st) .none kV dc pm an cd ct), sl⟩) (c : PySem.W.codeIn K cd x = true) (k : PySem.W.keepIn K (.ref f) = true) : Has K x st :=
  ⟨f, oc, od, kV, dc, pm, an, cd, ct, sl, a, l, c, k⟩
def Hd (K : Fg) (mg : Str → Option Value) (x : Str) (st : Stmt) (ps : List Str) (kws : List Kw) : Prop :=
  ∃ (f : Addr) (fd : FuncData), Fun K x x st f fd ∧ mg x = some (.ref f) ∧ Binds K fd ps [] ∧ ∀ q ∈ kws, KB K fd ps q.1 q.2.1 q.2.2
theorem hd_of {K : Fg} {h : Heap} {mg : Str → Option Value} {x : Str} {st : Stmt} {ps : List Str} {kws : List Kw} (X : K.In h) (G : h.Ns mainGlobals mg) (H : Has K x st)
    (b : ∀ (kV doc pm : Value) (an : Option Addr) (cdv ct : Value) (us : List Value), us.length = ps.length → bindArgs (PySem.W.fnOf x x (defArgs st) (defBody st) (defScope st) .none kV doc pm an cdv ct) ⟨us, []⟩ = pure (ps.zip us))
    (kb : ∀ q ∈ kws, ∀ (kV doc pm : Value) (an : Option Addr) (cdv ct : Value) (us ws : List Value), us.length = q.1 → ws.length = q.2.1.length →
      bindArgs (PySem.W.fnOf x x (defArgs st) (defBody st) (defScope st) .none kV doc pm an cdv ct) ⟨us, q.2.1.zip ws⟩ = pure (ps.zip (permL q.2.2 (us ++ ws)))) : Hd K mg x st ps kws := by
  obtain ⟨f, oc, od, kV, dc, pm, an, cd, ct, sl, a, l, c, k⟩ := H
  have F := fun_mk (st := st) l c k
  exact ⟨f, _, F, PySem.W.mg_of X G a, F.binds b, fun q hq s us ws _ h1 h2 => .of_eq (kb q hq kV dc pm an cd ct us ws h1 h2)⟩
def Ok (P : Program) (w : World) (K : Fg) (mg : Str → Option Value) (base : Heap) (k : Nat) (x : Str) (ps : List Str) (kws : List Kw) (fe : Fe) : Prop :=
  ∃ (f : Addr), COk P w K mg base k f ps.length kws (spF K ps.length fe) ∧ mg x = some (.ref f) ∧ PySem.W.keepIn K (.ref f) = true ∧ (∀ ss R, fe ss R → ss.length = ps.length)
section
variable {P : Program} {w : World} {K : Fg} {mg : Str → Option Value} {base : Heap} {k j : Nat} {x : Str} {st : Stmt} {N ps : List Str} {kws : List Kw} {F : List Fe} {C : List D} {c : Mc} {b : Sms} {fe : Fe}
theorem Ok.up (h : Ok P w K mg base j x ps kws fe) (l : j ≤ k) : Ok P w K mg base k x ps kws fe := by
  obtain ⟨f, G, r⟩ := h
  exact ⟨f, G.up l, r⟩
theorem mk_ok (H : Hd K mg x st ps kws) (S : FnScope N ps (defScope st)) (M : Md P w K mg base k F C c) (hN : c.N = N) (hsc : c.sc = defScope st) (hfn : c.fn = fun _ => true) (mt : matSs b c (defBody st) = true)
    (sp : ∀ ss R, fe ss R → runF F C b ps.length N.length ss R) : Ok P w K mg base (k + 1) x ps kws fe := by
  obtain ⟨f, fd, Fn, hm, hb, hk⟩ := H
  exact ⟨f, COk.of_g (g_body Fn S M hN hsc hfn mt sp) hb hk, hm, Fn.kp, fun ss R h => (sp ss R h).1.1⟩
theorem ok_never (H : Hd K mg x st ps kws) : Ok P w K mg base k x ps kws fun _ _ => False := by
  obtain ⟨f, fd, Fn, hm, hb, hk⟩ := H
  exact ⟨f, COk.of_g g_never hb hk, hm, Fn.kp, fun _ _ h => h.elim⟩
/-- callees one by one: i the place of the first -/
inductive Oks (P : Program) (w : World) (K : Fg) (mg : Str → Option Value) (base : Heap) (k : Nat) (kw : List (Nat × Nat × List Str × List Nat)) : Nat → List Fe → List Str → Prop where
  | nil {i : Nat} : Oks P w K mg base k kw i [] []
  | cons {i : Nat} {fe : Fe} {F : List Fe} {x : Str} {fs : List Str} {ps : List Str} {kws : List Kw} : Ok P w K mg base k x ps kws fe → (kw.all fun q => q.1 != i || decide (q.2 ∈ kws)) = true → Oks P w K mg base k kw (i + 1) F fs → Oks P w K mg base k kw i (fe :: F) (x :: fs)
theorem Oks.len {kw : List (Nat × Nat × List Str × List Nat)} {i : Nat} {fs : List Str} (h : Oks P w K mg base k kw i F fs) : F.length = fs.length := by
  induction h with
  | nil => rfl
  | cons _ _ _ ih => simp [ih]
theorem Oks.get {kw : List (Nat × Nat × List Str × List Nat)} {i : Nat} {fs : List Str} (h : Oks P w K mg base k kw i F fs) : ∀ (n : Nat) fe x, F[n]? = some fe → fs[n]? = some x → ∃ (ps : List Str) (kws : List Kw), Ok P w K mg base k x ps kws fe ∧ ∀ m ks perm, (i + n, m, ks, perm) ∈ kw → (m, ks, perm) ∈ kws := by
  induction h with
  | nil => intro n fe x h; simp at h
  | cons o a _ ih =>
    intro n fe x h1 h2
    cases n with
    | zero =>
      cases h1
      cases h2
      refine ⟨_, _, o, fun m ks perm hm => ?_⟩
      have := List.all_eq_true.mp a _ hm
      simpa using this
    | succ n =>
      obtain ⟨ps, kws, o, f⟩ := ih n fe x h1 h2
      have e : ∀ a b : Nat, a + (b + 1) = a + 1 + b := by omega
      exact ⟨ps, kws, o, fun m ks perm hm => f m ks perm (by rw [e] at hm; exact hm)⟩
/-- a name that the top has bound to data -/
def HdC (K : Fg) (mg : Str → Option Value) (x : Str) (d : D) : Prop := ∃ v u, mg x = some u ∧ RelV v u ∧ ∀ O H, Rep K O H d v
theorem absV_rel {u : Value} {v : V} (h : absV u = some v) : RelV v u := by
  cases u <;> simp [absV] at h <;> subst h <;> first | rfl | exact ⟨_, rfl⟩
theorem absVs_rel : ∀ {us : List Value} {vs : List V}, us.map absV = vs.map some → Vals vs us
  | [], [], _ => .nil
  | [], _ :: _, h => by simp at h
  | _ :: _, [], h => by simp at h
  | u :: us, v :: vs, h => by
    simp only [List.map_cons, List.cons.injEq] at h
    exact .cons (absV_rel h.1) (absVs_rel h.2)
theorem vDs_RepL {K : Fg} {O : AS} {H : Hp} : ∀ {ds : List D} {vs : List V}, vDs ds = some vs → RepL K O H ds vs
  | [], vs, h => by
    cases h
    rfl
  | d :: ds, vs, h => by
    cases e1 : vD d with
    | none => simp [vDs, e1] at h
    | some w =>
      cases e2 : vDs ds with
      | none => simp [vDs, e1, e2] at h
      | some us =>
        simp only [vDs, e1, e2] at h
        cases h
        refine ⟨w, us, rfl, ?_, vDs_RepL e2⟩
        cases d <;> simp [vD] at e1 <;> subst e1 <;> rfl
theorem hdc_int {K : Fg} {h : Heap} {mg : Str → Option Value} {x : Str} {i : Int} {t : Tok} (X : K.In h) (G : h.Ns mainGlobals mg) (e : PySem.W.nsIn K mainGlobals x = some (some (.int i t))) : HdC K mg x (.int i) :=
  ⟨.int i, _, PySem.W.mg_of X G e, ⟨t, rfl⟩, fun _ _ => rfl⟩
theorem hdc_tup {K : Fg} {h : Heap} {mg : Str → Option Value} {x : Str} {a : Addr} {od : Option Addr} {its : Array Value} {n : Nat} {sl : Array (Option Value)} {ds : List D} {vs : List V} (X : K.In h) (G : h.Ns mainGlobals mg)
    (e : PySem.W.nsIn K mainGlobals x = some (some (.ref a))) (l : K.lookup a = some ⟨.type "tuple", od, .seq its n, sl⟩) (hs : its.size ≤ sizeLine) (hv : its.toList.map absV = vs.map some) (hd : vDs ds = some vs) : HdC K mg x (.tup ds) :=
  ⟨.ref a, _, PySem.W.mg_of X G e, rfl, fun _ _ => ⟨a, vs, rfl, .inr (.inr ⟨_, its, n, l, rfl, rfl, hs, absVs_rel hv⟩), vDs_RepL hd⟩⟩
inductive Cons (K : Fg) (mg : Str → Option Value) : List D → List Str → Prop where
  | nil : Cons K mg [] []
  | cons {d : D} {x : Str} {C : List D} {cs : List Str} : HdC K mg x d → Cons K mg C cs → Cons K mg (d :: C) (x :: cs)
theorem Cons.get {cs : List Str} (h : Cons K mg C cs) : ∀ (i : Nat) d x, C[i]? = some d → cs[i]? = some x → HdC K mg x d := by
  induction h with
  | nil => intro i d x h; simp at h
  | cons hd _ ih =>
    intro i d x h1 h2
    cases i with
    | zero => cases h1; cases h2; exact hd
    | succ i => exact ih i d x h1 h2
theorem md_of {bs : List Str} (sb : Sb base) (hb : ∀ x ∈ bs, mg x = none) {sc : Scope} {fn : Str → Bool} {fs cs gs : List Str} {kw : List (Nat × Nat × List Str × List Nat)} (hc : Cons K mg C cs) (hg : ∀ x ∈ gs, mg x = some (.builtin "math.gcd")) (h : Oks P w K mg base k kw 0 F fs) : Md P w K mg base k F C ⟨N, sc, fn, fs, cs, bs, kw, gs⟩ := by
  refine ⟨hb, h.len, fun i fe x h1 h2 => ?_, hc.get, hg, sb⟩
  obtain ⟨ps, kws, ⟨f, G, e1, e2, e4⟩, q⟩ := h.get i fe x h1 h2
  exact ⟨f, ps.length, kws, G, e1, e2, e4, fun m ks perm hm => q m ks perm (by rw [Nat.zero_add]; exact hm)⟩
end
end DL

namespace DL
open PySem PySem.Spec PyProof.Rows L2

/-! the same meaning, said so that it can be gone through from the head -/
def on1 {α : Type} : Option α → (α → Prop) → Prop
  | some a, K => K a
  | none, _ => False
theorem on1_eq {α : Type} {o : Option α} {K : α → Prop} : on1 o K = (∃ a, o = some a ∧ K a) := by
  cases o with
  | none => exact propext ⟨False.elim, fun ⟨_, e, _⟩ => nomatch e⟩
  | some a => exact propext ⟨fun h => ⟨a, rfl, h⟩, fun ⟨_, e, h⟩ => by cases e; exact h⟩
theorem on1_i {α : Type} {o : Option α} {K : α → Prop} {a : α} (h : o = some a) (k : K a) : on1 o K := by rw [h]; exact k
def onT (o : Option D) (K : Bool → Prop) : Prop := on1 o fun d => on1 (truD d) K
theorem onT_eq {o : Option D} {K : Bool → Prop} : onT o K = (∃ d k, o = some d ∧ truD d = some k ∧ K k) := by
  unfold onT
  simp only [on1_eq]
  exact propext ⟨fun ⟨d, e, k, f, h⟩ => ⟨d, k, e, f, h⟩, fun ⟨d, k, e, f, h⟩ => ⟨d, e, k, f, h⟩⟩
def onB : Rv → (Bool → Prop) → Prop
  | .va (.bl b), K => K b
  | _, _ => False
theorem onB_eq {r : Rv} {K : Bool → Prop} : onB r K = (∃ b, r = .va (.bl b) ∧ K b) := by
  refine propext ⟨fun h => ?_, fun ⟨_, e, h⟩ => by subst e; exact h⟩
  match r, h with
  | .va (.bl b), h => exact ⟨b, rfl, h⟩
def onI : Rv → (Int → Prop) → Prop
  | .va (.int b), K => K b
  | _, _ => False
theorem onI_eq {r : Rv} {K : Int → Prop} : onI r K = (∃ b, r = .va (.int b) ∧ K b) := by
  refine propext ⟨fun h => ?_, fun ⟨_, e, h⟩ => by subst e; exact h⟩
  match r, h with
  | .va (.int b), h => exact ⟨b, rfl, h⟩
def onD : Option D → (Int → Prop) → Prop
  | some (.int b), K => K b
  | _, _ => False
theorem onD_eq {r : Option D} {K : Int → Prop} : onD r K = (∃ b, r = some (.int b) ∧ K b) := by
  refine propext ⟨fun h => ?_, fun ⟨_, e, h⟩ => by subst e; exact h⟩
  match r, h with
  | some (.int b), h => exact ⟨b, rfl, h⟩
def bk : Bool → Prop → Prop
  | true, K => K
  | false, _ => False
theorem bk_eq {b : Bool} {K : Prop} : bk b K = (b = true ∧ K) := by
  cases b with
  | true => exact propext ⟨fun h => ⟨rfl, h⟩, fun h => h.2⟩
  | false => exact propext ⟨False.elim, fun h => nomatch h.1⟩
theorem bk_i {b : Bool} {K : Prop} (h : b = true) (k : K) : bk b K := by rw [bk_eq]; exact ⟨h, k⟩
def leN (n m : Nat) (K : Prop) : Prop := bk (Nat.ble n m) K
theorem leN_eq {n m : Nat} {K : Prop} : leN n m K = (n ≤ m ∧ K) := by
  unfold leN
  rw [bk_eq, Nat.ble_eq]
theorem leN_lt {n m : Nat} {K : Prop} : leN (n + 1) m K = (n < m ∧ K) := leN_eq
theorem leN_i {n m : Nat} {K : Prop} (h : n ≤ m) (k : K) : leN n m K := by rw [leN_eq]; exact ⟨h, k⟩
def ndB : List Nat → Bool
  | [] => true
  | x :: r => !r.contains x && ndB r
theorem ndB_eq : ∀ {l : List Nat}, (ndB l = true) = l.Nodup
  | [] => by simp [ndB]
  | x :: r => by
    simp only [ndB, Bool.and_eq_true, List.nodup_cons, Bool.not_eq_true', ← ndB_eq (l := r)]
    simp
def wk (w : Option Nat) (ρ0 ρ : En) (K : Prop) : Prop := match w with
  | none => K
  | some i => ρ[i]? = ρ0[i]? ∧ K
theorem wk_eq {w : Option Nat} {ρ0 ρ : En} {K : Prop} : wk w ρ0 ρ K = (watchOk w ρ0 ρ ∧ K) := by
  cases w with
  | none => exact propext ⟨fun h => ⟨trivial, h⟩, fun h => h.2⟩
  | some i => rfl
@[irreducible] def eqS (x y : Str) : Bool := decide (x = y)
theorem eqS_eq {x y : Str} : eqS x y = decide (x = y) := by unfold eqS; rfl
@[irreducible] def eqQ (d e : D) : Bool := eqD d e
theorem eqQ_eq {d e : D} : eqQ d e = eqD d e := by unfold eqQ; rfl
def inN (neg : Bool) (d : D) (ds : List D) (R : RK) : Prop := on1 (vD d) fun v => on1 (vDs ds) fun vs => R (.va (.bl (if neg then !inV v vs else inV v vs)))
theorem inN_eq {neg : Bool} {d : D} {ds : List D} {R : RK} : inN neg d ds R = (∃ v vs, vD d = some v ∧ vDs ds = some vs ∧ R (.va (.bl (if neg then !inV v vs else inV v vs)))) := by
  unfold inN
  simp only [on1_eq]
  exact propext ⟨fun ⟨v, e, vs, f, h⟩ => ⟨v, vs, e, f, h⟩, fun ⟨v, vs, e, f, h⟩ => ⟨v, e, vs, f, h⟩⟩
def cmpN : CmpOp → D → D → RK → Prop
  | .In, d, .tup ds, R => inN false d ds R
  | .NotIn, d, .tup ds, R => inN true d ds R
  | .Eq, .int i, .int j, R => R (.va (.bl (decide (i = j))))
  | .NotEq, .int i, .int j, R => R (.va (.bl (!decide (i = j))))
  | .Eq, .str x, .str y, R => R (.va (.bl (eqS x y)))
  | .NotEq, .str x, .str y, R => R (.va (.bl (!eqS x y)))
  | .Eq, .tup x, .tup y, R => okD (.tup x) ∧ okD (.tup y) ∧ R (.va (.bl (eqQ (.tup x) (.tup y))))
  | .NotEq, .tup x, .tup y, R => okD (.tup x) ∧ okD (.tup y) ∧ R (.va (.bl (!eqQ (.tup x) (.tup y))))
  | .Eq, .lst x, .lst y, R => okD (.lst x) ∧ okD (.lst y) ∧ R (.va (.bl (eqQ (.lst x) (.lst y))))
  | .NotEq, .lst x, .lst y, R => okD (.lst x) ∧ okD (.lst y) ∧ R (.va (.bl (!eqQ (.lst x) (.lst y))))
  | o, d, e, R => cmpP o d e R
theorem cmpN_eq {o : CmpOp} {d e : D} {R : RK} : cmpN o d e R = cmpP o d e R := by
  unfold cmpN
  split
  · rw [inN_eq]
    cases d <;> rfl
  · rw [inN_eq]
    cases d <;> rfl
  · rw [cmp_eqi, eqD_i]
    exact propext ⟨fun h => ⟨rfl, rfl, h⟩, fun h => h.2.2⟩
  · rw [cmp_nei, eqD_i]
    exact propext ⟨fun h => ⟨rfl, rfl, h⟩, fun h => h.2.2⟩
  · rw [eqS_eq, cmp_eqs]
  · rw [eqS_eq, cmp_nes]
  · rw [eqQ_eq, cmp_eqt]
  · rw [eqQ_eq, cmp_net]
  · rw [eqQ_eq, cmp_eql]
  · rw [eqQ_eq, cmp_nel]
  · rfl
def ixQ : D → D → RK → Prop
  | .lst ds, .int i, R => on1 (atI ds i) fun d => R (.va d)
  | .tup ds, .int i, R => on1 (atI ds i) fun d => R (.va d)
  | _, _, _ => False
theorem ixQ_eq {d e : D} {R : RK} : ixQ d e R = ixP d e R := by
  unfold ixQ ixP
  split <;> simp only [on1_eq]
def bltN : Bi → List D → RK → Prop
  | .all, [.lst ds], R => on1 (bls? ds) fun bs => R (.va (.bl (bs.all id)))
  | .any, [.lst ds], R => on1 (bls? ds) fun bs => R (.va (.bl (bs.any id)))
  | .sum, [.lst ds], R => on1 (ints? ds) fun ns => R (.va (.int ns.sum))
  | .sorted, [.tup ds], R => on1 (ints? ds) fun ns => ∀ ms : List Int, ms.Perm ns → ms.Pairwise (· ≤ ·) → R (.fr (.lst (ms.map .int)))
  | .sorted, [.lst ds], R => on1 (ints? ds) fun ns => ∀ ms : List Int, ms.Perm ns → ms.Pairwise (· ≤ ·) → R (.fr (.lst (ms.map .int)))
  | .max, [.lst ds], R => on1 (ints? ds) fun ns => 0 < ns.length ∧ ∀ m : Int, m ∈ ns → (∀ y ∈ ns, y ≤ m) → R (.va (.int m))
  | .min, [.lst ds], R => on1 (ints? ds) fun ns => 0 < ns.length ∧ ∀ m : Int, m ∈ ns → (∀ y ∈ ns, m ≤ y) → R (.va (.int m))
  | b, ds, R => bltP b ds R
theorem bltN_eq {b : Bi} {ds : List D} {R : RK} : bltN b ds R = bltP b ds R := by
  unfold bltN
  split <;> first | rfl | simp only [on1_eq, bltP]
def rngN (lo : Int) (n : Nat) : List D := rngD lo n
mutual
def tgN : Tg → D → En → (En → Prop) → Prop
  | .name i, d, ρ, R => match ρ[i]? with
    | some .no => R (ρ.set i (.va d))
    | some (.va _) => R (ρ.set i (.va d))
    | _ => False
  | .tup ts, .tup ds, ρ, R => bk (Nat.beq ts.len ds.length) (tgsN ts ds ρ R)
  | .tup _, _, _, _ => False
def tgsN : Tgs → List D → En → (En → Prop) → Prop
  | .nil, [], ρ, R => R ρ
  | .cons t ts, d :: ds, ρ, R => tgN t d ρ fun ρ' => tgsN ts ds ρ' R
  | _, _, _, _ => False
end
mutual
theorem tgN_eq : ∀ (t : Tg) (d : D) (ρ : En) (R : En → Prop), tgN t d ρ R = tgP t d ρ R
  | .name i, d, ρ, R => by
    (simp only [tgN, tgP]) <;> rfl
  | .tup ts, d, ρ, R => by
    cases d <;> simp only [tgN, tgP]
    rw [bk_eq, tgsN_eq ts, Nat.beq_eq]
theorem tgsN_eq : ∀ (t : Tgs) (d : List D) (ρ : En) (R : En → Prop), tgsN t d ρ R = tgsP t d ρ R
  | .nil, d, ρ, R => by
    cases d <;> simp only [tgsN, tgsP]
  | .cons t ts, d, ρ, R => by
    cases d with
    | nil => simp only [tgsN, tgsP]
    | cons d ds =>
      simp only [tgsN, tgsP, tgN_eq t]
      congr 1
      funext ρ'
      exact tgsN_eq ts ds ρ' R
end
def setK : List D → Nat → D → (List D → Prop) → Prop
  | [], _, _, K => K []
  | _ :: r, 0, d, K => K (d :: r)
  | x :: r, n + 1, d, K => setK r n d fun r => K (x :: r)
theorem setK_eq : ∀ {ds : List D} {n : Nat} {d : D} {K : List D → Prop}, setK ds n d K = K (ds.set n d)
  | [], _, _, _ => by simp only [setK, List.set_nil]
  | _ :: _, 0, _, _ => by simp only [setK, List.set_cons_zero]
  | _ :: _, _ + 1, _, _ => by simp only [setK, setK_eq, List.set_cons_succ]
def eraK : List D → Nat → (List D → Prop) → Prop
  | [], _, K => K []
  | _ :: r, 0, K => K r
  | x :: r, n + 1, K => eraK r n fun r => K (x :: r)
theorem eraK_eq : ∀ {ds : List D} {n : Nat} {K : List D → Prop}, eraK ds n K = K (ds.eraseIdx n)
  | [], _, _ => by simp only [eraK, List.eraseIdx_nil]
  | _ :: _, 0, _ => by simp only [eraK, List.eraseIdx_cons_zero]
  | _ :: _, _ + 1, _ => by simp only [eraK, eraK_eq, List.eraseIdx_cons_succ]
def catK : List D → List D → (List D → Prop) → Prop
  | [], es, K => K es
  | x :: r, es, K => catK r es fun r => K (x :: r)
theorem catK_eq : ∀ {ds es : List D} {K : List D → Prop}, catK ds es K = K (ds ++ es)
  | [], _, _ => by simp only [catK, List.nil_append]
  | _ :: _, _, _ => by simp only [catK, catK_eq, List.cons_append]
def onLs : Option D → (List D → Prop) → Prop
  | some (.lst es), K => K es
  | _, _ => False
theorem onLs_eq {o : Option D} {K : List D → Prop} : onLs o K = ∃ es, o = some (.lst es) ∧ K es := by
  unfold onLs
  split
  · exact propext ⟨fun h => ⟨_, rfl, h⟩, fun ⟨_, e, h⟩ => by cases e; exact h⟩
  · rename_i h
    exact propext ⟨False.elim, fun ⟨es, e, _⟩ => h es e⟩
def appK : List D → D → (List D → Prop) → Prop
  | [], d, K => K [d]
  | x :: r, d, K => appK r d fun r => K (x :: r)
theorem appK_eq : ∀ {ds : List D} {d : D} {K : List D → Prop}, appK ds d K = K (ds ++ [d])
  | [], _, _ => by simp only [appK, List.nil_append]
  | _ :: _, _, _ => by simp only [appK, appK_eq, List.cons_append]
def compN (w : Option Nat) (ρ0 : En) (own : List Nat) (g : D → En → (En → Prop) → Prop) (c : En → (Bool → En → Prop) → Prop) (e : En → (D → En → Prop) → Prop) : List D → List D → En → (List D → En → Prop) → Prop
  | [], acc, ρ, R => R acc ρ
  | d :: ds, acc, ρ, R => g d ρ fun ρ1 => force ρ1 fun ρ1 => c ρ1 fun b ρ2 => br b
    (e ρ2 fun y ρ3 => leN (acc.length + 1) sizeLine (wk w ρ0 ρ3 (force (wipeE own ρ3) fun ρ3 => appK acc y fun acc => compN w ρ0 own g c e ds acc ρ3 R)))
    (wk w ρ0 ρ2 (force (wipeE own ρ2) fun ρ2 => compN w ρ0 own g c e ds acc ρ2 R))
theorem compN_eq {w : Option Nat} {ρ0 : En} {own : List Nat} {g : D → En → (En → Prop) → Prop} {c : En → (Bool → En → Prop) → Prop} {e : En → (D → En → Prop) → Prop} : ∀ (ds acc : List D) (ρ : En) (R : List D → En → Prop), compN w ρ0 own g c e ds acc ρ R = compP w ρ0 own g c e ds acc ρ R
  | [], _, _, _ => rfl
  | d :: ds, acc, ρ, R => by
    simp only [compN, compP, force_eq, leN_lt, wk_eq, appK_eq, compN_eq ds]
    congr 1
def inPN (own1 : List Nat) (g1 : D → En → (En → Prop) → Prop) (e : En → (D → En → Prop) → Prop) : List D → List D → En → (List D → En → Prop) → Prop
  | [], acc, ρ, R => R acc ρ
  | d :: ds, acc, ρ, R => g1 d ρ fun ρ1 => force ρ1 fun ρ1 => e ρ1 fun y ρ2 => leN (acc.length + 1) sizeLine (force (wipeE own1 ρ2) fun ρ2 => appK acc y fun acc => inPN own1 g1 e ds acc ρ2 R)
theorem inPN_eq {own1 : List Nat} {g1 : D → En → (En → Prop) → Prop} {e : En → (D → En → Prop) → Prop} : ∀ (ds acc : List D) (ρ : En) (R : List D → En → Prop), inPN own1 g1 e ds acc ρ R = inP own1 g1 e ds acc ρ R
  | [], _, _, _ => rfl
  | d :: ds, acc, ρ, R => by
    simp only [inPN, inP, force_eq, leN_lt, appK_eq, inPN_eq ds]
def comp2N (w : Option Nat) (ρ0 : En) (own own1 : List Nat) (g : D → En → (En → Prop) → Prop) (i1 : En → (List D → Option Nat → En → Prop) → Prop) (g1 : D → En → (En → Prop) → Prop) (e : En → (D → En → Prop) → Prop) : List D → List D → En → (List D → En → Prop) → Prop
  | [], acc, ρ, R => R acc ρ
  | d :: ds, acc, ρ, R => g d ρ fun ρ1 => force ρ1 fun ρ1 => i1 ρ1 fun es w1 ρ2 => bk w1.isNone (force (wipeE own1 ρ2) fun ρ2 => inPN own1 g1 e es acc ρ2 fun acc ρ3 => wk w ρ0 ρ3 (force (wipeE own ρ3) fun ρ3 => comp2N w ρ0 own own1 g i1 g1 e ds acc ρ3 R))
theorem comp2N_eq {w : Option Nat} {ρ0 : En} {own own1 : List Nat} {g : D → En → (En → Prop) → Prop} {i1 : En → (List D → Option Nat → En → Prop) → Prop} {g1 : D → En → (En → Prop) → Prop} {e : En → (D → En → Prop) → Prop} : ∀ (ds acc : List D) (ρ : En) (R : List D → En → Prop), comp2N w ρ0 own own1 g i1 g1 e ds acc ρ R = comp2P w ρ0 own own1 g i1 g1 e ds acc ρ R
  | [], _, _, _ => rfl
  | d :: ds, acc, ρ, R => by
    simp only [comp2N, comp2P, force_eq, wk_eq, bk_eq, Option.isNone_iff_eq_none, inPN_eq, comp2N_eq ds]
def gcdN : List D → RK → Prop := gcdP
def onO (o : Out) (ρ : En) (R : Out → En → Prop) (N : En → Prop) : Prop := match o with
  | .nxt => force ρ N
  | .brk => R .brk ρ
  | .cnt => R .cnt ρ
  | .ret r => R (.ret r) ρ
def onF (o : Out) (w : Option Nat) (ρ0 ρ : En) (R : Out → En → Prop) (N : En → Prop) : Prop := match o with
  | .nxt => wk w ρ0 ρ (force ρ N)
  | .cnt => wk w ρ0 ρ (force ρ N)
  | .brk => R .nxt ρ
  | .ret r => R (.ret r) ρ
def forN (w : Option Nat) (ρ0 : En) (g : D → En → (En → Prop) → Prop) (b : En → (Out → En → Prop) → Prop) : List D → En → (Out → En → Prop) → Prop
  | [], ρ, R => R .nxt ρ
  | d :: ds, ρ, R => g d ρ fun ρ1 => force ρ1 fun ρ1 => b ρ1 fun o ρ2 => onF o w ρ0 ρ2 R fun ρ2 => forN w ρ0 g b ds ρ2 R
theorem forN_eq {w : Option Nat} {ρ0 : En} {g : D → En → (En → Prop) → Prop} {b : En → (Out → En → Prop) → Prop} : ∀ (ds : List D) (ρ : En) (R : Out → En → Prop), forN w ρ0 g b ds ρ R = forP w ρ0 g b ds ρ R
  | [], _, _ => rfl
  | d :: ds, ρ, R => by
    simp only [forN, forP, force_eq, forN_eq ds]
    congr 1
    funext ρ1
    congr 1
    funext o ρ2
    cases o <;> simp only [onF, force_eq, wk_eq]
section
variable (F : List Fe) (C : List D)
mutual
def exN : Ex → En → (Rv → En → Prop) → Prop
  | .var i, ρ, R => match ρ[i]? with
    | some (.va d) => R (.va d) ρ
    | some (.ow _) => R (.vw i) ρ
    | some (.mu _) => R (.vw i) ρ
    | _ => False
  | .frz i, ρ, R => match ρ[i]? with
    | some (.va d) => R (.va d) ρ
    | some (.ow d) => R (.va d) (ρ.set i (.va d))
    | _ => False
  | .int n, ρ, R => R (.va (.int n)) ρ
  | .str s, ρ, R => R (.va (.str s)) ρ
  | .bl b, ρ, R => R (.va (.bl b)) ρ
  | .non, ρ, R => R (.va .non) ρ
  | .con c, ρ, R => match C[c]? with
    | some d => R (.va d) ρ
    | none => False
  | .bin o a b, ρ, R => exN a ρ fun r ρ1 => exN b ρ1 fun s ρ2 => on1 (vwA ρ2 r.av) fun d => on1 (vwA ρ2 s.av) fun e => binP o d e fun t => R t ρ2
  | .neg a, ρ, R => exN a ρ fun r ρ1 => onD (vwA ρ1 r.av) fun i => R (.va (.int (-i))) ρ1
  | .cmp o a b, ρ, R => exN a ρ fun r ρ1 => exN b ρ1 fun s ρ2 => on1 (vwA ρ2 r.av) fun d => on1 (vwA ρ2 s.av) fun e => cmpN o d e fun t => R t ρ2
  | .chain o p a b c, ρ, R => exN a ρ fun r ρ1 => exN b ρ1 fun s ρ2 => on1 (vwA ρ2 r.av) fun d => on1 (vwA ρ2 s.av) fun e => cmpN o d e fun t => onB t fun k => br k (exN c ρ2 fun u ρ3 => on1 (vwA ρ3 s.av) fun e' => on1 (vwA ρ3 u.av) fun f => cmpN p e' f fun t => R t ρ3) (R (.va (.bl false)) ρ2)
  | .bop k es, ρ, R => bopN k es ρ R
  | .not a, ρ, R => exN a ρ fun r ρ1 => onT (vwA ρ1 r.av) fun k => R (.va (.bl (!k))) ρ1
  | .ite c a b, ρ, R => exN c ρ fun r ρ1 => onT (vwA ρ1 r.av) fun k => br k (exN a ρ1 R) (exN b ρ1 R)
  | .tup es, ρ, R => exsN es ρ fun as ρ' => on1 (datAs ρ' as) fun ds => leN ds.length sizeLine (R (.va (.tup ds)) ρ')
  | .lst es, ρ, R => exsN es ρ fun as ρ' => on1 (datAs ρ' as) fun ds => leN ds.length sizeLine (R (.fr (.lst ds)) ρ')
  | .ix a i, ρ, R => exN a ρ fun r ρ1 => exN i ρ1 fun s ρ2 => on1 (vwA ρ2 r.av) fun d => on1 (vwA ρ2 s.av) fun e => ixQ d e fun t => R t ρ2
  | .sl a lo hi, ρ, R => exN a ρ fun r ρ1 => partN lo ρ1 fun l ρ2 => partN hi ρ2 fun h ρ3 => on1 (vwA ρ3 r.av) fun d => slP d l h fun t => R t ρ3
  | .call f es, ρ, R => exsN es ρ fun as ρ' => on1 F[f]? fun fe => on1 (argS ρ' as) fun ss => bk (ndB (refsA as)) (cl fe ss fun r outs => force (updA ρ' as outs) fun ρ' => R r ρ')
  | .callk f _ perm es ks, ρ, R => exsN es ρ fun as ρ1 => exsN ks ρ1 fun bs ρ' => on1 F[f]? fun fe => bk (Nat.beq (permL perm (as ++ bs)).length perm.length) (on1 (argS ρ' (permL perm (as ++ bs))) fun ss => bk (ndB (refsA (permL perm (as ++ bs))))
      (cl fe ss fun r outs => force (updA ρ' (permL perm (as ++ bs)) outs) fun ρ' => R r ρ'))
  | .blt b es, ρ, R => exsN es ρ fun as ρ' => on1 (vwAs ρ' as) fun ds => bltN b ds fun t => R t ρ'
  | .isi a cs, ρ, R => exN a ρ fun r ρ1 => on1 (vwA ρ1 r.av) fun d => bk d.std (R (.va (.bl (cs.any (isD d)))) ρ1)
  | .comp g it c e own, ρ, R => itmN it ρ fun ds w ρ1 => ownOk own ρ1 ∧ force (wipeE own (lockE w ρ1)) fun ρ0 =>
      compN w ρ0 own (tgN g) (fun ρ2 K => tstsN c ρ2 K) (fun ρ2 K => exN e ρ2 fun r ρ3 => valR ρ3 K r) ds [] ρ0 fun acc ρ4 => R (.fr (.lst acc)) (openE w ρ1 (backE own ρ1 ρ4))
  | .attr a f, ρ, R => exN a ρ fun r ρ1 => on1 (vwA ρ1 r.av) fun d => on1 (attrD d f) fun e => R (.va e) ρ1
  | .pop j i, ρ, R => bk (hasL ρ j) (exN i ρ fun s ρ1 => onI s fun k => onL ρ1 j fun f ds => leN ds.length sizeLine (on1 (ixN ds.length k) fun n => on1 ds[n]? fun d => eraK ds n fun ds => R (.va d) (ρ1.set j (f (.lst ds)))))
  | .lrng a, ρ, R => exN a ρ fun r ρ1 => onI r fun j => (-(2 ^ 62) ≤ j ∧ j ≤ 16777216) ∧ R (.fr (.lst (rngD 0 j.toNat))) ρ1
  | .lset a, ρ, R => exN a ρ fun r ρ1 => on1 (vwA ρ1 r.av) fun d => on1 (seqI? d) fun ns => leN ns.length 4000 (∀ k : Nat, k ≤ ns.length → (k = ns.length ↔ ns.Nodup) → R (.va (.int k)) ρ1)
  | .bits a, ρ, R => exN a ρ fun r ρ1 => onD (vwA ρ1 r.av) fun i => R (.va (.int (Builtin.Int.intBits i : Nat))) ρ1
  | .gcd es, ρ, R => exsN es ρ fun as ρ' => on1 (vwAs ρ' as) fun ds => gcdP ds fun t => R t ρ'
  | .emp neg a, ρ, R => exN a ρ fun r ρ1 => onLs (vwA ρ1 r.av) fun ds => R (.va (.bl (ds.isEmpty != neg))) ρ1
  | .dn0, ρ, R => R (.va (.dct [] [])) ρ
  | .dn1 a b, ρ, R => exN a ρ fun r ρ1 => on1 (keyR r) fun k => exN b ρ1 fun s ρ2 => on1 (datA ρ2 s.av) fun d => R (.va (.dct [k] [d])) ρ2
  | .comp2 g it g1 it1 e own own1, ρ, R => itmN it ρ fun ds w ρ1 => ownOk own ρ1 ∧ force (wipeE own (lockE w ρ1)) fun ρ0 =>
      comp2N w ρ0 own own1 (tgN g) (fun ρ2 K => itmN it1 ρ2 K) (tgN g1) (fun ρ2 K => exN e ρ2 fun r ρ3 => valR ρ3 K r) ds [] ρ0 fun acc ρ4 => R (.fr (.lst acc)) (openE w ρ1 (backE own ρ1 ρ4))
def exsN : Exs → En → (List Av → En → Prop) → Prop
  | .nil, ρ, R => R [] ρ
  | .cons e es, ρ, R => exN e ρ fun r ρ1 => exsN es ρ1 fun as ρ2 => R (r.av :: as) ρ2
def bopN (k : Bool) : Exs → En → (Rv → En → Prop) → Prop
  | .nil, _, _ => False
  | .cons e es, ρ, R => match es with
    | .nil => exN e ρ R
    | .cons e' es' => exN e ρ fun r ρ1 => onB r fun b => br (b == k) (bopN k (.cons e' es') ρ1 R) (R (.va (.bl b)) ρ1)
def partN : Exs → En → (Option Int → En → Prop) → Prop
  | .nil, ρ, R => R none ρ
  | .cons e _, ρ, R => exN e ρ fun r ρ1 => onI r fun i => R (some i) ρ1
def tstsN : Exs → En → (Bool → En → Prop) → Prop
  | .nil, ρ, R => R true ρ
  | .cons c _, ρ, R => exN c ρ fun r ρ1 => onT (vwA ρ1 r.av) fun k => R k ρ1
def itmN : It → En → (List D → Option Nat → En → Prop) → Prop
  | .seq e, ρ, R => exN e ρ fun r ρ1 => on1 (vwA ρ1 r.av) fun d => on1 (itemsD d) fun ds => R ds (r.watch ρ1) ρ1
  | .rng1 a, ρ, R => exN a ρ fun r ρ1 => onI r fun j => (-(2 ^ 62) ≤ j ∧ j < 2 ^ 62) ∧ R (rngD 0 j.toNat) none ρ1
  | .rng2 a b, ρ, R => exN a ρ fun r ρ1 => exN b ρ1 fun s ρ2 => onI r fun i => onI s fun j => (-(2 ^ 62) ≤ i ∧ i < 2 ^ 62 ∧ -(2 ^ 62) ≤ j ∧ j < 2 ^ 62) ∧ R (rngD i (j - i).toNat) none ρ2
  | .enm e, ρ, R => exN e ρ fun r ρ1 => on1 (vwA ρ1 r.av) fun d => on1 (itemsD d) fun ds => R (enumD 0 ds) (r.watch ρ1) ρ1
  | .zip a b, ρ, R => exN a ρ fun r ρ1 => exN b ρ1 fun s ρ2 => on1 (vwA ρ2 r.av) fun d => on1 (vwA ρ2 s.av) fun e => on1 (pairsD d e) fun ps => bk ((r.watch ρ2).isNone && (s.watch ρ2).isNone) (R ps none ρ2)
end
theorem ex_sw {α : Type} {P Q : α → Prop} (h : ∀ a, P a = Q a) : (∃ a, P a) = (∃ a, Q a) := by rw [show P = Q from funext h]
theorem and_ex {α : Type} {a : Prop} {P : α → Prop} : (∃ x, a ∧ P x) = (a ∧ ∃ x, P x) := by
  exact propext ⟨fun ⟨x, h, p⟩ => ⟨h, x, p⟩, fun ⟨h, x, p⟩ => ⟨x, h, p⟩⟩
mutual
theorem exN_eq : ∀ (e : Ex) (ρ : En) (R : Rv → En → Prop), exN F C e ρ R = ex F C e ρ R
  | .var i, ρ, R => by (simp only [exN, ex]) <;> rfl
  | .frz i, ρ, R => by (simp only [exN, ex]) <;> rfl
  | .int n, ρ, R => by simp only [exN, ex]
  | .str s, ρ, R => by simp only [exN, ex]
  | .bl b, ρ, R => by simp only [exN, ex]
  | .non, ρ, R => by simp only [exN, ex]
  | .con c, ρ, R => by (simp only [exN, ex]) <;> rfl
  | .bin o a b, ρ, R => by simp only [exN, ex, on1_eq, exN_eq a, exN_eq b, and_ex]
  | .neg a, ρ, R => by simp only [exN, ex, onD_eq, exN_eq a]
  | .cmp o a b, ρ, R => by simp only [exN, ex, on1_eq, exN_eq a, exN_eq b, and_ex, cmpN_eq]
  | .chain o p a b c, ρ, R => by simp only [exN, ex, on1_eq, onB_eq, exN_eq a, exN_eq b, exN_eq c, and_ex, cmpN_eq]
  | .bop k es, ρ, R => by simp only [exN, ex, bopN_eq k es]
  | .not a, ρ, R => by simp only [exN, ex, onT_eq, exN_eq a]
  | .ite c a b, ρ, R => by simp only [exN, ex, onT_eq, exN_eq a, exN_eq b, exN_eq c, and_ex]
  | .tup es, ρ, R => by simp only [exN, ex, on1_eq, leN_eq, exsN_eq es]
  | .lst es, ρ, R => by simp only [exN, ex, on1_eq, leN_eq, exsN_eq es]
  | .ix a i, ρ, R => by simp only [exN, ex, on1_eq, exN_eq a, exN_eq i, and_ex, ixQ_eq]
  | .sl a lo hi, ρ, R => by simp only [exN, ex, on1_eq, exN_eq a, partN_eq lo, partN_eq hi]
  | .call f es, ρ, R => by simp only [exN, ex, on1_eq, bk_eq, ndB_eq, exsN_eq es, and_ex, force_eq]
  | .callk f ns perm es ks, ρ, R => by simp only [exN, ex, on1_eq, bk_eq, ndB_eq, exsN_eq es, exsN_eq ks, and_ex, Nat.beq_eq, force_eq]
  | .blt b es, ρ, R => by simp only [exN, ex, on1_eq, exsN_eq es, bltN_eq]
  | .isi a cs, ρ, R => by simp only [exN, ex, on1_eq, exN_eq a, bk_eq]
  | .comp g it c e own, ρ, R => by
    simp only [exN, ex, force_eq, itmN_eq it, compN_eq]
    congr 1
    funext ds w ρ1
    congr 2
    · funext d ρ K
      exact tgN_eq g d ρ K
    · funext ρ2 K
      exact tstsN_eq c ρ2 K
    · funext ρ2 K
      exact exN_eq e ρ2 _
  | .attr a f, ρ, R => by simp only [exN, ex, on1_eq, exN_eq a, and_ex]
  | .pop j i, ρ, R => by simp only [exN, ex, bk_eq, onI_eq, leN_eq, on1_eq, eraK_eq, exN_eq i]
  | .lrng a, ρ, R => by simp only [exN, ex, onI_eq, exN_eq a]
  | .lset a, ρ, R => by simp only [exN, ex, on1_eq, leN_eq, exN_eq a, and_ex]
  | .bits a, ρ, R => by simp only [exN, ex, onD_eq, exN_eq a]
  | .gcd es, ρ, R => by simp only [exN, ex, on1_eq, exsN_eq es]
  | .emp neg a, ρ, R => by simp only [exN, ex, onLs_eq, exN_eq a]
  | .dn0, ρ, R => by simp only [exN, ex]
  | .dn1 a b, ρ, R => by simp only [exN, ex, on1_eq, exN_eq a, exN_eq b]
  | .comp2 g it g1 it1 e own own1, ρ, R => by
    simp only [exN, ex, force_eq, itmN_eq it, comp2N_eq]
    congr 1
    funext ds w ρ1
    congr 2
    · funext d ρ K
      exact tgN_eq g d ρ K
    · funext ρ2 K
      exact itmN_eq it1 ρ2 K
    · funext d ρ K
      exact tgN_eq g1 d ρ K
    · funext ρ2 K
      exact exN_eq e ρ2 _
theorem exsN_eq : ∀ (es : Exs) (ρ : En) (R : List Av → En → Prop), exsN F C es ρ R = exs F C es ρ R
  | .nil, ρ, R => by simp only [exsN, exs]
  | .cons e es, ρ, R => by simp only [exsN, exs, exN_eq e, exsN_eq es]
theorem bopN_eq (k : Bool) : ∀ (es : Exs) (ρ : En) (R : Rv → En → Prop), bopN F C k es ρ R = bop F C k es ρ R
  | .nil, ρ, R => by simp only [bopN, bop]
  | .cons e .nil, ρ, R => by simp only [bopN, bop, exN_eq e]
  | .cons e (.cons e' es'), ρ, R => by simp only [bopN, bop, onB_eq, exN_eq e, bopN_eq k (.cons e' es')]
theorem partN_eq : ∀ (es : Exs) (ρ : En) (R : Option Int → En → Prop), partN F C es ρ R = part F C es ρ R
  | .nil, ρ, R => by simp only [partN, part]
  | .cons e es, ρ, R => by simp only [partN, part, onI_eq, exN_eq e]
theorem tstsN_eq : ∀ (es : Exs) (ρ : En) (R : Bool → En → Prop), tstsN F C es ρ R = tsts F C es ρ R
  | .nil, ρ, R => by simp only [tstsN, tsts]
  | .cons e es, ρ, R => by simp only [tstsN, tsts, onT_eq, exN_eq e]
theorem itmN_eq : ∀ (es : It) (ρ : En) (R : List D → Option Nat → En → Prop), itmN F C es ρ R = itm F C es ρ R
  | .seq e, ρ, R => by simp only [itmN, itm, on1_eq, exN_eq e, and_ex]
  | .rng1 e, ρ, R => by simp only [itmN, itm, onI_eq, exN_eq e, and_assoc]
  | .rng2 a b, ρ, R => by simp only [itmN, itm, onI_eq, exN_eq a, exN_eq b, and_ex]
  | .enm e, ρ, R => by simp only [itmN, itm, on1_eq, exN_eq e, and_ex]
  | .zip a b, ρ, R => by simp only [itmN, itm, on1_eq, exN_eq a, exN_eq b, and_ex, bk_eq, Bool.and_eq_true, Option.isNone_iff_eq_none]
end
def tstN (c : Ex) (ρ : En) (R : Bool → En → Prop) : Prop := exN F C c ρ fun r ρ1 => onT (vwA ρ1 r.av) fun k => R k ρ1
theorem tstN_eq {c : Ex} {ρ : En} {R : Bool → En → Prop} : tstN F C c ρ R = tst F C c ρ R := by simp only [tstN, tst, onT_eq, exN_eq]
def asgN (g : Tg) (ρ : En) (R : En → Prop) (r : Rv) : Prop := match g with
  | .name i => nameP i ρ R r
  | .tup ts => valR ρ (fun d ρ => tgN (.tup ts) d ρ R) r
theorem asgN_eq {g : Tg} {ρ : En} {R : En → Prop} {r : Rv} : asgN g ρ R r = asgP g ρ R r := by
  cases g with
  | name i => rfl
  | tup ts => simp only [asgN, asgP, tgN_eq]
def exrN : Exs → En → (List Rv → En → Prop) → Prop
  | .nil, ρ, R => R [] ρ
  | .cons e es, ρ, R => exN F C e ρ fun r ρ1 => noVw r (exrN es ρ1 fun rs ρ2 => R (r :: rs) ρ2)
theorem exrN_eq : ∀ (es : Exs) (ρ : En) (R : List Rv → En → Prop), exrN F C es ρ R = exr F C es ρ R
  | .nil, ρ, R => by simp only [exrN, exr]
  | .cons e es, ρ, R => by simp only [exrN, exr, exN_eq, exrN_eq es]
mutual
def smN : Sm → En → (Out → En → Prop) → Prop
  | .asg g e, ρ, R => exN F C e ρ fun r ρ1 => asgN g ρ1 (R .nxt) r
  | .alt i e, ρ, R => exN F C e ρ fun r ρ1 => nameP i ρ1 (R .nxt) r
  | .par is es, ρ, R => exrN F C es ρ fun rs ρ1 => parP is rs ρ1 (R .nxt)
  | .setI j i e, ρ, R => exN F C e ρ fun r ρ1 => bk (hasL ρ1 j) (exN F C i ρ1 fun s ρ2 => on1 (datA ρ2 r.av) fun d => onI s fun k =>
      onL ρ2 j fun f ds => on1 (ixN ds.length k) fun n => setK ds n d fun ds => R .nxt (ρ2.set j (f (.lst ds))))
  | .app j e, ρ, R => bk (hasL ρ j) (exN F C e ρ fun r ρ1 => on1 (datA ρ1 r.av) fun d => onL ρ1 j fun f ds => leN (ds.length + 1) sizeLine (appK ds d fun ds => R .nxt (ρ1.set j (f (.lst ds)))))
  | .ext j e, ρ, R => bk (hasL ρ j) (exN F C e ρ fun r ρ1 => onLs (vwA ρ1 r.av) fun es => onL ρ1 j fun f ds => leN (ds.length + es.length) sizeLine (catK ds es fun ds => R .nxt (ρ1.set j (f (.lst ds)))))
  | .expr e, ρ, R => exN F C e ρ fun _ ρ1 => R .nxt ρ1
  | .iff c a b, ρ, R => tstN F C c ρ fun k ρ1 => br k (smsN a ρ1 R) (smsN b ρ1 R)
  | .forr g it b, ρ, R => itmN F C it ρ fun ds w ρ1 => force ρ1 fun ρ1 => force (lockE w ρ1) fun ρ0 => forN w ρ0 (tgN g) (fun ρ2 K => smsN b ρ2 K) ds ρ0 fun o ρ2 => R o (openE w ρ1 ρ2)
  | .whil c b, ρ, R => ∃ W : Nat → En → Prop, (∃ m, W m ρ) ∧ ∀ m ρ1, W m ρ1 → tstN F C c ρ1 fun k ρ2 => br k
    (smsN b ρ2 fun o ρ3 => match o with
      | .nxt => ∃ m', m' < m ∧ W m' ρ3
      | .cnt => ∃ m', m' < m ∧ W m' ρ3
      | .brk => R .nxt ρ3
      | .ret r => R (.ret r) ρ3)
    (R .nxt ρ2)
  | .ret e, ρ, R => exN F C e ρ fun r ρ1 => retP ρ1 (fun r ρ => R (.ret r) ρ) r
  | .pass, ρ, R => R .nxt ρ
  | .brk, ρ, R => R .brk ρ
  | .cnt, ρ, R => R .cnt ρ
  | .never, _, _ => False
def smsN : Sms → En → (Out → En → Prop) → Prop
  | .nil, ρ, R => R .nxt ρ
  | .cons s ss, ρ, R => smN s ρ fun o ρ1 => onO o ρ1 R fun ρ1 => smsN ss ρ1 R
end
mutual
theorem smN_eq : ∀ (s : Sm) (ρ : En) (R : Out → En → Prop), smN F C s ρ R = sm F C s ρ R
  | .asg g e, ρ, R => by simp only [smN, sm, exN_eq, asgN_eq]
  | .alt i e, ρ, R => by simp only [smN, sm, exN_eq]
  | .par is es, ρ, R => by simp only [smN, sm, exrN_eq]
  | .setI j i e, ρ, R => by
    simp only [smN, sm, exN_eq, on1_eq, onI_eq, bk_eq, setK_eq]
    congr 1
    funext r ρ1
    congr 2
    funext s ρ2
    refine propext ⟨?_, ?_⟩
    · rintro ⟨d, e1, k, e2, h⟩
      unfold onL at h
      split at h
      · obtain ⟨n, e3, h⟩ := h
        rename_i q
        exact ⟨d, k, n, e1, e2, by first | (rw [q]; exact ⟨e3, h⟩) | exact ⟨e3, h⟩⟩
      · obtain ⟨n, e3, h⟩ := h
        rename_i q
        exact ⟨d, k, n, e1, e2, by first | (rw [q]; exact ⟨e3, h⟩) | exact ⟨e3, h⟩⟩
      · exact h.elim
    · rintro ⟨d, k, n, e1, e2, h⟩
      refine ⟨d, e1, k, e2, ?_⟩
      unfold onL
      split at h
      · rename_i q
        first | (rw [q]; exact ⟨n, h⟩) | exact ⟨n, h⟩
      · rename_i q
        first | (rw [q]; exact ⟨n, h⟩) | exact ⟨n, h⟩
      · exact h.elim
  | .app j e, ρ, R => by
    simp only [smN, sm, exN_eq, on1_eq, bk_eq, leN_lt, appK_eq]
    congr 2
  | .ext j e, ρ, R => by
    simp only [smN, sm, exN_eq, onLs_eq, bk_eq, leN_eq, catK_eq]
    congr 2
  | .expr e, ρ, R => by simp only [smN, sm, exN_eq]
  | .iff c a b, ρ, R => by simp only [smN, sm, tstN_eq, smsN_eq a, smsN_eq b]
  | .forr g it b, ρ, R => by
    simp only [smN, sm, itmN_eq, force_eq, forN_eq]
    congr 1
    funext ds w ρ1
    congr 1
    · funext d ρ K
      exact tgN_eq g d ρ K
    · funext ρ2 K
      exact smsN_eq b ρ2 K
  | .whil c b, ρ, R => by
    simp only [smN, sm, tstN_eq]
    refine ex_sw fun W => ?_
    congr 1
    refine forall_congr fun m => forall_congr fun ρ1 => ?_
    refine congrArg (fun z => W m ρ1 → z) ?_
    congr 1
    funext k ρ2
    cases k with
    | false => rfl
    | true =>
      show smsN F C b ρ2 _ = _
      (rw [smsN_eq b]) <;> rfl
  | .ret e, ρ, R => by simp only [smN, sm, exN_eq]
  | .pass, ρ, R => by simp only [smN, sm]
  | .brk, ρ, R => by simp only [smN, sm]
  | .cnt, ρ, R => by simp only [smN, sm]
  | .never, ρ, R => by simp only [smN, sm]
theorem smsN_eq : ∀ (ss : Sms) (ρ : En) (R : Out → En → Prop), smsN F C ss ρ R = sms F C ss ρ R
  | .nil, ρ, R => by simp only [smsN, sms]
  | .cons s ss, ρ, R => by
    simp only [smsN, sms, smN_eq s, smsN_eq ss]
    congr 1
end
def endN (ss : List Sl) (R : Rv → List Sl → Prop) (o : Out) (ρ : En) : Prop := match o with
  | .nxt => R (.va .non) (outE ss ρ)
  | .ret r => R r (outE ss ρ)
  | _ => False
def runN (b : Sms) (n : Nat) (ss : List Sl) (R : Rv → List Sl → Prop) : Prop :=
  force (ss ++ List.replicate (n - ss.length) .no) fun ρ => smsN F C b ρ (endN ss R)
theorem runN_i {b : Sms} {p n : Nat} {ss : List Sl} {R : Rv → List Sl → Prop} (h : (ss.length = p ∧ p ≤ n) ∧ noOw ss = true) (k : runN F C b n ss R) : runF F C b p n ss R := by
  refine ⟨h.1, h.2, ?_⟩
  have := h.1.1
  subst this
  unfold runN at k
  rw [force_eq] at k ⊢
  rw [smsN_eq] at k
  refine Eq.mpr (congrArg (sms F C b _) (funext fun o => funext fun ρ => ?_)) k
  cases o <;> rfl
end
end DL

namespace DL
open PySem PySem.Spec PyProof.Rows L2

/-! what is shown; what is equal -/
mutual
def allI (k : Nat) : D → Prop
  | .non => True
  | .bl _ => True
  | .int i => Bd k i
  | .str s => (s.cps.toList.all fun c => decide (c < 16 ^ 8)) = true
  | .tup ds => allIs k ds
  | .lst ds => allIs k ds
  | .scr ds => allIs k ds
  | .obj _ _ _ => False
  | .raw _ => False
  | .dct ks ds => (∀ x ∈ ks, match x with | .inl i => Bd k i | .inr s => (s.cps.toList.all fun c => decide (c < 16 ^ 8)) = true) ∧ allIs k ds
def allIs (k : Nat) : List D → Prop
  | [] => True
  | d :: r => allI k d ∧ allIs k r
end
theorem short_int {i : Int} {k : Nat} (hk : k ≤ 1900) (h : Bd k i) : i.natAbs.log2 < 1920 := by
  have := h.log
  omega
theorem int_len {i : Int} (h : i.natAbs.log2 < 1920) : (PySem.Str.ofString (toString i)).length ≤ 1921 := by
  rw [PySem.ofString_length]; exact PySem.int_text_length_le (k := 1920) (by decide) h
theorem leaves_dct {k : Nat} (hk : k ≤ 1900) : ∀ (ks : List Key) (ps : List PyData), (∀ x ∈ ks, match x with | .inl i => Bd k i | .inr s => (s.cps.toList.all fun c => decide (c < 16 ^ 8)) = true) → PyData.leavesShortAll 1921 ps = true → PyData.showableAll ps = true →
    PyData.leavesShortKv 1921 ((ks.map keyP).zip ps) = true ∧ PyData.showableKv ((ks.map keyP).zip ps) = true
  | [], _, _, _, _ => ⟨rfl, rfl⟩
  | _ :: _, [], _, _, _ => ⟨rfl, rfl⟩
  | x :: ks, p :: ps, h, h1, h2 => by
    have h1 : (PyData.leavesShort 1921 p && PyData.leavesShortAll 1921 ps) = true := h1
    have h2 : (p.showable && PyData.showableAll ps) = true := h2
    rw [Bool.and_eq_true] at h1 h2
    obtain ⟨i1, i2⟩ := leaves_dct hk ks ps (fun x hx => h x (List.mem_cons_of_mem _ hx)) h1.2 h2.2
    have hx := h x List.mem_cons_self
    have : PyData.leavesShort 1921 (keyP x) = true ∧ (keyP x).showable = true := by
      cases x with
      | inl i =>
        have h1 := short_int hk hx
        exact ⟨decide_eq_true (int_len h1), decide_eq_true h1⟩
      | inr s => exact ⟨hx, rfl⟩
    constructor
    · show (PyData.leavesShort 1921 (keyP x) && PyData.leavesShort 1921 p && PyData.leavesShortKv 1921 ((ks.map keyP).zip ps)) = true
      rw [this.1, h1.1, i1]; rfl
    · show ((keyP x).showable && p.showable && PyData.showableKv ((ks.map keyP).zip ps)) = true
      rw [this.2, h2.1, i2]; rfl
mutual
theorem leaves_of {k : Nat} (hk : k ≤ 1900) : ∀ d : D, allI k d → d.pyR.leavesShort 1921 = true ∧ d.pyR.showable = true
  | .non, _ => ⟨rfl, rfl⟩
  | .bl _, _ => ⟨rfl, rfl⟩
  | .int i, h => by
    have h1 := short_int hk h
    exact ⟨decide_eq_true (int_len h1), decide_eq_true h1⟩
  | .str s, h => ⟨h, rfl⟩
  | .tup ds, h => leaves_all hk ds h
  | .lst ds, h => leaves_all hk ds h
  | .scr ds, h => leaves_all hk ds h
  | .obj _ _ _, h => h.elim
  | .raw _, h => h.elim
  | .dct ks ds, h => by
    obtain ⟨h1, h2⟩ := leaves_all hk ds h.2
    exact leaves_dct hk ks (D.pysR ds) h.1 h1 h2
theorem leaves_all {k : Nat} (hk : k ≤ 1900) : ∀ ds : List D, allIs k ds → PyData.leavesShortAll 1921 (D.pysR ds) = true ∧ PyData.showableAll (D.pysR ds) = true
  | [], _ => ⟨rfl, rfl⟩
  | d :: ds, h => by
    obtain ⟨a1, a2⟩ := leaves_of hk d h.1
    obtain ⟨b1, b2⟩ := leaves_all hk ds h.2
    exact ⟨by simp only [D.pysR, PyData.leavesShortAll, a1, b1, Bool.and_self], by simp only [D.pysR, PyData.showableAll, a2, b2, Bool.and_self]⟩
end
theorem okS_of {d : D} (h : allI 1900 d) (w : Nat.ble d.pyR.bulk 8000 = true) (p : Nat.ble d.pyR.depth 64 = true) : okS d := by
  obtain ⟨h1, h2⟩ := leaves_of (Nat.le_refl _) d h
  have h3 := PyData.shown_le_bulk 1921 (by decide) d.pyR h1
  have w' := Nat.le_of_ble_eq_true w
  refine ⟨h2, Nat.le_of_ble_eq_true p, ?_⟩
  have e : sizeLine = 16777216 := by decide
  have := Nat.mul_le_mul_left (1921 + 2) w'
  omega
theorem junk_eq : PyData.eqv junkP junkP = true := by decide +kernel
mutual
theorem eqv_py : ∀ d : D, PyData.eqv d.py d.py = true
  | .non => rfl
  | .bl b => by simp [D.py, PyData.eqv]
  | .int _ => by simp [D.py, PyData.eqv]
  | .str _ => by simp [D.py, PyData.eqv]
  | .tup ds => by simpa [D.py, PyData.eqv] using eqv_pys ds
  | .lst ds => by simpa [D.py, PyData.eqv] using eqv_pys ds
  | .scr ds => by simpa [D.py, PyData.eqv] using eqv_pys ds
  | .obj _ _ _ => junk_eq
  | .raw _ => junk_eq
  | .dct _ _ => junk_eq
theorem eqv_pys : ∀ ds : List D, PyData.eqvAll (D.pys ds) (D.pys ds) = true
  | [] => rfl
  | d :: ds => by
    simp only [D.pys, PyData.eqvAll, eqv_py d, eqv_pys ds, Bool.and_self]
end
theorem eqD_refl (d : D) : eqD d d = true := eqv_py d
theorem eqD_of {d e : D} (h : d = e) : eqD d e = true := h ▸ eqD_refl d
/-! tests that come out -/
theorem br_tt {k : Bool} {A B : Prop} (h : k = true) (a : A) : br k A B := by rw [h]; exact a
theorem br_ff {k : Bool} {A B : Prop} (h : k = false) (b : B) : br k A B := by rw [h]; exact b
theorem br_both {k : Bool} {A B : Prop} (a : k = true → A) (b : k = false → B) : br k A B := by
  cases k with
  | true => exact a rfl
  | false => exact b rfl
theorem br_dec {p : Prop} [Decidable p] {A B : Prop} (a : p → A) (b : ¬ p → B) : br (decide p) A B := br_both (fun h => a (of_decide_eq_true h)) fun h => b (of_decide_eq_false h)
theorem br_same {x y : Str} {A B : Prop} (h : x = y) (b : B) : br (!eqS x y) A B := br_ff (by rw [eqS_eq, decide_eq_true h]; rfl) b
theorem br_eq {d e : D} {A B : Prop} (h : d = e) (b : B) : br (!eqQ d e) A B := br_ff (by rw [eqQ_eq, eqD_of h]; rfl) b
theorem br_eqt {d e : D} {A B : Prop} (h : d = e) (a : A) : br (eqQ d e) A B := br_tt (by rw [eqQ_eq, eqD_of h]) a
theorem br_sameo {x y : Str} {A B : Prop} (h : x = y) (a : A) : br ((!eqS x y) == false) A B := br_tt (by rw [eqS_eq, decide_eq_true h]; rfl) a
theorem br_eqo {d e : D} {A B : Prop} (h : d = e) (a : A) : br ((!eqQ d e) == false) A B := br_tt (by rw [eqQ_eq, eqD_of h]; rfl) a
def ownB (own : List Nat) (ρ : En) : Bool := own.all fun i => match ρ[i]? with
  | some .no => true
  | some (.va _) => true
  | _ => false
theorem ownB_i {own : List Nat} {ρ : En} (h : ownB own ρ = true) : ownOk own ρ := by
  intro i hi
  have := List.all_eq_true.mp h i hi
  split at this
  · exact .inl (by assumption)
  · exact .inr ⟨_, by assumption⟩
  · cases this
theorem R_cv {R : Rv → List Sl → Prop} {x y : Rv} {o p : List Sl} (q : R x o) (h : y = x) (ho : p = o) : R y p := by rw [h, ho]; exact q
theorem am_eq {a b c d e f g h : Int} (h1 : a = e) (h2 : b = f) (h3 : c = g) (h4 : d = h) : (.tup [.int a, .int b, .int c, .int d] : D) = .tup [.int e, .int f, .int g, .int h] := by rw [h1, h2, h3, h4]
theorem pr_eq {a b e f : Int} (h1 : a = e) (h2 : b = f) : (.tup [.int a, .int b] : D) = .tup [.int e, .int f] := by rw [h1, h2]
/-! the verification conditions -/
theorem br_sames {x y : Str} {A B : Prop} (h : x = y) (a : A) : br (eqS x y) A B := br_tt (by rw [eqS_eq, decide_eq_true h]) a
/-! loops whose length is not written -/
theorem forN_i {w : Option Nat} {ρ0 : En} {g : D → En → (En → Prop) → Prop} {b : En → (Out → En → Prop) → Prop} {ds : List D} {ρ : En} {R : Out → En → Prop} (I : Nat → En → Prop) (h0 : I 0 ρ)
    (step : ∀ i d ρ (K : Out → En → Prop), ds[i]? = some d → I i ρ → (∀ ρ2, I (i + 1) ρ2 → wk w ρ0 ρ2 True → K .nxt ρ2) → (∀ ρ2, I (i + 1) ρ2 → wk w ρ0 ρ2 True → K .cnt ρ2) → (∀ ρ2, R .nxt ρ2 → K .brk ρ2) → (∀ r ρ2, R (.ret r) ρ2 → K (.ret r) ρ2) → g d ρ fun ρ1 => force ρ1 fun ρ1 => b ρ1 K)
    (fin : ∀ ρ, I ds.length ρ → R .nxt ρ) : forN w ρ0 g b ds ρ R := by
  have go : ∀ n i ρ, i + n = ds.length → I i ρ → forN w ρ0 g b (ds.drop i) ρ R := by
    intro n
    induction n with
    | zero =>
      intro i ρ e h
      have e' : i = ds.length := by omega
      subst e'
      rw [List.drop_length]
      exact fin ρ h
    | succ n ih =>
      intro i ρ e h
      have hlt : i < ds.length := by omega
      rw [List.drop_eq_getElem_cons hlt]
      have k : ∀ ρ2, I (i + 1) ρ2 → wk w ρ0 ρ2 True → wk w ρ0 ρ2 (force ρ2 fun ρ2 => forN w ρ0 g b (ds.drop (i + 1)) ρ2 R) := fun ρ2 h2 h3 => by
        rw [wk_eq] at h3 ⊢
        refine ⟨h3.1, ?_⟩
        rw [force_eq]
        exact ih (i + 1) ρ2 (by omega) h2
      exact step i _ ρ _ (List.getElem?_eq_getElem hlt) h k k (fun _ q => q) (fun _ _ q => q)
  have := go ds.length 0 ρ (by omega) h0
  rwa [List.drop_zero] at this
theorem compN_i {w : Option Nat} {ρ0 : En} {own : List Nat} {g : D → En → (En → Prop) → Prop} {c : En → (Bool → En → Prop) → Prop} {e : En → (D → En → Prop) → Prop} {ds : List D} {ρ : En} {R : List D → En → Prop} (I : Nat → List D → En → Prop) (h0 : I 0 [] ρ)
    (step : ∀ i d acc ρ (K : List D → En → Prop), ds[i]? = some d → I i acc ρ → (∀ acc' ρ2, I (i + 1) acc' ρ2 → K acc' ρ2) → g d ρ fun ρ1 => force ρ1 fun ρ1 => c ρ1 fun b ρ2 => br b
      (e ρ2 fun y ρ3 => leN (acc.length + 1) sizeLine (wk w ρ0 ρ3 (force (wipeE own ρ3) fun ρ3 => K (acc ++ [y]) ρ3)))
      (wk w ρ0 ρ2 (force (wipeE own ρ2) fun ρ2 => K acc ρ2))) (fin : ∀ acc ρ, I ds.length acc ρ → R acc ρ) : compN w ρ0 own g c e ds [] ρ R := by
  have go : ∀ n i acc ρ, i + n = ds.length → I i acc ρ → compN w ρ0 own g c e (ds.drop i) acc ρ R := by
    intro n
    induction n with
    | zero =>
      intro i acc ρ e h
      have e' : i = ds.length := by omega
      subst e'
      rw [List.drop_length]
      exact fin acc ρ h
    | succ n ih =>
      intro i acc ρ e h
      have hlt : i < ds.length := by omega
      rw [List.drop_eq_getElem_cons hlt]
      have st := step i _ acc ρ _ (List.getElem?_eq_getElem hlt) h fun acc2 ρ2 h2 => ih (i + 1) acc2 ρ2 (by omega) h2
      simp only [compN, appK_eq]
      exact st
  have := go ds.length 0 [] ρ (by omega) h0
  rwa [List.drop_zero] at this
theorem stepN {F : List Fe} {C : List D} {s : Sm} {ss : Sms} {ρ : En} {R : Out → En → Prop}
    (h : ∀ K : Out → En → Prop, (∀ ρ1, smsN F C ss ρ1 R → K .nxt ρ1) → (∀ r ρ1, R (.ret r) ρ1 → K (.ret r) ρ1) → (∀ ρ1, R .brk ρ1 → K .brk ρ1) → (∀ ρ1, R .cnt ρ1 → K .cnt ρ1) → smN F C s ρ K) : smsN F C (.cons s ss) ρ R := by
  simp only [smsN]
  refine h _ (fun ρ1 h => ?_) (fun _ _ h => h) (fun _ h => h) (fun _ h => h)
  show force ρ1 _
  rw [force_eq]
  exact h
theorem okL (ns : List Int) : okD (.lst (ns.map .int)) := by
  have e1 : ∀ ns : List Int, PyData.canLayAll0 (D.pys (ns.map .int)) = true := by
    intro ns
    induction ns with
    | nil => rfl
    | cons n ns ih => simp [D.pys, D.py, PyData.canLayAll0, PyData.canLay0, ih]
  have e2 : ∀ ns : List Int, PyData.depthAll (D.pys (ns.map .int)) = 0 := by
    intro ns
    induction ns with
    | nil => rfl
    | cons n ns ih => simp [D.pys, D.py, PyData.depthAll, PyData.depth, ih]
  unfold okD SeqAt.shaped
  simp [D.py, PyData.canLay0, PyData.depth, e1, e2]
theorem log64 {m : Int} (h0 : 0 < m) (h : m < 2 ^ 64) : m.natAbs.log2 < 9000 := by
  have := log_lt (x := m) (k := 64) (by decide) (by omega)
  omega
/-! what draws: n draws are left at least -/
def Cr (n : Nat) (d : D) : Prop := ∃ (cells : List Int) (at_ rest : Int), d = .lst [.lst (cells.map .int), .int at_, .int rest] ∧ 0 ≤ at_ ∧ at_ + n ≤ 1000000
theorem Cr.le {n m : Nat} {d : D} (h : Cr n d) (l : m ≤ n) : Cr m d := by
  obtain ⟨c, a, r, e, h1, h2⟩ := h
  exact ⟨c, a, r, e, h1, by omega⟩
theorem cut_ints (ns : List Int) (lo hi : Option Int) : ∃ ms : List Int, cutD (ns.map .int) lo hi = ms.map .int ∧ ms.length ≤ ns.length := by
  refine ⟨(ns.drop (HT.sIx (ns.map D.int).length 0 lo)).take (HT.sIx (ns.map D.int).length (ns.map D.int).length hi - HT.sIx (ns.map D.int).length 0 lo), ?_, ?_⟩
  · unfold cutD
    rw [List.map_take, List.map_drop]
  · rw [List.length_take, List.length_drop]
    omega
theorem map_take_succ {f : Int → D} {ms : List Int} {i : Nat} {e : D} (h : (ms.map f)[i]? = some e) : ∃ z, e = f z ∧ (ms.take i).map f ++ [f z] = (ms.take (i + 1)).map f := by
  rw [List.getElem?_map] at h
  cases q : ms[i]? with
  | none => rw [q] at h; cases h
  | some z =>
    rw [q] at h
    refine ⟨z, (Option.some.inj h).symm, ?_⟩
    rw [List.take_add_one, q, List.map_append]
    rfl
def drawF : Fe := fun ss R => match ss with
  | [.mu cr, .va (.int many)] => ∃ n, Cr (n + 1) cr ∧ (0 < many ∧ many < 2 ^ 64) ∧ ∀ r cr', (0 ≤ r ∧ r < many) → Cr n cr' → R (.va (.int r)) [.mu cr', .no]
  | _ => False
def oneF : Fe := fun ss R => match ss with
  | [.mu cr, .va (.lst ds)] => ∃ n, Cr (n + 1) cr ∧ (0 < ds.length ∧ ds.length < 1000) ∧ ∀ d cr', d ∈ ds → Cr n cr' → R (.va d) [.mu cr', .no]
  | _ => False
def crockF : Fe := fun ss R => match ss with
  | [.va (.scr ds)] => (∃ ns : List Int, ds = ns.map .int ∧ ns.length ≤ 63) ∧ ∀ cr, Cr 1000000 cr → R (.fr cr) [.no]
  | _ => False
end DL

namespace DL
open PySem PySem.Spec PyProof.Rows L2

/-! comprehensions that leave the slots -/
theorem compN_map {w : Option Nat} {ρ0 : En} {own : List Nat} {g : D → En → (En → Prop) → Prop} {c : En → (Bool → En → Prop) → Prop} {e : En → (D → En → Prop) → Prop} {ds : List D} {ρ : En} {R : List D → En → Prop} (P : Nat → Bool) (f : Nat → D) (hl : ds.length < sizeLine)
    (step : ∀ i d (A : D → En → Prop) (B : En → Prop), ds[i]? = some d → i < ds.length → (P i = true → ∀ ρ3, wipeE own ρ3 = ρ → wk w ρ0 ρ3 True → A (f i) ρ3) → (P i = false → ∀ ρ3, wipeE own ρ3 = ρ → wk w ρ0 ρ3 True → B ρ3) → g d ρ fun ρ1 => force ρ1 fun ρ1 => c ρ1 fun b ρ2 => br b (e ρ2 A) (B ρ2))
    (fin : R (((List.range ds.length).filter P).map f) ρ) : compN w ρ0 own g c e ds [] ρ R := by
  refine compN_i (fun i acc ρ' => i ≤ ds.length ∧ acc = ((List.range i).filter P).map f ∧ ρ' = ρ) ⟨Nat.zero_le _, rfl, rfl⟩ ?_ ?_
  · rintro i d acc ρ' K hi ⟨hle, rfl, rfl⟩ hK
    have hlt : i < ds.length := (List.getElem?_eq_some_iff.mp hi).1
    refine step i d _ _ hi hlt (fun hp ρ3 h1 h2 => ?_) (fun hp ρ3 h1 h2 => ?_)
    · refine leN_i ?_ ?_
      · rw [List.length_map]
        have := List.length_filter_le P (List.range i)
        rw [List.length_range] at this
        omega
      · rw [wk_eq] at h2 ⊢
        refine ⟨h2.1, ?_⟩
        rw [force_eq, h1]
        refine hK _ _ ⟨hlt, ?_, rfl⟩
        rw [List.range_succ, List.filter_append, List.map_append]
        simp [hp]
    · rw [wk_eq] at h2 ⊢
      refine ⟨h2.1, ?_⟩
      rw [force_eq, h1]
      refine hK _ _ ⟨hlt, ?_, rfl⟩
      rw [List.range_succ, List.filter_append, List.map_append]
      simp [hp]
  · rintro acc ρ' ⟨_, rfl, rfl⟩
    exact fin
theorem compN_all {w : Option Nat} {ρ0 : En} {own : List Nat} {g : D → En → (En → Prop) → Prop} {c : En → (Bool → En → Prop) → Prop} {e : En → (D → En → Prop) → Prop} {ds : List D} {ρ : En} {R : List D → En → Prop} (f : Nat → D) (hl : ds.length < sizeLine)
    (step : ∀ i d (A : D → En → Prop) (B : En → Prop), ds[i]? = some d → i < ds.length → (∀ ρ3, wipeE own ρ3 = ρ → wk w ρ0 ρ3 True → A (f i) ρ3) → g d ρ fun ρ1 => force ρ1 fun ρ1 => c ρ1 fun b ρ2 => br b (e ρ2 A) (B ρ2))
    (fin : R ((List.range ds.length).map f) ρ) : compN w ρ0 own g c e ds [] ρ R := by
  refine compN_map (fun _ => true) f hl (fun i d A B h1 h2 h3 _ => step i d A B h1 h2 (h3 rfl)) ?_
  have e : (List.range ds.length).filter (fun _ => true) = List.range ds.length := by simp
  rw [e]
  exact fin
theorem inPN_all {own1 : List Nat} {g1 : D → En → (En → Prop) → Prop} {e : En → (D → En → Prop) → Prop} {ρ : En} {R : List D → En → Prop} : ∀ (ds acc : List D) (f : Nat → D), acc.length + ds.length < sizeLine →
    (∀ i d (A : D → En → Prop), ds[i]? = some d → (∀ ρ3, wipeE own1 ρ3 = ρ → A (f i) ρ3) → g1 d ρ fun ρ1 => force ρ1 fun ρ1 => e ρ1 A) → R (acc ++ (List.range ds.length).map f) ρ → inPN own1 g1 e ds acc ρ R
  | [], acc, f, _, _, fin => by
    rw [List.length_nil, List.range_zero, List.map_nil, List.append_nil] at fin
    exact fin
  | d :: ds, acc, f, hl, step, fin => by
    rw [List.length_cons] at hl fin
    simp only [inPN]
    refine step 0 d _ rfl fun ρ3 h => ?_
    refine leN_i (by omega) ?_
    rw [force_eq, h, appK_eq]
    refine inPN_all ds (acc ++ [f 0]) (fun i => f (i + 1)) (by rw [List.length_append, List.length_singleton]; omega) (fun i d' A h1 h2 => step (i + 1) d' A (by simpa using h1) h2) ?_
    rw [List.append_assoc]
    have e : [f 0] ++ (List.range ds.length).map (fun i => f (i + 1)) = (List.range (ds.length + 1)).map f := by
      rw [List.range_succ_eq_map]
      simp [Function.comp_def]
    rw [e]
    exact fin
theorem comp2N_i {w : Option Nat} {ρ0 : En} {own own1 : List Nat} {g : D → En → (En → Prop) → Prop} {i1 : En → (List D → Option Nat → En → Prop) → Prop} {g1 : D → En → (En → Prop) → Prop} {e : En → (D → En → Prop) → Prop} {ds : List D} {ρ : En} {R : List D → En → Prop} (I : Nat → List D → En → Prop) (h0 : I 0 [] ρ)
    (step : ∀ i d acc ρ (K : List D → En → Prop), ds[i]? = some d → I i acc ρ → (∀ acc' ρ2, I (i + 1) acc' ρ2 → K acc' ρ2) → g d ρ fun ρ1 => force ρ1 fun ρ1 => i1 ρ1 fun es w1 ρ2 => bk w1.isNone (force (wipeE own1 ρ2) fun ρ2 => inPN own1 g1 e es acc ρ2 fun acc ρ3 => wk w ρ0 ρ3 (force (wipeE own ρ3) fun ρ3 => K acc ρ3)))
    (fin : ∀ acc ρ, I ds.length acc ρ → R acc ρ) : comp2N w ρ0 own own1 g i1 g1 e ds [] ρ R := by
  have go : ∀ n i acc ρ, i + n = ds.length → I i acc ρ → comp2N w ρ0 own own1 g i1 g1 e (ds.drop i) acc ρ R := by
    intro n
    induction n with
    | zero =>
      intro i acc ρ e h
      have e' : i = ds.length := by omega
      subst e'
      rw [List.drop_length]
      exact fin acc ρ h
    | succ n ih =>
      intro i acc ρ e h
      have hlt : i < ds.length := by omega
      rw [List.drop_eq_getElem_cons hlt]
      have st := step i _ acc ρ _ (List.getElem?_eq_getElem hlt) h fun acc2 ρ2 h2 => ih (i + 1) acc2 ρ2 (by omega) h2
      simp only [comp2N]
      exact st
  have := go ds.length 0 [] ρ (by omega) h0
  rwa [List.drop_zero] at this

end DL

namespace DL
open PySem PySem.Spec PyProof.Rows L2
def topS (i : Nat) : Stmt := PySem.Challenge.pw_lookmade_k02_bits_turns_amounts_lots.main.body.getD i (.Pass ⟨0, 0, 0, 0⟩)
/-! is_integer -/
abbrev s_is_integer : Stmt := topS 2
def N_is_integer : List Str := ["value"]
def p_is_integer : List Str := ["value"]
theorem sc_is_integer : FnScope N_is_integer p_is_integer (defScope s_is_integer) := ⟨rfl, rfl, rfl, by decide +kernel, rfl, by decide +kernel, by decide +kernel⟩
def b_is_integer : Sms := (.cons (.ret (.bop true (.cons (.isi (.var 0) [.int]) (.cons (.not (.isi (.var 0) [.bool])) .nil))))
  .nil)
def C_is_integer : List D := []
def c_is_integer : Mc := ⟨N_is_integer, defScope s_is_integer, fun _ => true, [], [], ["isinstance", "int", "bool"], [], []⟩
theorem m_is_integer : matSs b_is_integer c_is_integer (defBody s_is_integer) = true := by decide +kernel
/-! is_within -/
abbrev s_is_within : Stmt := topS 3
def N_is_within : List Str := ["value", "least", "most"]
def p_is_within : List Str := ["value", "least", "most"]
theorem sc_is_within : FnScope N_is_within p_is_within (defScope s_is_within) := ⟨rfl, rfl, rfl, by decide +kernel, rfl, by decide +kernel, by decide +kernel⟩
def b_is_within : Sms := (.cons (.iff (.not (.call 0 (.cons (.var 0) .nil)))
  (.cons (.ret (.bl false))
  .nil)
  .nil)
  (.cons (.ret (.bop true (.cons (.bop false (.cons (.cmp .Is (.var 1) .non) (.cons (.cmp .GtE (.var 0) (.var 1)) .nil))) (.cons (.bop false (.cons (.cmp .Is (.var 2) .non) (.cons (.cmp .LtE (.var 0) (.var 2)) .nil))) .nil))))
  .nil))
def C_is_within : List D := []
def c_is_within : Mc := ⟨N_is_within, defScope s_is_within, fun _ => true, ["is_integer"], [], [], [], []⟩
theorem m_is_within : matSs b_is_within c_is_within (defBody s_is_within) = true := by decide +kernel
/-! is_bit -/
abbrev s_is_bit : Stmt := topS 4
def N_is_bit : List Str := ["value"]
def p_is_bit : List Str := ["value"]
theorem sc_is_bit : FnScope N_is_bit p_is_bit (defScope s_is_bit) := ⟨rfl, rfl, rfl, by decide +kernel, rfl, by decide +kernel, by decide +kernel⟩
def b_is_bit : Sms := (.cons (.ret (.call 0 (.cons (.var 0) (.cons (.int 0) (.cons (.int 1) .nil)))))
  .nil)
def C_is_bit : List D := []
def c_is_bit : Mc := ⟨N_is_bit, defScope s_is_bit, fun _ => true, ["is_within"], [], [], [], []⟩
theorem m_is_bit : matSs b_is_bit c_is_bit (defBody s_is_bit) = true := by decide +kernel
/-! is_turn -/
abbrev s_is_turn : Stmt := topS 5
def N_is_turn : List Str := ["value"]
def p_is_turn : List Str := ["value"]
theorem sc_is_turn : FnScope N_is_turn p_is_turn (defScope s_is_turn) := ⟨rfl, rfl, rfl, by decide +kernel, rfl, by decide +kernel, by decide +kernel⟩
def b_is_turn : Sms := (.cons (.ret (.call 0 (.cons (.var 0) (.cons (.int 0) (.cons (.int 7) .nil)))))
  .nil)
def C_is_turn : List D := []
def c_is_turn : Mc := ⟨N_is_turn, defScope s_is_turn, fun _ => true, ["is_within"], [], [], [], []⟩
theorem m_is_turn : matSs b_is_turn c_is_turn (defBody s_is_turn) = true := by decide +kernel
/-! is_list -/
abbrev s_is_list : Stmt := topS 6
def N_is_list : List Str := ["value"]
def p_is_list : List Str := ["value"]
theorem sc_is_list : FnScope N_is_list p_is_list (defScope s_is_list) := ⟨rfl, rfl, rfl, by decide +kernel, rfl, by decide +kernel, by decide +kernel⟩
def b_is_list : Sms := (.cons (.ret (.isi (.var 0) [.list, .tuple]))
  .nil)
def C_is_list : List D := []
def c_is_list : Mc := ⟨N_is_list, defScope s_is_list, fun _ => true, [], [], ["isinstance", "list", "tuple"], [], []⟩
theorem m_is_list : matSs b_is_list c_is_list (defBody s_is_list) = true := by decide +kernel
/-! is_amount -/
abbrev s_is_amount : Stmt := topS 7
def N_is_amount : List Str := ["value", "number"]
def p_is_amount : List Str := ["value"]
theorem sc_is_amount : FnScope N_is_amount p_is_amount (defScope s_is_amount) := ⟨rfl, rfl, rfl, by decide +kernel, rfl, by decide +kernel, by decide +kernel⟩
def b_is_amount : Sms := (.cons (.ret (.bop true (.cons (.call 0 (.cons (.var 0) .nil)) (.cons (.cmp .Eq (.blt .len (.cons (.var 0) .nil)) (.int 4)) (.cons (.blt .all (.cons (.comp (.name 1) (.seq (.var 0)) .nil (.call 1 (.cons (.var 1) .nil)) [1]) .nil)) .nil)))))
  .nil)
def C_is_amount : List D := []
def c_is_amount : Mc := ⟨N_is_amount, defScope s_is_amount, fun _ => true, ["is_list", "is_integer"], [], ["len", "all"], [], []⟩
theorem m_is_amount : matSs b_is_amount c_is_amount (defBody s_is_amount) = true := by decide +kernel
/-! is_spread -/
abbrev s_is_spread : Stmt := topS 8
def N_is_spread : List Str := ["value", "amount", "number"]
def p_is_spread : List Str := ["value"]
theorem sc_is_spread : FnScope N_is_spread p_is_spread (defScope s_is_spread) := ⟨rfl, rfl, rfl, by decide +kernel, rfl, by decide +kernel, by decide +kernel⟩
def b_is_spread : Sms := (.cons (.iff (.bop false (.cons (.not (.call 0 (.cons (.var 0) .nil))) (.cons (.cmp .NotIn (.blt .len (.cons (.var 0) .nil)) (.con 0)) .nil)))
  (.cons (.ret (.bl false))
  .nil)
  .nil)
  (.cons (.iff (.not (.blt .all (.cons (.comp (.name 1) (.seq (.var 0)) .nil (.call 1 (.cons (.var 1) .nil)) [1]) .nil)))
  (.cons (.ret (.bl false))
  .nil)
  .nil)
  (.cons (.ret (.blt .any (.cons (.comp2 (.name 1) (.seq (.var 0)) (.name 2) (.seq (.var 1)) (.cmp .NotEq (.var 2) (.int 0)) [1, 2] [2]) .nil)))
  .nil)))
def C_is_spread : List D := [.tup [.int 1, .int 2, .int 4, .int 8, .int 16, .int 32, .int 64, .int 128, .int 256, .int 512, .int 1024, .int 2048, .int 4096]]
def c_is_spread : Mc := ⟨N_is_spread, defScope s_is_spread, fun _ => true, ["is_list", "is_amount"], ["SIZES"], ["len", "all", "any"], [], []⟩
theorem m_is_spread : matSs b_is_spread c_is_spread (defBody s_is_spread) = true := by decide +kernel
/-! is_lot -/
abbrev s_is_lot : Stmt := topS 9
def N_is_lot : List Str := ["value", "thing"]
def p_is_lot : List Str := ["value"]
theorem sc_is_lot : FnScope N_is_lot p_is_lot (defScope s_is_lot) := ⟨rfl, rfl, rfl, by decide +kernel, rfl, by decide +kernel, by decide +kernel⟩
def b_is_lot : Sms := (.cons (.iff (.bop false (.cons (.not (.call 0 (.cons (.var 0) .nil))) (.cons (.not (.blt .all (.cons (.comp (.name 1) (.seq (.var 0)) .nil (.call 1 (.cons (.var 1) (.cons (.int 0) (.cons .non .nil)))) [1]) .nil))) .nil)))
  (.cons (.ret (.bl false))
  .nil)
  .nil)
  (.cons (.ret (.cmp .Eq (.lset (.var 0)) (.blt .len (.cons (.var 0) .nil))))
  .nil))
def C_is_lot : List D := []
def c_is_lot : Mc := ⟨N_is_lot, defScope s_is_lot, fun _ => true, ["is_list", "is_within"], [], ["all", "len", "set"], [], []⟩
theorem m_is_lot : matSs b_is_lot c_is_lot (defBody s_is_lot) = true := by decide +kernel
/-! _law_sieve -/
abbrev s__law_sieve : Stmt := topS 11
def N__law_sieve : List Str := ["script", "cell"]
def p__law_sieve : List Str := ["script"]
theorem sc__law_sieve : FnScope N__law_sieve p__law_sieve (defScope s__law_sieve) := ⟨rfl, rfl, rfl, by decide +kernel, rfl, by decide +kernel, by decide +kernel⟩
def b__law_sieve : Sms := (.cons (.ret (.lst (.cons (.comp (.name 1) (.seq (.sl (.var 0) .nil (.cons (.int 60) .nil))) .nil (.blt .int (.cons (.var 1) .nil)) [1]) (.cons (.int 0) (.cons (.int 0) .nil)))))
  .nil)
def C__law_sieve : List D := []
def c__law_sieve : Mc := ⟨N__law_sieve, defScope s__law_sieve, fun _ => true, [], [], ["int"], [], []⟩
theorem m__law_sieve : matSs b__law_sieve c__law_sieve (defBody s__law_sieve) = true := by decide +kernel
/-! _law_shake -/
abbrev s__law_shake : Stmt := topS 12
def N__law_shake : List Str := ["sieve", "many", "rest", "at", "cell", "mixed"]
def p__law_shake : List Str := ["sieve", "many"]
theorem sc__law_shake : FnScope N__law_shake p__law_shake (defScope s__law_shake) := ⟨rfl, rfl, rfl, by decide +kernel, rfl, by decide +kernel, by decide +kernel⟩
def b__law_shake : Sms := (.cons (.iff (.cmp .Gt (.ix (.var 0) (.int 2)) (.int 0))
  (.cons (.asg (.name 2) (.blt .int (.cons (.ix (.var 0) (.int 2)) .nil)))
  (.cons (.setI 0 (.int 2) (.bin .FloorDiv (.var 2) (.var 1)))
  (.cons (.ret (.bin .Mod (.blt .int (.cons (.var 2) .nil)) (.var 1)))
  .nil)))
  .nil)
  (.cons (.asg (.name 3) (.ix (.var 0) (.int 1)))
  (.cons (.setI 0 (.int 1) (.bin .Add (.var 3) (.int 1)))
  (.cons (.asg (.name 4) (.bin .Add (.bin .Mult (.int 70429) (.var 3)) (.int 5079)))
  (.cons (.iff (.cmp .NotEq (.ix (.var 0) (.int 0)) (.lst .nil))
  (.cons (.asg (.name 4) (.ix (.ix (.var 0) (.int 0)) (.bin .Mod (.blt .int (.cons (.var 3) .nil)) (.blt .len (.cons (.ix (.var 0) (.int 0)) .nil)))))
  .nil)
  .nil)
  (.cons (.iff (.bop true (.cons (.cmp .Lt (.var 3) (.blt .len (.cons (.ix (.var 0) (.int 0)) .nil))) (.cons (.cmp .GtE (.blt .abs (.cons (.var 4) .nil)) (.bin .Pow (.int 10) (.int 18))) .nil)))
  (.cons (.asg (.name 2) (.bin .Add (.bin .Mult (.int 2) (.bin .Sub (.blt .abs (.cons (.var 4) .nil)) (.bin .Pow (.int 10) (.int 18)))) (.blt .int (.cons (.cmp .Lt (.var 4) (.int 0)) .nil))))
  (.cons (.setI 0 (.int 2) (.bin .FloorDiv (.blt .int (.cons (.var 2) .nil)) (.var 1)))
  (.cons (.ret (.bin .Mod (.blt .int (.cons (.var 2) .nil)) (.var 1)))
  .nil)))
  .nil)
  (.cons (.asg (.name 5) (.bin .Mod (.blt .int (.cons (.bin .Pow (.bin .Add (.bin .Add (.bin .Mod (.blt .int (.cons (.var 4) .nil)) (.int 2147483563)) (.bin .Mult (.int 34231) (.var 3))) (.int 5079)) (.int 5)) .nil)) (.int 2147483497)))
  (.cons (.asg (.name 5) (.bin .Mod (.blt .int (.cons (.bin .Pow (.bin .Add (.bin .Add (.bin .Mult (.var 5) (.bin .Add (.bin .Mult (.int 2) (.var 3)) (.int 4569))) (.bin .Mult (.bin .Mult (.int 70429) (.var 3)) (.var 3))) (.int 34231)) (.int 3)) .nil)) (.int 2147483423)))
  (.cons (.ret (.bin .Mod (.blt .int (.cons (.bin .FloorDiv (.var 5) (.int 64)) .nil)) (.var 1)))
  .nil)))))))))
def C__law_shake : List D := []
def c__law_shake : Mc := ⟨N__law_shake, defScope s__law_shake, fun _ => true, [], [], ["int", "len", "abs"], [], []⟩
theorem m__law_shake : matSs b__law_shake c__law_shake (defBody s__law_shake) = true := by decide +kernel
/-! _law_one -/
abbrev s__law_one : Stmt := topS 13
def N__law_one : List Str := ["sieve", "some"]
def p__law_one : List Str := ["sieve", "some"]
theorem sc__law_one : FnScope N__law_one p__law_one (defScope s__law_one) := ⟨rfl, rfl, rfl, by decide +kernel, rfl, by decide +kernel, by decide +kernel⟩
def b__law_one : Sms := (.cons (.ret (.ix (.var 1) (.call 0 (.cons (.var 0) (.cons (.blt .len (.cons (.var 1) .nil)) .nil)))))
  .nil)
def C__law_one : List D := []
def c__law_one : Mc := ⟨N__law_one, defScope s__law_one, fun _ => true, ["_law_shake"], [], ["len"], [], []⟩
theorem m__law_one : matSs b__law_one c__law_one (defBody s__law_one) = true := by decide +kernel
/-! _law_is_number -/
abbrev s__law_is_number : Stmt := topS 14
def N__law_is_number : List Str := ["value"]
def p__law_is_number : List Str := ["value"]
theorem sc__law_is_number : FnScope N__law_is_number p__law_is_number (defScope s__law_is_number) := ⟨rfl, rfl, rfl, by decide +kernel, rfl, by decide +kernel, by decide +kernel⟩
def b__law_is_number : Sms := (.cons (.ret (.bop true (.cons (.isi (.var 0) [.int]) (.cons (.not (.isi (.var 0) [.bool])) .nil))))
  .nil)
def C__law_is_number : List D := []
def c__law_is_number : Mc := ⟨N__law_is_number, defScope s__law_is_number, fun _ => true, [], [], ["isinstance", "int", "bool"], [], []⟩
theorem m__law_is_number : matSs b__law_is_number c__law_is_number (defBody s__law_is_number) = true := by decide +kernel
/-! _law_odd -/
abbrev s__law_odd : Stmt := topS 15
def N__law_odd : List Str := ["sieve", "number"]
def p__law_odd : List Str := ["sieve"]
theorem sc__law_odd : FnScope N__law_odd p__law_odd (defScope s__law_odd) := ⟨rfl, rfl, rfl, by decide +kernel, rfl, by decide +kernel, by decide +kernel⟩
def b__law_odd : Sms := (.cons (.asg (.name 1) (.call 0 (.cons (.var 0) (.cons (.lst (.cons (.int 0) (.cons (.int 1) (.cons (.int 2) (.cons (.int 7) (.cons (.int 8) (.cons (.neg (.int 1)) (.cons (.bin .Pow (.int 10) (.int 40)) (.cons (.neg (.bin .Pow (.int 10) (.int 30))) (.cons (.call 1 (.cons (.var 0) (.cons (.int 9000) .nil))) .nil)))))))))) .nil))))
  (.cons (.ret (.call 0 (.cons (.var 0) (.cons (.lst (.cons (.frz 1) (.cons (.frz 1) (.cons .non (.cons (.bl true) (.cons (.bl false) (.cons (.blt .str (.cons (.var 1) .nil)) (.cons (.lst (.cons (.frz 1) .nil)) (.cons (.tup (.cons (.frz 1) .nil)) (.cons .dn0 (.cons (.dn1 (.var 1) (.int 1)) (.cons (.str "") (.cons (.lst .nil) (.cons (.tup .nil) .nil)))))))))))))) .nil))))
  .nil))
def C__law_odd : List D := []
def c__law_odd : Mc := ⟨N__law_odd, defScope s__law_odd, fun _ => true, ["_law_one", "_law_shake"], [], ["str"], [], []⟩
theorem m__law_odd : matSs b__law_odd c__law_odd (defBody s__law_odd) = true := by decide +kernel
/-! _law_bounds_right -/
abbrev s__law_bounds_right : Stmt := topS 16
def N__law_bounds_right : List Str := ["sieve", "value", "low", "high", "number", "least", "most", "due", "told"]
def p__law_bounds_right : List Str := ["sieve"]
theorem sc__law_bounds_right : FnScope N__law_bounds_right p__law_bounds_right (defScope s__law_bounds_right) := ⟨rfl, rfl, rfl, by decide +kernel, rfl, by decide +kernel, by decide +kernel⟩
def b__law_bounds_right : Sms := (.cons (.par [1, 2, 3] (.cons (.call 0 (.cons (.var 0) .nil)) (.cons (.bin .Sub (.call 1 (.cons (.var 0) (.cons (.int 12) .nil))) (.int 6)) (.cons (.bin .Sub (.call 1 (.cons (.var 0) (.cons (.int 12) .nil))) (.int 6)) .nil))))
  (.cons (.forr (.name 4) (.seq (.tup (.cons (.frz 1) (.cons (.frz 2) (.cons (.frz 3) (.cons (.bin .Sub (.var 2) (.int 1)) (.cons (.bin .Add (.var 3) (.int 1)) .nil)))))))
  (.cons (.forr (.tup (.cons (.name 5) (.cons (.name 6) .nil))) (.seq (.tup (.cons (.tup (.cons (.frz 2) (.cons (.frz 3) .nil))) (.cons (.tup (.cons .non (.cons (.frz 3) .nil))) (.cons (.tup (.cons (.frz 2) (.cons .non .nil))) (.cons (.tup (.cons .non (.cons .non .nil))) .nil))))))
  (.cons (.asg (.name 7) (.bop true (.cons (.call 2 (.cons (.var 4) .nil)) (.cons (.bop false (.cons (.cmp .Is (.var 5) .non) (.cons (.cmp .GtE (.var 4) (.var 5)) .nil))) (.cons (.bop false (.cons (.cmp .Is (.var 6) .non) (.cons (.cmp .LtE (.var 4) (.var 6)) .nil))) .nil)))))
  (.cons (.iff (.bop false (.cons (.cmp .NotEq (.blt .repr (.cons (.call 3 (.cons (.var 4) (.cons (.var 5) (.cons (.var 6) .nil)))) .nil)) (.blt .repr (.cons (.var 7) .nil))) (.cons (.cmp .NotEq (.blt .repr (.cons (.callk 3 ["most", "least", "value"] [2, 1, 0] .nil (.cons (.var 6) (.cons (.var 5) (.cons (.var 4) .nil)))) .nil)) (.blt .repr (.cons (.var 7) .nil))) .nil)))
  (.cons (.ret (.bl false))
  .nil)
  .nil)
  .nil)))
  (.cons (.asg (.name 8) (.lst (.cons (.call 4 (.cons (.var 4) .nil)) (.cons (.callk 4 ["value"] [0] .nil (.cons (.var 4) .nil)) (.cons (.call 5 (.cons (.var 4) .nil)) (.cons (.callk 5 ["value"] [0] .nil (.cons (.var 4) .nil)) (.cons (.call 6 (.cons (.var 4) .nil)) (.cons (.callk 6 ["value"] [0] .nil (.cons (.var 4) .nil)) .nil))))))))
  (.cons (.asg (.name 7) (.lst (.cons (.call 2 (.cons (.var 4) .nil)) (.cons (.bop true (.cons (.call 2 (.cons (.var 4) .nil)) (.cons (.cmp .In (.var 4) (.tup (.cons (.int 0) (.cons (.int 1) .nil)))) .nil))) (.cons (.bop true (.cons (.call 2 (.cons (.var 4) .nil)) (.cons (.chain .LtE .LtE (.int 0) (.var 4) (.int 7)) .nil))) .nil)))))
  (.cons (.iff (.cmp .NotEq (.blt .repr (.cons (.var 8) .nil)) (.blt .repr (.cons (.lst (.cons (.ix (.var 7) (.int 0)) (.cons (.ix (.var 7) (.int 0)) (.cons (.ix (.var 7) (.int 1)) (.cons (.ix (.var 7) (.int 1)) (.cons (.ix (.var 7) (.int 2)) (.cons (.ix (.var 7) (.int 2)) .nil))))))) .nil)))
  (.cons (.ret (.bl false))
  .nil)
  .nil)
  .nil)))))
  (.cons (.ret (.bl true))
  .nil)))
def C__law_bounds_right : List D := []
def c__law_bounds_right : Mc := ⟨N__law_bounds_right, defScope s__law_bounds_right, fun _ => true, ["_law_odd", "_law_shake", "_law_is_number", "is_within", "is_integer", "is_bit", "is_turn"], [], ["repr"], [(3, 0, ["most", "least", "value"], [2, 1, 0]), (4, 0, ["value"], [0]), (5, 0, ["value"], [0]), (6, 0, ["value"], [0])], []⟩
theorem m__law_bounds_right : matSs b__law_bounds_right c__law_bounds_right (defBody s__law_bounds_right) = true := by decide +kernel
/-! _law_is_amount -/
abbrev s__law_is_amount : Stmt := topS 17
def N__law_is_amount : List Str := ["value", "number"]
def p__law_is_amount : List Str := ["value"]
theorem sc__law_is_amount : FnScope N__law_is_amount p__law_is_amount (defScope s__law_is_amount) := ⟨rfl, rfl, rfl, by decide +kernel, rfl, by decide +kernel, by decide +kernel⟩
def b__law_is_amount : Sms := (.cons (.ret (.bop true (.cons (.isi (.var 0) [.list, .tuple]) (.cons (.cmp .Eq (.blt .len (.cons (.var 0) .nil)) (.int 4)) (.cons (.emp false (.comp (.name 1) (.seq (.var 0)) (.cons (.not (.call 0 (.cons (.var 1) .nil))) .nil) (.frz 1) [1])) .nil)))))
  .nil)
def C__law_is_amount : List D := []
def c__law_is_amount : Mc := ⟨N__law_is_amount, defScope s__law_is_amount, fun _ => true, ["_law_is_number"], [], ["isinstance", "list", "tuple", "len"], [], []⟩
theorem m__law_is_amount : matSs b__law_is_amount c__law_is_amount (defBody s__law_is_amount) = true := by decide +kernel
/-! _law_is_spread -/
abbrev s__law_is_spread : Stmt := topS 18
def N__law_is_spread : List Str := ["value", "many", "amount"]
def p__law_is_spread : List Str := ["value"]
theorem sc__law_is_spread : FnScope N__law_is_spread p__law_is_spread (defScope s__law_is_spread) := ⟨rfl, rfl, rfl, by decide +kernel, rfl, by decide +kernel, by decide +kernel⟩
def b__law_is_spread : Sms := (.cons (.iff (.bop false (.cons (.not (.isi (.var 0) [.list, .tuple])) (.cons (.cmp .NotIn (.blt .len (.cons (.var 0) .nil)) (.comp (.name 1) (.rng1 (.int 13)) .nil (.bin .LShift (.int 1) (.var 1)) [1])) .nil)))
  (.cons (.ret (.bl false))
  .nil)
  .nil)
  (.cons (.iff (.emp true (.comp (.name 2) (.seq (.var 0)) (.cons (.not (.call 0 (.cons (.var 2) .nil))) .nil) (.frz 2) [2]))
  (.cons (.ret (.bl false))
  .nil)
  .nil)
  (.cons (.ret (.emp true (.comp (.name 2) (.seq (.var 0)) (.cons (.cmp .NotEq (.blt .tuple (.cons (.var 2) .nil)) (.tup (.cons (.int 0) (.cons (.int 0) (.cons (.int 0) (.cons (.int 0) .nil)))))) .nil) (.frz 2) [2])))
  .nil)))
def C__law_is_spread : List D := []
def c__law_is_spread : Mc := ⟨N__law_is_spread, defScope s__law_is_spread, fun _ => true, ["_law_is_amount"], [], ["isinstance", "list", "tuple", "len", "range"], [], []⟩
theorem m__law_is_spread : matSs b__law_is_spread c__law_is_spread (defBody s__law_is_spread) = true := by decide +kernel
/-! _law_is_lot -/
abbrev s__law_is_lot : Stmt := topS 19
def N__law_is_lot : List Str := ["value", "number", "at"]
def p__law_is_lot : List Str := ["value"]
theorem sc__law_is_lot : FnScope N__law_is_lot p__law_is_lot (defScope s__law_is_lot) := ⟨rfl, rfl, rfl, by decide +kernel, rfl, by decide +kernel, by decide +kernel⟩
def b__law_is_lot : Sms := (.cons (.iff (.bop false (.cons (.not (.isi (.var 0) [.list, .tuple])) (.cons (.emp true (.comp (.name 1) (.seq (.var 0)) (.cons (.bop false (.cons (.not (.call 0 (.cons (.var 1) .nil))) (.cons (.cmp .Lt (.var 1) (.int 0)) .nil))) .nil) (.frz 1) [1])) .nil)))
  (.cons (.ret (.bl false))
  .nil)
  .nil)
  (.cons (.ret (.emp false (.comp (.tup (.cons (.name 2) (.cons (.name 1) .nil))) (.enm (.var 0)) (.cons (.cmp .In (.var 1) (.sl (.var 0) .nil (.cons (.var 2) .nil))) .nil) (.frz 1) [2, 1])))
  .nil))
def C__law_is_lot : List D := []
def c__law_is_lot : Mc := ⟨N__law_is_lot, defScope s__law_is_lot, fun _ => true, ["_law_is_number"], [], ["isinstance", "list", "tuple", "enumerate"], [], []⟩
theorem m__law_is_lot : matSs b__law_is_lot c__law_is_lot (defBody s__law_is_lot) = true := by decide +kernel
/-! _law_told -/
abbrev s__law_told : Stmt := topS 20
def N__law_told : List Str := ["value"]
def p__law_told : List Str := ["value"]
theorem sc__law_told : FnScope N__law_told p__law_told (defScope s__law_told) := ⟨rfl, rfl, rfl, by decide +kernel, rfl, by decide +kernel, by decide +kernel⟩
def b__law_told : Sms := (.cons (.ret (.lst (.cons (.call 0 (.cons (.var 0) .nil)) (.cons (.callk 0 ["value"] [0] .nil (.cons (.var 0) .nil)) (.cons (.call 1 (.cons (.var 0) .nil)) (.cons (.callk 1 ["value"] [0] .nil (.cons (.var 0) .nil)) (.cons (.call 2 (.cons (.var 0) .nil)) (.cons (.callk 2 ["value"] [0] .nil (.cons (.var 0) .nil)) .nil))))))))
  .nil)
def C__law_told : List D := []
def c__law_told : Mc := ⟨N__law_told, defScope s__law_told, fun _ => true, ["is_amount", "is_spread", "is_lot"], [], [], [(0, 0, ["value"], [0]), (1, 0, ["value"], [0]), (2, 0, ["value"], [0])], []⟩
theorem m__law_told : matSs b__law_told c__law_told (defBody s__law_told) = true := by decide +kernel
/-! _law_lists_right -/
abbrev s__law_lists_right : Stmt := topS 21
def N__law_lists_right : List Str := ["sieve", "amount", "place", "spread", "at", "lot", "some", "each", "base", "value", "kept", "due"]
def p__law_lists_right : List Str := ["sieve"]
theorem sc__law_lists_right : FnScope N__law_lists_right p__law_lists_right (defScope s__law_lists_right) := ⟨rfl, rfl, rfl, by decide +kernel, rfl, by decide +kernel, by decide +kernel⟩
def b__law_lists_right : Sms := (.cons (.alt 1 (.comp (.name 2) (.rng1 (.call 0 (.cons (.var 0) (.cons (.lst (.cons (.int 4) (.cons (.int 4) (.cons (.int 3) (.cons (.int 5) (.cons (.int 0) .nil)))))) .nil)))) .nil (.bin .Sub (.call 1 (.cons (.var 0) (.cons (.bin .Mult (.int 2) (.bin .Pow (.int 10) (.int 9))) .nil))) (.bin .Pow (.int 10) (.int 9))) [2]))
  (.cons (.alt 3 (.comp (.name 4) (.rng1 (.call 0 (.cons (.var 0) (.cons (.lst (.cons (.int 1) (.cons (.int 2) (.cons (.int 4) (.cons (.int 8) (.cons (.int 3) (.cons (.int 0) (.cons (.int 6) (.cons (.int 16) (.cons (.int 5) .nil)))))))))) .nil)))) .nil (.comp (.name 2) (.rng1 (.int 4)) .nil (.bin .Sub (.call 1 (.cons (.var 0) (.cons (.int 3) .nil))) (.int 1)) [2]) [4]))
  (.cons (.alt 5 (.comp (.name 4) (.rng1 (.call 1 (.cons (.var 0) (.cons (.int 6) .nil)))) .nil (.call 1 (.cons (.var 0) (.cons (.call 0 (.cons (.var 0) (.cons (.lst (.cons (.int 4) (.cons (.int 90) .nil))) .nil))) .nil))) [4]))
  (.cons (.asg (.name 6) (.lst (.cons (.frz 1) (.cons (.blt .tuple (.cons (.var 1) .nil)) (.cons (.frz 3) (.cons (.blt .tuple (.cons (.comp (.name 7) (.seq (.var 3)) .nil (.blt .tuple (.cons (.var 7) .nil)) [7]) .nil)) (.cons (.frz 5) (.cons (.blt .tuple (.cons (.var 5) .nil)) (.cons (.call 2 (.cons (.var 0) .nil)) .nil)))))))))
  (.cons (.app 6 (.comp (.name 7) (.seq (.var 3)) .nil (.lst (.cons (.int 0) (.cons (.int 0) (.cons (.int 0) (.cons (.int 0) .nil))))) [7]))
  (.cons (.forr (.name 8) (.seq (.tup (.cons (.frz 1) (.cons (.frz 3) (.cons (.frz 5) .nil)))))
  (.cons (.iff (.emp true (.var 8))
  (.cons (.asg (.name 4) (.call 1 (.cons (.var 0) (.cons (.blt .len (.cons (.var 8) .nil)) .nil))))
  (.cons (.app 6 (.bin .Add (.bin .Add (.sl (.var 8) .nil (.cons (.var 4) .nil)) (.lst (.cons (.call 2 (.cons (.var 0) .nil)) .nil))) (.sl (.var 8) (.cons (.bin .Add (.var 4) (.int 1)) .nil) .nil)))
  (.cons (.app 6 (.bin .Add (.var 8) (.sl (.var 8) (.cons (.var 4) .nil) (.cons (.bin .Add (.var 4) (.int 1)) .nil))))
  .nil)))
  .nil)
  .nil))
  (.cons (.forr (.name 9) (.seq (.var 6))
  (.cons (.asg (.name 10) (.blt .repr (.cons (.var 9) .nil)))
  (.cons (.asg (.name 11) (.lst (.cons (.call 3 (.cons (.var 9) .nil)) (.cons (.call 4 (.cons (.var 9) .nil)) (.cons (.call 5 (.cons (.var 9) .nil)) .nil)))))
  (.cons (.iff (.bop false (.cons (.cmp .NotEq (.blt .repr (.cons (.call 6 (.cons (.var 9) .nil)) .nil)) (.blt .repr (.cons (.lst (.cons (.ix (.var 11) (.int 0)) (.cons (.ix (.var 11) (.int 0)) (.cons (.ix (.var 11) (.int 1)) (.cons (.ix (.var 11) (.int 1)) (.cons (.ix (.var 11) (.int 2)) (.cons (.ix (.var 11) (.int 2)) .nil))))))) .nil))) (.cons (.cmp .NotEq (.blt .repr (.cons (.var 9) .nil)) (.var 10)) .nil)))
  (.cons (.ret (.bl false))
  .nil)
  .nil)
  .nil))))
  (.cons (.ret (.bl true))
  .nil))))))))
def C__law_lists_right : List D := []
def c__law_lists_right : Mc := ⟨N__law_lists_right, defScope s__law_lists_right, fun _ => true, ["_law_one", "_law_shake", "_law_odd", "_law_is_amount", "_law_is_spread", "_law_is_lot", "_law_told"], [], ["range", "tuple", "len", "repr"], [], []⟩
theorem m__law_lists_right : matSs b__law_lists_right c__law_lists_right (defBody s__law_lists_right) = true := by decide +kernel
/-! law -/
abbrev s_law : Stmt := topS 22
def N_law : List Str := ["script", "sieve", "lap", "one"]
def p_law : List Str := ["script"]
theorem sc_law : FnScope N_law p_law (defScope s_law) := ⟨rfl, rfl, rfl, by decide +kernel, rfl, by decide +kernel, by decide +kernel⟩
def b_law : Sms := (.cons (.asg (.name 1) (.call 0 (.cons (.var 0) .nil)))
  (.cons (.forr (.name 2) (.rng1 (.int 3))
  (.cons (.iff (.bop false (.cons (.not (.call 1 (.cons (.var 1) .nil))) (.cons (.not (.call 2 (.cons (.var 1) .nil))) .nil)))
  (.cons (.ret (.bl false))
  .nil)
  .nil)
  .nil))
  (.cons (.asg (.name 3) (.tup (.cons (.int 1) (.cons (.int 0) (.cons (.int 0) (.cons (.int 0) .nil))))))
  (.cons (.ret (.bop true (.cons (.cmp .Is (.call 3 (.cons (.bin .Mult (.lst (.cons (.frz 3) .nil)) (.int 4096)) .nil)) (.bl true)) (.cons (.cmp .Is (.call 3 (.cons (.bin .Mult (.lst (.cons (.frz 3) .nil)) (.int 8192)) .nil)) (.bl false)) (.cons (.cmp .Is (.call 3 (.cons (.bin .Mult (.lst (.cons (.frz 3) .nil)) (.int 4095)) .nil)) (.bl false)) .nil)))))
  .nil))))
def C_law : List D := []
def c_law : Mc := ⟨N_law, defScope s_law, fun _ => true, ["_law_sieve", "_law_bounds_right", "_law_lists_right", "is_spread"], [], ["range"], [], []⟩
theorem m_law : matSs b_law c_law (defBody s_law) = true := by decide +kernel
structure Tx (K : Fg) (mg : Str → Option Value) : Prop where
  h_is_integer : Hd K mg "is_integer" s_is_integer p_is_integer [(0, ["value"], [0])]
  h_is_within : Hd K mg "is_within" s_is_within p_is_within [(0, ["most", "least", "value"], [2, 1, 0])]
  h_is_bit : Hd K mg "is_bit" s_is_bit p_is_bit [(0, ["value"], [0])]
  h_is_turn : Hd K mg "is_turn" s_is_turn p_is_turn [(0, ["value"], [0])]
  h_is_list : Hd K mg "is_list" s_is_list p_is_list []
  h_is_amount : Hd K mg "is_amount" s_is_amount p_is_amount [(0, ["value"], [0])]
  h_is_spread : Hd K mg "is_spread" s_is_spread p_is_spread [(0, ["value"], [0])]
  h_is_lot : Hd K mg "is_lot" s_is_lot p_is_lot [(0, ["value"], [0])]
  h__law_sieve : Hd K mg "_law_sieve" s__law_sieve p__law_sieve []
  h__law_shake : Hd K mg "_law_shake" s__law_shake p__law_shake []
  h__law_one : Hd K mg "_law_one" s__law_one p__law_one []
  h__law_is_number : Hd K mg "_law_is_number" s__law_is_number p__law_is_number []
  h__law_odd : Hd K mg "_law_odd" s__law_odd p__law_odd []
  h__law_bounds_right : Hd K mg "_law_bounds_right" s__law_bounds_right p__law_bounds_right []
  h__law_is_amount : Hd K mg "_law_is_amount" s__law_is_amount p__law_is_amount []
  h__law_is_spread : Hd K mg "_law_is_spread" s__law_is_spread p__law_is_spread []
  h__law_is_lot : Hd K mg "_law_is_lot" s__law_is_lot p__law_is_lot []
  h__law_told : Hd K mg "_law_told" s__law_told p__law_told []
  h__law_lists_right : Hd K mg "_law_lists_right" s__law_lists_right p__law_lists_right []
  h_law : Hd K mg "law" s_law p_law []
  z_isinstance : mg "isinstance" = none
  z_int : mg "int" = none
  z_bool : mg "bool" = none
  z_list : mg "list" = none
  z_tuple : mg "tuple" = none
  z_len : mg "len" = none
  z_all : mg "all" = none
  z_any : mg "any" = none
  z_set : mg "set" = none
  z_abs : mg "abs" = none
  z_str : mg "str" = none
  z_repr : mg "repr" = none
  z_range : mg "range" = none
  z_enumerate : mg "enumerate" = none
  k_SIZES : HdC K mg "SIZES" (.tup [.int 1, .int 2, .int 4, .int 8, .int 16, .int 32, .int 64, .int 128, .int 256, .int 512, .int 1024, .int 2048, .int 4096])
theorem tx_of {K : Fg} {h : Heap} {mg : Str → Option Value} (X : K.In h) (G : h.Ns mainGlobals mg) (h_is_integer : Has K "is_integer" s_is_integer) (h_is_within : Has K "is_within" s_is_within) (h_is_bit : Has K "is_bit" s_is_bit) (h_is_turn : Has K "is_turn" s_is_turn) (h_is_list : Has K "is_list" s_is_list) (h_is_amount : Has K "is_amount" s_is_amount) (h_is_spread : Has K "is_spread" s_is_spread) (h_is_lot : Has K "is_lot" s_is_lot) (h__law_sieve : Has K "_law_sieve" s__law_sieve) (h__law_shake : Has K "_law_shake" s__law_shake) (h__law_one : Has K "_law_one" s__law_one) (h__law_is_number : Has K "_law_is_number" s__law_is_number) (h__law_odd : Has K "_law_odd" s__law_odd) (h__law_bounds_right : Has K "_law_bounds_right" s__law_bounds_right) (h__law_is_amount : Has K "_law_is_amount" s__law_is_amount) (h__law_is_spread : Has K "_law_is_spread" s__law_is_spread) (h__law_is_lot : Has K "_law_is_lot" s__law_is_lot) (h__law_told : Has K "_law_told" s__law_told) (h__law_lists_right : Has K "_law_lists_right" s__law_lists_right) (h_law : Has K "law" s_law) (z_isinstance : PySem.W.nsIn K mainGlobals "isinstance" = some none) (z_int : PySem.W.nsIn K mainGlobals "int" = some none) (z_bool : PySem.W.nsIn K mainGlobals "bool" = some none) (z_list : PySem.W.nsIn K mainGlobals "list" = some none) (z_tuple : PySem.W.nsIn K mainGlobals "tuple" = some none) (z_len : PySem.W.nsIn K mainGlobals "len" = some none) (z_all : PySem.W.nsIn K mainGlobals "all" = some none) (z_any : PySem.W.nsIn K mainGlobals "any" = some none) (z_set : PySem.W.nsIn K mainGlobals "set" = some none) (z_abs : PySem.W.nsIn K mainGlobals "abs" = some none) (z_str : PySem.W.nsIn K mainGlobals "str" = some none) (z_repr : PySem.W.nsIn K mainGlobals "repr" = some none) (z_range : PySem.W.nsIn K mainGlobals "range" = some none) (z_enumerate : PySem.W.nsIn K mainGlobals "enumerate" = some none) (k_SIZES : HdC K mg "SIZES" (.tup [.int 1, .int 2, .int 4, .int 8, .int 16, .int 32, .int 64, .int 128, .int 256, .int 512, .int 1024, .int 2048, .int 4096]))  : Tx K mg where
  h_is_integer := hd_of X G h_is_integer (fun _ _ _ _ _ _ us hl => match us, hl with | [_], _ => rfl) (by
    intro q hq
    simp only [List.mem_cons, List.not_mem_nil, or_false] at hq
    subst hq
    · exact fun _ _ _ _ _ _ us ws h1 h2 => match us, ws, h1, h2 with | [], [_], _, _ => rfl)
  h_is_within := hd_of X G h_is_within (fun _ _ _ _ _ _ us hl => match us, hl with | [_, _, _], _ => rfl) (by
    intro q hq
    simp only [List.mem_cons, List.not_mem_nil, or_false] at hq
    subst hq
    · exact fun _ _ _ _ _ _ us ws h1 h2 => match us, ws, h1, h2 with | [], [_, _, _], _, _ => rfl)
  h_is_bit := hd_of X G h_is_bit (fun _ _ _ _ _ _ us hl => match us, hl with | [_], _ => rfl) (by
    intro q hq
    simp only [List.mem_cons, List.not_mem_nil, or_false] at hq
    subst hq
    · exact fun _ _ _ _ _ _ us ws h1 h2 => match us, ws, h1, h2 with | [], [_], _, _ => rfl)
  h_is_turn := hd_of X G h_is_turn (fun _ _ _ _ _ _ us hl => match us, hl with | [_], _ => rfl) (by
    intro q hq
    simp only [List.mem_cons, List.not_mem_nil, or_false] at hq
    subst hq
    · exact fun _ _ _ _ _ _ us ws h1 h2 => match us, ws, h1, h2 with | [], [_], _, _ => rfl)
  h_is_list := hd_of X G h_is_list (fun _ _ _ _ _ _ us hl => match us, hl with | [_], _ => rfl) (fun _ z => nomatch z)
  h_is_amount := hd_of X G h_is_amount (fun _ _ _ _ _ _ us hl => match us, hl with | [_], _ => rfl) (by
    intro q hq
    simp only [List.mem_cons, List.not_mem_nil, or_false] at hq
    subst hq
    · exact fun _ _ _ _ _ _ us ws h1 h2 => match us, ws, h1, h2 with | [], [_], _, _ => rfl)
  h_is_spread := hd_of X G h_is_spread (fun _ _ _ _ _ _ us hl => match us, hl with | [_], _ => rfl) (by
    intro q hq
    simp only [List.mem_cons, List.not_mem_nil, or_false] at hq
    subst hq
    · exact fun _ _ _ _ _ _ us ws h1 h2 => match us, ws, h1, h2 with | [], [_], _, _ => rfl)
  h_is_lot := hd_of X G h_is_lot (fun _ _ _ _ _ _ us hl => match us, hl with | [_], _ => rfl) (by
    intro q hq
    simp only [List.mem_cons, List.not_mem_nil, or_false] at hq
    subst hq
    · exact fun _ _ _ _ _ _ us ws h1 h2 => match us, ws, h1, h2 with | [], [_], _, _ => rfl)
  h__law_sieve := hd_of X G h__law_sieve (fun _ _ _ _ _ _ us hl => match us, hl with | [_], _ => rfl) (fun _ z => nomatch z)
  h__law_shake := hd_of X G h__law_shake (fun _ _ _ _ _ _ us hl => match us, hl with | [_, _], _ => rfl) (fun _ z => nomatch z)
  h__law_one := hd_of X G h__law_one (fun _ _ _ _ _ _ us hl => match us, hl with | [_, _], _ => rfl) (fun _ z => nomatch z)
  h__law_is_number := hd_of X G h__law_is_number (fun _ _ _ _ _ _ us hl => match us, hl with | [_], _ => rfl) (fun _ z => nomatch z)
  h__law_odd := hd_of X G h__law_odd (fun _ _ _ _ _ _ us hl => match us, hl with | [_], _ => rfl) (fun _ z => nomatch z)
  h__law_bounds_right := hd_of X G h__law_bounds_right (fun _ _ _ _ _ _ us hl => match us, hl with | [_], _ => rfl) (fun _ z => nomatch z)
  h__law_is_amount := hd_of X G h__law_is_amount (fun _ _ _ _ _ _ us hl => match us, hl with | [_], _ => rfl) (fun _ z => nomatch z)
  h__law_is_spread := hd_of X G h__law_is_spread (fun _ _ _ _ _ _ us hl => match us, hl with | [_], _ => rfl) (fun _ z => nomatch z)
  h__law_is_lot := hd_of X G h__law_is_lot (fun _ _ _ _ _ _ us hl => match us, hl with | [_], _ => rfl) (fun _ z => nomatch z)
  h__law_told := hd_of X G h__law_told (fun _ _ _ _ _ _ us hl => match us, hl with | [_], _ => rfl) (fun _ z => nomatch z)
  h__law_lists_right := hd_of X G h__law_lists_right (fun _ _ _ _ _ _ us hl => match us, hl with | [_], _ => rfl) (fun _ z => nomatch z)
  h_law := hd_of X G h_law (fun _ _ _ _ _ _ us hl => match us, hl with | [_], _ => rfl) (fun _ z => nomatch z)
  z_isinstance := PySem.W.mg_none_of X G z_isinstance
  z_int := PySem.W.mg_none_of X G z_int
  z_bool := PySem.W.mg_none_of X G z_bool
  z_list := PySem.W.mg_none_of X G z_list
  z_tuple := PySem.W.mg_none_of X G z_tuple
  z_len := PySem.W.mg_none_of X G z_len
  z_all := PySem.W.mg_none_of X G z_all
  z_any := PySem.W.mg_none_of X G z_any
  z_set := PySem.W.mg_none_of X G z_set
  z_abs := PySem.W.mg_none_of X G z_abs
  z_str := PySem.W.mg_none_of X G z_str
  z_repr := PySem.W.mg_none_of X G z_repr
  z_range := PySem.W.mg_none_of X G z_range
  z_enumerate := PySem.W.mg_none_of X G z_enumerate
  k_SIZES := k_SIZES
theorem ok_is_integer {P : Program} {w : World} {K : Fg} {mg : Str → Option Value} {base : Heap} {k : Nat} {fe : Fe}  (T : Tx K mg) (sb : Sb base) 
    (sp : ∀ ss R, fe ss R → runF [] C_is_integer b_is_integer p_is_integer.length N_is_integer.length ss R) : Ok P w K mg base (k + 1) "is_integer" p_is_integer [(0, ["value"], [0])] fe := by
  refine mk_ok T.h_is_integer sc_is_integer (md_of sb ?_ .nil ?_ .nil) rfl rfl rfl m_is_integer sp
  · intro x hx
    simp only [List.mem_cons, List.not_mem_nil, or_false] at hx
    rcases hx with rfl | rfl | rfl
    · exact T.z_isinstance
    · exact T.z_int
    · exact T.z_bool
  · exact fun x hx => nomatch hx
theorem ok_is_within {P : Program} {w : World} {K : Fg} {mg : Str → Option Value} {base : Heap} {k : Nat} {fe : Fe} {fe0 : Fe} (T : Tx K mg) (sb : Sb base) (o0 : Ok P w K mg base k "is_integer" p_is_integer [(0, ["value"], [0])] fe0)
    (sp : ∀ ss R, fe ss R → runF [fe0] C_is_within b_is_within p_is_within.length N_is_within.length ss R) : Ok P w K mg base (k + 1) "is_within" p_is_within [(0, ["most", "least", "value"], [2, 1, 0])] fe := by
  refine mk_ok T.h_is_within sc_is_within (md_of sb ?_ .nil ?_ (.cons o0 (by decide) .nil)) rfl rfl rfl m_is_within sp
  · exact fun x hx => nomatch hx
  · exact fun x hx => nomatch hx
theorem ok_is_bit {P : Program} {w : World} {K : Fg} {mg : Str → Option Value} {base : Heap} {k : Nat} {fe : Fe} {fe0 : Fe} (T : Tx K mg) (sb : Sb base) (o0 : Ok P w K mg base k "is_within" p_is_within [(0, ["most", "least", "value"], [2, 1, 0])] fe0)
    (sp : ∀ ss R, fe ss R → runF [fe0] C_is_bit b_is_bit p_is_bit.length N_is_bit.length ss R) : Ok P w K mg base (k + 1) "is_bit" p_is_bit [(0, ["value"], [0])] fe := by
  refine mk_ok T.h_is_bit sc_is_bit (md_of sb ?_ .nil ?_ (.cons o0 (by decide) .nil)) rfl rfl rfl m_is_bit sp
  · exact fun x hx => nomatch hx
  · exact fun x hx => nomatch hx
theorem ok_is_turn {P : Program} {w : World} {K : Fg} {mg : Str → Option Value} {base : Heap} {k : Nat} {fe : Fe} {fe0 : Fe} (T : Tx K mg) (sb : Sb base) (o0 : Ok P w K mg base k "is_within" p_is_within [(0, ["most", "least", "value"], [2, 1, 0])] fe0)
    (sp : ∀ ss R, fe ss R → runF [fe0] C_is_turn b_is_turn p_is_turn.length N_is_turn.length ss R) : Ok P w K mg base (k + 1) "is_turn" p_is_turn [(0, ["value"], [0])] fe := by
  refine mk_ok T.h_is_turn sc_is_turn (md_of sb ?_ .nil ?_ (.cons o0 (by decide) .nil)) rfl rfl rfl m_is_turn sp
  · exact fun x hx => nomatch hx
  · exact fun x hx => nomatch hx
theorem ok_is_list {P : Program} {w : World} {K : Fg} {mg : Str → Option Value} {base : Heap} {k : Nat} {fe : Fe}  (T : Tx K mg) (sb : Sb base) 
    (sp : ∀ ss R, fe ss R → runF [] C_is_list b_is_list p_is_list.length N_is_list.length ss R) : Ok P w K mg base (k + 1) "is_list" p_is_list [] fe := by
  refine mk_ok T.h_is_list sc_is_list (md_of sb ?_ .nil ?_ .nil) rfl rfl rfl m_is_list sp
  · intro x hx
    simp only [List.mem_cons, List.not_mem_nil, or_false] at hx
    rcases hx with rfl | rfl | rfl
    · exact T.z_isinstance
    · exact T.z_list
    · exact T.z_tuple
  · exact fun x hx => nomatch hx
theorem ok_is_amount {P : Program} {w : World} {K : Fg} {mg : Str → Option Value} {base : Heap} {k : Nat} {fe : Fe} {fe0 : Fe} {fe1 : Fe} (T : Tx K mg) (sb : Sb base) (o0 : Ok P w K mg base k "is_list" p_is_list [] fe0) (o1 : Ok P w K mg base k "is_integer" p_is_integer [(0, ["value"], [0])] fe1)
    (sp : ∀ ss R, fe ss R → runF [fe0, fe1] C_is_amount b_is_amount p_is_amount.length N_is_amount.length ss R) : Ok P w K mg base (k + 1) "is_amount" p_is_amount [(0, ["value"], [0])] fe := by
  refine mk_ok T.h_is_amount sc_is_amount (md_of sb ?_ .nil ?_ (.cons o0 (by decide) (.cons o1 (by decide) .nil))) rfl rfl rfl m_is_amount sp
  · intro x hx
    simp only [List.mem_cons, List.not_mem_nil, or_false] at hx
    rcases hx with rfl | rfl
    · exact T.z_len
    · exact T.z_all
  · exact fun x hx => nomatch hx
theorem ok_is_spread {P : Program} {w : World} {K : Fg} {mg : Str → Option Value} {base : Heap} {k : Nat} {fe : Fe} {fe0 : Fe} {fe1 : Fe} (T : Tx K mg) (sb : Sb base) (o0 : Ok P w K mg base k "is_list" p_is_list [] fe0) (o1 : Ok P w K mg base k "is_amount" p_is_amount [(0, ["value"], [0])] fe1)
    (sp : ∀ ss R, fe ss R → runF [fe0, fe1] C_is_spread b_is_spread p_is_spread.length N_is_spread.length ss R) : Ok P w K mg base (k + 1) "is_spread" p_is_spread [(0, ["value"], [0])] fe := by
  refine mk_ok T.h_is_spread sc_is_spread (md_of sb ?_ (.cons T.k_SIZES .nil) ?_ (.cons o0 (by decide) (.cons o1 (by decide) .nil))) rfl rfl rfl m_is_spread sp
  · intro x hx
    simp only [List.mem_cons, List.not_mem_nil, or_false] at hx
    rcases hx with rfl | rfl | rfl
    · exact T.z_len
    · exact T.z_all
    · exact T.z_any
  · exact fun x hx => nomatch hx
theorem ok_is_lot {P : Program} {w : World} {K : Fg} {mg : Str → Option Value} {base : Heap} {k : Nat} {fe : Fe} {fe0 : Fe} {fe1 : Fe} (T : Tx K mg) (sb : Sb base) (o0 : Ok P w K mg base k "is_list" p_is_list [] fe0) (o1 : Ok P w K mg base k "is_within" p_is_within [(0, ["most", "least", "value"], [2, 1, 0])] fe1)
    (sp : ∀ ss R, fe ss R → runF [fe0, fe1] C_is_lot b_is_lot p_is_lot.length N_is_lot.length ss R) : Ok P w K mg base (k + 1) "is_lot" p_is_lot [(0, ["value"], [0])] fe := by
  refine mk_ok T.h_is_lot sc_is_lot (md_of sb ?_ .nil ?_ (.cons o0 (by decide) (.cons o1 (by decide) .nil))) rfl rfl rfl m_is_lot sp
  · intro x hx
    simp only [List.mem_cons, List.not_mem_nil, or_false] at hx
    rcases hx with rfl | rfl | rfl
    · exact T.z_all
    · exact T.z_len
    · exact T.z_set
  · exact fun x hx => nomatch hx
theorem ok__law_sieve {P : Program} {w : World} {K : Fg} {mg : Str → Option Value} {base : Heap} {k : Nat} {fe : Fe}  (T : Tx K mg) (sb : Sb base) 
    (sp : ∀ ss R, fe ss R → runF [] C__law_sieve b__law_sieve p__law_sieve.length N__law_sieve.length ss R) : Ok P w K mg base (k + 1) "_law_sieve" p__law_sieve [] fe := by
  refine mk_ok T.h__law_sieve sc__law_sieve (md_of sb ?_ .nil ?_ .nil) rfl rfl rfl m__law_sieve sp
  · intro x hx
    simp only [List.mem_cons, List.not_mem_nil, or_false] at hx
    subst hx
    · exact T.z_int
  · exact fun x hx => nomatch hx
theorem ok__law_shake {P : Program} {w : World} {K : Fg} {mg : Str → Option Value} {base : Heap} {k : Nat} {fe : Fe}  (T : Tx K mg) (sb : Sb base) 
    (sp : ∀ ss R, fe ss R → runF [] C__law_shake b__law_shake p__law_shake.length N__law_shake.length ss R) : Ok P w K mg base (k + 1) "_law_shake" p__law_shake [] fe := by
  refine mk_ok T.h__law_shake sc__law_shake (md_of sb ?_ .nil ?_ .nil) rfl rfl rfl m__law_shake sp
  · intro x hx
    simp only [List.mem_cons, List.not_mem_nil, or_false] at hx
    rcases hx with rfl | rfl | rfl
    · exact T.z_int
    · exact T.z_len
    · exact T.z_abs
  · exact fun x hx => nomatch hx
theorem ok__law_one {P : Program} {w : World} {K : Fg} {mg : Str → Option Value} {base : Heap} {k : Nat} {fe : Fe} {fe0 : Fe} (T : Tx K mg) (sb : Sb base) (o0 : Ok P w K mg base k "_law_shake" p__law_shake [] fe0)
    (sp : ∀ ss R, fe ss R → runF [fe0] C__law_one b__law_one p__law_one.length N__law_one.length ss R) : Ok P w K mg base (k + 1) "_law_one" p__law_one [] fe := by
  refine mk_ok T.h__law_one sc__law_one (md_of sb ?_ .nil ?_ (.cons o0 (by decide) .nil)) rfl rfl rfl m__law_one sp
  · intro x hx
    simp only [List.mem_cons, List.not_mem_nil, or_false] at hx
    subst hx
    · exact T.z_len
  · exact fun x hx => nomatch hx
theorem ok__law_is_number {P : Program} {w : World} {K : Fg} {mg : Str → Option Value} {base : Heap} {k : Nat} {fe : Fe}  (T : Tx K mg) (sb : Sb base) 
    (sp : ∀ ss R, fe ss R → runF [] C__law_is_number b__law_is_number p__law_is_number.length N__law_is_number.length ss R) : Ok P w K mg base (k + 1) "_law_is_number" p__law_is_number [] fe := by
  refine mk_ok T.h__law_is_number sc__law_is_number (md_of sb ?_ .nil ?_ .nil) rfl rfl rfl m__law_is_number sp
  · intro x hx
    simp only [List.mem_cons, List.not_mem_nil, or_false] at hx
    rcases hx with rfl | rfl | rfl
    · exact T.z_isinstance
    · exact T.z_int
    · exact T.z_bool
  · exact fun x hx => nomatch hx
theorem ok__law_odd {P : Program} {w : World} {K : Fg} {mg : Str → Option Value} {base : Heap} {k : Nat} {fe : Fe} {fe0 : Fe} {fe1 : Fe} (T : Tx K mg) (sb : Sb base) (o0 : Ok P w K mg base k "_law_one" p__law_one [] fe0) (o1 : Ok P w K mg base k "_law_shake" p__law_shake [] fe1)
    (sp : ∀ ss R, fe ss R → runF [fe0, fe1] C__law_odd b__law_odd p__law_odd.length N__law_odd.length ss R) : Ok P w K mg base (k + 1) "_law_odd" p__law_odd [] fe := by
  refine mk_ok T.h__law_odd sc__law_odd (md_of sb ?_ .nil ?_ (.cons o0 (by decide) (.cons o1 (by decide) .nil))) rfl rfl rfl m__law_odd sp
  · intro x hx
    simp only [List.mem_cons, List.not_mem_nil, or_false] at hx
    subst hx
    · exact T.z_str
  · exact fun x hx => nomatch hx
theorem ok__law_bounds_right {P : Program} {w : World} {K : Fg} {mg : Str → Option Value} {base : Heap} {k : Nat} {fe : Fe} {fe0 : Fe} {fe1 : Fe} {fe2 : Fe} {fe3 : Fe} {fe4 : Fe} {fe5 : Fe} {fe6 : Fe} (T : Tx K mg) (sb : Sb base) (o0 : Ok P w K mg base k "_law_odd" p__law_odd [] fe0) (o1 : Ok P w K mg base k "_law_shake" p__law_shake [] fe1) (o2 : Ok P w K mg base k "_law_is_number" p__law_is_number [] fe2) (o3 : Ok P w K mg base k "is_within" p_is_within [(0, ["most", "least", "value"], [2, 1, 0])] fe3) (o4 : Ok P w K mg base k "is_integer" p_is_integer [(0, ["value"], [0])] fe4) (o5 : Ok P w K mg base k "is_bit" p_is_bit [(0, ["value"], [0])] fe5) (o6 : Ok P w K mg base k "is_turn" p_is_turn [(0, ["value"], [0])] fe6)
    (sp : ∀ ss R, fe ss R → runF [fe0, fe1, fe2, fe3, fe4, fe5, fe6] C__law_bounds_right b__law_bounds_right p__law_bounds_right.length N__law_bounds_right.length ss R) : Ok P w K mg base (k + 1) "_law_bounds_right" p__law_bounds_right [] fe := by
  refine mk_ok T.h__law_bounds_right sc__law_bounds_right (md_of sb ?_ .nil ?_ (.cons o0 (by decide) (.cons o1 (by decide) (.cons o2 (by decide) (.cons o3 (by decide) (.cons o4 (by decide) (.cons o5 (by decide) (.cons o6 (by decide) .nil)))))))) rfl rfl rfl m__law_bounds_right sp
  · intro x hx
    simp only [List.mem_cons, List.not_mem_nil, or_false] at hx
    subst hx
    · exact T.z_repr
  · exact fun x hx => nomatch hx
theorem ok__law_is_amount {P : Program} {w : World} {K : Fg} {mg : Str → Option Value} {base : Heap} {k : Nat} {fe : Fe} {fe0 : Fe} (T : Tx K mg) (sb : Sb base) (o0 : Ok P w K mg base k "_law_is_number" p__law_is_number [] fe0)
    (sp : ∀ ss R, fe ss R → runF [fe0] C__law_is_amount b__law_is_amount p__law_is_amount.length N__law_is_amount.length ss R) : Ok P w K mg base (k + 1) "_law_is_amount" p__law_is_amount [] fe := by
  refine mk_ok T.h__law_is_amount sc__law_is_amount (md_of sb ?_ .nil ?_ (.cons o0 (by decide) .nil)) rfl rfl rfl m__law_is_amount sp
  · intro x hx
    simp only [List.mem_cons, List.not_mem_nil, or_false] at hx
    rcases hx with rfl | rfl | rfl | rfl
    · exact T.z_isinstance
    · exact T.z_list
    · exact T.z_tuple
    · exact T.z_len
  · exact fun x hx => nomatch hx
theorem ok__law_is_spread {P : Program} {w : World} {K : Fg} {mg : Str → Option Value} {base : Heap} {k : Nat} {fe : Fe} {fe0 : Fe} (T : Tx K mg) (sb : Sb base) (o0 : Ok P w K mg base k "_law_is_amount" p__law_is_amount [] fe0)
    (sp : ∀ ss R, fe ss R → runF [fe0] C__law_is_spread b__law_is_spread p__law_is_spread.length N__law_is_spread.length ss R) : Ok P w K mg base (k + 1) "_law_is_spread" p__law_is_spread [] fe := by
  refine mk_ok T.h__law_is_spread sc__law_is_spread (md_of sb ?_ .nil ?_ (.cons o0 (by decide) .nil)) rfl rfl rfl m__law_is_spread sp
  · intro x hx
    simp only [List.mem_cons, List.not_mem_nil, or_false] at hx
    rcases hx with rfl | rfl | rfl | rfl | rfl
    · exact T.z_isinstance
    · exact T.z_list
    · exact T.z_tuple
    · exact T.z_len
    · exact T.z_range
  · exact fun x hx => nomatch hx
theorem ok__law_is_lot {P : Program} {w : World} {K : Fg} {mg : Str → Option Value} {base : Heap} {k : Nat} {fe : Fe} {fe0 : Fe} (T : Tx K mg) (sb : Sb base) (o0 : Ok P w K mg base k "_law_is_number" p__law_is_number [] fe0)
    (sp : ∀ ss R, fe ss R → runF [fe0] C__law_is_lot b__law_is_lot p__law_is_lot.length N__law_is_lot.length ss R) : Ok P w K mg base (k + 1) "_law_is_lot" p__law_is_lot [] fe := by
  refine mk_ok T.h__law_is_lot sc__law_is_lot (md_of sb ?_ .nil ?_ (.cons o0 (by decide) .nil)) rfl rfl rfl m__law_is_lot sp
  · intro x hx
    simp only [List.mem_cons, List.not_mem_nil, or_false] at hx
    rcases hx with rfl | rfl | rfl | rfl
    · exact T.z_isinstance
    · exact T.z_list
    · exact T.z_tuple
    · exact T.z_enumerate
  · exact fun x hx => nomatch hx
theorem ok__law_told {P : Program} {w : World} {K : Fg} {mg : Str → Option Value} {base : Heap} {k : Nat} {fe : Fe} {fe0 : Fe} {fe1 : Fe} {fe2 : Fe} (T : Tx K mg) (sb : Sb base) (o0 : Ok P w K mg base k "is_amount" p_is_amount [(0, ["value"], [0])] fe0) (o1 : Ok P w K mg base k "is_spread" p_is_spread [(0, ["value"], [0])] fe1) (o2 : Ok P w K mg base k "is_lot" p_is_lot [(0, ["value"], [0])] fe2)
    (sp : ∀ ss R, fe ss R → runF [fe0, fe1, fe2] C__law_told b__law_told p__law_told.length N__law_told.length ss R) : Ok P w K mg base (k + 1) "_law_told" p__law_told [] fe := by
  refine mk_ok T.h__law_told sc__law_told (md_of sb ?_ .nil ?_ (.cons o0 (by decide) (.cons o1 (by decide) (.cons o2 (by decide) .nil)))) rfl rfl rfl m__law_told sp
  · exact fun x hx => nomatch hx
  · exact fun x hx => nomatch hx
theorem ok__law_lists_right {P : Program} {w : World} {K : Fg} {mg : Str → Option Value} {base : Heap} {k : Nat} {fe : Fe} {fe0 : Fe} {fe1 : Fe} {fe2 : Fe} {fe3 : Fe} {fe4 : Fe} {fe5 : Fe} {fe6 : Fe} (T : Tx K mg) (sb : Sb base) (o0 : Ok P w K mg base k "_law_one" p__law_one [] fe0) (o1 : Ok P w K mg base k "_law_shake" p__law_shake [] fe1) (o2 : Ok P w K mg base k "_law_odd" p__law_odd [] fe2) (o3 : Ok P w K mg base k "_law_is_amount" p__law_is_amount [] fe3) (o4 : Ok P w K mg base k "_law_is_spread" p__law_is_spread [] fe4) (o5 : Ok P w K mg base k "_law_is_lot" p__law_is_lot [] fe5) (o6 : Ok P w K mg base k "_law_told" p__law_told [] fe6)
    (sp : ∀ ss R, fe ss R → runF [fe0, fe1, fe2, fe3, fe4, fe5, fe6] C__law_lists_right b__law_lists_right p__law_lists_right.length N__law_lists_right.length ss R) : Ok P w K mg base (k + 1) "_law_lists_right" p__law_lists_right [] fe := by
  refine mk_ok T.h__law_lists_right sc__law_lists_right (md_of sb ?_ .nil ?_ (.cons o0 (by decide) (.cons o1 (by decide) (.cons o2 (by decide) (.cons o3 (by decide) (.cons o4 (by decide) (.cons o5 (by decide) (.cons o6 (by decide) .nil)))))))) rfl rfl rfl m__law_lists_right sp
  · intro x hx
    simp only [List.mem_cons, List.not_mem_nil, or_false] at hx
    rcases hx with rfl | rfl | rfl | rfl
    · exact T.z_range
    · exact T.z_tuple
    · exact T.z_len
    · exact T.z_repr
  · exact fun x hx => nomatch hx
theorem ok_law {P : Program} {w : World} {K : Fg} {mg : Str → Option Value} {base : Heap} {k : Nat} {fe : Fe} {fe0 : Fe} {fe1 : Fe} {fe2 : Fe} {fe3 : Fe} (T : Tx K mg) (sb : Sb base) (o0 : Ok P w K mg base k "_law_sieve" p__law_sieve [] fe0) (o1 : Ok P w K mg base k "_law_bounds_right" p__law_bounds_right [] fe1) (o2 : Ok P w K mg base k "_law_lists_right" p__law_lists_right [] fe2) (o3 : Ok P w K mg base k "is_spread" p_is_spread [(0, ["value"], [0])] fe3)
    (sp : ∀ ss R, fe ss R → runF [fe0, fe1, fe2, fe3] C_law b_law p_law.length N_law.length ss R) : Ok P w K mg base (k + 1) "law" p_law [] fe := by
  refine mk_ok T.h_law sc_law (md_of sb ?_ .nil ?_ (.cons o0 (by decide) (.cons o1 (by decide) (.cons o2 (by decide) (.cons o3 (by decide) .nil))))) rfl rfl rfl m_law sp
  · intro x hx
    simp only [List.mem_cons, List.not_mem_nil, or_false] at hx
    subst hx
    · exact T.z_range
  · exact fun x hx => nomatch hx
end DL

namespace DL
open PySem PySem.Spec PyProof.Rows L2

/-! data of any kind -/
def okK : D → Bool
  | .scr _ => false
  | .obj _ _ _ => false
  | .raw _ => false
  | _ => true
def seqL? : D → Option (List D)
  | .lst ds => some ds
  | .tup ds => some ds
  | _ => none
def sd : Nat → D → Prop
  | 0, d => okK d = true
  | n + 1, d => okK d = true ∧ ∀ ds, seqL? d = some ds → ds.length ≤ 10000 ∧ ∀ x ∈ ds, sd n x
theorem sd.ok : ∀ {n : Nat} {d : D}, sd n d → okK d = true
  | 0, _, h => h
  | _ + 1, _, h => h.1
theorem sd.le : ∀ {n : Nat} {d : D}, sd (n + 1) d → sd n d
  | 0, _, h => h.1
  | n + 1, _, h => ⟨h.1, fun ds e => ⟨(h.2 ds e).1, fun x hx => ((h.2 ds e).2 x hx).le⟩⟩
def numB : D → Bool
  | .int _ => true
  | _ => false
def toI : D → Int
  | .int i => i
  | _ => 0
def nzB (d : D) : Bool := toI d != 0
def geB (lo : Option Int) (i : Int) : Bool := match lo with
  | none => true
  | some l => decide (l ≤ i)
def leB (hi : Option Int) (i : Int) : Bool := match hi with
  | none => true
  | some l => decide (i ≤ l)
def withB (d : D) (lo hi : Option Int) : Bool := match d with
  | .int i => geB lo i && leB hi i
  | _ => false
def optD : Option Int → D
  | none => .non
  | some i => .int i
def amtB (d : D) : Bool := match seqL? d with
  | some ds => decide (ds.length = 4) && ds.all numB
  | none => false
def sizesL : List Nat := [1, 2, 4, 8, 16, 32, 64, 128, 256, 512, 1024, 2048, 4096]
def itmL (d : D) : List D := (seqL? d).getD []
def sprB (d : D) : Bool := match seqL? d with
  | some ds => decide (ds.length ∈ sizesL) && (ds.all amtB && ds.any fun a => (itmL a).any nzB)
  | none => false
def natB (d : D) : Bool := withB d (some 0) none
def lotB (d : D) : Bool := match seqL? d with
  | some ds => ds.all natB && decide (ds.map toI).Nodup
  | none => false
theorem numB_int {d : D} (h : numB d = true) : d = .int (toI d) := by
  cases d <;> first | rfl | cases h
theorem natB_int {d : D} (h : natB d = true) : d = .int (toI d) ∧ 0 ≤ toI d := by
  cases d <;> first | (cases h; done) | skip
  rename_i i
  have h : (decide ((0 : Int) ≤ i) && true) = true := h
  simp at h
  exact ⟨rfl, h⟩
theorem natB_num {d : D} (h : natB d = true) : numB d = true := by
  cases d <;> first | rfl | cases h
/-! rows by their places -/
theorem map_getD {α : Type} (g : D → α) (z : D) : ∀ ds : List D, (List.range ds.length).map (fun i => g (ds.getD i z)) = ds.map g := by
  intro ds
  refine List.ext_getElem (by simp) fun i h1 h2 => ?_
  simp at h1
  simp [List.getD, h1]
theorem flt_getD (P : D → Bool) (z : D) (ds : List D) : ((List.range ds.length).filter fun i => P (ds.getD i z)).map (fun i => ds.getD i z) = ds.filter P := by
  have h : (List.range ds.length).map (fun i => ds.getD i z) = ds := by
    have := map_getD id z ds
    simpa using this
  conv => rhs; rw [← h]
  rw [List.filter_map]
  rfl
theorem getD_of {ds : List D} {i : Nat} {d z : D} (h : ds[i]? = some d) : ds.getD i z = d := by
  unfold List.getD
  rw [h]
  rfl
theorem mem_of {ds : List D} {i : Nat} {d : D} (h : ds[i]? = some d) : d ∈ ds := List.mem_of_getElem? h
theorem bls_map (p : D → Bool) : ∀ ds : List D, bls? (ds.map fun d => .bl (p d)) = some (ds.map p)
  | [] => rfl
  | d :: ds => by
    rw [List.map_cons]
    show (bls? (ds.map fun d => .bl (p d))).map (p d :: ·) = _
    rw [bls_map p ds]
    rfl
theorem all_id (p : D → Bool) (ds : List D) : (ds.map p).all id = ds.all p := by simp [List.all_map]
theorem any_id (p : D → Bool) (ds : List D) : (ds.map p).any id = ds.any p := by simp [List.any_map]
theorem flt_empty (p : D → Bool) (ds : List D) : (ds.filter fun d => !p d).isEmpty = ds.all p := by
  induction ds with
  | nil => rfl
  | cons d ds ih =>
    rw [List.filter_cons, List.all_cons]
    cases h : p d <;> simp [ih]
theorem flt_any (p : D → Bool) (ds : List D) : ((ds.filter p).isEmpty != true) = ds.any p := by
  induction ds with
  | nil => rfl
  | cons d ds ih =>
    rw [List.filter_cons, List.any_cons, ← ih]
    cases h : p d <;> simp
theorem itm_cases {d : D} {ds : List D} (h : seqL? d = some ds) : d = .lst ds ∨ d = .tup ds := by
  cases d <;> first | (cases h; done) | skip
  · cases h; exact .inr rfl
  · cases h; exact .inl rfl
theorem compN_fltG {w : Option Nat} {ρ0 : En} {own : List Nat} {g : D → En → (En → Prop) → Prop} {c : En → (Bool → En → Prop) → Prop} {e : En → (D → En → Prop) → Prop} {ds : List D} {ρ : En} {R : List D → En → Prop} (P : D → Bool) (f : D → D) (hl : ds.length ≤ 10000)
    (step : ∀ d (A : D → En → Prop) (B : En → Prop), d ∈ ds → (P d = true → ∀ ρ3, wipeE own ρ3 = ρ → wk w ρ0 ρ3 True → A (f d) ρ3) → (P d = false → ∀ ρ3, wipeE own ρ3 = ρ → wk w ρ0 ρ3 True → B ρ3) → g d ρ fun ρ1 => force ρ1 fun ρ1 => c ρ1 fun b ρ2 => br b (e ρ2 A) (B ρ2))
    (fin : R ((ds.filter P).map f) ρ) : compN w ρ0 own g c e ds [] ρ R := by
  refine compN_map (fun i => P (ds.getD i .non)) (fun i => f (ds.getD i .non)) (by rw [sizeLine_eq]; omega) ?_ ?_
  · intro i d A B hi hlt hA hB
    rw [getD_of hi] at hA hB
    exact step d A B (mem_of hi) hA hB
  · have e : ((List.range ds.length).filter fun i => P (ds.getD i .non)).map (fun i => f (ds.getD i .non)) = (ds.filter P).map f := by
      rw [← flt_getD P .non ds, List.map_map]
      rfl
    rw [e]
    exact fin
theorem compN_allG {w : Option Nat} {ρ0 : En} {own : List Nat} {g : D → En → (En → Prop) → Prop} {c : En → (Bool → En → Prop) → Prop} {e : En → (D → En → Prop) → Prop} {ds : List D} {ρ : En} {R : List D → En → Prop} (f : D → D) (hl : ds.length ≤ 10000)
    (step : ∀ d (A : D → En → Prop) (B : En → Prop), d ∈ ds → (∀ ρ3, wipeE own ρ3 = ρ → wk w ρ0 ρ3 True → A (f d) ρ3) → g d ρ fun ρ1 => force ρ1 fun ρ1 => c ρ1 fun b ρ2 => br b (e ρ2 A) (B ρ2))
    (fin : R (ds.map f) ρ) : compN w ρ0 own g c e ds [] ρ R := by
  refine compN_fltG (fun _ => true) f hl (fun d A B hd hA _ => step d A B hd (hA rfl)) ?_
  have e : ds.filter (fun _ => true) = ds := by simp
  rw [e]
  exact fin
theorem amt_of {a : D} (h : amtB a = true) : ∃ xs, seqL? a = some xs ∧ xs.length = 4 ∧ ∀ x ∈ xs, x = .int (toI x) := by
  unfold amtB at h
  cases hs : seqL? a with
  | none => rw [hs] at h; cases h
  | some xs =>
    rw [hs] at h
    have h : (decide (xs.length = 4) && xs.all numB) = true := h
    rw [Bool.and_eq_true, decide_eq_true_eq] at h
    exact ⟨xs, rfl, h.1, fun x hx => numB_int (List.all_eq_true.mp h.2 x hx)⟩
section
variable (F : List Fe) (C : List D)
def isIntF : Fe := fun ss R => ∃ d, ss = [.va d] ∧ okK d = true ∧ R (.va (.bl (numB d))) [.no]
theorem sp_is_integer : ∀ ss R, isIntF ss R → runF F C b_is_integer p_is_integer.length N_is_integer.length ss R := by
  rintro ss R ⟨d, rfl, ok, q⟩
  refine runN_i F C ⟨⟨rfl, by decide⟩, rfl⟩ ?_
  cases d <;> first | (cases ok; done) | ((((conv => whnf); (repeat' ((apply And.intro; (solve | (first | exact trivial | exact rfl | exact ownB_i rfl | (apply mulOk_bd; (solve | (repeat' first | assumption | exact Bd.zero | exact Bd.one | exact Bd.mone | apply Bd.mul | apply Bd.add | apply Bd.sub | apply Bd.neg | exact Bd.of (m := 64) (by decide))); (solve | (repeat' first | assumption | exact Bd.zero | exact Bd.one | exact Bd.mone | apply Bd.mul | apply Bd.add | apply Bd.sub | apply Bd.neg | exact Bd.of (m := 64) (by decide))); decide) | (refine okS_of ?_ rfl rfl; ((repeat' apply And.intro) <;> first | exact trivial | rfl | (show Bd _ _; apply Bd.up; (solve | (repeat' first | assumption | exact Bd.zero | exact Bd.one | exact Bd.mone | apply Bd.mul | apply Bd.add | apply Bd.sub | apply Bd.neg | exact Bd.of (m := 64) (by decide))); decide))) | (((repeat' apply And.intro) <;> first | exact trivial | assumption | (apply Bd.up; (solve | (repeat' first | assumption | exact Bd.zero | exact Bd.one | exact Bd.mone | apply Bd.mul | apply Bd.add | apply Bd.sub | apply Bd.neg | exact Bd.of (m := 64) (by decide))); decide))) | decide)); conv => whnf))))); exact q)
theorem sp_is_number : ∀ ss R, isIntF ss R → runF F C b__law_is_number p__law_is_number.length N__law_is_number.length ss R := by
  rintro ss R ⟨d, rfl, ok, q⟩
  refine runN_i F C ⟨⟨rfl, by decide⟩, rfl⟩ ?_
  cases d <;> first | (cases ok; done) | ((((conv => whnf); (repeat' ((apply And.intro; (solve | (first | exact trivial | exact rfl | exact ownB_i rfl | (apply mulOk_bd; (solve | (repeat' first | assumption | exact Bd.zero | exact Bd.one | exact Bd.mone | apply Bd.mul | apply Bd.add | apply Bd.sub | apply Bd.neg | exact Bd.of (m := 64) (by decide))); (solve | (repeat' first | assumption | exact Bd.zero | exact Bd.one | exact Bd.mone | apply Bd.mul | apply Bd.add | apply Bd.sub | apply Bd.neg | exact Bd.of (m := 64) (by decide))); decide) | (refine okS_of ?_ rfl rfl; ((repeat' apply And.intro) <;> first | exact trivial | rfl | (show Bd _ _; apply Bd.up; (solve | (repeat' first | assumption | exact Bd.zero | exact Bd.one | exact Bd.mone | apply Bd.mul | apply Bd.add | apply Bd.sub | apply Bd.neg | exact Bd.of (m := 64) (by decide))); decide))) | (((repeat' apply And.intro) <;> first | exact trivial | assumption | (apply Bd.up; (solve | (repeat' first | assumption | exact Bd.zero | exact Bd.one | exact Bd.mone | apply Bd.mul | apply Bd.add | apply Bd.sub | apply Bd.neg | exact Bd.of (m := 64) (by decide))); decide))) | decide)); conv => whnf))))); exact q)
def withinF : Fe := fun ss R => ∃ d lo hi, ss = [.va d, .va (optD lo), .va (optD hi)] ∧ okK d = true ∧ R (.va (.bl (withB d lo hi))) [.no, .no, .no]
theorem sp_is_within : ∀ ss R, withinF ss R → runF [isIntF] C b_is_within p_is_within.length N_is_within.length ss R := by
  rintro ss R ⟨d, lo, hi, rfl, ok, q⟩
  refine runN_i _ C ⟨⟨rfl, by decide⟩, rfl⟩ ?_
  cases d <;> first | (cases ok; done) | skip
  case int i =>
    cases lo with
    | none =>
      cases hi with
      | none =>
        (((conv => whnf); (repeat' ((apply And.intro; (solve | (first | exact trivial | exact rfl | exact ownB_i rfl | (apply mulOk_bd; (solve | (repeat' first | assumption | exact Bd.zero | exact Bd.one | exact Bd.mone | apply Bd.mul | apply Bd.add | apply Bd.sub | apply Bd.neg | exact Bd.of (m := 64) (by decide))); (solve | (repeat' first | assumption | exact Bd.zero | exact Bd.one | exact Bd.mone | apply Bd.mul | apply Bd.add | apply Bd.sub | apply Bd.neg | exact Bd.of (m := 64) (by decide))); decide) | (refine okS_of ?_ rfl rfl; ((repeat' apply And.intro) <;> first | exact trivial | rfl | (show Bd _ _; apply Bd.up; (solve | (repeat' first | assumption | exact Bd.zero | exact Bd.one | exact Bd.mone | apply Bd.mul | apply Bd.add | apply Bd.sub | apply Bd.neg | exact Bd.of (m := 64) (by decide))); decide))) | (((repeat' apply And.intro) <;> first | exact trivial | assumption | (apply Bd.up; (solve | (repeat' first | assumption | exact Bd.zero | exact Bd.one | exact Bd.mone | apply Bd.mul | apply Bd.add | apply Bd.sub | apply Bd.neg | exact Bd.of (m := 64) (by decide))); decide))) | decide)); conv => whnf)))))
        refine ⟨_, rfl, rfl, ?_⟩
        (((conv => whnf); (repeat' ((apply And.intro; (solve | (first | exact trivial | exact rfl | exact ownB_i rfl | (apply mulOk_bd; (solve | (repeat' first | assumption | exact Bd.zero | exact Bd.one | exact Bd.mone | apply Bd.mul | apply Bd.add | apply Bd.sub | apply Bd.neg | exact Bd.of (m := 64) (by decide))); (solve | (repeat' first | assumption | exact Bd.zero | exact Bd.one | exact Bd.mone | apply Bd.mul | apply Bd.add | apply Bd.sub | apply Bd.neg | exact Bd.of (m := 64) (by decide))); decide) | (refine okS_of ?_ rfl rfl; ((repeat' apply And.intro) <;> first | exact trivial | rfl | (show Bd _ _; apply Bd.up; (solve | (repeat' first | assumption | exact Bd.zero | exact Bd.one | exact Bd.mone | apply Bd.mul | apply Bd.add | apply Bd.sub | apply Bd.neg | exact Bd.of (m := 64) (by decide))); decide))) | (((repeat' apply And.intro) <;> first | exact trivial | assumption | (apply Bd.up; (solve | (repeat' first | assumption | exact Bd.zero | exact Bd.one | exact Bd.mone | apply Bd.mul | apply Bd.add | apply Bd.sub | apply Bd.neg | exact Bd.of (m := 64) (by decide))); decide))) | decide)); conv => whnf)))))
        exact q
      | some hi =>
        (((conv => whnf); (repeat' ((apply And.intro; (solve | (first | exact trivial | exact rfl | exact ownB_i rfl | (apply mulOk_bd; (solve | (repeat' first | assumption | exact Bd.zero | exact Bd.one | exact Bd.mone | apply Bd.mul | apply Bd.add | apply Bd.sub | apply Bd.neg | exact Bd.of (m := 64) (by decide))); (solve | (repeat' first | assumption | exact Bd.zero | exact Bd.one | exact Bd.mone | apply Bd.mul | apply Bd.add | apply Bd.sub | apply Bd.neg | exact Bd.of (m := 64) (by decide))); decide) | (refine okS_of ?_ rfl rfl; ((repeat' apply And.intro) <;> first | exact trivial | rfl | (show Bd _ _; apply Bd.up; (solve | (repeat' first | assumption | exact Bd.zero | exact Bd.one | exact Bd.mone | apply Bd.mul | apply Bd.add | apply Bd.sub | apply Bd.neg | exact Bd.of (m := 64) (by decide))); decide))) | (((repeat' apply And.intro) <;> first | exact trivial | assumption | (apply Bd.up; (solve | (repeat' first | assumption | exact Bd.zero | exact Bd.one | exact Bd.mone | apply Bd.mul | apply Bd.add | apply Bd.sub | apply Bd.neg | exact Bd.of (m := 64) (by decide))); decide))) | decide)); conv => whnf)))))
        refine ⟨_, rfl, rfl, ?_⟩
        (((conv => whnf); (repeat' ((apply And.intro; (solve | (first | exact trivial | exact rfl | exact ownB_i rfl | (apply mulOk_bd; (solve | (repeat' first | assumption | exact Bd.zero | exact Bd.one | exact Bd.mone | apply Bd.mul | apply Bd.add | apply Bd.sub | apply Bd.neg | exact Bd.of (m := 64) (by decide))); (solve | (repeat' first | assumption | exact Bd.zero | exact Bd.one | exact Bd.mone | apply Bd.mul | apply Bd.add | apply Bd.sub | apply Bd.neg | exact Bd.of (m := 64) (by decide))); decide) | (refine okS_of ?_ rfl rfl; ((repeat' apply And.intro) <;> first | exact trivial | rfl | (show Bd _ _; apply Bd.up; (solve | (repeat' first | assumption | exact Bd.zero | exact Bd.one | exact Bd.mone | apply Bd.mul | apply Bd.add | apply Bd.sub | apply Bd.neg | exact Bd.of (m := 64) (by decide))); decide))) | (((repeat' apply And.intro) <;> first | exact trivial | assumption | (apply Bd.up; (solve | (repeat' first | assumption | exact Bd.zero | exact Bd.one | exact Bd.mone | apply Bd.mul | apply Bd.add | apply Bd.sub | apply Bd.neg | exact Bd.of (m := 64) (by decide))); decide))) | decide)); conv => whnf)))))
        exact q
    | some lo =>
      have e : withB (.int i) (some lo) hi = (decide (lo ≤ i) && leB hi i) := rfl
      rw [e] at q
      cases hi with
      | none =>
        (((conv => whnf); (repeat' ((apply And.intro; (solve | (first | exact trivial | exact rfl | exact ownB_i rfl | (apply mulOk_bd; (solve | (repeat' first | assumption | exact Bd.zero | exact Bd.one | exact Bd.mone | apply Bd.mul | apply Bd.add | apply Bd.sub | apply Bd.neg | exact Bd.of (m := 64) (by decide))); (solve | (repeat' first | assumption | exact Bd.zero | exact Bd.one | exact Bd.mone | apply Bd.mul | apply Bd.add | apply Bd.sub | apply Bd.neg | exact Bd.of (m := 64) (by decide))); decide) | (refine okS_of ?_ rfl rfl; ((repeat' apply And.intro) <;> first | exact trivial | rfl | (show Bd _ _; apply Bd.up; (solve | (repeat' first | assumption | exact Bd.zero | exact Bd.one | exact Bd.mone | apply Bd.mul | apply Bd.add | apply Bd.sub | apply Bd.neg | exact Bd.of (m := 64) (by decide))); decide))) | (((repeat' apply And.intro) <;> first | exact trivial | assumption | (apply Bd.up; (solve | (repeat' first | assumption | exact Bd.zero | exact Bd.one | exact Bd.mone | apply Bd.mul | apply Bd.add | apply Bd.sub | apply Bd.neg | exact Bd.of (m := 64) (by decide))); decide))) | decide)); conv => whnf)))))
        refine ⟨_, rfl, rfl, ?_⟩
        (((conv => whnf); (repeat' ((apply And.intro; (solve | (first | exact trivial | exact rfl | exact ownB_i rfl | (apply mulOk_bd; (solve | (repeat' first | assumption | exact Bd.zero | exact Bd.one | exact Bd.mone | apply Bd.mul | apply Bd.add | apply Bd.sub | apply Bd.neg | exact Bd.of (m := 64) (by decide))); (solve | (repeat' first | assumption | exact Bd.zero | exact Bd.one | exact Bd.mone | apply Bd.mul | apply Bd.add | apply Bd.sub | apply Bd.neg | exact Bd.of (m := 64) (by decide))); decide) | (refine okS_of ?_ rfl rfl; ((repeat' apply And.intro) <;> first | exact trivial | rfl | (show Bd _ _; apply Bd.up; (solve | (repeat' first | assumption | exact Bd.zero | exact Bd.one | exact Bd.mone | apply Bd.mul | apply Bd.add | apply Bd.sub | apply Bd.neg | exact Bd.of (m := 64) (by decide))); decide))) | (((repeat' apply And.intro) <;> first | exact trivial | assumption | (apply Bd.up; (solve | (repeat' first | assumption | exact Bd.zero | exact Bd.one | exact Bd.mone | apply Bd.mul | apply Bd.add | apply Bd.sub | apply Bd.neg | exact Bd.of (m := 64) (by decide))); decide))) | decide)); conv => whnf)))))
        cases hd : decide (lo ≤ i) <;> (rw [hd] at q; (((conv => whnf); (repeat' ((apply And.intro; (solve | (first | exact trivial | exact rfl | exact ownB_i rfl | (apply mulOk_bd; (solve | (repeat' first | assumption | exact Bd.zero | exact Bd.one | exact Bd.mone | apply Bd.mul | apply Bd.add | apply Bd.sub | apply Bd.neg | exact Bd.of (m := 64) (by decide))); (solve | (repeat' first | assumption | exact Bd.zero | exact Bd.one | exact Bd.mone | apply Bd.mul | apply Bd.add | apply Bd.sub | apply Bd.neg | exact Bd.of (m := 64) (by decide))); decide) | (refine okS_of ?_ rfl rfl; ((repeat' apply And.intro) <;> first | exact trivial | rfl | (show Bd _ _; apply Bd.up; (solve | (repeat' first | assumption | exact Bd.zero | exact Bd.one | exact Bd.mone | apply Bd.mul | apply Bd.add | apply Bd.sub | apply Bd.neg | exact Bd.of (m := 64) (by decide))); decide))) | (((repeat' apply And.intro) <;> first | exact trivial | assumption | (apply Bd.up; (solve | (repeat' first | assumption | exact Bd.zero | exact Bd.one | exact Bd.mone | apply Bd.mul | apply Bd.add | apply Bd.sub | apply Bd.neg | exact Bd.of (m := 64) (by decide))); decide))) | decide)); conv => whnf))))); exact q)
      | some hi =>
        (((conv => whnf); (repeat' ((apply And.intro; (solve | (first | exact trivial | exact rfl | exact ownB_i rfl | (apply mulOk_bd; (solve | (repeat' first | assumption | exact Bd.zero | exact Bd.one | exact Bd.mone | apply Bd.mul | apply Bd.add | apply Bd.sub | apply Bd.neg | exact Bd.of (m := 64) (by decide))); (solve | (repeat' first | assumption | exact Bd.zero | exact Bd.one | exact Bd.mone | apply Bd.mul | apply Bd.add | apply Bd.sub | apply Bd.neg | exact Bd.of (m := 64) (by decide))); decide) | (refine okS_of ?_ rfl rfl; ((repeat' apply And.intro) <;> first | exact trivial | rfl | (show Bd _ _; apply Bd.up; (solve | (repeat' first | assumption | exact Bd.zero | exact Bd.one | exact Bd.mone | apply Bd.mul | apply Bd.add | apply Bd.sub | apply Bd.neg | exact Bd.of (m := 64) (by decide))); decide))) | (((repeat' apply And.intro) <;> first | exact trivial | assumption | (apply Bd.up; (solve | (repeat' first | assumption | exact Bd.zero | exact Bd.one | exact Bd.mone | apply Bd.mul | apply Bd.add | apply Bd.sub | apply Bd.neg | exact Bd.of (m := 64) (by decide))); decide))) | decide)); conv => whnf)))))
        refine ⟨_, rfl, rfl, ?_⟩
        (((conv => whnf); (repeat' ((apply And.intro; (solve | (first | exact trivial | exact rfl | exact ownB_i rfl | (apply mulOk_bd; (solve | (repeat' first | assumption | exact Bd.zero | exact Bd.one | exact Bd.mone | apply Bd.mul | apply Bd.add | apply Bd.sub | apply Bd.neg | exact Bd.of (m := 64) (by decide))); (solve | (repeat' first | assumption | exact Bd.zero | exact Bd.one | exact Bd.mone | apply Bd.mul | apply Bd.add | apply Bd.sub | apply Bd.neg | exact Bd.of (m := 64) (by decide))); decide) | (refine okS_of ?_ rfl rfl; ((repeat' apply And.intro) <;> first | exact trivial | rfl | (show Bd _ _; apply Bd.up; (solve | (repeat' first | assumption | exact Bd.zero | exact Bd.one | exact Bd.mone | apply Bd.mul | apply Bd.add | apply Bd.sub | apply Bd.neg | exact Bd.of (m := 64) (by decide))); decide))) | (((repeat' apply And.intro) <;> first | exact trivial | assumption | (apply Bd.up; (solve | (repeat' first | assumption | exact Bd.zero | exact Bd.one | exact Bd.mone | apply Bd.mul | apply Bd.add | apply Bd.sub | apply Bd.neg | exact Bd.of (m := 64) (by decide))); decide))) | decide)); conv => whnf)))))
        cases hd : decide (lo ≤ i) <;> (rw [hd] at q; (((conv => whnf); (repeat' ((apply And.intro; (solve | (first | exact trivial | exact rfl | exact ownB_i rfl | (apply mulOk_bd; (solve | (repeat' first | assumption | exact Bd.zero | exact Bd.one | exact Bd.mone | apply Bd.mul | apply Bd.add | apply Bd.sub | apply Bd.neg | exact Bd.of (m := 64) (by decide))); (solve | (repeat' first | assumption | exact Bd.zero | exact Bd.one | exact Bd.mone | apply Bd.mul | apply Bd.add | apply Bd.sub | apply Bd.neg | exact Bd.of (m := 64) (by decide))); decide) | (refine okS_of ?_ rfl rfl; ((repeat' apply And.intro) <;> first | exact trivial | rfl | (show Bd _ _; apply Bd.up; (solve | (repeat' first | assumption | exact Bd.zero | exact Bd.one | exact Bd.mone | apply Bd.mul | apply Bd.add | apply Bd.sub | apply Bd.neg | exact Bd.of (m := 64) (by decide))); decide))) | (((repeat' apply And.intro) <;> first | exact trivial | assumption | (apply Bd.up; (solve | (repeat' first | assumption | exact Bd.zero | exact Bd.one | exact Bd.mone | apply Bd.mul | apply Bd.add | apply Bd.sub | apply Bd.neg | exact Bd.of (m := 64) (by decide))); decide))) | decide)); conv => whnf))))); exact q)
  all_goals
    (((conv => whnf); (repeat' ((apply And.intro; (solve | (first | exact trivial | exact rfl | exact ownB_i rfl | (apply mulOk_bd; (solve | (repeat' first | assumption | exact Bd.zero | exact Bd.one | exact Bd.mone | apply Bd.mul | apply Bd.add | apply Bd.sub | apply Bd.neg | exact Bd.of (m := 64) (by decide))); (solve | (repeat' first | assumption | exact Bd.zero | exact Bd.one | exact Bd.mone | apply Bd.mul | apply Bd.add | apply Bd.sub | apply Bd.neg | exact Bd.of (m := 64) (by decide))); decide) | (refine okS_of ?_ rfl rfl; ((repeat' apply And.intro) <;> first | exact trivial | rfl | (show Bd _ _; apply Bd.up; (solve | (repeat' first | assumption | exact Bd.zero | exact Bd.one | exact Bd.mone | apply Bd.mul | apply Bd.add | apply Bd.sub | apply Bd.neg | exact Bd.of (m := 64) (by decide))); decide))) | (((repeat' apply And.intro) <;> first | exact trivial | assumption | (apply Bd.up; (solve | (repeat' first | assumption | exact Bd.zero | exact Bd.one | exact Bd.mone | apply Bd.mul | apply Bd.add | apply Bd.sub | apply Bd.neg | exact Bd.of (m := 64) (by decide))); decide))) | decide)); conv => whnf)))))
    refine ⟨_, rfl, rfl, ?_⟩
    (((conv => whnf); (repeat' ((apply And.intro; (solve | (first | exact trivial | exact rfl | exact ownB_i rfl | (apply mulOk_bd; (solve | (repeat' first | assumption | exact Bd.zero | exact Bd.one | exact Bd.mone | apply Bd.mul | apply Bd.add | apply Bd.sub | apply Bd.neg | exact Bd.of (m := 64) (by decide))); (solve | (repeat' first | assumption | exact Bd.zero | exact Bd.one | exact Bd.mone | apply Bd.mul | apply Bd.add | apply Bd.sub | apply Bd.neg | exact Bd.of (m := 64) (by decide))); decide) | (refine okS_of ?_ rfl rfl; ((repeat' apply And.intro) <;> first | exact trivial | rfl | (show Bd _ _; apply Bd.up; (solve | (repeat' first | assumption | exact Bd.zero | exact Bd.one | exact Bd.mone | apply Bd.mul | apply Bd.add | apply Bd.sub | apply Bd.neg | exact Bd.of (m := 64) (by decide))); decide))) | (((repeat' apply And.intro) <;> first | exact trivial | assumption | (apply Bd.up; (solve | (repeat' first | assumption | exact Bd.zero | exact Bd.one | exact Bd.mone | apply Bd.mul | apply Bd.add | apply Bd.sub | apply Bd.neg | exact Bd.of (m := 64) (by decide))); decide))) | decide)); conv => whnf)))))
    exact q
theorem sp_is_bit : ∀ ss R, (fun ss R => ∃ d, ss = [.va d] ∧ okK d = true ∧ R (.va (.bl (withB d (some 0) (some 1)))) [.no] : Fe) ss R → runF [withinF] C b_is_bit p_is_bit.length N_is_bit.length ss R := by
  rintro ss R ⟨d, rfl, ok, q⟩
  refine runN_i _ C ⟨⟨rfl, by decide⟩, rfl⟩ ?_
  (((conv => whnf); (repeat' ((apply And.intro; (solve | (first | exact trivial | exact rfl | exact ownB_i rfl | (apply mulOk_bd; (solve | (repeat' first | assumption | exact Bd.zero | exact Bd.one | exact Bd.mone | apply Bd.mul | apply Bd.add | apply Bd.sub | apply Bd.neg | exact Bd.of (m := 64) (by decide))); (solve | (repeat' first | assumption | exact Bd.zero | exact Bd.one | exact Bd.mone | apply Bd.mul | apply Bd.add | apply Bd.sub | apply Bd.neg | exact Bd.of (m := 64) (by decide))); decide) | (refine okS_of ?_ rfl rfl; ((repeat' apply And.intro) <;> first | exact trivial | rfl | (show Bd _ _; apply Bd.up; (solve | (repeat' first | assumption | exact Bd.zero | exact Bd.one | exact Bd.mone | apply Bd.mul | apply Bd.add | apply Bd.sub | apply Bd.neg | exact Bd.of (m := 64) (by decide))); decide))) | (((repeat' apply And.intro) <;> first | exact trivial | assumption | (apply Bd.up; (solve | (repeat' first | assumption | exact Bd.zero | exact Bd.one | exact Bd.mone | apply Bd.mul | apply Bd.add | apply Bd.sub | apply Bd.neg | exact Bd.of (m := 64) (by decide))); decide))) | decide)); conv => whnf)))))
  refine ⟨d, some 0, some 1, rfl, ok, ?_⟩
  (((conv => whnf); (repeat' ((apply And.intro; (solve | (first | exact trivial | exact rfl | exact ownB_i rfl | (apply mulOk_bd; (solve | (repeat' first | assumption | exact Bd.zero | exact Bd.one | exact Bd.mone | apply Bd.mul | apply Bd.add | apply Bd.sub | apply Bd.neg | exact Bd.of (m := 64) (by decide))); (solve | (repeat' first | assumption | exact Bd.zero | exact Bd.one | exact Bd.mone | apply Bd.mul | apply Bd.add | apply Bd.sub | apply Bd.neg | exact Bd.of (m := 64) (by decide))); decide) | (refine okS_of ?_ rfl rfl; ((repeat' apply And.intro) <;> first | exact trivial | rfl | (show Bd _ _; apply Bd.up; (solve | (repeat' first | assumption | exact Bd.zero | exact Bd.one | exact Bd.mone | apply Bd.mul | apply Bd.add | apply Bd.sub | apply Bd.neg | exact Bd.of (m := 64) (by decide))); decide))) | (((repeat' apply And.intro) <;> first | exact trivial | assumption | (apply Bd.up; (solve | (repeat' first | assumption | exact Bd.zero | exact Bd.one | exact Bd.mone | apply Bd.mul | apply Bd.add | apply Bd.sub | apply Bd.neg | exact Bd.of (m := 64) (by decide))); decide))) | decide)); conv => whnf)))))
  exact q
theorem sp_is_turn : ∀ ss R, (fun ss R => ∃ d, ss = [.va d] ∧ okK d = true ∧ R (.va (.bl (withB d (some 0) (some 7)))) [.no] : Fe) ss R → runF [withinF] C b_is_turn p_is_turn.length N_is_turn.length ss R := by
  rintro ss R ⟨d, rfl, ok, q⟩
  refine runN_i _ C ⟨⟨rfl, by decide⟩, rfl⟩ ?_
  (((conv => whnf); (repeat' ((apply And.intro; (solve | (first | exact trivial | exact rfl | exact ownB_i rfl | (apply mulOk_bd; (solve | (repeat' first | assumption | exact Bd.zero | exact Bd.one | exact Bd.mone | apply Bd.mul | apply Bd.add | apply Bd.sub | apply Bd.neg | exact Bd.of (m := 64) (by decide))); (solve | (repeat' first | assumption | exact Bd.zero | exact Bd.one | exact Bd.mone | apply Bd.mul | apply Bd.add | apply Bd.sub | apply Bd.neg | exact Bd.of (m := 64) (by decide))); decide) | (refine okS_of ?_ rfl rfl; ((repeat' apply And.intro) <;> first | exact trivial | rfl | (show Bd _ _; apply Bd.up; (solve | (repeat' first | assumption | exact Bd.zero | exact Bd.one | exact Bd.mone | apply Bd.mul | apply Bd.add | apply Bd.sub | apply Bd.neg | exact Bd.of (m := 64) (by decide))); decide))) | (((repeat' apply And.intro) <;> first | exact trivial | assumption | (apply Bd.up; (solve | (repeat' first | assumption | exact Bd.zero | exact Bd.one | exact Bd.mone | apply Bd.mul | apply Bd.add | apply Bd.sub | apply Bd.neg | exact Bd.of (m := 64) (by decide))); decide))) | decide)); conv => whnf)))))
  refine ⟨d, some 0, some 7, rfl, ok, ?_⟩
  (((conv => whnf); (repeat' ((apply And.intro; (solve | (first | exact trivial | exact rfl | exact ownB_i rfl | (apply mulOk_bd; (solve | (repeat' first | assumption | exact Bd.zero | exact Bd.one | exact Bd.mone | apply Bd.mul | apply Bd.add | apply Bd.sub | apply Bd.neg | exact Bd.of (m := 64) (by decide))); (solve | (repeat' first | assumption | exact Bd.zero | exact Bd.one | exact Bd.mone | apply Bd.mul | apply Bd.add | apply Bd.sub | apply Bd.neg | exact Bd.of (m := 64) (by decide))); decide) | (refine okS_of ?_ rfl rfl; ((repeat' apply And.intro) <;> first | exact trivial | rfl | (show Bd _ _; apply Bd.up; (solve | (repeat' first | assumption | exact Bd.zero | exact Bd.one | exact Bd.mone | apply Bd.mul | apply Bd.add | apply Bd.sub | apply Bd.neg | exact Bd.of (m := 64) (by decide))); decide))) | (((repeat' apply And.intro) <;> first | exact trivial | assumption | (apply Bd.up; (solve | (repeat' first | assumption | exact Bd.zero | exact Bd.one | exact Bd.mone | apply Bd.mul | apply Bd.add | apply Bd.sub | apply Bd.neg | exact Bd.of (m := 64) (by decide))); decide))) | decide)); conv => whnf)))))
  exact q
def isSeqF : Fe := fun ss R => ∃ d, ss = [.va d] ∧ okK d = true ∧ R (.va (.bl (seqL? d).isSome)) [.no]
theorem sp_is_list : ∀ ss R, isSeqF ss R → runF F C b_is_list p_is_list.length N_is_list.length ss R := by
  rintro ss R ⟨d, rfl, ok, q⟩
  refine runN_i F C ⟨⟨rfl, by decide⟩, rfl⟩ ?_
  cases d <;> first | (cases ok; done) | ((((conv => whnf); (repeat' ((apply And.intro; (solve | (first | exact trivial | exact rfl | exact ownB_i rfl | (apply mulOk_bd; (solve | (repeat' first | assumption | exact Bd.zero | exact Bd.one | exact Bd.mone | apply Bd.mul | apply Bd.add | apply Bd.sub | apply Bd.neg | exact Bd.of (m := 64) (by decide))); (solve | (repeat' first | assumption | exact Bd.zero | exact Bd.one | exact Bd.mone | apply Bd.mul | apply Bd.add | apply Bd.sub | apply Bd.neg | exact Bd.of (m := 64) (by decide))); decide) | (refine okS_of ?_ rfl rfl; ((repeat' apply And.intro) <;> first | exact trivial | rfl | (show Bd _ _; apply Bd.up; (solve | (repeat' first | assumption | exact Bd.zero | exact Bd.one | exact Bd.mone | apply Bd.mul | apply Bd.add | apply Bd.sub | apply Bd.neg | exact Bd.of (m := 64) (by decide))); decide))) | (((repeat' apply And.intro) <;> first | exact trivial | assumption | (apply Bd.up; (solve | (repeat' first | assumption | exact Bd.zero | exact Bd.one | exact Bd.mone | apply Bd.mul | apply Bd.add | apply Bd.sub | apply Bd.neg | exact Bd.of (m := 64) (by decide))); decide))) | decide)); conv => whnf))))); exact q)
def amtF : Fe := fun ss R => ∃ d, ss = [.va d] ∧ sd 1 d ∧ R (.va (.bl (amtB d))) [.no]
theorem sp_is_amount : ∀ ss R, amtF ss R → runF [isSeqF, isIntF] C b_is_amount p_is_amount.length N_is_amount.length ss R := by
  rintro ss R ⟨d, rfl, ok, q⟩
  refine runN_i _ C ⟨⟨rfl, by decide⟩, rfl⟩ ?_
  cases hs : seqL? d with
  | none =>
    have e : amtB d = false := by unfold amtB; rw [hs]
    rw [e] at q
    (((conv => whnf); (repeat' ((apply And.intro; (solve | (first | exact trivial | exact rfl | exact ownB_i rfl | (apply mulOk_bd; (solve | (repeat' first | assumption | exact Bd.zero | exact Bd.one | exact Bd.mone | apply Bd.mul | apply Bd.add | apply Bd.sub | apply Bd.neg | exact Bd.of (m := 64) (by decide))); (solve | (repeat' first | assumption | exact Bd.zero | exact Bd.one | exact Bd.mone | apply Bd.mul | apply Bd.add | apply Bd.sub | apply Bd.neg | exact Bd.of (m := 64) (by decide))); decide) | (refine okS_of ?_ rfl rfl; ((repeat' apply And.intro) <;> first | exact trivial | rfl | (show Bd _ _; apply Bd.up; (solve | (repeat' first | assumption | exact Bd.zero | exact Bd.one | exact Bd.mone | apply Bd.mul | apply Bd.add | apply Bd.sub | apply Bd.neg | exact Bd.of (m := 64) (by decide))); decide))) | (((repeat' apply And.intro) <;> first | exact trivial | assumption | (apply Bd.up; (solve | (repeat' first | assumption | exact Bd.zero | exact Bd.one | exact Bd.mone | apply Bd.mul | apply Bd.add | apply Bd.sub | apply Bd.neg | exact Bd.of (m := 64) (by decide))); decide))) | decide)); conv => whnf)))))
    refine ⟨d, rfl, ok.ok, ?_⟩
    rw [hs]
    (((conv => whnf); (repeat' ((apply And.intro; (solve | (first | exact trivial | exact rfl | exact ownB_i rfl | (apply mulOk_bd; (solve | (repeat' first | assumption | exact Bd.zero | exact Bd.one | exact Bd.mone | apply Bd.mul | apply Bd.add | apply Bd.sub | apply Bd.neg | exact Bd.of (m := 64) (by decide))); (solve | (repeat' first | assumption | exact Bd.zero | exact Bd.one | exact Bd.mone | apply Bd.mul | apply Bd.add | apply Bd.sub | apply Bd.neg | exact Bd.of (m := 64) (by decide))); decide) | (refine okS_of ?_ rfl rfl; ((repeat' apply And.intro) <;> first | exact trivial | rfl | (show Bd _ _; apply Bd.up; (solve | (repeat' first | assumption | exact Bd.zero | exact Bd.one | exact Bd.mone | apply Bd.mul | apply Bd.add | apply Bd.sub | apply Bd.neg | exact Bd.of (m := 64) (by decide))); decide))) | (((repeat' apply And.intro) <;> first | exact trivial | assumption | (apply Bd.up; (solve | (repeat' first | assumption | exact Bd.zero | exact Bd.one | exact Bd.mone | apply Bd.mul | apply Bd.add | apply Bd.sub | apply Bd.neg | exact Bd.of (m := 64) (by decide))); decide))) | decide)); conv => whnf)))))
    exact q
  | some ds =>
    obtain ⟨hl, hx⟩ := ok.2 ds hs
    have e : amtB d = (decide (ds.length = 4) && ds.all numB) := by unfold amtB; rw [hs]
    have e2 : decide ((ds.length : Int) = 4) = decide (ds.length = 4) := decide_eq_decide.mpr (by omega)
    rw [e] at q
    rcases itm_cases hs with rfl | rfl <;> (
      (((conv => whnf); (repeat' ((apply And.intro; (solve | (first | exact trivial | exact rfl | exact ownB_i rfl | (apply mulOk_bd; (solve | (repeat' first | assumption | exact Bd.zero | exact Bd.one | exact Bd.mone | apply Bd.mul | apply Bd.add | apply Bd.sub | apply Bd.neg | exact Bd.of (m := 64) (by decide))); (solve | (repeat' first | assumption | exact Bd.zero | exact Bd.one | exact Bd.mone | apply Bd.mul | apply Bd.add | apply Bd.sub | apply Bd.neg | exact Bd.of (m := 64) (by decide))); decide) | (refine okS_of ?_ rfl rfl; ((repeat' apply And.intro) <;> first | exact trivial | rfl | (show Bd _ _; apply Bd.up; (solve | (repeat' first | assumption | exact Bd.zero | exact Bd.one | exact Bd.mone | apply Bd.mul | apply Bd.add | apply Bd.sub | apply Bd.neg | exact Bd.of (m := 64) (by decide))); decide))) | (((repeat' apply And.intro) <;> first | exact trivial | assumption | (apply Bd.up; (solve | (repeat' first | assumption | exact Bd.zero | exact Bd.one | exact Bd.mone | apply Bd.mul | apply Bd.add | apply Bd.sub | apply Bd.neg | exact Bd.of (m := 64) (by decide))); decide))) | decide)); conv => whnf)))))
      refine ⟨_, rfl, rfl, ?_⟩
      (((conv => whnf); (repeat' ((apply And.intro; (solve | (first | exact trivial | exact rfl | exact ownB_i rfl | (apply mulOk_bd; (solve | (repeat' first | assumption | exact Bd.zero | exact Bd.one | exact Bd.mone | apply Bd.mul | apply Bd.add | apply Bd.sub | apply Bd.neg | exact Bd.of (m := 64) (by decide))); (solve | (repeat' first | assumption | exact Bd.zero | exact Bd.one | exact Bd.mone | apply Bd.mul | apply Bd.add | apply Bd.sub | apply Bd.neg | exact Bd.of (m := 64) (by decide))); decide) | (refine okS_of ?_ rfl rfl; ((repeat' apply And.intro) <;> first | exact trivial | rfl | (show Bd _ _; apply Bd.up; (solve | (repeat' first | assumption | exact Bd.zero | exact Bd.one | exact Bd.mone | apply Bd.mul | apply Bd.add | apply Bd.sub | apply Bd.neg | exact Bd.of (m := 64) (by decide))); decide))) | (((repeat' apply And.intro) <;> first | exact trivial | assumption | (apply Bd.up; (solve | (repeat' first | assumption | exact Bd.zero | exact Bd.one | exact Bd.mone | apply Bd.mul | apply Bd.add | apply Bd.sub | apply Bd.neg | exact Bd.of (m := 64) (by decide))); decide))) | decide)); conv => whnf)))))
      rw [e2]
      cases hd : decide (ds.length = 4) with
      | false =>
        rw [hd] at q
        (((conv => whnf); (repeat' ((apply And.intro; (solve | (first | exact trivial | exact rfl | exact ownB_i rfl | (apply mulOk_bd; (solve | (repeat' first | assumption | exact Bd.zero | exact Bd.one | exact Bd.mone | apply Bd.mul | apply Bd.add | apply Bd.sub | apply Bd.neg | exact Bd.of (m := 64) (by decide))); (solve | (repeat' first | assumption | exact Bd.zero | exact Bd.one | exact Bd.mone | apply Bd.mul | apply Bd.add | apply Bd.sub | apply Bd.neg | exact Bd.of (m := 64) (by decide))); decide) | (refine okS_of ?_ rfl rfl; ((repeat' apply And.intro) <;> first | exact trivial | rfl | (show Bd _ _; apply Bd.up; (solve | (repeat' first | assumption | exact Bd.zero | exact Bd.one | exact Bd.mone | apply Bd.mul | apply Bd.add | apply Bd.sub | apply Bd.neg | exact Bd.of (m := 64) (by decide))); decide))) | (((repeat' apply And.intro) <;> first | exact trivial | assumption | (apply Bd.up; (solve | (repeat' first | assumption | exact Bd.zero | exact Bd.one | exact Bd.mone | apply Bd.mul | apply Bd.add | apply Bd.sub | apply Bd.neg | exact Bd.of (m := 64) (by decide))); decide))) | decide)); conv => whnf)))))
        exact q
      | true =>
        rw [hd] at q
        (((conv => whnf); (repeat' ((apply And.intro; (solve | (first | exact trivial | exact rfl | exact ownB_i rfl | (apply mulOk_bd; (solve | (repeat' first | assumption | exact Bd.zero | exact Bd.one | exact Bd.mone | apply Bd.mul | apply Bd.add | apply Bd.sub | apply Bd.neg | exact Bd.of (m := 64) (by decide))); (solve | (repeat' first | assumption | exact Bd.zero | exact Bd.one | exact Bd.mone | apply Bd.mul | apply Bd.add | apply Bd.sub | apply Bd.neg | exact Bd.of (m := 64) (by decide))); decide) | (refine okS_of ?_ rfl rfl; ((repeat' apply And.intro) <;> first | exact trivial | rfl | (show Bd _ _; apply Bd.up; (solve | (repeat' first | assumption | exact Bd.zero | exact Bd.one | exact Bd.mone | apply Bd.mul | apply Bd.add | apply Bd.sub | apply Bd.neg | exact Bd.of (m := 64) (by decide))); decide))) | (((repeat' apply And.intro) <;> first | exact trivial | assumption | (apply Bd.up; (solve | (repeat' first | assumption | exact Bd.zero | exact Bd.one | exact Bd.mone | apply Bd.mul | apply Bd.add | apply Bd.sub | apply Bd.neg | exact Bd.of (m := 64) (by decide))); decide))) | decide)); conv => whnf)))))
        refine compN_allG (fun d => .bl (numB d)) hl ?_ ?_
        · intro d A B hd hA
          (((conv => whnf); (repeat' ((apply And.intro; (solve | (first | exact trivial | exact rfl | exact ownB_i rfl | (apply mulOk_bd; (solve | (repeat' first | assumption | exact Bd.zero | exact Bd.one | exact Bd.mone | apply Bd.mul | apply Bd.add | apply Bd.sub | apply Bd.neg | exact Bd.of (m := 64) (by decide))); (solve | (repeat' first | assumption | exact Bd.zero | exact Bd.one | exact Bd.mone | apply Bd.mul | apply Bd.add | apply Bd.sub | apply Bd.neg | exact Bd.of (m := 64) (by decide))); decide) | (refine okS_of ?_ rfl rfl; ((repeat' apply And.intro) <;> first | exact trivial | rfl | (show Bd _ _; apply Bd.up; (solve | (repeat' first | assumption | exact Bd.zero | exact Bd.one | exact Bd.mone | apply Bd.mul | apply Bd.add | apply Bd.sub | apply Bd.neg | exact Bd.of (m := 64) (by decide))); decide))) | (((repeat' apply And.intro) <;> first | exact trivial | assumption | (apply Bd.up; (solve | (repeat' first | assumption | exact Bd.zero | exact Bd.one | exact Bd.mone | apply Bd.mul | apply Bd.add | apply Bd.sub | apply Bd.neg | exact Bd.of (m := 64) (by decide))); decide))) | decide)); conv => whnf)))))
          refine ⟨d, rfl, (hx d hd).ok, ?_⟩
          (((conv => whnf); (repeat' ((apply And.intro; (solve | (first | exact trivial | exact rfl | exact ownB_i rfl | (apply mulOk_bd; (solve | (repeat' first | assumption | exact Bd.zero | exact Bd.one | exact Bd.mone | apply Bd.mul | apply Bd.add | apply Bd.sub | apply Bd.neg | exact Bd.of (m := 64) (by decide))); (solve | (repeat' first | assumption | exact Bd.zero | exact Bd.one | exact Bd.mone | apply Bd.mul | apply Bd.add | apply Bd.sub | apply Bd.neg | exact Bd.of (m := 64) (by decide))); decide) | (refine okS_of ?_ rfl rfl; ((repeat' apply And.intro) <;> first | exact trivial | rfl | (show Bd _ _; apply Bd.up; (solve | (repeat' first | assumption | exact Bd.zero | exact Bd.one | exact Bd.mone | apply Bd.mul | apply Bd.add | apply Bd.sub | apply Bd.neg | exact Bd.of (m := 64) (by decide))); decide))) | (((repeat' apply And.intro) <;> first | exact trivial | assumption | (apply Bd.up; (solve | (repeat' first | assumption | exact Bd.zero | exact Bd.one | exact Bd.mone | apply Bd.mul | apply Bd.add | apply Bd.sub | apply Bd.neg | exact Bd.of (m := 64) (by decide))); decide))) | decide)); conv => whnf)))))
          exact hA _ rfl trivial
        ·
          (((conv => whnf); (repeat' ((apply And.intro; (solve | (first | exact trivial | exact rfl | exact ownB_i rfl | (apply mulOk_bd; (solve | (repeat' first | assumption | exact Bd.zero | exact Bd.one | exact Bd.mone | apply Bd.mul | apply Bd.add | apply Bd.sub | apply Bd.neg | exact Bd.of (m := 64) (by decide))); (solve | (repeat' first | assumption | exact Bd.zero | exact Bd.one | exact Bd.mone | apply Bd.mul | apply Bd.add | apply Bd.sub | apply Bd.neg | exact Bd.of (m := 64) (by decide))); decide) | (refine okS_of ?_ rfl rfl; ((repeat' apply And.intro) <;> first | exact trivial | rfl | (show Bd _ _; apply Bd.up; (solve | (repeat' first | assumption | exact Bd.zero | exact Bd.one | exact Bd.mone | apply Bd.mul | apply Bd.add | apply Bd.sub | apply Bd.neg | exact Bd.of (m := 64) (by decide))); decide))) | (((repeat' apply And.intro) <;> first | exact trivial | assumption | (apply Bd.up; (solve | (repeat' first | assumption | exact Bd.zero | exact Bd.one | exact Bd.mone | apply Bd.mul | apply Bd.add | apply Bd.sub | apply Bd.neg | exact Bd.of (m := 64) (by decide))); decide))) | decide)); conv => whnf)))))
          rw [bls_map]
          (((conv => whnf); (repeat' ((apply And.intro; (solve | (first | exact trivial | exact rfl | exact ownB_i rfl | (apply mulOk_bd; (solve | (repeat' first | assumption | exact Bd.zero | exact Bd.one | exact Bd.mone | apply Bd.mul | apply Bd.add | apply Bd.sub | apply Bd.neg | exact Bd.of (m := 64) (by decide))); (solve | (repeat' first | assumption | exact Bd.zero | exact Bd.one | exact Bd.mone | apply Bd.mul | apply Bd.add | apply Bd.sub | apply Bd.neg | exact Bd.of (m := 64) (by decide))); decide) | (refine okS_of ?_ rfl rfl; ((repeat' apply And.intro) <;> first | exact trivial | rfl | (show Bd _ _; apply Bd.up; (solve | (repeat' first | assumption | exact Bd.zero | exact Bd.one | exact Bd.mone | apply Bd.mul | apply Bd.add | apply Bd.sub | apply Bd.neg | exact Bd.of (m := 64) (by decide))); decide))) | (((repeat' apply And.intro) <;> first | exact trivial | assumption | (apply Bd.up; (solve | (repeat' first | assumption | exact Bd.zero | exact Bd.one | exact Bd.mone | apply Bd.mul | apply Bd.add | apply Bd.sub | apply Bd.neg | exact Bd.of (m := 64) (by decide))); decide))) | decide)); conv => whnf)))))
          rw [all_id]
          exact q)
theorem inV_sizes (n : Nat) : inV (.int n) [.int 1, .int 2, .int 4, .int 8, .int 16, .int 32, .int 64, .int 128, .int 256, .int 512, .int 1024, .int 2048, .int 4096] = decide (n ∈ sizesL) := by
  unfold sizesL inV
  rw [Bool.eq_iff_iff]
  simp [eqV]
  omega
def sprF : Fe := fun ss R => ∃ d, ss = [.va d] ∧ sd 2 d ∧ R (.va (.bl (sprB d))) [.no]
theorem sp_is_spread : ∀ ss R, sprF ss R → runF [isSeqF, amtF] C_is_spread b_is_spread p_is_spread.length N_is_spread.length ss R := by
  rintro ss R ⟨d, rfl, ok, q⟩
  refine runN_i _ _ ⟨⟨rfl, by decide⟩, rfl⟩ ?_
  cases hs : seqL? d with
  | none =>
    have e : sprB d = false := by unfold sprB; rw [hs]
    rw [e] at q
    (((conv => whnf); (repeat' ((apply And.intro; (solve | (first | exact trivial | exact rfl | exact ownB_i rfl | (apply mulOk_bd; (solve | (repeat' first | assumption | exact Bd.zero | exact Bd.one | exact Bd.mone | apply Bd.mul | apply Bd.add | apply Bd.sub | apply Bd.neg | exact Bd.of (m := 64) (by decide))); (solve | (repeat' first | assumption | exact Bd.zero | exact Bd.one | exact Bd.mone | apply Bd.mul | apply Bd.add | apply Bd.sub | apply Bd.neg | exact Bd.of (m := 64) (by decide))); decide) | (refine okS_of ?_ rfl rfl; ((repeat' apply And.intro) <;> first | exact trivial | rfl | (show Bd _ _; apply Bd.up; (solve | (repeat' first | assumption | exact Bd.zero | exact Bd.one | exact Bd.mone | apply Bd.mul | apply Bd.add | apply Bd.sub | apply Bd.neg | exact Bd.of (m := 64) (by decide))); decide))) | (((repeat' apply And.intro) <;> first | exact trivial | assumption | (apply Bd.up; (solve | (repeat' first | assumption | exact Bd.zero | exact Bd.one | exact Bd.mone | apply Bd.mul | apply Bd.add | apply Bd.sub | apply Bd.neg | exact Bd.of (m := 64) (by decide))); decide))) | decide)); conv => whnf)))))
    refine ⟨d, rfl, ok.ok, ?_⟩
    rw [hs]
    (((conv => whnf); (repeat' ((apply And.intro; (solve | (first | exact trivial | exact rfl | exact ownB_i rfl | (apply mulOk_bd; (solve | (repeat' first | assumption | exact Bd.zero | exact Bd.one | exact Bd.mone | apply Bd.mul | apply Bd.add | apply Bd.sub | apply Bd.neg | exact Bd.of (m := 64) (by decide))); (solve | (repeat' first | assumption | exact Bd.zero | exact Bd.one | exact Bd.mone | apply Bd.mul | apply Bd.add | apply Bd.sub | apply Bd.neg | exact Bd.of (m := 64) (by decide))); decide) | (refine okS_of ?_ rfl rfl; ((repeat' apply And.intro) <;> first | exact trivial | rfl | (show Bd _ _; apply Bd.up; (solve | (repeat' first | assumption | exact Bd.zero | exact Bd.one | exact Bd.mone | apply Bd.mul | apply Bd.add | apply Bd.sub | apply Bd.neg | exact Bd.of (m := 64) (by decide))); decide))) | (((repeat' apply And.intro) <;> first | exact trivial | assumption | (apply Bd.up; (solve | (repeat' first | assumption | exact Bd.zero | exact Bd.one | exact Bd.mone | apply Bd.mul | apply Bd.add | apply Bd.sub | apply Bd.neg | exact Bd.of (m := 64) (by decide))); decide))) | decide)); conv => whnf)))))
    exact q
  | some ds =>
    obtain ⟨hl, hx⟩ := ok.2 ds hs
    have e : sprB d = (decide (ds.length ∈ sizesL) && (ds.all amtB && ds.any fun a => (itmL a).any nzB)) := by unfold sprB; rw [hs]
    rw [e] at q
    rcases itm_cases hs with rfl | rfl <;> (
      (((conv => whnf); (repeat' ((apply And.intro; (solve | (first | exact trivial | exact rfl | exact ownB_i rfl | (apply mulOk_bd; (solve | (repeat' first | assumption | exact Bd.zero | exact Bd.one | exact Bd.mone | apply Bd.mul | apply Bd.add | apply Bd.sub | apply Bd.neg | exact Bd.of (m := 64) (by decide))); (solve | (repeat' first | assumption | exact Bd.zero | exact Bd.one | exact Bd.mone | apply Bd.mul | apply Bd.add | apply Bd.sub | apply Bd.neg | exact Bd.of (m := 64) (by decide))); decide) | (refine okS_of ?_ rfl rfl; ((repeat' apply And.intro) <;> first | exact trivial | rfl | (show Bd _ _; apply Bd.up; (solve | (repeat' first | assumption | exact Bd.zero | exact Bd.one | exact Bd.mone | apply Bd.mul | apply Bd.add | apply Bd.sub | apply Bd.neg | exact Bd.of (m := 64) (by decide))); decide))) | (((repeat' apply And.intro) <;> first | exact trivial | assumption | (apply Bd.up; (solve | (repeat' first | assumption | exact Bd.zero | exact Bd.one | exact Bd.mone | apply Bd.mul | apply Bd.add | apply Bd.sub | apply Bd.neg | exact Bd.of (m := 64) (by decide))); decide))) | decide)); conv => whnf)))))
      refine ⟨_, rfl, rfl, ?_⟩
      (((conv => whnf); (repeat' ((apply And.intro; (solve | (first | exact trivial | exact rfl | exact ownB_i rfl | (apply mulOk_bd; (solve | (repeat' first | assumption | exact Bd.zero | exact Bd.one | exact Bd.mone | apply Bd.mul | apply Bd.add | apply Bd.sub | apply Bd.neg | exact Bd.of (m := 64) (by decide))); (solve | (repeat' first | assumption | exact Bd.zero | exact Bd.one | exact Bd.mone | apply Bd.mul | apply Bd.add | apply Bd.sub | apply Bd.neg | exact Bd.of (m := 64) (by decide))); decide) | (refine okS_of ?_ rfl rfl; ((repeat' apply And.intro) <;> first | exact trivial | rfl | (show Bd _ _; apply Bd.up; (solve | (repeat' first | assumption | exact Bd.zero | exact Bd.one | exact Bd.mone | apply Bd.mul | apply Bd.add | apply Bd.sub | apply Bd.neg | exact Bd.of (m := 64) (by decide))); decide))) | (((repeat' apply And.intro) <;> first | exact trivial | assumption | (apply Bd.up; (solve | (repeat' first | assumption | exact Bd.zero | exact Bd.one | exact Bd.mone | apply Bd.mul | apply Bd.add | apply Bd.sub | apply Bd.neg | exact Bd.of (m := 64) (by decide))); decide))) | decide)); conv => whnf)))))
      rw [inV_sizes]
      cases hd : decide (ds.length ∈ sizesL) with
      | false =>
        rw [hd] at q
        (((conv => whnf); (repeat' ((apply And.intro; (solve | (first | exact trivial | exact rfl | exact ownB_i rfl | (apply mulOk_bd; (solve | (repeat' first | assumption | exact Bd.zero | exact Bd.one | exact Bd.mone | apply Bd.mul | apply Bd.add | apply Bd.sub | apply Bd.neg | exact Bd.of (m := 64) (by decide))); (solve | (repeat' first | assumption | exact Bd.zero | exact Bd.one | exact Bd.mone | apply Bd.mul | apply Bd.add | apply Bd.sub | apply Bd.neg | exact Bd.of (m := 64) (by decide))); decide) | (refine okS_of ?_ rfl rfl; ((repeat' apply And.intro) <;> first | exact trivial | rfl | (show Bd _ _; apply Bd.up; (solve | (repeat' first | assumption | exact Bd.zero | exact Bd.one | exact Bd.mone | apply Bd.mul | apply Bd.add | apply Bd.sub | apply Bd.neg | exact Bd.of (m := 64) (by decide))); decide))) | (((repeat' apply And.intro) <;> first | exact trivial | assumption | (apply Bd.up; (solve | (repeat' first | assumption | exact Bd.zero | exact Bd.one | exact Bd.mone | apply Bd.mul | apply Bd.add | apply Bd.sub | apply Bd.neg | exact Bd.of (m := 64) (by decide))); decide))) | decide)); conv => whnf)))))
        exact q
      | true =>
        rw [hd] at q
        (((conv => whnf); (repeat' ((apply And.intro; (solve | (first | exact trivial | exact rfl | exact ownB_i rfl | (apply mulOk_bd; (solve | (repeat' first | assumption | exact Bd.zero | exact Bd.one | exact Bd.mone | apply Bd.mul | apply Bd.add | apply Bd.sub | apply Bd.neg | exact Bd.of (m := 64) (by decide))); (solve | (repeat' first | assumption | exact Bd.zero | exact Bd.one | exact Bd.mone | apply Bd.mul | apply Bd.add | apply Bd.sub | apply Bd.neg | exact Bd.of (m := 64) (by decide))); decide) | (refine okS_of ?_ rfl rfl; ((repeat' apply And.intro) <;> first | exact trivial | rfl | (show Bd _ _; apply Bd.up; (solve | (repeat' first | assumption | exact Bd.zero | exact Bd.one | exact Bd.mone | apply Bd.mul | apply Bd.add | apply Bd.sub | apply Bd.neg | exact Bd.of (m := 64) (by decide))); decide))) | (((repeat' apply And.intro) <;> first | exact trivial | assumption | (apply Bd.up; (solve | (repeat' first | assumption | exact Bd.zero | exact Bd.one | exact Bd.mone | apply Bd.mul | apply Bd.add | apply Bd.sub | apply Bd.neg | exact Bd.of (m := 64) (by decide))); decide))) | decide)); conv => whnf)))))
        refine compN_allG (fun d => .bl (amtB d)) hl ?_ ?_
        · intro d A B hd hA
          (((conv => whnf); (repeat' ((apply And.intro; (solve | (first | exact trivial | exact rfl | exact ownB_i rfl | (apply mulOk_bd; (solve | (repeat' first | assumption | exact Bd.zero | exact Bd.one | exact Bd.mone | apply Bd.mul | apply Bd.add | apply Bd.sub | apply Bd.neg | exact Bd.of (m := 64) (by decide))); (solve | (repeat' first | assumption | exact Bd.zero | exact Bd.one | exact Bd.mone | apply Bd.mul | apply Bd.add | apply Bd.sub | apply Bd.neg | exact Bd.of (m := 64) (by decide))); decide) | (refine okS_of ?_ rfl rfl; ((repeat' apply And.intro) <;> first | exact trivial | rfl | (show Bd _ _; apply Bd.up; (solve | (repeat' first | assumption | exact Bd.zero | exact Bd.one | exact Bd.mone | apply Bd.mul | apply Bd.add | apply Bd.sub | apply Bd.neg | exact Bd.of (m := 64) (by decide))); decide))) | (((repeat' apply And.intro) <;> first | exact trivial | assumption | (apply Bd.up; (solve | (repeat' first | assumption | exact Bd.zero | exact Bd.one | exact Bd.mone | apply Bd.mul | apply Bd.add | apply Bd.sub | apply Bd.neg | exact Bd.of (m := 64) (by decide))); decide))) | decide)); conv => whnf)))))
          refine ⟨d, rfl, hx d hd, ?_⟩
          (((conv => whnf); (repeat' ((apply And.intro; (solve | (first | exact trivial | exact rfl | exact ownB_i rfl | (apply mulOk_bd; (solve | (repeat' first | assumption | exact Bd.zero | exact Bd.one | exact Bd.mone | apply Bd.mul | apply Bd.add | apply Bd.sub | apply Bd.neg | exact Bd.of (m := 64) (by decide))); (solve | (repeat' first | assumption | exact Bd.zero | exact Bd.one | exact Bd.mone | apply Bd.mul | apply Bd.add | apply Bd.sub | apply Bd.neg | exact Bd.of (m := 64) (by decide))); decide) | (refine okS_of ?_ rfl rfl; ((repeat' apply And.intro) <;> first | exact trivial | rfl | (show Bd _ _; apply Bd.up; (solve | (repeat' first | assumption | exact Bd.zero | exact Bd.one | exact Bd.mone | apply Bd.mul | apply Bd.add | apply Bd.sub | apply Bd.neg | exact Bd.of (m := 64) (by decide))); decide))) | (((repeat' apply And.intro) <;> first | exact trivial | assumption | (apply Bd.up; (solve | (repeat' first | assumption | exact Bd.zero | exact Bd.one | exact Bd.mone | apply Bd.mul | apply Bd.add | apply Bd.sub | apply Bd.neg | exact Bd.of (m := 64) (by decide))); decide))) | decide)); conv => whnf)))))
          exact hA _ rfl trivial
        (((conv => whnf); (repeat' ((apply And.intro; (solve | (first | exact trivial | exact rfl | exact ownB_i rfl | (apply mulOk_bd; (solve | (repeat' first | assumption | exact Bd.zero | exact Bd.one | exact Bd.mone | apply Bd.mul | apply Bd.add | apply Bd.sub | apply Bd.neg | exact Bd.of (m := 64) (by decide))); (solve | (repeat' first | assumption | exact Bd.zero | exact Bd.one | exact Bd.mone | apply Bd.mul | apply Bd.add | apply Bd.sub | apply Bd.neg | exact Bd.of (m := 64) (by decide))); decide) | (refine okS_of ?_ rfl rfl; ((repeat' apply And.intro) <;> first | exact trivial | rfl | (show Bd _ _; apply Bd.up; (solve | (repeat' first | assumption | exact Bd.zero | exact Bd.one | exact Bd.mone | apply Bd.mul | apply Bd.add | apply Bd.sub | apply Bd.neg | exact Bd.of (m := 64) (by decide))); decide))) | (((repeat' apply And.intro) <;> first | exact trivial | assumption | (apply Bd.up; (solve | (repeat' first | assumption | exact Bd.zero | exact Bd.one | exact Bd.mone | apply Bd.mul | apply Bd.add | apply Bd.sub | apply Bd.neg | exact Bd.of (m := 64) (by decide))); decide))) | decide)); conv => whnf)))))
        rw [bls_map]
        (((conv => whnf); (repeat' ((apply And.intro; (solve | (first | exact trivial | exact rfl | exact ownB_i rfl | (apply mulOk_bd; (solve | (repeat' first | assumption | exact Bd.zero | exact Bd.one | exact Bd.mone | apply Bd.mul | apply Bd.add | apply Bd.sub | apply Bd.neg | exact Bd.of (m := 64) (by decide))); (solve | (repeat' first | assumption | exact Bd.zero | exact Bd.one | exact Bd.mone | apply Bd.mul | apply Bd.add | apply Bd.sub | apply Bd.neg | exact Bd.of (m := 64) (by decide))); decide) | (refine okS_of ?_ rfl rfl; ((repeat' apply And.intro) <;> first | exact trivial | rfl | (show Bd _ _; apply Bd.up; (solve | (repeat' first | assumption | exact Bd.zero | exact Bd.one | exact Bd.mone | apply Bd.mul | apply Bd.add | apply Bd.sub | apply Bd.neg | exact Bd.of (m := 64) (by decide))); decide))) | (((repeat' apply And.intro) <;> first | exact trivial | assumption | (apply Bd.up; (solve | (repeat' first | assumption | exact Bd.zero | exact Bd.one | exact Bd.mone | apply Bd.mul | apply Bd.add | apply Bd.sub | apply Bd.neg | exact Bd.of (m := 64) (by decide))); decide))) | decide)); conv => whnf)))))
        rw [all_id]
        cases ha : ds.all amtB with
        | false =>
          rw [ha] at q
          (((conv => whnf); (repeat' ((apply And.intro; (solve | (first | exact trivial | exact rfl | exact ownB_i rfl | (apply mulOk_bd; (solve | (repeat' first | assumption | exact Bd.zero | exact Bd.one | exact Bd.mone | apply Bd.mul | apply Bd.add | apply Bd.sub | apply Bd.neg | exact Bd.of (m := 64) (by decide))); (solve | (repeat' first | assumption | exact Bd.zero | exact Bd.one | exact Bd.mone | apply Bd.mul | apply Bd.add | apply Bd.sub | apply Bd.neg | exact Bd.of (m := 64) (by decide))); decide) | (refine okS_of ?_ rfl rfl; ((repeat' apply And.intro) <;> first | exact trivial | rfl | (show Bd _ _; apply Bd.up; (solve | (repeat' first | assumption | exact Bd.zero | exact Bd.one | exact Bd.mone | apply Bd.mul | apply Bd.add | apply Bd.sub | apply Bd.neg | exact Bd.of (m := 64) (by decide))); decide))) | (((repeat' apply And.intro) <;> first | exact trivial | assumption | (apply Bd.up; (solve | (repeat' first | assumption | exact Bd.zero | exact Bd.one | exact Bd.mone | apply Bd.mul | apply Bd.add | apply Bd.sub | apply Bd.neg | exact Bd.of (m := 64) (by decide))); decide))) | decide)); conv => whnf)))))
          exact q
        | true =>
          rw [ha] at q
          (((conv => whnf); (repeat' ((apply And.intro; (solve | (first | exact trivial | exact rfl | exact ownB_i rfl | (apply mulOk_bd; (solve | (repeat' first | assumption | exact Bd.zero | exact Bd.one | exact Bd.mone | apply Bd.mul | apply Bd.add | apply Bd.sub | apply Bd.neg | exact Bd.of (m := 64) (by decide))); (solve | (repeat' first | assumption | exact Bd.zero | exact Bd.one | exact Bd.mone | apply Bd.mul | apply Bd.add | apply Bd.sub | apply Bd.neg | exact Bd.of (m := 64) (by decide))); decide) | (refine okS_of ?_ rfl rfl; ((repeat' apply And.intro) <;> first | exact trivial | rfl | (show Bd _ _; apply Bd.up; (solve | (repeat' first | assumption | exact Bd.zero | exact Bd.one | exact Bd.mone | apply Bd.mul | apply Bd.add | apply Bd.sub | apply Bd.neg | exact Bd.of (m := 64) (by decide))); decide))) | (((repeat' apply And.intro) <;> first | exact trivial | assumption | (apply Bd.up; (solve | (repeat' first | assumption | exact Bd.zero | exact Bd.one | exact Bd.mone | apply Bd.mul | apply Bd.add | apply Bd.sub | apply Bd.neg | exact Bd.of (m := 64) (by decide))); decide))) | decide)); conv => whnf)))))
          have hq : ∀ a ∈ ds, ∃ xs, seqL? a = some xs ∧ xs.length = 4 ∧ ∀ x ∈ xs, x = .int (toI x) := fun a h => amt_of (List.all_eq_true.mp ha a h)
          refine comp2N_i (fun i acc ρ => ρ = _ ∧ acc = ((ds.take i).flatMap itmL).map (fun x => D.bl (nzB x)) ∧ acc.length ≤ 4 * i ∧ i ≤ ds.length) ⟨rfl, rfl, Nat.le_refl _, Nat.zero_le _⟩ ?_ ?_
          · rintro i a acc ρ K hi ⟨rfl, h1, h2, h3⟩ hK
            have hlt : i < ds.length := (List.getElem?_eq_some_iff.mp hi).1
            obtain ⟨xs, e1, e2, e3⟩ := hq a (mem_of hi)
            have fin : ∀ ρ', ρ' = _ → K (acc ++ xs.map (fun x => D.bl (nzB x))) ρ' := fun ρ' e => hK _ _ ⟨e, by rw [h1, List.take_add_one, hi, List.flatMap_append, List.map_append]; simp [itmL, e1], by rw [List.length_append, List.length_map]; omega, hlt⟩
            rcases itm_cases e1 with rfl | rfl <;> (
              (((conv => whnf); (repeat' ((apply And.intro; (solve | (first | exact trivial | exact rfl | exact ownB_i rfl | (apply mulOk_bd; (solve | (repeat' first | assumption | exact Bd.zero | exact Bd.one | exact Bd.mone | apply Bd.mul | apply Bd.add | apply Bd.sub | apply Bd.neg | exact Bd.of (m := 64) (by decide))); (solve | (repeat' first | assumption | exact Bd.zero | exact Bd.one | exact Bd.mone | apply Bd.mul | apply Bd.add | apply Bd.sub | apply Bd.neg | exact Bd.of (m := 64) (by decide))); decide) | (refine okS_of ?_ rfl rfl; ((repeat' apply And.intro) <;> first | exact trivial | rfl | (show Bd _ _; apply Bd.up; (solve | (repeat' first | assumption | exact Bd.zero | exact Bd.one | exact Bd.mone | apply Bd.mul | apply Bd.add | apply Bd.sub | apply Bd.neg | exact Bd.of (m := 64) (by decide))); decide))) | (((repeat' apply And.intro) <;> first | exact trivial | assumption | (apply Bd.up; (solve | (repeat' first | assumption | exact Bd.zero | exact Bd.one | exact Bd.mone | apply Bd.mul | apply Bd.add | apply Bd.sub | apply Bd.neg | exact Bd.of (m := 64) (by decide))); decide))) | decide)); conv => whnf)))))
              refine inPN_all xs acc (fun i => .bl (nzB (xs.getD i .non))) (by rw [sizeLine_eq]; omega) ?_ ?_
              · intro j x A hj hA
                obtain ⟨z, hz⟩ : ∃ z, x = .int z := ⟨_, e3 x (mem_of hj)⟩
                rw [getD_of hj] at hA
                subst hz
                (((conv => whnf); (repeat' ((apply And.intro; (solve | (first | exact trivial | exact rfl | exact ownB_i rfl | (apply mulOk_bd; (solve | (repeat' first | assumption | exact Bd.zero | exact Bd.one | exact Bd.mone | apply Bd.mul | apply Bd.add | apply Bd.sub | apply Bd.neg | exact Bd.of (m := 64) (by decide))); (solve | (repeat' first | assumption | exact Bd.zero | exact Bd.one | exact Bd.mone | apply Bd.mul | apply Bd.add | apply Bd.sub | apply Bd.neg | exact Bd.of (m := 64) (by decide))); decide) | (refine okS_of ?_ rfl rfl; ((repeat' apply And.intro) <;> first | exact trivial | rfl | (show Bd _ _; apply Bd.up; (solve | (repeat' first | assumption | exact Bd.zero | exact Bd.one | exact Bd.mone | apply Bd.mul | apply Bd.add | apply Bd.sub | apply Bd.neg | exact Bd.of (m := 64) (by decide))); decide))) | (((repeat' apply And.intro) <;> first | exact trivial | assumption | (apply Bd.up; (solve | (repeat' first | assumption | exact Bd.zero | exact Bd.one | exact Bd.mone | apply Bd.mul | apply Bd.add | apply Bd.sub | apply Bd.neg | exact Bd.of (m := 64) (by decide))); decide))) | decide)); conv => whnf)))))
                exact hA _ rfl
              · rw [map_getD (fun x => D.bl (nzB x)) .non xs]
                (((conv => whnf); (repeat' ((apply And.intro; (solve | (first | exact trivial | exact rfl | exact ownB_i rfl | (apply mulOk_bd; (solve | (repeat' first | assumption | exact Bd.zero | exact Bd.one | exact Bd.mone | apply Bd.mul | apply Bd.add | apply Bd.sub | apply Bd.neg | exact Bd.of (m := 64) (by decide))); (solve | (repeat' first | assumption | exact Bd.zero | exact Bd.one | exact Bd.mone | apply Bd.mul | apply Bd.add | apply Bd.sub | apply Bd.neg | exact Bd.of (m := 64) (by decide))); decide) | (refine okS_of ?_ rfl rfl; ((repeat' apply And.intro) <;> first | exact trivial | rfl | (show Bd _ _; apply Bd.up; (solve | (repeat' first | assumption | exact Bd.zero | exact Bd.one | exact Bd.mone | apply Bd.mul | apply Bd.add | apply Bd.sub | apply Bd.neg | exact Bd.of (m := 64) (by decide))); decide))) | (((repeat' apply And.intro) <;> first | exact trivial | assumption | (apply Bd.up; (solve | (repeat' first | assumption | exact Bd.zero | exact Bd.one | exact Bd.mone | apply Bd.mul | apply Bd.add | apply Bd.sub | apply Bd.neg | exact Bd.of (m := 64) (by decide))); decide))) | decide)); conv => whnf)))))
                exact fin _ rfl)
          · rintro acc ρ ⟨rfl, rfl, _, _⟩
            rw [List.take_length]
            (((conv => whnf); (repeat' ((apply And.intro; (solve | (first | exact trivial | exact rfl | exact ownB_i rfl | (apply mulOk_bd; (solve | (repeat' first | assumption | exact Bd.zero | exact Bd.one | exact Bd.mone | apply Bd.mul | apply Bd.add | apply Bd.sub | apply Bd.neg | exact Bd.of (m := 64) (by decide))); (solve | (repeat' first | assumption | exact Bd.zero | exact Bd.one | exact Bd.mone | apply Bd.mul | apply Bd.add | apply Bd.sub | apply Bd.neg | exact Bd.of (m := 64) (by decide))); decide) | (refine okS_of ?_ rfl rfl; ((repeat' apply And.intro) <;> first | exact trivial | rfl | (show Bd _ _; apply Bd.up; (solve | (repeat' first | assumption | exact Bd.zero | exact Bd.one | exact Bd.mone | apply Bd.mul | apply Bd.add | apply Bd.sub | apply Bd.neg | exact Bd.of (m := 64) (by decide))); decide))) | (((repeat' apply And.intro) <;> first | exact trivial | assumption | (apply Bd.up; (solve | (repeat' first | assumption | exact Bd.zero | exact Bd.one | exact Bd.mone | apply Bd.mul | apply Bd.add | apply Bd.sub | apply Bd.neg | exact Bd.of (m := 64) (by decide))); decide))) | decide)); conv => whnf)))))
            rw [bls_map]
            (((conv => whnf); (repeat' ((apply And.intro; (solve | (first | exact trivial | exact rfl | exact ownB_i rfl | (apply mulOk_bd; (solve | (repeat' first | assumption | exact Bd.zero | exact Bd.one | exact Bd.mone | apply Bd.mul | apply Bd.add | apply Bd.sub | apply Bd.neg | exact Bd.of (m := 64) (by decide))); (solve | (repeat' first | assumption | exact Bd.zero | exact Bd.one | exact Bd.mone | apply Bd.mul | apply Bd.add | apply Bd.sub | apply Bd.neg | exact Bd.of (m := 64) (by decide))); decide) | (refine okS_of ?_ rfl rfl; ((repeat' apply And.intro) <;> first | exact trivial | rfl | (show Bd _ _; apply Bd.up; (solve | (repeat' first | assumption | exact Bd.zero | exact Bd.one | exact Bd.mone | apply Bd.mul | apply Bd.add | apply Bd.sub | apply Bd.neg | exact Bd.of (m := 64) (by decide))); decide))) | (((repeat' apply And.intro) <;> first | exact trivial | assumption | (apply Bd.up; (solve | (repeat' first | assumption | exact Bd.zero | exact Bd.one | exact Bd.mone | apply Bd.mul | apply Bd.add | apply Bd.sub | apply Bd.neg | exact Bd.of (m := 64) (by decide))); decide))) | decide)); conv => whnf)))))
            rw [any_id, List.any_flatMap]
            exact q)
theorem ints_map : ∀ ds : List D, (∀ x ∈ ds, x = .int (toI x)) → ints? ds = some (ds.map toI)
  | [], _ => rfl
  | d :: ds, h => by
    have e := h d List.mem_cons_self
    have ih := ints_map ds fun x hx => h x (List.mem_cons_of_mem _ hx)
    rw [e]
    show (ints? ds).map (toI d :: ·) = _
    rw [ih]
    rfl
def lotF : Fe := fun ss R => ∃ d, ss = [.va d] ∧ (sd 1 d ∧ ∀ ds, seqL? d = some ds → ds.length ≤ 4000) ∧ R (.va (.bl (lotB d))) [.no]
theorem sp_is_lot : ∀ ss R, lotF ss R → runF [isSeqF, withinF] C b_is_lot p_is_lot.length N_is_lot.length ss R := by
  rintro ss R ⟨d, rfl, ⟨ok, h4⟩, q⟩
  refine runN_i _ _ ⟨⟨rfl, by decide⟩, rfl⟩ ?_
  cases hs : seqL? d with
  | none =>
    have e : lotB d = false := by unfold lotB; rw [hs]
    rw [e] at q
    (((conv => whnf); (repeat' ((apply And.intro; (solve | (first | exact trivial | exact rfl | exact ownB_i rfl | (apply mulOk_bd; (solve | (repeat' first | assumption | exact Bd.zero | exact Bd.one | exact Bd.mone | apply Bd.mul | apply Bd.add | apply Bd.sub | apply Bd.neg | exact Bd.of (m := 64) (by decide))); (solve | (repeat' first | assumption | exact Bd.zero | exact Bd.one | exact Bd.mone | apply Bd.mul | apply Bd.add | apply Bd.sub | apply Bd.neg | exact Bd.of (m := 64) (by decide))); decide) | (refine okS_of ?_ rfl rfl; ((repeat' apply And.intro) <;> first | exact trivial | rfl | (show Bd _ _; apply Bd.up; (solve | (repeat' first | assumption | exact Bd.zero | exact Bd.one | exact Bd.mone | apply Bd.mul | apply Bd.add | apply Bd.sub | apply Bd.neg | exact Bd.of (m := 64) (by decide))); decide))) | (((repeat' apply And.intro) <;> first | exact trivial | assumption | (apply Bd.up; (solve | (repeat' first | assumption | exact Bd.zero | exact Bd.one | exact Bd.mone | apply Bd.mul | apply Bd.add | apply Bd.sub | apply Bd.neg | exact Bd.of (m := 64) (by decide))); decide))) | decide)); conv => whnf)))))
    refine ⟨d, rfl, ok.ok, ?_⟩
    rw [hs]
    (((conv => whnf); (repeat' ((apply And.intro; (solve | (first | exact trivial | exact rfl | exact ownB_i rfl | (apply mulOk_bd; (solve | (repeat' first | assumption | exact Bd.zero | exact Bd.one | exact Bd.mone | apply Bd.mul | apply Bd.add | apply Bd.sub | apply Bd.neg | exact Bd.of (m := 64) (by decide))); (solve | (repeat' first | assumption | exact Bd.zero | exact Bd.one | exact Bd.mone | apply Bd.mul | apply Bd.add | apply Bd.sub | apply Bd.neg | exact Bd.of (m := 64) (by decide))); decide) | (refine okS_of ?_ rfl rfl; ((repeat' apply And.intro) <;> first | exact trivial | rfl | (show Bd _ _; apply Bd.up; (solve | (repeat' first | assumption | exact Bd.zero | exact Bd.one | exact Bd.mone | apply Bd.mul | apply Bd.add | apply Bd.sub | apply Bd.neg | exact Bd.of (m := 64) (by decide))); decide))) | (((repeat' apply And.intro) <;> first | exact trivial | assumption | (apply Bd.up; (solve | (repeat' first | assumption | exact Bd.zero | exact Bd.one | exact Bd.mone | apply Bd.mul | apply Bd.add | apply Bd.sub | apply Bd.neg | exact Bd.of (m := 64) (by decide))); decide))) | decide)); conv => whnf)))))
    exact q
  | some ds =>
    obtain ⟨hl, hx⟩ := ok.2 ds hs
    have h5 := h4 ds hs
    have e : lotB d = (ds.all natB && decide (ds.map toI).Nodup) := by unfold lotB; rw [hs]
    rw [e] at q
    rcases itm_cases hs with rfl | rfl <;> (
      (((conv => whnf); (repeat' ((apply And.intro; (solve | (first | exact trivial | exact rfl | exact ownB_i rfl | (apply mulOk_bd; (solve | (repeat' first | assumption | exact Bd.zero | exact Bd.one | exact Bd.mone | apply Bd.mul | apply Bd.add | apply Bd.sub | apply Bd.neg | exact Bd.of (m := 64) (by decide))); (solve | (repeat' first | assumption | exact Bd.zero | exact Bd.one | exact Bd.mone | apply Bd.mul | apply Bd.add | apply Bd.sub | apply Bd.neg | exact Bd.of (m := 64) (by decide))); decide) | (refine okS_of ?_ rfl rfl; ((repeat' apply And.intro) <;> first | exact trivial | rfl | (show Bd _ _; apply Bd.up; (solve | (repeat' first | assumption | exact Bd.zero | exact Bd.one | exact Bd.mone | apply Bd.mul | apply Bd.add | apply Bd.sub | apply Bd.neg | exact Bd.of (m := 64) (by decide))); decide))) | (((repeat' apply And.intro) <;> first | exact trivial | assumption | (apply Bd.up; (solve | (repeat' first | assumption | exact Bd.zero | exact Bd.one | exact Bd.mone | apply Bd.mul | apply Bd.add | apply Bd.sub | apply Bd.neg | exact Bd.of (m := 64) (by decide))); decide))) | decide)); conv => whnf)))))
      refine ⟨_, rfl, rfl, ?_⟩
      (((conv => whnf); (repeat' ((apply And.intro; (solve | (first | exact trivial | exact rfl | exact ownB_i rfl | (apply mulOk_bd; (solve | (repeat' first | assumption | exact Bd.zero | exact Bd.one | exact Bd.mone | apply Bd.mul | apply Bd.add | apply Bd.sub | apply Bd.neg | exact Bd.of (m := 64) (by decide))); (solve | (repeat' first | assumption | exact Bd.zero | exact Bd.one | exact Bd.mone | apply Bd.mul | apply Bd.add | apply Bd.sub | apply Bd.neg | exact Bd.of (m := 64) (by decide))); decide) | (refine okS_of ?_ rfl rfl; ((repeat' apply And.intro) <;> first | exact trivial | rfl | (show Bd _ _; apply Bd.up; (solve | (repeat' first | assumption | exact Bd.zero | exact Bd.one | exact Bd.mone | apply Bd.mul | apply Bd.add | apply Bd.sub | apply Bd.neg | exact Bd.of (m := 64) (by decide))); decide))) | (((repeat' apply And.intro) <;> first | exact trivial | assumption | (apply Bd.up; (solve | (repeat' first | assumption | exact Bd.zero | exact Bd.one | exact Bd.mone | apply Bd.mul | apply Bd.add | apply Bd.sub | apply Bd.neg | exact Bd.of (m := 64) (by decide))); decide))) | decide)); conv => whnf)))))
      refine compN_allG (fun d => .bl (natB d)) hl ?_ ?_
      · intro d A B hd hA
        (((conv => whnf); (repeat' ((apply And.intro; (solve | (first | exact trivial | exact rfl | exact ownB_i rfl | (apply mulOk_bd; (solve | (repeat' first | assumption | exact Bd.zero | exact Bd.one | exact Bd.mone | apply Bd.mul | apply Bd.add | apply Bd.sub | apply Bd.neg | exact Bd.of (m := 64) (by decide))); (solve | (repeat' first | assumption | exact Bd.zero | exact Bd.one | exact Bd.mone | apply Bd.mul | apply Bd.add | apply Bd.sub | apply Bd.neg | exact Bd.of (m := 64) (by decide))); decide) | (refine okS_of ?_ rfl rfl; ((repeat' apply And.intro) <;> first | exact trivial | rfl | (show Bd _ _; apply Bd.up; (solve | (repeat' first | assumption | exact Bd.zero | exact Bd.one | exact Bd.mone | apply Bd.mul | apply Bd.add | apply Bd.sub | apply Bd.neg | exact Bd.of (m := 64) (by decide))); decide))) | (((repeat' apply And.intro) <;> first | exact trivial | assumption | (apply Bd.up; (solve | (repeat' first | assumption | exact Bd.zero | exact Bd.one | exact Bd.mone | apply Bd.mul | apply Bd.add | apply Bd.sub | apply Bd.neg | exact Bd.of (m := 64) (by decide))); decide))) | decide)); conv => whnf)))))
        refine ⟨d, some 0, none, rfl, (hx d hd).ok, ?_⟩
        (((conv => whnf); (repeat' ((apply And.intro; (solve | (first | exact trivial | exact rfl | exact ownB_i rfl | (apply mulOk_bd; (solve | (repeat' first | assumption | exact Bd.zero | exact Bd.one | exact Bd.mone | apply Bd.mul | apply Bd.add | apply Bd.sub | apply Bd.neg | exact Bd.of (m := 64) (by decide))); (solve | (repeat' first | assumption | exact Bd.zero | exact Bd.one | exact Bd.mone | apply Bd.mul | apply Bd.add | apply Bd.sub | apply Bd.neg | exact Bd.of (m := 64) (by decide))); decide) | (refine okS_of ?_ rfl rfl; ((repeat' apply And.intro) <;> first | exact trivial | rfl | (show Bd _ _; apply Bd.up; (solve | (repeat' first | assumption | exact Bd.zero | exact Bd.one | exact Bd.mone | apply Bd.mul | apply Bd.add | apply Bd.sub | apply Bd.neg | exact Bd.of (m := 64) (by decide))); decide))) | (((repeat' apply And.intro) <;> first | exact trivial | assumption | (apply Bd.up; (solve | (repeat' first | assumption | exact Bd.zero | exact Bd.one | exact Bd.mone | apply Bd.mul | apply Bd.add | apply Bd.sub | apply Bd.neg | exact Bd.of (m := 64) (by decide))); decide))) | decide)); conv => whnf)))))
        exact hA _ rfl trivial
      (((conv => whnf); (repeat' ((apply And.intro; (solve | (first | exact trivial | exact rfl | exact ownB_i rfl | (apply mulOk_bd; (solve | (repeat' first | assumption | exact Bd.zero | exact Bd.one | exact Bd.mone | apply Bd.mul | apply Bd.add | apply Bd.sub | apply Bd.neg | exact Bd.of (m := 64) (by decide))); (solve | (repeat' first | assumption | exact Bd.zero | exact Bd.one | exact Bd.mone | apply Bd.mul | apply Bd.add | apply Bd.sub | apply Bd.neg | exact Bd.of (m := 64) (by decide))); decide) | (refine okS_of ?_ rfl rfl; ((repeat' apply And.intro) <;> first | exact trivial | rfl | (show Bd _ _; apply Bd.up; (solve | (repeat' first | assumption | exact Bd.zero | exact Bd.one | exact Bd.mone | apply Bd.mul | apply Bd.add | apply Bd.sub | apply Bd.neg | exact Bd.of (m := 64) (by decide))); decide))) | (((repeat' apply And.intro) <;> first | exact trivial | assumption | (apply Bd.up; (solve | (repeat' first | assumption | exact Bd.zero | exact Bd.one | exact Bd.mone | apply Bd.mul | apply Bd.add | apply Bd.sub | apply Bd.neg | exact Bd.of (m := 64) (by decide))); decide))) | decide)); conv => whnf)))))
      rw [bls_map]
      (((conv => whnf); (repeat' ((apply And.intro; (solve | (first | exact trivial | exact rfl | exact ownB_i rfl | (apply mulOk_bd; (solve | (repeat' first | assumption | exact Bd.zero | exact Bd.one | exact Bd.mone | apply Bd.mul | apply Bd.add | apply Bd.sub | apply Bd.neg | exact Bd.of (m := 64) (by decide))); (solve | (repeat' first | assumption | exact Bd.zero | exact Bd.one | exact Bd.mone | apply Bd.mul | apply Bd.add | apply Bd.sub | apply Bd.neg | exact Bd.of (m := 64) (by decide))); decide) | (refine okS_of ?_ rfl rfl; ((repeat' apply And.intro) <;> first | exact trivial | rfl | (show Bd _ _; apply Bd.up; (solve | (repeat' first | assumption | exact Bd.zero | exact Bd.one | exact Bd.mone | apply Bd.mul | apply Bd.add | apply Bd.sub | apply Bd.neg | exact Bd.of (m := 64) (by decide))); decide))) | (((repeat' apply And.intro) <;> first | exact trivial | assumption | (apply Bd.up; (solve | (repeat' first | assumption | exact Bd.zero | exact Bd.one | exact Bd.mone | apply Bd.mul | apply Bd.add | apply Bd.sub | apply Bd.neg | exact Bd.of (m := 64) (by decide))); decide))) | decide)); conv => whnf)))))
      rw [all_id]
      cases ha : ds.all natB with
      | false =>
        rw [ha] at q
        (((conv => whnf); (repeat' ((apply And.intro; (solve | (first | exact trivial | exact rfl | exact ownB_i rfl | (apply mulOk_bd; (solve | (repeat' first | assumption | exact Bd.zero | exact Bd.one | exact Bd.mone | apply Bd.mul | apply Bd.add | apply Bd.sub | apply Bd.neg | exact Bd.of (m := 64) (by decide))); (solve | (repeat' first | assumption | exact Bd.zero | exact Bd.one | exact Bd.mone | apply Bd.mul | apply Bd.add | apply Bd.sub | apply Bd.neg | exact Bd.of (m := 64) (by decide))); decide) | (refine okS_of ?_ rfl rfl; ((repeat' apply And.intro) <;> first | exact trivial | rfl | (show Bd _ _; apply Bd.up; (solve | (repeat' first | assumption | exact Bd.zero | exact Bd.one | exact Bd.mone | apply Bd.mul | apply Bd.add | apply Bd.sub | apply Bd.neg | exact Bd.of (m := 64) (by decide))); decide))) | (((repeat' apply And.intro) <;> first | exact trivial | assumption | (apply Bd.up; (solve | (repeat' first | assumption | exact Bd.zero | exact Bd.one | exact Bd.mone | apply Bd.mul | apply Bd.add | apply Bd.sub | apply Bd.neg | exact Bd.of (m := 64) (by decide))); decide))) | decide)); conv => whnf)))))
        exact q
      | true =>
        rw [ha] at q
        (((conv => whnf); (repeat' ((apply And.intro; (solve | (first | exact trivial | exact rfl | exact ownB_i rfl | (apply mulOk_bd; (solve | (repeat' first | assumption | exact Bd.zero | exact Bd.one | exact Bd.mone | apply Bd.mul | apply Bd.add | apply Bd.sub | apply Bd.neg | exact Bd.of (m := 64) (by decide))); (solve | (repeat' first | assumption | exact Bd.zero | exact Bd.one | exact Bd.mone | apply Bd.mul | apply Bd.add | apply Bd.sub | apply Bd.neg | exact Bd.of (m := 64) (by decide))); decide) | (refine okS_of ?_ rfl rfl; ((repeat' apply And.intro) <;> first | exact trivial | rfl | (show Bd _ _; apply Bd.up; (solve | (repeat' first | assumption | exact Bd.zero | exact Bd.one | exact Bd.mone | apply Bd.mul | apply Bd.add | apply Bd.sub | apply Bd.neg | exact Bd.of (m := 64) (by decide))); decide))) | (((repeat' apply And.intro) <;> first | exact trivial | assumption | (apply Bd.up; (solve | (repeat' first | assumption | exact Bd.zero | exact Bd.one | exact Bd.mone | apply Bd.mul | apply Bd.add | apply Bd.sub | apply Bd.neg | exact Bd.of (m := 64) (by decide))); decide))) | decide)); conv => whnf)))))
        have hI := ints_map ds fun x hx => (natB_int (List.all_eq_true.mp ha x hx)).1
        first | rw [show seqI? (.lst ds) = _ from hI] | rw [show seqI? (.tup ds) = _ from hI]
        (((conv => whnf); (repeat' ((apply And.intro; (solve | (first | exact trivial | exact rfl | exact ownB_i rfl | (apply mulOk_bd; (solve | (repeat' first | assumption | exact Bd.zero | exact Bd.one | exact Bd.mone | apply Bd.mul | apply Bd.add | apply Bd.sub | apply Bd.neg | exact Bd.of (m := 64) (by decide))); (solve | (repeat' first | assumption | exact Bd.zero | exact Bd.one | exact Bd.mone | apply Bd.mul | apply Bd.add | apply Bd.sub | apply Bd.neg | exact Bd.of (m := 64) (by decide))); decide) | (refine okS_of ?_ rfl rfl; ((repeat' apply And.intro) <;> first | exact trivial | rfl | (show Bd _ _; apply Bd.up; (solve | (repeat' first | assumption | exact Bd.zero | exact Bd.one | exact Bd.mone | apply Bd.mul | apply Bd.add | apply Bd.sub | apply Bd.neg | exact Bd.of (m := 64) (by decide))); decide))) | (((repeat' apply And.intro) <;> first | exact trivial | assumption | (apply Bd.up; (solve | (repeat' first | assumption | exact Bd.zero | exact Bd.one | exact Bd.mone | apply Bd.mul | apply Bd.add | apply Bd.sub | apply Bd.neg | exact Bd.of (m := 64) (by decide))); decide))) | decide)); conv => whnf)))))
        refine leN_i (by rw [List.length_map]; exact h5) ?_
        intro k hk hn
        rw [List.length_map] at hk hn
        (((conv => whnf); (repeat' ((apply And.intro; (solve | (first | exact trivial | exact rfl | exact ownB_i rfl | (apply mulOk_bd; (solve | (repeat' first | assumption | exact Bd.zero | exact Bd.one | exact Bd.mone | apply Bd.mul | apply Bd.add | apply Bd.sub | apply Bd.neg | exact Bd.of (m := 64) (by decide))); (solve | (repeat' first | assumption | exact Bd.zero | exact Bd.one | exact Bd.mone | apply Bd.mul | apply Bd.add | apply Bd.sub | apply Bd.neg | exact Bd.of (m := 64) (by decide))); decide) | (refine okS_of ?_ rfl rfl; ((repeat' apply And.intro) <;> first | exact trivial | rfl | (show Bd _ _; apply Bd.up; (solve | (repeat' first | assumption | exact Bd.zero | exact Bd.one | exact Bd.mone | apply Bd.mul | apply Bd.add | apply Bd.sub | apply Bd.neg | exact Bd.of (m := 64) (by decide))); decide))) | (((repeat' apply And.intro) <;> first | exact trivial | assumption | (apply Bd.up; (solve | (repeat' first | assumption | exact Bd.zero | exact Bd.one | exact Bd.mone | apply Bd.mul | apply Bd.add | apply Bd.sub | apply Bd.neg | exact Bd.of (m := 64) (by decide))); decide))) | decide)); conv => whnf)))))
        have e : decide ((k : Int) = (ds.length : Int)) = decide (ds.map toI).Nodup := decide_eq_decide.mpr (by rw [← hn]; omega)
        first | (rw [← e] at q; exact q) | ((((conv => whnf); (repeat' ((apply And.intro; (solve | (first | exact trivial | exact rfl | exact ownB_i rfl | (apply mulOk_bd; (solve | (repeat' first | assumption | exact Bd.zero | exact Bd.one | exact Bd.mone | apply Bd.mul | apply Bd.add | apply Bd.sub | apply Bd.neg | exact Bd.of (m := 64) (by decide))); (solve | (repeat' first | assumption | exact Bd.zero | exact Bd.one | exact Bd.mone | apply Bd.mul | apply Bd.add | apply Bd.sub | apply Bd.neg | exact Bd.of (m := 64) (by decide))); decide) | (refine okS_of ?_ rfl rfl; ((repeat' apply And.intro) <;> first | exact trivial | rfl | (show Bd _ _; apply Bd.up; (solve | (repeat' first | assumption | exact Bd.zero | exact Bd.one | exact Bd.mone | apply Bd.mul | apply Bd.add | apply Bd.sub | apply Bd.neg | exact Bd.of (m := 64) (by decide))); decide))) | (((repeat' apply And.intro) <;> first | exact trivial | assumption | (apply Bd.up; (solve | (repeat' first | assumption | exact Bd.zero | exact Bd.one | exact Bd.mone | apply Bd.mul | apply Bd.add | apply Bd.sub | apply Bd.neg | exact Bd.of (m := 64) (by decide))); decide))) | decide)); conv => whnf))))); rw [← e] at q; exact q))
/-! the law's own -/
def lseqAll : Nat := 0
theorem sp_lis_amount : ∀ ss R, amtF ss R → runF [isIntF] C b__law_is_amount p__law_is_amount.length N__law_is_amount.length ss R := by
  rintro ss R ⟨d, rfl, ok, q⟩
  refine runN_i _ C ⟨⟨rfl, by decide⟩, rfl⟩ ?_
  cases hs : seqL? d with
  | none =>
    have e : amtB d = false := by unfold amtB; rw [hs]
    rw [e] at q
    have ok1 := ok.ok
    cases d <;> first | (cases hs; done) | (cases ok1; done) | ((((conv => whnf); (repeat' ((apply And.intro; (solve | (first | exact trivial | exact rfl | exact ownB_i rfl | (apply mulOk_bd; (solve | (repeat' first | assumption | exact Bd.zero | exact Bd.one | exact Bd.mone | apply Bd.mul | apply Bd.add | apply Bd.sub | apply Bd.neg | exact Bd.of (m := 64) (by decide))); (solve | (repeat' first | assumption | exact Bd.zero | exact Bd.one | exact Bd.mone | apply Bd.mul | apply Bd.add | apply Bd.sub | apply Bd.neg | exact Bd.of (m := 64) (by decide))); decide) | (refine okS_of ?_ rfl rfl; ((repeat' apply And.intro) <;> first | exact trivial | rfl | (show Bd _ _; apply Bd.up; (solve | (repeat' first | assumption | exact Bd.zero | exact Bd.one | exact Bd.mone | apply Bd.mul | apply Bd.add | apply Bd.sub | apply Bd.neg | exact Bd.of (m := 64) (by decide))); decide))) | (((repeat' apply And.intro) <;> first | exact trivial | assumption | (apply Bd.up; (solve | (repeat' first | assumption | exact Bd.zero | exact Bd.one | exact Bd.mone | apply Bd.mul | apply Bd.add | apply Bd.sub | apply Bd.neg | exact Bd.of (m := 64) (by decide))); decide))) | decide)); conv => whnf))))); exact q)
  | some ds =>
    obtain ⟨hl, hx⟩ := ok.2 ds hs
    have e : amtB d = (decide (ds.length = 4) && ds.all numB) := by unfold amtB; rw [hs]
    have e2 : decide ((ds.length : Int) = 4) = decide (ds.length = 4) := decide_eq_decide.mpr (by omega)
    rw [e] at q
    rcases itm_cases hs with rfl | rfl <;> (
      (((conv => whnf); (repeat' ((apply And.intro; (solve | (first | exact trivial | exact rfl | exact ownB_i rfl | (apply mulOk_bd; (solve | (repeat' first | assumption | exact Bd.zero | exact Bd.one | exact Bd.mone | apply Bd.mul | apply Bd.add | apply Bd.sub | apply Bd.neg | exact Bd.of (m := 64) (by decide))); (solve | (repeat' first | assumption | exact Bd.zero | exact Bd.one | exact Bd.mone | apply Bd.mul | apply Bd.add | apply Bd.sub | apply Bd.neg | exact Bd.of (m := 64) (by decide))); decide) | (refine okS_of ?_ rfl rfl; ((repeat' apply And.intro) <;> first | exact trivial | rfl | (show Bd _ _; apply Bd.up; (solve | (repeat' first | assumption | exact Bd.zero | exact Bd.one | exact Bd.mone | apply Bd.mul | apply Bd.add | apply Bd.sub | apply Bd.neg | exact Bd.of (m := 64) (by decide))); decide))) | (((repeat' apply And.intro) <;> first | exact trivial | assumption | (apply Bd.up; (solve | (repeat' first | assumption | exact Bd.zero | exact Bd.one | exact Bd.mone | apply Bd.mul | apply Bd.add | apply Bd.sub | apply Bd.neg | exact Bd.of (m := 64) (by decide))); decide))) | decide)); conv => whnf)))))
      rw [e2]
      cases hd : decide (ds.length = 4) with
      | false =>
        rw [hd] at q
        (((conv => whnf); (repeat' ((apply And.intro; (solve | (first | exact trivial | exact rfl | exact ownB_i rfl | (apply mulOk_bd; (solve | (repeat' first | assumption | exact Bd.zero | exact Bd.one | exact Bd.mone | apply Bd.mul | apply Bd.add | apply Bd.sub | apply Bd.neg | exact Bd.of (m := 64) (by decide))); (solve | (repeat' first | assumption | exact Bd.zero | exact Bd.one | exact Bd.mone | apply Bd.mul | apply Bd.add | apply Bd.sub | apply Bd.neg | exact Bd.of (m := 64) (by decide))); decide) | (refine okS_of ?_ rfl rfl; ((repeat' apply And.intro) <;> first | exact trivial | rfl | (show Bd _ _; apply Bd.up; (solve | (repeat' first | assumption | exact Bd.zero | exact Bd.one | exact Bd.mone | apply Bd.mul | apply Bd.add | apply Bd.sub | apply Bd.neg | exact Bd.of (m := 64) (by decide))); decide))) | (((repeat' apply And.intro) <;> first | exact trivial | assumption | (apply Bd.up; (solve | (repeat' first | assumption | exact Bd.zero | exact Bd.one | exact Bd.mone | apply Bd.mul | apply Bd.add | apply Bd.sub | apply Bd.neg | exact Bd.of (m := 64) (by decide))); decide))) | decide)); conv => whnf)))))
        exact q
      | true =>
        rw [hd] at q
        (((conv => whnf); (repeat' ((apply And.intro; (solve | (first | exact trivial | exact rfl | exact ownB_i rfl | (apply mulOk_bd; (solve | (repeat' first | assumption | exact Bd.zero | exact Bd.one | exact Bd.mone | apply Bd.mul | apply Bd.add | apply Bd.sub | apply Bd.neg | exact Bd.of (m := 64) (by decide))); (solve | (repeat' first | assumption | exact Bd.zero | exact Bd.one | exact Bd.mone | apply Bd.mul | apply Bd.add | apply Bd.sub | apply Bd.neg | exact Bd.of (m := 64) (by decide))); decide) | (refine okS_of ?_ rfl rfl; ((repeat' apply And.intro) <;> first | exact trivial | rfl | (show Bd _ _; apply Bd.up; (solve | (repeat' first | assumption | exact Bd.zero | exact Bd.one | exact Bd.mone | apply Bd.mul | apply Bd.add | apply Bd.sub | apply Bd.neg | exact Bd.of (m := 64) (by decide))); decide))) | (((repeat' apply And.intro) <;> first | exact trivial | assumption | (apply Bd.up; (solve | (repeat' first | assumption | exact Bd.zero | exact Bd.one | exact Bd.mone | apply Bd.mul | apply Bd.add | apply Bd.sub | apply Bd.neg | exact Bd.of (m := 64) (by decide))); decide))) | decide)); conv => whnf)))))
        refine compN_fltG (fun d => !numB d) id hl ?_ ?_
        · intro d A B hd hA hB
          (((conv => whnf); (repeat' ((apply And.intro; (solve | (first | exact trivial | exact rfl | exact ownB_i rfl | (apply mulOk_bd; (solve | (repeat' first | assumption | exact Bd.zero | exact Bd.one | exact Bd.mone | apply Bd.mul | apply Bd.add | apply Bd.sub | apply Bd.neg | exact Bd.of (m := 64) (by decide))); (solve | (repeat' first | assumption | exact Bd.zero | exact Bd.one | exact Bd.mone | apply Bd.mul | apply Bd.add | apply Bd.sub | apply Bd.neg | exact Bd.of (m := 64) (by decide))); decide) | (refine okS_of ?_ rfl rfl; ((repeat' apply And.intro) <;> first | exact trivial | rfl | (show Bd _ _; apply Bd.up; (solve | (repeat' first | assumption | exact Bd.zero | exact Bd.one | exact Bd.mone | apply Bd.mul | apply Bd.add | apply Bd.sub | apply Bd.neg | exact Bd.of (m := 64) (by decide))); decide))) | (((repeat' apply And.intro) <;> first | exact trivial | assumption | (apply Bd.up; (solve | (repeat' first | assumption | exact Bd.zero | exact Bd.one | exact Bd.mone | apply Bd.mul | apply Bd.add | apply Bd.sub | apply Bd.neg | exact Bd.of (m := 64) (by decide))); decide))) | decide)); conv => whnf)))))
          refine ⟨d, rfl, (hx d hd).ok, ?_⟩
          (((conv => whnf); (repeat' ((apply And.intro; (solve | (first | exact trivial | exact rfl | exact ownB_i rfl | (apply mulOk_bd; (solve | (repeat' first | assumption | exact Bd.zero | exact Bd.one | exact Bd.mone | apply Bd.mul | apply Bd.add | apply Bd.sub | apply Bd.neg | exact Bd.of (m := 64) (by decide))); (solve | (repeat' first | assumption | exact Bd.zero | exact Bd.one | exact Bd.mone | apply Bd.mul | apply Bd.add | apply Bd.sub | apply Bd.neg | exact Bd.of (m := 64) (by decide))); decide) | (refine okS_of ?_ rfl rfl; ((repeat' apply And.intro) <;> first | exact trivial | rfl | (show Bd _ _; apply Bd.up; (solve | (repeat' first | assumption | exact Bd.zero | exact Bd.one | exact Bd.mone | apply Bd.mul | apply Bd.add | apply Bd.sub | apply Bd.neg | exact Bd.of (m := 64) (by decide))); decide))) | (((repeat' apply And.intro) <;> first | exact trivial | assumption | (apply Bd.up; (solve | (repeat' first | assumption | exact Bd.zero | exact Bd.one | exact Bd.mone | apply Bd.mul | apply Bd.add | apply Bd.sub | apply Bd.neg | exact Bd.of (m := 64) (by decide))); decide))) | decide)); conv => whnf)))))
          cases hn : numB d with
          | true =>
            (((conv => whnf); (repeat' ((apply And.intro; (solve | (first | exact trivial | exact rfl | exact ownB_i rfl | (apply mulOk_bd; (solve | (repeat' first | assumption | exact Bd.zero | exact Bd.one | exact Bd.mone | apply Bd.mul | apply Bd.add | apply Bd.sub | apply Bd.neg | exact Bd.of (m := 64) (by decide))); (solve | (repeat' first | assumption | exact Bd.zero | exact Bd.one | exact Bd.mone | apply Bd.mul | apply Bd.add | apply Bd.sub | apply Bd.neg | exact Bd.of (m := 64) (by decide))); decide) | (refine okS_of ?_ rfl rfl; ((repeat' apply And.intro) <;> first | exact trivial | rfl | (show Bd _ _; apply Bd.up; (solve | (repeat' first | assumption | exact Bd.zero | exact Bd.one | exact Bd.mone | apply Bd.mul | apply Bd.add | apply Bd.sub | apply Bd.neg | exact Bd.of (m := 64) (by decide))); decide))) | (((repeat' apply And.intro) <;> first | exact trivial | assumption | (apply Bd.up; (solve | (repeat' first | assumption | exact Bd.zero | exact Bd.one | exact Bd.mone | apply Bd.mul | apply Bd.add | apply Bd.sub | apply Bd.neg | exact Bd.of (m := 64) (by decide))); decide))) | decide)); conv => whnf)))))
            exact hB (by rw [hn]; rfl) _ rfl trivial
          | false =>
            (((conv => whnf); (repeat' ((apply And.intro; (solve | (first | exact trivial | exact rfl | exact ownB_i rfl | (apply mulOk_bd; (solve | (repeat' first | assumption | exact Bd.zero | exact Bd.one | exact Bd.mone | apply Bd.mul | apply Bd.add | apply Bd.sub | apply Bd.neg | exact Bd.of (m := 64) (by decide))); (solve | (repeat' first | assumption | exact Bd.zero | exact Bd.one | exact Bd.mone | apply Bd.mul | apply Bd.add | apply Bd.sub | apply Bd.neg | exact Bd.of (m := 64) (by decide))); decide) | (refine okS_of ?_ rfl rfl; ((repeat' apply And.intro) <;> first | exact trivial | rfl | (show Bd _ _; apply Bd.up; (solve | (repeat' first | assumption | exact Bd.zero | exact Bd.one | exact Bd.mone | apply Bd.mul | apply Bd.add | apply Bd.sub | apply Bd.neg | exact Bd.of (m := 64) (by decide))); decide))) | (((repeat' apply And.intro) <;> first | exact trivial | assumption | (apply Bd.up; (solve | (repeat' first | assumption | exact Bd.zero | exact Bd.one | exact Bd.mone | apply Bd.mul | apply Bd.add | apply Bd.sub | apply Bd.neg | exact Bd.of (m := 64) (by decide))); decide))) | decide)); conv => whnf)))))
            exact hA (by rw [hn]; rfl) _ rfl trivial
        (((conv => whnf); (repeat' ((apply And.intro; (solve | (first | exact trivial | exact rfl | exact ownB_i rfl | (apply mulOk_bd; (solve | (repeat' first | assumption | exact Bd.zero | exact Bd.one | exact Bd.mone | apply Bd.mul | apply Bd.add | apply Bd.sub | apply Bd.neg | exact Bd.of (m := 64) (by decide))); (solve | (repeat' first | assumption | exact Bd.zero | exact Bd.one | exact Bd.mone | apply Bd.mul | apply Bd.add | apply Bd.sub | apply Bd.neg | exact Bd.of (m := 64) (by decide))); decide) | (refine okS_of ?_ rfl rfl; ((repeat' apply And.intro) <;> first | exact trivial | rfl | (show Bd _ _; apply Bd.up; (solve | (repeat' first | assumption | exact Bd.zero | exact Bd.one | exact Bd.mone | apply Bd.mul | apply Bd.add | apply Bd.sub | apply Bd.neg | exact Bd.of (m := 64) (by decide))); decide))) | (((repeat' apply And.intro) <;> first | exact trivial | assumption | (apply Bd.up; (solve | (repeat' first | assumption | exact Bd.zero | exact Bd.one | exact Bd.mone | apply Bd.mul | apply Bd.add | apply Bd.sub | apply Bd.neg | exact Bd.of (m := 64) (by decide))); decide))) | decide)); conv => whnf)))))
        rw [List.map_id, flt_empty]
        have e3 : (ds.all numB != false) = ds.all numB := by cases ds.all numB <;> rfl
        rw [e3]
        exact q)
theorem br_cv {k k' : Bool} {A B : Prop} (h : k = k') (q : br k' A B) : br k A B := by rw [h]; exact q
theorem four_of {a : D} {xs : List D} (h : amtB a = true) (hs : seqL? a = some xs) : ∃ i j k l, xs = [.int i, .int j, .int k, .int l] := by
  obtain ⟨ys, e1, e2, e3⟩ := amt_of h
  rw [hs] at e1
  cases e1
  match xs, e2, e3 with
  | [x, y, z, w], _, e3 => exact ⟨toI x, toI y, toI z, toI w, by rw [← e3 x (by simp), ← e3 y (by simp), ← e3 z (by simp), ← e3 w (by simp)]⟩
theorem eq0_any (i j k l : Int) : (!eqQ (.tup [.int i, .int j, .int k, .int l]) (.tup [.int 0, .int 0, .int 0, .int 0])) = [D.int i, .int j, .int k, .int l].any nzB := by
  rw [eqQ_eq]
  simp [eqD, D.py, D.pys, PyData.eqv, PyData.eqvAll, nzB, toI, bne, Bool.not_and]
theorem sp_lis_spread : ∀ ss R, sprF ss R → runF [amtF] C b__law_is_spread p__law_is_spread.length N__law_is_spread.length ss R := by
  rintro ss R ⟨d, rfl, ok, q⟩
  refine runN_i _ _ ⟨⟨rfl, by decide⟩, rfl⟩ ?_
  cases hs : seqL? d with
  | none =>
    have e : sprB d = false := by unfold sprB; rw [hs]
    rw [e] at q
    have ok1 := ok.ok
    cases d <;> first | (cases hs; done) | (cases ok1; done) | ((((conv => whnf); (repeat' ((apply And.intro; (solve | (first | exact trivial | exact rfl | exact ownB_i rfl | (apply mulOk_bd; (solve | (repeat' first | assumption | exact Bd.zero | exact Bd.one | exact Bd.mone | apply Bd.mul | apply Bd.add | apply Bd.sub | apply Bd.neg | exact Bd.of (m := 64) (by decide))); (solve | (repeat' first | assumption | exact Bd.zero | exact Bd.one | exact Bd.mone | apply Bd.mul | apply Bd.add | apply Bd.sub | apply Bd.neg | exact Bd.of (m := 64) (by decide))); decide) | (refine okS_of ?_ rfl rfl; ((repeat' apply And.intro) <;> first | exact trivial | rfl | (show Bd _ _; apply Bd.up; (solve | (repeat' first | assumption | exact Bd.zero | exact Bd.one | exact Bd.mone | apply Bd.mul | apply Bd.add | apply Bd.sub | apply Bd.neg | exact Bd.of (m := 64) (by decide))); decide))) | (((repeat' apply And.intro) <;> first | exact trivial | assumption | (apply Bd.up; (solve | (repeat' first | assumption | exact Bd.zero | exact Bd.one | exact Bd.mone | apply Bd.mul | apply Bd.add | apply Bd.sub | apply Bd.neg | exact Bd.of (m := 64) (by decide))); decide))) | decide)); conv => whnf))))); exact q)
  | some ds =>
    obtain ⟨hl, hx⟩ := ok.2 ds hs
    have e : sprB d = (decide (ds.length ∈ sizesL) && (ds.all amtB && ds.any fun a => (itmL a).any nzB)) := by unfold sprB; rw [hs]
    rw [e] at q
    rcases itm_cases hs with rfl | rfl <;> (
      (((conv => whnf); (repeat' ((apply And.intro; (solve | (first | exact trivial | exact rfl | exact ownB_i rfl | (apply mulOk_bd; (solve | (repeat' first | assumption | exact Bd.zero | exact Bd.one | exact Bd.mone | apply Bd.mul | apply Bd.add | apply Bd.sub | apply Bd.neg | exact Bd.of (m := 64) (by decide))); (solve | (repeat' first | assumption | exact Bd.zero | exact Bd.one | exact Bd.mone | apply Bd.mul | apply Bd.add | apply Bd.sub | apply Bd.neg | exact Bd.of (m := 64) (by decide))); decide) | (refine okS_of ?_ rfl rfl; ((repeat' apply And.intro) <;> first | exact trivial | rfl | (show Bd _ _; apply Bd.up; (solve | (repeat' first | assumption | exact Bd.zero | exact Bd.one | exact Bd.mone | apply Bd.mul | apply Bd.add | apply Bd.sub | apply Bd.neg | exact Bd.of (m := 64) (by decide))); decide))) | (((repeat' apply And.intro) <;> first | exact trivial | assumption | (apply Bd.up; (solve | (repeat' first | assumption | exact Bd.zero | exact Bd.one | exact Bd.mone | apply Bd.mul | apply Bd.add | apply Bd.sub | apply Bd.neg | exact Bd.of (m := 64) (by decide))); decide))) | decide)); conv => whnf)))))
      refine br_cv (k' := !decide (ds.length ∈ sizesL)) ?_ ?_
      · unfold sizesL
        rw [Bool.eq_iff_iff]
        simp [eqD, D.py, PyData.eqv]
        omega
      cases hd : decide (ds.length ∈ sizesL) with
      | false =>
        rw [hd] at q
        (((conv => whnf); (repeat' ((apply And.intro; (solve | (first | exact trivial | exact rfl | exact ownB_i rfl | (apply mulOk_bd; (solve | (repeat' first | assumption | exact Bd.zero | exact Bd.one | exact Bd.mone | apply Bd.mul | apply Bd.add | apply Bd.sub | apply Bd.neg | exact Bd.of (m := 64) (by decide))); (solve | (repeat' first | assumption | exact Bd.zero | exact Bd.one | exact Bd.mone | apply Bd.mul | apply Bd.add | apply Bd.sub | apply Bd.neg | exact Bd.of (m := 64) (by decide))); decide) | (refine okS_of ?_ rfl rfl; ((repeat' apply And.intro) <;> first | exact trivial | rfl | (show Bd _ _; apply Bd.up; (solve | (repeat' first | assumption | exact Bd.zero | exact Bd.one | exact Bd.mone | apply Bd.mul | apply Bd.add | apply Bd.sub | apply Bd.neg | exact Bd.of (m := 64) (by decide))); decide))) | (((repeat' apply And.intro) <;> first | exact trivial | assumption | (apply Bd.up; (solve | (repeat' first | assumption | exact Bd.zero | exact Bd.one | exact Bd.mone | apply Bd.mul | apply Bd.add | apply Bd.sub | apply Bd.neg | exact Bd.of (m := 64) (by decide))); decide))) | decide)); conv => whnf)))))
        exact q
      | true =>
        rw [hd] at q
        (((conv => whnf); (repeat' ((apply And.intro; (solve | (first | exact trivial | exact rfl | exact ownB_i rfl | (apply mulOk_bd; (solve | (repeat' first | assumption | exact Bd.zero | exact Bd.one | exact Bd.mone | apply Bd.mul | apply Bd.add | apply Bd.sub | apply Bd.neg | exact Bd.of (m := 64) (by decide))); (solve | (repeat' first | assumption | exact Bd.zero | exact Bd.one | exact Bd.mone | apply Bd.mul | apply Bd.add | apply Bd.sub | apply Bd.neg | exact Bd.of (m := 64) (by decide))); decide) | (refine okS_of ?_ rfl rfl; ((repeat' apply And.intro) <;> first | exact trivial | rfl | (show Bd _ _; apply Bd.up; (solve | (repeat' first | assumption | exact Bd.zero | exact Bd.one | exact Bd.mone | apply Bd.mul | apply Bd.add | apply Bd.sub | apply Bd.neg | exact Bd.of (m := 64) (by decide))); decide))) | (((repeat' apply And.intro) <;> first | exact trivial | assumption | (apply Bd.up; (solve | (repeat' first | assumption | exact Bd.zero | exact Bd.one | exact Bd.mone | apply Bd.mul | apply Bd.add | apply Bd.sub | apply Bd.neg | exact Bd.of (m := 64) (by decide))); decide))) | decide)); conv => whnf)))))
        refine compN_fltG (fun d => !amtB d) id hl ?_ ?_
        · intro d A B hd hA hB
          (((conv => whnf); (repeat' ((apply And.intro; (solve | (first | exact trivial | exact rfl | exact ownB_i rfl | (apply mulOk_bd; (solve | (repeat' first | assumption | exact Bd.zero | exact Bd.one | exact Bd.mone | apply Bd.mul | apply Bd.add | apply Bd.sub | apply Bd.neg | exact Bd.of (m := 64) (by decide))); (solve | (repeat' first | assumption | exact Bd.zero | exact Bd.one | exact Bd.mone | apply Bd.mul | apply Bd.add | apply Bd.sub | apply Bd.neg | exact Bd.of (m := 64) (by decide))); decide) | (refine okS_of ?_ rfl rfl; ((repeat' apply And.intro) <;> first | exact trivial | rfl | (show Bd _ _; apply Bd.up; (solve | (repeat' first | assumption | exact Bd.zero | exact Bd.one | exact Bd.mone | apply Bd.mul | apply Bd.add | apply Bd.sub | apply Bd.neg | exact Bd.of (m := 64) (by decide))); decide))) | (((repeat' apply And.intro) <;> first | exact trivial | assumption | (apply Bd.up; (solve | (repeat' first | assumption | exact Bd.zero | exact Bd.one | exact Bd.mone | apply Bd.mul | apply Bd.add | apply Bd.sub | apply Bd.neg | exact Bd.of (m := 64) (by decide))); decide))) | decide)); conv => whnf)))))
          refine ⟨d, rfl, hx d hd, ?_⟩
          (((conv => whnf); (repeat' ((apply And.intro; (solve | (first | exact trivial | exact rfl | exact ownB_i rfl | (apply mulOk_bd; (solve | (repeat' first | assumption | exact Bd.zero | exact Bd.one | exact Bd.mone | apply Bd.mul | apply Bd.add | apply Bd.sub | apply Bd.neg | exact Bd.of (m := 64) (by decide))); (solve | (repeat' first | assumption | exact Bd.zero | exact Bd.one | exact Bd.mone | apply Bd.mul | apply Bd.add | apply Bd.sub | apply Bd.neg | exact Bd.of (m := 64) (by decide))); decide) | (refine okS_of ?_ rfl rfl; ((repeat' apply And.intro) <;> first | exact trivial | rfl | (show Bd _ _; apply Bd.up; (solve | (repeat' first | assumption | exact Bd.zero | exact Bd.one | exact Bd.mone | apply Bd.mul | apply Bd.add | apply Bd.sub | apply Bd.neg | exact Bd.of (m := 64) (by decide))); decide))) | (((repeat' apply And.intro) <;> first | exact trivial | assumption | (apply Bd.up; (solve | (repeat' first | assumption | exact Bd.zero | exact Bd.one | exact Bd.mone | apply Bd.mul | apply Bd.add | apply Bd.sub | apply Bd.neg | exact Bd.of (m := 64) (by decide))); decide))) | decide)); conv => whnf)))))
          cases hn : amtB d with
          | true =>
            (((conv => whnf); (repeat' ((apply And.intro; (solve | (first | exact trivial | exact rfl | exact ownB_i rfl | (apply mulOk_bd; (solve | (repeat' first | assumption | exact Bd.zero | exact Bd.one | exact Bd.mone | apply Bd.mul | apply Bd.add | apply Bd.sub | apply Bd.neg | exact Bd.of (m := 64) (by decide))); (solve | (repeat' first | assumption | exact Bd.zero | exact Bd.one | exact Bd.mone | apply Bd.mul | apply Bd.add | apply Bd.sub | apply Bd.neg | exact Bd.of (m := 64) (by decide))); decide) | (refine okS_of ?_ rfl rfl; ((repeat' apply And.intro) <;> first | exact trivial | rfl | (show Bd _ _; apply Bd.up; (solve | (repeat' first | assumption | exact Bd.zero | exact Bd.one | exact Bd.mone | apply Bd.mul | apply Bd.add | apply Bd.sub | apply Bd.neg | exact Bd.of (m := 64) (by decide))); decide))) | (((repeat' apply And.intro) <;> first | exact trivial | assumption | (apply Bd.up; (solve | (repeat' first | assumption | exact Bd.zero | exact Bd.one | exact Bd.mone | apply Bd.mul | apply Bd.add | apply Bd.sub | apply Bd.neg | exact Bd.of (m := 64) (by decide))); decide))) | decide)); conv => whnf)))))
            exact hB (by rw [hn]; rfl) _ rfl trivial
          | false =>
            (((conv => whnf); (repeat' ((apply And.intro; (solve | (first | exact trivial | exact rfl | exact ownB_i rfl | (apply mulOk_bd; (solve | (repeat' first | assumption | exact Bd.zero | exact Bd.one | exact Bd.mone | apply Bd.mul | apply Bd.add | apply Bd.sub | apply Bd.neg | exact Bd.of (m := 64) (by decide))); (solve | (repeat' first | assumption | exact Bd.zero | exact Bd.one | exact Bd.mone | apply Bd.mul | apply Bd.add | apply Bd.sub | apply Bd.neg | exact Bd.of (m := 64) (by decide))); decide) | (refine okS_of ?_ rfl rfl; ((repeat' apply And.intro) <;> first | exact trivial | rfl | (show Bd _ _; apply Bd.up; (solve | (repeat' first | assumption | exact Bd.zero | exact Bd.one | exact Bd.mone | apply Bd.mul | apply Bd.add | apply Bd.sub | apply Bd.neg | exact Bd.of (m := 64) (by decide))); decide))) | (((repeat' apply And.intro) <;> first | exact trivial | assumption | (apply Bd.up; (solve | (repeat' first | assumption | exact Bd.zero | exact Bd.one | exact Bd.mone | apply Bd.mul | apply Bd.add | apply Bd.sub | apply Bd.neg | exact Bd.of (m := 64) (by decide))); decide))) | decide)); conv => whnf)))))
            exact hA (by rw [hn]; rfl) _ rfl trivial
        (((conv => whnf); (repeat' ((apply And.intro; (solve | (first | exact trivial | exact rfl | exact ownB_i rfl | (apply mulOk_bd; (solve | (repeat' first | assumption | exact Bd.zero | exact Bd.one | exact Bd.mone | apply Bd.mul | apply Bd.add | apply Bd.sub | apply Bd.neg | exact Bd.of (m := 64) (by decide))); (solve | (repeat' first | assumption | exact Bd.zero | exact Bd.one | exact Bd.mone | apply Bd.mul | apply Bd.add | apply Bd.sub | apply Bd.neg | exact Bd.of (m := 64) (by decide))); decide) | (refine okS_of ?_ rfl rfl; ((repeat' apply And.intro) <;> first | exact trivial | rfl | (show Bd _ _; apply Bd.up; (solve | (repeat' first | assumption | exact Bd.zero | exact Bd.one | exact Bd.mone | apply Bd.mul | apply Bd.add | apply Bd.sub | apply Bd.neg | exact Bd.of (m := 64) (by decide))); decide))) | (((repeat' apply And.intro) <;> first | exact trivial | assumption | (apply Bd.up; (solve | (repeat' first | assumption | exact Bd.zero | exact Bd.one | exact Bd.mone | apply Bd.mul | apply Bd.add | apply Bd.sub | apply Bd.neg | exact Bd.of (m := 64) (by decide))); decide))) | decide)); conv => whnf)))))
        rw [List.map_id, flt_empty]
        cases ha : ds.all amtB with
        | false =>
          rw [ha] at q
          (((conv => whnf); (repeat' ((apply And.intro; (solve | (first | exact trivial | exact rfl | exact ownB_i rfl | (apply mulOk_bd; (solve | (repeat' first | assumption | exact Bd.zero | exact Bd.one | exact Bd.mone | apply Bd.mul | apply Bd.add | apply Bd.sub | apply Bd.neg | exact Bd.of (m := 64) (by decide))); (solve | (repeat' first | assumption | exact Bd.zero | exact Bd.one | exact Bd.mone | apply Bd.mul | apply Bd.add | apply Bd.sub | apply Bd.neg | exact Bd.of (m := 64) (by decide))); decide) | (refine okS_of ?_ rfl rfl; ((repeat' apply And.intro) <;> first | exact trivial | rfl | (show Bd _ _; apply Bd.up; (solve | (repeat' first | assumption | exact Bd.zero | exact Bd.one | exact Bd.mone | apply Bd.mul | apply Bd.add | apply Bd.sub | apply Bd.neg | exact Bd.of (m := 64) (by decide))); decide))) | (((repeat' apply And.intro) <;> first | exact trivial | assumption | (apply Bd.up; (solve | (repeat' first | assumption | exact Bd.zero | exact Bd.one | exact Bd.mone | apply Bd.mul | apply Bd.add | apply Bd.sub | apply Bd.neg | exact Bd.of (m := 64) (by decide))); decide))) | decide)); conv => whnf)))))
          exact q
        | true =>
          rw [ha] at q
          (((conv => whnf); (repeat' ((apply And.intro; (solve | (first | exact trivial | exact rfl | exact ownB_i rfl | (apply mulOk_bd; (solve | (repeat' first | assumption | exact Bd.zero | exact Bd.one | exact Bd.mone | apply Bd.mul | apply Bd.add | apply Bd.sub | apply Bd.neg | exact Bd.of (m := 64) (by decide))); (solve | (repeat' first | assumption | exact Bd.zero | exact Bd.one | exact Bd.mone | apply Bd.mul | apply Bd.add | apply Bd.sub | apply Bd.neg | exact Bd.of (m := 64) (by decide))); decide) | (refine okS_of ?_ rfl rfl; ((repeat' apply And.intro) <;> first | exact trivial | rfl | (show Bd _ _; apply Bd.up; (solve | (repeat' first | assumption | exact Bd.zero | exact Bd.one | exact Bd.mone | apply Bd.mul | apply Bd.add | apply Bd.sub | apply Bd.neg | exact Bd.of (m := 64) (by decide))); decide))) | (((repeat' apply And.intro) <;> first | exact trivial | assumption | (apply Bd.up; (solve | (repeat' first | assumption | exact Bd.zero | exact Bd.one | exact Bd.mone | apply Bd.mul | apply Bd.add | apply Bd.sub | apply Bd.neg | exact Bd.of (m := 64) (by decide))); decide))) | decide)); conv => whnf)))))
          refine compN_fltG (fun a => (itmL a).any nzB) id hl ?_ ?_
          · intro a A B hd hA hB
            obtain ⟨xs, e1, _, _⟩ := amt_of (List.all_eq_true.mp ha a hd)
            obtain ⟨i, j, k, l, rfl⟩ := four_of (List.all_eq_true.mp ha a hd) e1
            have e4 := eq0_any i j k l
            have e5 : itmL a = [.int i, .int j, .int k, .int l] := by unfold itmL; rw [e1]; rfl
            rw [e5, ← e4] at hA hB
            rcases itm_cases e1 with rfl | rfl <;> (
              (((conv => whnf); (repeat' ((apply And.intro; (solve | (first | exact trivial | exact rfl | exact ownB_i rfl | (apply mulOk_bd; (solve | (repeat' first | assumption | exact Bd.zero | exact Bd.one | exact Bd.mone | apply Bd.mul | apply Bd.add | apply Bd.sub | apply Bd.neg | exact Bd.of (m := 64) (by decide))); (solve | (repeat' first | assumption | exact Bd.zero | exact Bd.one | exact Bd.mone | apply Bd.mul | apply Bd.add | apply Bd.sub | apply Bd.neg | exact Bd.of (m := 64) (by decide))); decide) | (refine okS_of ?_ rfl rfl; ((repeat' apply And.intro) <;> first | exact trivial | rfl | (show Bd _ _; apply Bd.up; (solve | (repeat' first | assumption | exact Bd.zero | exact Bd.one | exact Bd.mone | apply Bd.mul | apply Bd.add | apply Bd.sub | apply Bd.neg | exact Bd.of (m := 64) (by decide))); decide))) | (((repeat' apply And.intro) <;> first | exact trivial | assumption | (apply Bd.up; (solve | (repeat' first | assumption | exact Bd.zero | exact Bd.one | exact Bd.mone | apply Bd.mul | apply Bd.add | apply Bd.sub | apply Bd.neg | exact Bd.of (m := 64) (by decide))); decide))) | decide)); conv => whnf)))))
              cases hb : (!eqQ (.tup [.int i, .int j, .int k, .int l]) (.tup [.int 0, .int 0, .int 0, .int 0])) with
              | true =>
                (((conv => whnf); (repeat' ((apply And.intro; (solve | (first | exact trivial | exact rfl | exact ownB_i rfl | (apply mulOk_bd; (solve | (repeat' first | assumption | exact Bd.zero | exact Bd.one | exact Bd.mone | apply Bd.mul | apply Bd.add | apply Bd.sub | apply Bd.neg | exact Bd.of (m := 64) (by decide))); (solve | (repeat' first | assumption | exact Bd.zero | exact Bd.one | exact Bd.mone | apply Bd.mul | apply Bd.add | apply Bd.sub | apply Bd.neg | exact Bd.of (m := 64) (by decide))); decide) | (refine okS_of ?_ rfl rfl; ((repeat' apply And.intro) <;> first | exact trivial | rfl | (show Bd _ _; apply Bd.up; (solve | (repeat' first | assumption | exact Bd.zero | exact Bd.one | exact Bd.mone | apply Bd.mul | apply Bd.add | apply Bd.sub | apply Bd.neg | exact Bd.of (m := 64) (by decide))); decide))) | (((repeat' apply And.intro) <;> first | exact trivial | assumption | (apply Bd.up; (solve | (repeat' first | assumption | exact Bd.zero | exact Bd.one | exact Bd.mone | apply Bd.mul | apply Bd.add | apply Bd.sub | apply Bd.neg | exact Bd.of (m := 64) (by decide))); decide))) | decide)); conv => whnf)))))
                exact hA hb _ rfl trivial
              | false =>
                (((conv => whnf); (repeat' ((apply And.intro; (solve | (first | exact trivial | exact rfl | exact ownB_i rfl | (apply mulOk_bd; (solve | (repeat' first | assumption | exact Bd.zero | exact Bd.one | exact Bd.mone | apply Bd.mul | apply Bd.add | apply Bd.sub | apply Bd.neg | exact Bd.of (m := 64) (by decide))); (solve | (repeat' first | assumption | exact Bd.zero | exact Bd.one | exact Bd.mone | apply Bd.mul | apply Bd.add | apply Bd.sub | apply Bd.neg | exact Bd.of (m := 64) (by decide))); decide) | (refine okS_of ?_ rfl rfl; ((repeat' apply And.intro) <;> first | exact trivial | rfl | (show Bd _ _; apply Bd.up; (solve | (repeat' first | assumption | exact Bd.zero | exact Bd.one | exact Bd.mone | apply Bd.mul | apply Bd.add | apply Bd.sub | apply Bd.neg | exact Bd.of (m := 64) (by decide))); decide))) | (((repeat' apply And.intro) <;> first | exact trivial | assumption | (apply Bd.up; (solve | (repeat' first | assumption | exact Bd.zero | exact Bd.one | exact Bd.mone | apply Bd.mul | apply Bd.add | apply Bd.sub | apply Bd.neg | exact Bd.of (m := 64) (by decide))); decide))) | decide)); conv => whnf)))))
                exact hB hb _ rfl trivial)
          (((conv => whnf); (repeat' ((apply And.intro; (solve | (first | exact trivial | exact rfl | exact ownB_i rfl | (apply mulOk_bd; (solve | (repeat' first | assumption | exact Bd.zero | exact Bd.one | exact Bd.mone | apply Bd.mul | apply Bd.add | apply Bd.sub | apply Bd.neg | exact Bd.of (m := 64) (by decide))); (solve | (repeat' first | assumption | exact Bd.zero | exact Bd.one | exact Bd.mone | apply Bd.mul | apply Bd.add | apply Bd.sub | apply Bd.neg | exact Bd.of (m := 64) (by decide))); decide) | (refine okS_of ?_ rfl rfl; ((repeat' apply And.intro) <;> first | exact trivial | rfl | (show Bd _ _; apply Bd.up; (solve | (repeat' first | assumption | exact Bd.zero | exact Bd.one | exact Bd.mone | apply Bd.mul | apply Bd.add | apply Bd.sub | apply Bd.neg | exact Bd.of (m := 64) (by decide))); decide))) | (((repeat' apply And.intro) <;> first | exact trivial | assumption | (apply Bd.up; (solve | (repeat' first | assumption | exact Bd.zero | exact Bd.one | exact Bd.mone | apply Bd.mul | apply Bd.add | apply Bd.sub | apply Bd.neg | exact Bd.of (m := 64) (by decide))); decide))) | decide)); conv => whnf)))))
          have e3 : (((ds.filter fun a => (itmL a).any nzB).map id).isEmpty != true) = ds.any fun a => (itmL a).any nzB := by
            rw [List.map_id, flt_any]
          rw [e3]
          exact q)
theorem lt0_nat {d : D} (h : numB d = true) : (decide (toI d < 0)) = !natB d := by
  rw [numB_int h]
  show decide (toI d < 0) = !(decide ((0 : Int) ≤ toI d) && true)
  rw [Bool.and_true, ← decide_not]
  exact decide_eq_decide.mpr (by omega)
theorem natB_ff {d : D} (h : numB d = false) : natB d = false := by
  cases d <;> first | rfl | cases h
theorem cut_take (ds : List D) (i : Nat) : cutD ds none (some (i : Int)) = ds.take i := by
  unfold cutD
  rw [HT.sIx_none, HT.sIx_nat, List.drop_zero, Nat.sub_zero]
  by_cases h : i ≤ ds.length
  · rw [Nat.min_eq_left h]
  · rw [Nat.min_eq_right (by omega), List.take_length, List.take_of_length_le (by omega)]
theorem any_ints (n : Int) (ns : List Int) : ((ns.map D.int).any fun e => eqD e (.int n)) = decide (n ∈ ns) := by
  rw [Bool.eq_iff_iff, List.any_map, List.any_eq_true, decide_eq_true_eq]
  constructor
  · rintro ⟨x, hx, h⟩
    have h : eqD (.int x) (.int n) = true := h
    rw [eqD_i] at h
    have : x = n := by simpa using h
    exact this ▸ hx
  · intro h
    refine ⟨n, h, ?_⟩
    show eqD (.int n) (.int n) = true
    rw [eqD_i]
    simp
theorem vDs_ints : ∀ ns : List Int, vDs (ns.map .int) = some (ns.map .int)
  | [] => rfl
  | n :: ns => by
    rw [List.map_cons, List.map_cons]
    show (match vD (.int n), vDs (ns.map .int) with
      | some v, some vs => some (v :: vs)
      | _, _ => none) = _
    rw [vDs_ints ns]
    rfl
theorem inV_ints (n : Int) (ns : List Int) : inV (.int n) (ns.map .int) = decide (n ∈ ns) := by
  unfold inV
  rw [Bool.eq_iff_iff, List.any_map, List.any_eq_true, decide_eq_true_eq]
  constructor
  · rintro ⟨x, hx, h⟩
    have h : (x == n) = true := h
    have : x = n := by simpa using h
    exact this ▸ hx
  · intro h
    refine ⟨n, h, ?_⟩
    show (n == n) = true
    simp
theorem nd_step {ns : List Int} {i : Nat} {n : Int} (h : ns[i]? = some n) : (ns.take (i + 1)).Nodup ↔ (ns.take i).Nodup ∧ n ∉ ns.take i := by
  rw [List.take_add_one, h, List.nodup_append]
  simp
  intro _
  constructor
  · intro q hn
    exact q n hn rfl
  · rintro q a ha rfl
    exact q ha
theorem sp_lis_lot : ∀ ss R, lotF ss R → runF [isIntF] C b__law_is_lot p__law_is_lot.length N__law_is_lot.length ss R := by
  rintro ss R ⟨d, rfl, ⟨ok, h4⟩, q⟩
  refine runN_i _ _ ⟨⟨rfl, by decide⟩, rfl⟩ ?_
  cases hs : seqL? d with
  | none =>
    have e : lotB d = false := by unfold lotB; rw [hs]
    rw [e] at q
    have ok1 := ok.ok
    cases d <;> first | (cases hs; done) | (cases ok1; done) | ((((conv => whnf); (repeat' ((apply And.intro; (solve | (first | exact trivial | exact rfl | exact ownB_i rfl | (apply mulOk_bd; (solve | (repeat' first | assumption | exact Bd.zero | exact Bd.one | exact Bd.mone | apply Bd.mul | apply Bd.add | apply Bd.sub | apply Bd.neg | exact Bd.of (m := 64) (by decide))); (solve | (repeat' first | assumption | exact Bd.zero | exact Bd.one | exact Bd.mone | apply Bd.mul | apply Bd.add | apply Bd.sub | apply Bd.neg | exact Bd.of (m := 64) (by decide))); decide) | (refine okS_of ?_ rfl rfl; ((repeat' apply And.intro) <;> first | exact trivial | rfl | (show Bd _ _; apply Bd.up; (solve | (repeat' first | assumption | exact Bd.zero | exact Bd.one | exact Bd.mone | apply Bd.mul | apply Bd.add | apply Bd.sub | apply Bd.neg | exact Bd.of (m := 64) (by decide))); decide))) | (((repeat' apply And.intro) <;> first | exact trivial | assumption | (apply Bd.up; (solve | (repeat' first | assumption | exact Bd.zero | exact Bd.one | exact Bd.mone | apply Bd.mul | apply Bd.add | apply Bd.sub | apply Bd.neg | exact Bd.of (m := 64) (by decide))); decide))) | decide)); conv => whnf))))); exact q)
  | some ds =>
    obtain ⟨hl, hx⟩ := ok.2 ds hs
    have e : lotB d = (ds.all natB && decide (ds.map toI).Nodup) := by unfold lotB; rw [hs]
    rw [e] at q
    rcases itm_cases hs with rfl | rfl <;> (
      (((conv => whnf); (repeat' ((apply And.intro; (solve | (first | exact trivial | exact rfl | exact ownB_i rfl | (apply mulOk_bd; (solve | (repeat' first | assumption | exact Bd.zero | exact Bd.one | exact Bd.mone | apply Bd.mul | apply Bd.add | apply Bd.sub | apply Bd.neg | exact Bd.of (m := 64) (by decide))); (solve | (repeat' first | assumption | exact Bd.zero | exact Bd.one | exact Bd.mone | apply Bd.mul | apply Bd.add | apply Bd.sub | apply Bd.neg | exact Bd.of (m := 64) (by decide))); decide) | (refine okS_of ?_ rfl rfl; ((repeat' apply And.intro) <;> first | exact trivial | rfl | (show Bd _ _; apply Bd.up; (solve | (repeat' first | assumption | exact Bd.zero | exact Bd.one | exact Bd.mone | apply Bd.mul | apply Bd.add | apply Bd.sub | apply Bd.neg | exact Bd.of (m := 64) (by decide))); decide))) | (((repeat' apply And.intro) <;> first | exact trivial | assumption | (apply Bd.up; (solve | (repeat' first | assumption | exact Bd.zero | exact Bd.one | exact Bd.mone | apply Bd.mul | apply Bd.add | apply Bd.sub | apply Bd.neg | exact Bd.of (m := 64) (by decide))); decide))) | decide)); conv => whnf)))))
      refine compN_fltG (fun d => !natB d) id hl ?_ ?_
      · intro d A B hd hA hB
        (((conv => whnf); (repeat' ((apply And.intro; (solve | (first | exact trivial | exact rfl | exact ownB_i rfl | (apply mulOk_bd; (solve | (repeat' first | assumption | exact Bd.zero | exact Bd.one | exact Bd.mone | apply Bd.mul | apply Bd.add | apply Bd.sub | apply Bd.neg | exact Bd.of (m := 64) (by decide))); (solve | (repeat' first | assumption | exact Bd.zero | exact Bd.one | exact Bd.mone | apply Bd.mul | apply Bd.add | apply Bd.sub | apply Bd.neg | exact Bd.of (m := 64) (by decide))); decide) | (refine okS_of ?_ rfl rfl; ((repeat' apply And.intro) <;> first | exact trivial | rfl | (show Bd _ _; apply Bd.up; (solve | (repeat' first | assumption | exact Bd.zero | exact Bd.one | exact Bd.mone | apply Bd.mul | apply Bd.add | apply Bd.sub | apply Bd.neg | exact Bd.of (m := 64) (by decide))); decide))) | (((repeat' apply And.intro) <;> first | exact trivial | assumption | (apply Bd.up; (solve | (repeat' first | assumption | exact Bd.zero | exact Bd.one | exact Bd.mone | apply Bd.mul | apply Bd.add | apply Bd.sub | apply Bd.neg | exact Bd.of (m := 64) (by decide))); decide))) | decide)); conv => whnf)))))
        refine ⟨d, rfl, (hx d hd).ok, ?_⟩
        (((conv => whnf); (repeat' ((apply And.intro; (solve | (first | exact trivial | exact rfl | exact ownB_i rfl | (apply mulOk_bd; (solve | (repeat' first | assumption | exact Bd.zero | exact Bd.one | exact Bd.mone | apply Bd.mul | apply Bd.add | apply Bd.sub | apply Bd.neg | exact Bd.of (m := 64) (by decide))); (solve | (repeat' first | assumption | exact Bd.zero | exact Bd.one | exact Bd.mone | apply Bd.mul | apply Bd.add | apply Bd.sub | apply Bd.neg | exact Bd.of (m := 64) (by decide))); decide) | (refine okS_of ?_ rfl rfl; ((repeat' apply And.intro) <;> first | exact trivial | rfl | (show Bd _ _; apply Bd.up; (solve | (repeat' first | assumption | exact Bd.zero | exact Bd.one | exact Bd.mone | apply Bd.mul | apply Bd.add | apply Bd.sub | apply Bd.neg | exact Bd.of (m := 64) (by decide))); decide))) | (((repeat' apply And.intro) <;> first | exact trivial | assumption | (apply Bd.up; (solve | (repeat' first | assumption | exact Bd.zero | exact Bd.one | exact Bd.mone | apply Bd.mul | apply Bd.add | apply Bd.sub | apply Bd.neg | exact Bd.of (m := 64) (by decide))); decide))) | decide)); conv => whnf)))))
        cases hn : numB d with
        | false =>
          (((conv => whnf); (repeat' ((apply And.intro; (solve | (first | exact trivial | exact rfl | exact ownB_i rfl | (apply mulOk_bd; (solve | (repeat' first | assumption | exact Bd.zero | exact Bd.one | exact Bd.mone | apply Bd.mul | apply Bd.add | apply Bd.sub | apply Bd.neg | exact Bd.of (m := 64) (by decide))); (solve | (repeat' first | assumption | exact Bd.zero | exact Bd.one | exact Bd.mone | apply Bd.mul | apply Bd.add | apply Bd.sub | apply Bd.neg | exact Bd.of (m := 64) (by decide))); decide) | (refine okS_of ?_ rfl rfl; ((repeat' apply And.intro) <;> first | exact trivial | rfl | (show Bd _ _; apply Bd.up; (solve | (repeat' first | assumption | exact Bd.zero | exact Bd.one | exact Bd.mone | apply Bd.mul | apply Bd.add | apply Bd.sub | apply Bd.neg | exact Bd.of (m := 64) (by decide))); decide))) | (((repeat' apply And.intro) <;> first | exact trivial | assumption | (apply Bd.up; (solve | (repeat' first | assumption | exact Bd.zero | exact Bd.one | exact Bd.mone | apply Bd.mul | apply Bd.add | apply Bd.sub | apply Bd.neg | exact Bd.of (m := 64) (by decide))); decide))) | decide)); conv => whnf)))))
          exact hA (by rw [natB_ff hn]; rfl) _ rfl trivial
        | true =>
          have e6 := lt0_nat hn
          obtain ⟨i, hi⟩ : ∃ i, d = .int i := ⟨_, numB_int hn⟩
          subst hi
          (((conv => whnf); (repeat' ((apply And.intro; (solve | (first | exact trivial | exact rfl | exact ownB_i rfl | (apply mulOk_bd; (solve | (repeat' first | assumption | exact Bd.zero | exact Bd.one | exact Bd.mone | apply Bd.mul | apply Bd.add | apply Bd.sub | apply Bd.neg | exact Bd.of (m := 64) (by decide))); (solve | (repeat' first | assumption | exact Bd.zero | exact Bd.one | exact Bd.mone | apply Bd.mul | apply Bd.add | apply Bd.sub | apply Bd.neg | exact Bd.of (m := 64) (by decide))); decide) | (refine okS_of ?_ rfl rfl; ((repeat' apply And.intro) <;> first | exact trivial | rfl | (show Bd _ _; apply Bd.up; (solve | (repeat' first | assumption | exact Bd.zero | exact Bd.one | exact Bd.mone | apply Bd.mul | apply Bd.add | apply Bd.sub | apply Bd.neg | exact Bd.of (m := 64) (by decide))); decide))) | (((repeat' apply And.intro) <;> first | exact trivial | assumption | (apply Bd.up; (solve | (repeat' first | assumption | exact Bd.zero | exact Bd.one | exact Bd.mone | apply Bd.mul | apply Bd.add | apply Bd.sub | apply Bd.neg | exact Bd.of (m := 64) (by decide))); decide))) | decide)); conv => whnf)))))
          rw [show decide (i < 0) = _ from e6]
          cases hb : !natB (.int i) with
          | true =>
            (((conv => whnf); (repeat' ((apply And.intro; (solve | (first | exact trivial | exact rfl | exact ownB_i rfl | (apply mulOk_bd; (solve | (repeat' first | assumption | exact Bd.zero | exact Bd.one | exact Bd.mone | apply Bd.mul | apply Bd.add | apply Bd.sub | apply Bd.neg | exact Bd.of (m := 64) (by decide))); (solve | (repeat' first | assumption | exact Bd.zero | exact Bd.one | exact Bd.mone | apply Bd.mul | apply Bd.add | apply Bd.sub | apply Bd.neg | exact Bd.of (m := 64) (by decide))); decide) | (refine okS_of ?_ rfl rfl; ((repeat' apply And.intro) <;> first | exact trivial | rfl | (show Bd _ _; apply Bd.up; (solve | (repeat' first | assumption | exact Bd.zero | exact Bd.one | exact Bd.mone | apply Bd.mul | apply Bd.add | apply Bd.sub | apply Bd.neg | exact Bd.of (m := 64) (by decide))); decide))) | (((repeat' apply And.intro) <;> first | exact trivial | assumption | (apply Bd.up; (solve | (repeat' first | assumption | exact Bd.zero | exact Bd.one | exact Bd.mone | apply Bd.mul | apply Bd.add | apply Bd.sub | apply Bd.neg | exact Bd.of (m := 64) (by decide))); decide))) | decide)); conv => whnf)))))
            exact hA hb _ rfl trivial
          | false =>
            (((conv => whnf); (repeat' ((apply And.intro; (solve | (first | exact trivial | exact rfl | exact ownB_i rfl | (apply mulOk_bd; (solve | (repeat' first | assumption | exact Bd.zero | exact Bd.one | exact Bd.mone | apply Bd.mul | apply Bd.add | apply Bd.sub | apply Bd.neg | exact Bd.of (m := 64) (by decide))); (solve | (repeat' first | assumption | exact Bd.zero | exact Bd.one | exact Bd.mone | apply Bd.mul | apply Bd.add | apply Bd.sub | apply Bd.neg | exact Bd.of (m := 64) (by decide))); decide) | (refine okS_of ?_ rfl rfl; ((repeat' apply And.intro) <;> first | exact trivial | rfl | (show Bd _ _; apply Bd.up; (solve | (repeat' first | assumption | exact Bd.zero | exact Bd.one | exact Bd.mone | apply Bd.mul | apply Bd.add | apply Bd.sub | apply Bd.neg | exact Bd.of (m := 64) (by decide))); decide))) | (((repeat' apply And.intro) <;> first | exact trivial | assumption | (apply Bd.up; (solve | (repeat' first | assumption | exact Bd.zero | exact Bd.one | exact Bd.mone | apply Bd.mul | apply Bd.add | apply Bd.sub | apply Bd.neg | exact Bd.of (m := 64) (by decide))); decide))) | decide)); conv => whnf)))))
            exact hB hb _ rfl trivial
      (((conv => whnf); (repeat' ((apply And.intro; (solve | (first | exact trivial | exact rfl | exact ownB_i rfl | (apply mulOk_bd; (solve | (repeat' first | assumption | exact Bd.zero | exact Bd.one | exact Bd.mone | apply Bd.mul | apply Bd.add | apply Bd.sub | apply Bd.neg | exact Bd.of (m := 64) (by decide))); (solve | (repeat' first | assumption | exact Bd.zero | exact Bd.one | exact Bd.mone | apply Bd.mul | apply Bd.add | apply Bd.sub | apply Bd.neg | exact Bd.of (m := 64) (by decide))); decide) | (refine okS_of ?_ rfl rfl; ((repeat' apply And.intro) <;> first | exact trivial | rfl | (show Bd _ _; apply Bd.up; (solve | (repeat' first | assumption | exact Bd.zero | exact Bd.one | exact Bd.mone | apply Bd.mul | apply Bd.add | apply Bd.sub | apply Bd.neg | exact Bd.of (m := 64) (by decide))); decide))) | (((repeat' apply And.intro) <;> first | exact trivial | assumption | (apply Bd.up; (solve | (repeat' first | assumption | exact Bd.zero | exact Bd.one | exact Bd.mone | apply Bd.mul | apply Bd.add | apply Bd.sub | apply Bd.neg | exact Bd.of (m := 64) (by decide))); decide))) | decide)); conv => whnf)))))
      rw [List.map_id, flt_empty]
      cases ha : ds.all natB with
      | false =>
        rw [ha] at q
        (((conv => whnf); (repeat' ((apply And.intro; (solve | (first | exact trivial | exact rfl | exact ownB_i rfl | (apply mulOk_bd; (solve | (repeat' first | assumption | exact Bd.zero | exact Bd.one | exact Bd.mone | apply Bd.mul | apply Bd.add | apply Bd.sub | apply Bd.neg | exact Bd.of (m := 64) (by decide))); (solve | (repeat' first | assumption | exact Bd.zero | exact Bd.one | exact Bd.mone | apply Bd.mul | apply Bd.add | apply Bd.sub | apply Bd.neg | exact Bd.of (m := 64) (by decide))); decide) | (refine okS_of ?_ rfl rfl; ((repeat' apply And.intro) <;> first | exact trivial | rfl | (show Bd _ _; apply Bd.up; (solve | (repeat' first | assumption | exact Bd.zero | exact Bd.one | exact Bd.mone | apply Bd.mul | apply Bd.add | apply Bd.sub | apply Bd.neg | exact Bd.of (m := 64) (by decide))); decide))) | (((repeat' apply And.intro) <;> first | exact trivial | assumption | (apply Bd.up; (solve | (repeat' first | assumption | exact Bd.zero | exact Bd.one | exact Bd.mone | apply Bd.mul | apply Bd.add | apply Bd.sub | apply Bd.neg | exact Bd.of (m := 64) (by decide))); decide))) | decide)); conv => whnf)))))
        exact q
      | true =>
        rw [ha] at q
        obtain ⟨ns, hns⟩ : ∃ ns : List Int, ds = ns.map .int := ⟨ds.map toI, by
          rw [List.map_map]
          conv => lhs; rw [← List.map_id ds]
          exact List.map_congr_left fun x hx => (natB_int (List.all_eq_true.mp ha x hx)).1⟩
        have hm : ds.map toI = ns := by rw [hns, List.map_map]; exact List.map_id' ns
        rw [hm] at q
        have h5 := h4 ds hs
        have l : ds.length = ns.length := by rw [hns, List.length_map]
        have fin : ∀ (acc : List D) ρ, (acc.isEmpty = decide (ns.take ds.length).Nodup ∧ acc.length ≤ ds.length) → ρ = [.no] → R (.va (.bl (acc.isEmpty != false))) ρ := by
          rintro acc ρ ⟨h1, h2⟩ rfl
          rw [h1, l, List.take_length]
          have e : (decide ns.Nodup != false) = (true && decide ns.Nodup) := by cases decide ns.Nodup <;> rfl
          rw [e]
          exact q
        (((conv => whnf); (repeat' ((apply And.intro; (solve | (first | exact trivial | exact rfl | exact ownB_i rfl | (apply mulOk_bd; (solve | (repeat' first | assumption | exact Bd.zero | exact Bd.one | exact Bd.mone | apply Bd.mul | apply Bd.add | apply Bd.sub | apply Bd.neg | exact Bd.of (m := 64) (by decide))); (solve | (repeat' first | assumption | exact Bd.zero | exact Bd.one | exact Bd.mone | apply Bd.mul | apply Bd.add | apply Bd.sub | apply Bd.neg | exact Bd.of (m := 64) (by decide))); decide) | (refine okS_of ?_ rfl rfl; ((repeat' apply And.intro) <;> first | exact trivial | rfl | (show Bd _ _; apply Bd.up; (solve | (repeat' first | assumption | exact Bd.zero | exact Bd.one | exact Bd.mone | apply Bd.mul | apply Bd.add | apply Bd.sub | apply Bd.neg | exact Bd.of (m := 64) (by decide))); decide))) | (((repeat' apply And.intro) <;> first | exact trivial | assumption | (apply Bd.up; (solve | (repeat' first | assumption | exact Bd.zero | exact Bd.one | exact Bd.mone | apply Bd.mul | apply Bd.add | apply Bd.sub | apply Bd.neg | exact Bd.of (m := 64) (by decide))); decide))) | decide)); conv => whnf)))))
        refine compN_i (fun i acc ρ => (acc.isEmpty = decide (ns.take i).Nodup ∧ acc.length ≤ i) ∧ ρ = _) ⟨⟨rfl, Nat.le_refl _⟩, rfl⟩ ?_ ?_
        · rintro i e acc ρ K hi ⟨⟨h1, h2⟩, rfl⟩ hK
          obtain ⟨x, hx1, rfl⟩ := enumD_get hi
          rw [Nat.zero_add]
          have hlt : i < ds.length := (List.getElem?_eq_some_iff.mp hx1).1
          obtain ⟨n, hn, rfl⟩ : ∃ n, ns[i]? = some n ∧ x = .int n := by
            rw [hns, List.getElem?_map] at hx1
            cases hq : ns[i]? with
            | none => rw [hq] at hx1; cases hx1
            | some n => rw [hq] at hx1; exact ⟨n, rfl, (Option.some.inj hx1).symm⟩
          have e9 : ds.take i = (ns.take i).map .int := by rw [hns, List.map_take]
          have nst := nd_step hn
          (((conv => whnf); (repeat' ((apply And.intro; (solve | (first | exact trivial | exact rfl | exact ownB_i rfl | (apply mulOk_bd; (solve | (repeat' first | assumption | exact Bd.zero | exact Bd.one | exact Bd.mone | apply Bd.mul | apply Bd.add | apply Bd.sub | apply Bd.neg | exact Bd.of (m := 64) (by decide))); (solve | (repeat' first | assumption | exact Bd.zero | exact Bd.one | exact Bd.mone | apply Bd.mul | apply Bd.add | apply Bd.sub | apply Bd.neg | exact Bd.of (m := 64) (by decide))); decide) | (refine okS_of ?_ rfl rfl; ((repeat' apply And.intro) <;> first | exact trivial | rfl | (show Bd _ _; apply Bd.up; (solve | (repeat' first | assumption | exact Bd.zero | exact Bd.one | exact Bd.mone | apply Bd.mul | apply Bd.add | apply Bd.sub | apply Bd.neg | exact Bd.of (m := 64) (by decide))); decide))) | (((repeat' apply And.intro) <;> first | exact trivial | assumption | (apply Bd.up; (solve | (repeat' first | assumption | exact Bd.zero | exact Bd.one | exact Bd.mone | apply Bd.mul | apply Bd.add | apply Bd.sub | apply Bd.neg | exact Bd.of (m := 64) (by decide))); decide))) | decide)); conv => whnf)))))
          rw [cut_take, e9]
          first
          | (refine ⟨okL _, ?_⟩
             (((conv => whnf); (repeat' ((apply And.intro; (solve | (first | exact trivial | exact rfl | exact ownB_i rfl | (apply mulOk_bd; (solve | (repeat' first | assumption | exact Bd.zero | exact Bd.one | exact Bd.mone | apply Bd.mul | apply Bd.add | apply Bd.sub | apply Bd.neg | exact Bd.of (m := 64) (by decide))); (solve | (repeat' first | assumption | exact Bd.zero | exact Bd.one | exact Bd.mone | apply Bd.mul | apply Bd.add | apply Bd.sub | apply Bd.neg | exact Bd.of (m := 64) (by decide))); decide) | (refine okS_of ?_ rfl rfl; ((repeat' apply And.intro) <;> first | exact trivial | rfl | (show Bd _ _; apply Bd.up; (solve | (repeat' first | assumption | exact Bd.zero | exact Bd.one | exact Bd.mone | apply Bd.mul | apply Bd.add | apply Bd.sub | apply Bd.neg | exact Bd.of (m := 64) (by decide))); decide))) | (((repeat' apply And.intro) <;> first | exact trivial | assumption | (apply Bd.up; (solve | (repeat' first | assumption | exact Bd.zero | exact Bd.one | exact Bd.mone | apply Bd.mul | apply Bd.add | apply Bd.sub | apply Bd.neg | exact Bd.of (m := 64) (by decide))); decide))) | decide)); conv => whnf)))))
             rw [any_ints])
          | (rw [vDs_ints]
             (((conv => whnf); (repeat' ((apply And.intro; (solve | (first | exact trivial | exact rfl | exact ownB_i rfl | (apply mulOk_bd; (solve | (repeat' first | assumption | exact Bd.zero | exact Bd.one | exact Bd.mone | apply Bd.mul | apply Bd.add | apply Bd.sub | apply Bd.neg | exact Bd.of (m := 64) (by decide))); (solve | (repeat' first | assumption | exact Bd.zero | exact Bd.one | exact Bd.mone | apply Bd.mul | apply Bd.add | apply Bd.sub | apply Bd.neg | exact Bd.of (m := 64) (by decide))); decide) | (refine okS_of ?_ rfl rfl; ((repeat' apply And.intro) <;> first | exact trivial | rfl | (show Bd _ _; apply Bd.up; (solve | (repeat' first | assumption | exact Bd.zero | exact Bd.one | exact Bd.mone | apply Bd.mul | apply Bd.add | apply Bd.sub | apply Bd.neg | exact Bd.of (m := 64) (by decide))); decide))) | (((repeat' apply And.intro) <;> first | exact trivial | assumption | (apply Bd.up; (solve | (repeat' first | assumption | exact Bd.zero | exact Bd.one | exact Bd.mone | apply Bd.mul | apply Bd.add | apply Bd.sub | apply Bd.neg | exact Bd.of (m := 64) (by decide))); decide))) | decide)); conv => whnf)))))
             rw [inV_ints])
          cases hb : decide (n ∈ ns.take i) with
          | true =>
            (((conv => whnf); (repeat' ((apply And.intro; (solve | (first | exact trivial | exact rfl | exact ownB_i rfl | (apply mulOk_bd; (solve | (repeat' first | assumption | exact Bd.zero | exact Bd.one | exact Bd.mone | apply Bd.mul | apply Bd.add | apply Bd.sub | apply Bd.neg | exact Bd.of (m := 64) (by decide))); (solve | (repeat' first | assumption | exact Bd.zero | exact Bd.one | exact Bd.mone | apply Bd.mul | apply Bd.add | apply Bd.sub | apply Bd.neg | exact Bd.of (m := 64) (by decide))); decide) | (refine okS_of ?_ rfl rfl; ((repeat' apply And.intro) <;> first | exact trivial | rfl | (show Bd _ _; apply Bd.up; (solve | (repeat' first | assumption | exact Bd.zero | exact Bd.one | exact Bd.mone | apply Bd.mul | apply Bd.add | apply Bd.sub | apply Bd.neg | exact Bd.of (m := 64) (by decide))); decide))) | (((repeat' apply And.intro) <;> first | exact trivial | assumption | (apply Bd.up; (solve | (repeat' first | assumption | exact Bd.zero | exact Bd.one | exact Bd.mone | apply Bd.mul | apply Bd.add | apply Bd.sub | apply Bd.neg | exact Bd.of (m := 64) (by decide))); decide))) | decide)); conv => whnf)))))
            refine leN_i (by rw [sizeLine_eq]; omega) ?_
            (((conv => whnf); (repeat' ((apply And.intro; (solve | (first | exact trivial | exact rfl | exact ownB_i rfl | (apply mulOk_bd; (solve | (repeat' first | assumption | exact Bd.zero | exact Bd.one | exact Bd.mone | apply Bd.mul | apply Bd.add | apply Bd.sub | apply Bd.neg | exact Bd.of (m := 64) (by decide))); (solve | (repeat' first | assumption | exact Bd.zero | exact Bd.one | exact Bd.mone | apply Bd.mul | apply Bd.add | apply Bd.sub | apply Bd.neg | exact Bd.of (m := 64) (by decide))); decide) | (refine okS_of ?_ rfl rfl; ((repeat' apply And.intro) <;> first | exact trivial | rfl | (show Bd _ _; apply Bd.up; (solve | (repeat' first | assumption | exact Bd.zero | exact Bd.one | exact Bd.mone | apply Bd.mul | apply Bd.add | apply Bd.sub | apply Bd.neg | exact Bd.of (m := 64) (by decide))); decide))) | (((repeat' apply And.intro) <;> first | exact trivial | assumption | (apply Bd.up; (solve | (repeat' first | assumption | exact Bd.zero | exact Bd.one | exact Bd.mone | apply Bd.mul | apply Bd.add | apply Bd.sub | apply Bd.neg | exact Bd.of (m := 64) (by decide))); decide))) | decide)); conv => whnf)))))
            refine hK _ _ ⟨⟨?_, by rw [List.length_append, List.length_singleton]; omega⟩, rfl⟩
            rw [decide_eq_true_eq] at hb
            rw [decide_eq_false (fun z => (nst.mp z).2 hb)]
            simp
          | false =>
            (((conv => whnf); (repeat' ((apply And.intro; (solve | (first | exact trivial | exact rfl | exact ownB_i rfl | (apply mulOk_bd; (solve | (repeat' first | assumption | exact Bd.zero | exact Bd.one | exact Bd.mone | apply Bd.mul | apply Bd.add | apply Bd.sub | apply Bd.neg | exact Bd.of (m := 64) (by decide))); (solve | (repeat' first | assumption | exact Bd.zero | exact Bd.one | exact Bd.mone | apply Bd.mul | apply Bd.add | apply Bd.sub | apply Bd.neg | exact Bd.of (m := 64) (by decide))); decide) | (refine okS_of ?_ rfl rfl; ((repeat' apply And.intro) <;> first | exact trivial | rfl | (show Bd _ _; apply Bd.up; (solve | (repeat' first | assumption | exact Bd.zero | exact Bd.one | exact Bd.mone | apply Bd.mul | apply Bd.add | apply Bd.sub | apply Bd.neg | exact Bd.of (m := 64) (by decide))); decide))) | (((repeat' apply And.intro) <;> first | exact trivial | assumption | (apply Bd.up; (solve | (repeat' first | assumption | exact Bd.zero | exact Bd.one | exact Bd.mone | apply Bd.mul | apply Bd.add | apply Bd.sub | apply Bd.neg | exact Bd.of (m := 64) (by decide))); decide))) | decide)); conv => whnf)))))
            refine hK _ _ ⟨⟨?_, by omega⟩, rfl⟩
            rw [decide_eq_false_iff_not] at hb
            rw [h1]
            exact decide_eq_decide.mpr ⟨fun z => nst.mpr ⟨z, hb⟩, fun z => (nst.mp z).1⟩
        · rintro acc ρ ⟨h1, rfl⟩
          rw [enumD_len] at h1
          (((conv => whnf); (repeat' ((apply And.intro; (solve | (first | exact trivial | exact rfl | exact ownB_i rfl | (apply mulOk_bd; (solve | (repeat' first | assumption | exact Bd.zero | exact Bd.one | exact Bd.mone | apply Bd.mul | apply Bd.add | apply Bd.sub | apply Bd.neg | exact Bd.of (m := 64) (by decide))); (solve | (repeat' first | assumption | exact Bd.zero | exact Bd.one | exact Bd.mone | apply Bd.mul | apply Bd.add | apply Bd.sub | apply Bd.neg | exact Bd.of (m := 64) (by decide))); decide) | (refine okS_of ?_ rfl rfl; ((repeat' apply And.intro) <;> first | exact trivial | rfl | (show Bd _ _; apply Bd.up; (solve | (repeat' first | assumption | exact Bd.zero | exact Bd.one | exact Bd.mone | apply Bd.mul | apply Bd.add | apply Bd.sub | apply Bd.neg | exact Bd.of (m := 64) (by decide))); decide))) | (((repeat' apply And.intro) <;> first | exact trivial | assumption | (apply Bd.up; (solve | (repeat' first | assumption | exact Bd.zero | exact Bd.one | exact Bd.mone | apply Bd.mul | apply Bd.add | apply Bd.sub | apply Bd.neg | exact Bd.of (m := 64) (by decide))); decide))) | decide)); conv => whnf)))))
          exact fin _ _ h1 rfl)
end
end DL

namespace DL
open PySem PySem.Spec PyProof.Rows L2
section
variable (F : List Fe) (C : List D)
theorem sp_crock : ∀ ss R, crockF ss R → runF F C b__law_sieve p__law_sieve.length N__law_sieve.length ss R := by
  intro ss R h
  unfold crockF at h
  ((split at h; rotate_left; exact h.elim))
  obtain ⟨⟨ns, rfl, hl⟩, q⟩ := h
  refine runN_i F C ⟨⟨rfl, by decide⟩, rfl⟩ ?_
  (((conv => whnf); (repeat' ((apply And.intro; (solve | (first | exact trivial | exact rfl | exact ownB_i rfl | (apply mulOk_bd; (solve | (repeat' first | assumption | exact Bd.zero | exact Bd.one | exact Bd.mone | apply Bd.mul | apply Bd.add | apply Bd.sub | apply Bd.neg | exact Bd.of (m := 64) (by decide))); (solve | (repeat' first | assumption | exact Bd.zero | exact Bd.one | exact Bd.mone | apply Bd.mul | apply Bd.add | apply Bd.sub | apply Bd.neg | exact Bd.of (m := 64) (by decide))); decide) | (refine okS_of ?_ rfl rfl; ((repeat' apply And.intro) <;> first | exact trivial | rfl | (show Bd _ _; apply Bd.up; (solve | (repeat' first | assumption | exact Bd.zero | exact Bd.one | exact Bd.mone | apply Bd.mul | apply Bd.add | apply Bd.sub | apply Bd.neg | exact Bd.of (m := 64) (by decide))); decide))) | (((repeat' apply And.intro) <;> first | exact trivial | assumption | (apply Bd.up; (solve | (repeat' first | assumption | exact Bd.zero | exact Bd.one | exact Bd.mone | apply Bd.mul | apply Bd.add | apply Bd.sub | apply Bd.neg | exact Bd.of (m := 64) (by decide))); decide))) | decide)); conv => whnf)))))
  obtain ⟨ms, e, hm⟩ := cut_ints ns none (some 60)
  rw [e]
  refine compN_i (fun i acc ρ => acc = (ms.take i).map .int ∧ ρ = [.va (.scr (ns.map .int)), .no]) ⟨rfl, rfl⟩ ?_ ?_
  · rintro i e acc ρ K hi ⟨rfl, rfl⟩ hK
    obtain ⟨z, rfl, e2⟩ := map_take_succ hi
    (((conv => whnf); (repeat' ((apply And.intro; (solve | (first | exact trivial | exact rfl | exact ownB_i rfl | (apply mulOk_bd; (solve | (repeat' first | assumption | exact Bd.zero | exact Bd.one | exact Bd.mone | apply Bd.mul | apply Bd.add | apply Bd.sub | apply Bd.neg | exact Bd.of (m := 64) (by decide))); (solve | (repeat' first | assumption | exact Bd.zero | exact Bd.one | exact Bd.mone | apply Bd.mul | apply Bd.add | apply Bd.sub | apply Bd.neg | exact Bd.of (m := 64) (by decide))); decide) | (refine okS_of ?_ rfl rfl; ((repeat' apply And.intro) <;> first | exact trivial | rfl | (show Bd _ _; apply Bd.up; (solve | (repeat' first | assumption | exact Bd.zero | exact Bd.one | exact Bd.mone | apply Bd.mul | apply Bd.add | apply Bd.sub | apply Bd.neg | exact Bd.of (m := 64) (by decide))); decide))) | (((repeat' apply And.intro) <;> first | exact trivial | assumption | (apply Bd.up; (solve | (repeat' first | assumption | exact Bd.zero | exact Bd.one | exact Bd.mone | apply Bd.mul | apply Bd.add | apply Bd.sub | apply Bd.neg | exact Bd.of (m := 64) (by decide))); decide))) | decide)); conv => whnf)))))
    refine leN_i ?_ ?_
    · rw [List.length_map, List.length_take, sizeLine_eq]
      omega
    · (conv => whnf)
      refine hK _ _ ⟨e2, rfl⟩
  · rintro acc ρ ⟨rfl, rfl⟩
    (((conv => whnf); (repeat' ((apply And.intro; (solve | (first | exact trivial | exact rfl | exact ownB_i rfl | (apply mulOk_bd; (solve | (repeat' first | assumption | exact Bd.zero | exact Bd.one | exact Bd.mone | apply Bd.mul | apply Bd.add | apply Bd.sub | apply Bd.neg | exact Bd.of (m := 64) (by decide))); (solve | (repeat' first | assumption | exact Bd.zero | exact Bd.one | exact Bd.mone | apply Bd.mul | apply Bd.add | apply Bd.sub | apply Bd.neg | exact Bd.of (m := 64) (by decide))); decide) | (refine okS_of ?_ rfl rfl; ((repeat' apply And.intro) <;> first | exact trivial | rfl | (show Bd _ _; apply Bd.up; (solve | (repeat' first | assumption | exact Bd.zero | exact Bd.one | exact Bd.mone | apply Bd.mul | apply Bd.add | apply Bd.sub | apply Bd.neg | exact Bd.of (m := 64) (by decide))); decide))) | (((repeat' apply And.intro) <;> first | exact trivial | assumption | (apply Bd.up; (solve | (repeat' first | assumption | exact Bd.zero | exact Bd.one | exact Bd.mone | apply Bd.mul | apply Bd.add | apply Bd.sub | apply Bd.neg | exact Bd.of (m := 64) (by decide))); decide))) | decide)); conv => whnf)))))
    refine q _ ⟨_, 0, 0, rfl, by decide, by decide⟩
theorem sp_ladle : ∀ ss R, drawF ss R → runF F C b__law_shake p__law_shake.length N__law_shake.length ss R := by
  intro ss R h
  unfold drawF at h
  ((split at h; rotate_left; exact h.elim))
  rename_i cr many
  obtain ⟨n, ⟨cells, at_, rest, rfl, a1, a2⟩, ⟨m1, m2⟩, q⟩ := h
  have hmod : ∀ x : Int, 0 ≤ x % many ∧ x % many < many := fun x => ⟨Int.emod_nonneg _ (by omega), Int.emod_lt_of_pos _ m1⟩
  have d1 : 0 < many ∧ many.natAbs.log2 < 9000 := ⟨m1, log64 m1 m2⟩
  refine runN_i F C ⟨⟨rfl, by decide⟩, rfl⟩ ?_
  unfold runN
  rw [force_eq]
  refine stepN fun K kn kr kb kc => ?_
  (((conv => whnf); (repeat' ((apply And.intro; (solve | (first | exact trivial | exact rfl | exact ownB_i rfl | (apply mulOk_bd; (solve | (repeat' first | assumption | exact Bd.zero | exact Bd.one | exact Bd.mone | apply Bd.mul | apply Bd.add | apply Bd.sub | apply Bd.neg | exact Bd.of (m := 64) (by decide))); (solve | (repeat' first | assumption | exact Bd.zero | exact Bd.one | exact Bd.mone | apply Bd.mul | apply Bd.add | apply Bd.sub | apply Bd.neg | exact Bd.of (m := 64) (by decide))); decide) | (refine okS_of ?_ rfl rfl; ((repeat' apply And.intro) <;> first | exact trivial | rfl | (show Bd _ _; apply Bd.up; (solve | (repeat' first | assumption | exact Bd.zero | exact Bd.one | exact Bd.mone | apply Bd.mul | apply Bd.add | apply Bd.sub | apply Bd.neg | exact Bd.of (m := 64) (by decide))); decide))) | (((repeat' apply And.intro) <;> first | exact trivial | assumption | (apply Bd.up; (solve | (repeat' first | assumption | exact Bd.zero | exact Bd.one | exact Bd.mone | apply Bd.mul | apply Bd.add | apply Bd.sub | apply Bd.neg | exact Bd.of (m := 64) (by decide))); decide))) | decide)); conv => whnf)))))
  refine br_both (fun _ => ?_) fun _ => ?_
  · (((conv => whnf); (repeat' ((apply And.intro; (solve | (first | exact trivial | exact rfl | exact ownB_i rfl | (apply mulOk_bd; (solve | (repeat' first | assumption | exact Bd.zero | exact Bd.one | exact Bd.mone | apply Bd.mul | apply Bd.add | apply Bd.sub | apply Bd.neg | exact Bd.of (m := 64) (by decide))); (solve | (repeat' first | assumption | exact Bd.zero | exact Bd.one | exact Bd.mone | apply Bd.mul | apply Bd.add | apply Bd.sub | apply Bd.neg | exact Bd.of (m := 64) (by decide))); decide) | (refine okS_of ?_ rfl rfl; ((repeat' apply And.intro) <;> first | exact trivial | rfl | (show Bd _ _; apply Bd.up; (solve | (repeat' first | assumption | exact Bd.zero | exact Bd.one | exact Bd.mone | apply Bd.mul | apply Bd.add | apply Bd.sub | apply Bd.neg | exact Bd.of (m := 64) (by decide))); decide))) | (((repeat' apply And.intro) <;> first | exact trivial | assumption | (apply Bd.up; (solve | (repeat' first | assumption | exact Bd.zero | exact Bd.one | exact Bd.mone | apply Bd.mul | apply Bd.add | apply Bd.sub | apply Bd.neg | exact Bd.of (m := 64) (by decide))); decide))) | decide)); conv => whnf)))))
    refine ⟨d1, ?_⟩; (((conv => whnf); (repeat' ((apply And.intro; (solve | (first | exact trivial | exact rfl | exact ownB_i rfl | (apply mulOk_bd; (solve | (repeat' first | assumption | exact Bd.zero | exact Bd.one | exact Bd.mone | apply Bd.mul | apply Bd.add | apply Bd.sub | apply Bd.neg | exact Bd.of (m := 64) (by decide))); (solve | (repeat' first | assumption | exact Bd.zero | exact Bd.one | exact Bd.mone | apply Bd.mul | apply Bd.add | apply Bd.sub | apply Bd.neg | exact Bd.of (m := 64) (by decide))); decide) | (refine okS_of ?_ rfl rfl; ((repeat' apply And.intro) <;> first | exact trivial | rfl | (show Bd _ _; apply Bd.up; (solve | (repeat' first | assumption | exact Bd.zero | exact Bd.one | exact Bd.mone | apply Bd.mul | apply Bd.add | apply Bd.sub | apply Bd.neg | exact Bd.of (m := 64) (by decide))); decide))) | (((repeat' apply And.intro) <;> first | exact trivial | assumption | (apply Bd.up; (solve | (repeat' first | assumption | exact Bd.zero | exact Bd.one | exact Bd.mone | apply Bd.mul | apply Bd.add | apply Bd.sub | apply Bd.neg | exact Bd.of (m := 64) (by decide))); decide))) | decide)); conv => whnf))))); refine kr _ _ ?_; exact q _ _ (hmod _) ⟨_, _, _, rfl, a1, by omega⟩
  (conv => whnf)
  refine kn _ (stepN fun K kn kr kb kc => ?_)
  (((conv => whnf); (repeat' ((apply And.intro; (solve | (first | exact trivial | exact rfl | exact ownB_i rfl | (apply mulOk_bd; (solve | (repeat' first | assumption | exact Bd.zero | exact Bd.one | exact Bd.mone | apply Bd.mul | apply Bd.add | apply Bd.sub | apply Bd.neg | exact Bd.of (m := 64) (by decide))); (solve | (repeat' first | assumption | exact Bd.zero | exact Bd.one | exact Bd.mone | apply Bd.mul | apply Bd.add | apply Bd.sub | apply Bd.neg | exact Bd.of (m := 64) (by decide))); decide) | (refine okS_of ?_ rfl rfl; ((repeat' apply And.intro) <;> first | exact trivial | rfl | (show Bd _ _; apply Bd.up; (solve | (repeat' first | assumption | exact Bd.zero | exact Bd.one | exact Bd.mone | apply Bd.mul | apply Bd.add | apply Bd.sub | apply Bd.neg | exact Bd.of (m := 64) (by decide))); decide))) | (((repeat' apply And.intro) <;> first | exact trivial | assumption | (apply Bd.up; (solve | (repeat' first | assumption | exact Bd.zero | exact Bd.one | exact Bd.mone | apply Bd.mul | apply Bd.add | apply Bd.sub | apply Bd.neg | exact Bd.of (m := 64) (by decide))); decide))) | decide)); conv => whnf)))))
  refine kn _ (stepN fun K kn kr kb kc => ?_)
  (((conv => whnf); (repeat' ((apply And.intro; (solve | (first | exact trivial | exact rfl | exact ownB_i rfl | (apply mulOk_bd; (solve | (repeat' first | assumption | exact Bd.zero | exact Bd.one | exact Bd.mone | apply Bd.mul | apply Bd.add | apply Bd.sub | apply Bd.neg | exact Bd.of (m := 64) (by decide))); (solve | (repeat' first | assumption | exact Bd.zero | exact Bd.one | exact Bd.mone | apply Bd.mul | apply Bd.add | apply Bd.sub | apply Bd.neg | exact Bd.of (m := 64) (by decide))); decide) | (refine okS_of ?_ rfl rfl; ((repeat' apply And.intro) <;> first | exact trivial | rfl | (show Bd _ _; apply Bd.up; (solve | (repeat' first | assumption | exact Bd.zero | exact Bd.one | exact Bd.mone | apply Bd.mul | apply Bd.add | apply Bd.sub | apply Bd.neg | exact Bd.of (m := 64) (by decide))); decide))) | (((repeat' apply And.intro) <;> first | exact trivial | assumption | (apply Bd.up; (solve | (repeat' first | assumption | exact Bd.zero | exact Bd.one | exact Bd.mone | apply Bd.mul | apply Bd.add | apply Bd.sub | apply Bd.neg | exact Bd.of (m := 64) (by decide))); decide))) | decide)); conv => whnf)))))
  refine kn _ (stepN fun K kn kr kb kc => ?_)
  (((conv => whnf); (repeat' ((apply And.intro; (solve | (first | exact trivial | exact rfl | exact ownB_i rfl | (apply mulOk_bd; (solve | (repeat' first | assumption | exact Bd.zero | exact Bd.one | exact Bd.mone | apply Bd.mul | apply Bd.add | apply Bd.sub | apply Bd.neg | exact Bd.of (m := 64) (by decide))); (solve | (repeat' first | assumption | exact Bd.zero | exact Bd.one | exact Bd.mone | apply Bd.mul | apply Bd.add | apply Bd.sub | apply Bd.neg | exact Bd.of (m := 64) (by decide))); decide) | (refine okS_of ?_ rfl rfl; ((repeat' apply And.intro) <;> first | exact trivial | rfl | (show Bd _ _; apply Bd.up; (solve | (repeat' first | assumption | exact Bd.zero | exact Bd.one | exact Bd.mone | apply Bd.mul | apply Bd.add | apply Bd.sub | apply Bd.neg | exact Bd.of (m := 64) (by decide))); decide))) | (((repeat' apply And.intro) <;> first | exact trivial | assumption | (apply Bd.up; (solve | (repeat' first | assumption | exact Bd.zero | exact Bd.one | exact Bd.mone | apply Bd.mul | apply Bd.add | apply Bd.sub | apply Bd.neg | exact Bd.of (m := 64) (by decide))); decide))) | decide)); conv => whnf)))))
  refine ⟨mul_l (by decide), ?_⟩
  (((conv => whnf); (repeat' ((apply And.intro; (solve | (first | exact trivial | exact rfl | exact ownB_i rfl | (apply mulOk_bd; (solve | (repeat' first | assumption | exact Bd.zero | exact Bd.one | exact Bd.mone | apply Bd.mul | apply Bd.add | apply Bd.sub | apply Bd.neg | exact Bd.of (m := 64) (by decide))); (solve | (repeat' first | assumption | exact Bd.zero | exact Bd.one | exact Bd.mone | apply Bd.mul | apply Bd.add | apply Bd.sub | apply Bd.neg | exact Bd.of (m := 64) (by decide))); decide) | (refine okS_of ?_ rfl rfl; ((repeat' apply And.intro) <;> first | exact trivial | rfl | (show Bd _ _; apply Bd.up; (solve | (repeat' first | assumption | exact Bd.zero | exact Bd.one | exact Bd.mone | apply Bd.mul | apply Bd.add | apply Bd.sub | apply Bd.neg | exact Bd.of (m := 64) (by decide))); decide))) | (((repeat' apply And.intro) <;> first | exact trivial | assumption | (apply Bd.up; (solve | (repeat' first | assumption | exact Bd.zero | exact Bd.one | exact Bd.mone | apply Bd.mul | apply Bd.add | apply Bd.sub | apply Bd.neg | exact Bd.of (m := 64) (by decide))); decide))) | decide)); conv => whnf)))))
  refine kn _ (stepN fun K kn kr kb kc => ?_)
  have step : ∀ cell : Int, K .nxt [.mu (.lst [.lst (cells.map .int), .int (at_ + 1), .int rest]), .va (.int many), .no, .va (.int at_), .va (.int cell), .no] := by
    intro cell
    refine kn _ (stepN fun K kn kr kb kc => ?_)
    have fin : K .nxt [.mu (.lst [.lst (cells.map .int), .int (at_ + 1), .int rest]), .va (.int many), .no, .va (.int at_), .va (.int cell), .no] := by
      refine kn _ (stepN fun K kn kr kb kc => ?_)
      (((conv => whnf); (repeat' ((apply And.intro; (solve | (first | exact trivial | exact rfl | exact ownB_i rfl | (apply mulOk_bd; (solve | (repeat' first | assumption | exact Bd.zero | exact Bd.one | exact Bd.mone | apply Bd.mul | apply Bd.add | apply Bd.sub | apply Bd.neg | exact Bd.of (m := 64) (by decide))); (solve | (repeat' first | assumption | exact Bd.zero | exact Bd.one | exact Bd.mone | apply Bd.mul | apply Bd.add | apply Bd.sub | apply Bd.neg | exact Bd.of (m := 64) (by decide))); decide) | (refine okS_of ?_ rfl rfl; ((repeat' apply And.intro) <;> first | exact trivial | rfl | (show Bd _ _; apply Bd.up; (solve | (repeat' first | assumption | exact Bd.zero | exact Bd.one | exact Bd.mone | apply Bd.mul | apply Bd.add | apply Bd.sub | apply Bd.neg | exact Bd.of (m := 64) (by decide))); decide))) | (((repeat' apply And.intro) <;> first | exact trivial | assumption | (apply Bd.up; (solve | (repeat' first | assumption | exact Bd.zero | exact Bd.one | exact Bd.mone | apply Bd.mul | apply Bd.add | apply Bd.sub | apply Bd.neg | exact Bd.of (m := 64) (by decide))); decide))) | decide)); conv => whnf)))))
      refine ⟨mul_l (by decide), ?_⟩
      (((conv => whnf); (repeat' ((apply And.intro; (solve | (first | exact trivial | exact rfl | exact ownB_i rfl | (apply mulOk_bd; (solve | (repeat' first | assumption | exact Bd.zero | exact Bd.one | exact Bd.mone | apply Bd.mul | apply Bd.add | apply Bd.sub | apply Bd.neg | exact Bd.of (m := 64) (by decide))); (solve | (repeat' first | assumption | exact Bd.zero | exact Bd.one | exact Bd.mone | apply Bd.mul | apply Bd.add | apply Bd.sub | apply Bd.neg | exact Bd.of (m := 64) (by decide))); decide) | (refine okS_of ?_ rfl rfl; ((repeat' apply And.intro) <;> first | exact trivial | rfl | (show Bd _ _; apply Bd.up; (solve | (repeat' first | assumption | exact Bd.zero | exact Bd.one | exact Bd.mone | apply Bd.mul | apply Bd.add | apply Bd.sub | apply Bd.neg | exact Bd.of (m := 64) (by decide))); decide))) | (((repeat' apply And.intro) <;> first | exact trivial | assumption | (apply Bd.up; (solve | (repeat' first | assumption | exact Bd.zero | exact Bd.one | exact Bd.mone | apply Bd.mul | apply Bd.add | apply Bd.sub | apply Bd.neg | exact Bd.of (m := 64) (by decide))); decide))) | decide)); conv => whnf)))))
      have b0 := Int.emod_nonneg cell (show (2147483563 : Int) ≠ 0 by decide)
      have b1 := Int.emod_lt_of_pos cell (show (0 : Int) < 2147483563 by decide)
      refine ⟨⟨by decide, by decide, by omega⟩, ?_⟩
      (((conv => whnf); (repeat' ((apply And.intro; (solve | (first | exact trivial | exact rfl | exact ownB_i rfl | (apply mulOk_bd; (solve | (repeat' first | assumption | exact Bd.zero | exact Bd.one | exact Bd.mone | apply Bd.mul | apply Bd.add | apply Bd.sub | apply Bd.neg | exact Bd.of (m := 64) (by decide))); (solve | (repeat' first | assumption | exact Bd.zero | exact Bd.one | exact Bd.mone | apply Bd.mul | apply Bd.add | apply Bd.sub | apply Bd.neg | exact Bd.of (m := 64) (by decide))); decide) | (refine okS_of ?_ rfl rfl; ((repeat' apply And.intro) <;> first | exact trivial | rfl | (show Bd _ _; apply Bd.up; (solve | (repeat' first | assumption | exact Bd.zero | exact Bd.one | exact Bd.mone | apply Bd.mul | apply Bd.add | apply Bd.sub | apply Bd.neg | exact Bd.of (m := 64) (by decide))); decide))) | (((repeat' apply And.intro) <;> first | exact trivial | assumption | (apply Bd.up; (solve | (repeat' first | assumption | exact Bd.zero | exact Bd.one | exact Bd.mone | apply Bd.mul | apply Bd.add | apply Bd.sub | apply Bd.neg | exact Bd.of (m := 64) (by decide))); decide))) | decide)); conv => whnf)))))
      refine kn _ (stepN fun K kn kr kb kc => ?_)
      generalize hm : (cell % 2147483563 + 34231 * at_ + 5079) ^ Int.toNat 5 % 2147483497 = mx
      have hx0 : 0 ≤ mx := by rw [← hm]; exact Int.emod_nonneg _ (by decide)
      have hx1 : mx < 2147483497 := by rw [← hm]; exact Int.emod_lt_of_pos _ (by decide)
      have p1 : mx * (2 * at_ + 4569) ≤ 2147483497 * 2004569 := Int.mul_le_mul (by omega) (by omega) (by omega) (by omega)
      have p2 : 0 ≤ mx * (2 * at_ + 4569) := Int.mul_nonneg hx0 (by omega)
      have p3 : 70429 * at_ * at_ ≤ 70429000000 * 1000000 := Int.mul_le_mul (by omega) (by omega) (by omega) (by omega)
      have p4 : 0 ≤ 70429 * at_ * at_ := Int.mul_nonneg (by omega) a1
      (((conv => whnf); (repeat' ((apply And.intro; (solve | (first | exact trivial | exact rfl | exact ownB_i rfl | (apply mulOk_bd; (solve | (repeat' first | assumption | exact Bd.zero | exact Bd.one | exact Bd.mone | apply Bd.mul | apply Bd.add | apply Bd.sub | apply Bd.neg | exact Bd.of (m := 64) (by decide))); (solve | (repeat' first | assumption | exact Bd.zero | exact Bd.one | exact Bd.mone | apply Bd.mul | apply Bd.add | apply Bd.sub | apply Bd.neg | exact Bd.of (m := 64) (by decide))); decide) | (refine okS_of ?_ rfl rfl; ((repeat' apply And.intro) <;> first | exact trivial | rfl | (show Bd _ _; apply Bd.up; (solve | (repeat' first | assumption | exact Bd.zero | exact Bd.one | exact Bd.mone | apply Bd.mul | apply Bd.add | apply Bd.sub | apply Bd.neg | exact Bd.of (m := 64) (by decide))); decide))) | (((repeat' apply And.intro) <;> first | exact trivial | assumption | (apply Bd.up; (solve | (repeat' first | assumption | exact Bd.zero | exact Bd.one | exact Bd.mone | apply Bd.mul | apply Bd.add | apply Bd.sub | apply Bd.neg | exact Bd.of (m := 64) (by decide))); decide))) | decide)); conv => whnf)))))
      refine ⟨mul_l (by decide), ?_⟩
      (((conv => whnf); (repeat' ((apply And.intro; (solve | (first | exact trivial | exact rfl | exact ownB_i rfl | (apply mulOk_bd; (solve | (repeat' first | assumption | exact Bd.zero | exact Bd.one | exact Bd.mone | apply Bd.mul | apply Bd.add | apply Bd.sub | apply Bd.neg | exact Bd.of (m := 64) (by decide))); (solve | (repeat' first | assumption | exact Bd.zero | exact Bd.one | exact Bd.mone | apply Bd.mul | apply Bd.add | apply Bd.sub | apply Bd.neg | exact Bd.of (m := 64) (by decide))); decide) | (refine okS_of ?_ rfl rfl; ((repeat' apply And.intro) <;> first | exact trivial | rfl | (show Bd _ _; apply Bd.up; (solve | (repeat' first | assumption | exact Bd.zero | exact Bd.one | exact Bd.mone | apply Bd.mul | apply Bd.add | apply Bd.sub | apply Bd.neg | exact Bd.of (m := 64) (by decide))); decide))) | (((repeat' apply And.intro) <;> first | exact trivial | assumption | (apply Bd.up; (solve | (repeat' first | assumption | exact Bd.zero | exact Bd.one | exact Bd.mone | apply Bd.mul | apply Bd.add | apply Bd.sub | apply Bd.neg | exact Bd.of (m := 64) (by decide))); decide))) | decide)); conv => whnf)))))
      refine ⟨mul_l (by omega), ?_⟩
      (((conv => whnf); (repeat' ((apply And.intro; (solve | (first | exact trivial | exact rfl | exact ownB_i rfl | (apply mulOk_bd; (solve | (repeat' first | assumption | exact Bd.zero | exact Bd.one | exact Bd.mone | apply Bd.mul | apply Bd.add | apply Bd.sub | apply Bd.neg | exact Bd.of (m := 64) (by decide))); (solve | (repeat' first | assumption | exact Bd.zero | exact Bd.one | exact Bd.mone | apply Bd.mul | apply Bd.add | apply Bd.sub | apply Bd.neg | exact Bd.of (m := 64) (by decide))); decide) | (refine okS_of ?_ rfl rfl; ((repeat' apply And.intro) <;> first | exact trivial | rfl | (show Bd _ _; apply Bd.up; (solve | (repeat' first | assumption | exact Bd.zero | exact Bd.one | exact Bd.mone | apply Bd.mul | apply Bd.add | apply Bd.sub | apply Bd.neg | exact Bd.of (m := 64) (by decide))); decide))) | (((repeat' apply And.intro) <;> first | exact trivial | assumption | (apply Bd.up; (solve | (repeat' first | assumption | exact Bd.zero | exact Bd.one | exact Bd.mone | apply Bd.mul | apply Bd.add | apply Bd.sub | apply Bd.neg | exact Bd.of (m := 64) (by decide))); decide))) | decide)); conv => whnf)))))
      refine ⟨mul_l (by decide), ?_⟩
      (((conv => whnf); (repeat' ((apply And.intro; (solve | (first | exact trivial | exact rfl | exact ownB_i rfl | (apply mulOk_bd; (solve | (repeat' first | assumption | exact Bd.zero | exact Bd.one | exact Bd.mone | apply Bd.mul | apply Bd.add | apply Bd.sub | apply Bd.neg | exact Bd.of (m := 64) (by decide))); (solve | (repeat' first | assumption | exact Bd.zero | exact Bd.one | exact Bd.mone | apply Bd.mul | apply Bd.add | apply Bd.sub | apply Bd.neg | exact Bd.of (m := 64) (by decide))); decide) | (refine okS_of ?_ rfl rfl; ((repeat' apply And.intro) <;> first | exact trivial | rfl | (show Bd _ _; apply Bd.up; (solve | (repeat' first | assumption | exact Bd.zero | exact Bd.one | exact Bd.mone | apply Bd.mul | apply Bd.add | apply Bd.sub | apply Bd.neg | exact Bd.of (m := 64) (by decide))); decide))) | (((repeat' apply And.intro) <;> first | exact trivial | assumption | (apply Bd.up; (solve | (repeat' first | assumption | exact Bd.zero | exact Bd.one | exact Bd.mone | apply Bd.mul | apply Bd.add | apply Bd.sub | apply Bd.neg | exact Bd.of (m := 64) (by decide))); decide))) | decide)); conv => whnf)))))
      refine ⟨mul_l (by omega), ?_⟩
      (((conv => whnf); (repeat' ((apply And.intro; (solve | (first | exact trivial | exact rfl | exact ownB_i rfl | (apply mulOk_bd; (solve | (repeat' first | assumption | exact Bd.zero | exact Bd.one | exact Bd.mone | apply Bd.mul | apply Bd.add | apply Bd.sub | apply Bd.neg | exact Bd.of (m := 64) (by decide))); (solve | (repeat' first | assumption | exact Bd.zero | exact Bd.one | exact Bd.mone | apply Bd.mul | apply Bd.add | apply Bd.sub | apply Bd.neg | exact Bd.of (m := 64) (by decide))); decide) | (refine okS_of ?_ rfl rfl; ((repeat' apply And.intro) <;> first | exact trivial | rfl | (show Bd _ _; apply Bd.up; (solve | (repeat' first | assumption | exact Bd.zero | exact Bd.one | exact Bd.mone | apply Bd.mul | apply Bd.add | apply Bd.sub | apply Bd.neg | exact Bd.of (m := 64) (by decide))); decide))) | (((repeat' apply And.intro) <;> first | exact trivial | assumption | (apply Bd.up; (solve | (repeat' first | assumption | exact Bd.zero | exact Bd.one | exact Bd.mone | apply Bd.mul | apply Bd.add | apply Bd.sub | apply Bd.neg | exact Bd.of (m := 64) (by decide))); decide))) | decide)); conv => whnf)))))
      refine ⟨⟨by decide, by decide, by omega⟩, ?_⟩
      (((conv => whnf); (repeat' ((apply And.intro; (solve | (first | exact trivial | exact rfl | exact ownB_i rfl | (apply mulOk_bd; (solve | (repeat' first | assumption | exact Bd.zero | exact Bd.one | exact Bd.mone | apply Bd.mul | apply Bd.add | apply Bd.sub | apply Bd.neg | exact Bd.of (m := 64) (by decide))); (solve | (repeat' first | assumption | exact Bd.zero | exact Bd.one | exact Bd.mone | apply Bd.mul | apply Bd.add | apply Bd.sub | apply Bd.neg | exact Bd.of (m := 64) (by decide))); decide) | (refine okS_of ?_ rfl rfl; ((repeat' apply And.intro) <;> first | exact trivial | rfl | (show Bd _ _; apply Bd.up; (solve | (repeat' first | assumption | exact Bd.zero | exact Bd.one | exact Bd.mone | apply Bd.mul | apply Bd.add | apply Bd.sub | apply Bd.neg | exact Bd.of (m := 64) (by decide))); decide))) | (((repeat' apply And.intro) <;> first | exact trivial | assumption | (apply Bd.up; (solve | (repeat' first | assumption | exact Bd.zero | exact Bd.one | exact Bd.mone | apply Bd.mul | apply Bd.add | apply Bd.sub | apply Bd.neg | exact Bd.of (m := 64) (by decide))); decide))) | decide)); conv => whnf)))))
      refine kn _ (stepN fun K kn kr kb kc => ?_)
      (((conv => whnf); (repeat' ((apply And.intro; (solve | (first | exact trivial | exact rfl | exact ownB_i rfl | (apply mulOk_bd; (solve | (repeat' first | assumption | exact Bd.zero | exact Bd.one | exact Bd.mone | apply Bd.mul | apply Bd.add | apply Bd.sub | apply Bd.neg | exact Bd.of (m := 64) (by decide))); (solve | (repeat' first | assumption | exact Bd.zero | exact Bd.one | exact Bd.mone | apply Bd.mul | apply Bd.add | apply Bd.sub | apply Bd.neg | exact Bd.of (m := 64) (by decide))); decide) | (refine okS_of ?_ rfl rfl; ((repeat' apply And.intro) <;> first | exact trivial | rfl | (show Bd _ _; apply Bd.up; (solve | (repeat' first | assumption | exact Bd.zero | exact Bd.one | exact Bd.mone | apply Bd.mul | apply Bd.add | apply Bd.sub | apply Bd.neg | exact Bd.of (m := 64) (by decide))); decide))) | (((repeat' apply And.intro) <;> first | exact trivial | assumption | (apply Bd.up; (solve | (repeat' first | assumption | exact Bd.zero | exact Bd.one | exact Bd.mone | apply Bd.mul | apply Bd.add | apply Bd.sub | apply Bd.neg | exact Bd.of (m := 64) (by decide))); decide))) | decide)); conv => whnf)))))
      refine kr _ _ ?_; exact q _ _ (hmod _) ⟨_, _, _, rfl, by omega, by omega⟩
    (((conv => whnf); (repeat' ((apply And.intro; (solve | (first | exact trivial | exact rfl | exact ownB_i rfl | (apply mulOk_bd; (solve | (repeat' first | assumption | exact Bd.zero | exact Bd.one | exact Bd.mone | apply Bd.mul | apply Bd.add | apply Bd.sub | apply Bd.neg | exact Bd.of (m := 64) (by decide))); (solve | (repeat' first | assumption | exact Bd.zero | exact Bd.one | exact Bd.mone | apply Bd.mul | apply Bd.add | apply Bd.sub | apply Bd.neg | exact Bd.of (m := 64) (by decide))); decide) | (refine okS_of ?_ rfl rfl; ((repeat' apply And.intro) <;> first | exact trivial | rfl | (show Bd _ _; apply Bd.up; (solve | (repeat' first | assumption | exact Bd.zero | exact Bd.one | exact Bd.mone | apply Bd.mul | apply Bd.add | apply Bd.sub | apply Bd.neg | exact Bd.of (m := 64) (by decide))); decide))) | (((repeat' apply And.intro) <;> first | exact trivial | assumption | (apply Bd.up; (solve | (repeat' first | assumption | exact Bd.zero | exact Bd.one | exact Bd.mone | apply Bd.mul | apply Bd.add | apply Bd.sub | apply Bd.neg | exact Bd.of (m := 64) (by decide))); decide))) | decide)); conv => whnf)))))
    refine br_both (fun h1 => ?_) fun h1 => ?_
    · (((conv => whnf); (repeat' ((apply And.intro; (solve | (first | exact trivial | exact rfl | exact ownB_i rfl | (apply mulOk_bd; (solve | (repeat' first | assumption | exact Bd.zero | exact Bd.one | exact Bd.mone | apply Bd.mul | apply Bd.add | apply Bd.sub | apply Bd.neg | exact Bd.of (m := 64) (by decide))); (solve | (repeat' first | assumption | exact Bd.zero | exact Bd.one | exact Bd.mone | apply Bd.mul | apply Bd.add | apply Bd.sub | apply Bd.neg | exact Bd.of (m := 64) (by decide))); decide) | (refine okS_of ?_ rfl rfl; ((repeat' apply And.intro) <;> first | exact trivial | rfl | (show Bd _ _; apply Bd.up; (solve | (repeat' first | assumption | exact Bd.zero | exact Bd.one | exact Bd.mone | apply Bd.mul | apply Bd.add | apply Bd.sub | apply Bd.neg | exact Bd.of (m := 64) (by decide))); decide))) | (((repeat' apply And.intro) <;> first | exact trivial | assumption | (apply Bd.up; (solve | (repeat' first | assumption | exact Bd.zero | exact Bd.one | exact Bd.mone | apply Bd.mul | apply Bd.add | apply Bd.sub | apply Bd.neg | exact Bd.of (m := 64) (by decide))); decide))) | decide)); conv => whnf)))))
      refine br_both (fun _ => ?_) fun _ => ?_
      · (((conv => whnf); (repeat' ((apply And.intro; (solve | (first | exact trivial | exact rfl | exact ownB_i rfl | (apply mulOk_bd; (solve | (repeat' first | assumption | exact Bd.zero | exact Bd.one | exact Bd.mone | apply Bd.mul | apply Bd.add | apply Bd.sub | apply Bd.neg | exact Bd.of (m := 64) (by decide))); (solve | (repeat' first | assumption | exact Bd.zero | exact Bd.one | exact Bd.mone | apply Bd.mul | apply Bd.add | apply Bd.sub | apply Bd.neg | exact Bd.of (m := 64) (by decide))); decide) | (refine okS_of ?_ rfl rfl; ((repeat' apply And.intro) <;> first | exact trivial | rfl | (show Bd _ _; apply Bd.up; (solve | (repeat' first | assumption | exact Bd.zero | exact Bd.one | exact Bd.mone | apply Bd.mul | apply Bd.add | apply Bd.sub | apply Bd.neg | exact Bd.of (m := 64) (by decide))); decide))) | (((repeat' apply And.intro) <;> first | exact trivial | assumption | (apply Bd.up; (solve | (repeat' first | assumption | exact Bd.zero | exact Bd.one | exact Bd.mone | apply Bd.mul | apply Bd.add | apply Bd.sub | apply Bd.neg | exact Bd.of (m := 64) (by decide))); decide))) | decide)); conv => whnf)))))
        refine ⟨mul_l (by decide), ?_⟩
        (((conv => whnf); (repeat' ((apply And.intro; (solve | (first | exact trivial | exact rfl | exact ownB_i rfl | (apply mulOk_bd; (solve | (repeat' first | assumption | exact Bd.zero | exact Bd.one | exact Bd.mone | apply Bd.mul | apply Bd.add | apply Bd.sub | apply Bd.neg | exact Bd.of (m := 64) (by decide))); (solve | (repeat' first | assumption | exact Bd.zero | exact Bd.one | exact Bd.mone | apply Bd.mul | apply Bd.add | apply Bd.sub | apply Bd.neg | exact Bd.of (m := 64) (by decide))); decide) | (refine okS_of ?_ rfl rfl; ((repeat' apply And.intro) <;> first | exact trivial | rfl | (show Bd _ _; apply Bd.up; (solve | (repeat' first | assumption | exact Bd.zero | exact Bd.one | exact Bd.mone | apply Bd.mul | apply Bd.add | apply Bd.sub | apply Bd.neg | exact Bd.of (m := 64) (by decide))); decide))) | (((repeat' apply And.intro) <;> first | exact trivial | assumption | (apply Bd.up; (solve | (repeat' first | assumption | exact Bd.zero | exact Bd.one | exact Bd.mone | apply Bd.mul | apply Bd.add | apply Bd.sub | apply Bd.neg | exact Bd.of (m := 64) (by decide))); decide))) | decide)); conv => whnf)))))
        refine ⟨d1, ?_⟩; (((conv => whnf); (repeat' ((apply And.intro; (solve | (first | exact trivial | exact rfl | exact ownB_i rfl | (apply mulOk_bd; (solve | (repeat' first | assumption | exact Bd.zero | exact Bd.one | exact Bd.mone | apply Bd.mul | apply Bd.add | apply Bd.sub | apply Bd.neg | exact Bd.of (m := 64) (by decide))); (solve | (repeat' first | assumption | exact Bd.zero | exact Bd.one | exact Bd.mone | apply Bd.mul | apply Bd.add | apply Bd.sub | apply Bd.neg | exact Bd.of (m := 64) (by decide))); decide) | (refine okS_of ?_ rfl rfl; ((repeat' apply And.intro) <;> first | exact trivial | rfl | (show Bd _ _; apply Bd.up; (solve | (repeat' first | assumption | exact Bd.zero | exact Bd.one | exact Bd.mone | apply Bd.mul | apply Bd.add | apply Bd.sub | apply Bd.neg | exact Bd.of (m := 64) (by decide))); decide))) | (((repeat' apply And.intro) <;> first | exact trivial | assumption | (apply Bd.up; (solve | (repeat' first | assumption | exact Bd.zero | exact Bd.one | exact Bd.mone | apply Bd.mul | apply Bd.add | apply Bd.sub | apply Bd.neg | exact Bd.of (m := 64) (by decide))); decide))) | decide)); conv => whnf))))); refine kr _ _ ?_; exact q _ _ (hmod _) ⟨_, _, _, rfl, by omega, by omega⟩
      · (((conv => whnf); (repeat' ((apply And.intro; (solve | (first | exact trivial | exact rfl | exact ownB_i rfl | (apply mulOk_bd; (solve | (repeat' first | assumption | exact Bd.zero | exact Bd.one | exact Bd.mone | apply Bd.mul | apply Bd.add | apply Bd.sub | apply Bd.neg | exact Bd.of (m := 64) (by decide))); (solve | (repeat' first | assumption | exact Bd.zero | exact Bd.one | exact Bd.mone | apply Bd.mul | apply Bd.add | apply Bd.sub | apply Bd.neg | exact Bd.of (m := 64) (by decide))); decide) | (refine okS_of ?_ rfl rfl; ((repeat' apply And.intro) <;> first | exact trivial | rfl | (show Bd _ _; apply Bd.up; (solve | (repeat' first | assumption | exact Bd.zero | exact Bd.one | exact Bd.mone | apply Bd.mul | apply Bd.add | apply Bd.sub | apply Bd.neg | exact Bd.of (m := 64) (by decide))); decide))) | (((repeat' apply And.intro) <;> first | exact trivial | assumption | (apply Bd.up; (solve | (repeat' first | assumption | exact Bd.zero | exact Bd.one | exact Bd.mone | apply Bd.mul | apply Bd.add | apply Bd.sub | apply Bd.neg | exact Bd.of (m := 64) (by decide))); decide))) | decide)); conv => whnf)))))
        exact fin
    · rw [show decide (at_ < ((cells.map D.int).length : Int)) = false by simpa using h1]
      exact fin
  (((conv => whnf); (repeat' ((apply And.intro; (solve | (first | exact trivial | exact rfl | exact ownB_i rfl | (apply mulOk_bd; (solve | (repeat' first | assumption | exact Bd.zero | exact Bd.one | exact Bd.mone | apply Bd.mul | apply Bd.add | apply Bd.sub | apply Bd.neg | exact Bd.of (m := 64) (by decide))); (solve | (repeat' first | assumption | exact Bd.zero | exact Bd.one | exact Bd.mone | apply Bd.mul | apply Bd.add | apply Bd.sub | apply Bd.neg | exact Bd.of (m := 64) (by decide))); decide) | (refine okS_of ?_ rfl rfl; ((repeat' apply And.intro) <;> first | exact trivial | rfl | (show Bd _ _; apply Bd.up; (solve | (repeat' first | assumption | exact Bd.zero | exact Bd.one | exact Bd.mone | apply Bd.mul | apply Bd.add | apply Bd.sub | apply Bd.neg | exact Bd.of (m := 64) (by decide))); decide))) | (((repeat' apply And.intro) <;> first | exact trivial | assumption | (apply Bd.up; (solve | (repeat' first | assumption | exact Bd.zero | exact Bd.one | exact Bd.mone | apply Bd.mul | apply Bd.add | apply Bd.sub | apply Bd.neg | exact Bd.of (m := 64) (by decide))); decide))) | decide)); conv => whnf)))))
  refine ⟨okL _, ?_⟩
  (((conv => whnf); (repeat' ((apply And.intro; (solve | (first | exact trivial | exact rfl | exact ownB_i rfl | (apply mulOk_bd; (solve | (repeat' first | assumption | exact Bd.zero | exact Bd.one | exact Bd.mone | apply Bd.mul | apply Bd.add | apply Bd.sub | apply Bd.neg | exact Bd.of (m := 64) (by decide))); (solve | (repeat' first | assumption | exact Bd.zero | exact Bd.one | exact Bd.mone | apply Bd.mul | apply Bd.add | apply Bd.sub | apply Bd.neg | exact Bd.of (m := 64) (by decide))); decide) | (refine okS_of ?_ rfl rfl; ((repeat' apply And.intro) <;> first | exact trivial | rfl | (show Bd _ _; apply Bd.up; (solve | (repeat' first | assumption | exact Bd.zero | exact Bd.one | exact Bd.mone | apply Bd.mul | apply Bd.add | apply Bd.sub | apply Bd.neg | exact Bd.of (m := 64) (by decide))); decide))) | (((repeat' apply And.intro) <;> first | exact trivial | assumption | (apply Bd.up; (solve | (repeat' first | assumption | exact Bd.zero | exact Bd.one | exact Bd.mone | apply Bd.mul | apply Bd.add | apply Bd.sub | apply Bd.neg | exact Bd.of (m := 64) (by decide))); decide))) | decide)); conv => whnf)))))
  refine br_both (fun he => ?_) fun he => ?_
  · have hc : cells ≠ [] := fun z => by
      subst z
      rw [eqQ_eq] at he
      exact absurd he (by decide)
    have hl : 0 < cells.length := List.length_pos_iff.mpr hc
    have h0 : 0 ≤ at_ % (cells.length : Int) := Int.emod_nonneg _ (by omega)
    have h1 : at_ % (cells.length : Int) < cells.length := Int.emod_lt_of_pos _ (by omega)
    (((conv => whnf); (repeat' ((apply And.intro; (solve | (first | exact trivial | exact rfl | exact ownB_i rfl | (apply mulOk_bd; (solve | (repeat' first | assumption | exact Bd.zero | exact Bd.one | exact Bd.mone | apply Bd.mul | apply Bd.add | apply Bd.sub | apply Bd.neg | exact Bd.of (m := 64) (by decide))); (solve | (repeat' first | assumption | exact Bd.zero | exact Bd.one | exact Bd.mone | apply Bd.mul | apply Bd.add | apply Bd.sub | apply Bd.neg | exact Bd.of (m := 64) (by decide))); decide) | (refine okS_of ?_ rfl rfl; ((repeat' apply And.intro) <;> first | exact trivial | rfl | (show Bd _ _; apply Bd.up; (solve | (repeat' first | assumption | exact Bd.zero | exact Bd.one | exact Bd.mone | apply Bd.mul | apply Bd.add | apply Bd.sub | apply Bd.neg | exact Bd.of (m := 64) (by decide))); decide))) | (((repeat' apply And.intro) <;> first | exact trivial | assumption | (apply Bd.up; (solve | (repeat' first | assumption | exact Bd.zero | exact Bd.one | exact Bd.mone | apply Bd.mul | apply Bd.add | apply Bd.sub | apply Bd.neg | exact Bd.of (m := 64) (by decide))); decide))) | decide)); conv => whnf)))))
    rw [List.length_map]
    refine ⟨by omega, ?_⟩
    (conv => whnf)
    have z := at_nat (xs := cells.map D.int) (k := (at_ % (cells.length : Int)).toNat) (x := .int (cells[(at_ % (cells.length : Int)).toNat]'(by omega))) (by
      rw [List.getElem?_map, List.getElem?_eq_getElem (by omega)]
      rfl)
    rw [Int.toNat_of_nonneg h0] at z
    refine on1_i z ?_
    (conv => whnf)
    exact step _
  · (((conv => whnf); (repeat' ((apply And.intro; (solve | (first | exact trivial | exact rfl | exact ownB_i rfl | (apply mulOk_bd; (solve | (repeat' first | assumption | exact Bd.zero | exact Bd.one | exact Bd.mone | apply Bd.mul | apply Bd.add | apply Bd.sub | apply Bd.neg | exact Bd.of (m := 64) (by decide))); (solve | (repeat' first | assumption | exact Bd.zero | exact Bd.one | exact Bd.mone | apply Bd.mul | apply Bd.add | apply Bd.sub | apply Bd.neg | exact Bd.of (m := 64) (by decide))); decide) | (refine okS_of ?_ rfl rfl; ((repeat' apply And.intro) <;> first | exact trivial | rfl | (show Bd _ _; apply Bd.up; (solve | (repeat' first | assumption | exact Bd.zero | exact Bd.one | exact Bd.mone | apply Bd.mul | apply Bd.add | apply Bd.sub | apply Bd.neg | exact Bd.of (m := 64) (by decide))); decide))) | (((repeat' apply And.intro) <;> first | exact trivial | assumption | (apply Bd.up; (solve | (repeat' first | assumption | exact Bd.zero | exact Bd.one | exact Bd.mone | apply Bd.mul | apply Bd.add | apply Bd.sub | apply Bd.neg | exact Bd.of (m := 64) (by decide))); decide))) | decide)); conv => whnf)))))
    exact step _
theorem sp_one : ∀ ss R, oneF ss R → runF [drawF] C b__law_one p__law_one.length N__law_one.length ss R := by
  intro ss R h
  unfold oneF at h
  ((split at h; rotate_left; exact h.elim))
  rename_i cr ds
  obtain ⟨n, hc, ⟨l1, l2⟩, q⟩ := h
  refine runN_i _ C ⟨⟨rfl, by decide⟩, rfl⟩ ?_
  (((conv => whnf); (repeat' ((apply And.intro; (solve | (first | exact trivial | exact rfl | exact ownB_i rfl | (apply mulOk_bd; (solve | (repeat' first | assumption | exact Bd.zero | exact Bd.one | exact Bd.mone | apply Bd.mul | apply Bd.add | apply Bd.sub | apply Bd.neg | exact Bd.of (m := 64) (by decide))); (solve | (repeat' first | assumption | exact Bd.zero | exact Bd.one | exact Bd.mone | apply Bd.mul | apply Bd.add | apply Bd.sub | apply Bd.neg | exact Bd.of (m := 64) (by decide))); decide) | (refine okS_of ?_ rfl rfl; ((repeat' apply And.intro) <;> first | exact trivial | rfl | (show Bd _ _; apply Bd.up; (solve | (repeat' first | assumption | exact Bd.zero | exact Bd.one | exact Bd.mone | apply Bd.mul | apply Bd.add | apply Bd.sub | apply Bd.neg | exact Bd.of (m := 64) (by decide))); decide))) | (((repeat' apply And.intro) <;> first | exact trivial | assumption | (apply Bd.up; (solve | (repeat' first | assumption | exact Bd.zero | exact Bd.one | exact Bd.mone | apply Bd.mul | apply Bd.add | apply Bd.sub | apply Bd.neg | exact Bd.of (m := 64) (by decide))); decide))) | decide)); conv => whnf)))))
  refine ⟨n, hc, ⟨by omega, by omega⟩, fun r cr' hr hc' => ?_⟩
  have e : (r : Int) = ((r.toNat : Nat) : Int) := by omega
  have lt : r.toNat < ds.length := by omega
  have z := at_nat (xs := ds) (List.getElem?_eq_getElem lt)
  rw [← e] at z
  (((conv => whnf); (repeat' ((apply And.intro; (solve | (first | exact trivial | exact rfl | exact ownB_i rfl | (apply mulOk_bd; (solve | (repeat' first | assumption | exact Bd.zero | exact Bd.one | exact Bd.mone | apply Bd.mul | apply Bd.add | apply Bd.sub | apply Bd.neg | exact Bd.of (m := 64) (by decide))); (solve | (repeat' first | assumption | exact Bd.zero | exact Bd.one | exact Bd.mone | apply Bd.mul | apply Bd.add | apply Bd.sub | apply Bd.neg | exact Bd.of (m := 64) (by decide))); decide) | (refine okS_of ?_ rfl rfl; ((repeat' apply And.intro) <;> first | exact trivial | rfl | (show Bd _ _; apply Bd.up; (solve | (repeat' first | assumption | exact Bd.zero | exact Bd.one | exact Bd.mone | apply Bd.mul | apply Bd.add | apply Bd.sub | apply Bd.neg | exact Bd.of (m := 64) (by decide))); decide))) | (((repeat' apply And.intro) <;> first | exact trivial | assumption | (apply Bd.up; (solve | (repeat' first | assumption | exact Bd.zero | exact Bd.one | exact Bd.mone | apply Bd.mul | apply Bd.add | apply Bd.sub | apply Bd.neg | exact Bd.of (m := 64) (by decide))); decide))) | decide)); conv => whnf)))))
  refine on1_i z ?_
  (conv => whnf)
  exact q _ _ (List.getElem_mem _) hc'

end
end DL

namespace DL
open PySem PySem.Spec PyProof.Rows L2
/-! odd values -/
def odds (i : Int) : List D := [.int i, .int i, .non, .bl true, .bl false, .str (toString i), .lst [.int i], .tup [.int i], .dct [] [], .dct [.inl i] [.int 1], .str "", .lst [], .tup []]
def Od (d : D) : Prop := ∃ i, Bd 150 i ∧ d ∈ odds i
theorem forr_s {F : List Fe} {C : List D} {g : Tg} {it : It} {b : Sms} {ρ : En} {K : Out → En → Prop} (ds : List D) (ρ1 : En) (hi : ∀ X : List D → Option Nat → En → Prop, X ds none ρ1 → itmN F C it ρ X)
    (h : forN none ρ1 (tgN g) (fun ρ2 K => smsN F C b ρ2 K) ds ρ1 K) : smN F C (.forr g it b) ρ K := by
  simp only [smN]
  apply hi
  simp only [force_eq]
  exact h
def freeB (ρ : En) (i : Nat) : Bool := match ρ[i]? with
  | some .no => true
  | some (.va _) => true
  | _ => false
theorem tg0 {i : Nat} {d : D} {ρ : En} {R : En → Prop} (h : freeB ρ i = true) (k : R (ρ.set i (.va d))) : tgN (.name i) d ρ R := by
  unfold freeB at h
  simp only [tgN]
  split at h
  · rename_i q; first | exact k | (rw [q]; exact k)
  · rename_i q; first | exact k | (rw [q]; exact k)
  · cases h
theorem tg1 {i : Nat} {d : D} {ρ : En} {R : En → Prop} (ρ' : En) (h : freeB ρ i = true) (e : ρ.set i (.va d) = ρ') (k : R ρ') : tgN (.name i) d ρ fun ρ1 => force ρ1 R := by
  refine tg0 h ?_
  rw [force_eq, e]
  exact k
theorem tg2 {i j : Nat} {x y : D} {ρ : En} {R : En → Prop} (ρ' : En) (h : freeB ρ i = true) (h2 : freeB (ρ.set i (.va x)) j = true) (e : (ρ.set i (.va x)).set j (.va y) = ρ') (k : R ρ') : tgN (.tup (.cons (.name i) (.cons (.name j) .nil))) (.tup [x, y]) ρ fun ρ1 => force ρ1 R := by
  have : tgsN (.cons (.name i) (.cons (.name j) .nil)) [x, y] ρ fun ρ1 => force ρ1 R := by
    simp only [tgsN]
    refine tg0 h (tg0 h2 ?_)
    rw [force_eq, e]
    exact k
  simp only [tgN]
  rw [bk_eq]
  exact ⟨rfl, this⟩
section
variable (F : List Fe) (C : List D)
def oddF : Fe := fun ss R => ∃ cr n, ss = [.mu cr] ∧ Cr (n + 3) cr ∧ ∀ d cr', Od d → Cr n cr' → R (.va d) [.mu cr']
theorem sp_odd : ∀ ss R, oddF ss R → runF [oneF, drawF] C b__law_odd p__law_odd.length N__law_odd.length ss R := by
  rintro ss R ⟨cr, n, rfl, hc, q⟩
  refine runN_i _ C ⟨⟨rfl, by decide⟩, rfl⟩ ?_
  (((conv => whnf); (repeat' ((apply And.intro; (solve | (first | exact trivial | exact rfl | exact ownB_i rfl | (apply mulOk_bd; (solve | (repeat' first | assumption | exact Bd.zero | exact Bd.one | exact Bd.mone | apply Bd.mul | apply Bd.add | apply Bd.sub | apply Bd.neg | exact Bd.of (m := 64) (by decide))); (solve | (repeat' first | assumption | exact Bd.zero | exact Bd.one | exact Bd.mone | apply Bd.mul | apply Bd.add | apply Bd.sub | apply Bd.neg | exact Bd.of (m := 64) (by decide))); decide) | (refine okS_of ?_ rfl rfl; ((repeat' apply And.intro) <;> first | exact trivial | rfl | (show Bd _ _; apply Bd.up; (solve | (repeat' first | assumption | exact Bd.zero | exact Bd.one | exact Bd.mone | apply Bd.mul | apply Bd.add | apply Bd.sub | apply Bd.neg | exact Bd.of (m := 64) (by decide))); decide))) | (((repeat' apply And.intro) <;> first | exact trivial | assumption | (apply Bd.up; (solve | (repeat' first | assumption | exact Bd.zero | exact Bd.one | exact Bd.mone | apply Bd.mul | apply Bd.add | apply Bd.sub | apply Bd.neg | exact Bd.of (m := 64) (by decide))); decide))) | decide)); conv => whnf)))))
  refine ⟨n + 2, hc, ⟨by decide, by decide⟩, fun r cr1 hr hc1 => ?_⟩
  (((conv => whnf); (repeat' ((apply And.intro; (solve | (first | exact trivial | exact rfl | exact ownB_i rfl | (apply mulOk_bd; (solve | (repeat' first | assumption | exact Bd.zero | exact Bd.one | exact Bd.mone | apply Bd.mul | apply Bd.add | apply Bd.sub | apply Bd.neg | exact Bd.of (m := 64) (by decide))); (solve | (repeat' first | assumption | exact Bd.zero | exact Bd.one | exact Bd.mone | apply Bd.mul | apply Bd.add | apply Bd.sub | apply Bd.neg | exact Bd.of (m := 64) (by decide))); decide) | (refine okS_of ?_ rfl rfl; ((repeat' apply And.intro) <;> first | exact trivial | rfl | (show Bd _ _; apply Bd.up; (solve | (repeat' first | assumption | exact Bd.zero | exact Bd.one | exact Bd.mone | apply Bd.mul | apply Bd.add | apply Bd.sub | apply Bd.neg | exact Bd.of (m := 64) (by decide))); decide))) | (((repeat' apply And.intro) <;> first | exact trivial | assumption | (apply Bd.up; (solve | (repeat' first | assumption | exact Bd.zero | exact Bd.one | exact Bd.mone | apply Bd.mul | apply Bd.add | apply Bd.sub | apply Bd.neg | exact Bd.of (m := 64) (by decide))); decide))) | decide)); conv => whnf)))))
  refine ⟨n + 1, hc1, ⟨Nat.succ_pos _, by show 9 < 1000; decide⟩, fun d cr2 hd hc2 => ?_⟩
  obtain ⟨i, rfl, hi⟩ : ∃ i, d = .int i ∧ Bd 150 i := by
    simp only [List.mem_cons, List.not_mem_nil, or_false] at hd
    rcases hd with rfl | rfl | rfl | rfl | rfl | rfl | rfl | rfl | rfl <;> exact ⟨_, rfl, by unfold Bd; first | decide | omega⟩
  (((conv => whnf); (repeat' ((apply And.intro; (solve | (first | exact trivial | exact rfl | exact ownB_i rfl | (apply mulOk_bd; (solve | (repeat' first | assumption | exact Bd.zero | exact Bd.one | exact Bd.mone | apply Bd.mul | apply Bd.add | apply Bd.sub | apply Bd.neg | exact Bd.of (m := 64) (by decide))); (solve | (repeat' first | assumption | exact Bd.zero | exact Bd.one | exact Bd.mone | apply Bd.mul | apply Bd.add | apply Bd.sub | apply Bd.neg | exact Bd.of (m := 64) (by decide))); decide) | (refine okS_of ?_ rfl rfl; ((repeat' apply And.intro) <;> first | exact trivial | rfl | (show Bd _ _; apply Bd.up; (solve | (repeat' first | assumption | exact Bd.zero | exact Bd.one | exact Bd.mone | apply Bd.mul | apply Bd.add | apply Bd.sub | apply Bd.neg | exact Bd.of (m := 64) (by decide))); decide))) | (((repeat' apply And.intro) <;> first | exact trivial | assumption | (apply Bd.up; (solve | (repeat' first | assumption | exact Bd.zero | exact Bd.one | exact Bd.mone | apply Bd.mul | apply Bd.add | apply Bd.sub | apply Bd.neg | exact Bd.of (m := 64) (by decide))); decide))) | decide)); conv => whnf)))))
  refine ⟨short_int (by decide) hi, ?_⟩
  (((conv => whnf); (repeat' ((apply And.intro; (solve | (first | exact trivial | exact rfl | exact ownB_i rfl | (apply mulOk_bd; (solve | (repeat' first | assumption | exact Bd.zero | exact Bd.one | exact Bd.mone | apply Bd.mul | apply Bd.add | apply Bd.sub | apply Bd.neg | exact Bd.of (m := 64) (by decide))); (solve | (repeat' first | assumption | exact Bd.zero | exact Bd.one | exact Bd.mone | apply Bd.mul | apply Bd.add | apply Bd.sub | apply Bd.neg | exact Bd.of (m := 64) (by decide))); decide) | (refine okS_of ?_ rfl rfl; ((repeat' apply And.intro) <;> first | exact trivial | rfl | (show Bd _ _; apply Bd.up; (solve | (repeat' first | assumption | exact Bd.zero | exact Bd.one | exact Bd.mone | apply Bd.mul | apply Bd.add | apply Bd.sub | apply Bd.neg | exact Bd.of (m := 64) (by decide))); decide))) | (((repeat' apply And.intro) <;> first | exact trivial | assumption | (apply Bd.up; (solve | (repeat' first | assumption | exact Bd.zero | exact Bd.one | exact Bd.mone | apply Bd.mul | apply Bd.add | apply Bd.sub | apply Bd.neg | exact Bd.of (m := 64) (by decide))); decide))) | decide)); conv => whnf)))))
  refine ⟨n, hc2, ⟨Nat.succ_pos _, by show 13 < 1000; decide⟩, fun d cr3 hd hc3 => ?_⟩
  (((conv => whnf); (repeat' ((apply And.intro; (solve | (first | exact trivial | exact rfl | exact ownB_i rfl | (apply mulOk_bd; (solve | (repeat' first | assumption | exact Bd.zero | exact Bd.one | exact Bd.mone | apply Bd.mul | apply Bd.add | apply Bd.sub | apply Bd.neg | exact Bd.of (m := 64) (by decide))); (solve | (repeat' first | assumption | exact Bd.zero | exact Bd.one | exact Bd.mone | apply Bd.mul | apply Bd.add | apply Bd.sub | apply Bd.neg | exact Bd.of (m := 64) (by decide))); decide) | (refine okS_of ?_ rfl rfl; ((repeat' apply And.intro) <;> first | exact trivial | rfl | (show Bd _ _; apply Bd.up; (solve | (repeat' first | assumption | exact Bd.zero | exact Bd.one | exact Bd.mone | apply Bd.mul | apply Bd.add | apply Bd.sub | apply Bd.neg | exact Bd.of (m := 64) (by decide))); decide))) | (((repeat' apply And.intro) <;> first | exact trivial | assumption | (apply Bd.up; (solve | (repeat' first | assumption | exact Bd.zero | exact Bd.one | exact Bd.mone | apply Bd.mul | apply Bd.add | apply Bd.sub | apply Bd.neg | exact Bd.of (m := 64) (by decide))); decide))) | decide)); conv => whnf)))))
  exact q d cr3 ⟨i, hi, hd⟩ hc3
theorem Od.ok {d : D} (h : Od d) : sd 2 d := by
  obtain ⟨i, hi, h⟩ := h
  simp only [odds, List.mem_cons, List.not_mem_nil, or_false] at h
  have two : ∀ ds : List D, (ds = [] ∨ ds = [.int i]) → ds.length ≤ 10000 ∧ ∀ x ∈ ds, sd 1 x := by
    rintro ds (rfl | rfl)
    · exact ⟨by simp, by simp⟩
    · exact ⟨by simp, fun x hx => by
        simp at hx
        subst hx
        exact ⟨rfl, fun ds e => by cases e⟩⟩
  rcases h with rfl | rfl | rfl | rfl | rfl | rfl | rfl | rfl | rfl | rfl | rfl | rfl | rfl <;> refine ⟨rfl, fun ds e => ?_⟩ <;> first | (cases e; done) | (cases e; exact two _ (.inl rfl)) | (cases e; exact two _ (.inr rfl))
/-! what is told of bounds -/
def isWF (lo hi : Option Int) : Fe := fun ss R => ∃ d, ss = [.va d] ∧ okK d = true ∧ R (.va (.bl (withB d lo hi))) [.no]
def boundsF : Fe := fun ss R => ∃ cr n, ss = [.mu cr] ∧ Cr (n + 5) cr ∧ ∀ cr', Cr n cr' → R (.va (.bl true)) [.mu cr']
abbrev bF : List Fe := [oddF, drawF, isIntF, withinF, isIntF, isWF (some 0) (some 1), isWF (some 0) (some 7)]
theorem due_one (d : D) (lo hi : Option Int) (ok : okK d = true) {cr v l h : D} {a8 : Sl} (s8 : a8 = .no ∨ ∃ z, a8 = .ow z) (s7 : Sl) (h7 : s7 = .no ∨ (∃ z, s7 = .va z) ∨ ∃ z, s7 = .ow z) {K : Out → En → Prop}
    (k : K .nxt [.mu cr, .va v, .va l, .va h, .va d, .va (optD lo), .va (optD hi), .va (.bl (withB d lo hi)), a8]) :
    smN bF C (.asg (.name 7) (.bop true (.cons (.call 2 (.cons (.var 4) .nil)) (.cons (.bop false (.cons (.cmp .Is (.var 5) .non) (.cons (.cmp .GtE (.var 4) (.var 5)) .nil))) (.cons (.bop false (.cons (.cmp .Is (.var 6) .non) (.cons (.cmp .LtE (.var 4) (.var 6)) .nil))) .nil)))))
      [.mu cr, .va v, .va l, .va h, .va d, .va (optD lo), .va (optD hi), s7, a8] K := by
  rcases s8 with rfl | ⟨z8, rfl⟩ <;> rcases h7 with rfl | ⟨z7, rfl⟩ | ⟨z7, rfl⟩ <;> (
    cases hn : numB d with
    | false =>
      have e : withB d lo hi = false := by
        cases d <;> first | rfl | (cases hn; done)
      rw [e] at k
      (((conv => whnf); (repeat' ((apply And.intro; (solve | (first | exact trivial | exact rfl | exact ownB_i rfl | (apply mulOk_bd; (solve | (repeat' first | assumption | exact Bd.zero | exact Bd.one | exact Bd.mone | apply Bd.mul | apply Bd.add | apply Bd.sub | apply Bd.neg | exact Bd.of (m := 64) (by decide))); (solve | (repeat' first | assumption | exact Bd.zero | exact Bd.one | exact Bd.mone | apply Bd.mul | apply Bd.add | apply Bd.sub | apply Bd.neg | exact Bd.of (m := 64) (by decide))); decide) | (refine okS_of ?_ rfl rfl; ((repeat' apply And.intro) <;> first | exact trivial | rfl | (show Bd _ _; apply Bd.up; (solve | (repeat' first | assumption | exact Bd.zero | exact Bd.one | exact Bd.mone | apply Bd.mul | apply Bd.add | apply Bd.sub | apply Bd.neg | exact Bd.of (m := 64) (by decide))); decide))) | (((repeat' apply And.intro) <;> first | exact trivial | assumption | (apply Bd.up; (solve | (repeat' first | assumption | exact Bd.zero | exact Bd.one | exact Bd.mone | apply Bd.mul | apply Bd.add | apply Bd.sub | apply Bd.neg | exact Bd.of (m := 64) (by decide))); decide))) | decide)); conv => whnf)))))
      refine ⟨d, rfl, ok, ?_⟩
      rw [hn]
      (((conv => whnf); (repeat' ((apply And.intro; (solve | (first | exact trivial | exact rfl | exact ownB_i rfl | (apply mulOk_bd; (solve | (repeat' first | assumption | exact Bd.zero | exact Bd.one | exact Bd.mone | apply Bd.mul | apply Bd.add | apply Bd.sub | apply Bd.neg | exact Bd.of (m := 64) (by decide))); (solve | (repeat' first | assumption | exact Bd.zero | exact Bd.one | exact Bd.mone | apply Bd.mul | apply Bd.add | apply Bd.sub | apply Bd.neg | exact Bd.of (m := 64) (by decide))); decide) | (refine okS_of ?_ rfl rfl; ((repeat' apply And.intro) <;> first | exact trivial | rfl | (show Bd _ _; apply Bd.up; (solve | (repeat' first | assumption | exact Bd.zero | exact Bd.one | exact Bd.mone | apply Bd.mul | apply Bd.add | apply Bd.sub | apply Bd.neg | exact Bd.of (m := 64) (by decide))); decide))) | (((repeat' apply And.intro) <;> first | exact trivial | assumption | (apply Bd.up; (solve | (repeat' first | assumption | exact Bd.zero | exact Bd.one | exact Bd.mone | apply Bd.mul | apply Bd.add | apply Bd.sub | apply Bd.neg | exact Bd.of (m := 64) (by decide))); decide))) | decide)); conv => whnf)))))
      exact k
    | true =>
      obtain ⟨i, rfl⟩ : ∃ i, d = .int i := ⟨_, numB_int hn⟩
      cases lo with
      | none =>
        cases hi with
        | none =>
          (((conv => whnf); (repeat' ((apply And.intro; (solve | (first | exact trivial | exact rfl | exact ownB_i rfl | (apply mulOk_bd; (solve | (repeat' first | assumption | exact Bd.zero | exact Bd.one | exact Bd.mone | apply Bd.mul | apply Bd.add | apply Bd.sub | apply Bd.neg | exact Bd.of (m := 64) (by decide))); (solve | (repeat' first | assumption | exact Bd.zero | exact Bd.one | exact Bd.mone | apply Bd.mul | apply Bd.add | apply Bd.sub | apply Bd.neg | exact Bd.of (m := 64) (by decide))); decide) | (refine okS_of ?_ rfl rfl; ((repeat' apply And.intro) <;> first | exact trivial | rfl | (show Bd _ _; apply Bd.up; (solve | (repeat' first | assumption | exact Bd.zero | exact Bd.one | exact Bd.mone | apply Bd.mul | apply Bd.add | apply Bd.sub | apply Bd.neg | exact Bd.of (m := 64) (by decide))); decide))) | (((repeat' apply And.intro) <;> first | exact trivial | assumption | (apply Bd.up; (solve | (repeat' first | assumption | exact Bd.zero | exact Bd.one | exact Bd.mone | apply Bd.mul | apply Bd.add | apply Bd.sub | apply Bd.neg | exact Bd.of (m := 64) (by decide))); decide))) | decide)); conv => whnf)))))
          refine ⟨_, rfl, rfl, ?_⟩
          (((conv => whnf); (repeat' ((apply And.intro; (solve | (first | exact trivial | exact rfl | exact ownB_i rfl | (apply mulOk_bd; (solve | (repeat' first | assumption | exact Bd.zero | exact Bd.one | exact Bd.mone | apply Bd.mul | apply Bd.add | apply Bd.sub | apply Bd.neg | exact Bd.of (m := 64) (by decide))); (solve | (repeat' first | assumption | exact Bd.zero | exact Bd.one | exact Bd.mone | apply Bd.mul | apply Bd.add | apply Bd.sub | apply Bd.neg | exact Bd.of (m := 64) (by decide))); decide) | (refine okS_of ?_ rfl rfl; ((repeat' apply And.intro) <;> first | exact trivial | rfl | (show Bd _ _; apply Bd.up; (solve | (repeat' first | assumption | exact Bd.zero | exact Bd.one | exact Bd.mone | apply Bd.mul | apply Bd.add | apply Bd.sub | apply Bd.neg | exact Bd.of (m := 64) (by decide))); decide))) | (((repeat' apply And.intro) <;> first | exact trivial | assumption | (apply Bd.up; (solve | (repeat' first | assumption | exact Bd.zero | exact Bd.one | exact Bd.mone | apply Bd.mul | apply Bd.add | apply Bd.sub | apply Bd.neg | exact Bd.of (m := 64) (by decide))); decide))) | decide)); conv => whnf)))))
          exact k
        | some hi =>
          (((conv => whnf); (repeat' ((apply And.intro; (solve | (first | exact trivial | exact rfl | exact ownB_i rfl | (apply mulOk_bd; (solve | (repeat' first | assumption | exact Bd.zero | exact Bd.one | exact Bd.mone | apply Bd.mul | apply Bd.add | apply Bd.sub | apply Bd.neg | exact Bd.of (m := 64) (by decide))); (solve | (repeat' first | assumption | exact Bd.zero | exact Bd.one | exact Bd.mone | apply Bd.mul | apply Bd.add | apply Bd.sub | apply Bd.neg | exact Bd.of (m := 64) (by decide))); decide) | (refine okS_of ?_ rfl rfl; ((repeat' apply And.intro) <;> first | exact trivial | rfl | (show Bd _ _; apply Bd.up; (solve | (repeat' first | assumption | exact Bd.zero | exact Bd.one | exact Bd.mone | apply Bd.mul | apply Bd.add | apply Bd.sub | apply Bd.neg | exact Bd.of (m := 64) (by decide))); decide))) | (((repeat' apply And.intro) <;> first | exact trivial | assumption | (apply Bd.up; (solve | (repeat' first | assumption | exact Bd.zero | exact Bd.one | exact Bd.mone | apply Bd.mul | apply Bd.add | apply Bd.sub | apply Bd.neg | exact Bd.of (m := 64) (by decide))); decide))) | decide)); conv => whnf)))))
          refine ⟨_, rfl, rfl, ?_⟩
          (((conv => whnf); (repeat' ((apply And.intro; (solve | (first | exact trivial | exact rfl | exact ownB_i rfl | (apply mulOk_bd; (solve | (repeat' first | assumption | exact Bd.zero | exact Bd.one | exact Bd.mone | apply Bd.mul | apply Bd.add | apply Bd.sub | apply Bd.neg | exact Bd.of (m := 64) (by decide))); (solve | (repeat' first | assumption | exact Bd.zero | exact Bd.one | exact Bd.mone | apply Bd.mul | apply Bd.add | apply Bd.sub | apply Bd.neg | exact Bd.of (m := 64) (by decide))); decide) | (refine okS_of ?_ rfl rfl; ((repeat' apply And.intro) <;> first | exact trivial | rfl | (show Bd _ _; apply Bd.up; (solve | (repeat' first | assumption | exact Bd.zero | exact Bd.one | exact Bd.mone | apply Bd.mul | apply Bd.add | apply Bd.sub | apply Bd.neg | exact Bd.of (m := 64) (by decide))); decide))) | (((repeat' apply And.intro) <;> first | exact trivial | assumption | (apply Bd.up; (solve | (repeat' first | assumption | exact Bd.zero | exact Bd.one | exact Bd.mone | apply Bd.mul | apply Bd.add | apply Bd.sub | apply Bd.neg | exact Bd.of (m := 64) (by decide))); decide))) | decide)); conv => whnf)))))
          exact k
      | some lo =>
        have e : withB (.int i) (some lo) hi = (decide (lo ≤ i) && leB hi i) := rfl
        rw [e] at k
        cases hi with
        | none =>
          (((conv => whnf); (repeat' ((apply And.intro; (solve | (first | exact trivial | exact rfl | exact ownB_i rfl | (apply mulOk_bd; (solve | (repeat' first | assumption | exact Bd.zero | exact Bd.one | exact Bd.mone | apply Bd.mul | apply Bd.add | apply Bd.sub | apply Bd.neg | exact Bd.of (m := 64) (by decide))); (solve | (repeat' first | assumption | exact Bd.zero | exact Bd.one | exact Bd.mone | apply Bd.mul | apply Bd.add | apply Bd.sub | apply Bd.neg | exact Bd.of (m := 64) (by decide))); decide) | (refine okS_of ?_ rfl rfl; ((repeat' apply And.intro) <;> first | exact trivial | rfl | (show Bd _ _; apply Bd.up; (solve | (repeat' first | assumption | exact Bd.zero | exact Bd.one | exact Bd.mone | apply Bd.mul | apply Bd.add | apply Bd.sub | apply Bd.neg | exact Bd.of (m := 64) (by decide))); decide))) | (((repeat' apply And.intro) <;> first | exact trivial | assumption | (apply Bd.up; (solve | (repeat' first | assumption | exact Bd.zero | exact Bd.one | exact Bd.mone | apply Bd.mul | apply Bd.add | apply Bd.sub | apply Bd.neg | exact Bd.of (m := 64) (by decide))); decide))) | decide)); conv => whnf)))))
          refine ⟨_, rfl, rfl, ?_⟩
          (((conv => whnf); (repeat' ((apply And.intro; (solve | (first | exact trivial | exact rfl | exact ownB_i rfl | (apply mulOk_bd; (solve | (repeat' first | assumption | exact Bd.zero | exact Bd.one | exact Bd.mone | apply Bd.mul | apply Bd.add | apply Bd.sub | apply Bd.neg | exact Bd.of (m := 64) (by decide))); (solve | (repeat' first | assumption | exact Bd.zero | exact Bd.one | exact Bd.mone | apply Bd.mul | apply Bd.add | apply Bd.sub | apply Bd.neg | exact Bd.of (m := 64) (by decide))); decide) | (refine okS_of ?_ rfl rfl; ((repeat' apply And.intro) <;> first | exact trivial | rfl | (show Bd _ _; apply Bd.up; (solve | (repeat' first | assumption | exact Bd.zero | exact Bd.one | exact Bd.mone | apply Bd.mul | apply Bd.add | apply Bd.sub | apply Bd.neg | exact Bd.of (m := 64) (by decide))); decide))) | (((repeat' apply And.intro) <;> first | exact trivial | assumption | (apply Bd.up; (solve | (repeat' first | assumption | exact Bd.zero | exact Bd.one | exact Bd.mone | apply Bd.mul | apply Bd.add | apply Bd.sub | apply Bd.neg | exact Bd.of (m := 64) (by decide))); decide))) | decide)); conv => whnf)))))
          cases hd : decide (lo ≤ i) <;> (rw [hd] at k; (((conv => whnf); (repeat' ((apply And.intro; (solve | (first | exact trivial | exact rfl | exact ownB_i rfl | (apply mulOk_bd; (solve | (repeat' first | assumption | exact Bd.zero | exact Bd.one | exact Bd.mone | apply Bd.mul | apply Bd.add | apply Bd.sub | apply Bd.neg | exact Bd.of (m := 64) (by decide))); (solve | (repeat' first | assumption | exact Bd.zero | exact Bd.one | exact Bd.mone | apply Bd.mul | apply Bd.add | apply Bd.sub | apply Bd.neg | exact Bd.of (m := 64) (by decide))); decide) | (refine okS_of ?_ rfl rfl; ((repeat' apply And.intro) <;> first | exact trivial | rfl | (show Bd _ _; apply Bd.up; (solve | (repeat' first | assumption | exact Bd.zero | exact Bd.one | exact Bd.mone | apply Bd.mul | apply Bd.add | apply Bd.sub | apply Bd.neg | exact Bd.of (m := 64) (by decide))); decide))) | (((repeat' apply And.intro) <;> first | exact trivial | assumption | (apply Bd.up; (solve | (repeat' first | assumption | exact Bd.zero | exact Bd.one | exact Bd.mone | apply Bd.mul | apply Bd.add | apply Bd.sub | apply Bd.neg | exact Bd.of (m := 64) (by decide))); decide))) | decide)); conv => whnf))))); exact k)
        | some hi =>
          (((conv => whnf); (repeat' ((apply And.intro; (solve | (first | exact trivial | exact rfl | exact ownB_i rfl | (apply mulOk_bd; (solve | (repeat' first | assumption | exact Bd.zero | exact Bd.one | exact Bd.mone | apply Bd.mul | apply Bd.add | apply Bd.sub | apply Bd.neg | exact Bd.of (m := 64) (by decide))); (solve | (repeat' first | assumption | exact Bd.zero | exact Bd.one | exact Bd.mone | apply Bd.mul | apply Bd.add | apply Bd.sub | apply Bd.neg | exact Bd.of (m := 64) (by decide))); decide) | (refine okS_of ?_ rfl rfl; ((repeat' apply And.intro) <;> first | exact trivial | rfl | (show Bd _ _; apply Bd.up; (solve | (repeat' first | assumption | exact Bd.zero | exact Bd.one | exact Bd.mone | apply Bd.mul | apply Bd.add | apply Bd.sub | apply Bd.neg | exact Bd.of (m := 64) (by decide))); decide))) | (((repeat' apply And.intro) <;> first | exact trivial | assumption | (apply Bd.up; (solve | (repeat' first | assumption | exact Bd.zero | exact Bd.one | exact Bd.mone | apply Bd.mul | apply Bd.add | apply Bd.sub | apply Bd.neg | exact Bd.of (m := 64) (by decide))); decide))) | decide)); conv => whnf)))))
          refine ⟨_, rfl, rfl, ?_⟩
          (((conv => whnf); (repeat' ((apply And.intro; (solve | (first | exact trivial | exact rfl | exact ownB_i rfl | (apply mulOk_bd; (solve | (repeat' first | assumption | exact Bd.zero | exact Bd.one | exact Bd.mone | apply Bd.mul | apply Bd.add | apply Bd.sub | apply Bd.neg | exact Bd.of (m := 64) (by decide))); (solve | (repeat' first | assumption | exact Bd.zero | exact Bd.one | exact Bd.mone | apply Bd.mul | apply Bd.add | apply Bd.sub | apply Bd.neg | exact Bd.of (m := 64) (by decide))); decide) | (refine okS_of ?_ rfl rfl; ((repeat' apply And.intro) <;> first | exact trivial | rfl | (show Bd _ _; apply Bd.up; (solve | (repeat' first | assumption | exact Bd.zero | exact Bd.one | exact Bd.mone | apply Bd.mul | apply Bd.add | apply Bd.sub | apply Bd.neg | exact Bd.of (m := 64) (by decide))); decide))) | (((repeat' apply And.intro) <;> first | exact trivial | assumption | (apply Bd.up; (solve | (repeat' first | assumption | exact Bd.zero | exact Bd.one | exact Bd.mone | apply Bd.mul | apply Bd.add | apply Bd.sub | apply Bd.neg | exact Bd.of (m := 64) (by decide))); decide))) | decide)); conv => whnf)))))
          cases hd : decide (lo ≤ i) <;> (rw [hd] at k; (((conv => whnf); (repeat' ((apply And.intro; (solve | (first | exact trivial | exact rfl | exact ownB_i rfl | (apply mulOk_bd; (solve | (repeat' first | assumption | exact Bd.zero | exact Bd.one | exact Bd.mone | apply Bd.mul | apply Bd.add | apply Bd.sub | apply Bd.neg | exact Bd.of (m := 64) (by decide))); (solve | (repeat' first | assumption | exact Bd.zero | exact Bd.one | exact Bd.mone | apply Bd.mul | apply Bd.add | apply Bd.sub | apply Bd.neg | exact Bd.of (m := 64) (by decide))); decide) | (refine okS_of ?_ rfl rfl; ((repeat' apply And.intro) <;> first | exact trivial | rfl | (show Bd _ _; apply Bd.up; (solve | (repeat' first | assumption | exact Bd.zero | exact Bd.one | exact Bd.mone | apply Bd.mul | apply Bd.add | apply Bd.sub | apply Bd.neg | exact Bd.of (m := 64) (by decide))); decide))) | (((repeat' apply And.intro) <;> first | exact trivial | assumption | (apply Bd.up; (solve | (repeat' first | assumption | exact Bd.zero | exact Bd.one | exact Bd.mone | apply Bd.mul | apply Bd.add | apply Bd.sub | apply Bd.neg | exact Bd.of (m := 64) (by decide))); decide))) | decide)); conv => whnf))))); exact k))
def dueL (d : D) : D := .lst [.bl (numB d), .bl (withB d (some 0) (some 1)), .bl (withB d (some 0) (some 7))]
theorem in01 (i : Int) : inV (.int i) [.int 0, .int 1] = withB (.int i) (some 0) (some 1) := by
  have e : withB (.int i) (some 0) (some 1) = (decide (0 ≤ i) && decide (i ≤ 1)) := rfl
  rw [e, Bool.eq_iff_iff]
  simp [inV, eqV]
  omega
theorem due_two (d : D) (ok : okK d = true) {cr v l h a b c e0 : D} {K : Out → En → Prop}
    (k : K .nxt [.mu cr, .va v, .va l, .va h, .va d, .va a, .va b, .ow (dueL d), .ow e0]) :
    smN bF C (.asg (.name 7) (.lst (.cons (.call 2 (.cons (.var 4) .nil)) (.cons (.bop true (.cons (.call 2 (.cons (.var 4) .nil)) (.cons (.cmp .In (.var 4) (.tup (.cons (.int 0) (.cons (.int 1) .nil)))) .nil))) (.cons (.bop true (.cons (.call 2 (.cons (.var 4) .nil)) (.cons (.chain .LtE .LtE (.int 0) (.var 4) (.int 7)) .nil))) .nil)))))
      [.mu cr, .va v, .va l, .va h, .va d, .va a, .va b, .va c, .ow e0] K := by
  cases hn : numB d with
  | false =>
    have e : dueL d = .lst [.bl false, .bl false, .bl false] := by
      cases d <;> first | rfl | (cases hn; done)
    rw [e] at k
    (((conv => whnf); (repeat' ((apply And.intro; (solve | (first | exact trivial | exact rfl | exact ownB_i rfl | (apply mulOk_bd; (solve | (repeat' first | assumption | exact Bd.zero | exact Bd.one | exact Bd.mone | apply Bd.mul | apply Bd.add | apply Bd.sub | apply Bd.neg | exact Bd.of (m := 64) (by decide))); (solve | (repeat' first | assumption | exact Bd.zero | exact Bd.one | exact Bd.mone | apply Bd.mul | apply Bd.add | apply Bd.sub | apply Bd.neg | exact Bd.of (m := 64) (by decide))); decide) | (refine okS_of ?_ rfl rfl; ((repeat' apply And.intro) <;> first | exact trivial | rfl | (show Bd _ _; apply Bd.up; (solve | (repeat' first | assumption | exact Bd.zero | exact Bd.one | exact Bd.mone | apply Bd.mul | apply Bd.add | apply Bd.sub | apply Bd.neg | exact Bd.of (m := 64) (by decide))); decide))) | (((repeat' apply And.intro) <;> first | exact trivial | assumption | (apply Bd.up; (solve | (repeat' first | assumption | exact Bd.zero | exact Bd.one | exact Bd.mone | apply Bd.mul | apply Bd.add | apply Bd.sub | apply Bd.neg | exact Bd.of (m := 64) (by decide))); decide))) | decide)); conv => whnf)))))
    refine ⟨d, rfl, ok, ?_⟩
    rw [hn]
    (((conv => whnf); (repeat' ((apply And.intro; (solve | (first | exact trivial | exact rfl | exact ownB_i rfl | (apply mulOk_bd; (solve | (repeat' first | assumption | exact Bd.zero | exact Bd.one | exact Bd.mone | apply Bd.mul | apply Bd.add | apply Bd.sub | apply Bd.neg | exact Bd.of (m := 64) (by decide))); (solve | (repeat' first | assumption | exact Bd.zero | exact Bd.one | exact Bd.mone | apply Bd.mul | apply Bd.add | apply Bd.sub | apply Bd.neg | exact Bd.of (m := 64) (by decide))); decide) | (refine okS_of ?_ rfl rfl; ((repeat' apply And.intro) <;> first | exact trivial | rfl | (show Bd _ _; apply Bd.up; (solve | (repeat' first | assumption | exact Bd.zero | exact Bd.one | exact Bd.mone | apply Bd.mul | apply Bd.add | apply Bd.sub | apply Bd.neg | exact Bd.of (m := 64) (by decide))); decide))) | (((repeat' apply And.intro) <;> first | exact trivial | assumption | (apply Bd.up; (solve | (repeat' first | assumption | exact Bd.zero | exact Bd.one | exact Bd.mone | apply Bd.mul | apply Bd.add | apply Bd.sub | apply Bd.neg | exact Bd.of (m := 64) (by decide))); decide))) | decide)); conv => whnf)))))
    refine ⟨d, rfl, ok, ?_⟩
    rw [hn]
    (((conv => whnf); (repeat' ((apply And.intro; (solve | (first | exact trivial | exact rfl | exact ownB_i rfl | (apply mulOk_bd; (solve | (repeat' first | assumption | exact Bd.zero | exact Bd.one | exact Bd.mone | apply Bd.mul | apply Bd.add | apply Bd.sub | apply Bd.neg | exact Bd.of (m := 64) (by decide))); (solve | (repeat' first | assumption | exact Bd.zero | exact Bd.one | exact Bd.mone | apply Bd.mul | apply Bd.add | apply Bd.sub | apply Bd.neg | exact Bd.of (m := 64) (by decide))); decide) | (refine okS_of ?_ rfl rfl; ((repeat' apply And.intro) <;> first | exact trivial | rfl | (show Bd _ _; apply Bd.up; (solve | (repeat' first | assumption | exact Bd.zero | exact Bd.one | exact Bd.mone | apply Bd.mul | apply Bd.add | apply Bd.sub | apply Bd.neg | exact Bd.of (m := 64) (by decide))); decide))) | (((repeat' apply And.intro) <;> first | exact trivial | assumption | (apply Bd.up; (solve | (repeat' first | assumption | exact Bd.zero | exact Bd.one | exact Bd.mone | apply Bd.mul | apply Bd.add | apply Bd.sub | apply Bd.neg | exact Bd.of (m := 64) (by decide))); decide))) | decide)); conv => whnf)))))
    refine ⟨d, rfl, ok, ?_⟩
    rw [hn]
    (((conv => whnf); (repeat' ((apply And.intro; (solve | (first | exact trivial | exact rfl | exact ownB_i rfl | (apply mulOk_bd; (solve | (repeat' first | assumption | exact Bd.zero | exact Bd.one | exact Bd.mone | apply Bd.mul | apply Bd.add | apply Bd.sub | apply Bd.neg | exact Bd.of (m := 64) (by decide))); (solve | (repeat' first | assumption | exact Bd.zero | exact Bd.one | exact Bd.mone | apply Bd.mul | apply Bd.add | apply Bd.sub | apply Bd.neg | exact Bd.of (m := 64) (by decide))); decide) | (refine okS_of ?_ rfl rfl; ((repeat' apply And.intro) <;> first | exact trivial | rfl | (show Bd _ _; apply Bd.up; (solve | (repeat' first | assumption | exact Bd.zero | exact Bd.one | exact Bd.mone | apply Bd.mul | apply Bd.add | apply Bd.sub | apply Bd.neg | exact Bd.of (m := 64) (by decide))); decide))) | (((repeat' apply And.intro) <;> first | exact trivial | assumption | (apply Bd.up; (solve | (repeat' first | assumption | exact Bd.zero | exact Bd.one | exact Bd.mone | apply Bd.mul | apply Bd.add | apply Bd.sub | apply Bd.neg | exact Bd.of (m := 64) (by decide))); decide))) | decide)); conv => whnf)))))
    exact k
  | true =>
    obtain ⟨i, rfl⟩ : ∃ i, d = .int i := ⟨_, numB_int hn⟩
    have e : dueL (.int i) = .lst [.bl true, .bl (inV (.int i) [.int 0, .int 1]), .bl (decide (0 ≤ i) && decide (i ≤ 7))] := by rw [in01]; rfl
    rw [e] at k
    (((conv => whnf); (repeat' ((apply And.intro; (solve | (first | exact trivial | exact rfl | exact ownB_i rfl | (apply mulOk_bd; (solve | (repeat' first | assumption | exact Bd.zero | exact Bd.one | exact Bd.mone | apply Bd.mul | apply Bd.add | apply Bd.sub | apply Bd.neg | exact Bd.of (m := 64) (by decide))); (solve | (repeat' first | assumption | exact Bd.zero | exact Bd.one | exact Bd.mone | apply Bd.mul | apply Bd.add | apply Bd.sub | apply Bd.neg | exact Bd.of (m := 64) (by decide))); decide) | (refine okS_of ?_ rfl rfl; ((repeat' apply And.intro) <;> first | exact trivial | rfl | (show Bd _ _; apply Bd.up; (solve | (repeat' first | assumption | exact Bd.zero | exact Bd.one | exact Bd.mone | apply Bd.mul | apply Bd.add | apply Bd.sub | apply Bd.neg | exact Bd.of (m := 64) (by decide))); decide))) | (((repeat' apply And.intro) <;> first | exact trivial | assumption | (apply Bd.up; (solve | (repeat' first | assumption | exact Bd.zero | exact Bd.one | exact Bd.mone | apply Bd.mul | apply Bd.add | apply Bd.sub | apply Bd.neg | exact Bd.of (m := 64) (by decide))); decide))) | decide)); conv => whnf)))))
    refine ⟨_, rfl, rfl, ?_⟩
    (((conv => whnf); (repeat' ((apply And.intro; (solve | (first | exact trivial | exact rfl | exact ownB_i rfl | (apply mulOk_bd; (solve | (repeat' first | assumption | exact Bd.zero | exact Bd.one | exact Bd.mone | apply Bd.mul | apply Bd.add | apply Bd.sub | apply Bd.neg | exact Bd.of (m := 64) (by decide))); (solve | (repeat' first | assumption | exact Bd.zero | exact Bd.one | exact Bd.mone | apply Bd.mul | apply Bd.add | apply Bd.sub | apply Bd.neg | exact Bd.of (m := 64) (by decide))); decide) | (refine okS_of ?_ rfl rfl; ((repeat' apply And.intro) <;> first | exact trivial | rfl | (show Bd _ _; apply Bd.up; (solve | (repeat' first | assumption | exact Bd.zero | exact Bd.one | exact Bd.mone | apply Bd.mul | apply Bd.add | apply Bd.sub | apply Bd.neg | exact Bd.of (m := 64) (by decide))); decide))) | (((repeat' apply And.intro) <;> first | exact trivial | assumption | (apply Bd.up; (solve | (repeat' first | assumption | exact Bd.zero | exact Bd.one | exact Bd.mone | apply Bd.mul | apply Bd.add | apply Bd.sub | apply Bd.neg | exact Bd.of (m := 64) (by decide))); decide))) | decide)); conv => whnf)))))
    refine ⟨_, rfl, rfl, ?_⟩
    (((conv => whnf); (repeat' ((apply And.intro; (solve | (first | exact trivial | exact rfl | exact ownB_i rfl | (apply mulOk_bd; (solve | (repeat' first | assumption | exact Bd.zero | exact Bd.one | exact Bd.mone | apply Bd.mul | apply Bd.add | apply Bd.sub | apply Bd.neg | exact Bd.of (m := 64) (by decide))); (solve | (repeat' first | assumption | exact Bd.zero | exact Bd.one | exact Bd.mone | apply Bd.mul | apply Bd.add | apply Bd.sub | apply Bd.neg | exact Bd.of (m := 64) (by decide))); decide) | (refine okS_of ?_ rfl rfl; ((repeat' apply And.intro) <;> first | exact trivial | rfl | (show Bd _ _; apply Bd.up; (solve | (repeat' first | assumption | exact Bd.zero | exact Bd.one | exact Bd.mone | apply Bd.mul | apply Bd.add | apply Bd.sub | apply Bd.neg | exact Bd.of (m := 64) (by decide))); decide))) | (((repeat' apply And.intro) <;> first | exact trivial | assumption | (apply Bd.up; (solve | (repeat' first | assumption | exact Bd.zero | exact Bd.one | exact Bd.mone | apply Bd.mul | apply Bd.add | apply Bd.sub | apply Bd.neg | exact Bd.of (m := 64) (by decide))); decide))) | decide)); conv => whnf)))))
    refine ⟨_, rfl, rfl, ?_⟩
    (((conv => whnf); (repeat' ((apply And.intro; (solve | (first | exact trivial | exact rfl | exact ownB_i rfl | (apply mulOk_bd; (solve | (repeat' first | assumption | exact Bd.zero | exact Bd.one | exact Bd.mone | apply Bd.mul | apply Bd.add | apply Bd.sub | apply Bd.neg | exact Bd.of (m := 64) (by decide))); (solve | (repeat' first | assumption | exact Bd.zero | exact Bd.one | exact Bd.mone | apply Bd.mul | apply Bd.add | apply Bd.sub | apply Bd.neg | exact Bd.of (m := 64) (by decide))); decide) | (refine okS_of ?_ rfl rfl; ((repeat' apply And.intro) <;> first | exact trivial | rfl | (show Bd _ _; apply Bd.up; (solve | (repeat' first | assumption | exact Bd.zero | exact Bd.one | exact Bd.mone | apply Bd.mul | apply Bd.add | apply Bd.sub | apply Bd.neg | exact Bd.of (m := 64) (by decide))); decide))) | (((repeat' apply And.intro) <;> first | exact trivial | assumption | (apply Bd.up; (solve | (repeat' first | assumption | exact Bd.zero | exact Bd.one | exact Bd.mone | apply Bd.mul | apply Bd.add | apply Bd.sub | apply Bd.neg | exact Bd.of (m := 64) (by decide))); decide))) | decide)); conv => whnf)))))
    cases hd : decide (0 ≤ i) <;> (rw [hd] at k; (((conv => whnf); (repeat' ((apply And.intro; (solve | (first | exact trivial | exact rfl | exact ownB_i rfl | (apply mulOk_bd; (solve | (repeat' first | assumption | exact Bd.zero | exact Bd.one | exact Bd.mone | apply Bd.mul | apply Bd.add | apply Bd.sub | apply Bd.neg | exact Bd.of (m := 64) (by decide))); (solve | (repeat' first | assumption | exact Bd.zero | exact Bd.one | exact Bd.mone | apply Bd.mul | apply Bd.add | apply Bd.sub | apply Bd.neg | exact Bd.of (m := 64) (by decide))); decide) | (refine okS_of ?_ rfl rfl; ((repeat' apply And.intro) <;> first | exact trivial | rfl | (show Bd _ _; apply Bd.up; (solve | (repeat' first | assumption | exact Bd.zero | exact Bd.one | exact Bd.mone | apply Bd.mul | apply Bd.add | apply Bd.sub | apply Bd.neg | exact Bd.of (m := 64) (by decide))); decide))) | (((repeat' apply And.intro) <;> first | exact trivial | assumption | (apply Bd.up; (solve | (repeat' first | assumption | exact Bd.zero | exact Bd.one | exact Bd.mone | apply Bd.mul | apply Bd.add | apply Bd.sub | apply Bd.neg | exact Bd.of (m := 64) (by decide))); decide))) | decide)); conv => whnf))))); exact k)
theorem sp_bounds : ∀ ss R, boundsF ss R → runF bF C b__law_bounds_right p__law_bounds_right.length N__law_bounds_right.length ss R := by
  rintro ss R ⟨cr, n, rfl, hc, q⟩
  refine runN_i _ C ⟨⟨rfl, by decide⟩, rfl⟩ ?_
  show smsN bF C (.cons _ _) [.mu cr, .no, .no, .no, .no, .no, .no, .no, .no] _
  refine stepN fun K kn kr kb kc => ?_
  (((conv => whnf); (repeat' ((apply And.intro; (solve | (first | exact trivial | exact rfl | exact ownB_i rfl | (apply mulOk_bd; (solve | (repeat' first | assumption | exact Bd.zero | exact Bd.one | exact Bd.mone | apply Bd.mul | apply Bd.add | apply Bd.sub | apply Bd.neg | exact Bd.of (m := 64) (by decide))); (solve | (repeat' first | assumption | exact Bd.zero | exact Bd.one | exact Bd.mone | apply Bd.mul | apply Bd.add | apply Bd.sub | apply Bd.neg | exact Bd.of (m := 64) (by decide))); decide) | (refine okS_of ?_ rfl rfl; ((repeat' apply And.intro) <;> first | exact trivial | rfl | (show Bd _ _; apply Bd.up; (solve | (repeat' first | assumption | exact Bd.zero | exact Bd.one | exact Bd.mone | apply Bd.mul | apply Bd.add | apply Bd.sub | apply Bd.neg | exact Bd.of (m := 64) (by decide))); decide))) | (((repeat' apply And.intro) <;> first | exact trivial | assumption | (apply Bd.up; (solve | (repeat' first | assumption | exact Bd.zero | exact Bd.one | exact Bd.mone | apply Bd.mul | apply Bd.add | apply Bd.sub | apply Bd.neg | exact Bd.of (m := 64) (by decide))); decide))) | decide)); conv => whnf)))))
  refine ⟨cr, n + 2, rfl, hc, fun v cr1 hv hc1 => ?_⟩
  (((conv => whnf); (repeat' ((apply And.intro; (solve | (first | exact trivial | exact rfl | exact ownB_i rfl | (apply mulOk_bd; (solve | (repeat' first | assumption | exact Bd.zero | exact Bd.one | exact Bd.mone | apply Bd.mul | apply Bd.add | apply Bd.sub | apply Bd.neg | exact Bd.of (m := 64) (by decide))); (solve | (repeat' first | assumption | exact Bd.zero | exact Bd.one | exact Bd.mone | apply Bd.mul | apply Bd.add | apply Bd.sub | apply Bd.neg | exact Bd.of (m := 64) (by decide))); decide) | (refine okS_of ?_ rfl rfl; ((repeat' apply And.intro) <;> first | exact trivial | rfl | (show Bd _ _; apply Bd.up; (solve | (repeat' first | assumption | exact Bd.zero | exact Bd.one | exact Bd.mone | apply Bd.mul | apply Bd.add | apply Bd.sub | apply Bd.neg | exact Bd.of (m := 64) (by decide))); decide))) | (((repeat' apply And.intro) <;> first | exact trivial | assumption | (apply Bd.up; (solve | (repeat' first | assumption | exact Bd.zero | exact Bd.one | exact Bd.mone | apply Bd.mul | apply Bd.add | apply Bd.sub | apply Bd.neg | exact Bd.of (m := 64) (by decide))); decide))) | decide)); conv => whnf)))))
  refine ⟨n + 1, hc1, ⟨by decide, by decide⟩, fun r cr2 hr hc2 => ?_⟩
  (((conv => whnf); (repeat' ((apply And.intro; (solve | (first | exact trivial | exact rfl | exact ownB_i rfl | (apply mulOk_bd; (solve | (repeat' first | assumption | exact Bd.zero | exact Bd.one | exact Bd.mone | apply Bd.mul | apply Bd.add | apply Bd.sub | apply Bd.neg | exact Bd.of (m := 64) (by decide))); (solve | (repeat' first | assumption | exact Bd.zero | exact Bd.one | exact Bd.mone | apply Bd.mul | apply Bd.add | apply Bd.sub | apply Bd.neg | exact Bd.of (m := 64) (by decide))); decide) | (refine okS_of ?_ rfl rfl; ((repeat' apply And.intro) <;> first | exact trivial | rfl | (show Bd _ _; apply Bd.up; (solve | (repeat' first | assumption | exact Bd.zero | exact Bd.one | exact Bd.mone | apply Bd.mul | apply Bd.add | apply Bd.sub | apply Bd.neg | exact Bd.of (m := 64) (by decide))); decide))) | (((repeat' apply And.intro) <;> first | exact trivial | assumption | (apply Bd.up; (solve | (repeat' first | assumption | exact Bd.zero | exact Bd.one | exact Bd.mone | apply Bd.mul | apply Bd.add | apply Bd.sub | apply Bd.neg | exact Bd.of (m := 64) (by decide))); decide))) | decide)); conv => whnf)))))
  refine ⟨n, hc2, ⟨by decide, by decide⟩, fun r' cr3 hr' hc3 => ?_⟩
  (((conv => whnf); (repeat' ((apply And.intro; (solve | (first | exact trivial | exact rfl | exact ownB_i rfl | (apply mulOk_bd; (solve | (repeat' first | assumption | exact Bd.zero | exact Bd.one | exact Bd.mone | apply Bd.mul | apply Bd.add | apply Bd.sub | apply Bd.neg | exact Bd.of (m := 64) (by decide))); (solve | (repeat' first | assumption | exact Bd.zero | exact Bd.one | exact Bd.mone | apply Bd.mul | apply Bd.add | apply Bd.sub | apply Bd.neg | exact Bd.of (m := 64) (by decide))); decide) | (refine okS_of ?_ rfl rfl; ((repeat' apply And.intro) <;> first | exact trivial | rfl | (show Bd _ _; apply Bd.up; (solve | (repeat' first | assumption | exact Bd.zero | exact Bd.one | exact Bd.mone | apply Bd.mul | apply Bd.add | apply Bd.sub | apply Bd.neg | exact Bd.of (m := 64) (by decide))); decide))) | (((repeat' apply And.intro) <;> first | exact trivial | assumption | (apply Bd.up; (solve | (repeat' first | assumption | exact Bd.zero | exact Bd.one | exact Bd.mone | apply Bd.mul | apply Bd.add | apply Bd.sub | apply Bd.neg | exact Bd.of (m := 64) (by decide))); decide))) | decide)); conv => whnf)))))
  refine kn [.mu cr3, .va v, .va (.int (r - 6)), .va (.int (r' - 6)), .no, .no, .no, .no, .no] ?_
  clear kn kr kb kc
  generalize r - 6 = lo
  generalize r' - 6 = hi
  refine stepN fun K kn kr kb kc => ?_
  refine forr_s [v, .int lo, .int hi, .int (lo - 1), .int (hi + 1)] [.mu cr3, .va v, .va (.int lo), .va (.int hi), .no, .no, .no, .no, .no] (fun X hX => by (conv => whnf); exact hX) ?_
  refine forN_i (fun i ρ => ∃ s4 s5 s6 s7 s8, ρ = [.mu cr3, .va v, .va (.int lo), .va (.int hi), s4, s5, s6, s7, s8] ∧ ((s4 = .no ∧ s5 = .no ∧ s6 = .no ∧ s7 = .no ∧ s8 = .no) ∨ ∃ a b c d e, s4 = .va a ∧ s5 = .va b ∧ s6 = .va c ∧ s7 = .ow d ∧ s8 = .ow e)) ⟨_, _, _, _, _, rfl, .inl ⟨rfl, rfl, rfl, rfl, rfl⟩⟩ ?_ ?_
  · rintro i d ρ K hi' ⟨s4, s5, s6, s7, s8, rfl, hs⟩ k1 k2 k3 k4
    have ok : okK d = true := by
      have := List.mem_of_getElem? hi'
      simp only [List.mem_cons, List.not_mem_nil, or_false] at this
      rcases this with rfl | rfl | rfl | rfl | rfl
      · exact hv.ok.ok
      all_goals rfl
    clear k2 k3 k4 kn kr kb kc
    have tail : ∀ a b c s8, (s8 = .no ∨ ∃ z, s8 = .ow z) → ∀ K : Out → En → Prop, (∀ e7 e8, K .nxt [.mu cr3, .va v, .va (.int lo), .va (.int hi), .va d, .va a, .va b, .ow e7, .ow e8]) →
        smsN bF C (.cons (.asg (.name 8) (.lst (.cons (.call 4 (.cons (.var 4) .nil)) (.cons (.callk 4 ["value"] [0] .nil (.cons (.var 4) .nil)) (.cons (.call 5 (.cons (.var 4) .nil)) (.cons (.callk 5 ["value"] [0] .nil (.cons (.var 4) .nil)) (.cons (.call 6 (.cons (.var 4) .nil)) (.cons (.callk 6 ["value"] [0] .nil (.cons (.var 4) .nil)) .nil))))))))
  (.cons (.asg (.name 7) (.lst (.cons (.call 2 (.cons (.var 4) .nil)) (.cons (.bop true (.cons (.call 2 (.cons (.var 4) .nil)) (.cons (.cmp .In (.var 4) (.tup (.cons (.int 0) (.cons (.int 1) .nil)))) .nil))) (.cons (.bop true (.cons (.call 2 (.cons (.var 4) .nil)) (.cons (.chain .LtE .LtE (.int 0) (.var 4) (.int 7)) .nil))) .nil)))))
  (.cons (.iff (.cmp .NotEq (.blt .repr (.cons (.var 8) .nil)) (.blt .repr (.cons (.lst (.cons (.ix (.var 7) (.int 0)) (.cons (.ix (.var 7) (.int 0)) (.cons (.ix (.var 7) (.int 1)) (.cons (.ix (.var 7) (.int 1)) (.cons (.ix (.var 7) (.int 2)) (.cons (.ix (.var 7) (.int 2)) .nil))))))) .nil)))
  (.cons (.ret (.bl false))
  .nil)
  .nil)
  .nil))) [.mu cr3, .va v, .va (.int lo), .va (.int hi), .va d, .va a, .va b, .va c, s8] K := by
      intro a b c s8 h8 K k
      refine stepN fun K' kn kr kb kc => ?_
      rcases h8 with rfl | ⟨z, rfl⟩ <;> (
        (((conv => whnf); (repeat' ((apply And.intro; (solve | (first | exact trivial | exact rfl | exact ownB_i rfl | (apply mulOk_bd; (solve | (repeat' first | assumption | exact Bd.zero | exact Bd.one | exact Bd.mone | apply Bd.mul | apply Bd.add | apply Bd.sub | apply Bd.neg | exact Bd.of (m := 64) (by decide))); (solve | (repeat' first | assumption | exact Bd.zero | exact Bd.one | exact Bd.mone | apply Bd.mul | apply Bd.add | apply Bd.sub | apply Bd.neg | exact Bd.of (m := 64) (by decide))); decide) | (refine okS_of ?_ rfl rfl; ((repeat' apply And.intro) <;> first | exact trivial | rfl | (show Bd _ _; apply Bd.up; (solve | (repeat' first | assumption | exact Bd.zero | exact Bd.one | exact Bd.mone | apply Bd.mul | apply Bd.add | apply Bd.sub | apply Bd.neg | exact Bd.of (m := 64) (by decide))); decide))) | (((repeat' apply And.intro) <;> first | exact trivial | assumption | (apply Bd.up; (solve | (repeat' first | assumption | exact Bd.zero | exact Bd.one | exact Bd.mone | apply Bd.mul | apply Bd.add | apply Bd.sub | apply Bd.neg | exact Bd.of (m := 64) (by decide))); decide))) | decide)); conv => whnf)))))
        refine ⟨d, rfl, ok, ?_⟩
        (((conv => whnf); (repeat' ((apply And.intro; (solve | (first | exact trivial | exact rfl | exact ownB_i rfl | (apply mulOk_bd; (solve | (repeat' first | assumption | exact Bd.zero | exact Bd.one | exact Bd.mone | apply Bd.mul | apply Bd.add | apply Bd.sub | apply Bd.neg | exact Bd.of (m := 64) (by decide))); (solve | (repeat' first | assumption | exact Bd.zero | exact Bd.one | exact Bd.mone | apply Bd.mul | apply Bd.add | apply Bd.sub | apply Bd.neg | exact Bd.of (m := 64) (by decide))); decide) | (refine okS_of ?_ rfl rfl; ((repeat' apply And.intro) <;> first | exact trivial | rfl | (show Bd _ _; apply Bd.up; (solve | (repeat' first | assumption | exact Bd.zero | exact Bd.one | exact Bd.mone | apply Bd.mul | apply Bd.add | apply Bd.sub | apply Bd.neg | exact Bd.of (m := 64) (by decide))); decide))) | (((repeat' apply And.intro) <;> first | exact trivial | assumption | (apply Bd.up; (solve | (repeat' first | assumption | exact Bd.zero | exact Bd.one | exact Bd.mone | apply Bd.mul | apply Bd.add | apply Bd.sub | apply Bd.neg | exact Bd.of (m := 64) (by decide))); decide))) | decide)); conv => whnf)))))
        refine ⟨d, rfl, ok, ?_⟩
        (((conv => whnf); (repeat' ((apply And.intro; (solve | (first | exact trivial | exact rfl | exact ownB_i rfl | (apply mulOk_bd; (solve | (repeat' first | assumption | exact Bd.zero | exact Bd.one | exact Bd.mone | apply Bd.mul | apply Bd.add | apply Bd.sub | apply Bd.neg | exact Bd.of (m := 64) (by decide))); (solve | (repeat' first | assumption | exact Bd.zero | exact Bd.one | exact Bd.mone | apply Bd.mul | apply Bd.add | apply Bd.sub | apply Bd.neg | exact Bd.of (m := 64) (by decide))); decide) | (refine okS_of ?_ rfl rfl; ((repeat' apply And.intro) <;> first | exact trivial | rfl | (show Bd _ _; apply Bd.up; (solve | (repeat' first | assumption | exact Bd.zero | exact Bd.one | exact Bd.mone | apply Bd.mul | apply Bd.add | apply Bd.sub | apply Bd.neg | exact Bd.of (m := 64) (by decide))); decide))) | (((repeat' apply And.intro) <;> first | exact trivial | assumption | (apply Bd.up; (solve | (repeat' first | assumption | exact Bd.zero | exact Bd.one | exact Bd.mone | apply Bd.mul | apply Bd.add | apply Bd.sub | apply Bd.neg | exact Bd.of (m := 64) (by decide))); decide))) | decide)); conv => whnf)))))
        refine ⟨d, rfl, ok, ?_⟩
        (((conv => whnf); (repeat' ((apply And.intro; (solve | (first | exact trivial | exact rfl | exact ownB_i rfl | (apply mulOk_bd; (solve | (repeat' first | assumption | exact Bd.zero | exact Bd.one | exact Bd.mone | apply Bd.mul | apply Bd.add | apply Bd.sub | apply Bd.neg | exact Bd.of (m := 64) (by decide))); (solve | (repeat' first | assumption | exact Bd.zero | exact Bd.one | exact Bd.mone | apply Bd.mul | apply Bd.add | apply Bd.sub | apply Bd.neg | exact Bd.of (m := 64) (by decide))); decide) | (refine okS_of ?_ rfl rfl; ((repeat' apply And.intro) <;> first | exact trivial | rfl | (show Bd _ _; apply Bd.up; (solve | (repeat' first | assumption | exact Bd.zero | exact Bd.one | exact Bd.mone | apply Bd.mul | apply Bd.add | apply Bd.sub | apply Bd.neg | exact Bd.of (m := 64) (by decide))); decide))) | (((repeat' apply And.intro) <;> first | exact trivial | assumption | (apply Bd.up; (solve | (repeat' first | assumption | exact Bd.zero | exact Bd.one | exact Bd.mone | apply Bd.mul | apply Bd.add | apply Bd.sub | apply Bd.neg | exact Bd.of (m := 64) (by decide))); decide))) | decide)); conv => whnf)))))
        refine ⟨d, rfl, ok, ?_⟩
        (((conv => whnf); (repeat' ((apply And.intro; (solve | (first | exact trivial | exact rfl | exact ownB_i rfl | (apply mulOk_bd; (solve | (repeat' first | assumption | exact Bd.zero | exact Bd.one | exact Bd.mone | apply Bd.mul | apply Bd.add | apply Bd.sub | apply Bd.neg | exact Bd.of (m := 64) (by decide))); (solve | (repeat' first | assumption | exact Bd.zero | exact Bd.one | exact Bd.mone | apply Bd.mul | apply Bd.add | apply Bd.sub | apply Bd.neg | exact Bd.of (m := 64) (by decide))); decide) | (refine okS_of ?_ rfl rfl; ((repeat' apply And.intro) <;> first | exact trivial | rfl | (show Bd _ _; apply Bd.up; (solve | (repeat' first | assumption | exact Bd.zero | exact Bd.one | exact Bd.mone | apply Bd.mul | apply Bd.add | apply Bd.sub | apply Bd.neg | exact Bd.of (m := 64) (by decide))); decide))) | (((repeat' apply And.intro) <;> first | exact trivial | assumption | (apply Bd.up; (solve | (repeat' first | assumption | exact Bd.zero | exact Bd.one | exact Bd.mone | apply Bd.mul | apply Bd.add | apply Bd.sub | apply Bd.neg | exact Bd.of (m := 64) (by decide))); decide))) | decide)); conv => whnf)))))
        refine ⟨d, rfl, ok, ?_⟩
        (((conv => whnf); (repeat' ((apply And.intro; (solve | (first | exact trivial | exact rfl | exact ownB_i rfl | (apply mulOk_bd; (solve | (repeat' first | assumption | exact Bd.zero | exact Bd.one | exact Bd.mone | apply Bd.mul | apply Bd.add | apply Bd.sub | apply Bd.neg | exact Bd.of (m := 64) (by decide))); (solve | (repeat' first | assumption | exact Bd.zero | exact Bd.one | exact Bd.mone | apply Bd.mul | apply Bd.add | apply Bd.sub | apply Bd.neg | exact Bd.of (m := 64) (by decide))); decide) | (refine okS_of ?_ rfl rfl; ((repeat' apply And.intro) <;> first | exact trivial | rfl | (show Bd _ _; apply Bd.up; (solve | (repeat' first | assumption | exact Bd.zero | exact Bd.one | exact Bd.mone | apply Bd.mul | apply Bd.add | apply Bd.sub | apply Bd.neg | exact Bd.of (m := 64) (by decide))); decide))) | (((repeat' apply And.intro) <;> first | exact trivial | assumption | (apply Bd.up; (solve | (repeat' first | assumption | exact Bd.zero | exact Bd.one | exact Bd.mone | apply Bd.mul | apply Bd.add | apply Bd.sub | apply Bd.neg | exact Bd.of (m := 64) (by decide))); decide))) | decide)); conv => whnf)))))
        refine ⟨d, rfl, ok, ?_⟩
        (((conv => whnf); (repeat' ((apply And.intro; (solve | (first | exact trivial | exact rfl | exact ownB_i rfl | (apply mulOk_bd; (solve | (repeat' first | assumption | exact Bd.zero | exact Bd.one | exact Bd.mone | apply Bd.mul | apply Bd.add | apply Bd.sub | apply Bd.neg | exact Bd.of (m := 64) (by decide))); (solve | (repeat' first | assumption | exact Bd.zero | exact Bd.one | exact Bd.mone | apply Bd.mul | apply Bd.add | apply Bd.sub | apply Bd.neg | exact Bd.of (m := 64) (by decide))); decide) | (refine okS_of ?_ rfl rfl; ((repeat' apply And.intro) <;> first | exact trivial | rfl | (show Bd _ _; apply Bd.up; (solve | (repeat' first | assumption | exact Bd.zero | exact Bd.one | exact Bd.mone | apply Bd.mul | apply Bd.add | apply Bd.sub | apply Bd.neg | exact Bd.of (m := 64) (by decide))); decide))) | (((repeat' apply And.intro) <;> first | exact trivial | assumption | (apply Bd.up; (solve | (repeat' first | assumption | exact Bd.zero | exact Bd.one | exact Bd.mone | apply Bd.mul | apply Bd.add | apply Bd.sub | apply Bd.neg | exact Bd.of (m := 64) (by decide))); decide))) | decide)); conv => whnf)))))
        refine kn [.mu cr3, .va v, .va (.int lo), .va (.int hi), .va d, .va a, .va b, .va c, .ow _] ?_
        refine stepN fun K' kn kr kb kc => ?_
        refine due_two C d ok (kn _ ?_)
        (((conv => whnf); (repeat' ((apply And.intro; (solve | (first | exact trivial | exact rfl | exact ownB_i rfl | (apply mulOk_bd; (solve | (repeat' first | assumption | exact Bd.zero | exact Bd.one | exact Bd.mone | apply Bd.mul | apply Bd.add | apply Bd.sub | apply Bd.neg | exact Bd.of (m := 64) (by decide))); (solve | (repeat' first | assumption | exact Bd.zero | exact Bd.one | exact Bd.mone | apply Bd.mul | apply Bd.add | apply Bd.sub | apply Bd.neg | exact Bd.of (m := 64) (by decide))); decide) | (refine okS_of ?_ rfl rfl; ((repeat' apply And.intro) <;> first | exact trivial | rfl | (show Bd _ _; apply Bd.up; (solve | (repeat' first | assumption | exact Bd.zero | exact Bd.one | exact Bd.mone | apply Bd.mul | apply Bd.add | apply Bd.sub | apply Bd.neg | exact Bd.of (m := 64) (by decide))); decide))) | (((repeat' apply And.intro) <;> first | exact trivial | assumption | (apply Bd.up; (solve | (repeat' first | assumption | exact Bd.zero | exact Bd.one | exact Bd.mone | apply Bd.mul | apply Bd.add | apply Bd.sub | apply Bd.neg | exact Bd.of (m := 64) (by decide))); decide))) | decide)); conv => whnf)))))
        (first | (refine br_sameo ?_ ?_; (first | exact rfl | exact congrArg shD (by (first | exact rfl | exact am_eq (by grind) (by grind) (by grind) (by grind) | exact pr_eq (by grind) (by grind)))); (((conv => whnf); (repeat' ((apply And.intro; (solve | (first | exact trivial | exact rfl | exact ownB_i rfl | (apply mulOk_bd; (solve | (repeat' first | assumption | exact Bd.zero | exact Bd.one | exact Bd.mone | apply Bd.mul | apply Bd.add | apply Bd.sub | apply Bd.neg | exact Bd.of (m := 64) (by decide))); (solve | (repeat' first | assumption | exact Bd.zero | exact Bd.one | exact Bd.mone | apply Bd.mul | apply Bd.add | apply Bd.sub | apply Bd.neg | exact Bd.of (m := 64) (by decide))); decide) | (refine okS_of ?_ rfl rfl; ((repeat' apply And.intro) <;> first | exact trivial | rfl | (show Bd _ _; apply Bd.up; (solve | (repeat' first | assumption | exact Bd.zero | exact Bd.one | exact Bd.mone | apply Bd.mul | apply Bd.add | apply Bd.sub | apply Bd.neg | exact Bd.of (m := 64) (by decide))); decide))) | (((repeat' apply And.intro) <;> first | exact trivial | assumption | (apply Bd.up; (solve | (repeat' first | assumption | exact Bd.zero | exact Bd.one | exact Bd.mone | apply Bd.mul | apply Bd.add | apply Bd.sub | apply Bd.neg | exact Bd.of (m := 64) (by decide))); decide))) | decide)); conv => whnf)))))) | (refine br_same ?_ ?_; (first | exact rfl | exact congrArg shD (by (first | exact rfl | exact am_eq (by grind) (by grind) (by grind) (by grind) | exact pr_eq (by grind) (by grind)))); (((conv => whnf); (repeat' ((apply And.intro; (solve | (first | exact trivial | exact rfl | exact ownB_i rfl | (apply mulOk_bd; (solve | (repeat' first | assumption | exact Bd.zero | exact Bd.one | exact Bd.mone | apply Bd.mul | apply Bd.add | apply Bd.sub | apply Bd.neg | exact Bd.of (m := 64) (by decide))); (solve | (repeat' first | assumption | exact Bd.zero | exact Bd.one | exact Bd.mone | apply Bd.mul | apply Bd.add | apply Bd.sub | apply Bd.neg | exact Bd.of (m := 64) (by decide))); decide) | (refine okS_of ?_ rfl rfl; ((repeat' apply And.intro) <;> first | exact trivial | rfl | (show Bd _ _; apply Bd.up; (solve | (repeat' first | assumption | exact Bd.zero | exact Bd.one | exact Bd.mone | apply Bd.mul | apply Bd.add | apply Bd.sub | apply Bd.neg | exact Bd.of (m := 64) (by decide))); decide))) | (((repeat' apply And.intro) <;> first | exact trivial | assumption | (apply Bd.up; (solve | (repeat' first | assumption | exact Bd.zero | exact Bd.one | exact Bd.mone | apply Bd.mul | apply Bd.add | apply Bd.sub | apply Bd.neg | exact Bd.of (m := 64) (by decide))); decide))) | decide)); conv => whnf)))))) | (refine br_eqo ?_ ?_; (first | exact rfl | exact am_eq (by grind) (by grind) (by grind) (by grind) | exact pr_eq (by grind) (by grind)); (((conv => whnf); (repeat' ((apply And.intro; (solve | (first | exact trivial | exact rfl | exact ownB_i rfl | (apply mulOk_bd; (solve | (repeat' first | assumption | exact Bd.zero | exact Bd.one | exact Bd.mone | apply Bd.mul | apply Bd.add | apply Bd.sub | apply Bd.neg | exact Bd.of (m := 64) (by decide))); (solve | (repeat' first | assumption | exact Bd.zero | exact Bd.one | exact Bd.mone | apply Bd.mul | apply Bd.add | apply Bd.sub | apply Bd.neg | exact Bd.of (m := 64) (by decide))); decide) | (refine okS_of ?_ rfl rfl; ((repeat' apply And.intro) <;> first | exact trivial | rfl | (show Bd _ _; apply Bd.up; (solve | (repeat' first | assumption | exact Bd.zero | exact Bd.one | exact Bd.mone | apply Bd.mul | apply Bd.add | apply Bd.sub | apply Bd.neg | exact Bd.of (m := 64) (by decide))); decide))) | (((repeat' apply And.intro) <;> first | exact trivial | assumption | (apply Bd.up; (solve | (repeat' first | assumption | exact Bd.zero | exact Bd.one | exact Bd.mone | apply Bd.mul | apply Bd.add | apply Bd.sub | apply Bd.neg | exact Bd.of (m := 64) (by decide))); decide))) | decide)); conv => whnf)))))) | (refine br_eq ?_ ?_; (first | exact rfl | exact am_eq (by grind) (by grind) (by grind) (by grind) | exact pr_eq (by grind) (by grind)); (((conv => whnf); (repeat' ((apply And.intro; (solve | (first | exact trivial | exact rfl | exact ownB_i rfl | (apply mulOk_bd; (solve | (repeat' first | assumption | exact Bd.zero | exact Bd.one | exact Bd.mone | apply Bd.mul | apply Bd.add | apply Bd.sub | apply Bd.neg | exact Bd.of (m := 64) (by decide))); (solve | (repeat' first | assumption | exact Bd.zero | exact Bd.one | exact Bd.mone | apply Bd.mul | apply Bd.add | apply Bd.sub | apply Bd.neg | exact Bd.of (m := 64) (by decide))); decide) | (refine okS_of ?_ rfl rfl; ((repeat' apply And.intro) <;> first | exact trivial | rfl | (show Bd _ _; apply Bd.up; (solve | (repeat' first | assumption | exact Bd.zero | exact Bd.one | exact Bd.mone | apply Bd.mul | apply Bd.add | apply Bd.sub | apply Bd.neg | exact Bd.of (m := 64) (by decide))); decide))) | (((repeat' apply And.intro) <;> first | exact trivial | assumption | (apply Bd.up; (solve | (repeat' first | assumption | exact Bd.zero | exact Bd.one | exact Bd.mone | apply Bd.mul | apply Bd.add | apply Bd.sub | apply Bd.neg | exact Bd.of (m := 64) (by decide))); decide))) | decide)); conv => whnf)))))))
        exact k _ _)
    have pairs : ∀ e ∈ [D.tup [.int lo, .int hi], .tup [.non, .int hi], .tup [.int lo, .non], .tup [.non, .non]], ∃ a b, e = .tup [optD a, optD b] := by
      intro e he
      simp only [List.mem_cons, List.not_mem_nil, or_false] at he
      rcases he with rfl | rfl | rfl | rfl
      · exact ⟨some lo, some hi, rfl⟩
      · exact ⟨none, some hi, rfl⟩
      · exact ⟨some lo, none, rfl⟩
      · exact ⟨none, none, rfl⟩
    have body : ∀ (a b : Option Int) (s7 s8 : Sl), (s7 = .no ∨ (∃ z, s7 = .va z) ∨ ∃ z, s7 = .ow z) → (s8 = .no ∨ ∃ z, s8 = .ow z) → ∀ K : Out → En → Prop, (∀ c, K .nxt [.mu cr3, .va v, .va (.int lo), .va (.int hi), .va d, .va (optD a), .va (optD b), .va c, s8]) →
        smsN bF C (.cons (.asg (.name 7) (.bop true (.cons (.call 2 (.cons (.var 4) .nil)) (.cons (.bop false (.cons (.cmp .Is (.var 5) .non) (.cons (.cmp .GtE (.var 4) (.var 5)) .nil))) (.cons (.bop false (.cons (.cmp .Is (.var 6) .non) (.cons (.cmp .LtE (.var 4) (.var 6)) .nil))) .nil)))))
  (.cons (.iff (.bop false (.cons (.cmp .NotEq (.blt .repr (.cons (.call 3 (.cons (.var 4) (.cons (.var 5) (.cons (.var 6) .nil)))) .nil)) (.blt .repr (.cons (.var 7) .nil))) (.cons (.cmp .NotEq (.blt .repr (.cons (.callk 3 ["most", "least", "value"] [2, 1, 0] .nil (.cons (.var 6) (.cons (.var 5) (.cons (.var 4) .nil)))) .nil)) (.blt .repr (.cons (.var 7) .nil))) .nil)))
  (.cons (.ret (.bl false))
  .nil)
  .nil)
  .nil)) [.mu cr3, .va v, .va (.int lo), .va (.int hi), .va d, .va (optD a), .va (optD b), s7, s8] K := by
      intro a b s7 s8 h7 h8 K k
      refine stepN fun K' kn kr kb kc => ?_
      refine due_one C d a b ok h8 s7 h7 (kn _ ?_)
      rcases h8 with rfl | ⟨z, rfl⟩ <;> (
        (((conv => whnf); (repeat' ((apply And.intro; (solve | (first | exact trivial | exact rfl | exact ownB_i rfl | (apply mulOk_bd; (solve | (repeat' first | assumption | exact Bd.zero | exact Bd.one | exact Bd.mone | apply Bd.mul | apply Bd.add | apply Bd.sub | apply Bd.neg | exact Bd.of (m := 64) (by decide))); (solve | (repeat' first | assumption | exact Bd.zero | exact Bd.one | exact Bd.mone | apply Bd.mul | apply Bd.add | apply Bd.sub | apply Bd.neg | exact Bd.of (m := 64) (by decide))); decide) | (refine okS_of ?_ rfl rfl; ((repeat' apply And.intro) <;> first | exact trivial | rfl | (show Bd _ _; apply Bd.up; (solve | (repeat' first | assumption | exact Bd.zero | exact Bd.one | exact Bd.mone | apply Bd.mul | apply Bd.add | apply Bd.sub | apply Bd.neg | exact Bd.of (m := 64) (by decide))); decide))) | (((repeat' apply And.intro) <;> first | exact trivial | assumption | (apply Bd.up; (solve | (repeat' first | assumption | exact Bd.zero | exact Bd.one | exact Bd.mone | apply Bd.mul | apply Bd.add | apply Bd.sub | apply Bd.neg | exact Bd.of (m := 64) (by decide))); decide))) | decide)); conv => whnf)))))
        refine ⟨d, a, b, rfl, ok, ?_⟩
        (((conv => whnf); (repeat' ((apply And.intro; (solve | (first | exact trivial | exact rfl | exact ownB_i rfl | (apply mulOk_bd; (solve | (repeat' first | assumption | exact Bd.zero | exact Bd.one | exact Bd.mone | apply Bd.mul | apply Bd.add | apply Bd.sub | apply Bd.neg | exact Bd.of (m := 64) (by decide))); (solve | (repeat' first | assumption | exact Bd.zero | exact Bd.one | exact Bd.mone | apply Bd.mul | apply Bd.add | apply Bd.sub | apply Bd.neg | exact Bd.of (m := 64) (by decide))); decide) | (refine okS_of ?_ rfl rfl; ((repeat' apply And.intro) <;> first | exact trivial | rfl | (show Bd _ _; apply Bd.up; (solve | (repeat' first | assumption | exact Bd.zero | exact Bd.one | exact Bd.mone | apply Bd.mul | apply Bd.add | apply Bd.sub | apply Bd.neg | exact Bd.of (m := 64) (by decide))); decide))) | (((repeat' apply And.intro) <;> first | exact trivial | assumption | (apply Bd.up; (solve | (repeat' first | assumption | exact Bd.zero | exact Bd.one | exact Bd.mone | apply Bd.mul | apply Bd.add | apply Bd.sub | apply Bd.neg | exact Bd.of (m := 64) (by decide))); decide))) | decide)); conv => whnf)))))
        (first | (refine br_sameo ?_ ?_; (first | exact rfl | exact congrArg shD (by (first | exact rfl | exact am_eq (by grind) (by grind) (by grind) (by grind) | exact pr_eq (by grind) (by grind)))); (((conv => whnf); (repeat' ((apply And.intro; (solve | (first | exact trivial | exact rfl | exact ownB_i rfl | (apply mulOk_bd; (solve | (repeat' first | assumption | exact Bd.zero | exact Bd.one | exact Bd.mone | apply Bd.mul | apply Bd.add | apply Bd.sub | apply Bd.neg | exact Bd.of (m := 64) (by decide))); (solve | (repeat' first | assumption | exact Bd.zero | exact Bd.one | exact Bd.mone | apply Bd.mul | apply Bd.add | apply Bd.sub | apply Bd.neg | exact Bd.of (m := 64) (by decide))); decide) | (refine okS_of ?_ rfl rfl; ((repeat' apply And.intro) <;> first | exact trivial | rfl | (show Bd _ _; apply Bd.up; (solve | (repeat' first | assumption | exact Bd.zero | exact Bd.one | exact Bd.mone | apply Bd.mul | apply Bd.add | apply Bd.sub | apply Bd.neg | exact Bd.of (m := 64) (by decide))); decide))) | (((repeat' apply And.intro) <;> first | exact trivial | assumption | (apply Bd.up; (solve | (repeat' first | assumption | exact Bd.zero | exact Bd.one | exact Bd.mone | apply Bd.mul | apply Bd.add | apply Bd.sub | apply Bd.neg | exact Bd.of (m := 64) (by decide))); decide))) | decide)); conv => whnf)))))) | (refine br_same ?_ ?_; (first | exact rfl | exact congrArg shD (by (first | exact rfl | exact am_eq (by grind) (by grind) (by grind) (by grind) | exact pr_eq (by grind) (by grind)))); (((conv => whnf); (repeat' ((apply And.intro; (solve | (first | exact trivial | exact rfl | exact ownB_i rfl | (apply mulOk_bd; (solve | (repeat' first | assumption | exact Bd.zero | exact Bd.one | exact Bd.mone | apply Bd.mul | apply Bd.add | apply Bd.sub | apply Bd.neg | exact Bd.of (m := 64) (by decide))); (solve | (repeat' first | assumption | exact Bd.zero | exact Bd.one | exact Bd.mone | apply Bd.mul | apply Bd.add | apply Bd.sub | apply Bd.neg | exact Bd.of (m := 64) (by decide))); decide) | (refine okS_of ?_ rfl rfl; ((repeat' apply And.intro) <;> first | exact trivial | rfl | (show Bd _ _; apply Bd.up; (solve | (repeat' first | assumption | exact Bd.zero | exact Bd.one | exact Bd.mone | apply Bd.mul | apply Bd.add | apply Bd.sub | apply Bd.neg | exact Bd.of (m := 64) (by decide))); decide))) | (((repeat' apply And.intro) <;> first | exact trivial | assumption | (apply Bd.up; (solve | (repeat' first | assumption | exact Bd.zero | exact Bd.one | exact Bd.mone | apply Bd.mul | apply Bd.add | apply Bd.sub | apply Bd.neg | exact Bd.of (m := 64) (by decide))); decide))) | decide)); conv => whnf)))))) | (refine br_eqo ?_ ?_; (first | exact rfl | exact am_eq (by grind) (by grind) (by grind) (by grind) | exact pr_eq (by grind) (by grind)); (((conv => whnf); (repeat' ((apply And.intro; (solve | (first | exact trivial | exact rfl | exact ownB_i rfl | (apply mulOk_bd; (solve | (repeat' first | assumption | exact Bd.zero | exact Bd.one | exact Bd.mone | apply Bd.mul | apply Bd.add | apply Bd.sub | apply Bd.neg | exact Bd.of (m := 64) (by decide))); (solve | (repeat' first | assumption | exact Bd.zero | exact Bd.one | exact Bd.mone | apply Bd.mul | apply Bd.add | apply Bd.sub | apply Bd.neg | exact Bd.of (m := 64) (by decide))); decide) | (refine okS_of ?_ rfl rfl; ((repeat' apply And.intro) <;> first | exact trivial | rfl | (show Bd _ _; apply Bd.up; (solve | (repeat' first | assumption | exact Bd.zero | exact Bd.one | exact Bd.mone | apply Bd.mul | apply Bd.add | apply Bd.sub | apply Bd.neg | exact Bd.of (m := 64) (by decide))); decide))) | (((repeat' apply And.intro) <;> first | exact trivial | assumption | (apply Bd.up; (solve | (repeat' first | assumption | exact Bd.zero | exact Bd.one | exact Bd.mone | apply Bd.mul | apply Bd.add | apply Bd.sub | apply Bd.neg | exact Bd.of (m := 64) (by decide))); decide))) | decide)); conv => whnf)))))) | (refine br_eq ?_ ?_; (first | exact rfl | exact am_eq (by grind) (by grind) (by grind) (by grind) | exact pr_eq (by grind) (by grind)); (((conv => whnf); (repeat' ((apply And.intro; (solve | (first | exact trivial | exact rfl | exact ownB_i rfl | (apply mulOk_bd; (solve | (repeat' first | assumption | exact Bd.zero | exact Bd.one | exact Bd.mone | apply Bd.mul | apply Bd.add | apply Bd.sub | apply Bd.neg | exact Bd.of (m := 64) (by decide))); (solve | (repeat' first | assumption | exact Bd.zero | exact Bd.one | exact Bd.mone | apply Bd.mul | apply Bd.add | apply Bd.sub | apply Bd.neg | exact Bd.of (m := 64) (by decide))); decide) | (refine okS_of ?_ rfl rfl; ((repeat' apply And.intro) <;> first | exact trivial | rfl | (show Bd _ _; apply Bd.up; (solve | (repeat' first | assumption | exact Bd.zero | exact Bd.one | exact Bd.mone | apply Bd.mul | apply Bd.add | apply Bd.sub | apply Bd.neg | exact Bd.of (m := 64) (by decide))); decide))) | (((repeat' apply And.intro) <;> first | exact trivial | assumption | (apply Bd.up; (solve | (repeat' first | assumption | exact Bd.zero | exact Bd.one | exact Bd.mone | apply Bd.mul | apply Bd.add | apply Bd.sub | apply Bd.neg | exact Bd.of (m := 64) (by decide))); decide))) | decide)); conv => whnf)))))))
        refine ⟨d, a, b, rfl, ok, ?_⟩
        (((conv => whnf); (repeat' ((apply And.intro; (solve | (first | exact trivial | exact rfl | exact ownB_i rfl | (apply mulOk_bd; (solve | (repeat' first | assumption | exact Bd.zero | exact Bd.one | exact Bd.mone | apply Bd.mul | apply Bd.add | apply Bd.sub | apply Bd.neg | exact Bd.of (m := 64) (by decide))); (solve | (repeat' first | assumption | exact Bd.zero | exact Bd.one | exact Bd.mone | apply Bd.mul | apply Bd.add | apply Bd.sub | apply Bd.neg | exact Bd.of (m := 64) (by decide))); decide) | (refine okS_of ?_ rfl rfl; ((repeat' apply And.intro) <;> first | exact trivial | rfl | (show Bd _ _; apply Bd.up; (solve | (repeat' first | assumption | exact Bd.zero | exact Bd.one | exact Bd.mone | apply Bd.mul | apply Bd.add | apply Bd.sub | apply Bd.neg | exact Bd.of (m := 64) (by decide))); decide))) | (((repeat' apply And.intro) <;> first | exact trivial | assumption | (apply Bd.up; (solve | (repeat' first | assumption | exact Bd.zero | exact Bd.one | exact Bd.mone | apply Bd.mul | apply Bd.add | apply Bd.sub | apply Bd.neg | exact Bd.of (m := 64) (by decide))); decide))) | decide)); conv => whnf)))))
        (first | (refine br_sameo ?_ ?_; (first | exact rfl | exact congrArg shD (by (first | exact rfl | exact am_eq (by grind) (by grind) (by grind) (by grind) | exact pr_eq (by grind) (by grind)))); (((conv => whnf); (repeat' ((apply And.intro; (solve | (first | exact trivial | exact rfl | exact ownB_i rfl | (apply mulOk_bd; (solve | (repeat' first | assumption | exact Bd.zero | exact Bd.one | exact Bd.mone | apply Bd.mul | apply Bd.add | apply Bd.sub | apply Bd.neg | exact Bd.of (m := 64) (by decide))); (solve | (repeat' first | assumption | exact Bd.zero | exact Bd.one | exact Bd.mone | apply Bd.mul | apply Bd.add | apply Bd.sub | apply Bd.neg | exact Bd.of (m := 64) (by decide))); decide) | (refine okS_of ?_ rfl rfl; ((repeat' apply And.intro) <;> first | exact trivial | rfl | (show Bd _ _; apply Bd.up; (solve | (repeat' first | assumption | exact Bd.zero | exact Bd.one | exact Bd.mone | apply Bd.mul | apply Bd.add | apply Bd.sub | apply Bd.neg | exact Bd.of (m := 64) (by decide))); decide))) | (((repeat' apply And.intro) <;> first | exact trivial | assumption | (apply Bd.up; (solve | (repeat' first | assumption | exact Bd.zero | exact Bd.one | exact Bd.mone | apply Bd.mul | apply Bd.add | apply Bd.sub | apply Bd.neg | exact Bd.of (m := 64) (by decide))); decide))) | decide)); conv => whnf)))))) | (refine br_same ?_ ?_; (first | exact rfl | exact congrArg shD (by (first | exact rfl | exact am_eq (by grind) (by grind) (by grind) (by grind) | exact pr_eq (by grind) (by grind)))); (((conv => whnf); (repeat' ((apply And.intro; (solve | (first | exact trivial | exact rfl | exact ownB_i rfl | (apply mulOk_bd; (solve | (repeat' first | assumption | exact Bd.zero | exact Bd.one | exact Bd.mone | apply Bd.mul | apply Bd.add | apply Bd.sub | apply Bd.neg | exact Bd.of (m := 64) (by decide))); (solve | (repeat' first | assumption | exact Bd.zero | exact Bd.one | exact Bd.mone | apply Bd.mul | apply Bd.add | apply Bd.sub | apply Bd.neg | exact Bd.of (m := 64) (by decide))); decide) | (refine okS_of ?_ rfl rfl; ((repeat' apply And.intro) <;> first | exact trivial | rfl | (show Bd _ _; apply Bd.up; (solve | (repeat' first | assumption | exact Bd.zero | exact Bd.one | exact Bd.mone | apply Bd.mul | apply Bd.add | apply Bd.sub | apply Bd.neg | exact Bd.of (m := 64) (by decide))); decide))) | (((repeat' apply And.intro) <;> first | exact trivial | assumption | (apply Bd.up; (solve | (repeat' first | assumption | exact Bd.zero | exact Bd.one | exact Bd.mone | apply Bd.mul | apply Bd.add | apply Bd.sub | apply Bd.neg | exact Bd.of (m := 64) (by decide))); decide))) | decide)); conv => whnf)))))) | (refine br_eqo ?_ ?_; (first | exact rfl | exact am_eq (by grind) (by grind) (by grind) (by grind) | exact pr_eq (by grind) (by grind)); (((conv => whnf); (repeat' ((apply And.intro; (solve | (first | exact trivial | exact rfl | exact ownB_i rfl | (apply mulOk_bd; (solve | (repeat' first | assumption | exact Bd.zero | exact Bd.one | exact Bd.mone | apply Bd.mul | apply Bd.add | apply Bd.sub | apply Bd.neg | exact Bd.of (m := 64) (by decide))); (solve | (repeat' first | assumption | exact Bd.zero | exact Bd.one | exact Bd.mone | apply Bd.mul | apply Bd.add | apply Bd.sub | apply Bd.neg | exact Bd.of (m := 64) (by decide))); decide) | (refine okS_of ?_ rfl rfl; ((repeat' apply And.intro) <;> first | exact trivial | rfl | (show Bd _ _; apply Bd.up; (solve | (repeat' first | assumption | exact Bd.zero | exact Bd.one | exact Bd.mone | apply Bd.mul | apply Bd.add | apply Bd.sub | apply Bd.neg | exact Bd.of (m := 64) (by decide))); decide))) | (((repeat' apply And.intro) <;> first | exact trivial | assumption | (apply Bd.up; (solve | (repeat' first | assumption | exact Bd.zero | exact Bd.one | exact Bd.mone | apply Bd.mul | apply Bd.add | apply Bd.sub | apply Bd.neg | exact Bd.of (m := 64) (by decide))); decide))) | decide)); conv => whnf)))))) | (refine br_eq ?_ ?_; (first | exact rfl | exact am_eq (by grind) (by grind) (by grind) (by grind) | exact pr_eq (by grind) (by grind)); (((conv => whnf); (repeat' ((apply And.intro; (solve | (first | exact trivial | exact rfl | exact ownB_i rfl | (apply mulOk_bd; (solve | (repeat' first | assumption | exact Bd.zero | exact Bd.one | exact Bd.mone | apply Bd.mul | apply Bd.add | apply Bd.sub | apply Bd.neg | exact Bd.of (m := 64) (by decide))); (solve | (repeat' first | assumption | exact Bd.zero | exact Bd.one | exact Bd.mone | apply Bd.mul | apply Bd.add | apply Bd.sub | apply Bd.neg | exact Bd.of (m := 64) (by decide))); decide) | (refine okS_of ?_ rfl rfl; ((repeat' apply And.intro) <;> first | exact trivial | rfl | (show Bd _ _; apply Bd.up; (solve | (repeat' first | assumption | exact Bd.zero | exact Bd.one | exact Bd.mone | apply Bd.mul | apply Bd.add | apply Bd.sub | apply Bd.neg | exact Bd.of (m := 64) (by decide))); decide))) | (((repeat' apply And.intro) <;> first | exact trivial | assumption | (apply Bd.up; (solve | (repeat' first | assumption | exact Bd.zero | exact Bd.one | exact Bd.mone | apply Bd.mul | apply Bd.add | apply Bd.sub | apply Bd.neg | exact Bd.of (m := 64) (by decide))); decide))) | decide)); conv => whnf)))))))
        exact k _)
    rcases hs with ⟨rfl, rfl, rfl, rfl, rfl⟩ | ⟨a, b, c, e7, e8, rfl, rfl, rfl, rfl, rfl⟩
    · refine tg1 [.mu cr3, .va v, .va (.int lo), .va (.int hi), .va d, .no, .no, .no, .no] rfl rfl ?_
      refine stepN fun K' kn kr kb kc => ?_
      refine forr_s [.tup [.int lo, .int hi], .tup [.non, .int hi], .tup [.int lo, .non], .tup [.non, .non]] [.mu cr3, .va v, .va (.int lo), .va (.int hi), .va d, .no, .no, .no, .no] (fun X hX => by (conv => whnf); exact hX) ?_
      refine forN_i (fun i ρ => (i = 0 ∧ ρ = [.mu cr3, .va v, .va (.int lo), .va (.int hi), .va d, .no, .no, .no, .no]) ∨ ∃ a b c, ρ = [.mu cr3, .va v, .va (.int lo), .va (.int hi), .va d, .va a, .va b, .va c, .no]) (.inl ⟨rfl, rfl⟩) ?_ ?_
      · rintro j e ρ K2 hj hs q1 q2 q3 q4
        obtain ⟨x, y, rfl⟩ := pairs e (List.mem_of_getElem? hj)
        rcases hs with ⟨_, rfl⟩ | ⟨a, b, c, rfl⟩
        · refine tg2 [.mu cr3, .va v, .va (.int lo), .va (.int hi), .va d, .va (optD x), .va (optD y), .no, .no] rfl rfl rfl ?_
          exact body x y .no .no (.inl rfl) (.inl rfl) _ fun c => q1 _ (.inr ⟨_, _, c, rfl⟩) trivial
        · refine tg2 [.mu cr3, .va v, .va (.int lo), .va (.int hi), .va d, .va (optD x), .va (optD y), .va c, .no] rfl rfl rfl ?_
          exact body x y (.va c) .no (.inr (.inl ⟨_, rfl⟩)) (.inl rfl) _ fun c => q1 _ (.inr ⟨_, _, c, rfl⟩) trivial
      · rintro ρ (⟨h0, rfl⟩ | ⟨a, b, c, rfl⟩)
        · cases h0
        · exact kn _ (tail a b c .no (.inl rfl) _ fun e7 e8 => k1 _ ⟨_, _, _, _, _, rfl, .inr ⟨_, _, _, _, _, rfl, rfl, rfl, rfl, rfl⟩⟩ trivial)
    · refine tg1 [.mu cr3, .va v, .va (.int lo), .va (.int hi), .va d, .va b, .va c, .ow e7, .ow e8] rfl rfl ?_
      refine stepN fun K' kn kr kb kc => ?_
      refine forr_s [.tup [.int lo, .int hi], .tup [.non, .int hi], .tup [.int lo, .non], .tup [.non, .non]] [.mu cr3, .va v, .va (.int lo), .va (.int hi), .va d, .va b, .va c, .ow e7, .ow e8] (fun X hX => by (conv => whnf); exact hX) ?_
      refine forN_i (fun i ρ => (i = 0 ∧ ρ = [.mu cr3, .va v, .va (.int lo), .va (.int hi), .va d, .va b, .va c, .ow e7, .ow e8]) ∨ ∃ a b c, ρ = [.mu cr3, .va v, .va (.int lo), .va (.int hi), .va d, .va a, .va b, .va c, .ow e8]) (.inl ⟨rfl, rfl⟩) ?_ ?_
      · rintro j e ρ K2 hj hs q1 q2 q3 q4
        obtain ⟨x, y, rfl⟩ := pairs e (List.mem_of_getElem? hj)
        rcases hs with ⟨_, rfl⟩ | ⟨a, b, c, rfl⟩
        · refine tg2 [.mu cr3, .va v, .va (.int lo), .va (.int hi), .va d, .va (optD x), .va (optD y), .ow e7, .ow e8] rfl rfl rfl ?_
          exact body x y (.ow e7) (.ow e8) (.inr (.inr ⟨_, rfl⟩)) (.inr ⟨_, rfl⟩) _ fun c => q1 _ (.inr ⟨_, _, c, rfl⟩) trivial
        · refine tg2 [.mu cr3, .va v, .va (.int lo), .va (.int hi), .va d, .va (optD x), .va (optD y), .va c, .ow e8] rfl rfl rfl ?_
          exact body x y (.va c) (.ow e8) (.inr (.inl ⟨_, rfl⟩)) (.inr ⟨_, rfl⟩) _ fun c => q1 _ (.inr ⟨_, _, c, rfl⟩) trivial
      · rintro ρ (⟨h0, rfl⟩ | ⟨a, b, c, rfl⟩)
        · cases h0
        · exact kn _ (tail a b c (.ow e8) (.inr ⟨_, rfl⟩) _ fun e7 e8 => k1 _ ⟨_, _, _, _, _, rfl, .inr ⟨_, _, _, _, _, rfl, rfl, rfl, rfl, rfl⟩⟩ trivial)
  · rintro ρ ⟨s4, s5, s6, s7, s8, rfl, hs⟩
    rcases hs with ⟨rfl, rfl, rfl, rfl, rfl⟩ | ⟨a, b, c, e7, e8, rfl, rfl, rfl, rfl, rfl⟩
    · refine kn _ ?_
      (((conv => whnf); (repeat' ((apply And.intro; (solve | (first | exact trivial | exact rfl | exact ownB_i rfl | (apply mulOk_bd; (solve | (repeat' first | assumption | exact Bd.zero | exact Bd.one | exact Bd.mone | apply Bd.mul | apply Bd.add | apply Bd.sub | apply Bd.neg | exact Bd.of (m := 64) (by decide))); (solve | (repeat' first | assumption | exact Bd.zero | exact Bd.one | exact Bd.mone | apply Bd.mul | apply Bd.add | apply Bd.sub | apply Bd.neg | exact Bd.of (m := 64) (by decide))); decide) | (refine okS_of ?_ rfl rfl; ((repeat' apply And.intro) <;> first | exact trivial | rfl | (show Bd _ _; apply Bd.up; (solve | (repeat' first | assumption | exact Bd.zero | exact Bd.one | exact Bd.mone | apply Bd.mul | apply Bd.add | apply Bd.sub | apply Bd.neg | exact Bd.of (m := 64) (by decide))); decide))) | (((repeat' apply And.intro) <;> first | exact trivial | assumption | (apply Bd.up; (solve | (repeat' first | assumption | exact Bd.zero | exact Bd.one | exact Bd.mone | apply Bd.mul | apply Bd.add | apply Bd.sub | apply Bd.neg | exact Bd.of (m := 64) (by decide))); decide))) | decide)); conv => whnf)))))
      exact q _ hc3
    · refine kn _ ?_
      (((conv => whnf); (repeat' ((apply And.intro; (solve | (first | exact trivial | exact rfl | exact ownB_i rfl | (apply mulOk_bd; (solve | (repeat' first | assumption | exact Bd.zero | exact Bd.one | exact Bd.mone | apply Bd.mul | apply Bd.add | apply Bd.sub | apply Bd.neg | exact Bd.of (m := 64) (by decide))); (solve | (repeat' first | assumption | exact Bd.zero | exact Bd.one | exact Bd.mone | apply Bd.mul | apply Bd.add | apply Bd.sub | apply Bd.neg | exact Bd.of (m := 64) (by decide))); decide) | (refine okS_of ?_ rfl rfl; ((repeat' apply And.intro) <;> first | exact trivial | rfl | (show Bd _ _; apply Bd.up; (solve | (repeat' first | assumption | exact Bd.zero | exact Bd.one | exact Bd.mone | apply Bd.mul | apply Bd.add | apply Bd.sub | apply Bd.neg | exact Bd.of (m := 64) (by decide))); decide))) | (((repeat' apply And.intro) <;> first | exact trivial | assumption | (apply Bd.up; (solve | (repeat' first | assumption | exact Bd.zero | exact Bd.one | exact Bd.mone | apply Bd.mul | apply Bd.add | apply Bd.sub | apply Bd.neg | exact Bd.of (m := 64) (by decide))); decide))) | decide)); conv => whnf)))))
      exact q _ hc3
end
end DL

namespace DL
open PySem PySem.Spec PyProof.Rows L2
theorem ofS_all (s : String) : ((PySem.Str.ofString s).cps.toList.all fun c => decide (c < 16 ^ 8)) = true := by
  rw [PySem.Str.ofString_eq_toList]
  rw [List.all_eq_true]
  intro c hc
  simp only [List.mem_map] at hc
  obtain ⟨a, _, rfl⟩ := hc
  have := a.val.toNat_lt
  exact decide_eq_true this
structure Ite (x : D) : Prop where
  s : sd 1 x
  a : allI 1900 x
  b : x.pyR.bulk ≤ 200
  p : x.pyR.depth ≤ 2
structure Vl (d : D) : Prop where
  s : sd 2 d
  l : ∀ ds, seqL? d = some ds → ds.length ≤ 4000
  k : okS d
theorem allIs_of {k : Nat} : ∀ {ds : List D}, (∀ x ∈ ds, allI k x) → allIs k ds
  | [], _ => trivial
  | d :: ds, h => ⟨h d List.mem_cons_self, allIs_of fun x hx => h x (List.mem_cons_of_mem _ hx)⟩
theorem bulk_of {n : Nat} : ∀ {ds : List D}, (∀ x ∈ ds, x.pyR.bulk ≤ n) → PyData.bulkAll (D.pysR ds) ≤ (n + 1) * ds.length
  | [], _ => Nat.zero_le _
  | d :: ds, h => by
    have h1 := h d List.mem_cons_self
    have h2 := bulk_of fun x hx => h x (List.mem_cons_of_mem _ hx)
    show d.pyR.bulk + 1 + PyData.bulkAll (D.pysR ds) ≤ _
    rw [List.length_cons, Nat.mul_succ]
    omega
theorem depth_of {n : Nat} : ∀ {ds : List D}, (∀ x ∈ ds, x.pyR.depth ≤ n) → PyData.depthAll (D.pysR ds) ≤ n
  | [], _ => Nat.zero_le _
  | d :: ds, h => by
    have h1 := h d List.mem_cons_self
    have h2 := depth_of fun x hx => h x (List.mem_cons_of_mem _ hx)
    show max d.pyR.depth (PyData.depthAll (D.pysR ds)) ≤ n
    omega
theorem okS_i {d : D} (h : allI 1900 d) (w : d.pyR.bulk ≤ 8000) (p : d.pyR.depth ≤ 64) : okS d := okS_of h (Nat.ble_eq_true_of_le w) (Nat.ble_eq_true_of_le p)
theorem vl_seq {d : D} {ds : List D} (hs : seqL? d = some ds) (h : ∀ x ∈ ds, Ite x) (l : ds.length ≤ 38) : Vl d := by
  have b := bulk_of fun x hx => (h x hx).b
  have p := depth_of fun x hx => (h x hx).p
  have a := allIs_of fun x hx => (h x hx).a
  rcases itm_cases hs with rfl | rfl
  · refine ⟨⟨rfl, fun es e => ?_⟩, fun es e => ?_, okS_i a ?_ ?_⟩
    · cases e
      exact ⟨by omega, fun x hx => (h x hx).s⟩
    · cases e
      omega
    · show PyData.bulkAll (D.pysR ds) ≤ _
      omega
    · show PyData.depthAll (D.pysR ds) + 1 ≤ _
      omega
  · refine ⟨⟨rfl, fun es e => ?_⟩, fun es e => ?_, okS_i a ?_ ?_⟩
    · cases e
      exact ⟨by omega, fun x hx => (h x hx).s⟩
    · cases e
      omega
    · show PyData.bulkAll (D.pysR ds) ≤ _
      omega
    · show PyData.depthAll (D.pysR ds) + 1 ≤ _
      omega
theorem ite_int {i : Int} (h : Bd 1900 i) : Ite (.int i) := ⟨⟨rfl, fun ds e => by cases e⟩, h, Nat.zero_le _, Nat.zero_le _⟩
theorem ite_ints {d : D} {ds : List D} (hs : seqL? d = some ds) (h : ∀ x ∈ ds, ∃ i, x = .int i ∧ Bd 1900 i) (l : ds.length ≤ 100) : Ite d := by
  have b : PyData.bulkAll (D.pysR ds) ≤ (0 + 1) * ds.length := bulk_of fun x hx => by obtain ⟨i, rfl, _⟩ := h x hx; exact Nat.zero_le _
  have p : PyData.depthAll (D.pysR ds) ≤ 0 := depth_of fun x hx => by obtain ⟨i, rfl, _⟩ := h x hx; exact Nat.zero_le _
  have a : allIs 1900 ds := allIs_of fun x hx => by obtain ⟨i, rfl, q⟩ := h x hx; exact q
  rcases itm_cases hs with rfl | rfl
  · refine ⟨⟨rfl, fun es e => ?_⟩, a, ?_, ?_⟩
    · cases e
      exact ⟨by omega, fun x hx => by obtain ⟨i, rfl, _⟩ := h x hx; rfl⟩
    · show PyData.bulkAll (D.pysR ds) ≤ _
      omega
    · show PyData.depthAll (D.pysR ds) + 1 ≤ _
      omega
  · refine ⟨⟨rfl, fun es e => ?_⟩, a, ?_, ?_⟩
    · cases e
      exact ⟨by omega, fun x hx => by obtain ⟨i, rfl, _⟩ := h x hx; rfl⟩
    · show PyData.bulkAll (D.pysR ds) ≤ _
      omega
    · show PyData.depthAll (D.pysR ds) + 1 ≤ _
      omega
theorem Od.ite {d : D} (h : Od d) : Ite d := by
  have s := h.ok.le
  obtain ⟨i, hi, h⟩ := h
  have hi2 : Bd 1900 i := hi.up (by decide)
  have one : ∀ x ∈ [D.int i], ∃ i, x = .int i ∧ Bd 1900 i := by
    intro x hx
    simp at hx
    exact ⟨i, hx, hi2⟩
  have no : ∀ x ∈ ([] : List D), ∃ i, x = .int i ∧ Bd 1900 i := by simp
  simp only [odds, List.mem_cons, List.not_mem_nil, or_false] at h
  rcases h with rfl | rfl | rfl | rfl | rfl | rfl | rfl | rfl | rfl | rfl | rfl | rfl | rfl
  · exact ite_int hi2
  · exact ite_int hi2
  · exact ⟨s, trivial, Nat.zero_le _, Nat.zero_le _⟩
  · exact ⟨s, trivial, Nat.zero_le _, Nat.zero_le _⟩
  · exact ⟨s, trivial, Nat.zero_le _, Nat.zero_le _⟩
  · refine ⟨s, ofS_all _, ?_, Nat.zero_le _⟩
    have h1 : (toString i).length ≤ 151 + 1 := PySem.int_text_length_le (k := 151) (by decide) hi.log
    have h2 : (PySem.Str.ofString (toString i)).length ≤ 152 := by rw [PySem.ofString_length]; exact h1
    show (PySem.Str.ofString (toString i)).cps.size ≤ 200
    have h3 : (PySem.Str.ofString (toString i)).cps.size = (PySem.Str.ofString (toString i)).length := rfl
    omega
  · exact ite_ints (ds := [.int i]) rfl one (by simp)
  · exact ite_ints (ds := [.int i]) rfl one (by simp)
  · exact ⟨s, ⟨by simp, trivial⟩, by decide, by decide⟩
  · refine ⟨s, ⟨?_, ?_, trivial⟩, ?_, ?_⟩
    · intro x hx
      simp at hx
      subst hx
      exact hi2
    · exact Bd.one.up (by decide)
    · exact Nat.le_of_ble_eq_true rfl
    · exact Nat.le_of_ble_eq_true rfl
  · exact ⟨s, rfl, by decide, Nat.zero_le _⟩
  · exact ite_ints (ds := []) rfl no (by decide)
  · exact ite_ints (ds := []) rfl no (by decide)
theorem Od.vl {d : D} (h : Od d) : Vl d := by
  have t := h.ite
  refine ⟨h.ok, fun ds e => ?_, okS_i t.a (by have := t.b; omega) (by have := t.p; omega)⟩
  obtain ⟨i, hi, h⟩ := h
  simp only [odds, List.mem_cons, List.not_mem_nil, or_false] at h
  rcases h with rfl | rfl | rfl | rfl | rfl | rfl | rfl | rfl | rfl | rfl | rfl | rfl | rfl <;> first | (cases e; done) | (cases e; simp)
section
variable (F : List Fe) (C : List D)
def toldF : Fe := fun ss R => ∃ d, ss = [.va d] ∧ (sd 2 d ∧ ∀ ds, seqL? d = some ds → ds.length ≤ 4000) ∧ R (.fr (.lst [.bl (amtB d), .bl (amtB d), .bl (sprB d), .bl (sprB d), .bl (lotB d), .bl (lotB d)])) [.no]
theorem sp_told : ∀ ss R, toldF ss R → runF [amtF, sprF, lotF] C b__law_told p__law_told.length N__law_told.length ss R := by
  rintro ss R ⟨d, rfl, ⟨s, l⟩, q⟩
  refine runN_i _ C ⟨⟨rfl, by decide⟩, rfl⟩ ?_
  (((conv => whnf); (repeat' ((apply And.intro; (solve | (first | exact trivial | exact rfl | exact ownB_i rfl | (apply mulOk_bd; (solve | (repeat' first | assumption | exact Bd.zero | exact Bd.one | exact Bd.mone | apply Bd.mul | apply Bd.add | apply Bd.sub | apply Bd.neg | exact Bd.of (m := 64) (by decide))); (solve | (repeat' first | assumption | exact Bd.zero | exact Bd.one | exact Bd.mone | apply Bd.mul | apply Bd.add | apply Bd.sub | apply Bd.neg | exact Bd.of (m := 64) (by decide))); decide) | (refine okS_of ?_ rfl rfl; ((repeat' apply And.intro) <;> first | exact trivial | rfl | (show Bd _ _; apply Bd.up; (solve | (repeat' first | assumption | exact Bd.zero | exact Bd.one | exact Bd.mone | apply Bd.mul | apply Bd.add | apply Bd.sub | apply Bd.neg | exact Bd.of (m := 64) (by decide))); decide))) | (((repeat' apply And.intro) <;> first | exact trivial | assumption | (apply Bd.up; (solve | (repeat' first | assumption | exact Bd.zero | exact Bd.one | exact Bd.mone | apply Bd.mul | apply Bd.add | apply Bd.sub | apply Bd.neg | exact Bd.of (m := 64) (by decide))); decide))) | decide)); conv => whnf)))))
  refine ⟨d, rfl, s.le, ?_⟩
  (((conv => whnf); (repeat' ((apply And.intro; (solve | (first | exact trivial | exact rfl | exact ownB_i rfl | (apply mulOk_bd; (solve | (repeat' first | assumption | exact Bd.zero | exact Bd.one | exact Bd.mone | apply Bd.mul | apply Bd.add | apply Bd.sub | apply Bd.neg | exact Bd.of (m := 64) (by decide))); (solve | (repeat' first | assumption | exact Bd.zero | exact Bd.one | exact Bd.mone | apply Bd.mul | apply Bd.add | apply Bd.sub | apply Bd.neg | exact Bd.of (m := 64) (by decide))); decide) | (refine okS_of ?_ rfl rfl; ((repeat' apply And.intro) <;> first | exact trivial | rfl | (show Bd _ _; apply Bd.up; (solve | (repeat' first | assumption | exact Bd.zero | exact Bd.one | exact Bd.mone | apply Bd.mul | apply Bd.add | apply Bd.sub | apply Bd.neg | exact Bd.of (m := 64) (by decide))); decide))) | (((repeat' apply And.intro) <;> first | exact trivial | assumption | (apply Bd.up; (solve | (repeat' first | assumption | exact Bd.zero | exact Bd.one | exact Bd.mone | apply Bd.mul | apply Bd.add | apply Bd.sub | apply Bd.neg | exact Bd.of (m := 64) (by decide))); decide))) | decide)); conv => whnf)))))
  refine ⟨d, rfl, s.le, ?_⟩
  (((conv => whnf); (repeat' ((apply And.intro; (solve | (first | exact trivial | exact rfl | exact ownB_i rfl | (apply mulOk_bd; (solve | (repeat' first | assumption | exact Bd.zero | exact Bd.one | exact Bd.mone | apply Bd.mul | apply Bd.add | apply Bd.sub | apply Bd.neg | exact Bd.of (m := 64) (by decide))); (solve | (repeat' first | assumption | exact Bd.zero | exact Bd.one | exact Bd.mone | apply Bd.mul | apply Bd.add | apply Bd.sub | apply Bd.neg | exact Bd.of (m := 64) (by decide))); decide) | (refine okS_of ?_ rfl rfl; ((repeat' apply And.intro) <;> first | exact trivial | rfl | (show Bd _ _; apply Bd.up; (solve | (repeat' first | assumption | exact Bd.zero | exact Bd.one | exact Bd.mone | apply Bd.mul | apply Bd.add | apply Bd.sub | apply Bd.neg | exact Bd.of (m := 64) (by decide))); decide))) | (((repeat' apply And.intro) <;> first | exact trivial | assumption | (apply Bd.up; (solve | (repeat' first | assumption | exact Bd.zero | exact Bd.one | exact Bd.mone | apply Bd.mul | apply Bd.add | apply Bd.sub | apply Bd.neg | exact Bd.of (m := 64) (by decide))); decide))) | decide)); conv => whnf)))))
  refine ⟨d, rfl, s, ?_⟩
  (((conv => whnf); (repeat' ((apply And.intro; (solve | (first | exact trivial | exact rfl | exact ownB_i rfl | (apply mulOk_bd; (solve | (repeat' first | assumption | exact Bd.zero | exact Bd.one | exact Bd.mone | apply Bd.mul | apply Bd.add | apply Bd.sub | apply Bd.neg | exact Bd.of (m := 64) (by decide))); (solve | (repeat' first | assumption | exact Bd.zero | exact Bd.one | exact Bd.mone | apply Bd.mul | apply Bd.add | apply Bd.sub | apply Bd.neg | exact Bd.of (m := 64) (by decide))); decide) | (refine okS_of ?_ rfl rfl; ((repeat' apply And.intro) <;> first | exact trivial | rfl | (show Bd _ _; apply Bd.up; (solve | (repeat' first | assumption | exact Bd.zero | exact Bd.one | exact Bd.mone | apply Bd.mul | apply Bd.add | apply Bd.sub | apply Bd.neg | exact Bd.of (m := 64) (by decide))); decide))) | (((repeat' apply And.intro) <;> first | exact trivial | assumption | (apply Bd.up; (solve | (repeat' first | assumption | exact Bd.zero | exact Bd.one | exact Bd.mone | apply Bd.mul | apply Bd.add | apply Bd.sub | apply Bd.neg | exact Bd.of (m := 64) (by decide))); decide))) | decide)); conv => whnf)))))
  refine ⟨d, rfl, s, ?_⟩
  (((conv => whnf); (repeat' ((apply And.intro; (solve | (first | exact trivial | exact rfl | exact ownB_i rfl | (apply mulOk_bd; (solve | (repeat' first | assumption | exact Bd.zero | exact Bd.one | exact Bd.mone | apply Bd.mul | apply Bd.add | apply Bd.sub | apply Bd.neg | exact Bd.of (m := 64) (by decide))); (solve | (repeat' first | assumption | exact Bd.zero | exact Bd.one | exact Bd.mone | apply Bd.mul | apply Bd.add | apply Bd.sub | apply Bd.neg | exact Bd.of (m := 64) (by decide))); decide) | (refine okS_of ?_ rfl rfl; ((repeat' apply And.intro) <;> first | exact trivial | rfl | (show Bd _ _; apply Bd.up; (solve | (repeat' first | assumption | exact Bd.zero | exact Bd.one | exact Bd.mone | apply Bd.mul | apply Bd.add | apply Bd.sub | apply Bd.neg | exact Bd.of (m := 64) (by decide))); decide))) | (((repeat' apply And.intro) <;> first | exact trivial | assumption | (apply Bd.up; (solve | (repeat' first | assumption | exact Bd.zero | exact Bd.one | exact Bd.mone | apply Bd.mul | apply Bd.add | apply Bd.sub | apply Bd.neg | exact Bd.of (m := 64) (by decide))); decide))) | decide)); conv => whnf)))))
  refine ⟨d, rfl, ⟨s.le, l⟩, ?_⟩
  (((conv => whnf); (repeat' ((apply And.intro; (solve | (first | exact trivial | exact rfl | exact ownB_i rfl | (apply mulOk_bd; (solve | (repeat' first | assumption | exact Bd.zero | exact Bd.one | exact Bd.mone | apply Bd.mul | apply Bd.add | apply Bd.sub | apply Bd.neg | exact Bd.of (m := 64) (by decide))); (solve | (repeat' first | assumption | exact Bd.zero | exact Bd.one | exact Bd.mone | apply Bd.mul | apply Bd.add | apply Bd.sub | apply Bd.neg | exact Bd.of (m := 64) (by decide))); decide) | (refine okS_of ?_ rfl rfl; ((repeat' apply And.intro) <;> first | exact trivial | rfl | (show Bd _ _; apply Bd.up; (solve | (repeat' first | assumption | exact Bd.zero | exact Bd.one | exact Bd.mone | apply Bd.mul | apply Bd.add | apply Bd.sub | apply Bd.neg | exact Bd.of (m := 64) (by decide))); decide))) | (((repeat' apply And.intro) <;> first | exact trivial | assumption | (apply Bd.up; (solve | (repeat' first | assumption | exact Bd.zero | exact Bd.one | exact Bd.mone | apply Bd.mul | apply Bd.add | apply Bd.sub | apply Bd.neg | exact Bd.of (m := 64) (by decide))); decide))) | decide)); conv => whnf)))))
  refine ⟨d, rfl, ⟨s.le, l⟩, ?_⟩
  (((conv => whnf); (repeat' ((apply And.intro; (solve | (first | exact trivial | exact rfl | exact ownB_i rfl | (apply mulOk_bd; (solve | (repeat' first | assumption | exact Bd.zero | exact Bd.one | exact Bd.mone | apply Bd.mul | apply Bd.add | apply Bd.sub | apply Bd.neg | exact Bd.of (m := 64) (by decide))); (solve | (repeat' first | assumption | exact Bd.zero | exact Bd.one | exact Bd.mone | apply Bd.mul | apply Bd.add | apply Bd.sub | apply Bd.neg | exact Bd.of (m := 64) (by decide))); decide) | (refine okS_of ?_ rfl rfl; ((repeat' apply And.intro) <;> first | exact trivial | rfl | (show Bd _ _; apply Bd.up; (solve | (repeat' first | assumption | exact Bd.zero | exact Bd.one | exact Bd.mone | apply Bd.mul | apply Bd.add | apply Bd.sub | apply Bd.neg | exact Bd.of (m := 64) (by decide))); decide))) | (((repeat' apply And.intro) <;> first | exact trivial | assumption | (apply Bd.up; (solve | (repeat' first | assumption | exact Bd.zero | exact Bd.one | exact Bd.mone | apply Bd.mul | apply Bd.add | apply Bd.sub | apply Bd.neg | exact Bd.of (m := 64) (by decide))); decide))) | decide)); conv => whnf)))))
  exact q
end
end DL

namespace DL
open PySem PySem.Spec PyProof.Rows L2
theorem forr_w {F : List Fe} {C : List D} {g : Tg} {it : It} {b : Sms} {ρ : En} {K : Out → En → Prop} (ds : List D) (w : Option Nat) (ρ1 ρ0 : En) (hi : ∀ X : List D → Option Nat → En → Prop, X ds w ρ1 → itmN F C it ρ X) (e : lockE w ρ1 = ρ0)
    (h : forN w ρ0 (tgN g) (fun ρ2 K => smsN F C b ρ2 K) ds ρ0 fun o ρ2 => K o (openE w ρ1 ρ2)) : smN F C (.forr g it b) ρ K := by
  simp only [smN]
  apply hi
  simp only [force_eq]
  rw [e]
  exact h
theorem cut_mem {ds : List D} {lo hi : Option Int} {x : D} (h : x ∈ cutD ds lo hi) : x ∈ ds := List.mem_of_mem_drop (List.mem_of_mem_take h)
theorem cut_len (ds : List D) (lo hi : Option Int) : (cutD ds lo hi).length ≤ ds.length := by
  unfold cutD
  rw [List.length_take, List.length_drop]
  omega
def listsF : Fe := fun ss R => ∃ cr n, ss = [.mu cr] ∧ Cr (n + 120) cr ∧ ∀ cr', Cr n cr' → R (.va (.bl true)) [.mu cr']
abbrev lF : List Fe := [oneF, drawF, oddF, amtF, sprF, lotF, toldF]
abbrev T4i := Int × Int × Int × Int
def fourD (q : T4i) : D := .lst [.int q.1, .int q.2.1, .int q.2.2.1, .int q.2.2.2]
def fourT (q : T4i) : D := .tup [.int q.1, .int q.2.1, .int q.2.2.1, .int q.2.2.2]
def tupOf : D → D
  | .lst ds => .tup ds
  | d => d
theorem tupOf_map (qs : List T4i) : (qs.map fourD).map tupOf = qs.map fourT := by
  rw [List.map_map]
  rfl
section
variable (F : List Fe) (C : List D)
theorem sp_lists : ∀ ss R, listsF ss R → runF lF C b__law_lists_right p__law_lists_right.length N__law_lists_right.length ss R := by
  rintro ss R ⟨cr, n, rfl, hc, q⟩
  refine runN_i _ C ⟨⟨rfl, by decide⟩, rfl⟩ ?_
  show smsN lF C (.cons _ _) [.mu cr, .no, .no, .no, .no, .no, .no, .no, .no, .no, .no, .no] _
  -- amount
  refine stepN fun K kn kr kb kc => ?_
  (((conv => whnf); (repeat' ((apply And.intro; (solve | (first | exact trivial | exact rfl | exact ownB_i rfl | (apply mulOk_bd; (solve | (repeat' first | assumption | exact Bd.zero | exact Bd.one | exact Bd.mone | apply Bd.mul | apply Bd.add | apply Bd.sub | apply Bd.neg | exact Bd.of (m := 64) (by decide))); (solve | (repeat' first | assumption | exact Bd.zero | exact Bd.one | exact Bd.mone | apply Bd.mul | apply Bd.add | apply Bd.sub | apply Bd.neg | exact Bd.of (m := 64) (by decide))); decide) | (refine okS_of ?_ rfl rfl; ((repeat' apply And.intro) <;> first | exact trivial | rfl | (show Bd _ _; apply Bd.up; (solve | (repeat' first | assumption | exact Bd.zero | exact Bd.one | exact Bd.mone | apply Bd.mul | apply Bd.add | apply Bd.sub | apply Bd.neg | exact Bd.of (m := 64) (by decide))); decide))) | (((repeat' apply And.intro) <;> first | exact trivial | assumption | (apply Bd.up; (solve | (repeat' first | assumption | exact Bd.zero | exact Bd.one | exact Bd.mone | apply Bd.mul | apply Bd.add | apply Bd.sub | apply Bd.neg | exact Bd.of (m := 64) (by decide))); decide))) | decide)); conv => whnf)))))
  refine ⟨n + 119, hc, ⟨by decide, by decide⟩, fun d cr1 hd hc1 => ?_⟩
  obtain ⟨m, rfl, m0, m5⟩ : ∃ m, d = .int m ∧ 0 ≤ m ∧ m ≤ 5 := by
    simp only [List.mem_cons, List.not_mem_nil, or_false] at hd
    rcases hd with rfl | rfl | rfl | rfl | rfl <;> exact ⟨_, rfl, by decide, by decide⟩
  (((conv => whnf); (repeat' ((apply And.intro; (solve | (first | exact trivial | exact rfl | exact ownB_i rfl | (apply mulOk_bd; (solve | (repeat' first | assumption | exact Bd.zero | exact Bd.one | exact Bd.mone | apply Bd.mul | apply Bd.add | apply Bd.sub | apply Bd.neg | exact Bd.of (m := 64) (by decide))); (solve | (repeat' first | assumption | exact Bd.zero | exact Bd.one | exact Bd.mone | apply Bd.mul | apply Bd.add | apply Bd.sub | apply Bd.neg | exact Bd.of (m := 64) (by decide))); decide) | (refine okS_of ?_ rfl rfl; ((repeat' apply And.intro) <;> first | exact trivial | rfl | (show Bd _ _; apply Bd.up; (solve | (repeat' first | assumption | exact Bd.zero | exact Bd.one | exact Bd.mone | apply Bd.mul | apply Bd.add | apply Bd.sub | apply Bd.neg | exact Bd.of (m := 64) (by decide))); decide))) | (((repeat' apply And.intro) <;> first | exact trivial | assumption | (apply Bd.up; (solve | (repeat' first | assumption | exact Bd.zero | exact Bd.one | exact Bd.mone | apply Bd.mul | apply Bd.add | apply Bd.sub | apply Bd.neg | exact Bd.of (m := 64) (by decide))); decide))) | decide)); conv => whnf)))))
  refine ⟨⟨by omega, by omega⟩, ?_⟩
  (((conv => whnf); (repeat' ((apply And.intro; (solve | (first | exact trivial | exact rfl | exact ownB_i rfl | (apply mulOk_bd; (solve | (repeat' first | assumption | exact Bd.zero | exact Bd.one | exact Bd.mone | apply Bd.mul | apply Bd.add | apply Bd.sub | apply Bd.neg | exact Bd.of (m := 64) (by decide))); (solve | (repeat' first | assumption | exact Bd.zero | exact Bd.one | exact Bd.mone | apply Bd.mul | apply Bd.add | apply Bd.sub | apply Bd.neg | exact Bd.of (m := 64) (by decide))); decide) | (refine okS_of ?_ rfl rfl; ((repeat' apply And.intro) <;> first | exact trivial | rfl | (show Bd _ _; apply Bd.up; (solve | (repeat' first | assumption | exact Bd.zero | exact Bd.one | exact Bd.mone | apply Bd.mul | apply Bd.add | apply Bd.sub | apply Bd.neg | exact Bd.of (m := 64) (by decide))); decide))) | (((repeat' apply And.intro) <;> first | exact trivial | assumption | (apply Bd.up; (solve | (repeat' first | assumption | exact Bd.zero | exact Bd.one | exact Bd.mone | apply Bd.mul | apply Bd.add | apply Bd.sub | apply Bd.neg | exact Bd.of (m := 64) (by decide))); decide))) | decide)); conv => whnf)))))
  refine compN_i (fun i acc ρ => ∃ ns cr', acc = ns.map .int ∧ ns.length = i ∧ (∀ x ∈ ns, Bd 40 x) ∧ ρ = [.mu cr', .no, .no, .no, .no, .no, .no, .no, .no, .no, .no, .no] ∧ Cr (n + 119 - i) cr') ⟨[], cr1, rfl, rfl, by simp, rfl, hc1⟩ ?_ ?_
  · rintro i d acc ρ K2 hi ⟨ns, cr', rfl, hl, hb, rfl, hc'⟩ hK
    obtain ⟨hlt, rfl⟩ := rng_get hi
    (((conv => whnf); (repeat' ((apply And.intro; (solve | (first | exact trivial | exact rfl | exact ownB_i rfl | (apply mulOk_bd; (solve | (repeat' first | assumption | exact Bd.zero | exact Bd.one | exact Bd.mone | apply Bd.mul | apply Bd.add | apply Bd.sub | apply Bd.neg | exact Bd.of (m := 64) (by decide))); (solve | (repeat' first | assumption | exact Bd.zero | exact Bd.one | exact Bd.mone | apply Bd.mul | apply Bd.add | apply Bd.sub | apply Bd.neg | exact Bd.of (m := 64) (by decide))); decide) | (refine okS_of ?_ rfl rfl; ((repeat' apply And.intro) <;> first | exact trivial | rfl | (show Bd _ _; apply Bd.up; (solve | (repeat' first | assumption | exact Bd.zero | exact Bd.one | exact Bd.mone | apply Bd.mul | apply Bd.add | apply Bd.sub | apply Bd.neg | exact Bd.of (m := 64) (by decide))); decide))) | (((repeat' apply And.intro) <;> first | exact trivial | assumption | (apply Bd.up; (solve | (repeat' first | assumption | exact Bd.zero | exact Bd.one | exact Bd.mone | apply Bd.mul | apply Bd.add | apply Bd.sub | apply Bd.neg | exact Bd.of (m := 64) (by decide))); decide))) | decide)); conv => whnf)))))
    refine ⟨n + 119 - (i + 1), by rw [show n + 119 - (i + 1) + 1 = n + 119 - i by omega]; exact hc', ⟨by decide, by decide⟩, fun r cr2 hr hc2 => ?_⟩
    (((conv => whnf); (repeat' ((apply And.intro; (solve | (first | exact trivial | exact rfl | exact ownB_i rfl | (apply mulOk_bd; (solve | (repeat' first | assumption | exact Bd.zero | exact Bd.one | exact Bd.mone | apply Bd.mul | apply Bd.add | apply Bd.sub | apply Bd.neg | exact Bd.of (m := 64) (by decide))); (solve | (repeat' first | assumption | exact Bd.zero | exact Bd.one | exact Bd.mone | apply Bd.mul | apply Bd.add | apply Bd.sub | apply Bd.neg | exact Bd.of (m := 64) (by decide))); decide) | (refine okS_of ?_ rfl rfl; ((repeat' apply And.intro) <;> first | exact trivial | rfl | (show Bd _ _; apply Bd.up; (solve | (repeat' first | assumption | exact Bd.zero | exact Bd.one | exact Bd.mone | apply Bd.mul | apply Bd.add | apply Bd.sub | apply Bd.neg | exact Bd.of (m := 64) (by decide))); decide))) | (((repeat' apply And.intro) <;> first | exact trivial | assumption | (apply Bd.up; (solve | (repeat' first | assumption | exact Bd.zero | exact Bd.one | exact Bd.mone | apply Bd.mul | apply Bd.add | apply Bd.sub | apply Bd.neg | exact Bd.of (m := 64) (by decide))); decide))) | decide)); conv => whnf)))))
    refine leN_i (by rw [List.length_map, sizeLine_eq]; omega) ?_
    (((conv => whnf); (repeat' ((apply And.intro; (solve | (first | exact trivial | exact rfl | exact ownB_i rfl | (apply mulOk_bd; (solve | (repeat' first | assumption | exact Bd.zero | exact Bd.one | exact Bd.mone | apply Bd.mul | apply Bd.add | apply Bd.sub | apply Bd.neg | exact Bd.of (m := 64) (by decide))); (solve | (repeat' first | assumption | exact Bd.zero | exact Bd.one | exact Bd.mone | apply Bd.mul | apply Bd.add | apply Bd.sub | apply Bd.neg | exact Bd.of (m := 64) (by decide))); decide) | (refine okS_of ?_ rfl rfl; ((repeat' apply And.intro) <;> first | exact trivial | rfl | (show Bd _ _; apply Bd.up; (solve | (repeat' first | assumption | exact Bd.zero | exact Bd.one | exact Bd.mone | apply Bd.mul | apply Bd.add | apply Bd.sub | apply Bd.neg | exact Bd.of (m := 64) (by decide))); decide))) | (((repeat' apply And.intro) <;> first | exact trivial | assumption | (apply Bd.up; (solve | (repeat' first | assumption | exact Bd.zero | exact Bd.one | exact Bd.mone | apply Bd.mul | apply Bd.add | apply Bd.sub | apply Bd.neg | exact Bd.of (m := 64) (by decide))); decide))) | decide)); conv => whnf)))))
    refine hK _ _ ⟨ns ++ [r - 10 ^ 9], cr2, by rw [List.map_append]; rfl, by rw [List.length_append, hl]; rfl, ?_, rfl, hc2⟩
    intro x hx
    rcases List.mem_append.mp hx with h | h
    · exact hb x h
    · simp at h
      subst h
      have hr2 := hr.2
      rw [show ((10 : Int) ^ Int.toNat 9) = 1000000000 from by decide] at hr2
      unfold Bd
      omega
  rintro acc ρ ⟨ns, cr2, rfl, hl, hb, rfl, hc2⟩
  rw [rng_len] at hl hc2
  have hl5 : ns.length ≤ 5 := by omega
  (((conv => whnf); (repeat' ((apply And.intro; (solve | (first | exact trivial | exact rfl | exact ownB_i rfl | (apply mulOk_bd; (solve | (repeat' first | assumption | exact Bd.zero | exact Bd.one | exact Bd.mone | apply Bd.mul | apply Bd.add | apply Bd.sub | apply Bd.neg | exact Bd.of (m := 64) (by decide))); (solve | (repeat' first | assumption | exact Bd.zero | exact Bd.one | exact Bd.mone | apply Bd.mul | apply Bd.add | apply Bd.sub | apply Bd.neg | exact Bd.of (m := 64) (by decide))); decide) | (refine okS_of ?_ rfl rfl; ((repeat' apply And.intro) <;> first | exact trivial | rfl | (show Bd _ _; apply Bd.up; (solve | (repeat' first | assumption | exact Bd.zero | exact Bd.one | exact Bd.mone | apply Bd.mul | apply Bd.add | apply Bd.sub | apply Bd.neg | exact Bd.of (m := 64) (by decide))); decide))) | (((repeat' apply And.intro) <;> first | exact trivial | assumption | (apply Bd.up; (solve | (repeat' first | assumption | exact Bd.zero | exact Bd.one | exact Bd.mone | apply Bd.mul | apply Bd.add | apply Bd.sub | apply Bd.neg | exact Bd.of (m := 64) (by decide))); decide))) | decide)); conv => whnf)))))
  refine kn [.mu cr2, .ow (.lst (ns.map .int)), .no, .no, .no, .no, .no, .no, .no, .no, .no, .no] ?_
  clear kn kr kb kc K
  replace hc2 : Cr (n + 114) cr2 := hc2.le (by omega)
  -- spread
  refine stepN fun K kn kr kb kc => ?_
  (((conv => whnf); (repeat' ((apply And.intro; (solve | (first | exact trivial | exact rfl | exact ownB_i rfl | (apply mulOk_bd; (solve | (repeat' first | assumption | exact Bd.zero | exact Bd.one | exact Bd.mone | apply Bd.mul | apply Bd.add | apply Bd.sub | apply Bd.neg | exact Bd.of (m := 64) (by decide))); (solve | (repeat' first | assumption | exact Bd.zero | exact Bd.one | exact Bd.mone | apply Bd.mul | apply Bd.add | apply Bd.sub | apply Bd.neg | exact Bd.of (m := 64) (by decide))); decide) | (refine okS_of ?_ rfl rfl; ((repeat' apply And.intro) <;> first | exact trivial | rfl | (show Bd _ _; apply Bd.up; (solve | (repeat' first | assumption | exact Bd.zero | exact Bd.one | exact Bd.mone | apply Bd.mul | apply Bd.add | apply Bd.sub | apply Bd.neg | exact Bd.of (m := 64) (by decide))); decide))) | (((repeat' apply And.intro) <;> first | exact trivial | assumption | (apply Bd.up; (solve | (repeat' first | assumption | exact Bd.zero | exact Bd.one | exact Bd.mone | apply Bd.mul | apply Bd.add | apply Bd.sub | apply Bd.neg | exact Bd.of (m := 64) (by decide))); decide))) | decide)); conv => whnf)))))
  refine ⟨n + 113, hc2, ⟨by decide, by decide⟩, fun d cr3 hd hc3 => ?_⟩
  obtain ⟨m2, rfl, m0, m5⟩ : ∃ m, d = .int m ∧ 0 ≤ m ∧ m ≤ 16 := by
    simp only [List.mem_cons, List.not_mem_nil, or_false] at hd
    rcases hd with rfl | rfl | rfl | rfl | rfl | rfl | rfl | rfl | rfl <;> exact ⟨_, rfl, by decide, by decide⟩
  (((conv => whnf); (repeat' ((apply And.intro; (solve | (first | exact trivial | exact rfl | exact ownB_i rfl | (apply mulOk_bd; (solve | (repeat' first | assumption | exact Bd.zero | exact Bd.one | exact Bd.mone | apply Bd.mul | apply Bd.add | apply Bd.sub | apply Bd.neg | exact Bd.of (m := 64) (by decide))); (solve | (repeat' first | assumption | exact Bd.zero | exact Bd.one | exact Bd.mone | apply Bd.mul | apply Bd.add | apply Bd.sub | apply Bd.neg | exact Bd.of (m := 64) (by decide))); decide) | (refine okS_of ?_ rfl rfl; ((repeat' apply And.intro) <;> first | exact trivial | rfl | (show Bd _ _; apply Bd.up; (solve | (repeat' first | assumption | exact Bd.zero | exact Bd.one | exact Bd.mone | apply Bd.mul | apply Bd.add | apply Bd.sub | apply Bd.neg | exact Bd.of (m := 64) (by decide))); decide))) | (((repeat' apply And.intro) <;> first | exact trivial | assumption | (apply Bd.up; (solve | (repeat' first | assumption | exact Bd.zero | exact Bd.one | exact Bd.mone | apply Bd.mul | apply Bd.add | apply Bd.sub | apply Bd.neg | exact Bd.of (m := 64) (by decide))); decide))) | decide)); conv => whnf)))))
  refine ⟨⟨by omega, by omega⟩, ?_⟩
  (((conv => whnf); (repeat' ((apply And.intro; (solve | (first | exact trivial | exact rfl | exact ownB_i rfl | (apply mulOk_bd; (solve | (repeat' first | assumption | exact Bd.zero | exact Bd.one | exact Bd.mone | apply Bd.mul | apply Bd.add | apply Bd.sub | apply Bd.neg | exact Bd.of (m := 64) (by decide))); (solve | (repeat' first | assumption | exact Bd.zero | exact Bd.one | exact Bd.mone | apply Bd.mul | apply Bd.add | apply Bd.sub | apply Bd.neg | exact Bd.of (m := 64) (by decide))); decide) | (refine okS_of ?_ rfl rfl; ((repeat' apply And.intro) <;> first | exact trivial | rfl | (show Bd _ _; apply Bd.up; (solve | (repeat' first | assumption | exact Bd.zero | exact Bd.one | exact Bd.mone | apply Bd.mul | apply Bd.add | apply Bd.sub | apply Bd.neg | exact Bd.of (m := 64) (by decide))); decide))) | (((repeat' apply And.intro) <;> first | exact trivial | assumption | (apply Bd.up; (solve | (repeat' first | assumption | exact Bd.zero | exact Bd.one | exact Bd.mone | apply Bd.mul | apply Bd.add | apply Bd.sub | apply Bd.neg | exact Bd.of (m := 64) (by decide))); decide))) | decide)); conv => whnf)))))
  refine compN_i (fun i acc ρ => ∃ (qs : List T4i) (cr' : D), acc = qs.map fourD ∧ qs.length = i ∧ (∀ x ∈ qs, Bd 40 x.1 ∧ Bd 40 x.2.1 ∧ Bd 40 x.2.2.1 ∧ Bd 40 x.2.2.2) ∧ ρ = [.mu cr', .ow (.lst (ns.map .int)), .no, .no, .no, .no, .no, .no, .no, .no, .no, .no] ∧ Cr (n + 113 - 4 * i) cr') ⟨[], cr3, rfl, rfl, by simp, rfl, hc3⟩ ?_ ?_
  · rintro i d acc ρ K2 hi ⟨qs, cr', rfl, hl, hb, rfl, hc'⟩ hK
    obtain ⟨hlt, rfl⟩ := rng_get hi
    obtain ⟨N, hN⟩ : ∃ N, n + 113 - 4 * (i + 1) = N := ⟨_, rfl⟩
    have hc' : Cr (N + 4) cr' := hc'.le (by omega)
    have small : ∀ r : Int, 0 ≤ r ∧ r < 3 → Bd 40 (r - 1) := fun r h => by unfold Bd; omega
    (((conv => whnf); (repeat' ((apply And.intro; (solve | (first | exact trivial | exact rfl | exact ownB_i rfl | (apply mulOk_bd; (solve | (repeat' first | assumption | exact Bd.zero | exact Bd.one | exact Bd.mone | apply Bd.mul | apply Bd.add | apply Bd.sub | apply Bd.neg | exact Bd.of (m := 64) (by decide))); (solve | (repeat' first | assumption | exact Bd.zero | exact Bd.one | exact Bd.mone | apply Bd.mul | apply Bd.add | apply Bd.sub | apply Bd.neg | exact Bd.of (m := 64) (by decide))); decide) | (refine okS_of ?_ rfl rfl; ((repeat' apply And.intro) <;> first | exact trivial | rfl | (show Bd _ _; apply Bd.up; (solve | (repeat' first | assumption | exact Bd.zero | exact Bd.one | exact Bd.mone | apply Bd.mul | apply Bd.add | apply Bd.sub | apply Bd.neg | exact Bd.of (m := 64) (by decide))); decide))) | (((repeat' apply And.intro) <;> first | exact trivial | assumption | (apply Bd.up; (solve | (repeat' first | assumption | exact Bd.zero | exact Bd.one | exact Bd.mone | apply Bd.mul | apply Bd.add | apply Bd.sub | apply Bd.neg | exact Bd.of (m := 64) (by decide))); decide))) | decide)); conv => whnf)))))
    refine ⟨N + 3, hc', ⟨by decide, by decide⟩, fun r1 c1 hr1 hc1 => ?_⟩
    (((conv => whnf); (repeat' ((apply And.intro; (solve | (first | exact trivial | exact rfl | exact ownB_i rfl | (apply mulOk_bd; (solve | (repeat' first | assumption | exact Bd.zero | exact Bd.one | exact Bd.mone | apply Bd.mul | apply Bd.add | apply Bd.sub | apply Bd.neg | exact Bd.of (m := 64) (by decide))); (solve | (repeat' first | assumption | exact Bd.zero | exact Bd.one | exact Bd.mone | apply Bd.mul | apply Bd.add | apply Bd.sub | apply Bd.neg | exact Bd.of (m := 64) (by decide))); decide) | (refine okS_of ?_ rfl rfl; ((repeat' apply And.intro) <;> first | exact trivial | rfl | (show Bd _ _; apply Bd.up; (solve | (repeat' first | assumption | exact Bd.zero | exact Bd.one | exact Bd.mone | apply Bd.mul | apply Bd.add | apply Bd.sub | apply Bd.neg | exact Bd.of (m := 64) (by decide))); decide))) | (((repeat' apply And.intro) <;> first | exact trivial | assumption | (apply Bd.up; (solve | (repeat' first | assumption | exact Bd.zero | exact Bd.one | exact Bd.mone | apply Bd.mul | apply Bd.add | apply Bd.sub | apply Bd.neg | exact Bd.of (m := 64) (by decide))); decide))) | decide)); conv => whnf)))))
    refine ⟨N + 2, hc1, ⟨by decide, by decide⟩, fun r2 c2 hr2 hc2 => ?_⟩
    (((conv => whnf); (repeat' ((apply And.intro; (solve | (first | exact trivial | exact rfl | exact ownB_i rfl | (apply mulOk_bd; (solve | (repeat' first | assumption | exact Bd.zero | exact Bd.one | exact Bd.mone | apply Bd.mul | apply Bd.add | apply Bd.sub | apply Bd.neg | exact Bd.of (m := 64) (by decide))); (solve | (repeat' first | assumption | exact Bd.zero | exact Bd.one | exact Bd.mone | apply Bd.mul | apply Bd.add | apply Bd.sub | apply Bd.neg | exact Bd.of (m := 64) (by decide))); decide) | (refine okS_of ?_ rfl rfl; ((repeat' apply And.intro) <;> first | exact trivial | rfl | (show Bd _ _; apply Bd.up; (solve | (repeat' first | assumption | exact Bd.zero | exact Bd.one | exact Bd.mone | apply Bd.mul | apply Bd.add | apply Bd.sub | apply Bd.neg | exact Bd.of (m := 64) (by decide))); decide))) | (((repeat' apply And.intro) <;> first | exact trivial | assumption | (apply Bd.up; (solve | (repeat' first | assumption | exact Bd.zero | exact Bd.one | exact Bd.mone | apply Bd.mul | apply Bd.add | apply Bd.sub | apply Bd.neg | exact Bd.of (m := 64) (by decide))); decide))) | decide)); conv => whnf)))))
    refine ⟨N + 1, hc2, ⟨by decide, by decide⟩, fun r3 c3 hr3 hc3 => ?_⟩
    (((conv => whnf); (repeat' ((apply And.intro; (solve | (first | exact trivial | exact rfl | exact ownB_i rfl | (apply mulOk_bd; (solve | (repeat' first | assumption | exact Bd.zero | exact Bd.one | exact Bd.mone | apply Bd.mul | apply Bd.add | apply Bd.sub | apply Bd.neg | exact Bd.of (m := 64) (by decide))); (solve | (repeat' first | assumption | exact Bd.zero | exact Bd.one | exact Bd.mone | apply Bd.mul | apply Bd.add | apply Bd.sub | apply Bd.neg | exact Bd.of (m := 64) (by decide))); decide) | (refine okS_of ?_ rfl rfl; ((repeat' apply And.intro) <;> first | exact trivial | rfl | (show Bd _ _; apply Bd.up; (solve | (repeat' first | assumption | exact Bd.zero | exact Bd.one | exact Bd.mone | apply Bd.mul | apply Bd.add | apply Bd.sub | apply Bd.neg | exact Bd.of (m := 64) (by decide))); decide))) | (((repeat' apply And.intro) <;> first | exact trivial | assumption | (apply Bd.up; (solve | (repeat' first | assumption | exact Bd.zero | exact Bd.one | exact Bd.mone | apply Bd.mul | apply Bd.add | apply Bd.sub | apply Bd.neg | exact Bd.of (m := 64) (by decide))); decide))) | decide)); conv => whnf)))))
    refine ⟨N, hc3, ⟨by decide, by decide⟩, fun r4 c4 hr4 hc4 => ?_⟩
    (((conv => whnf); (repeat' ((apply And.intro; (solve | (first | exact trivial | exact rfl | exact ownB_i rfl | (apply mulOk_bd; (solve | (repeat' first | assumption | exact Bd.zero | exact Bd.one | exact Bd.mone | apply Bd.mul | apply Bd.add | apply Bd.sub | apply Bd.neg | exact Bd.of (m := 64) (by decide))); (solve | (repeat' first | assumption | exact Bd.zero | exact Bd.one | exact Bd.mone | apply Bd.mul | apply Bd.add | apply Bd.sub | apply Bd.neg | exact Bd.of (m := 64) (by decide))); decide) | (refine okS_of ?_ rfl rfl; ((repeat' apply And.intro) <;> first | exact trivial | rfl | (show Bd _ _; apply Bd.up; (solve | (repeat' first | assumption | exact Bd.zero | exact Bd.one | exact Bd.mone | apply Bd.mul | apply Bd.add | apply Bd.sub | apply Bd.neg | exact Bd.of (m := 64) (by decide))); decide))) | (((repeat' apply And.intro) <;> first | exact trivial | assumption | (apply Bd.up; (solve | (repeat' first | assumption | exact Bd.zero | exact Bd.one | exact Bd.mone | apply Bd.mul | apply Bd.add | apply Bd.sub | apply Bd.neg | exact Bd.of (m := 64) (by decide))); decide))) | decide)); conv => whnf)))))
    refine leN_i (by rw [List.length_map, sizeLine_eq]; omega) ?_
    (((conv => whnf); (repeat' ((apply And.intro; (solve | (first | exact trivial | exact rfl | exact ownB_i rfl | (apply mulOk_bd; (solve | (repeat' first | assumption | exact Bd.zero | exact Bd.one | exact Bd.mone | apply Bd.mul | apply Bd.add | apply Bd.sub | apply Bd.neg | exact Bd.of (m := 64) (by decide))); (solve | (repeat' first | assumption | exact Bd.zero | exact Bd.one | exact Bd.mone | apply Bd.mul | apply Bd.add | apply Bd.sub | apply Bd.neg | exact Bd.of (m := 64) (by decide))); decide) | (refine okS_of ?_ rfl rfl; ((repeat' apply And.intro) <;> first | exact trivial | rfl | (show Bd _ _; apply Bd.up; (solve | (repeat' first | assumption | exact Bd.zero | exact Bd.one | exact Bd.mone | apply Bd.mul | apply Bd.add | apply Bd.sub | apply Bd.neg | exact Bd.of (m := 64) (by decide))); decide))) | (((repeat' apply And.intro) <;> first | exact trivial | assumption | (apply Bd.up; (solve | (repeat' first | assumption | exact Bd.zero | exact Bd.one | exact Bd.mone | apply Bd.mul | apply Bd.add | apply Bd.sub | apply Bd.neg | exact Bd.of (m := 64) (by decide))); decide))) | decide)); conv => whnf)))))
    refine hK _ _ ⟨qs ++ [(r1 - 1, r2 - 1, r3 - 1, r4 - 1)], c4, by rw [List.map_append]; rfl, by rw [List.length_append, hl]; rfl, ?_, rfl, by rw [hN]; exact hc4⟩
    intro x hx
    rcases List.mem_append.mp hx with h | h
    · exact hb x h
    · simp at h
      subst h
      exact ⟨small _ hr1, small _ hr2, small _ hr3, small _ hr4⟩
  rintro acc ρ ⟨qs, cr4, rfl, hl2, hb2, rfl, hc4⟩
  rw [rng_len] at hl2 hc4
  have hl6 : qs.length ≤ 16 := by omega
  (((conv => whnf); (repeat' ((apply And.intro; (solve | (first | exact trivial | exact rfl | exact ownB_i rfl | (apply mulOk_bd; (solve | (repeat' first | assumption | exact Bd.zero | exact Bd.one | exact Bd.mone | apply Bd.mul | apply Bd.add | apply Bd.sub | apply Bd.neg | exact Bd.of (m := 64) (by decide))); (solve | (repeat' first | assumption | exact Bd.zero | exact Bd.one | exact Bd.mone | apply Bd.mul | apply Bd.add | apply Bd.sub | apply Bd.neg | exact Bd.of (m := 64) (by decide))); decide) | (refine okS_of ?_ rfl rfl; ((repeat' apply And.intro) <;> first | exact trivial | rfl | (show Bd _ _; apply Bd.up; (solve | (repeat' first | assumption | exact Bd.zero | exact Bd.one | exact Bd.mone | apply Bd.mul | apply Bd.add | apply Bd.sub | apply Bd.neg | exact Bd.of (m := 64) (by decide))); decide))) | (((repeat' apply And.intro) <;> first | exact trivial | assumption | (apply Bd.up; (solve | (repeat' first | assumption | exact Bd.zero | exact Bd.one | exact Bd.mone | apply Bd.mul | apply Bd.add | apply Bd.sub | apply Bd.neg | exact Bd.of (m := 64) (by decide))); decide))) | decide)); conv => whnf)))))
  refine kn [.mu cr4, .ow (.lst (ns.map .int)), .no, .ow (.lst (qs.map fourD)), .no, .no, .no, .no, .no, .no, .no, .no] ?_
  clear kn kr kb kc K
  replace hc4 : Cr (n + 40) cr4 := hc4.le (by omega)
  -- lot
  refine stepN fun K kn kr kb kc => ?_
  (((conv => whnf); (repeat' ((apply And.intro; (solve | (first | exact trivial | exact rfl | exact ownB_i rfl | (apply mulOk_bd; (solve | (repeat' first | assumption | exact Bd.zero | exact Bd.one | exact Bd.mone | apply Bd.mul | apply Bd.add | apply Bd.sub | apply Bd.neg | exact Bd.of (m := 64) (by decide))); (solve | (repeat' first | assumption | exact Bd.zero | exact Bd.one | exact Bd.mone | apply Bd.mul | apply Bd.add | apply Bd.sub | apply Bd.neg | exact Bd.of (m := 64) (by decide))); decide) | (refine okS_of ?_ rfl rfl; ((repeat' apply And.intro) <;> first | exact trivial | rfl | (show Bd _ _; apply Bd.up; (solve | (repeat' first | assumption | exact Bd.zero | exact Bd.one | exact Bd.mone | apply Bd.mul | apply Bd.add | apply Bd.sub | apply Bd.neg | exact Bd.of (m := 64) (by decide))); decide))) | (((repeat' apply And.intro) <;> first | exact trivial | assumption | (apply Bd.up; (solve | (repeat' first | assumption | exact Bd.zero | exact Bd.one | exact Bd.mone | apply Bd.mul | apply Bd.add | apply Bd.sub | apply Bd.neg | exact Bd.of (m := 64) (by decide))); decide))) | decide)); conv => whnf)))))
  refine ⟨n + 39, hc4, ⟨by decide, by decide⟩, fun m3 cr5 hm3 hc5 => ?_⟩
  (((conv => whnf); (repeat' ((apply And.intro; (solve | (first | exact trivial | exact rfl | exact ownB_i rfl | (apply mulOk_bd; (solve | (repeat' first | assumption | exact Bd.zero | exact Bd.one | exact Bd.mone | apply Bd.mul | apply Bd.add | apply Bd.sub | apply Bd.neg | exact Bd.of (m := 64) (by decide))); (solve | (repeat' first | assumption | exact Bd.zero | exact Bd.one | exact Bd.mone | apply Bd.mul | apply Bd.add | apply Bd.sub | apply Bd.neg | exact Bd.of (m := 64) (by decide))); decide) | (refine okS_of ?_ rfl rfl; ((repeat' apply And.intro) <;> first | exact trivial | rfl | (show Bd _ _; apply Bd.up; (solve | (repeat' first | assumption | exact Bd.zero | exact Bd.one | exact Bd.mone | apply Bd.mul | apply Bd.add | apply Bd.sub | apply Bd.neg | exact Bd.of (m := 64) (by decide))); decide))) | (((repeat' apply And.intro) <;> first | exact trivial | assumption | (apply Bd.up; (solve | (repeat' first | assumption | exact Bd.zero | exact Bd.one | exact Bd.mone | apply Bd.mul | apply Bd.add | apply Bd.sub | apply Bd.neg | exact Bd.of (m := 64) (by decide))); decide))) | decide)); conv => whnf)))))
  refine ⟨⟨by omega, by omega⟩, ?_⟩
  (((conv => whnf); (repeat' ((apply And.intro; (solve | (first | exact trivial | exact rfl | exact ownB_i rfl | (apply mulOk_bd; (solve | (repeat' first | assumption | exact Bd.zero | exact Bd.one | exact Bd.mone | apply Bd.mul | apply Bd.add | apply Bd.sub | apply Bd.neg | exact Bd.of (m := 64) (by decide))); (solve | (repeat' first | assumption | exact Bd.zero | exact Bd.one | exact Bd.mone | apply Bd.mul | apply Bd.add | apply Bd.sub | apply Bd.neg | exact Bd.of (m := 64) (by decide))); decide) | (refine okS_of ?_ rfl rfl; ((repeat' apply And.intro) <;> first | exact trivial | rfl | (show Bd _ _; apply Bd.up; (solve | (repeat' first | assumption | exact Bd.zero | exact Bd.one | exact Bd.mone | apply Bd.mul | apply Bd.add | apply Bd.sub | apply Bd.neg | exact Bd.of (m := 64) (by decide))); decide))) | (((repeat' apply And.intro) <;> first | exact trivial | assumption | (apply Bd.up; (solve | (repeat' first | assumption | exact Bd.zero | exact Bd.one | exact Bd.mone | apply Bd.mul | apply Bd.add | apply Bd.sub | apply Bd.neg | exact Bd.of (m := 64) (by decide))); decide))) | decide)); conv => whnf)))))
  refine compN_i (fun i acc ρ => ∃ (ls : List Int) (cr' : D), acc = ls.map .int ∧ ls.length = i ∧ (∀ x ∈ ls, Bd 40 x) ∧ ρ = [.mu cr', .ow (.lst (ns.map .int)), .no, .ow (.lst (qs.map fourD)), .no, .no, .no, .no, .no, .no, .no, .no] ∧ Cr (n + 39 - 2 * i) cr') ⟨[], cr5, rfl, rfl, by simp, rfl, hc5⟩ ?_ ?_
  · rintro i d acc ρ K2 hi ⟨ls, cr', rfl, hl, hb, rfl, hc'⟩ hK
    obtain ⟨hlt, rfl⟩ := rng_get hi
    obtain ⟨N, hN⟩ : ∃ N, n + 39 - 2 * (i + 1) = N := ⟨_, rfl⟩
    have hc' : Cr (N + 2) cr' := hc'.le (by omega)
    (((conv => whnf); (repeat' ((apply And.intro; (solve | (first | exact trivial | exact rfl | exact ownB_i rfl | (apply mulOk_bd; (solve | (repeat' first | assumption | exact Bd.zero | exact Bd.one | exact Bd.mone | apply Bd.mul | apply Bd.add | apply Bd.sub | apply Bd.neg | exact Bd.of (m := 64) (by decide))); (solve | (repeat' first | assumption | exact Bd.zero | exact Bd.one | exact Bd.mone | apply Bd.mul | apply Bd.add | apply Bd.sub | apply Bd.neg | exact Bd.of (m := 64) (by decide))); decide) | (refine okS_of ?_ rfl rfl; ((repeat' apply And.intro) <;> first | exact trivial | rfl | (show Bd _ _; apply Bd.up; (solve | (repeat' first | assumption | exact Bd.zero | exact Bd.one | exact Bd.mone | apply Bd.mul | apply Bd.add | apply Bd.sub | apply Bd.neg | exact Bd.of (m := 64) (by decide))); decide))) | (((repeat' apply And.intro) <;> first | exact trivial | assumption | (apply Bd.up; (solve | (repeat' first | assumption | exact Bd.zero | exact Bd.one | exact Bd.mone | apply Bd.mul | apply Bd.add | apply Bd.sub | apply Bd.neg | exact Bd.of (m := 64) (by decide))); decide))) | decide)); conv => whnf)))))
    refine ⟨N + 1, hc', ⟨by decide, by decide⟩, fun d c1 hd hc1 => ?_⟩
    obtain ⟨k, rfl, k0, k1⟩ : ∃ k, d = .int k ∧ 0 < k ∧ k < 100 := by
      simp only [List.mem_cons, List.not_mem_nil, or_false] at hd
      rcases hd with rfl | rfl <;> exact ⟨_, rfl, by decide, by decide⟩
    (((conv => whnf); (repeat' ((apply And.intro; (solve | (first | exact trivial | exact rfl | exact ownB_i rfl | (apply mulOk_bd; (solve | (repeat' first | assumption | exact Bd.zero | exact Bd.one | exact Bd.mone | apply Bd.mul | apply Bd.add | apply Bd.sub | apply Bd.neg | exact Bd.of (m := 64) (by decide))); (solve | (repeat' first | assumption | exact Bd.zero | exact Bd.one | exact Bd.mone | apply Bd.mul | apply Bd.add | apply Bd.sub | apply Bd.neg | exact Bd.of (m := 64) (by decide))); decide) | (refine okS_of ?_ rfl rfl; ((repeat' apply And.intro) <;> first | exact trivial | rfl | (show Bd _ _; apply Bd.up; (solve | (repeat' first | assumption | exact Bd.zero | exact Bd.one | exact Bd.mone | apply Bd.mul | apply Bd.add | apply Bd.sub | apply Bd.neg | exact Bd.of (m := 64) (by decide))); decide))) | (((repeat' apply And.intro) <;> first | exact trivial | assumption | (apply Bd.up; (solve | (repeat' first | assumption | exact Bd.zero | exact Bd.one | exact Bd.mone | apply Bd.mul | apply Bd.add | apply Bd.sub | apply Bd.neg | exact Bd.of (m := 64) (by decide))); decide))) | decide)); conv => whnf)))))
    refine ⟨N, hc1, ⟨k0, by omega⟩, fun r c2 hr hc2 => ?_⟩
    (((conv => whnf); (repeat' ((apply And.intro; (solve | (first | exact trivial | exact rfl | exact ownB_i rfl | (apply mulOk_bd; (solve | (repeat' first | assumption | exact Bd.zero | exact Bd.one | exact Bd.mone | apply Bd.mul | apply Bd.add | apply Bd.sub | apply Bd.neg | exact Bd.of (m := 64) (by decide))); (solve | (repeat' first | assumption | exact Bd.zero | exact Bd.one | exact Bd.mone | apply Bd.mul | apply Bd.add | apply Bd.sub | apply Bd.neg | exact Bd.of (m := 64) (by decide))); decide) | (refine okS_of ?_ rfl rfl; ((repeat' apply And.intro) <;> first | exact trivial | rfl | (show Bd _ _; apply Bd.up; (solve | (repeat' first | assumption | exact Bd.zero | exact Bd.one | exact Bd.mone | apply Bd.mul | apply Bd.add | apply Bd.sub | apply Bd.neg | exact Bd.of (m := 64) (by decide))); decide))) | (((repeat' apply And.intro) <;> first | exact trivial | assumption | (apply Bd.up; (solve | (repeat' first | assumption | exact Bd.zero | exact Bd.one | exact Bd.mone | apply Bd.mul | apply Bd.add | apply Bd.sub | apply Bd.neg | exact Bd.of (m := 64) (by decide))); decide))) | decide)); conv => whnf)))))
    refine leN_i (by rw [List.length_map, sizeLine_eq]; omega) ?_
    (((conv => whnf); (repeat' ((apply And.intro; (solve | (first | exact trivial | exact rfl | exact ownB_i rfl | (apply mulOk_bd; (solve | (repeat' first | assumption | exact Bd.zero | exact Bd.one | exact Bd.mone | apply Bd.mul | apply Bd.add | apply Bd.sub | apply Bd.neg | exact Bd.of (m := 64) (by decide))); (solve | (repeat' first | assumption | exact Bd.zero | exact Bd.one | exact Bd.mone | apply Bd.mul | apply Bd.add | apply Bd.sub | apply Bd.neg | exact Bd.of (m := 64) (by decide))); decide) | (refine okS_of ?_ rfl rfl; ((repeat' apply And.intro) <;> first | exact trivial | rfl | (show Bd _ _; apply Bd.up; (solve | (repeat' first | assumption | exact Bd.zero | exact Bd.one | exact Bd.mone | apply Bd.mul | apply Bd.add | apply Bd.sub | apply Bd.neg | exact Bd.of (m := 64) (by decide))); decide))) | (((repeat' apply And.intro) <;> first | exact trivial | assumption | (apply Bd.up; (solve | (repeat' first | assumption | exact Bd.zero | exact Bd.one | exact Bd.mone | apply Bd.mul | apply Bd.add | apply Bd.sub | apply Bd.neg | exact Bd.of (m := 64) (by decide))); decide))) | decide)); conv => whnf)))))
    refine hK _ _ ⟨ls ++ [r], c2, by rw [List.map_append]; rfl, by rw [List.length_append, hl]; rfl, ?_, rfl, by rw [hN]; exact hc2⟩
    intro x hx
    rcases List.mem_append.mp hx with h | h
    · exact hb x h
    · simp at h
      subst h
      unfold Bd
      omega
  rintro acc ρ ⟨ls, cr6, rfl, hl3, hb3, rfl, hc6⟩
  rw [rng_len] at hl3 hc6
  have hl7 : ls.length ≤ 6 := by omega
  (((conv => whnf); (repeat' ((apply And.intro; (solve | (first | exact trivial | exact rfl | exact ownB_i rfl | (apply mulOk_bd; (solve | (repeat' first | assumption | exact Bd.zero | exact Bd.one | exact Bd.mone | apply Bd.mul | apply Bd.add | apply Bd.sub | apply Bd.neg | exact Bd.of (m := 64) (by decide))); (solve | (repeat' first | assumption | exact Bd.zero | exact Bd.one | exact Bd.mone | apply Bd.mul | apply Bd.add | apply Bd.sub | apply Bd.neg | exact Bd.of (m := 64) (by decide))); decide) | (refine okS_of ?_ rfl rfl; ((repeat' apply And.intro) <;> first | exact trivial | rfl | (show Bd _ _; apply Bd.up; (solve | (repeat' first | assumption | exact Bd.zero | exact Bd.one | exact Bd.mone | apply Bd.mul | apply Bd.add | apply Bd.sub | apply Bd.neg | exact Bd.of (m := 64) (by decide))); decide))) | (((repeat' apply And.intro) <;> first | exact trivial | assumption | (apply Bd.up; (solve | (repeat' first | assumption | exact Bd.zero | exact Bd.one | exact Bd.mone | apply Bd.mul | apply Bd.add | apply Bd.sub | apply Bd.neg | exact Bd.of (m := 64) (by decide))); decide))) | decide)); conv => whnf)))))
  refine kn [.mu cr6, .ow (.lst (ns.map .int)), .no, .ow (.lst (qs.map fourD)), .no, .ow (.lst (ls.map .int)), .no, .no, .no, .no, .no, .no] ?_
  clear kn kr kb kc K
  replace hc6 : Cr (n + 25) cr6 := hc6.le (by omega)
  -- the values
  have iA : ∀ x ∈ ns.map D.int, Ite x := by
    intro x hx
    obtain ⟨i, hi, rfl⟩ := List.mem_map.mp hx
    exact ite_int ((hb i hi).up (by decide))
  have iL : ∀ x ∈ ls.map D.int, Ite x := by
    intro x hx
    obtain ⟨i, hi, rfl⟩ := List.mem_map.mp hx
    exact ite_int ((hb3 i hi).up (by decide))
  have i4 : ∀ q ∈ qs, ∀ x ∈ [D.int q.1, .int q.2.1, .int q.2.2.1, .int q.2.2.2], ∃ i, x = .int i ∧ Bd 1900 i := by
    intro q hq x hx
    obtain ⟨h1, h2, h3, h4⟩ := hb2 q hq
    simp only [List.mem_cons, List.not_mem_nil, or_false] at hx
    rcases hx with rfl | rfl | rfl | rfl
    · exact ⟨_, rfl, h1.up (by decide)⟩
    · exact ⟨_, rfl, h2.up (by decide)⟩
    · exact ⟨_, rfl, h3.up (by decide)⟩
    · exact ⟨_, rfl, h4.up (by decide)⟩
  have iS : ∀ x ∈ qs.map fourD, Ite x := by
    intro x hx
    obtain ⟨q, hq, rfl⟩ := List.mem_map.mp hx
    exact ite_ints rfl (i4 q hq) (by simp)
  have iT : ∀ x ∈ qs.map fourT, Ite x := by
    intro x hx
    obtain ⟨q, hq, rfl⟩ := List.mem_map.mp hx
    exact ite_ints rfl (i4 q hq) (by simp)
  have zero : Ite (.lst [.int 0, .int 0, .int 0, .int 0]) := ite_ints rfl (by
    intro x hx
    simp at hx
    exact ⟨0, hx, by unfold Bd; decide⟩) (by simp)
  refine stepN fun K kn kr kb kc => ?_
  (((conv => whnf); (repeat' ((apply And.intro; (solve | (first | exact trivial | exact rfl | exact ownB_i rfl | (apply mulOk_bd; (solve | (repeat' first | assumption | exact Bd.zero | exact Bd.one | exact Bd.mone | apply Bd.mul | apply Bd.add | apply Bd.sub | apply Bd.neg | exact Bd.of (m := 64) (by decide))); (solve | (repeat' first | assumption | exact Bd.zero | exact Bd.one | exact Bd.mone | apply Bd.mul | apply Bd.add | apply Bd.sub | apply Bd.neg | exact Bd.of (m := 64) (by decide))); decide) | (refine okS_of ?_ rfl rfl; ((repeat' apply And.intro) <;> first | exact trivial | rfl | (show Bd _ _; apply Bd.up; (solve | (repeat' first | assumption | exact Bd.zero | exact Bd.one | exact Bd.mone | apply Bd.mul | apply Bd.add | apply Bd.sub | apply Bd.neg | exact Bd.of (m := 64) (by decide))); decide))) | (((repeat' apply And.intro) <;> first | exact trivial | assumption | (apply Bd.up; (solve | (repeat' first | assumption | exact Bd.zero | exact Bd.one | exact Bd.mone | apply Bd.mul | apply Bd.add | apply Bd.sub | apply Bd.neg | exact Bd.of (m := 64) (by decide))); decide))) | decide)); conv => whnf)))))
  refine compN_allG tupOf (by rw [List.length_map]; omega) ?_ ?_
  · intro d A B hd hA
    obtain ⟨q, hq, rfl⟩ := List.mem_map.mp hd
    (((conv => whnf); (repeat' ((apply And.intro; (solve | (first | exact trivial | exact rfl | exact ownB_i rfl | (apply mulOk_bd; (solve | (repeat' first | assumption | exact Bd.zero | exact Bd.one | exact Bd.mone | apply Bd.mul | apply Bd.add | apply Bd.sub | apply Bd.neg | exact Bd.of (m := 64) (by decide))); (solve | (repeat' first | assumption | exact Bd.zero | exact Bd.one | exact Bd.mone | apply Bd.mul | apply Bd.add | apply Bd.sub | apply Bd.neg | exact Bd.of (m := 64) (by decide))); decide) | (refine okS_of ?_ rfl rfl; ((repeat' apply And.intro) <;> first | exact trivial | rfl | (show Bd _ _; apply Bd.up; (solve | (repeat' first | assumption | exact Bd.zero | exact Bd.one | exact Bd.mone | apply Bd.mul | apply Bd.add | apply Bd.sub | apply Bd.neg | exact Bd.of (m := 64) (by decide))); decide))) | (((repeat' apply And.intro) <;> first | exact trivial | assumption | (apply Bd.up; (solve | (repeat' first | assumption | exact Bd.zero | exact Bd.one | exact Bd.mone | apply Bd.mul | apply Bd.add | apply Bd.sub | apply Bd.neg | exact Bd.of (m := 64) (by decide))); decide))) | decide)); conv => whnf)))))
    exact hA _ rfl trivial
  rw [tupOf_map]
  (((conv => whnf); (repeat' ((apply And.intro; (solve | (first | exact trivial | exact rfl | exact ownB_i rfl | (apply mulOk_bd; (solve | (repeat' first | assumption | exact Bd.zero | exact Bd.one | exact Bd.mone | apply Bd.mul | apply Bd.add | apply Bd.sub | apply Bd.neg | exact Bd.of (m := 64) (by decide))); (solve | (repeat' first | assumption | exact Bd.zero | exact Bd.one | exact Bd.mone | apply Bd.mul | apply Bd.add | apply Bd.sub | apply Bd.neg | exact Bd.of (m := 64) (by decide))); decide) | (refine okS_of ?_ rfl rfl; ((repeat' apply And.intro) <;> first | exact trivial | rfl | (show Bd _ _; apply Bd.up; (solve | (repeat' first | assumption | exact Bd.zero | exact Bd.one | exact Bd.mone | apply Bd.mul | apply Bd.add | apply Bd.sub | apply Bd.neg | exact Bd.of (m := 64) (by decide))); decide))) | (((repeat' apply And.intro) <;> first | exact trivial | assumption | (apply Bd.up; (solve | (repeat' first | assumption | exact Bd.zero | exact Bd.one | exact Bd.mone | apply Bd.mul | apply Bd.add | apply Bd.sub | apply Bd.neg | exact Bd.of (m := 64) (by decide))); decide))) | decide)); conv => whnf)))))
  refine ⟨_, n + 22, rfl, hc6, fun o cr7 ho hc7 => ?_⟩
  (((conv => whnf); (repeat' ((apply And.intro; (solve | (first | exact trivial | exact rfl | exact ownB_i rfl | (apply mulOk_bd; (solve | (repeat' first | assumption | exact Bd.zero | exact Bd.one | exact Bd.mone | apply Bd.mul | apply Bd.add | apply Bd.sub | apply Bd.neg | exact Bd.of (m := 64) (by decide))); (solve | (repeat' first | assumption | exact Bd.zero | exact Bd.one | exact Bd.mone | apply Bd.mul | apply Bd.add | apply Bd.sub | apply Bd.neg | exact Bd.of (m := 64) (by decide))); decide) | (refine okS_of ?_ rfl rfl; ((repeat' apply And.intro) <;> first | exact trivial | rfl | (show Bd _ _; apply Bd.up; (solve | (repeat' first | assumption | exact Bd.zero | exact Bd.one | exact Bd.mone | apply Bd.mul | apply Bd.add | apply Bd.sub | apply Bd.neg | exact Bd.of (m := 64) (by decide))); decide))) | (((repeat' apply And.intro) <;> first | exact trivial | assumption | (apply Bd.up; (solve | (repeat' first | assumption | exact Bd.zero | exact Bd.one | exact Bd.mone | apply Bd.mul | apply Bd.add | apply Bd.sub | apply Bd.neg | exact Bd.of (m := 64) (by decide))); decide))) | decide)); conv => whnf)))))
  refine kn [.mu cr7, .va (.lst (ns.map .int)), .no, .va (.lst (qs.map fourD)), .no, .va (.lst (ls.map .int)), .ow (.lst [.lst (ns.map .int), .tup (ns.map .int), .lst (qs.map fourD), .tup (qs.map fourT), .lst (ls.map .int), .tup (ls.map .int), o]), .no, .no, .no, .no, .no] ?_
  clear kn kr kb kc K
  refine stepN fun K kn kr kb kc => ?_
  (((conv => whnf); (repeat' ((apply And.intro; (solve | (first | exact trivial | exact rfl | exact ownB_i rfl | (apply mulOk_bd; (solve | (repeat' first | assumption | exact Bd.zero | exact Bd.one | exact Bd.mone | apply Bd.mul | apply Bd.add | apply Bd.sub | apply Bd.neg | exact Bd.of (m := 64) (by decide))); (solve | (repeat' first | assumption | exact Bd.zero | exact Bd.one | exact Bd.mone | apply Bd.mul | apply Bd.add | apply Bd.sub | apply Bd.neg | exact Bd.of (m := 64) (by decide))); decide) | (refine okS_of ?_ rfl rfl; ((repeat' apply And.intro) <;> first | exact trivial | rfl | (show Bd _ _; apply Bd.up; (solve | (repeat' first | assumption | exact Bd.zero | exact Bd.one | exact Bd.mone | apply Bd.mul | apply Bd.add | apply Bd.sub | apply Bd.neg | exact Bd.of (m := 64) (by decide))); decide))) | (((repeat' apply And.intro) <;> first | exact trivial | assumption | (apply Bd.up; (solve | (repeat' first | assumption | exact Bd.zero | exact Bd.one | exact Bd.mone | apply Bd.mul | apply Bd.add | apply Bd.sub | apply Bd.neg | exact Bd.of (m := 64) (by decide))); decide))) | decide)); conv => whnf)))))
  refine compN_allG (fun _ => .lst [.int 0, .int 0, .int 0, .int 0]) (by rw [List.length_map]; omega) ?_ ?_
  · intro d A B hd hA
    (((conv => whnf); (repeat' ((apply And.intro; (solve | (first | exact trivial | exact rfl | exact ownB_i rfl | (apply mulOk_bd; (solve | (repeat' first | assumption | exact Bd.zero | exact Bd.one | exact Bd.mone | apply Bd.mul | apply Bd.add | apply Bd.sub | apply Bd.neg | exact Bd.of (m := 64) (by decide))); (solve | (repeat' first | assumption | exact Bd.zero | exact Bd.one | exact Bd.mone | apply Bd.mul | apply Bd.add | apply Bd.sub | apply Bd.neg | exact Bd.of (m := 64) (by decide))); decide) | (refine okS_of ?_ rfl rfl; ((repeat' apply And.intro) <;> first | exact trivial | rfl | (show Bd _ _; apply Bd.up; (solve | (repeat' first | assumption | exact Bd.zero | exact Bd.one | exact Bd.mone | apply Bd.mul | apply Bd.add | apply Bd.sub | apply Bd.neg | exact Bd.of (m := 64) (by decide))); decide))) | (((repeat' apply And.intro) <;> first | exact trivial | assumption | (apply Bd.up; (solve | (repeat' first | assumption | exact Bd.zero | exact Bd.one | exact Bd.mone | apply Bd.mul | apply Bd.add | apply Bd.sub | apply Bd.neg | exact Bd.of (m := 64) (by decide))); decide))) | decide)); conv => whnf)))))
    exact hA _ rfl trivial
  (((conv => whnf); (repeat' ((apply And.intro; (solve | (first | exact trivial | exact rfl | exact ownB_i rfl | (apply mulOk_bd; (solve | (repeat' first | assumption | exact Bd.zero | exact Bd.one | exact Bd.mone | apply Bd.mul | apply Bd.add | apply Bd.sub | apply Bd.neg | exact Bd.of (m := 64) (by decide))); (solve | (repeat' first | assumption | exact Bd.zero | exact Bd.one | exact Bd.mone | apply Bd.mul | apply Bd.add | apply Bd.sub | apply Bd.neg | exact Bd.of (m := 64) (by decide))); decide) | (refine okS_of ?_ rfl rfl; ((repeat' apply And.intro) <;> first | exact trivial | rfl | (show Bd _ _; apply Bd.up; (solve | (repeat' first | assumption | exact Bd.zero | exact Bd.one | exact Bd.mone | apply Bd.mul | apply Bd.add | apply Bd.sub | apply Bd.neg | exact Bd.of (m := 64) (by decide))); decide))) | (((repeat' apply And.intro) <;> first | exact trivial | assumption | (apply Bd.up; (solve | (repeat' first | assumption | exact Bd.zero | exact Bd.one | exact Bd.mone | apply Bd.mul | apply Bd.add | apply Bd.sub | apply Bd.neg | exact Bd.of (m := 64) (by decide))); decide))) | decide)); conv => whnf)))))
  refine kn [.mu cr7, .va (.lst (ns.map .int)), .no, .va (.lst (qs.map fourD)), .no, .va (.lst (ls.map .int)), .ow (.lst [.lst (ns.map .int), .tup (ns.map .int), .lst (qs.map fourD), .tup (qs.map fourT), .lst (ls.map .int), .tup (ls.map .int), o, .lst ((qs.map fourD).map fun _ => .lst [.int 0, .int 0, .int 0, .int 0])]), .no, .no, .no, .no, .no] ?_
  clear kn kr kb kc K
  have vs0 : ∀ x ∈ [D.lst (ns.map .int), .tup (ns.map .int), .lst (qs.map fourD), .tup (qs.map fourT), .lst (ls.map .int), .tup (ls.map .int), o, .lst ((qs.map fourD).map fun _ => .lst [.int 0, .int 0, .int 0, .int 0])], Vl x := by
    intro x hx
    simp only [List.mem_cons, List.not_mem_nil, or_false] at hx
    rcases hx with rfl | rfl | rfl | rfl | rfl | rfl | rfl | rfl
    · exact vl_seq rfl iA (by rw [List.length_map]; omega)
    · exact vl_seq rfl iA (by rw [List.length_map]; omega)
    · exact vl_seq rfl iS (by rw [List.length_map]; omega)
    · exact vl_seq rfl iT (by rw [List.length_map]; omega)
    · exact vl_seq rfl iL (by rw [List.length_map]; omega)
    · exact vl_seq rfl iL (by rw [List.length_map]; omega)
    · exact ho.vl
    · refine vl_seq rfl (fun x hx => ?_) (by rw [List.length_map, List.length_map]; omega)
      obtain ⟨_, _, rfl⟩ := List.mem_map.mp hx
      exact zero
  generalize hv0 : [D.lst (ns.map .int), .tup (ns.map .int), .lst (qs.map fourD), .tup (qs.map fourT), .lst (ls.map .int), .tup (ls.map .int), o, .lst ((qs.map fourD).map fun _ => .lst [.int 0, .int 0, .int 0, .int 0])] = vs at vs0 ⊢
  have vl0 : vs.length = 8 := by rw [← hv0]; rfl
  clear hv0
  have bases : ∀ x ∈ [D.lst (ns.map .int), .lst (qs.map fourD), .lst (ls.map .int)], ∃ ds, x = .lst ds ∧ ds.length ≤ 16 ∧ ∀ y ∈ ds, Ite y := by
    intro x hx
    simp only [List.mem_cons, List.not_mem_nil, or_false] at hx
    rcases hx with rfl | rfl | rfl
    · exact ⟨_, rfl, by rw [List.length_map]; omega, iA⟩
    · exact ⟨_, rfl, by rw [List.length_map]; omega, iS⟩
    · exact ⟨_, rfl, by rw [List.length_map]; omega, iL⟩
  generalize D.lst (ns.map .int) = dA at bases ⊢
  generalize D.lst (qs.map fourD) = dS at bases ⊢
  generalize D.lst (ls.map .int) = dL at bases ⊢
  clear iA iL iS iT i4 zero hb hb2 hb3 hl hl2 hl3 hl5 hl6 hl7
  refine stepN fun K kn kr kb kc => ?_
  refine forr_s [dA, dS, dL] [.mu cr7, .va dA, .no, .va dS, .no, .va dL, .ow (.lst vs), .no, .no, .no, .no, .no] (fun X hX => by (conv => whnf); exact hX) ?_
  refine forN_i (fun i ρ => ∃ cr' us s4 s8, ρ = [.mu cr', .va dA, .no, .va dS, s4, .va dL, .ow (.lst us), .no, s8, .no, .no, .no] ∧ (s4 = .no ∨ ∃ z, s4 = .va z) ∧ (s8 = .no ∨ ∃ z, s8 = .va z) ∧ (∀ x ∈ us, Vl x) ∧ us.length ≤ 8 + 2 * i ∧ Cr (n + 22 - 5 * i) cr') ⟨cr7, vs, .no, .no, rfl, .inl rfl, .inl rfl, vs0, by omega, hc7⟩ ?_ ?_
  · rintro i d ρ K2 hi ⟨cr', us, s4, s8, rfl, h4, h8, hus, hul, hcr⟩ k1 k2 k3 k4
    obtain ⟨ds, rfl, dl, hds⟩ := bases d (List.mem_of_getElem? hi)
    have i3 : i < 3 := (List.getElem?_eq_some_iff.mp hi).1
    obtain ⟨N, hN⟩ : ∃ N, n + 22 - 5 * (i + 1) = N := ⟨_, rfl⟩
    have hcr' : Cr (N + 5) cr' := hcr.le (by omega)
    have hcn : Cr N cr' := hcr'.le (by omega)
    clear k2 k3 k4 kn kr kb kc
    rcases h4 with rfl | ⟨z4, rfl⟩ <;> rcases h8 with rfl | ⟨z8, rfl⟩ <;> (
      (((conv => whnf); (repeat' ((apply And.intro; (solve | (first | exact trivial | exact rfl | exact ownB_i rfl | (apply mulOk_bd; (solve | (repeat' first | assumption | exact Bd.zero | exact Bd.one | exact Bd.mone | apply Bd.mul | apply Bd.add | apply Bd.sub | apply Bd.neg | exact Bd.of (m := 64) (by decide))); (solve | (repeat' first | assumption | exact Bd.zero | exact Bd.one | exact Bd.mone | apply Bd.mul | apply Bd.add | apply Bd.sub | apply Bd.neg | exact Bd.of (m := 64) (by decide))); decide) | (refine okS_of ?_ rfl rfl; ((repeat' apply And.intro) <;> first | exact trivial | rfl | (show Bd _ _; apply Bd.up; (solve | (repeat' first | assumption | exact Bd.zero | exact Bd.one | exact Bd.mone | apply Bd.mul | apply Bd.add | apply Bd.sub | apply Bd.neg | exact Bd.of (m := 64) (by decide))); decide))) | (((repeat' apply And.intro) <;> first | exact trivial | assumption | (apply Bd.up; (solve | (repeat' first | assumption | exact Bd.zero | exact Bd.one | exact Bd.mone | apply Bd.mul | apply Bd.add | apply Bd.sub | apply Bd.neg | exact Bd.of (m := 64) (by decide))); decide))) | decide)); conv => whnf)))))
      cases he : (ds.isEmpty != true) with
      | false =>
        (((conv => whnf); (repeat' ((apply And.intro; (solve | (first | exact trivial | exact rfl | exact ownB_i rfl | (apply mulOk_bd; (solve | (repeat' first | assumption | exact Bd.zero | exact Bd.one | exact Bd.mone | apply Bd.mul | apply Bd.add | apply Bd.sub | apply Bd.neg | exact Bd.of (m := 64) (by decide))); (solve | (repeat' first | assumption | exact Bd.zero | exact Bd.one | exact Bd.mone | apply Bd.mul | apply Bd.add | apply Bd.sub | apply Bd.neg | exact Bd.of (m := 64) (by decide))); decide) | (refine okS_of ?_ rfl rfl; ((repeat' apply And.intro) <;> first | exact trivial | rfl | (show Bd _ _; apply Bd.up; (solve | (repeat' first | assumption | exact Bd.zero | exact Bd.one | exact Bd.mone | apply Bd.mul | apply Bd.add | apply Bd.sub | apply Bd.neg | exact Bd.of (m := 64) (by decide))); decide))) | (((repeat' apply And.intro) <;> first | exact trivial | assumption | (apply Bd.up; (solve | (repeat' first | assumption | exact Bd.zero | exact Bd.one | exact Bd.mone | apply Bd.mul | apply Bd.add | apply Bd.sub | apply Bd.neg | exact Bd.of (m := 64) (by decide))); decide))) | decide)); conv => whnf)))))
        exact k1 _ ⟨_, us, _, _, rfl, by simp, by simp, hus, by omega, by rw [hN]; exact hcn⟩ trivial
      | true =>
        have hp : 0 < ds.length := by
          cases ds with
          | nil => cases he
          | cons d ds => exact Nat.succ_pos _
        (((conv => whnf); (repeat' ((apply And.intro; (solve | (first | exact trivial | exact rfl | exact ownB_i rfl | (apply mulOk_bd; (solve | (repeat' first | assumption | exact Bd.zero | exact Bd.one | exact Bd.mone | apply Bd.mul | apply Bd.add | apply Bd.sub | apply Bd.neg | exact Bd.of (m := 64) (by decide))); (solve | (repeat' first | assumption | exact Bd.zero | exact Bd.one | exact Bd.mone | apply Bd.mul | apply Bd.add | apply Bd.sub | apply Bd.neg | exact Bd.of (m := 64) (by decide))); decide) | (refine okS_of ?_ rfl rfl; ((repeat' apply And.intro) <;> first | exact trivial | rfl | (show Bd _ _; apply Bd.up; (solve | (repeat' first | assumption | exact Bd.zero | exact Bd.one | exact Bd.mone | apply Bd.mul | apply Bd.add | apply Bd.sub | apply Bd.neg | exact Bd.of (m := 64) (by decide))); decide))) | (((repeat' apply And.intro) <;> first | exact trivial | assumption | (apply Bd.up; (solve | (repeat' first | assumption | exact Bd.zero | exact Bd.one | exact Bd.mone | apply Bd.mul | apply Bd.add | apply Bd.sub | apply Bd.neg | exact Bd.of (m := 64) (by decide))); decide))) | decide)); conv => whnf)))))
        refine ⟨N + 4, hcr', ⟨by omega, by omega⟩, fun r c1 hr hc1 => ?_⟩
        (((conv => whnf); (repeat' ((apply And.intro; (solve | (first | exact trivial | exact rfl | exact ownB_i rfl | (apply mulOk_bd; (solve | (repeat' first | assumption | exact Bd.zero | exact Bd.one | exact Bd.mone | apply Bd.mul | apply Bd.add | apply Bd.sub | apply Bd.neg | exact Bd.of (m := 64) (by decide))); (solve | (repeat' first | assumption | exact Bd.zero | exact Bd.one | exact Bd.mone | apply Bd.mul | apply Bd.add | apply Bd.sub | apply Bd.neg | exact Bd.of (m := 64) (by decide))); decide) | (refine okS_of ?_ rfl rfl; ((repeat' apply And.intro) <;> first | exact trivial | rfl | (show Bd _ _; apply Bd.up; (solve | (repeat' first | assumption | exact Bd.zero | exact Bd.one | exact Bd.mone | apply Bd.mul | apply Bd.add | apply Bd.sub | apply Bd.neg | exact Bd.of (m := 64) (by decide))); decide))) | (((repeat' apply And.intro) <;> first | exact trivial | assumption | (apply Bd.up; (solve | (repeat' first | assumption | exact Bd.zero | exact Bd.one | exact Bd.mone | apply Bd.mul | apply Bd.add | apply Bd.sub | apply Bd.neg | exact Bd.of (m := 64) (by decide))); decide))) | decide)); conv => whnf)))))
        refine ⟨_, N + 1, rfl, hc1, fun o c2 ho hc2 => ?_⟩
        have l1 := cut_len ds none (some r)
        have l2 := cut_len ds (some (r + 1)) none
        have l3 := cut_len ds (some r) (some (r + 1))
        have v1 : Vl (.lst (cutD ds none (some r) ++ [o] ++ cutD ds (some (r + 1)) none)) := by
          refine vl_seq rfl (fun x hx => ?_) (by simp only [List.length_append, List.length_cons, List.length_nil]; omega)
          rcases List.mem_append.mp hx with hx | hx
          · rcases List.mem_append.mp hx with hx | hx
            · exact hds x (cut_mem hx)
            · simp at hx
              subst hx
              exact ho.ite
          · exact hds x (cut_mem hx)
        have v2 : Vl (.lst (ds ++ cutD ds (some r) (some (r + 1)))) := by
          refine vl_seq rfl (fun x hx => ?_) (by rw [List.length_append]; omega)
          rcases List.mem_append.mp hx with hx | hx
          · exact hds x hx
          · exact hds x (cut_mem hx)
        (((conv => whnf); (repeat' ((apply And.intro; (solve | (first | exact trivial | exact rfl | exact ownB_i rfl | (apply mulOk_bd; (solve | (repeat' first | assumption | exact Bd.zero | exact Bd.one | exact Bd.mone | apply Bd.mul | apply Bd.add | apply Bd.sub | apply Bd.neg | exact Bd.of (m := 64) (by decide))); (solve | (repeat' first | assumption | exact Bd.zero | exact Bd.one | exact Bd.mone | apply Bd.mul | apply Bd.add | apply Bd.sub | apply Bd.neg | exact Bd.of (m := 64) (by decide))); decide) | (refine okS_of ?_ rfl rfl; ((repeat' apply And.intro) <;> first | exact trivial | rfl | (show Bd _ _; apply Bd.up; (solve | (repeat' first | assumption | exact Bd.zero | exact Bd.one | exact Bd.mone | apply Bd.mul | apply Bd.add | apply Bd.sub | apply Bd.neg | exact Bd.of (m := 64) (by decide))); decide))) | (((repeat' apply And.intro) <;> first | exact trivial | assumption | (apply Bd.up; (solve | (repeat' first | assumption | exact Bd.zero | exact Bd.one | exact Bd.mone | apply Bd.mul | apply Bd.add | apply Bd.sub | apply Bd.neg | exact Bd.of (m := 64) (by decide))); decide))) | decide)); conv => whnf)))))
        refine ⟨by rw [sizeLine_eq]; simp only [List.length_cons, List.length_nil]; omega, ?_⟩
        (((conv => whnf); (repeat' ((apply And.intro; (solve | (first | exact trivial | exact rfl | exact ownB_i rfl | (apply mulOk_bd; (solve | (repeat' first | assumption | exact Bd.zero | exact Bd.one | exact Bd.mone | apply Bd.mul | apply Bd.add | apply Bd.sub | apply Bd.neg | exact Bd.of (m := 64) (by decide))); (solve | (repeat' first | assumption | exact Bd.zero | exact Bd.one | exact Bd.mone | apply Bd.mul | apply Bd.add | apply Bd.sub | apply Bd.neg | exact Bd.of (m := 64) (by decide))); decide) | (refine okS_of ?_ rfl rfl; ((repeat' apply And.intro) <;> first | exact trivial | rfl | (show Bd _ _; apply Bd.up; (solve | (repeat' first | assumption | exact Bd.zero | exact Bd.one | exact Bd.mone | apply Bd.mul | apply Bd.add | apply Bd.sub | apply Bd.neg | exact Bd.of (m := 64) (by decide))); decide))) | (((repeat' apply And.intro) <;> first | exact trivial | assumption | (apply Bd.up; (solve | (repeat' first | assumption | exact Bd.zero | exact Bd.one | exact Bd.mone | apply Bd.mul | apply Bd.add | apply Bd.sub | apply Bd.neg | exact Bd.of (m := 64) (by decide))); decide))) | decide)); conv => whnf)))))
        refine ⟨by rw [sizeLine_eq]; simp only [List.length_append, List.length_cons, List.length_nil]; omega, ?_⟩
        (((conv => whnf); (repeat' ((apply And.intro; (solve | (first | exact trivial | exact rfl | exact ownB_i rfl | (apply mulOk_bd; (solve | (repeat' first | assumption | exact Bd.zero | exact Bd.one | exact Bd.mone | apply Bd.mul | apply Bd.add | apply Bd.sub | apply Bd.neg | exact Bd.of (m := 64) (by decide))); (solve | (repeat' first | assumption | exact Bd.zero | exact Bd.one | exact Bd.mone | apply Bd.mul | apply Bd.add | apply Bd.sub | apply Bd.neg | exact Bd.of (m := 64) (by decide))); decide) | (refine okS_of ?_ rfl rfl; ((repeat' apply And.intro) <;> first | exact trivial | rfl | (show Bd _ _; apply Bd.up; (solve | (repeat' first | assumption | exact Bd.zero | exact Bd.one | exact Bd.mone | apply Bd.mul | apply Bd.add | apply Bd.sub | apply Bd.neg | exact Bd.of (m := 64) (by decide))); decide))) | (((repeat' apply And.intro) <;> first | exact trivial | assumption | (apply Bd.up; (solve | (repeat' first | assumption | exact Bd.zero | exact Bd.one | exact Bd.mone | apply Bd.mul | apply Bd.add | apply Bd.sub | apply Bd.neg | exact Bd.of (m := 64) (by decide))); decide))) | decide)); conv => whnf)))))
        refine leN_i (by rw [sizeLine_eq]; omega) ?_
        rw [appK_eq]
        (((conv => whnf); (repeat' ((apply And.intro; (solve | (first | exact trivial | exact rfl | exact ownB_i rfl | (apply mulOk_bd; (solve | (repeat' first | assumption | exact Bd.zero | exact Bd.one | exact Bd.mone | apply Bd.mul | apply Bd.add | apply Bd.sub | apply Bd.neg | exact Bd.of (m := 64) (by decide))); (solve | (repeat' first | assumption | exact Bd.zero | exact Bd.one | exact Bd.mone | apply Bd.mul | apply Bd.add | apply Bd.sub | apply Bd.neg | exact Bd.of (m := 64) (by decide))); decide) | (refine okS_of ?_ rfl rfl; ((repeat' apply And.intro) <;> first | exact trivial | rfl | (show Bd _ _; apply Bd.up; (solve | (repeat' first | assumption | exact Bd.zero | exact Bd.one | exact Bd.mone | apply Bd.mul | apply Bd.add | apply Bd.sub | apply Bd.neg | exact Bd.of (m := 64) (by decide))); decide))) | (((repeat' apply And.intro) <;> first | exact trivial | assumption | (apply Bd.up; (solve | (repeat' first | assumption | exact Bd.zero | exact Bd.one | exact Bd.mone | apply Bd.mul | apply Bd.add | apply Bd.sub | apply Bd.neg | exact Bd.of (m := 64) (by decide))); decide))) | decide)); conv => whnf)))))
        refine ⟨by rw [sizeLine_eq]; omega, ?_⟩
        (((conv => whnf); (repeat' ((apply And.intro; (solve | (first | exact trivial | exact rfl | exact ownB_i rfl | (apply mulOk_bd; (solve | (repeat' first | assumption | exact Bd.zero | exact Bd.one | exact Bd.mone | apply Bd.mul | apply Bd.add | apply Bd.sub | apply Bd.neg | exact Bd.of (m := 64) (by decide))); (solve | (repeat' first | assumption | exact Bd.zero | exact Bd.one | exact Bd.mone | apply Bd.mul | apply Bd.add | apply Bd.sub | apply Bd.neg | exact Bd.of (m := 64) (by decide))); decide) | (refine okS_of ?_ rfl rfl; ((repeat' apply And.intro) <;> first | exact trivial | rfl | (show Bd _ _; apply Bd.up; (solve | (repeat' first | assumption | exact Bd.zero | exact Bd.one | exact Bd.mone | apply Bd.mul | apply Bd.add | apply Bd.sub | apply Bd.neg | exact Bd.of (m := 64) (by decide))); decide))) | (((repeat' apply And.intro) <;> first | exact trivial | assumption | (apply Bd.up; (solve | (repeat' first | assumption | exact Bd.zero | exact Bd.one | exact Bd.mone | apply Bd.mul | apply Bd.add | apply Bd.sub | apply Bd.neg | exact Bd.of (m := 64) (by decide))); decide))) | decide)); conv => whnf)))))
        refine leN_i (by rw [sizeLine_eq, List.length_append, List.length_singleton]; omega) ?_
        rw [appK_eq]
        (((conv => whnf); (repeat' ((apply And.intro; (solve | (first | exact trivial | exact rfl | exact ownB_i rfl | (apply mulOk_bd; (solve | (repeat' first | assumption | exact Bd.zero | exact Bd.one | exact Bd.mone | apply Bd.mul | apply Bd.add | apply Bd.sub | apply Bd.neg | exact Bd.of (m := 64) (by decide))); (solve | (repeat' first | assumption | exact Bd.zero | exact Bd.one | exact Bd.mone | apply Bd.mul | apply Bd.add | apply Bd.sub | apply Bd.neg | exact Bd.of (m := 64) (by decide))); decide) | (refine okS_of ?_ rfl rfl; ((repeat' apply And.intro) <;> first | exact trivial | rfl | (show Bd _ _; apply Bd.up; (solve | (repeat' first | assumption | exact Bd.zero | exact Bd.one | exact Bd.mone | apply Bd.mul | apply Bd.add | apply Bd.sub | apply Bd.neg | exact Bd.of (m := 64) (by decide))); decide))) | (((repeat' apply And.intro) <;> first | exact trivial | assumption | (apply Bd.up; (solve | (repeat' first | assumption | exact Bd.zero | exact Bd.one | exact Bd.mone | apply Bd.mul | apply Bd.add | apply Bd.sub | apply Bd.neg | exact Bd.of (m := 64) (by decide))); decide))) | decide)); conv => whnf)))))
        refine k1 _ ⟨_, us ++ [_] ++ [_], _, _, rfl, by simp, by simp, fun x hx => ?_, by simp only [List.length_append, List.length_cons, List.length_nil]; omega, by rw [hN]; exact hc2.le (by omega)⟩ trivial
        rcases List.mem_append.mp hx with hx | hx
        · rcases List.mem_append.mp hx with hx | hx
          · exact hus x hx
          · rw [List.mem_singleton.mp hx]
            exact v1
        · rw [List.mem_singleton.mp hx]
          exact v2)
  rintro ρ ⟨cr8, us, s4, s8, rfl, h4, h8, hus, hul, hc8⟩
  refine kn _ ?_
  clear kn kr kb kc K
  rw [show [dA, dS, dL].length = 3 from rfl] at hc8 hul
  replace hc8 : Cr n cr8 := hc8.le (by omega)
  rcases h4 with rfl | ⟨z4, rfl⟩ <;> rcases h8 with rfl | ⟨z8, rfl⟩
  · refine stepN fun K kn kr kb kc => ?_
    refine forr_w us (some 6) [.mu cr8, .va dA, .no, .va dS, .no, .va dL, .ow (.lst us), .no, .no, .no, .no, .no] [.mu cr8, .va dA, .no, .va dS, .no, .va dL, .mu (.lst us), .no, .no, .no, .no, .no] (fun X hX => by (conv => whnf); exact hX) rfl ?_
    refine forN_i (fun i ρ => ρ = [.mu cr8, .va dA, .no, .va dS, .no, .va dL, .mu (.lst us), .no, .no, .no, .no, .no] ∨ ∃ x y z, ρ = [.mu cr8, .va dA, .no, .va dS, .no, .va dL, .mu (.lst us), .no, .no, .va x, .va y, .ow z]) (.inl rfl) ?_ ?_
    · rintro i d ρ K2 hi hI k1 k2 k3 k4
      have hv := hus d (List.mem_of_getElem? hi)
      clear k2 k3 k4 kn kr kb kc
      rcases hI with rfl | ⟨x, y, z, rfl⟩ <;> (
        (((conv => whnf); (repeat' ((apply And.intro; (solve | (first | exact trivial | exact rfl | exact ownB_i rfl | (apply mulOk_bd; (solve | (repeat' first | assumption | exact Bd.zero | exact Bd.one | exact Bd.mone | apply Bd.mul | apply Bd.add | apply Bd.sub | apply Bd.neg | exact Bd.of (m := 64) (by decide))); (solve | (repeat' first | assumption | exact Bd.zero | exact Bd.one | exact Bd.mone | apply Bd.mul | apply Bd.add | apply Bd.sub | apply Bd.neg | exact Bd.of (m := 64) (by decide))); decide) | (refine okS_of ?_ rfl rfl; ((repeat' apply And.intro) <;> first | exact trivial | rfl | (show Bd _ _; apply Bd.up; (solve | (repeat' first | assumption | exact Bd.zero | exact Bd.one | exact Bd.mone | apply Bd.mul | apply Bd.add | apply Bd.sub | apply Bd.neg | exact Bd.of (m := 64) (by decide))); decide))) | (((repeat' apply And.intro) <;> first | exact trivial | assumption | (apply Bd.up; (solve | (repeat' first | assumption | exact Bd.zero | exact Bd.one | exact Bd.mone | apply Bd.mul | apply Bd.add | apply Bd.sub | apply Bd.neg | exact Bd.of (m := 64) (by decide))); decide))) | decide)); conv => whnf)))))
        refine ⟨hv.k, ?_⟩
        (((conv => whnf); (repeat' ((apply And.intro; (solve | (first | exact trivial | exact rfl | exact ownB_i rfl | (apply mulOk_bd; (solve | (repeat' first | assumption | exact Bd.zero | exact Bd.one | exact Bd.mone | apply Bd.mul | apply Bd.add | apply Bd.sub | apply Bd.neg | exact Bd.of (m := 64) (by decide))); (solve | (repeat' first | assumption | exact Bd.zero | exact Bd.one | exact Bd.mone | apply Bd.mul | apply Bd.add | apply Bd.sub | apply Bd.neg | exact Bd.of (m := 64) (by decide))); decide) | (refine okS_of ?_ rfl rfl; ((repeat' apply And.intro) <;> first | exact trivial | rfl | (show Bd _ _; apply Bd.up; (solve | (repeat' first | assumption | exact Bd.zero | exact Bd.one | exact Bd.mone | apply Bd.mul | apply Bd.add | apply Bd.sub | apply Bd.neg | exact Bd.of (m := 64) (by decide))); decide))) | (((repeat' apply And.intro) <;> first | exact trivial | assumption | (apply Bd.up; (solve | (repeat' first | assumption | exact Bd.zero | exact Bd.one | exact Bd.mone | apply Bd.mul | apply Bd.add | apply Bd.sub | apply Bd.neg | exact Bd.of (m := 64) (by decide))); decide))) | decide)); conv => whnf)))))
        refine ⟨d, rfl, hv.s.le, ?_⟩
        (((conv => whnf); (repeat' ((apply And.intro; (solve | (first | exact trivial | exact rfl | exact ownB_i rfl | (apply mulOk_bd; (solve | (repeat' first | assumption | exact Bd.zero | exact Bd.one | exact Bd.mone | apply Bd.mul | apply Bd.add | apply Bd.sub | apply Bd.neg | exact Bd.of (m := 64) (by decide))); (solve | (repeat' first | assumption | exact Bd.zero | exact Bd.one | exact Bd.mone | apply Bd.mul | apply Bd.add | apply Bd.sub | apply Bd.neg | exact Bd.of (m := 64) (by decide))); decide) | (refine okS_of ?_ rfl rfl; ((repeat' apply And.intro) <;> first | exact trivial | rfl | (show Bd _ _; apply Bd.up; (solve | (repeat' first | assumption | exact Bd.zero | exact Bd.one | exact Bd.mone | apply Bd.mul | apply Bd.add | apply Bd.sub | apply Bd.neg | exact Bd.of (m := 64) (by decide))); decide))) | (((repeat' apply And.intro) <;> first | exact trivial | assumption | (apply Bd.up; (solve | (repeat' first | assumption | exact Bd.zero | exact Bd.one | exact Bd.mone | apply Bd.mul | apply Bd.add | apply Bd.sub | apply Bd.neg | exact Bd.of (m := 64) (by decide))); decide))) | decide)); conv => whnf)))))
        refine ⟨d, rfl, hv.s, ?_⟩
        (((conv => whnf); (repeat' ((apply And.intro; (solve | (first | exact trivial | exact rfl | exact ownB_i rfl | (apply mulOk_bd; (solve | (repeat' first | assumption | exact Bd.zero | exact Bd.one | exact Bd.mone | apply Bd.mul | apply Bd.add | apply Bd.sub | apply Bd.neg | exact Bd.of (m := 64) (by decide))); (solve | (repeat' first | assumption | exact Bd.zero | exact Bd.one | exact Bd.mone | apply Bd.mul | apply Bd.add | apply Bd.sub | apply Bd.neg | exact Bd.of (m := 64) (by decide))); decide) | (refine okS_of ?_ rfl rfl; ((repeat' apply And.intro) <;> first | exact trivial | rfl | (show Bd _ _; apply Bd.up; (solve | (repeat' first | assumption | exact Bd.zero | exact Bd.one | exact Bd.mone | apply Bd.mul | apply Bd.add | apply Bd.sub | apply Bd.neg | exact Bd.of (m := 64) (by decide))); decide))) | (((repeat' apply And.intro) <;> first | exact trivial | assumption | (apply Bd.up; (solve | (repeat' first | assumption | exact Bd.zero | exact Bd.one | exact Bd.mone | apply Bd.mul | apply Bd.add | apply Bd.sub | apply Bd.neg | exact Bd.of (m := 64) (by decide))); decide))) | decide)); conv => whnf)))))
        refine ⟨d, rfl, ⟨hv.s.le, hv.l⟩, ?_⟩
        (((conv => whnf); (repeat' ((apply And.intro; (solve | (first | exact trivial | exact rfl | exact ownB_i rfl | (apply mulOk_bd; (solve | (repeat' first | assumption | exact Bd.zero | exact Bd.one | exact Bd.mone | apply Bd.mul | apply Bd.add | apply Bd.sub | apply Bd.neg | exact Bd.of (m := 64) (by decide))); (solve | (repeat' first | assumption | exact Bd.zero | exact Bd.one | exact Bd.mone | apply Bd.mul | apply Bd.add | apply Bd.sub | apply Bd.neg | exact Bd.of (m := 64) (by decide))); decide) | (refine okS_of ?_ rfl rfl; ((repeat' apply And.intro) <;> first | exact trivial | rfl | (show Bd _ _; apply Bd.up; (solve | (repeat' first | assumption | exact Bd.zero | exact Bd.one | exact Bd.mone | apply Bd.mul | apply Bd.add | apply Bd.sub | apply Bd.neg | exact Bd.of (m := 64) (by decide))); decide))) | (((repeat' apply And.intro) <;> first | exact trivial | assumption | (apply Bd.up; (solve | (repeat' first | assumption | exact Bd.zero | exact Bd.one | exact Bd.mone | apply Bd.mul | apply Bd.add | apply Bd.sub | apply Bd.neg | exact Bd.of (m := 64) (by decide))); decide))) | decide)); conv => whnf)))))
        refine ⟨d, rfl, ⟨hv.s, hv.l⟩, ?_⟩
        (((conv => whnf); (repeat' ((apply And.intro; (solve | (first | exact trivial | exact rfl | exact ownB_i rfl | (apply mulOk_bd; (solve | (repeat' first | assumption | exact Bd.zero | exact Bd.one | exact Bd.mone | apply Bd.mul | apply Bd.add | apply Bd.sub | apply Bd.neg | exact Bd.of (m := 64) (by decide))); (solve | (repeat' first | assumption | exact Bd.zero | exact Bd.one | exact Bd.mone | apply Bd.mul | apply Bd.add | apply Bd.sub | apply Bd.neg | exact Bd.of (m := 64) (by decide))); decide) | (refine okS_of ?_ rfl rfl; ((repeat' apply And.intro) <;> first | exact trivial | rfl | (show Bd _ _; apply Bd.up; (solve | (repeat' first | assumption | exact Bd.zero | exact Bd.one | exact Bd.mone | apply Bd.mul | apply Bd.add | apply Bd.sub | apply Bd.neg | exact Bd.of (m := 64) (by decide))); decide))) | (((repeat' apply And.intro) <;> first | exact trivial | assumption | (apply Bd.up; (solve | (repeat' first | assumption | exact Bd.zero | exact Bd.one | exact Bd.mone | apply Bd.mul | apply Bd.add | apply Bd.sub | apply Bd.neg | exact Bd.of (m := 64) (by decide))); decide))) | decide)); conv => whnf)))))
        (first | (refine br_sameo ?_ ?_; (first | exact rfl | exact congrArg shD (by (first | exact rfl | exact am_eq (by grind) (by grind) (by grind) (by grind) | exact pr_eq (by grind) (by grind)))); (((conv => whnf); (repeat' ((apply And.intro; (solve | (first | exact trivial | exact rfl | exact ownB_i rfl | (apply mulOk_bd; (solve | (repeat' first | assumption | exact Bd.zero | exact Bd.one | exact Bd.mone | apply Bd.mul | apply Bd.add | apply Bd.sub | apply Bd.neg | exact Bd.of (m := 64) (by decide))); (solve | (repeat' first | assumption | exact Bd.zero | exact Bd.one | exact Bd.mone | apply Bd.mul | apply Bd.add | apply Bd.sub | apply Bd.neg | exact Bd.of (m := 64) (by decide))); decide) | (refine okS_of ?_ rfl rfl; ((repeat' apply And.intro) <;> first | exact trivial | rfl | (show Bd _ _; apply Bd.up; (solve | (repeat' first | assumption | exact Bd.zero | exact Bd.one | exact Bd.mone | apply Bd.mul | apply Bd.add | apply Bd.sub | apply Bd.neg | exact Bd.of (m := 64) (by decide))); decide))) | (((repeat' apply And.intro) <;> first | exact trivial | assumption | (apply Bd.up; (solve | (repeat' first | assumption | exact Bd.zero | exact Bd.one | exact Bd.mone | apply Bd.mul | apply Bd.add | apply Bd.sub | apply Bd.neg | exact Bd.of (m := 64) (by decide))); decide))) | decide)); conv => whnf)))))) | (refine br_same ?_ ?_; (first | exact rfl | exact congrArg shD (by (first | exact rfl | exact am_eq (by grind) (by grind) (by grind) (by grind) | exact pr_eq (by grind) (by grind)))); (((conv => whnf); (repeat' ((apply And.intro; (solve | (first | exact trivial | exact rfl | exact ownB_i rfl | (apply mulOk_bd; (solve | (repeat' first | assumption | exact Bd.zero | exact Bd.one | exact Bd.mone | apply Bd.mul | apply Bd.add | apply Bd.sub | apply Bd.neg | exact Bd.of (m := 64) (by decide))); (solve | (repeat' first | assumption | exact Bd.zero | exact Bd.one | exact Bd.mone | apply Bd.mul | apply Bd.add | apply Bd.sub | apply Bd.neg | exact Bd.of (m := 64) (by decide))); decide) | (refine okS_of ?_ rfl rfl; ((repeat' apply And.intro) <;> first | exact trivial | rfl | (show Bd _ _; apply Bd.up; (solve | (repeat' first | assumption | exact Bd.zero | exact Bd.one | exact Bd.mone | apply Bd.mul | apply Bd.add | apply Bd.sub | apply Bd.neg | exact Bd.of (m := 64) (by decide))); decide))) | (((repeat' apply And.intro) <;> first | exact trivial | assumption | (apply Bd.up; (solve | (repeat' first | assumption | exact Bd.zero | exact Bd.one | exact Bd.mone | apply Bd.mul | apply Bd.add | apply Bd.sub | apply Bd.neg | exact Bd.of (m := 64) (by decide))); decide))) | decide)); conv => whnf)))))) | (refine br_eqo ?_ ?_; (first | exact rfl | exact am_eq (by grind) (by grind) (by grind) (by grind) | exact pr_eq (by grind) (by grind)); (((conv => whnf); (repeat' ((apply And.intro; (solve | (first | exact trivial | exact rfl | exact ownB_i rfl | (apply mulOk_bd; (solve | (repeat' first | assumption | exact Bd.zero | exact Bd.one | exact Bd.mone | apply Bd.mul | apply Bd.add | apply Bd.sub | apply Bd.neg | exact Bd.of (m := 64) (by decide))); (solve | (repeat' first | assumption | exact Bd.zero | exact Bd.one | exact Bd.mone | apply Bd.mul | apply Bd.add | apply Bd.sub | apply Bd.neg | exact Bd.of (m := 64) (by decide))); decide) | (refine okS_of ?_ rfl rfl; ((repeat' apply And.intro) <;> first | exact trivial | rfl | (show Bd _ _; apply Bd.up; (solve | (repeat' first | assumption | exact Bd.zero | exact Bd.one | exact Bd.mone | apply Bd.mul | apply Bd.add | apply Bd.sub | apply Bd.neg | exact Bd.of (m := 64) (by decide))); decide))) | (((repeat' apply And.intro) <;> first | exact trivial | assumption | (apply Bd.up; (solve | (repeat' first | assumption | exact Bd.zero | exact Bd.one | exact Bd.mone | apply Bd.mul | apply Bd.add | apply Bd.sub | apply Bd.neg | exact Bd.of (m := 64) (by decide))); decide))) | decide)); conv => whnf)))))) | (refine br_eq ?_ ?_; (first | exact rfl | exact am_eq (by grind) (by grind) (by grind) (by grind) | exact pr_eq (by grind) (by grind)); (((conv => whnf); (repeat' ((apply And.intro; (solve | (first | exact trivial | exact rfl | exact ownB_i rfl | (apply mulOk_bd; (solve | (repeat' first | assumption | exact Bd.zero | exact Bd.one | exact Bd.mone | apply Bd.mul | apply Bd.add | apply Bd.sub | apply Bd.neg | exact Bd.of (m := 64) (by decide))); (solve | (repeat' first | assumption | exact Bd.zero | exact Bd.one | exact Bd.mone | apply Bd.mul | apply Bd.add | apply Bd.sub | apply Bd.neg | exact Bd.of (m := 64) (by decide))); decide) | (refine okS_of ?_ rfl rfl; ((repeat' apply And.intro) <;> first | exact trivial | rfl | (show Bd _ _; apply Bd.up; (solve | (repeat' first | assumption | exact Bd.zero | exact Bd.one | exact Bd.mone | apply Bd.mul | apply Bd.add | apply Bd.sub | apply Bd.neg | exact Bd.of (m := 64) (by decide))); decide))) | (((repeat' apply And.intro) <;> first | exact trivial | assumption | (apply Bd.up; (solve | (repeat' first | assumption | exact Bd.zero | exact Bd.one | exact Bd.mone | apply Bd.mul | apply Bd.add | apply Bd.sub | apply Bd.neg | exact Bd.of (m := 64) (by decide))); decide))) | decide)); conv => whnf)))))))
        refine ⟨hv.k, ?_⟩
        (((conv => whnf); (repeat' ((apply And.intro; (solve | (first | exact trivial | exact rfl | exact ownB_i rfl | (apply mulOk_bd; (solve | (repeat' first | assumption | exact Bd.zero | exact Bd.one | exact Bd.mone | apply Bd.mul | apply Bd.add | apply Bd.sub | apply Bd.neg | exact Bd.of (m := 64) (by decide))); (solve | (repeat' first | assumption | exact Bd.zero | exact Bd.one | exact Bd.mone | apply Bd.mul | apply Bd.add | apply Bd.sub | apply Bd.neg | exact Bd.of (m := 64) (by decide))); decide) | (refine okS_of ?_ rfl rfl; ((repeat' apply And.intro) <;> first | exact trivial | rfl | (show Bd _ _; apply Bd.up; (solve | (repeat' first | assumption | exact Bd.zero | exact Bd.one | exact Bd.mone | apply Bd.mul | apply Bd.add | apply Bd.sub | apply Bd.neg | exact Bd.of (m := 64) (by decide))); decide))) | (((repeat' apply And.intro) <;> first | exact trivial | assumption | (apply Bd.up; (solve | (repeat' first | assumption | exact Bd.zero | exact Bd.one | exact Bd.mone | apply Bd.mul | apply Bd.add | apply Bd.sub | apply Bd.neg | exact Bd.of (m := 64) (by decide))); decide))) | decide)); conv => whnf)))))
        (first | (refine br_sameo ?_ ?_; (first | exact rfl | exact congrArg shD (by (first | exact rfl | exact am_eq (by grind) (by grind) (by grind) (by grind) | exact pr_eq (by grind) (by grind)))); (((conv => whnf); (repeat' ((apply And.intro; (solve | (first | exact trivial | exact rfl | exact ownB_i rfl | (apply mulOk_bd; (solve | (repeat' first | assumption | exact Bd.zero | exact Bd.one | exact Bd.mone | apply Bd.mul | apply Bd.add | apply Bd.sub | apply Bd.neg | exact Bd.of (m := 64) (by decide))); (solve | (repeat' first | assumption | exact Bd.zero | exact Bd.one | exact Bd.mone | apply Bd.mul | apply Bd.add | apply Bd.sub | apply Bd.neg | exact Bd.of (m := 64) (by decide))); decide) | (refine okS_of ?_ rfl rfl; ((repeat' apply And.intro) <;> first | exact trivial | rfl | (show Bd _ _; apply Bd.up; (solve | (repeat' first | assumption | exact Bd.zero | exact Bd.one | exact Bd.mone | apply Bd.mul | apply Bd.add | apply Bd.sub | apply Bd.neg | exact Bd.of (m := 64) (by decide))); decide))) | (((repeat' apply And.intro) <;> first | exact trivial | assumption | (apply Bd.up; (solve | (repeat' first | assumption | exact Bd.zero | exact Bd.one | exact Bd.mone | apply Bd.mul | apply Bd.add | apply Bd.sub | apply Bd.neg | exact Bd.of (m := 64) (by decide))); decide))) | decide)); conv => whnf)))))) | (refine br_same ?_ ?_; (first | exact rfl | exact congrArg shD (by (first | exact rfl | exact am_eq (by grind) (by grind) (by grind) (by grind) | exact pr_eq (by grind) (by grind)))); (((conv => whnf); (repeat' ((apply And.intro; (solve | (first | exact trivial | exact rfl | exact ownB_i rfl | (apply mulOk_bd; (solve | (repeat' first | assumption | exact Bd.zero | exact Bd.one | exact Bd.mone | apply Bd.mul | apply Bd.add | apply Bd.sub | apply Bd.neg | exact Bd.of (m := 64) (by decide))); (solve | (repeat' first | assumption | exact Bd.zero | exact Bd.one | exact Bd.mone | apply Bd.mul | apply Bd.add | apply Bd.sub | apply Bd.neg | exact Bd.of (m := 64) (by decide))); decide) | (refine okS_of ?_ rfl rfl; ((repeat' apply And.intro) <;> first | exact trivial | rfl | (show Bd _ _; apply Bd.up; (solve | (repeat' first | assumption | exact Bd.zero | exact Bd.one | exact Bd.mone | apply Bd.mul | apply Bd.add | apply Bd.sub | apply Bd.neg | exact Bd.of (m := 64) (by decide))); decide))) | (((repeat' apply And.intro) <;> first | exact trivial | assumption | (apply Bd.up; (solve | (repeat' first | assumption | exact Bd.zero | exact Bd.one | exact Bd.mone | apply Bd.mul | apply Bd.add | apply Bd.sub | apply Bd.neg | exact Bd.of (m := 64) (by decide))); decide))) | decide)); conv => whnf)))))) | (refine br_eqo ?_ ?_; (first | exact rfl | exact am_eq (by grind) (by grind) (by grind) (by grind) | exact pr_eq (by grind) (by grind)); (((conv => whnf); (repeat' ((apply And.intro; (solve | (first | exact trivial | exact rfl | exact ownB_i rfl | (apply mulOk_bd; (solve | (repeat' first | assumption | exact Bd.zero | exact Bd.one | exact Bd.mone | apply Bd.mul | apply Bd.add | apply Bd.sub | apply Bd.neg | exact Bd.of (m := 64) (by decide))); (solve | (repeat' first | assumption | exact Bd.zero | exact Bd.one | exact Bd.mone | apply Bd.mul | apply Bd.add | apply Bd.sub | apply Bd.neg | exact Bd.of (m := 64) (by decide))); decide) | (refine okS_of ?_ rfl rfl; ((repeat' apply And.intro) <;> first | exact trivial | rfl | (show Bd _ _; apply Bd.up; (solve | (repeat' first | assumption | exact Bd.zero | exact Bd.one | exact Bd.mone | apply Bd.mul | apply Bd.add | apply Bd.sub | apply Bd.neg | exact Bd.of (m := 64) (by decide))); decide))) | (((repeat' apply And.intro) <;> first | exact trivial | assumption | (apply Bd.up; (solve | (repeat' first | assumption | exact Bd.zero | exact Bd.one | exact Bd.mone | apply Bd.mul | apply Bd.add | apply Bd.sub | apply Bd.neg | exact Bd.of (m := 64) (by decide))); decide))) | decide)); conv => whnf)))))) | (refine br_eq ?_ ?_; (first | exact rfl | exact am_eq (by grind) (by grind) (by grind) (by grind) | exact pr_eq (by grind) (by grind)); (((conv => whnf); (repeat' ((apply And.intro; (solve | (first | exact trivial | exact rfl | exact ownB_i rfl | (apply mulOk_bd; (solve | (repeat' first | assumption | exact Bd.zero | exact Bd.one | exact Bd.mone | apply Bd.mul | apply Bd.add | apply Bd.sub | apply Bd.neg | exact Bd.of (m := 64) (by decide))); (solve | (repeat' first | assumption | exact Bd.zero | exact Bd.one | exact Bd.mone | apply Bd.mul | apply Bd.add | apply Bd.sub | apply Bd.neg | exact Bd.of (m := 64) (by decide))); decide) | (refine okS_of ?_ rfl rfl; ((repeat' apply And.intro) <;> first | exact trivial | rfl | (show Bd _ _; apply Bd.up; (solve | (repeat' first | assumption | exact Bd.zero | exact Bd.one | exact Bd.mone | apply Bd.mul | apply Bd.add | apply Bd.sub | apply Bd.neg | exact Bd.of (m := 64) (by decide))); decide))) | (((repeat' apply And.intro) <;> first | exact trivial | assumption | (apply Bd.up; (solve | (repeat' first | assumption | exact Bd.zero | exact Bd.one | exact Bd.mone | apply Bd.mul | apply Bd.add | apply Bd.sub | apply Bd.neg | exact Bd.of (m := 64) (by decide))); decide))) | decide)); conv => whnf)))))))
        exact k1 _ (.inr ⟨_, _, _, rfl⟩) ⟨rfl, trivial⟩)
    · rintro ρ hI
      rcases hI with rfl | ⟨x, y, z, rfl⟩ <;> (
        refine kn _ ?_
        (((conv => whnf); (repeat' ((apply And.intro; (solve | (first | exact trivial | exact rfl | exact ownB_i rfl | (apply mulOk_bd; (solve | (repeat' first | assumption | exact Bd.zero | exact Bd.one | exact Bd.mone | apply Bd.mul | apply Bd.add | apply Bd.sub | apply Bd.neg | exact Bd.of (m := 64) (by decide))); (solve | (repeat' first | assumption | exact Bd.zero | exact Bd.one | exact Bd.mone | apply Bd.mul | apply Bd.add | apply Bd.sub | apply Bd.neg | exact Bd.of (m := 64) (by decide))); decide) | (refine okS_of ?_ rfl rfl; ((repeat' apply And.intro) <;> first | exact trivial | rfl | (show Bd _ _; apply Bd.up; (solve | (repeat' first | assumption | exact Bd.zero | exact Bd.one | exact Bd.mone | apply Bd.mul | apply Bd.add | apply Bd.sub | apply Bd.neg | exact Bd.of (m := 64) (by decide))); decide))) | (((repeat' apply And.intro) <;> first | exact trivial | assumption | (apply Bd.up; (solve | (repeat' first | assumption | exact Bd.zero | exact Bd.one | exact Bd.mone | apply Bd.mul | apply Bd.add | apply Bd.sub | apply Bd.neg | exact Bd.of (m := 64) (by decide))); decide))) | decide)); conv => whnf)))))
        exact q _ hc8)
  · refine stepN fun K kn kr kb kc => ?_
    refine forr_w us (some 6) [.mu cr8, .va dA, .no, .va dS, .no, .va dL, .ow (.lst us), .no, .va z8, .no, .no, .no] [.mu cr8, .va dA, .no, .va dS, .no, .va dL, .mu (.lst us), .no, .va z8, .no, .no, .no] (fun X hX => by (conv => whnf); exact hX) rfl ?_
    refine forN_i (fun i ρ => ρ = [.mu cr8, .va dA, .no, .va dS, .no, .va dL, .mu (.lst us), .no, .va z8, .no, .no, .no] ∨ ∃ x y z, ρ = [.mu cr8, .va dA, .no, .va dS, .no, .va dL, .mu (.lst us), .no, .va z8, .va x, .va y, .ow z]) (.inl rfl) ?_ ?_
    · rintro i d ρ K2 hi hI k1 k2 k3 k4
      have hv := hus d (List.mem_of_getElem? hi)
      clear k2 k3 k4 kn kr kb kc
      rcases hI with rfl | ⟨x, y, z, rfl⟩ <;> (
        (((conv => whnf); (repeat' ((apply And.intro; (solve | (first | exact trivial | exact rfl | exact ownB_i rfl | (apply mulOk_bd; (solve | (repeat' first | assumption | exact Bd.zero | exact Bd.one | exact Bd.mone | apply Bd.mul | apply Bd.add | apply Bd.sub | apply Bd.neg | exact Bd.of (m := 64) (by decide))); (solve | (repeat' first | assumption | exact Bd.zero | exact Bd.one | exact Bd.mone | apply Bd.mul | apply Bd.add | apply Bd.sub | apply Bd.neg | exact Bd.of (m := 64) (by decide))); decide) | (refine okS_of ?_ rfl rfl; ((repeat' apply And.intro) <;> first | exact trivial | rfl | (show Bd _ _; apply Bd.up; (solve | (repeat' first | assumption | exact Bd.zero | exact Bd.one | exact Bd.mone | apply Bd.mul | apply Bd.add | apply Bd.sub | apply Bd.neg | exact Bd.of (m := 64) (by decide))); decide))) | (((repeat' apply And.intro) <;> first | exact trivial | assumption | (apply Bd.up; (solve | (repeat' first | assumption | exact Bd.zero | exact Bd.one | exact Bd.mone | apply Bd.mul | apply Bd.add | apply Bd.sub | apply Bd.neg | exact Bd.of (m := 64) (by decide))); decide))) | decide)); conv => whnf)))))
        refine ⟨hv.k, ?_⟩
        (((conv => whnf); (repeat' ((apply And.intro; (solve | (first | exact trivial | exact rfl | exact ownB_i rfl | (apply mulOk_bd; (solve | (repeat' first | assumption | exact Bd.zero | exact Bd.one | exact Bd.mone | apply Bd.mul | apply Bd.add | apply Bd.sub | apply Bd.neg | exact Bd.of (m := 64) (by decide))); (solve | (repeat' first | assumption | exact Bd.zero | exact Bd.one | exact Bd.mone | apply Bd.mul | apply Bd.add | apply Bd.sub | apply Bd.neg | exact Bd.of (m := 64) (by decide))); decide) | (refine okS_of ?_ rfl rfl; ((repeat' apply And.intro) <;> first | exact trivial | rfl | (show Bd _ _; apply Bd.up; (solve | (repeat' first | assumption | exact Bd.zero | exact Bd.one | exact Bd.mone | apply Bd.mul | apply Bd.add | apply Bd.sub | apply Bd.neg | exact Bd.of (m := 64) (by decide))); decide))) | (((repeat' apply And.intro) <;> first | exact trivial | assumption | (apply Bd.up; (solve | (repeat' first | assumption | exact Bd.zero | exact Bd.one | exact Bd.mone | apply Bd.mul | apply Bd.add | apply Bd.sub | apply Bd.neg | exact Bd.of (m := 64) (by decide))); decide))) | decide)); conv => whnf)))))
        refine ⟨d, rfl, hv.s.le, ?_⟩
        (((conv => whnf); (repeat' ((apply And.intro; (solve | (first | exact trivial | exact rfl | exact ownB_i rfl | (apply mulOk_bd; (solve | (repeat' first | assumption | exact Bd.zero | exact Bd.one | exact Bd.mone | apply Bd.mul | apply Bd.add | apply Bd.sub | apply Bd.neg | exact Bd.of (m := 64) (by decide))); (solve | (repeat' first | assumption | exact Bd.zero | exact Bd.one | exact Bd.mone | apply Bd.mul | apply Bd.add | apply Bd.sub | apply Bd.neg | exact Bd.of (m := 64) (by decide))); decide) | (refine okS_of ?_ rfl rfl; ((repeat' apply And.intro) <;> first | exact trivial | rfl | (show Bd _ _; apply Bd.up; (solve | (repeat' first | assumption | exact Bd.zero | exact Bd.one | exact Bd.mone | apply Bd.mul | apply Bd.add | apply Bd.sub | apply Bd.neg | exact Bd.of (m := 64) (by decide))); decide))) | (((repeat' apply And.intro) <;> first | exact trivial | assumption | (apply Bd.up; (solve | (repeat' first | assumption | exact Bd.zero | exact Bd.one | exact Bd.mone | apply Bd.mul | apply Bd.add | apply Bd.sub | apply Bd.neg | exact Bd.of (m := 64) (by decide))); decide))) | decide)); conv => whnf)))))
        refine ⟨d, rfl, hv.s, ?_⟩
        (((conv => whnf); (repeat' ((apply And.intro; (solve | (first | exact trivial | exact rfl | exact ownB_i rfl | (apply mulOk_bd; (solve | (repeat' first | assumption | exact Bd.zero | exact Bd.one | exact Bd.mone | apply Bd.mul | apply Bd.add | apply Bd.sub | apply Bd.neg | exact Bd.of (m := 64) (by decide))); (solve | (repeat' first | assumption | exact Bd.zero | exact Bd.one | exact Bd.mone | apply Bd.mul | apply Bd.add | apply Bd.sub | apply Bd.neg | exact Bd.of (m := 64) (by decide))); decide) | (refine okS_of ?_ rfl rfl; ((repeat' apply And.intro) <;> first | exact trivial | rfl | (show Bd _ _; apply Bd.up; (solve | (repeat' first | assumption | exact Bd.zero | exact Bd.one | exact Bd.mone | apply Bd.mul | apply Bd.add | apply Bd.sub | apply Bd.neg | exact Bd.of (m := 64) (by decide))); decide))) | (((repeat' apply And.intro) <;> first | exact trivial | assumption | (apply Bd.up; (solve | (repeat' first | assumption | exact Bd.zero | exact Bd.one | exact Bd.mone | apply Bd.mul | apply Bd.add | apply Bd.sub | apply Bd.neg | exact Bd.of (m := 64) (by decide))); decide))) | decide)); conv => whnf)))))
        refine ⟨d, rfl, ⟨hv.s.le, hv.l⟩, ?_⟩
        (((conv => whnf); (repeat' ((apply And.intro; (solve | (first | exact trivial | exact rfl | exact ownB_i rfl | (apply mulOk_bd; (solve | (repeat' first | assumption | exact Bd.zero | exact Bd.one | exact Bd.mone | apply Bd.mul | apply Bd.add | apply Bd.sub | apply Bd.neg | exact Bd.of (m := 64) (by decide))); (solve | (repeat' first | assumption | exact Bd.zero | exact Bd.one | exact Bd.mone | apply Bd.mul | apply Bd.add | apply Bd.sub | apply Bd.neg | exact Bd.of (m := 64) (by decide))); decide) | (refine okS_of ?_ rfl rfl; ((repeat' apply And.intro) <;> first | exact trivial | rfl | (show Bd _ _; apply Bd.up; (solve | (repeat' first | assumption | exact Bd.zero | exact Bd.one | exact Bd.mone | apply Bd.mul | apply Bd.add | apply Bd.sub | apply Bd.neg | exact Bd.of (m := 64) (by decide))); decide))) | (((repeat' apply And.intro) <;> first | exact trivial | assumption | (apply Bd.up; (solve | (repeat' first | assumption | exact Bd.zero | exact Bd.one | exact Bd.mone | apply Bd.mul | apply Bd.add | apply Bd.sub | apply Bd.neg | exact Bd.of (m := 64) (by decide))); decide))) | decide)); conv => whnf)))))
        refine ⟨d, rfl, ⟨hv.s, hv.l⟩, ?_⟩
        (((conv => whnf); (repeat' ((apply And.intro; (solve | (first | exact trivial | exact rfl | exact ownB_i rfl | (apply mulOk_bd; (solve | (repeat' first | assumption | exact Bd.zero | exact Bd.one | exact Bd.mone | apply Bd.mul | apply Bd.add | apply Bd.sub | apply Bd.neg | exact Bd.of (m := 64) (by decide))); (solve | (repeat' first | assumption | exact Bd.zero | exact Bd.one | exact Bd.mone | apply Bd.mul | apply Bd.add | apply Bd.sub | apply Bd.neg | exact Bd.of (m := 64) (by decide))); decide) | (refine okS_of ?_ rfl rfl; ((repeat' apply And.intro) <;> first | exact trivial | rfl | (show Bd _ _; apply Bd.up; (solve | (repeat' first | assumption | exact Bd.zero | exact Bd.one | exact Bd.mone | apply Bd.mul | apply Bd.add | apply Bd.sub | apply Bd.neg | exact Bd.of (m := 64) (by decide))); decide))) | (((repeat' apply And.intro) <;> first | exact trivial | assumption | (apply Bd.up; (solve | (repeat' first | assumption | exact Bd.zero | exact Bd.one | exact Bd.mone | apply Bd.mul | apply Bd.add | apply Bd.sub | apply Bd.neg | exact Bd.of (m := 64) (by decide))); decide))) | decide)); conv => whnf)))))
        (first | (refine br_sameo ?_ ?_; (first | exact rfl | exact congrArg shD (by (first | exact rfl | exact am_eq (by grind) (by grind) (by grind) (by grind) | exact pr_eq (by grind) (by grind)))); (((conv => whnf); (repeat' ((apply And.intro; (solve | (first | exact trivial | exact rfl | exact ownB_i rfl | (apply mulOk_bd; (solve | (repeat' first | assumption | exact Bd.zero | exact Bd.one | exact Bd.mone | apply Bd.mul | apply Bd.add | apply Bd.sub | apply Bd.neg | exact Bd.of (m := 64) (by decide))); (solve | (repeat' first | assumption | exact Bd.zero | exact Bd.one | exact Bd.mone | apply Bd.mul | apply Bd.add | apply Bd.sub | apply Bd.neg | exact Bd.of (m := 64) (by decide))); decide) | (refine okS_of ?_ rfl rfl; ((repeat' apply And.intro) <;> first | exact trivial | rfl | (show Bd _ _; apply Bd.up; (solve | (repeat' first | assumption | exact Bd.zero | exact Bd.one | exact Bd.mone | apply Bd.mul | apply Bd.add | apply Bd.sub | apply Bd.neg | exact Bd.of (m := 64) (by decide))); decide))) | (((repeat' apply And.intro) <;> first | exact trivial | assumption | (apply Bd.up; (solve | (repeat' first | assumption | exact Bd.zero | exact Bd.one | exact Bd.mone | apply Bd.mul | apply Bd.add | apply Bd.sub | apply Bd.neg | exact Bd.of (m := 64) (by decide))); decide))) | decide)); conv => whnf)))))) | (refine br_same ?_ ?_; (first | exact rfl | exact congrArg shD (by (first | exact rfl | exact am_eq (by grind) (by grind) (by grind) (by grind) | exact pr_eq (by grind) (by grind)))); (((conv => whnf); (repeat' ((apply And.intro; (solve | (first | exact trivial | exact rfl | exact ownB_i rfl | (apply mulOk_bd; (solve | (repeat' first | assumption | exact Bd.zero | exact Bd.one | exact Bd.mone | apply Bd.mul | apply Bd.add | apply Bd.sub | apply Bd.neg | exact Bd.of (m := 64) (by decide))); (solve | (repeat' first | assumption | exact Bd.zero | exact Bd.one | exact Bd.mone | apply Bd.mul | apply Bd.add | apply Bd.sub | apply Bd.neg | exact Bd.of (m := 64) (by decide))); decide) | (refine okS_of ?_ rfl rfl; ((repeat' apply And.intro) <;> first | exact trivial | rfl | (show Bd _ _; apply Bd.up; (solve | (repeat' first | assumption | exact Bd.zero | exact Bd.one | exact Bd.mone | apply Bd.mul | apply Bd.add | apply Bd.sub | apply Bd.neg | exact Bd.of (m := 64) (by decide))); decide))) | (((repeat' apply And.intro) <;> first | exact trivial | assumption | (apply Bd.up; (solve | (repeat' first | assumption | exact Bd.zero | exact Bd.one | exact Bd.mone | apply Bd.mul | apply Bd.add | apply Bd.sub | apply Bd.neg | exact Bd.of (m := 64) (by decide))); decide))) | decide)); conv => whnf)))))) | (refine br_eqo ?_ ?_; (first | exact rfl | exact am_eq (by grind) (by grind) (by grind) (by grind) | exact pr_eq (by grind) (by grind)); (((conv => whnf); (repeat' ((apply And.intro; (solve | (first | exact trivial | exact rfl | exact ownB_i rfl | (apply mulOk_bd; (solve | (repeat' first | assumption | exact Bd.zero | exact Bd.one | exact Bd.mone | apply Bd.mul | apply Bd.add | apply Bd.sub | apply Bd.neg | exact Bd.of (m := 64) (by decide))); (solve | (repeat' first | assumption | exact Bd.zero | exact Bd.one | exact Bd.mone | apply Bd.mul | apply Bd.add | apply Bd.sub | apply Bd.neg | exact Bd.of (m := 64) (by decide))); decide) | (refine okS_of ?_ rfl rfl; ((repeat' apply And.intro) <;> first | exact trivial | rfl | (show Bd _ _; apply Bd.up; (solve | (repeat' first | assumption | exact Bd.zero | exact Bd.one | exact Bd.mone | apply Bd.mul | apply Bd.add | apply Bd.sub | apply Bd.neg | exact Bd.of (m := 64) (by decide))); decide))) | (((repeat' apply And.intro) <;> first | exact trivial | assumption | (apply Bd.up; (solve | (repeat' first | assumption | exact Bd.zero | exact Bd.one | exact Bd.mone | apply Bd.mul | apply Bd.add | apply Bd.sub | apply Bd.neg | exact Bd.of (m := 64) (by decide))); decide))) | decide)); conv => whnf)))))) | (refine br_eq ?_ ?_; (first | exact rfl | exact am_eq (by grind) (by grind) (by grind) (by grind) | exact pr_eq (by grind) (by grind)); (((conv => whnf); (repeat' ((apply And.intro; (solve | (first | exact trivial | exact rfl | exact ownB_i rfl | (apply mulOk_bd; (solve | (repeat' first | assumption | exact Bd.zero | exact Bd.one | exact Bd.mone | apply Bd.mul | apply Bd.add | apply Bd.sub | apply Bd.neg | exact Bd.of (m := 64) (by decide))); (solve | (repeat' first | assumption | exact Bd.zero | exact Bd.one | exact Bd.mone | apply Bd.mul | apply Bd.add | apply Bd.sub | apply Bd.neg | exact Bd.of (m := 64) (by decide))); decide) | (refine okS_of ?_ rfl rfl; ((repeat' apply And.intro) <;> first | exact trivial | rfl | (show Bd _ _; apply Bd.up; (solve | (repeat' first | assumption | exact Bd.zero | exact Bd.one | exact Bd.mone | apply Bd.mul | apply Bd.add | apply Bd.sub | apply Bd.neg | exact Bd.of (m := 64) (by decide))); decide))) | (((repeat' apply And.intro) <;> first | exact trivial | assumption | (apply Bd.up; (solve | (repeat' first | assumption | exact Bd.zero | exact Bd.one | exact Bd.mone | apply Bd.mul | apply Bd.add | apply Bd.sub | apply Bd.neg | exact Bd.of (m := 64) (by decide))); decide))) | decide)); conv => whnf)))))))
        refine ⟨hv.k, ?_⟩
        (((conv => whnf); (repeat' ((apply And.intro; (solve | (first | exact trivial | exact rfl | exact ownB_i rfl | (apply mulOk_bd; (solve | (repeat' first | assumption | exact Bd.zero | exact Bd.one | exact Bd.mone | apply Bd.mul | apply Bd.add | apply Bd.sub | apply Bd.neg | exact Bd.of (m := 64) (by decide))); (solve | (repeat' first | assumption | exact Bd.zero | exact Bd.one | exact Bd.mone | apply Bd.mul | apply Bd.add | apply Bd.sub | apply Bd.neg | exact Bd.of (m := 64) (by decide))); decide) | (refine okS_of ?_ rfl rfl; ((repeat' apply And.intro) <;> first | exact trivial | rfl | (show Bd _ _; apply Bd.up; (solve | (repeat' first | assumption | exact Bd.zero | exact Bd.one | exact Bd.mone | apply Bd.mul | apply Bd.add | apply Bd.sub | apply Bd.neg | exact Bd.of (m := 64) (by decide))); decide))) | (((repeat' apply And.intro) <;> first | exact trivial | assumption | (apply Bd.up; (solve | (repeat' first | assumption | exact Bd.zero | exact Bd.one | exact Bd.mone | apply Bd.mul | apply Bd.add | apply Bd.sub | apply Bd.neg | exact Bd.of (m := 64) (by decide))); decide))) | decide)); conv => whnf)))))
        (first | (refine br_sameo ?_ ?_; (first | exact rfl | exact congrArg shD (by (first | exact rfl | exact am_eq (by grind) (by grind) (by grind) (by grind) | exact pr_eq (by grind) (by grind)))); (((conv => whnf); (repeat' ((apply And.intro; (solve | (first | exact trivial | exact rfl | exact ownB_i rfl | (apply mulOk_bd; (solve | (repeat' first | assumption | exact Bd.zero | exact Bd.one | exact Bd.mone | apply Bd.mul | apply Bd.add | apply Bd.sub | apply Bd.neg | exact Bd.of (m := 64) (by decide))); (solve | (repeat' first | assumption | exact Bd.zero | exact Bd.one | exact Bd.mone | apply Bd.mul | apply Bd.add | apply Bd.sub | apply Bd.neg | exact Bd.of (m := 64) (by decide))); decide) | (refine okS_of ?_ rfl rfl; ((repeat' apply And.intro) <;> first | exact trivial | rfl | (show Bd _ _; apply Bd.up; (solve | (repeat' first | assumption | exact Bd.zero | exact Bd.one | exact Bd.mone | apply Bd.mul | apply Bd.add | apply Bd.sub | apply Bd.neg | exact Bd.of (m := 64) (by decide))); decide))) | (((repeat' apply And.intro) <;> first | exact trivial | assumption | (apply Bd.up; (solve | (repeat' first | assumption | exact Bd.zero | exact Bd.one | exact Bd.mone | apply Bd.mul | apply Bd.add | apply Bd.sub | apply Bd.neg | exact Bd.of (m := 64) (by decide))); decide))) | decide)); conv => whnf)))))) | (refine br_same ?_ ?_; (first | exact rfl | exact congrArg shD (by (first | exact rfl | exact am_eq (by grind) (by grind) (by grind) (by grind) | exact pr_eq (by grind) (by grind)))); (((conv => whnf); (repeat' ((apply And.intro; (solve | (first | exact trivial | exact rfl | exact ownB_i rfl | (apply mulOk_bd; (solve | (repeat' first | assumption | exact Bd.zero | exact Bd.one | exact Bd.mone | apply Bd.mul | apply Bd.add | apply Bd.sub | apply Bd.neg | exact Bd.of (m := 64) (by decide))); (solve | (repeat' first | assumption | exact Bd.zero | exact Bd.one | exact Bd.mone | apply Bd.mul | apply Bd.add | apply Bd.sub | apply Bd.neg | exact Bd.of (m := 64) (by decide))); decide) | (refine okS_of ?_ rfl rfl; ((repeat' apply And.intro) <;> first | exact trivial | rfl | (show Bd _ _; apply Bd.up; (solve | (repeat' first | assumption | exact Bd.zero | exact Bd.one | exact Bd.mone | apply Bd.mul | apply Bd.add | apply Bd.sub | apply Bd.neg | exact Bd.of (m := 64) (by decide))); decide))) | (((repeat' apply And.intro) <;> first | exact trivial | assumption | (apply Bd.up; (solve | (repeat' first | assumption | exact Bd.zero | exact Bd.one | exact Bd.mone | apply Bd.mul | apply Bd.add | apply Bd.sub | apply Bd.neg | exact Bd.of (m := 64) (by decide))); decide))) | decide)); conv => whnf)))))) | (refine br_eqo ?_ ?_; (first | exact rfl | exact am_eq (by grind) (by grind) (by grind) (by grind) | exact pr_eq (by grind) (by grind)); (((conv => whnf); (repeat' ((apply And.intro; (solve | (first | exact trivial | exact rfl | exact ownB_i rfl | (apply mulOk_bd; (solve | (repeat' first | assumption | exact Bd.zero | exact Bd.one | exact Bd.mone | apply Bd.mul | apply Bd.add | apply Bd.sub | apply Bd.neg | exact Bd.of (m := 64) (by decide))); (solve | (repeat' first | assumption | exact Bd.zero | exact Bd.one | exact Bd.mone | apply Bd.mul | apply Bd.add | apply Bd.sub | apply Bd.neg | exact Bd.of (m := 64) (by decide))); decide) | (refine okS_of ?_ rfl rfl; ((repeat' apply And.intro) <;> first | exact trivial | rfl | (show Bd _ _; apply Bd.up; (solve | (repeat' first | assumption | exact Bd.zero | exact Bd.one | exact Bd.mone | apply Bd.mul | apply Bd.add | apply Bd.sub | apply Bd.neg | exact Bd.of (m := 64) (by decide))); decide))) | (((repeat' apply And.intro) <;> first | exact trivial | assumption | (apply Bd.up; (solve | (repeat' first | assumption | exact Bd.zero | exact Bd.one | exact Bd.mone | apply Bd.mul | apply Bd.add | apply Bd.sub | apply Bd.neg | exact Bd.of (m := 64) (by decide))); decide))) | decide)); conv => whnf)))))) | (refine br_eq ?_ ?_; (first | exact rfl | exact am_eq (by grind) (by grind) (by grind) (by grind) | exact pr_eq (by grind) (by grind)); (((conv => whnf); (repeat' ((apply And.intro; (solve | (first | exact trivial | exact rfl | exact ownB_i rfl | (apply mulOk_bd; (solve | (repeat' first | assumption | exact Bd.zero | exact Bd.one | exact Bd.mone | apply Bd.mul | apply Bd.add | apply Bd.sub | apply Bd.neg | exact Bd.of (m := 64) (by decide))); (solve | (repeat' first | assumption | exact Bd.zero | exact Bd.one | exact Bd.mone | apply Bd.mul | apply Bd.add | apply Bd.sub | apply Bd.neg | exact Bd.of (m := 64) (by decide))); decide) | (refine okS_of ?_ rfl rfl; ((repeat' apply And.intro) <;> first | exact trivial | rfl | (show Bd _ _; apply Bd.up; (solve | (repeat' first | assumption | exact Bd.zero | exact Bd.one | exact Bd.mone | apply Bd.mul | apply Bd.add | apply Bd.sub | apply Bd.neg | exact Bd.of (m := 64) (by decide))); decide))) | (((repeat' apply And.intro) <;> first | exact trivial | assumption | (apply Bd.up; (solve | (repeat' first | assumption | exact Bd.zero | exact Bd.one | exact Bd.mone | apply Bd.mul | apply Bd.add | apply Bd.sub | apply Bd.neg | exact Bd.of (m := 64) (by decide))); decide))) | decide)); conv => whnf)))))))
        exact k1 _ (.inr ⟨_, _, _, rfl⟩) ⟨rfl, trivial⟩)
    · rintro ρ hI
      rcases hI with rfl | ⟨x, y, z, rfl⟩ <;> (
        refine kn _ ?_
        (((conv => whnf); (repeat' ((apply And.intro; (solve | (first | exact trivial | exact rfl | exact ownB_i rfl | (apply mulOk_bd; (solve | (repeat' first | assumption | exact Bd.zero | exact Bd.one | exact Bd.mone | apply Bd.mul | apply Bd.add | apply Bd.sub | apply Bd.neg | exact Bd.of (m := 64) (by decide))); (solve | (repeat' first | assumption | exact Bd.zero | exact Bd.one | exact Bd.mone | apply Bd.mul | apply Bd.add | apply Bd.sub | apply Bd.neg | exact Bd.of (m := 64) (by decide))); decide) | (refine okS_of ?_ rfl rfl; ((repeat' apply And.intro) <;> first | exact trivial | rfl | (show Bd _ _; apply Bd.up; (solve | (repeat' first | assumption | exact Bd.zero | exact Bd.one | exact Bd.mone | apply Bd.mul | apply Bd.add | apply Bd.sub | apply Bd.neg | exact Bd.of (m := 64) (by decide))); decide))) | (((repeat' apply And.intro) <;> first | exact trivial | assumption | (apply Bd.up; (solve | (repeat' first | assumption | exact Bd.zero | exact Bd.one | exact Bd.mone | apply Bd.mul | apply Bd.add | apply Bd.sub | apply Bd.neg | exact Bd.of (m := 64) (by decide))); decide))) | decide)); conv => whnf)))))
        exact q _ hc8)
  · refine stepN fun K kn kr kb kc => ?_
    refine forr_w us (some 6) [.mu cr8, .va dA, .no, .va dS, .va z4, .va dL, .ow (.lst us), .no, .no, .no, .no, .no] [.mu cr8, .va dA, .no, .va dS, .va z4, .va dL, .mu (.lst us), .no, .no, .no, .no, .no] (fun X hX => by (conv => whnf); exact hX) rfl ?_
    refine forN_i (fun i ρ => ρ = [.mu cr8, .va dA, .no, .va dS, .va z4, .va dL, .mu (.lst us), .no, .no, .no, .no, .no] ∨ ∃ x y z, ρ = [.mu cr8, .va dA, .no, .va dS, .va z4, .va dL, .mu (.lst us), .no, .no, .va x, .va y, .ow z]) (.inl rfl) ?_ ?_
    · rintro i d ρ K2 hi hI k1 k2 k3 k4
      have hv := hus d (List.mem_of_getElem? hi)
      clear k2 k3 k4 kn kr kb kc
      rcases hI with rfl | ⟨x, y, z, rfl⟩ <;> (
        (((conv => whnf); (repeat' ((apply And.intro; (solve | (first | exact trivial | exact rfl | exact ownB_i rfl | (apply mulOk_bd; (solve | (repeat' first | assumption | exact Bd.zero | exact Bd.one | exact Bd.mone | apply Bd.mul | apply Bd.add | apply Bd.sub | apply Bd.neg | exact Bd.of (m := 64) (by decide))); (solve | (repeat' first | assumption | exact Bd.zero | exact Bd.one | exact Bd.mone | apply Bd.mul | apply Bd.add | apply Bd.sub | apply Bd.neg | exact Bd.of (m := 64) (by decide))); decide) | (refine okS_of ?_ rfl rfl; ((repeat' apply And.intro) <;> first | exact trivial | rfl | (show Bd _ _; apply Bd.up; (solve | (repeat' first | assumption | exact Bd.zero | exact Bd.one | exact Bd.mone | apply Bd.mul | apply Bd.add | apply Bd.sub | apply Bd.neg | exact Bd.of (m := 64) (by decide))); decide))) | (((repeat' apply And.intro) <;> first | exact trivial | assumption | (apply Bd.up; (solve | (repeat' first | assumption | exact Bd.zero | exact Bd.one | exact Bd.mone | apply Bd.mul | apply Bd.add | apply Bd.sub | apply Bd.neg | exact Bd.of (m := 64) (by decide))); decide))) | decide)); conv => whnf)))))
        refine ⟨hv.k, ?_⟩
        (((conv => whnf); (repeat' ((apply And.intro; (solve | (first | exact trivial | exact rfl | exact ownB_i rfl | (apply mulOk_bd; (solve | (repeat' first | assumption | exact Bd.zero | exact Bd.one | exact Bd.mone | apply Bd.mul | apply Bd.add | apply Bd.sub | apply Bd.neg | exact Bd.of (m := 64) (by decide))); (solve | (repeat' first | assumption | exact Bd.zero | exact Bd.one | exact Bd.mone | apply Bd.mul | apply Bd.add | apply Bd.sub | apply Bd.neg | exact Bd.of (m := 64) (by decide))); decide) | (refine okS_of ?_ rfl rfl; ((repeat' apply And.intro) <;> first | exact trivial | rfl | (show Bd _ _; apply Bd.up; (solve | (repeat' first | assumption | exact Bd.zero | exact Bd.one | exact Bd.mone | apply Bd.mul | apply Bd.add | apply Bd.sub | apply Bd.neg | exact Bd.of (m := 64) (by decide))); decide))) | (((repeat' apply And.intro) <;> first | exact trivial | assumption | (apply Bd.up; (solve | (repeat' first | assumption | exact Bd.zero | exact Bd.one | exact Bd.mone | apply Bd.mul | apply Bd.add | apply Bd.sub | apply Bd.neg | exact Bd.of (m := 64) (by decide))); decide))) | decide)); conv => whnf)))))
        refine ⟨d, rfl, hv.s.le, ?_⟩
        (((conv => whnf); (repeat' ((apply And.intro; (solve | (first | exact trivial | exact rfl | exact ownB_i rfl | (apply mulOk_bd; (solve | (repeat' first | assumption | exact Bd.zero | exact Bd.one | exact Bd.mone | apply Bd.mul | apply Bd.add | apply Bd.sub | apply Bd.neg | exact Bd.of (m := 64) (by decide))); (solve | (repeat' first | assumption | exact Bd.zero | exact Bd.one | exact Bd.mone | apply Bd.mul | apply Bd.add | apply Bd.sub | apply Bd.neg | exact Bd.of (m := 64) (by decide))); decide) | (refine okS_of ?_ rfl rfl; ((repeat' apply And.intro) <;> first | exact trivial | rfl | (show Bd _ _; apply Bd.up; (solve | (repeat' first | assumption | exact Bd.zero | exact Bd.one | exact Bd.mone | apply Bd.mul | apply Bd.add | apply Bd.sub | apply Bd.neg | exact Bd.of (m := 64) (by decide))); decide))) | (((repeat' apply And.intro) <;> first | exact trivial | assumption | (apply Bd.up; (solve | (repeat' first | assumption | exact Bd.zero | exact Bd.one | exact Bd.mone | apply Bd.mul | apply Bd.add | apply Bd.sub | apply Bd.neg | exact Bd.of (m := 64) (by decide))); decide))) | decide)); conv => whnf)))))
        refine ⟨d, rfl, hv.s, ?_⟩
        (((conv => whnf); (repeat' ((apply And.intro; (solve | (first | exact trivial | exact rfl | exact ownB_i rfl | (apply mulOk_bd; (solve | (repeat' first | assumption | exact Bd.zero | exact Bd.one | exact Bd.mone | apply Bd.mul | apply Bd.add | apply Bd.sub | apply Bd.neg | exact Bd.of (m := 64) (by decide))); (solve | (repeat' first | assumption | exact Bd.zero | exact Bd.one | exact Bd.mone | apply Bd.mul | apply Bd.add | apply Bd.sub | apply Bd.neg | exact Bd.of (m := 64) (by decide))); decide) | (refine okS_of ?_ rfl rfl; ((repeat' apply And.intro) <;> first | exact trivial | rfl | (show Bd _ _; apply Bd.up; (solve | (repeat' first | assumption | exact Bd.zero | exact Bd.one | exact Bd.mone | apply Bd.mul | apply Bd.add | apply Bd.sub | apply Bd.neg | exact Bd.of (m := 64) (by decide))); decide))) | (((repeat' apply And.intro) <;> first | exact trivial | assumption | (apply Bd.up; (solve | (repeat' first | assumption | exact Bd.zero | exact Bd.one | exact Bd.mone | apply Bd.mul | apply Bd.add | apply Bd.sub | apply Bd.neg | exact Bd.of (m := 64) (by decide))); decide))) | decide)); conv => whnf)))))
        refine ⟨d, rfl, ⟨hv.s.le, hv.l⟩, ?_⟩
        (((conv => whnf); (repeat' ((apply And.intro; (solve | (first | exact trivial | exact rfl | exact ownB_i rfl | (apply mulOk_bd; (solve | (repeat' first | assumption | exact Bd.zero | exact Bd.one | exact Bd.mone | apply Bd.mul | apply Bd.add | apply Bd.sub | apply Bd.neg | exact Bd.of (m := 64) (by decide))); (solve | (repeat' first | assumption | exact Bd.zero | exact Bd.one | exact Bd.mone | apply Bd.mul | apply Bd.add | apply Bd.sub | apply Bd.neg | exact Bd.of (m := 64) (by decide))); decide) | (refine okS_of ?_ rfl rfl; ((repeat' apply And.intro) <;> first | exact trivial | rfl | (show Bd _ _; apply Bd.up; (solve | (repeat' first | assumption | exact Bd.zero | exact Bd.one | exact Bd.mone | apply Bd.mul | apply Bd.add | apply Bd.sub | apply Bd.neg | exact Bd.of (m := 64) (by decide))); decide))) | (((repeat' apply And.intro) <;> first | exact trivial | assumption | (apply Bd.up; (solve | (repeat' first | assumption | exact Bd.zero | exact Bd.one | exact Bd.mone | apply Bd.mul | apply Bd.add | apply Bd.sub | apply Bd.neg | exact Bd.of (m := 64) (by decide))); decide))) | decide)); conv => whnf)))))
        refine ⟨d, rfl, ⟨hv.s, hv.l⟩, ?_⟩
        (((conv => whnf); (repeat' ((apply And.intro; (solve | (first | exact trivial | exact rfl | exact ownB_i rfl | (apply mulOk_bd; (solve | (repeat' first | assumption | exact Bd.zero | exact Bd.one | exact Bd.mone | apply Bd.mul | apply Bd.add | apply Bd.sub | apply Bd.neg | exact Bd.of (m := 64) (by decide))); (solve | (repeat' first | assumption | exact Bd.zero | exact Bd.one | exact Bd.mone | apply Bd.mul | apply Bd.add | apply Bd.sub | apply Bd.neg | exact Bd.of (m := 64) (by decide))); decide) | (refine okS_of ?_ rfl rfl; ((repeat' apply And.intro) <;> first | exact trivial | rfl | (show Bd _ _; apply Bd.up; (solve | (repeat' first | assumption | exact Bd.zero | exact Bd.one | exact Bd.mone | apply Bd.mul | apply Bd.add | apply Bd.sub | apply Bd.neg | exact Bd.of (m := 64) (by decide))); decide))) | (((repeat' apply And.intro) <;> first | exact trivial | assumption | (apply Bd.up; (solve | (repeat' first | assumption | exact Bd.zero | exact Bd.one | exact Bd.mone | apply Bd.mul | apply Bd.add | apply Bd.sub | apply Bd.neg | exact Bd.of (m := 64) (by decide))); decide))) | decide)); conv => whnf)))))
        (first | (refine br_sameo ?_ ?_; (first | exact rfl | exact congrArg shD (by (first | exact rfl | exact am_eq (by grind) (by grind) (by grind) (by grind) | exact pr_eq (by grind) (by grind)))); (((conv => whnf); (repeat' ((apply And.intro; (solve | (first | exact trivial | exact rfl | exact ownB_i rfl | (apply mulOk_bd; (solve | (repeat' first | assumption | exact Bd.zero | exact Bd.one | exact Bd.mone | apply Bd.mul | apply Bd.add | apply Bd.sub | apply Bd.neg | exact Bd.of (m := 64) (by decide))); (solve | (repeat' first | assumption | exact Bd.zero | exact Bd.one | exact Bd.mone | apply Bd.mul | apply Bd.add | apply Bd.sub | apply Bd.neg | exact Bd.of (m := 64) (by decide))); decide) | (refine okS_of ?_ rfl rfl; ((repeat' apply And.intro) <;> first | exact trivial | rfl | (show Bd _ _; apply Bd.up; (solve | (repeat' first | assumption | exact Bd.zero | exact Bd.one | exact Bd.mone | apply Bd.mul | apply Bd.add | apply Bd.sub | apply Bd.neg | exact Bd.of (m := 64) (by decide))); decide))) | (((repeat' apply And.intro) <;> first | exact trivial | assumption | (apply Bd.up; (solve | (repeat' first | assumption | exact Bd.zero | exact Bd.one | exact Bd.mone | apply Bd.mul | apply Bd.add | apply Bd.sub | apply Bd.neg | exact Bd.of (m := 64) (by decide))); decide))) | decide)); conv => whnf)))))) | (refine br_same ?_ ?_; (first | exact rfl | exact congrArg shD (by (first | exact rfl | exact am_eq (by grind) (by grind) (by grind) (by grind) | exact pr_eq (by grind) (by grind)))); (((conv => whnf); (repeat' ((apply And.intro; (solve | (first | exact trivial | exact rfl | exact ownB_i rfl | (apply mulOk_bd; (solve | (repeat' first | assumption | exact Bd.zero | exact Bd.one | exact Bd.mone | apply Bd.mul | apply Bd.add | apply Bd.sub | apply Bd.neg | exact Bd.of (m := 64) (by decide))); (solve | (repeat' first | assumption | exact Bd.zero | exact Bd.one | exact Bd.mone | apply Bd.mul | apply Bd.add | apply Bd.sub | apply Bd.neg | exact Bd.of (m := 64) (by decide))); decide) | (refine okS_of ?_ rfl rfl; ((repeat' apply And.intro) <;> first | exact trivial | rfl | (show Bd _ _; apply Bd.up; (solve | (repeat' first | assumption | exact Bd.zero | exact Bd.one | exact Bd.mone | apply Bd.mul | apply Bd.add | apply Bd.sub | apply Bd.neg | exact Bd.of (m := 64) (by decide))); decide))) | (((repeat' apply And.intro) <;> first | exact trivial | assumption | (apply Bd.up; (solve | (repeat' first | assumption | exact Bd.zero | exact Bd.one | exact Bd.mone | apply Bd.mul | apply Bd.add | apply Bd.sub | apply Bd.neg | exact Bd.of (m := 64) (by decide))); decide))) | decide)); conv => whnf)))))) | (refine br_eqo ?_ ?_; (first | exact rfl | exact am_eq (by grind) (by grind) (by grind) (by grind) | exact pr_eq (by grind) (by grind)); (((conv => whnf); (repeat' ((apply And.intro; (solve | (first | exact trivial | exact rfl | exact ownB_i rfl | (apply mulOk_bd; (solve | (repeat' first | assumption | exact Bd.zero | exact Bd.one | exact Bd.mone | apply Bd.mul | apply Bd.add | apply Bd.sub | apply Bd.neg | exact Bd.of (m := 64) (by decide))); (solve | (repeat' first | assumption | exact Bd.zero | exact Bd.one | exact Bd.mone | apply Bd.mul | apply Bd.add | apply Bd.sub | apply Bd.neg | exact Bd.of (m := 64) (by decide))); decide) | (refine okS_of ?_ rfl rfl; ((repeat' apply And.intro) <;> first | exact trivial | rfl | (show Bd _ _; apply Bd.up; (solve | (repeat' first | assumption | exact Bd.zero | exact Bd.one | exact Bd.mone | apply Bd.mul | apply Bd.add | apply Bd.sub | apply Bd.neg | exact Bd.of (m := 64) (by decide))); decide))) | (((repeat' apply And.intro) <;> first | exact trivial | assumption | (apply Bd.up; (solve | (repeat' first | assumption | exact Bd.zero | exact Bd.one | exact Bd.mone | apply Bd.mul | apply Bd.add | apply Bd.sub | apply Bd.neg | exact Bd.of (m := 64) (by decide))); decide))) | decide)); conv => whnf)))))) | (refine br_eq ?_ ?_; (first | exact rfl | exact am_eq (by grind) (by grind) (by grind) (by grind) | exact pr_eq (by grind) (by grind)); (((conv => whnf); (repeat' ((apply And.intro; (solve | (first | exact trivial | exact rfl | exact ownB_i rfl | (apply mulOk_bd; (solve | (repeat' first | assumption | exact Bd.zero | exact Bd.one | exact Bd.mone | apply Bd.mul | apply Bd.add | apply Bd.sub | apply Bd.neg | exact Bd.of (m := 64) (by decide))); (solve | (repeat' first | assumption | exact Bd.zero | exact Bd.one | exact Bd.mone | apply Bd.mul | apply Bd.add | apply Bd.sub | apply Bd.neg | exact Bd.of (m := 64) (by decide))); decide) | (refine okS_of ?_ rfl rfl; ((repeat' apply And.intro) <;> first | exact trivial | rfl | (show Bd _ _; apply Bd.up; (solve | (repeat' first | assumption | exact Bd.zero | exact Bd.one | exact Bd.mone | apply Bd.mul | apply Bd.add | apply Bd.sub | apply Bd.neg | exact Bd.of (m := 64) (by decide))); decide))) | (((repeat' apply And.intro) <;> first | exact trivial | assumption | (apply Bd.up; (solve | (repeat' first | assumption | exact Bd.zero | exact Bd.one | exact Bd.mone | apply Bd.mul | apply Bd.add | apply Bd.sub | apply Bd.neg | exact Bd.of (m := 64) (by decide))); decide))) | decide)); conv => whnf)))))))
        refine ⟨hv.k, ?_⟩
        (((conv => whnf); (repeat' ((apply And.intro; (solve | (first | exact trivial | exact rfl | exact ownB_i rfl | (apply mulOk_bd; (solve | (repeat' first | assumption | exact Bd.zero | exact Bd.one | exact Bd.mone | apply Bd.mul | apply Bd.add | apply Bd.sub | apply Bd.neg | exact Bd.of (m := 64) (by decide))); (solve | (repeat' first | assumption | exact Bd.zero | exact Bd.one | exact Bd.mone | apply Bd.mul | apply Bd.add | apply Bd.sub | apply Bd.neg | exact Bd.of (m := 64) (by decide))); decide) | (refine okS_of ?_ rfl rfl; ((repeat' apply And.intro) <;> first | exact trivial | rfl | (show Bd _ _; apply Bd.up; (solve | (repeat' first | assumption | exact Bd.zero | exact Bd.one | exact Bd.mone | apply Bd.mul | apply Bd.add | apply Bd.sub | apply Bd.neg | exact Bd.of (m := 64) (by decide))); decide))) | (((repeat' apply And.intro) <;> first | exact trivial | assumption | (apply Bd.up; (solve | (repeat' first | assumption | exact Bd.zero | exact Bd.one | exact Bd.mone | apply Bd.mul | apply Bd.add | apply Bd.sub | apply Bd.neg | exact Bd.of (m := 64) (by decide))); decide))) | decide)); conv => whnf)))))
        (first | (refine br_sameo ?_ ?_; (first | exact rfl | exact congrArg shD (by (first | exact rfl | exact am_eq (by grind) (by grind) (by grind) (by grind) | exact pr_eq (by grind) (by grind)))); (((conv => whnf); (repeat' ((apply And.intro; (solve | (first | exact trivial | exact rfl | exact ownB_i rfl | (apply mulOk_bd; (solve | (repeat' first | assumption | exact Bd.zero | exact Bd.one | exact Bd.mone | apply Bd.mul | apply Bd.add | apply Bd.sub | apply Bd.neg | exact Bd.of (m := 64) (by decide))); (solve | (repeat' first | assumption | exact Bd.zero | exact Bd.one | exact Bd.mone | apply Bd.mul | apply Bd.add | apply Bd.sub | apply Bd.neg | exact Bd.of (m := 64) (by decide))); decide) | (refine okS_of ?_ rfl rfl; ((repeat' apply And.intro) <;> first | exact trivial | rfl | (show Bd _ _; apply Bd.up; (solve | (repeat' first | assumption | exact Bd.zero | exact Bd.one | exact Bd.mone | apply Bd.mul | apply Bd.add | apply Bd.sub | apply Bd.neg | exact Bd.of (m := 64) (by decide))); decide))) | (((repeat' apply And.intro) <;> first | exact trivial | assumption | (apply Bd.up; (solve | (repeat' first | assumption | exact Bd.zero | exact Bd.one | exact Bd.mone | apply Bd.mul | apply Bd.add | apply Bd.sub | apply Bd.neg | exact Bd.of (m := 64) (by decide))); decide))) | decide)); conv => whnf)))))) | (refine br_same ?_ ?_; (first | exact rfl | exact congrArg shD (by (first | exact rfl | exact am_eq (by grind) (by grind) (by grind) (by grind) | exact pr_eq (by grind) (by grind)))); (((conv => whnf); (repeat' ((apply And.intro; (solve | (first | exact trivial | exact rfl | exact ownB_i rfl | (apply mulOk_bd; (solve | (repeat' first | assumption | exact Bd.zero | exact Bd.one | exact Bd.mone | apply Bd.mul | apply Bd.add | apply Bd.sub | apply Bd.neg | exact Bd.of (m := 64) (by decide))); (solve | (repeat' first | assumption | exact Bd.zero | exact Bd.one | exact Bd.mone | apply Bd.mul | apply Bd.add | apply Bd.sub | apply Bd.neg | exact Bd.of (m := 64) (by decide))); decide) | (refine okS_of ?_ rfl rfl; ((repeat' apply And.intro) <;> first | exact trivial | rfl | (show Bd _ _; apply Bd.up; (solve | (repeat' first | assumption | exact Bd.zero | exact Bd.one | exact Bd.mone | apply Bd.mul | apply Bd.add | apply Bd.sub | apply Bd.neg | exact Bd.of (m := 64) (by decide))); decide))) | (((repeat' apply And.intro) <;> first | exact trivial | assumption | (apply Bd.up; (solve | (repeat' first | assumption | exact Bd.zero | exact Bd.one | exact Bd.mone | apply Bd.mul | apply Bd.add | apply Bd.sub | apply Bd.neg | exact Bd.of (m := 64) (by decide))); decide))) | decide)); conv => whnf)))))) | (refine br_eqo ?_ ?_; (first | exact rfl | exact am_eq (by grind) (by grind) (by grind) (by grind) | exact pr_eq (by grind) (by grind)); (((conv => whnf); (repeat' ((apply And.intro; (solve | (first | exact trivial | exact rfl | exact ownB_i rfl | (apply mulOk_bd; (solve | (repeat' first | assumption | exact Bd.zero | exact Bd.one | exact Bd.mone | apply Bd.mul | apply Bd.add | apply Bd.sub | apply Bd.neg | exact Bd.of (m := 64) (by decide))); (solve | (repeat' first | assumption | exact Bd.zero | exact Bd.one | exact Bd.mone | apply Bd.mul | apply Bd.add | apply Bd.sub | apply Bd.neg | exact Bd.of (m := 64) (by decide))); decide) | (refine okS_of ?_ rfl rfl; ((repeat' apply And.intro) <;> first | exact trivial | rfl | (show Bd _ _; apply Bd.up; (solve | (repeat' first | assumption | exact Bd.zero | exact Bd.one | exact Bd.mone | apply Bd.mul | apply Bd.add | apply Bd.sub | apply Bd.neg | exact Bd.of (m := 64) (by decide))); decide))) | (((repeat' apply And.intro) <;> first | exact trivial | assumption | (apply Bd.up; (solve | (repeat' first | assumption | exact Bd.zero | exact Bd.one | exact Bd.mone | apply Bd.mul | apply Bd.add | apply Bd.sub | apply Bd.neg | exact Bd.of (m := 64) (by decide))); decide))) | decide)); conv => whnf)))))) | (refine br_eq ?_ ?_; (first | exact rfl | exact am_eq (by grind) (by grind) (by grind) (by grind) | exact pr_eq (by grind) (by grind)); (((conv => whnf); (repeat' ((apply And.intro; (solve | (first | exact trivial | exact rfl | exact ownB_i rfl | (apply mulOk_bd; (solve | (repeat' first | assumption | exact Bd.zero | exact Bd.one | exact Bd.mone | apply Bd.mul | apply Bd.add | apply Bd.sub | apply Bd.neg | exact Bd.of (m := 64) (by decide))); (solve | (repeat' first | assumption | exact Bd.zero | exact Bd.one | exact Bd.mone | apply Bd.mul | apply Bd.add | apply Bd.sub | apply Bd.neg | exact Bd.of (m := 64) (by decide))); decide) | (refine okS_of ?_ rfl rfl; ((repeat' apply And.intro) <;> first | exact trivial | rfl | (show Bd _ _; apply Bd.up; (solve | (repeat' first | assumption | exact Bd.zero | exact Bd.one | exact Bd.mone | apply Bd.mul | apply Bd.add | apply Bd.sub | apply Bd.neg | exact Bd.of (m := 64) (by decide))); decide))) | (((repeat' apply And.intro) <;> first | exact trivial | assumption | (apply Bd.up; (solve | (repeat' first | assumption | exact Bd.zero | exact Bd.one | exact Bd.mone | apply Bd.mul | apply Bd.add | apply Bd.sub | apply Bd.neg | exact Bd.of (m := 64) (by decide))); decide))) | decide)); conv => whnf)))))))
        exact k1 _ (.inr ⟨_, _, _, rfl⟩) ⟨rfl, trivial⟩)
    · rintro ρ hI
      rcases hI with rfl | ⟨x, y, z, rfl⟩ <;> (
        refine kn _ ?_
        (((conv => whnf); (repeat' ((apply And.intro; (solve | (first | exact trivial | exact rfl | exact ownB_i rfl | (apply mulOk_bd; (solve | (repeat' first | assumption | exact Bd.zero | exact Bd.one | exact Bd.mone | apply Bd.mul | apply Bd.add | apply Bd.sub | apply Bd.neg | exact Bd.of (m := 64) (by decide))); (solve | (repeat' first | assumption | exact Bd.zero | exact Bd.one | exact Bd.mone | apply Bd.mul | apply Bd.add | apply Bd.sub | apply Bd.neg | exact Bd.of (m := 64) (by decide))); decide) | (refine okS_of ?_ rfl rfl; ((repeat' apply And.intro) <;> first | exact trivial | rfl | (show Bd _ _; apply Bd.up; (solve | (repeat' first | assumption | exact Bd.zero | exact Bd.one | exact Bd.mone | apply Bd.mul | apply Bd.add | apply Bd.sub | apply Bd.neg | exact Bd.of (m := 64) (by decide))); decide))) | (((repeat' apply And.intro) <;> first | exact trivial | assumption | (apply Bd.up; (solve | (repeat' first | assumption | exact Bd.zero | exact Bd.one | exact Bd.mone | apply Bd.mul | apply Bd.add | apply Bd.sub | apply Bd.neg | exact Bd.of (m := 64) (by decide))); decide))) | decide)); conv => whnf)))))
        exact q _ hc8)
  · refine stepN fun K kn kr kb kc => ?_
    refine forr_w us (some 6) [.mu cr8, .va dA, .no, .va dS, .va z4, .va dL, .ow (.lst us), .no, .va z8, .no, .no, .no] [.mu cr8, .va dA, .no, .va dS, .va z4, .va dL, .mu (.lst us), .no, .va z8, .no, .no, .no] (fun X hX => by (conv => whnf); exact hX) rfl ?_
    refine forN_i (fun i ρ => ρ = [.mu cr8, .va dA, .no, .va dS, .va z4, .va dL, .mu (.lst us), .no, .va z8, .no, .no, .no] ∨ ∃ x y z, ρ = [.mu cr8, .va dA, .no, .va dS, .va z4, .va dL, .mu (.lst us), .no, .va z8, .va x, .va y, .ow z]) (.inl rfl) ?_ ?_
    · rintro i d ρ K2 hi hI k1 k2 k3 k4
      have hv := hus d (List.mem_of_getElem? hi)
      clear k2 k3 k4 kn kr kb kc
      rcases hI with rfl | ⟨x, y, z, rfl⟩ <;> (
        (((conv => whnf); (repeat' ((apply And.intro; (solve | (first | exact trivial | exact rfl | exact ownB_i rfl | (apply mulOk_bd; (solve | (repeat' first | assumption | exact Bd.zero | exact Bd.one | exact Bd.mone | apply Bd.mul | apply Bd.add | apply Bd.sub | apply Bd.neg | exact Bd.of (m := 64) (by decide))); (solve | (repeat' first | assumption | exact Bd.zero | exact Bd.one | exact Bd.mone | apply Bd.mul | apply Bd.add | apply Bd.sub | apply Bd.neg | exact Bd.of (m := 64) (by decide))); decide) | (refine okS_of ?_ rfl rfl; ((repeat' apply And.intro) <;> first | exact trivial | rfl | (show Bd _ _; apply Bd.up; (solve | (repeat' first | assumption | exact Bd.zero | exact Bd.one | exact Bd.mone | apply Bd.mul | apply Bd.add | apply Bd.sub | apply Bd.neg | exact Bd.of (m := 64) (by decide))); decide))) | (((repeat' apply And.intro) <;> first | exact trivial | assumption | (apply Bd.up; (solve | (repeat' first | assumption | exact Bd.zero | exact Bd.one | exact Bd.mone | apply Bd.mul | apply Bd.add | apply Bd.sub | apply Bd.neg | exact Bd.of (m := 64) (by decide))); decide))) | decide)); conv => whnf)))))
        refine ⟨hv.k, ?_⟩
        (((conv => whnf); (repeat' ((apply And.intro; (solve | (first | exact trivial | exact rfl | exact ownB_i rfl | (apply mulOk_bd; (solve | (repeat' first | assumption | exact Bd.zero | exact Bd.one | exact Bd.mone | apply Bd.mul | apply Bd.add | apply Bd.sub | apply Bd.neg | exact Bd.of (m := 64) (by decide))); (solve | (repeat' first | assumption | exact Bd.zero | exact Bd.one | exact Bd.mone | apply Bd.mul | apply Bd.add | apply Bd.sub | apply Bd.neg | exact Bd.of (m := 64) (by decide))); decide) | (refine okS_of ?_ rfl rfl; ((repeat' apply And.intro) <;> first | exact trivial | rfl | (show Bd _ _; apply Bd.up; (solve | (repeat' first | assumption | exact Bd.zero | exact Bd.one | exact Bd.mone | apply Bd.mul | apply Bd.add | apply Bd.sub | apply Bd.neg | exact Bd.of (m := 64) (by decide))); decide))) | (((repeat' apply And.intro) <;> first | exact trivial | assumption | (apply Bd.up; (solve | (repeat' first | assumption | exact Bd.zero | exact Bd.one | exact Bd.mone | apply Bd.mul | apply Bd.add | apply Bd.sub | apply Bd.neg | exact Bd.of (m := 64) (by decide))); decide))) | decide)); conv => whnf)))))
        refine ⟨d, rfl, hv.s.le, ?_⟩
        (((conv => whnf); (repeat' ((apply And.intro; (solve | (first | exact trivial | exact rfl | exact ownB_i rfl | (apply mulOk_bd; (solve | (repeat' first | assumption | exact Bd.zero | exact Bd.one | exact Bd.mone | apply Bd.mul | apply Bd.add | apply Bd.sub | apply Bd.neg | exact Bd.of (m := 64) (by decide))); (solve | (repeat' first | assumption | exact Bd.zero | exact Bd.one | exact Bd.mone | apply Bd.mul | apply Bd.add | apply Bd.sub | apply Bd.neg | exact Bd.of (m := 64) (by decide))); decide) | (refine okS_of ?_ rfl rfl; ((repeat' apply And.intro) <;> first | exact trivial | rfl | (show Bd _ _; apply Bd.up; (solve | (repeat' first | assumption | exact Bd.zero | exact Bd.one | exact Bd.mone | apply Bd.mul | apply Bd.add | apply Bd.sub | apply Bd.neg | exact Bd.of (m := 64) (by decide))); decide))) | (((repeat' apply And.intro) <;> first | exact trivial | assumption | (apply Bd.up; (solve | (repeat' first | assumption | exact Bd.zero | exact Bd.one | exact Bd.mone | apply Bd.mul | apply Bd.add | apply Bd.sub | apply Bd.neg | exact Bd.of (m := 64) (by decide))); decide))) | decide)); conv => whnf)))))
        refine ⟨d, rfl, hv.s, ?_⟩
        (((conv => whnf); (repeat' ((apply And.intro; (solve | (first | exact trivial | exact rfl | exact ownB_i rfl | (apply mulOk_bd; (solve | (repeat' first | assumption | exact Bd.zero | exact Bd.one | exact Bd.mone | apply Bd.mul | apply Bd.add | apply Bd.sub | apply Bd.neg | exact Bd.of (m := 64) (by decide))); (solve | (repeat' first | assumption | exact Bd.zero | exact Bd.one | exact Bd.mone | apply Bd.mul | apply Bd.add | apply Bd.sub | apply Bd.neg | exact Bd.of (m := 64) (by decide))); decide) | (refine okS_of ?_ rfl rfl; ((repeat' apply And.intro) <;> first | exact trivial | rfl | (show Bd _ _; apply Bd.up; (solve | (repeat' first | assumption | exact Bd.zero | exact Bd.one | exact Bd.mone | apply Bd.mul | apply Bd.add | apply Bd.sub | apply Bd.neg | exact Bd.of (m := 64) (by decide))); decide))) | (((repeat' apply And.intro) <;> first | exact trivial | assumption | (apply Bd.up; (solve | (repeat' first | assumption | exact Bd.zero | exact Bd.one | exact Bd.mone | apply Bd.mul | apply Bd.add | apply Bd.sub | apply Bd.neg | exact Bd.of (m := 64) (by decide))); decide))) | decide)); conv => whnf)))))
        refine ⟨d, rfl, ⟨hv.s.le, hv.l⟩, ?_⟩
        (((conv => whnf); (repeat' ((apply And.intro; (solve | (first | exact trivial | exact rfl | exact ownB_i rfl | (apply mulOk_bd; (solve | (repeat' first | assumption | exact Bd.zero | exact Bd.one | exact Bd.mone | apply Bd.mul | apply Bd.add | apply Bd.sub | apply Bd.neg | exact Bd.of (m := 64) (by decide))); (solve | (repeat' first | assumption | exact Bd.zero | exact Bd.one | exact Bd.mone | apply Bd.mul | apply Bd.add | apply Bd.sub | apply Bd.neg | exact Bd.of (m := 64) (by decide))); decide) | (refine okS_of ?_ rfl rfl; ((repeat' apply And.intro) <;> first | exact trivial | rfl | (show Bd _ _; apply Bd.up; (solve | (repeat' first | assumption | exact Bd.zero | exact Bd.one | exact Bd.mone | apply Bd.mul | apply Bd.add | apply Bd.sub | apply Bd.neg | exact Bd.of (m := 64) (by decide))); decide))) | (((repeat' apply And.intro) <;> first | exact trivial | assumption | (apply Bd.up; (solve | (repeat' first | assumption | exact Bd.zero | exact Bd.one | exact Bd.mone | apply Bd.mul | apply Bd.add | apply Bd.sub | apply Bd.neg | exact Bd.of (m := 64) (by decide))); decide))) | decide)); conv => whnf)))))
        refine ⟨d, rfl, ⟨hv.s, hv.l⟩, ?_⟩
        (((conv => whnf); (repeat' ((apply And.intro; (solve | (first | exact trivial | exact rfl | exact ownB_i rfl | (apply mulOk_bd; (solve | (repeat' first | assumption | exact Bd.zero | exact Bd.one | exact Bd.mone | apply Bd.mul | apply Bd.add | apply Bd.sub | apply Bd.neg | exact Bd.of (m := 64) (by decide))); (solve | (repeat' first | assumption | exact Bd.zero | exact Bd.one | exact Bd.mone | apply Bd.mul | apply Bd.add | apply Bd.sub | apply Bd.neg | exact Bd.of (m := 64) (by decide))); decide) | (refine okS_of ?_ rfl rfl; ((repeat' apply And.intro) <;> first | exact trivial | rfl | (show Bd _ _; apply Bd.up; (solve | (repeat' first | assumption | exact Bd.zero | exact Bd.one | exact Bd.mone | apply Bd.mul | apply Bd.add | apply Bd.sub | apply Bd.neg | exact Bd.of (m := 64) (by decide))); decide))) | (((repeat' apply And.intro) <;> first | exact trivial | assumption | (apply Bd.up; (solve | (repeat' first | assumption | exact Bd.zero | exact Bd.one | exact Bd.mone | apply Bd.mul | apply Bd.add | apply Bd.sub | apply Bd.neg | exact Bd.of (m := 64) (by decide))); decide))) | decide)); conv => whnf)))))
        (first | (refine br_sameo ?_ ?_; (first | exact rfl | exact congrArg shD (by (first | exact rfl | exact am_eq (by grind) (by grind) (by grind) (by grind) | exact pr_eq (by grind) (by grind)))); (((conv => whnf); (repeat' ((apply And.intro; (solve | (first | exact trivial | exact rfl | exact ownB_i rfl | (apply mulOk_bd; (solve | (repeat' first | assumption | exact Bd.zero | exact Bd.one | exact Bd.mone | apply Bd.mul | apply Bd.add | apply Bd.sub | apply Bd.neg | exact Bd.of (m := 64) (by decide))); (solve | (repeat' first | assumption | exact Bd.zero | exact Bd.one | exact Bd.mone | apply Bd.mul | apply Bd.add | apply Bd.sub | apply Bd.neg | exact Bd.of (m := 64) (by decide))); decide) | (refine okS_of ?_ rfl rfl; ((repeat' apply And.intro) <;> first | exact trivial | rfl | (show Bd _ _; apply Bd.up; (solve | (repeat' first | assumption | exact Bd.zero | exact Bd.one | exact Bd.mone | apply Bd.mul | apply Bd.add | apply Bd.sub | apply Bd.neg | exact Bd.of (m := 64) (by decide))); decide))) | (((repeat' apply And.intro) <;> first | exact trivial | assumption | (apply Bd.up; (solve | (repeat' first | assumption | exact Bd.zero | exact Bd.one | exact Bd.mone | apply Bd.mul | apply Bd.add | apply Bd.sub | apply Bd.neg | exact Bd.of (m := 64) (by decide))); decide))) | decide)); conv => whnf)))))) | (refine br_same ?_ ?_; (first | exact rfl | exact congrArg shD (by (first | exact rfl | exact am_eq (by grind) (by grind) (by grind) (by grind) | exact pr_eq (by grind) (by grind)))); (((conv => whnf); (repeat' ((apply And.intro; (solve | (first | exact trivial | exact rfl | exact ownB_i rfl | (apply mulOk_bd; (solve | (repeat' first | assumption | exact Bd.zero | exact Bd.one | exact Bd.mone | apply Bd.mul | apply Bd.add | apply Bd.sub | apply Bd.neg | exact Bd.of (m := 64) (by decide))); (solve | (repeat' first | assumption | exact Bd.zero | exact Bd.one | exact Bd.mone | apply Bd.mul | apply Bd.add | apply Bd.sub | apply Bd.neg | exact Bd.of (m := 64) (by decide))); decide) | (refine okS_of ?_ rfl rfl; ((repeat' apply And.intro) <;> first | exact trivial | rfl | (show Bd _ _; apply Bd.up; (solve | (repeat' first | assumption | exact Bd.zero | exact Bd.one | exact Bd.mone | apply Bd.mul | apply Bd.add | apply Bd.sub | apply Bd.neg | exact Bd.of (m := 64) (by decide))); decide))) | (((repeat' apply And.intro) <;> first | exact trivial | assumption | (apply Bd.up; (solve | (repeat' first | assumption | exact Bd.zero | exact Bd.one | exact Bd.mone | apply Bd.mul | apply Bd.add | apply Bd.sub | apply Bd.neg | exact Bd.of (m := 64) (by decide))); decide))) | decide)); conv => whnf)))))) | (refine br_eqo ?_ ?_; (first | exact rfl | exact am_eq (by grind) (by grind) (by grind) (by grind) | exact pr_eq (by grind) (by grind)); (((conv => whnf); (repeat' ((apply And.intro; (solve | (first | exact trivial | exact rfl | exact ownB_i rfl | (apply mulOk_bd; (solve | (repeat' first | assumption | exact Bd.zero | exact Bd.one | exact Bd.mone | apply Bd.mul | apply Bd.add | apply Bd.sub | apply Bd.neg | exact Bd.of (m := 64) (by decide))); (solve | (repeat' first | assumption | exact Bd.zero | exact Bd.one | exact Bd.mone | apply Bd.mul | apply Bd.add | apply Bd.sub | apply Bd.neg | exact Bd.of (m := 64) (by decide))); decide) | (refine okS_of ?_ rfl rfl; ((repeat' apply And.intro) <;> first | exact trivial | rfl | (show Bd _ _; apply Bd.up; (solve | (repeat' first | assumption | exact Bd.zero | exact Bd.one | exact Bd.mone | apply Bd.mul | apply Bd.add | apply Bd.sub | apply Bd.neg | exact Bd.of (m := 64) (by decide))); decide))) | (((repeat' apply And.intro) <;> first | exact trivial | assumption | (apply Bd.up; (solve | (repeat' first | assumption | exact Bd.zero | exact Bd.one | exact Bd.mone | apply Bd.mul | apply Bd.add | apply Bd.sub | apply Bd.neg | exact Bd.of (m := 64) (by decide))); decide))) | decide)); conv => whnf)))))) | (refine br_eq ?_ ?_; (first | exact rfl | exact am_eq (by grind) (by grind) (by grind) (by grind) | exact pr_eq (by grind) (by grind)); (((conv => whnf); (repeat' ((apply And.intro; (solve | (first | exact trivial | exact rfl | exact ownB_i rfl | (apply mulOk_bd; (solve | (repeat' first | assumption | exact Bd.zero | exact Bd.one | exact Bd.mone | apply Bd.mul | apply Bd.add | apply Bd.sub | apply Bd.neg | exact Bd.of (m := 64) (by decide))); (solve | (repeat' first | assumption | exact Bd.zero | exact Bd.one | exact Bd.mone | apply Bd.mul | apply Bd.add | apply Bd.sub | apply Bd.neg | exact Bd.of (m := 64) (by decide))); decide) | (refine okS_of ?_ rfl rfl; ((repeat' apply And.intro) <;> first | exact trivial | rfl | (show Bd _ _; apply Bd.up; (solve | (repeat' first | assumption | exact Bd.zero | exact Bd.one | exact Bd.mone | apply Bd.mul | apply Bd.add | apply Bd.sub | apply Bd.neg | exact Bd.of (m := 64) (by decide))); decide))) | (((repeat' apply And.intro) <;> first | exact trivial | assumption | (apply Bd.up; (solve | (repeat' first | assumption | exact Bd.zero | exact Bd.one | exact Bd.mone | apply Bd.mul | apply Bd.add | apply Bd.sub | apply Bd.neg | exact Bd.of (m := 64) (by decide))); decide))) | decide)); conv => whnf)))))))
        refine ⟨hv.k, ?_⟩
        (((conv => whnf); (repeat' ((apply And.intro; (solve | (first | exact trivial | exact rfl | exact ownB_i rfl | (apply mulOk_bd; (solve | (repeat' first | assumption | exact Bd.zero | exact Bd.one | exact Bd.mone | apply Bd.mul | apply Bd.add | apply Bd.sub | apply Bd.neg | exact Bd.of (m := 64) (by decide))); (solve | (repeat' first | assumption | exact Bd.zero | exact Bd.one | exact Bd.mone | apply Bd.mul | apply Bd.add | apply Bd.sub | apply Bd.neg | exact Bd.of (m := 64) (by decide))); decide) | (refine okS_of ?_ rfl rfl; ((repeat' apply And.intro) <;> first | exact trivial | rfl | (show Bd _ _; apply Bd.up; (solve | (repeat' first | assumption | exact Bd.zero | exact Bd.one | exact Bd.mone | apply Bd.mul | apply Bd.add | apply Bd.sub | apply Bd.neg | exact Bd.of (m := 64) (by decide))); decide))) | (((repeat' apply And.intro) <;> first | exact trivial | assumption | (apply Bd.up; (solve | (repeat' first | assumption | exact Bd.zero | exact Bd.one | exact Bd.mone | apply Bd.mul | apply Bd.add | apply Bd.sub | apply Bd.neg | exact Bd.of (m := 64) (by decide))); decide))) | decide)); conv => whnf)))))
        (first | (refine br_sameo ?_ ?_; (first | exact rfl | exact congrArg shD (by (first | exact rfl | exact am_eq (by grind) (by grind) (by grind) (by grind) | exact pr_eq (by grind) (by grind)))); (((conv => whnf); (repeat' ((apply And.intro; (solve | (first | exact trivial | exact rfl | exact ownB_i rfl | (apply mulOk_bd; (solve | (repeat' first | assumption | exact Bd.zero | exact Bd.one | exact Bd.mone | apply Bd.mul | apply Bd.add | apply Bd.sub | apply Bd.neg | exact Bd.of (m := 64) (by decide))); (solve | (repeat' first | assumption | exact Bd.zero | exact Bd.one | exact Bd.mone | apply Bd.mul | apply Bd.add | apply Bd.sub | apply Bd.neg | exact Bd.of (m := 64) (by decide))); decide) | (refine okS_of ?_ rfl rfl; ((repeat' apply And.intro) <;> first | exact trivial | rfl | (show Bd _ _; apply Bd.up; (solve | (repeat' first | assumption | exact Bd.zero | exact Bd.one | exact Bd.mone | apply Bd.mul | apply Bd.add | apply Bd.sub | apply Bd.neg | exact Bd.of (m := 64) (by decide))); decide))) | (((repeat' apply And.intro) <;> first | exact trivial | assumption | (apply Bd.up; (solve | (repeat' first | assumption | exact Bd.zero | exact Bd.one | exact Bd.mone | apply Bd.mul | apply Bd.add | apply Bd.sub | apply Bd.neg | exact Bd.of (m := 64) (by decide))); decide))) | decide)); conv => whnf)))))) | (refine br_same ?_ ?_; (first | exact rfl | exact congrArg shD (by (first | exact rfl | exact am_eq (by grind) (by grind) (by grind) (by grind) | exact pr_eq (by grind) (by grind)))); (((conv => whnf); (repeat' ((apply And.intro; (solve | (first | exact trivial | exact rfl | exact ownB_i rfl | (apply mulOk_bd; (solve | (repeat' first | assumption | exact Bd.zero | exact Bd.one | exact Bd.mone | apply Bd.mul | apply Bd.add | apply Bd.sub | apply Bd.neg | exact Bd.of (m := 64) (by decide))); (solve | (repeat' first | assumption | exact Bd.zero | exact Bd.one | exact Bd.mone | apply Bd.mul | apply Bd.add | apply Bd.sub | apply Bd.neg | exact Bd.of (m := 64) (by decide))); decide) | (refine okS_of ?_ rfl rfl; ((repeat' apply And.intro) <;> first | exact trivial | rfl | (show Bd _ _; apply Bd.up; (solve | (repeat' first | assumption | exact Bd.zero | exact Bd.one | exact Bd.mone | apply Bd.mul | apply Bd.add | apply Bd.sub | apply Bd.neg | exact Bd.of (m := 64) (by decide))); decide))) | (((repeat' apply And.intro) <;> first | exact trivial | assumption | (apply Bd.up; (solve | (repeat' first | assumption | exact Bd.zero | exact Bd.one | exact Bd.mone | apply Bd.mul | apply Bd.add | apply Bd.sub | apply Bd.neg | exact Bd.of (m := 64) (by decide))); decide))) | decide)); conv => whnf)))))) | (refine br_eqo ?_ ?_; (first | exact rfl | exact am_eq (by grind) (by grind) (by grind) (by grind) | exact pr_eq (by grind) (by grind)); (((conv => whnf); (repeat' ((apply And.intro; (solve | (first | exact trivial | exact rfl | exact ownB_i rfl | (apply mulOk_bd; (solve | (repeat' first | assumption | exact Bd.zero | exact Bd.one | exact Bd.mone | apply Bd.mul | apply Bd.add | apply Bd.sub | apply Bd.neg | exact Bd.of (m := 64) (by decide))); (solve | (repeat' first | assumption | exact Bd.zero | exact Bd.one | exact Bd.mone | apply Bd.mul | apply Bd.add | apply Bd.sub | apply Bd.neg | exact Bd.of (m := 64) (by decide))); decide) | (refine okS_of ?_ rfl rfl; ((repeat' apply And.intro) <;> first | exact trivial | rfl | (show Bd _ _; apply Bd.up; (solve | (repeat' first | assumption | exact Bd.zero | exact Bd.one | exact Bd.mone | apply Bd.mul | apply Bd.add | apply Bd.sub | apply Bd.neg | exact Bd.of (m := 64) (by decide))); decide))) | (((repeat' apply And.intro) <;> first | exact trivial | assumption | (apply Bd.up; (solve | (repeat' first | assumption | exact Bd.zero | exact Bd.one | exact Bd.mone | apply Bd.mul | apply Bd.add | apply Bd.sub | apply Bd.neg | exact Bd.of (m := 64) (by decide))); decide))) | decide)); conv => whnf)))))) | (refine br_eq ?_ ?_; (first | exact rfl | exact am_eq (by grind) (by grind) (by grind) (by grind) | exact pr_eq (by grind) (by grind)); (((conv => whnf); (repeat' ((apply And.intro; (solve | (first | exact trivial | exact rfl | exact ownB_i rfl | (apply mulOk_bd; (solve | (repeat' first | assumption | exact Bd.zero | exact Bd.one | exact Bd.mone | apply Bd.mul | apply Bd.add | apply Bd.sub | apply Bd.neg | exact Bd.of (m := 64) (by decide))); (solve | (repeat' first | assumption | exact Bd.zero | exact Bd.one | exact Bd.mone | apply Bd.mul | apply Bd.add | apply Bd.sub | apply Bd.neg | exact Bd.of (m := 64) (by decide))); decide) | (refine okS_of ?_ rfl rfl; ((repeat' apply And.intro) <;> first | exact trivial | rfl | (show Bd _ _; apply Bd.up; (solve | (repeat' first | assumption | exact Bd.zero | exact Bd.one | exact Bd.mone | apply Bd.mul | apply Bd.add | apply Bd.sub | apply Bd.neg | exact Bd.of (m := 64) (by decide))); decide))) | (((repeat' apply And.intro) <;> first | exact trivial | assumption | (apply Bd.up; (solve | (repeat' first | assumption | exact Bd.zero | exact Bd.one | exact Bd.mone | apply Bd.mul | apply Bd.add | apply Bd.sub | apply Bd.neg | exact Bd.of (m := 64) (by decide))); decide))) | decide)); conv => whnf)))))))
        exact k1 _ (.inr ⟨_, _, _, rfl⟩) ⟨rfl, trivial⟩)
    · rintro ρ hI
      rcases hI with rfl | ⟨x, y, z, rfl⟩ <;> (
        refine kn _ ?_
        (((conv => whnf); (repeat' ((apply And.intro; (solve | (first | exact trivial | exact rfl | exact ownB_i rfl | (apply mulOk_bd; (solve | (repeat' first | assumption | exact Bd.zero | exact Bd.one | exact Bd.mone | apply Bd.mul | apply Bd.add | apply Bd.sub | apply Bd.neg | exact Bd.of (m := 64) (by decide))); (solve | (repeat' first | assumption | exact Bd.zero | exact Bd.one | exact Bd.mone | apply Bd.mul | apply Bd.add | apply Bd.sub | apply Bd.neg | exact Bd.of (m := 64) (by decide))); decide) | (refine okS_of ?_ rfl rfl; ((repeat' apply And.intro) <;> first | exact trivial | rfl | (show Bd _ _; apply Bd.up; (solve | (repeat' first | assumption | exact Bd.zero | exact Bd.one | exact Bd.mone | apply Bd.mul | apply Bd.add | apply Bd.sub | apply Bd.neg | exact Bd.of (m := 64) (by decide))); decide))) | (((repeat' apply And.intro) <;> first | exact trivial | assumption | (apply Bd.up; (solve | (repeat' first | assumption | exact Bd.zero | exact Bd.one | exact Bd.mone | apply Bd.mul | apply Bd.add | apply Bd.sub | apply Bd.neg | exact Bd.of (m := 64) (by decide))); decide))) | decide)); conv => whnf)))))
        exact q _ hc8)
end
end DL

namespace DL
open PySem PySem.Spec PyProof.Rows L2
abbrev o1 : D := .tup [.int 1, .int 0, .int 0, .int 0]
theorem spr_rep (n : Nat) : sprB (.lst (List.replicate n [o1]).flatten) = (decide (n ∈ sizesL) && decide (0 < n)) := by
  rw [List.flatten_replicate_singleton]
  have ha : (List.replicate n o1).all amtB = true := List.all_eq_true.mpr fun x hx => by rw [List.eq_of_mem_replicate hx]; decide
  have hb : ((List.replicate n o1).any fun a => (itmL a).any nzB) = decide (0 < n) := by
    rw [Bool.eq_iff_iff, List.any_eq_true, decide_eq_true_eq]
    constructor
    · rintro ⟨x, hx, _⟩
      exact Nat.pos_of_ne_zero (List.mem_replicate.mp hx).1
    · intro h
      exact ⟨o1, List.mem_replicate.mpr ⟨by omega, rfl⟩, by decide⟩
  show (decide ((List.replicate n o1).length ∈ sizesL) && ((List.replicate n o1).all amtB && (List.replicate n o1).any fun a => (itmL a).any nzB)) = _
  rw [ha, hb, List.length_replicate, Bool.true_and]
theorem sd_rep (n : Nat) (h : n ≤ 10000) : sd 2 (.lst (List.replicate n [o1]).flatten) := by
  rw [List.flatten_replicate_singleton]
  refine ⟨rfl, fun ds e => ?_⟩
  cases e
  refine ⟨by rw [List.length_replicate]; exact h, fun x hx => ?_⟩
  rw [List.eq_of_mem_replicate hx]
  refine ⟨rfl, fun ds e => ?_⟩
  cases e
  refine ⟨by simp, fun x hx => ?_⟩
  simp only [List.mem_cons, List.not_mem_nil, or_false] at hx
  rcases hx with rfl | rfl | rfl | rfl <;> rfl
section
variable (F : List Fe) (C : List D)
theorem sp_law : ∀ ss R, lawF 63 ss R → runF [crockF, boundsF, listsF, sprF] C b_law p_law.length N_law.length ss R := by
  rintro ss R ⟨ns, rfl, hl, hb, q⟩
  refine runN_i _ C ⟨⟨rfl, by decide⟩, rfl⟩ ?_
  (((conv => whnf); (repeat' ((apply And.intro; (solve | (first | exact trivial | exact rfl | exact ownB_i rfl | (apply mulOk_bd; (solve | (repeat' first | assumption | exact Bd.zero | exact Bd.one | exact Bd.mone | apply Bd.mul | apply Bd.add | apply Bd.sub | apply Bd.neg | exact Bd.of (m := 64) (by decide))); (solve | (repeat' first | assumption | exact Bd.zero | exact Bd.one | exact Bd.mone | apply Bd.mul | apply Bd.add | apply Bd.sub | apply Bd.neg | exact Bd.of (m := 64) (by decide))); decide) | (refine okS_of ?_ rfl rfl; ((repeat' apply And.intro) <;> first | exact trivial | rfl | (show Bd _ _; apply Bd.up; (solve | (repeat' first | assumption | exact Bd.zero | exact Bd.one | exact Bd.mone | apply Bd.mul | apply Bd.add | apply Bd.sub | apply Bd.neg | exact Bd.of (m := 64) (by decide))); decide))) | (((repeat' apply And.intro) <;> first | exact trivial | assumption | (apply Bd.up; (solve | (repeat' first | assumption | exact Bd.zero | exact Bd.one | exact Bd.mone | apply Bd.mul | apply Bd.add | apply Bd.sub | apply Bd.neg | exact Bd.of (m := 64) (by decide))); decide))) | decide)); conv => whnf)))))
  refine ⟨⟨ns, rfl, hl⟩, fun cr hc => ?_⟩
  (((conv => whnf); (repeat' ((apply And.intro; (solve | (first | exact trivial | exact rfl | exact ownB_i rfl | (apply mulOk_bd; (solve | (repeat' first | assumption | exact Bd.zero | exact Bd.one | exact Bd.mone | apply Bd.mul | apply Bd.add | apply Bd.sub | apply Bd.neg | exact Bd.of (m := 64) (by decide))); (solve | (repeat' first | assumption | exact Bd.zero | exact Bd.one | exact Bd.mone | apply Bd.mul | apply Bd.add | apply Bd.sub | apply Bd.neg | exact Bd.of (m := 64) (by decide))); decide) | (refine okS_of ?_ rfl rfl; ((repeat' apply And.intro) <;> first | exact trivial | rfl | (show Bd _ _; apply Bd.up; (solve | (repeat' first | assumption | exact Bd.zero | exact Bd.one | exact Bd.mone | apply Bd.mul | apply Bd.add | apply Bd.sub | apply Bd.neg | exact Bd.of (m := 64) (by decide))); decide))) | (((repeat' apply And.intro) <;> first | exact trivial | assumption | (apply Bd.up; (solve | (repeat' first | assumption | exact Bd.zero | exact Bd.one | exact Bd.mone | apply Bd.mul | apply Bd.add | apply Bd.sub | apply Bd.neg | exact Bd.of (m := 64) (by decide))); decide))) | decide)); conv => whnf)))))
  refine ⟨cr, 999900, rfl, hc.le (by decide), fun c1 h1 => ?_⟩
  (((conv => whnf); (repeat' ((apply And.intro; (solve | (first | exact trivial | exact rfl | exact ownB_i rfl | (apply mulOk_bd; (solve | (repeat' first | assumption | exact Bd.zero | exact Bd.one | exact Bd.mone | apply Bd.mul | apply Bd.add | apply Bd.sub | apply Bd.neg | exact Bd.of (m := 64) (by decide))); (solve | (repeat' first | assumption | exact Bd.zero | exact Bd.one | exact Bd.mone | apply Bd.mul | apply Bd.add | apply Bd.sub | apply Bd.neg | exact Bd.of (m := 64) (by decide))); decide) | (refine okS_of ?_ rfl rfl; ((repeat' apply And.intro) <;> first | exact trivial | rfl | (show Bd _ _; apply Bd.up; (solve | (repeat' first | assumption | exact Bd.zero | exact Bd.one | exact Bd.mone | apply Bd.mul | apply Bd.add | apply Bd.sub | apply Bd.neg | exact Bd.of (m := 64) (by decide))); decide))) | (((repeat' apply And.intro) <;> first | exact trivial | assumption | (apply Bd.up; (solve | (repeat' first | assumption | exact Bd.zero | exact Bd.one | exact Bd.mone | apply Bd.mul | apply Bd.add | apply Bd.sub | apply Bd.neg | exact Bd.of (m := 64) (by decide))); decide))) | decide)); conv => whnf)))))
  refine ⟨c1, 999700, rfl, h1.le (by decide), fun c2 h2 => ?_⟩
  (((conv => whnf); (repeat' ((apply And.intro; (solve | (first | exact trivial | exact rfl | exact ownB_i rfl | (apply mulOk_bd; (solve | (repeat' first | assumption | exact Bd.zero | exact Bd.one | exact Bd.mone | apply Bd.mul | apply Bd.add | apply Bd.sub | apply Bd.neg | exact Bd.of (m := 64) (by decide))); (solve | (repeat' first | assumption | exact Bd.zero | exact Bd.one | exact Bd.mone | apply Bd.mul | apply Bd.add | apply Bd.sub | apply Bd.neg | exact Bd.of (m := 64) (by decide))); decide) | (refine okS_of ?_ rfl rfl; ((repeat' apply And.intro) <;> first | exact trivial | rfl | (show Bd _ _; apply Bd.up; (solve | (repeat' first | assumption | exact Bd.zero | exact Bd.one | exact Bd.mone | apply Bd.mul | apply Bd.add | apply Bd.sub | apply Bd.neg | exact Bd.of (m := 64) (by decide))); decide))) | (((repeat' apply And.intro) <;> first | exact trivial | assumption | (apply Bd.up; (solve | (repeat' first | assumption | exact Bd.zero | exact Bd.one | exact Bd.mone | apply Bd.mul | apply Bd.add | apply Bd.sub | apply Bd.neg | exact Bd.of (m := 64) (by decide))); decide))) | decide)); conv => whnf)))))
  refine ⟨c2, 999600, rfl, h2.le (by decide), fun c3 h3 => ?_⟩
  (((conv => whnf); (repeat' ((apply And.intro; (solve | (first | exact trivial | exact rfl | exact ownB_i rfl | (apply mulOk_bd; (solve | (repeat' first | assumption | exact Bd.zero | exact Bd.one | exact Bd.mone | apply Bd.mul | apply Bd.add | apply Bd.sub | apply Bd.neg | exact Bd.of (m := 64) (by decide))); (solve | (repeat' first | assumption | exact Bd.zero | exact Bd.one | exact Bd.mone | apply Bd.mul | apply Bd.add | apply Bd.sub | apply Bd.neg | exact Bd.of (m := 64) (by decide))); decide) | (refine okS_of ?_ rfl rfl; ((repeat' apply And.intro) <;> first | exact trivial | rfl | (show Bd _ _; apply Bd.up; (solve | (repeat' first | assumption | exact Bd.zero | exact Bd.one | exact Bd.mone | apply Bd.mul | apply Bd.add | apply Bd.sub | apply Bd.neg | exact Bd.of (m := 64) (by decide))); decide))) | (((repeat' apply And.intro) <;> first | exact trivial | assumption | (apply Bd.up; (solve | (repeat' first | assumption | exact Bd.zero | exact Bd.one | exact Bd.mone | apply Bd.mul | apply Bd.add | apply Bd.sub | apply Bd.neg | exact Bd.of (m := 64) (by decide))); decide))) | decide)); conv => whnf)))))
  refine ⟨c3, 999400, rfl, h3.le (by decide), fun c4 h4 => ?_⟩
  (((conv => whnf); (repeat' ((apply And.intro; (solve | (first | exact trivial | exact rfl | exact ownB_i rfl | (apply mulOk_bd; (solve | (repeat' first | assumption | exact Bd.zero | exact Bd.one | exact Bd.mone | apply Bd.mul | apply Bd.add | apply Bd.sub | apply Bd.neg | exact Bd.of (m := 64) (by decide))); (solve | (repeat' first | assumption | exact Bd.zero | exact Bd.one | exact Bd.mone | apply Bd.mul | apply Bd.add | apply Bd.sub | apply Bd.neg | exact Bd.of (m := 64) (by decide))); decide) | (refine okS_of ?_ rfl rfl; ((repeat' apply And.intro) <;> first | exact trivial | rfl | (show Bd _ _; apply Bd.up; (solve | (repeat' first | assumption | exact Bd.zero | exact Bd.one | exact Bd.mone | apply Bd.mul | apply Bd.add | apply Bd.sub | apply Bd.neg | exact Bd.of (m := 64) (by decide))); decide))) | (((repeat' apply And.intro) <;> first | exact trivial | assumption | (apply Bd.up; (solve | (repeat' first | assumption | exact Bd.zero | exact Bd.one | exact Bd.mone | apply Bd.mul | apply Bd.add | apply Bd.sub | apply Bd.neg | exact Bd.of (m := 64) (by decide))); decide))) | decide)); conv => whnf)))))
  refine ⟨c4, 999300, rfl, h4.le (by decide), fun c5 h5 => ?_⟩
  (((conv => whnf); (repeat' ((apply And.intro; (solve | (first | exact trivial | exact rfl | exact ownB_i rfl | (apply mulOk_bd; (solve | (repeat' first | assumption | exact Bd.zero | exact Bd.one | exact Bd.mone | apply Bd.mul | apply Bd.add | apply Bd.sub | apply Bd.neg | exact Bd.of (m := 64) (by decide))); (solve | (repeat' first | assumption | exact Bd.zero | exact Bd.one | exact Bd.mone | apply Bd.mul | apply Bd.add | apply Bd.sub | apply Bd.neg | exact Bd.of (m := 64) (by decide))); decide) | (refine okS_of ?_ rfl rfl; ((repeat' apply And.intro) <;> first | exact trivial | rfl | (show Bd _ _; apply Bd.up; (solve | (repeat' first | assumption | exact Bd.zero | exact Bd.one | exact Bd.mone | apply Bd.mul | apply Bd.add | apply Bd.sub | apply Bd.neg | exact Bd.of (m := 64) (by decide))); decide))) | (((repeat' apply And.intro) <;> first | exact trivial | assumption | (apply Bd.up; (solve | (repeat' first | assumption | exact Bd.zero | exact Bd.one | exact Bd.mone | apply Bd.mul | apply Bd.add | apply Bd.sub | apply Bd.neg | exact Bd.of (m := 64) (by decide))); decide))) | decide)); conv => whnf)))))
  refine ⟨c5, 999100, rfl, h5.le (by decide), fun c6 h6 => ?_⟩
  (((conv => whnf); (repeat' ((apply And.intro; (solve | (first | exact trivial | exact rfl | exact ownB_i rfl | (apply mulOk_bd; (solve | (repeat' first | assumption | exact Bd.zero | exact Bd.one | exact Bd.mone | apply Bd.mul | apply Bd.add | apply Bd.sub | apply Bd.neg | exact Bd.of (m := 64) (by decide))); (solve | (repeat' first | assumption | exact Bd.zero | exact Bd.one | exact Bd.mone | apply Bd.mul | apply Bd.add | apply Bd.sub | apply Bd.neg | exact Bd.of (m := 64) (by decide))); decide) | (refine okS_of ?_ rfl rfl; ((repeat' apply And.intro) <;> first | exact trivial | rfl | (show Bd _ _; apply Bd.up; (solve | (repeat' first | assumption | exact Bd.zero | exact Bd.one | exact Bd.mone | apply Bd.mul | apply Bd.add | apply Bd.sub | apply Bd.neg | exact Bd.of (m := 64) (by decide))); decide))) | (((repeat' apply And.intro) <;> first | exact trivial | assumption | (apply Bd.up; (solve | (repeat' first | assumption | exact Bd.zero | exact Bd.one | exact Bd.mone | apply Bd.mul | apply Bd.add | apply Bd.sub | apply Bd.neg | exact Bd.of (m := 64) (by decide))); decide))) | decide)); conv => whnf)))))
  refine ⟨_, rfl, sd_rep _ (by decide), ?_⟩
  rw [spr_rep, show (decide ((4096 : Int).toNat ∈ sizesL) && decide (0 < (4096 : Int).toNat)) = true from by decide]
  (((conv => whnf); (repeat' ((apply And.intro; (solve | (first | exact trivial | exact rfl | exact ownB_i rfl | (apply mulOk_bd; (solve | (repeat' first | assumption | exact Bd.zero | exact Bd.one | exact Bd.mone | apply Bd.mul | apply Bd.add | apply Bd.sub | apply Bd.neg | exact Bd.of (m := 64) (by decide))); (solve | (repeat' first | assumption | exact Bd.zero | exact Bd.one | exact Bd.mone | apply Bd.mul | apply Bd.add | apply Bd.sub | apply Bd.neg | exact Bd.of (m := 64) (by decide))); decide) | (refine okS_of ?_ rfl rfl; ((repeat' apply And.intro) <;> first | exact trivial | rfl | (show Bd _ _; apply Bd.up; (solve | (repeat' first | assumption | exact Bd.zero | exact Bd.one | exact Bd.mone | apply Bd.mul | apply Bd.add | apply Bd.sub | apply Bd.neg | exact Bd.of (m := 64) (by decide))); decide))) | (((repeat' apply And.intro) <;> first | exact trivial | assumption | (apply Bd.up; (solve | (repeat' first | assumption | exact Bd.zero | exact Bd.one | exact Bd.mone | apply Bd.mul | apply Bd.add | apply Bd.sub | apply Bd.neg | exact Bd.of (m := 64) (by decide))); decide))) | decide)); conv => whnf)))))
  refine ⟨_, rfl, sd_rep _ (by decide), ?_⟩
  rw [spr_rep, show (decide ((8192 : Int).toNat ∈ sizesL) && decide (0 < (8192 : Int).toNat)) = false from by decide]
  (((conv => whnf); (repeat' ((apply And.intro; (solve | (first | exact trivial | exact rfl | exact ownB_i rfl | (apply mulOk_bd; (solve | (repeat' first | assumption | exact Bd.zero | exact Bd.one | exact Bd.mone | apply Bd.mul | apply Bd.add | apply Bd.sub | apply Bd.neg | exact Bd.of (m := 64) (by decide))); (solve | (repeat' first | assumption | exact Bd.zero | exact Bd.one | exact Bd.mone | apply Bd.mul | apply Bd.add | apply Bd.sub | apply Bd.neg | exact Bd.of (m := 64) (by decide))); decide) | (refine okS_of ?_ rfl rfl; ((repeat' apply And.intro) <;> first | exact trivial | rfl | (show Bd _ _; apply Bd.up; (solve | (repeat' first | assumption | exact Bd.zero | exact Bd.one | exact Bd.mone | apply Bd.mul | apply Bd.add | apply Bd.sub | apply Bd.neg | exact Bd.of (m := 64) (by decide))); decide))) | (((repeat' apply And.intro) <;> first | exact trivial | assumption | (apply Bd.up; (solve | (repeat' first | assumption | exact Bd.zero | exact Bd.one | exact Bd.mone | apply Bd.mul | apply Bd.add | apply Bd.sub | apply Bd.neg | exact Bd.of (m := 64) (by decide))); decide))) | decide)); conv => whnf)))))
  refine ⟨_, rfl, sd_rep _ (by decide), ?_⟩
  rw [spr_rep, show (decide ((4095 : Int).toNat ∈ sizesL) && decide (0 < (4095 : Int).toNat)) = false from by decide]
  (((conv => whnf); (repeat' ((apply And.intro; (solve | (first | exact trivial | exact rfl | exact ownB_i rfl | (apply mulOk_bd; (solve | (repeat' first | assumption | exact Bd.zero | exact Bd.one | exact Bd.mone | apply Bd.mul | apply Bd.add | apply Bd.sub | apply Bd.neg | exact Bd.of (m := 64) (by decide))); (solve | (repeat' first | assumption | exact Bd.zero | exact Bd.one | exact Bd.mone | apply Bd.mul | apply Bd.add | apply Bd.sub | apply Bd.neg | exact Bd.of (m := 64) (by decide))); decide) | (refine okS_of ?_ rfl rfl; ((repeat' apply And.intro) <;> first | exact trivial | rfl | (show Bd _ _; apply Bd.up; (solve | (repeat' first | assumption | exact Bd.zero | exact Bd.one | exact Bd.mone | apply Bd.mul | apply Bd.add | apply Bd.sub | apply Bd.neg | exact Bd.of (m := 64) (by decide))); decide))) | (((repeat' apply And.intro) <;> first | exact trivial | assumption | (apply Bd.up; (solve | (repeat' first | assumption | exact Bd.zero | exact Bd.one | exact Bd.mone | apply Bd.mul | apply Bd.add | apply Bd.sub | apply Bd.neg | exact Bd.of (m := 64) (by decide))); decide))) | decide)); conv => whnf)))))
  exact q
end
end DL

namespace DL
open PySem PySem.Spec PyProof.Rows L2
def lawK : Nat := 6
theorem law_end {P : Program} {w : World} {K : Fg} {h : Heap} {mg : Str → Option Value} {fa : Addr} (X : K.In h) (G : h.Ns mainGlobals mg) (hfa : mg "law" = some (.ref fa)) (T : Tx K mg) :
    ∃ fd : FuncData, (∀ (s : Shared) (u : Value), BindsTo s fd ⟨[u], []⟩ [("script", u)]) ∧ ∀ base : Heap, K.In base → base.Ns mainGlobals mg → Sb base → GOk P w K mg base lawK fa fd ["script"] (spF K 1 (lawF 63)) := by
  obtain ⟨f, fd, Fn, hm, hb, hk⟩ := T.h_law
  have e : f = fa := by
    rw [hm] at hfa
    cases hfa
    rfl
  subst e
  refine ⟨fd, fun s u => ?_, fun base _ _ sb => ?_⟩
  · obtain ⟨oc, od, kV, doc, pm, an, cdv, ct, osl, rfl, lk, hcd⟩ := Fn.ex
    exact .of_eq rfl
  ·
    have o_is_integer := ok_is_integer (P := P) (w := w) (base := base) (k := 0) T sb (sp_is_integer _ _)
    have o_is_within := ok_is_within (P := P) (w := w) (base := base) (k := 1) T sb (o_is_integer.up (by decide)) (sp_is_within _)
    have o_is_bit := ok_is_bit (P := P) (w := w) (base := base) (k := 2) T sb (o_is_within.up (by decide)) (sp_is_bit _)
    have o_is_turn := ok_is_turn (P := P) (w := w) (base := base) (k := 2) T sb (o_is_within.up (by decide)) (sp_is_turn _)
    have o_is_list := ok_is_list (P := P) (w := w) (base := base) (k := 0) T sb (sp_is_list _ _)
    have o_is_amount := ok_is_amount (P := P) (w := w) (base := base) (k := 1) T sb (o_is_list.up (by decide)) (o_is_integer.up (by decide)) (sp_is_amount _)
    have o_is_spread := ok_is_spread (P := P) (w := w) (base := base) (k := 2) T sb (o_is_list.up (by decide)) (o_is_amount.up (by decide)) (sp_is_spread)
    have o_is_lot := ok_is_lot (P := P) (w := w) (base := base) (k := 2) T sb (o_is_list.up (by decide)) (o_is_within.up (by decide)) (sp_is_lot _)
    have o__law_sieve := ok__law_sieve (P := P) (w := w) (base := base) (k := 0) T sb (sp_crock _ _)
    have o__law_shake := ok__law_shake (P := P) (w := w) (base := base) (k := 0) T sb (sp_ladle _ _)
    have o__law_one := ok__law_one (P := P) (w := w) (base := base) (k := 1) T sb (o__law_shake.up (by decide)) (sp_one _)
    have o__law_is_number := ok__law_is_number (P := P) (w := w) (base := base) (k := 0) T sb (sp_is_number _ _)
    have o__law_odd := ok__law_odd (P := P) (w := w) (base := base) (k := 2) T sb (o__law_one.up (by decide)) (o__law_shake.up (by decide)) (sp_odd _)
    have o__law_bounds_right := ok__law_bounds_right (P := P) (w := w) (base := base) (k := 3) T sb (o__law_odd.up (by decide)) (o__law_shake.up (by decide)) (o__law_is_number.up (by decide)) (o_is_within.up (by decide)) (o_is_integer.up (by decide)) (o_is_bit.up (by decide)) (o_is_turn.up (by decide)) (sp_bounds _)
    have o__law_is_amount := ok__law_is_amount (P := P) (w := w) (base := base) (k := 1) T sb (o__law_is_number.up (by decide)) (sp_lis_amount _)
    have o__law_is_spread := ok__law_is_spread (P := P) (w := w) (base := base) (k := 2) T sb (o__law_is_amount.up (by decide)) (sp_lis_spread _)
    have o__law_is_lot := ok__law_is_lot (P := P) (w := w) (base := base) (k := 1) T sb (o__law_is_number.up (by decide)) (sp_lis_lot _)
    have o__law_told := ok__law_told (P := P) (w := w) (base := base) (k := 3) T sb (o_is_amount.up (by decide)) (o_is_spread.up (by decide)) (o_is_lot.up (by decide)) (sp_told _)
    have o__law_lists_right := ok__law_lists_right (P := P) (w := w) (base := base) (k := 4) T sb (o__law_one.up (by decide)) (o__law_shake.up (by decide)) (o__law_odd.up (by decide)) (o__law_is_amount.up (by decide)) (o__law_is_spread.up (by decide)) (o__law_is_lot.up (by decide)) (o__law_told.up (by decide)) (sp_lists _)
    refine g_body Fn sc_law (md_of sb ?_ .nil ?_ (.cons (o__law_sieve.up (by decide)) (by decide) (.cons (o__law_bounds_right.up (by decide)) (by decide) (.cons (o__law_lists_right.up (by decide)) (by decide) (.cons (o_is_spread.up (by decide)) (by decide) .nil))))) rfl rfl rfl m_law (sp_law _)
    · intro x hx
      simp only [List.mem_cons, List.not_mem_nil, or_false] at hx
      subst hx
      · exact T.z_range
    · exact fun x hx => nomatch hx
end DL
open PySem PySem.W PyProof.Rows
set_option maxHeartbeats 0 in
theorem PySem.Challenge.cw_lookmade_k02_bits_turns_amounts_lots_holds : PySem.Challenge.rw_lookmade_k02_bits_turns_amounts_lots.Holds := by
  w_on; o_law; k_head; (case hw => w_witness2)
  k_fill
  refine DL.walk_go (l := PySem.Challenge.rw_lookmade_k02_bits_turns_amounts_lots) (n := 63) (k := DL.lawK) (x := "script") rfl (by decide) (by decide +kernel) rfl ⟨rfl, by decide, by decide⟩ (fun w h Y => PySem.W.kIn_of Y) ?F
  case F =>
    intro w mg fa h KX G hmg
    refine' DL.law_end KX G hmg (DL.tx_of KX G ?h_is_integer ?h_is_within ?h_is_bit ?h_is_turn ?h_is_list ?h_is_amount ?h_is_spread ?h_is_lot ?h__law_sieve ?h__law_shake ?h__law_one ?h__law_is_number ?h__law_odd ?h__law_bounds_right ?h__law_is_amount ?h__law_is_spread ?h__law_is_lot ?h__law_told ?h__law_lists_right ?h_law ?z_isinstance ?z_int ?z_bool ?z_list ?z_tuple ?z_len ?z_all ?z_any ?z_set ?z_abs ?z_str ?z_repr ?z_range ?z_enumerate ?k_SIZES )
    case h_is_integer =>
      refine' DL.has_mk ?a ?l ?c ?k
      (case a => k_is); (case l => k_is); (case c => k_is); (case k => k_is)
    case h_is_within =>
      refine' DL.has_mk ?a ?l ?c ?k
      (case a => k_is); (case l => k_is); (case c => k_is); (case k => k_is)
    case h_is_bit =>
      refine' DL.has_mk ?a ?l ?c ?k
      (case a => k_is); (case l => k_is); (case c => k_is); (case k => k_is)
    case h_is_turn =>
      refine' DL.has_mk ?a ?l ?c ?k
      (case a => k_is); (case l => k_is); (case c => k_is); (case k => k_is)
    case h_is_list =>
      refine' DL.has_mk ?a ?l ?c ?k
      (case a => k_is); (case l => k_is); (case c => k_is); (case k => k_is)
    case h_is_amount =>
      refine' DL.has_mk ?a ?l ?c ?k
      (case a => k_is); (case l => k_is); (case c => k_is); (case k => k_is)
    case h_is_spread =>
      refine' DL.has_mk ?a ?l ?c ?k
      (case a => k_is); (case l => k_is); (case c => k_is); (case k => k_is)
    case h_is_lot =>
      refine' DL.has_mk ?a ?l ?c ?k
      (case a => k_is); (case l => k_is); (case c => k_is); (case k => k_is)
    case h__law_sieve =>
      refine' DL.has_mk ?a ?l ?c ?k
      (case a => k_is); (case l => k_is); (case c => k_is); (case k => k_is)
    case h__law_shake =>
      refine' DL.has_mk ?a ?l ?c ?k
      (case a => k_is); (case l => k_is); (case c => k_is); (case k => k_is)
    case h__law_one =>
      refine' DL.has_mk ?a ?l ?c ?k
      (case a => k_is); (case l => k_is); (case c => k_is); (case k => k_is)
    case h__law_is_number =>
      refine' DL.has_mk ?a ?l ?c ?k
      (case a => k_is); (case l => k_is); (case c => k_is); (case k => k_is)
    case h__law_odd =>
      refine' DL.has_mk ?a ?l ?c ?k
      (case a => k_is); (case l => k_is); (case c => k_is); (case k => k_is)
    case h__law_bounds_right =>
      refine' DL.has_mk ?a ?l ?c ?k
      (case a => k_is); (case l => k_is); (case c => k_is); (case k => k_is)
    case h__law_is_amount =>
      refine' DL.has_mk ?a ?l ?c ?k
      (case a => k_is); (case l => k_is); (case c => k_is); (case k => k_is)
    case h__law_is_spread =>
      refine' DL.has_mk ?a ?l ?c ?k
      (case a => k_is); (case l => k_is); (case c => k_is); (case k => k_is)
    case h__law_is_lot =>
      refine' DL.has_mk ?a ?l ?c ?k
      (case a => k_is); (case l => k_is); (case c => k_is); (case k => k_is)
    case h__law_told =>
      refine' DL.has_mk ?a ?l ?c ?k
      (case a => k_is); (case l => k_is); (case c => k_is); (case k => k_is)
    case h__law_lists_right =>
      refine' DL.has_mk ?a ?l ?c ?k
      (case a => k_is); (case l => k_is); (case c => k_is); (case k => k_is)
    case h_law =>
      refine' DL.has_mk ?a ?l ?c ?k
      (case a => k_is); (case l => k_is); (case c => k_is); (case k => k_is)
    (case z_isinstance => k_is)
    (case z_int => k_is)
    (case z_bool => k_is)
    (case z_list => k_is)
    (case z_tuple => k_is)
    (case z_len => k_is)
    (case z_all => k_is)
    (case z_any => k_is)
    (case z_set => k_is)
    (case z_abs => k_is)
    (case z_str => k_is)
    (case z_repr => k_is)
    (case z_range => k_is)
    (case z_enumerate => k_is)
    case k_SIZES =>
      refine' DL.hdc_tup KX G ?a ?l ?s ?v ?d
      (case a => k_is); (case l => k_is); (case s => decide); (case d => rfl); (case v => rfl)
