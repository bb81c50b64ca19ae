import PyProof.Rows.All
import Wide.All
import OpenK.AllK
import Wide.FinOn
import HandS.ForMost
import HandS.TupAny
import HandS.Deep
import HandS.Style
import HandS.StrMore
import HandS.Codes
import HandS.IsInst
import HandS.TupSets
import HandS.SortInts
import HandS.SetFor
import HandS.Conv
import HandS.TupMul
import KE.DataMinMax
import HandS.Strs
import PySem.Challenge.RW_givesifgets_k16_whole_barriers
set_option Elab.async false
set_option linter.all false
set_option maxRecDepth 100000
namespace Y
open PySem PySem.Spec PyProof.Rows L2

/-! ### what a program reckons with: data, and places of a store -/
inductive W where
  | d (x : PyData)
  | ref (n : Nat)
  /-- the script -/
  | scr (ns : List Int)
inductive SO where
  | lst (xs : List W)
  | dead
abbrev Sto := List SO
abbrev En := List (Option W)
inductive R (α : Type) where
  | ok (a : α) (s : Sto)
  | exc (c : Str) (x : PyData) (s : Sto)
  | bad
def R.bind {α β : Type} (r : R α) (f : α → Sto → R β) : R β :=
  match r with
  | .ok a s => f a s
  | .exc c x s => .exc c x s
  | .bad => .bad
@[simp] theorem R.bind_ok {α β : Type} (a : α) (s : Sto) (f : α → Sto → R β) : (R.ok a s).bind f = f a s := rfl
@[simp] theorem R.bind_exc {α β : Type} (c : Str) (x : PyData) (s : Sto) (f : α → Sto → R β) : (R.exc c x s : R α).bind f = .exc c x s := rfl
@[simp] theorem R.bind_bad {α β : Type} (f : α → Sto → R β) : (R.bad : R α).bind f = .bad := rfl
theorem R.bind_assoc {α β γ : Type} (r : R α) (f : α → Sto → R β) (g : β → Sto → R γ) : (r.bind f).bind g = r.bind fun a s => (f a s).bind g := by
  cases r <;> rfl

/-! ### how a value stands in the heap -/
abbrev Hz : Hp := fun _ => none
def LstF (Z : Addr → Prop) (H : Hp) (a : Addr) (xs : List V) : Prop := Rd H a (.lst xs) ∧ ¬ Z a
def ScrF (K : PySem.W.Frag) (Z : Addr → Prop) (H : Hp) (a : Addr) (xs : List V) : Prop := LstF Z H a xs ∨ SqL K Hz a xs
mutual
inductive Pd (K : PySem.W.Frag) (Z : Addr → Prop) (H : Hp) : V → PyData → Prop
  | non : Pd K Z H .non .none
  | bl (b : Bool) : Pd K Z H (.bl b) (.bool b)
  | int (i : Int) : Pd K Z H (.int i) (.int i)
  | str (x : Str) : Pd K Z H (.str x) (.str x)
  | lst {a : Addr} {xs : List V} {ds : List PyData} : LstF Z H a xs → PdAll K Z H xs ds → Pd K Z H (.ref a) (.list ds)
  | tup {a : Addr} {xs : List V} {ds : List PyData} : SqT K H a xs → PdAll K Z H xs ds → Pd K Z H (.ref a) (.tuple ds)
inductive PdAll (K : PySem.W.Frag) (Z : Addr → Prop) (H : Hp) : List V → List PyData → Prop
  | nil : PdAll K Z H [] []
  | cons {v : V} {vs : List V} {d : PyData} {ds : List PyData} : Pd K Z H v d → PdAll K Z H vs ds → PdAll K Z H (v :: vs) (d :: ds)
end
def WR (K : PySem.W.Frag) (Z : Addr → Prop) (θ : List (Option Addr)) (H : Hp) : W → V → Prop
  | .d x, v => Pd K Z H v x
  | .ref n, v => ∃ o, θ[n]? = some o ∧ ∀ a, o = some a → v = .ref a
  | .scr ns, v => ∃ a, v = .ref a ∧ ScrF K Z H a (ns.map V.int)
abbrev WRs (K : PySem.W.Frag) (Z : Addr → Prop) (θ : List (Option Addr)) (H : Hp) : List W → List V → Prop := Paired (WR K Z θ H)
def OR (K : PySem.W.Frag) (Z : Addr → Prop) (θ : List (Option Addr)) (H : Hp) (a : Addr) : SO → Prop
  | .lst ws => ∃ vs, H a = some (.lst vs) ∧ WRs K Z θ H ws vs
  | .dead => False
def Zs (Z0 : Addr → Prop) (θ : List (Option Addr)) : Addr → Prop := fun a => some a ∈ θ ∨ Z0 a
structure SR (K : PySem.W.Frag) (Z0 : Addr → Prop) (θ : List (Option Addr)) (st : Sto) (H : Hp) : Prop where
  len : θ.length = st.length
  nd : ∀ (m n : Nat) (a : Addr), θ[m]? = some (some a) → θ[n]? = some (some a) → m = n
  obj : ∀ (n : Nat) (a : Addr) (o : SO), θ[n]? = some (some a) → st[n]? = some o → OR K (Zs Z0 θ) θ H a o
  dd : ∀ (n : Nat), θ[n]? = some none → st[n]? = some .dead
  z0 : ∀ a, Z0 a → H a ≠ none
  dis : ∀ a, some a ∈ θ → ¬ Z0 a
structure Ext (θ : List (Option Addr)) (H : Hp) (θ' : List (Option Addr)) (H' : Hp) : Prop where
  new : ∀ (n : Nat) a, θ'[n]? = some (some a) → θ[n]? = some (some a) ∨ H a = none
  old : ∀ (n : Nat) o, θ[n]? = some o → θ'[n]? = some o ∨ θ'[n]? = some none
  keep : ∀ a o, some a ∉ θ → H a = some o → H' a = some o
  tup : ∀ a xs, H a = some (.tup xs) → H' a = some (.tup xs)
  frz : ∀ a o u, H a = some (.frz o u) → H' a = some (.frz o u)
  live : ∀ a, H a ≠ none → H' a ≠ none
structure EnR (K : PySem.W.Frag) (Z : Addr → Prop) (θ : List (Option Addr)) (H : Hp) (ρ : En) (σ : L2.St) : Prop where
  len : ρ.length = σ.length
  at_ : ∀ (i : Nat) (w : W), ρ[i]? = some (some w) → ∃ v, σ[i]? = some (some v) ∧ WR K Z θ H w v

section
variable {K : PySem.W.Frag} {Z Z0 : Addr → Prop} {θ θ1 θ2 : List (Option Addr)} {H H1 H2 : Hp} {st st1 : Sto}
theorem Ext.refl : Ext θ H θ H := ⟨fun _ _ h => .inl h, fun _ _ h => .inl h, fun _ _ _ h => h, fun _ _ h => h, fun _ _ _ h => h, fun _ h => h⟩
theorem Ext.fresh (e : Ext θ H θ1 H1) {a : Addr} (h : H1 a = none) : H a = none := by
  cases q : H a with
  | none => rfl
  | some o => exact absurd h (e.live a (by rw [q]; simp))
theorem Ext.mem (e : Ext θ H θ1 H1) {a : Addr} (h : some a ∈ θ1) : some a ∈ θ ∨ H a = none := by
  obtain ⟨n, h⟩ := List.getElem?_of_mem h
  rcases e.new n a h with q | q
  · exact .inl (List.mem_of_getElem? q)
  · exact .inr q
theorem Ext.trans (a : Ext θ H θ1 H1) (b : Ext θ1 H1 θ2 H2) : Ext θ H θ2 H2 := by
  refine ⟨fun n x h => ?_, fun n o h => ?_, fun x o hx h => ?_, fun x xs h => b.tup _ _ (a.tup _ _ h), fun x o u h => b.frz _ _ _ (a.frz _ _ _ h), fun x h => b.live x (a.live x h)⟩
  · rcases b.new n x h with q | q
    · exact a.new n x q
    · exact .inr (a.fresh q)
  · rcases a.old n o h with q | q
    · exact b.old n o q
    · rcases b.old n none q with q | q <;> exact .inr q
  · refine b.keep x o (fun hm => ?_) (a.keep x o hx h)
    rcases a.mem hm with q | q
    · exact hx q
    · rw [q] at h; cases h
theorem Ext.sqT (e : Ext θ H θ1 H1) {a : Addr} {xs : List V} (h : SqT K H a xs) : SqT K H1 a xs := by
  rcases h with (h | ⟨o, h⟩) | h
  · exact .inl (.inl (e.tup _ _ h))
  · exact .inl (.inr ⟨o, e.frz _ _ _ h⟩)
  · exact .inr h
theorem Ext.lstF (e : Ext θ H θ1 H1) {a : Addr} {xs : List V} (h : LstF (Zs Z0 θ) H a xs) : LstF (Zs Z0 θ1) H1 a xs := by
  obtain ⟨h, z⟩ := h
  have z1 : some a ∉ θ := fun q => z (.inl q)
  have hn : H a ≠ none := by rcases h with h | ⟨o, h⟩ <;> rw [h] <;> simp
  refine ⟨?_, fun q => ?_⟩
  · rcases h with h | ⟨o, h⟩
    · exact .inl (e.keep a _ z1 h)
    · exact .inr ⟨o, e.keep a _ z1 h⟩
  · rcases q with q | q
    · rcases e.mem q with q | q
      · exact z1 q
      · exact hn q
    · exact z (.inr q)
mutual
theorem Pd.ext (e : Ext θ H θ1 H1) : ∀ {d : PyData} {v : V}, Pd K (Zs Z0 θ) H v d → Pd K (Zs Z0 θ1) H1 v d
  | _, _, .non => .non
  | _, _, .bl b => .bl b
  | _, _, .int i => .int i
  | _, _, .str x => .str x
  | _, _, .lst h a => .lst (e.lstF h) (PdAll.ext e a)
  | _, _, .tup h a => .tup (e.sqT h) (PdAll.ext e a)
theorem PdAll.ext (e : Ext θ H θ1 H1) : ∀ {ds : List PyData} {vs : List V}, PdAll K (Zs Z0 θ) H vs ds → PdAll K (Zs Z0 θ1) H1 vs ds
  | _, _, .nil => .nil
  | _, _, .cons a b => .cons (Pd.ext e a) (PdAll.ext e b)
end
/-- fewer places are another's -/
theorem LstF.less {Z1 : Addr → Prop} (hz : ∀ a, Z1 a → Z a) {a : Addr} {xs : List V} (h : LstF Z H a xs) : LstF Z1 H a xs := ⟨h.1, fun q => h.2 (hz a q)⟩
mutual
theorem Pd.less {Z1 : Addr → Prop} (hz : ∀ a, Z1 a → Z a) : ∀ {d : PyData} {v : V}, Pd K Z H v d → Pd K Z1 H v d
  | _, _, .non => .non
  | _, _, .bl b => .bl b
  | _, _, .int i => .int i
  | _, _, .str x => .str x
  | _, _, .lst h a => .lst (h.less hz) (PdAll.less hz a)
  | _, _, .tup h a => .tup h (PdAll.less hz a)
theorem PdAll.less {Z1 : Addr → Prop} (hz : ∀ a, Z1 a → Z a) : ∀ {ds : List PyData} {vs : List V}, PdAll K Z H vs ds → PdAll K Z1 H vs ds
  | _, _, .nil => .nil
  | _, _, .cons a b => .cons (Pd.less hz a) (PdAll.less hz b)
end
theorem sqL_of_hz {a : Addr} {xs : List V} (h : SqL K Hz a xs) : SqL K H a xs := by
  rcases h with (h | ⟨o, h⟩) | h
  · cases h
  · cases h
  · exact .inr h
theorem LstF.sqL {a : Addr} {xs : List V} (h : LstF Z H a xs) : SqL K H a xs := .inl h.1
theorem ScrF.sqL {a : Addr} {xs : List V} (h : ScrF K Z H a xs) : SqL K H a xs := by
  rcases h with h | h
  · exact h.sqL
  · exact sqL_of_hz h
mutual
theorem Pd.dp : ∀ {d : PyData} {v : V}, Pd K Z H v d → Dp K H v d
  | _, _, .non => .non
  | _, _, .bl b => .bl b
  | _, _, .int i => .int i
  | _, _, .str x => .str x
  | _, _, .lst h a => .lst h.sqL (PdAll.dp a)
  | _, _, .tup h a => .tup h (PdAll.dp a)
theorem PdAll.dp : ∀ {ds : List PyData} {vs : List V}, PdAll K Z H vs ds → DpAll K H vs ds
  | _, _, .nil => .nil
  | _, _, .cons a b => .cons (Pd.dp a) (PdAll.dp b)
end
theorem WR.ext (e : Ext θ H θ1 H1) {w : W} {v : V} (h : WR K (Zs Z0 θ) θ H w v) : WR K (Zs Z0 θ1) θ1 H1 w v := by
  cases w with
  | d x => exact Pd.ext e h
  | ref n =>
    obtain ⟨o, h1, h2⟩ := h
    rcases e.old n o h1 with q | q
    · exact ⟨o, q, h2⟩
    · exact ⟨none, q, fun a z => by cases z⟩
  | scr ns =>
    obtain ⟨a, h1, h2⟩ := h
    exact ⟨a, h1, h2.elim (fun q => .inl (e.lstF q)) .inr⟩
theorem Paired.imp {α β : Type} {F G : α → β → Prop} (f : ∀ a b, F a b → G a b) : ∀ {l₁ : List α} {l₂ : List β}, Paired F l₁ l₂ → Paired G l₁ l₂
  | _, _, .nil => .nil
  | _, _, .cons r t => .cons (f _ _ r) (Paired.imp f t)
theorem WRs.ext (e : Ext θ H θ1 H1) {ws : List W} {vs : List V} (h : WRs K (Zs Z0 θ) θ H ws vs) : WRs K (Zs Z0 θ1) θ1 H1 ws vs := Paired.imp (fun _ _ => WR.ext e) h
theorem EnR.ext {ρ : En} {σ : L2.St} (e : Ext θ H θ1 H1) (h : EnR K (Zs Z0 θ) θ H ρ σ) : EnR K (Zs Z0 θ1) θ1 H1 ρ σ :=
  ⟨h.len, fun i w q => let ⟨v, h1, h2⟩ := h.at_ i w q; ⟨v, h1, h2.ext e⟩⟩
end

/-! ### what is wanted behind -/
structure Ct where
  K : PySem.W.Frag
  mg : Str → Option Value
  E : XK
def ExcW (C : Ct) (Z0 : Addr → Prop) (θ : List (Option Addr)) (H : Hp) (c : Str) (x : PyData) (st' : Sto) : Prop :=
  ∀ θ' H' dx v Ca, Ext θ H θ' H' → SR C.K Z0 θ' st' H' → Pd C.K (Zs Z0 θ') H' v x → H dx = none → some dx ∉ θ' → H' dx = some (.xd [("at", v)]) → C.mg c = some (.ref Ca) → C.E (.ref Ca) (some dx) H'
def Post {α β : Type} (C : Ct) (Z0 : Addr → Prop) (θ : List (Option Addr)) (H : Hp) (rel : List (Option Addr) → Hp → α → β → Prop) (r : R α) (Q : β → Hp → Prop) : Prop :=
  match r with
  | .ok w st' => ∀ θ' H' v, Ext θ H θ' H' → SR C.K Z0 θ' st' H' → rel θ' H' w v → Q v H'
  | .exc c x st' => ExcW C Z0 θ H c x st'
  | .bad => False
abbrev relW (K : PySem.W.Frag) (Z0 : Addr → Prop) : List (Option Addr) → Hp → W → V → Prop := fun θ H w v => WR K (Zs Z0 θ) θ H w v
abbrev relWs (K : PySem.W.Frag) (Z0 : Addr → Prop) : List (Option Addr) → Hp → List W → List V → Prop := fun θ H w v => WRs K (Zs Z0 θ) θ H w v
abbrev relB : List (Option Addr) → Hp → Bool → Bool → Prop := fun _ _ a b => a = b
def rdE (C : Ct) (f : En → Sto → R W) : TE := fun σ H Q => ∃ Z0 θ ρ st, SR C.K Z0 θ st H ∧ EnR C.K (Zs Z0 θ) θ H ρ σ ∧ Post C Z0 θ H (relW C.K Z0) (f ρ st) Q
def rdT (C : Ct) (f : En → Sto → R Bool) : TT := fun σ H Q => ∃ Z0 θ ρ st, SR C.K Z0 θ st H ∧ EnR C.K (Zs Z0 θ) θ H ρ σ ∧ Post C Z0 θ H relB (f ρ st) Q
def rdA (C : Ct) (f : En → Sto → R (List W)) : TA := fun σ H Q => ∃ Z0 θ ρ st, SR C.K Z0 θ st H ∧ EnR C.K (Zs Z0 θ) θ H ρ σ ∧ Post C Z0 θ H (relWs C.K Z0) (f ρ st) Q
section
variable {C : Ct} {Z0 : Addr → Prop} {θ θ1 : List (Option Addr)} {H H1 : Hp}
theorem ExcW.from {c : Str} {x : PyData} {st' : Sto} (e : Ext θ H θ1 H1) (h : ExcW C Z0 θ H c x st') : ExcW C Z0 θ1 H1 c x st' := fun θ' H' dx v Ca e' S p hn hd hx hm =>
  h θ' H' dx v Ca (e.trans e') S p (by
    cases q : H dx with
    | none => rfl
    | some o => exact absurd hn (e.live dx (by rw [q]; simp))) hd hx hm
theorem Post.from {α β : Type} {rel : List (Option Addr) → Hp → α → β → Prop} {r : R α} {Q : β → Hp → Prop} (e : Ext θ H θ1 H1) (h : Post C Z0 θ H rel r Q) : Post C Z0 θ1 H1 rel r Q := by
  cases r with
  | ok w st' => exact fun θ' H' v e' S p => h θ' H' v (e.trans e') S p
  | exc c x st' => exact ExcW.from e h
  | bad => exact h
/-- the first of two steps -/
theorem Post.bind {α α' β β' : Type} {rel : List (Option Addr) → Hp → α → β → Prop} {rel' : List (Option Addr) → Hp → α' → β' → Prop} {r : R α} {f : α → Sto → R α'} {Q : β' → Hp → Prop} {G : β → Hp → Prop} (h : Post C Z0 θ H rel' (r.bind f) Q)
    (k : ∀ w st1 θ1 H1 v, r = .ok w st1 → Ext θ H θ1 H1 → SR C.K Z0 θ1 st1 H1 → rel θ1 H1 w v → Post C Z0 θ1 H1 rel' (f w st1) Q → G v H1) : Post C Z0 θ H rel r G := by
  cases r with
  | ok w st1 => exact fun θ1 H1 v e S p => k w st1 θ1 H1 v rfl e S p (Post.from e h)
  | exc c x st1 => exact h
  | bad => exact h
theorem Post.mono {α β : Type} {rel : List (Option Addr) → Hp → α → β → Prop} {r : R α} {Q Q' : β → Hp → Prop} (h : Post C Z0 θ H rel r Q) (k : ∀ v H', Q v H' → Q' v H') : Post C Z0 θ H rel r Q' := by
  cases r with
  | ok w st' => exact fun θ' H' v e' S p => k _ _ (h θ' H' v e' S p)
  | exc c x st' => exact h
  | bad => exact h
/-- a value is there, no store changed -/
theorem Post.now {α β : Type} {rel : List (Option Addr) → Hp → α → β → Prop} {w : α} {st : Sto} {v : β} {Q : β → Hp → Prop} (h : Post C Z0 θ H rel (.ok w st) Q) (S : SR C.K Z0 θ st H) (p : rel θ H w v) : Q v H := h θ H v Ext.refl S p
end
section
variable {X : Cx} {C : Ct}
theorem PE.imp {e : Expr} {t t' : TE} (h : PE X e t) (k : ∀ σ H Q, t' σ H Q → t σ H Q) : PE X e t' := ⟨fun pins s σ H Q I q => h.run pins s σ H Q I (k σ H Q q)⟩
theorem PT.imp {e : Expr} {t t' : TT} (h : PT X e t) (k : ∀ σ H Q, t' σ H Q → t σ H Q) : PT X e t' := ⟨fun pins s σ H Q I q => h.run pins s σ H Q I (k σ H Q q)⟩
theorem PW.imp {e : Expr} {t t' : TT} (h : PW X e t) (k : ∀ σ H Q, t' σ H Q → t σ H Q) : PW X e t' := ⟨fun wh pins s σ H Q I q => h.run wh pins s σ H Q I (k σ H Q q)⟩
theorem PA.imp {e : List Expr} {t t' : TA} (h : PA X e t) (k : ∀ σ H Q, t' σ H Q → t σ H Q) : PA X e t' := ⟨fun pos pins s σ H Q I q => h.run pos pins s σ H Q I (k σ H Q q)⟩
theorem PS.imp {e : Stmt} {t t' : TS} (h : PS X e t) (k : ∀ D σ H, t' D σ H → t D σ H) : PS X e t' := ⟨fun pins s σ H D I q => h.run pins s σ H D I (k D σ H q)⟩
theorem PSs.imp {e : List Stmt} {t t' : TS} (h : PSs X e t) (k : ∀ D σ H, t' D σ H → t D σ H) : PSs X e t' := ⟨fun pins s σ H D I q => h.run pins s σ H D I (k D σ H q)⟩

/-! ### names, constants, operators -/
@[simp] def dVar (i : Nat) : En → Sto → R W := fun ρ st => match ρ[i]? with | some (some w) => .ok w st | _ => .bad
@[simp] def dLit (x : PyData) : En → Sto → R W := fun _ st => .ok (.d x) st
theorem y_var {i : Nat} {x : Str} {pos : Pos} (h : PE X (.Name x pos) (tVar i)) : PE X (.Name x pos) (rdE C (dVar i)) := PE.imp h fun σ H Q q => by
  obtain ⟨Z0, θ, ρ, st, S, N, p⟩ := q
  unfold dVar at p
  cases e : ρ[i]? with
  | none => rw [e] at p; exact p.elim
  | some o =>
    cases o with
    | none => rw [e] at p; exact p.elim
    | some w =>
      rw [e] at p
      obtain ⟨v, h1, h2⟩ := N.at_ i w e
      exact ⟨v, h1, p.now S h2⟩
theorem y_lit {e : Expr} {v : V} {x : PyData} (h : PE X e (tC v)) (hp : ∀ K Z H, Pd K Z H v x) : PE X e (rdE C (dLit x)) := PE.imp h fun σ H Q ⟨_, _, _, _, S, _, p⟩ => p.now S (show Pd _ _ _ _ _ from hp _ _ _)
theorem y_int {i j pos} : PE X (.Constant (.int i) j pos) (rdE C (dLit (.int i))) := y_lit pe_int fun _ _ _ => .int i
theorem y_bl {b j pos} : PE X (.Constant (.bool b) j pos) (rdE C (dLit (.bool b))) := y_lit pe_bl fun _ _ _ => .bl b
theorem y_non {j pos} : PE X (.Constant .none j pos) (rdE C (dLit .none)) := y_lit pe_non fun _ _ _ => .non
theorem y_str {x j pos} : PE X (.Constant (.str x) j pos) (rdE C (dLit (.str x))) := y_lit pe_str fun _ _ _ => .str x

/-- a two-place operation on values -/
def rdO (C : Ct) (g : W → W → Sto → R W) : R2 := fun x y H Q => ∃ Z0 θ st u w, SR C.K Z0 θ st H ∧ WR C.K (Zs Z0 θ) θ H u x ∧ WR C.K (Zs Z0 θ) θ H w y ∧ Post C Z0 θ H (relW C.K Z0) (g u w st) Q
def rdU (C : Ct) (g : W → Sto → R W) : V → Hp → VK → Prop := fun x H Q => ∃ Z0 θ st u, SR C.K Z0 θ st H ∧ WR C.K (Zs Z0 θ) θ H u x ∧ Post C Z0 θ H (relW C.K Z0) (g u st) Q
def rdC (C : Ct) (g : List W → Sto → R W) : List V → Hp → VK → Prop := fun xs H Q => ∃ Z0 θ st us, SR C.K Z0 θ st H ∧ WRs C.K (Zs Z0 θ) θ H us xs ∧ Post C Z0 θ H (relW C.K Z0) (g us st) Q
@[simp] def dBin (g : W → W → Sto → R W) (fa fb : En → Sto → R W) : En → Sto → R W := fun ρ st => (fa ρ st).bind fun x s => (fb ρ s).bind fun y s => g x y s
@[simp] def dUn (g : W → Sto → R W) (fa : En → Sto → R W) : En → Sto → R W := fun ρ st => (fa ρ st).bind fun x s => g x s
theorem t_bin {g : W → W → Sto → R W} {fa fb : En → Sto → R W} {σ : L2.St} {H : Hp} {Q : VK} (q : rdE C (dBin g fa fb) σ H Q) : tOp (rdO C g) (rdE C fa) (rdE C fb) σ H Q := by
  obtain ⟨Z0, θ, ρ, st, S, N, p⟩ := q
  exact ⟨Z0, θ, ρ, st, S, N, Post.bind p fun w st1 θ1 H1 v _ e1 S1 w1 p1 => ⟨Z0, θ1, ρ, st1, S1, N.ext e1, Post.bind p1 fun w' st2 θ2 H2 v' _ e2 S2 w2 p2 => ⟨Z0, θ2, st2, w, w', S2, w1.ext e2, w2, p2⟩⟩⟩
theorem t_un {g : W → Sto → R W} {fa : En → Sto → R W} {σ : L2.St} {H : Hp} {Q : VK} (q : rdE C (dUn g fa) σ H Q) : tUn (rdU C g) (rdE C fa) σ H Q := by
  obtain ⟨Z0, θ, ρ, st, S, N, p⟩ := q
  exact ⟨Z0, θ, ρ, st, S, N, Post.bind p fun w st1 θ1 H1 v _ e1 S1 w1 p1 => ⟨Z0, θ1, st1, w, S1, w1, p1⟩⟩
variable {a b c : Expr} {fa fb fc : En → Sto → R W} {pos : Pos}
theorem y_op {op : Operator} {g : W → W → Sto → R W} (ho : OpR X (binaryOp op) (rdO C g)) (ha : PE X a (rdE C fa)) (hb : PE X b (rdE C fb)) : PE X (.BinOp a op b pos) (rdE C (dBin g fa fb)) := PE.imp (pe_op ho ha hb) fun _ _ _ => t_bin
theorem y_un {op : UnaryOp} {g : W → Sto → R W} (ho : UnR X (unaryOp op) (rdU C g)) (ha : PE X a (rdE C fa)) : PE X (.UnaryOp op a pos) (rdE C (dUn g fa)) := PE.imp (pe_un ho ha) fun _ _ _ => t_un
theorem y_cmp {op : CmpOp} {g : W → W → Sto → R W} (ho : OpR X (compareOp op) (rdO C g)) (ha : PE X a (rdE C fa)) (hb : PE X b (rdE C fb)) (hm : behindInMarks op b = false) : PE X (.Compare a [op] [b] pos) (rdE C (dBin g fa fb)) := PE.imp (pe_cmpR ho ha hb hm) fun _ _ _ => t_bin

/-! ### tests -/
@[simp] def asB (r : R W) : R Bool := r.bind fun w s => match w with | .d (.bool b) => .ok b s | _ => .bad
theorem t_test {t : TE} {f : En → Sto → R W} (k : ∀ σ H Q, rdE C f σ H Q → t σ H Q) {σ : L2.St} {H : Hp} {Q : Bool → Hp → Prop} (q : rdT C (fun ρ st => asB (f ρ st)) σ H Q) : t σ H fun x H' => ∃ c, x = .bl c ∧ Q c H' := by
  obtain ⟨Z0, θ, ρ, st, S, N, p⟩ := q
  refine k _ _ _ ⟨Z0, θ, ρ, st, S, N, Post.bind p fun w st1 θ1 H1 v _ e1 S1 w1 p1 => ?_⟩
  cases w with
  | ref n => exact p1.elim
  | scr n => exact p1.elim
  | d x =>
    cases x with
    | bool b => cases w1; exact ⟨b, rfl, p1.now S1 rfl⟩
    | _ => exact p1.elim
theorem y_tcmp {op : CmpOp} {g : W → W → Sto → R W} (ho : OpR X (compareOp op) (rdO C g)) (ha : PE X a (rdE C fa)) (hb : PE X b (rdE C fb)) (hm : behindInMarks op b = false) : PT X (.Compare a [op] [b] pos) (rdT C fun ρ st => asB (dBin g fa fb ρ st)) :=
  PT.imp (pt_cmpR ho ha hb hm) fun _ _ _ q => t_test (fun _ _ _ => t_bin) q
theorem y_tval {e : Expr} {f : En → Sto → R W} (h : PE X e (rdE C f)) (he : ∀ whole, isTrue e X.env whole = (do let v ← whole; standAt e.pos; holding [v] (truthy v)) := by intro _; rfl) : PT X e (rdT C fun ρ st => asB (f ρ st)) :=
  PT.imp (pt_val h he) fun _ _ _ q => t_test (fun _ _ _ k => k) q
@[simp] def dAnd (f g : En → Sto → R Bool) : En → Sto → R Bool := fun ρ st => (f ρ st).bind fun b s => if b = true then g ρ s else .ok false s
@[simp] def dOr (f g : En → Sto → R Bool) : En → Sto → R Bool := fun ρ st => (f ρ st).bind fun b s => if b = true then .ok true s else g ρ s
@[simp] def dNot (f : En → Sto → R Bool) : En → Sto → R Bool := fun ρ st => (f ρ st).bind fun b s => .ok (!b) s
variable {ga gb : En → Sto → R Bool} {rest : List Expr}
theorem y_pw1 {op : BoolOp} (h : PT X a (rdT C ga)) : PW X (.BoolOp op [a] pos) (rdT C ga) := by
  cases op with
  | And => exact pw_and1 h
  | Or => exact pw_or1 h
theorem y_and (ha : PT X a (rdT C ga)) (hb : PW X (.BoolOp .And (b :: rest) pos) (rdT C gb)) : PW X (.BoolOp .And (a :: b :: rest) pos) (rdT C (dAnd ga gb)) := PW.imp (pw_and ha hb) fun σ H Q q => by
  obtain ⟨Z0, θ, ρ, st, S, N, p⟩ := q
  refine ⟨Z0, θ, ρ, st, S, N, Post.bind p fun w st1 θ1 H1 v _ e1 S1 w1 p1 => ?_⟩
  cases w1
  cases w with
  | true => rw [if_pos rfl]; exact ⟨Z0, θ1, ρ, st1, S1, N.ext e1, p1⟩
  | false => rw [if_neg (by simp)]; exact p1.now S1 rfl
theorem y_or (ha : PT X a (rdT C ga)) (hb : PW X (.BoolOp .Or (b :: rest) pos) (rdT C gb)) : PW X (.BoolOp .Or (a :: b :: rest) pos) (rdT C (dOr ga gb)) := PW.imp (pw_or ha hb) fun σ H Q q => by
  obtain ⟨Z0, θ, ρ, st, S, N, p⟩ := q
  refine ⟨Z0, θ, ρ, st, S, N, Post.bind p fun w st1 θ1 H1 v _ e1 S1 w1 p1 => ?_⟩
  cases w1
  cases w with
  | false => rw [if_neg (by simp)]; exact ⟨Z0, θ1, ρ, st1, S1, N.ext e1, p1⟩
  | true => rw [if_pos rfl]; exact p1.now S1 rfl
theorem y_not (ha : PT X a (rdT C ga)) : PT X (.UnaryOp .Not a pos) (rdT C (dNot ga)) := PT.imp (pt_not ha) fun σ H Q q => by
  obtain ⟨Z0, θ, ρ, st, S, N, p⟩ := q
  refine ⟨Z0, θ, ρ, st, S, N, Post.bind p fun w st1 θ1 H1 v _ e1 S1 w1 p1 => ?_⟩
  cases w1
  exact p1.now S1 rfl
/-- as values -/
@[simp] def dAndV (f g : En → Sto → R W) : En → Sto → R W := fun ρ st => (asB (f ρ st)).bind fun b s => if b = true then g ρ s else .ok (.d (.bool false)) s
@[simp] def dOrV (f g : En → Sto → R W) : En → Sto → R W := fun ρ st => (asB (f ρ st)).bind fun b s => if b = true then .ok (.d (.bool true)) s else g ρ s
@[simp] def dNotV (f : En → Sto → R W) : En → Sto → R W := fun ρ st => (asB (f ρ st)).bind fun b s => .ok (.d (.bool (!b))) s
theorem post_asB {Z0 : Addr → Prop} {θ : List (Option Addr)} {H : Hp} {r : R W} {α β : Type} {rel : List (Option Addr) → Hp → α → β → Prop} {f : Bool → Sto → R α} {Q : β → Hp → Prop} {G : V → Hp → Prop} (p : Post C Z0 θ H rel ((asB r).bind f) Q)
    (k : ∀ b st1 θ1 H1, Ext θ H θ1 H1 → SR C.K Z0 θ1 st1 H1 → Post C Z0 θ1 H1 rel (f b st1) Q → G (.bl b) H1) : Post C Z0 θ H (relW C.K Z0) r G := by
  unfold asB at p
  rw [R.bind_assoc] at p
  refine Post.bind p fun w st1 θ1 H1 v _ e1 S1 w1 p1 => ?_
  cases w with
  | ref n => exact p1.elim
  | scr n => exact p1.elim
  | d x =>
    cases x with
    | bool b => cases w1; exact k b st1 θ1 H1 e1 S1 p1
    | _ => exact p1.elim
theorem y_one {op} {f : En → Sto → R W} (h : PE X a (rdE C f)) : PE X (.BoolOp op [a] pos) (rdE C f) := pe_one h
theorem y_andV (ha : PE X a (rdE C fa)) (hb : PE X (.BoolOp .And (b :: rest) pos) (rdE C fb)) : PE X (.BoolOp .And (a :: b :: rest) pos) (rdE C (dAndV fa fb)) := PE.imp (pe_and ha hb) fun σ H Q q => by
  obtain ⟨Z0, θ, ρ, st, S, N, p⟩ := q
  refine ⟨Z0, θ, ρ, st, S, N, post_asB p fun w st1 θ1 H1 e1 S1 p1 => ⟨w, rfl, ?_⟩⟩
  cases w with
  | true => rw [if_pos rfl]; exact ⟨Z0, θ1, ρ, st1, S1, N.ext e1, p1⟩
  | false => rw [if_neg (by simp)]; exact p1.now S1 (show Pd _ _ _ _ _ from .bl _)
theorem y_orV (ha : PE X a (rdE C fa)) (hb : PE X (.BoolOp .Or (b :: rest) pos) (rdE C fb)) : PE X (.BoolOp .Or (a :: b :: rest) pos) (rdE C (dOrV fa fb)) := PE.imp (pe_or ha hb) fun σ H Q q => by
  obtain ⟨Z0, θ, ρ, st, S, N, p⟩ := q
  refine ⟨Z0, θ, ρ, st, S, N, post_asB p fun w st1 θ1 H1 e1 S1 p1 => ⟨w, rfl, ?_⟩⟩
  cases w with
  | false => rw [if_neg (by simp)]; exact ⟨Z0, θ1, ρ, st1, S1, N.ext e1, p1⟩
  | true => rw [if_pos rfl]; exact p1.now S1 (show Pd _ _ _ _ _ from .bl _)
theorem y_notV (ha : PE X a (rdE C fa)) : PE X (.UnaryOp .Not a pos) (rdE C (dNotV fa)) := PE.imp (pe_not ha) fun σ H Q q => by
  obtain ⟨Z0, θ, ρ, st, S, N, p⟩ := q
  exact ⟨Z0, θ, ρ, st, S, N, post_asB p fun w st1 θ1 H1 e1 S1 p1 => ⟨w, rfl, p1.now S1 (show Pd _ _ _ _ _ from .bl _)⟩⟩
@[simp] def dIf (t : En → Sto → R Bool) (f g : En → Sto → R W) : En → Sto → R W := fun ρ st => (t ρ st).bind fun b s => if b = true then f ρ s else g ρ s
theorem y_if {c : Expr} (hc : PT X c (rdT C ga)) (ha : PE X a (rdE C fa)) (hb : PE X b (rdE C fb)) : PE X (.IfExp c a b pos) (rdE C (dIf ga fa fb)) := PE.imp (pe_ifExp hc ha hb) fun σ H Q q => by
  obtain ⟨Z0, θ, ρ, st, S, N, p⟩ := q
  refine ⟨Z0, θ, ρ, st, S, N, Post.bind p fun w st1 θ1 H1 v _ e1 S1 w1 p1 => ?_⟩
  cases w1
  cases w with
  | true => rw [if_pos rfl] at p1 ⊢; exact ⟨Z0, θ1, ρ, st1, S1, N.ext e1, p1⟩
  | false => rw [if_neg (by simp)] at p1 ⊢; exact ⟨Z0, θ1, ρ, st1, S1, N.ext e1, p1⟩
/-- a chain of two comparisons -/
@[simp] def dChain (g g' : W → W → Sto → R W) (fa fb fc : En → Sto → R W) : En → Sto → R W := fun ρ st => (fa ρ st).bind fun x s => (fb ρ s).bind fun y s => (asB (g x y s)).bind fun k s => if k = true then (fc ρ s).bind fun z s => g' y z s else .ok (.d (.bool false)) s
end
end Y

namespace Y
open PySem PySem.Spec PyProof.Rows L2

section
variable {K : PySem.W.Frag} {Z Z0 : Addr → Prop} {θ θ1 θ2 : List (Option Addr)} {H H1 H2 : Hp} {st st1 : Sto} {C : Ct}
theorem SR.notZ (S : SR K Z0 θ st H) {p : Addr} (hp : H p = none) : ¬ Zs Z0 θ p := fun h => by
  rcases h with h | h
  · obtain ⟨n, h⟩ := List.getElem?_of_mem h
    have hl : n < st.length := by rw [← S.len]; exact (List.getElem?_eq_some_iff.mp h).1
    have o := S.obj n p _ h (List.getElem?_eq_getElem hl)
    cases e : st[n] with
    | lst ws => rw [e] at o; obtain ⟨vs, q, _⟩ := o; rw [hp] at q; cases q
    | dead => rw [e] at o; exact o
  · exact S.z0 p h hp
theorem Ext.alloc {p : Addr} {o : HO} (hp : H p = none) : Ext θ H θ (upd H p o) := by
  have k : ∀ a u, H a = some u → upd H p o a = some u := fun a u h => by rw [upd_ne (ne_of_none h hp)]; exact h
  refine ⟨fun _ _ h => .inl h, fun _ _ h => .inl h, fun a u _ h => k a u h, fun a xs h => k _ _ h, fun a u v h => k _ _ h, fun a h => ?_⟩
  cases e : H a with
  | none => exact absurd e h
  | some u => rw [k a u e]; simp
theorem OR.ext (e : Ext θ H θ1 H1) {a : Addr} {o : SO} (hk : H1 a = H a) (h : OR K (Zs Z0 θ) θ H a o) : OR K (Zs Z0 θ1) θ1 H1 a o := by
  cases o with
  | lst ws => obtain ⟨vs, h1, h2⟩ := h; exact ⟨vs, hk.trans h1, WRs.ext e h2⟩
  | dead => exact h
theorem SR.alloc {p : Addr} {o : HO} (S : SR K Z0 θ st H) (hp : H p = none) : SR K Z0 θ st (upd H p o) := by
  have nz := S.notZ hp
  refine ⟨S.len, S.nd, fun n a so h1 h2 => OR.ext (Ext.alloc hp) (upd_ne fun e => nz (.inl (e ▸ List.mem_of_getElem? h1))) (S.obj n a so h1 h2), S.dd, fun a h => ?_, S.dis⟩
  have hn := S.z0 a h
  cases e : H a with
  | none => exact absurd e hn
  | some u => rw [upd_ne (ne_of_none e hp), e]; simp
theorem Post.newLst {Q : V → Hp → Prop} {p : Addr} {ds : List PyData} {vs : List V} (h : Post C Z0 θ H (relW C.K Z0) (.ok (.d (.list ds)) st) Q) (S : SR C.K Z0 θ st H) (hp : H p = none) (r : PdAll C.K (Zs Z0 θ) H vs ds) : Q (.ref p) (upd H p (.lst vs)) :=
  h θ _ (.ref p) (Ext.alloc hp) (S.alloc hp) (show Pd _ _ _ _ _ from .lst ⟨.inl upd_same, S.notZ hp⟩ (PdAll.ext (Ext.alloc hp) r))
theorem Post.newTup {Q : V → Hp → Prop} {p : Addr} {ds : List PyData} {vs : List V} (h : Post C Z0 θ H (relW C.K Z0) (.ok (.d (.tuple ds)) st) Q) (S : SR C.K Z0 θ st H) (hp : H p = none) (r : PdAll C.K (Zs Z0 θ) H vs ds) : Q (.ref p) (upd H p (.tup vs)) :=
  h θ _ (.ref p) (Ext.alloc hp) (S.alloc hp) (show Pd _ _ _ _ _ from .tup (.inl (.inl upd_same)) (PdAll.ext (Ext.alloc hp) r))
theorem getElem?_snoc {α : Type} {l : List α} {x y : α} {n : Nat} (h : (l ++ [x])[n]? = some y) : l[n]? = some y ∨ (n = l.length ∧ y = x) := by
  by_cases hn : n < l.length
  · rw [List.getElem?_append_left hn] at h; exact .inl h
  · rw [List.getElem?_append_right (by omega)] at h
    have : n - l.length = 0 := by
      have := (List.getElem?_eq_some_iff.mp h).1
      simp at this; omega
    rw [this] at h
    exact .inr ⟨by omega, (by simpa using h.symm)⟩
theorem Ext.push {p : Addr} {o : HO} (hp : H p = none) : Ext θ H (θ ++ [some p]) (upd H p o) := by
  have a := Ext.alloc (θ := θ) (o := o) hp
  refine ⟨fun n b h => ?_, fun n b h => .inl ?_, a.keep, a.tup, a.frz, a.live⟩
  · rcases getElem?_snoc h with h | ⟨_, h⟩
    · exact .inl h
    · cases h; exact .inr hp
  · rw [List.getElem?_append_left (List.getElem?_eq_some_iff.mp h).1]; exact h
theorem SR.push {p : Addr} {ws : List W} {vs : List V} (S : SR K Z0 θ st H) (hp : H p = none) (r : WRs K (Zs Z0 θ) θ H ws vs) : SR K Z0 (θ ++ [some p]) (st ++ [.lst ws]) (upd H p (.lst vs)) := by
  have nz := S.notZ hp
  have np : ∀ n a, θ[n]? = some (some a) → a ≠ p := fun n a h1 e => nz (.inl (e ▸ List.mem_of_getElem? h1))
  refine ⟨by simp [S.len], fun m n a h1 h2 => ?_, fun n a so h1 h2 => ?_, fun n h => ?_, fun a h => ?_, fun a h => ?_⟩
  · rcases getElem?_snoc h1 with h1 | ⟨e1, h1⟩ <;> rcases getElem?_snoc h2 with h2 | ⟨e2, h2⟩
    · exact S.nd m n a h1 h2
    · cases h2; exact absurd rfl (np _ _ h1)
    · cases h1; exact absurd rfl (np _ _ h2)
    · omega
  · rcases getElem?_snoc h1 with h1 | ⟨e1, h1⟩
    · have hl : n < st.length := by rw [← S.len]; exact (List.getElem?_eq_some_iff.mp h1).1
      rw [List.getElem?_append_left hl] at h2
      exact OR.ext (Ext.push hp) (upd_ne (np _ _ h1)) (S.obj n a so h1 h2)
    · cases h1
      rw [e1, S.len, List.getElem?_append_right (Nat.le_refl _)] at h2
      have : so = .lst ws := by simpa using h2.symm
      subst this
      exact ⟨vs, upd_same, WRs.ext (Ext.push hp) r⟩
  · rcases getElem?_snoc h with h | ⟨_, h⟩
    · have e := S.dd n h
      rw [List.getElem?_append_left (List.getElem?_eq_some_iff.mp e).1]; exact e
    · cases h
  · have hn := S.z0 a h
    cases e : H a with
    | none => exact absurd e hn
    | some u => rw [upd_ne (ne_of_none e hp), e]; simp
  · rcases List.mem_append.mp h with h | h
    · exact S.dis a h
    · have e : a = p := by simpa using h
      subst e
      exact fun z => S.z0 _ z hp
theorem Post.newRef {Q : V → Hp → Prop} {p : Addr} {ws : List W} {vs : List V} (h : Post C Z0 θ H (relW C.K Z0) (.ok (.ref st.length) (st ++ [.lst ws])) Q) (S : SR C.K Z0 θ st H) (hp : H p = none) (r : WRs C.K (Zs Z0 θ) θ H ws vs) : Q (.ref p) (upd H p (.lst vs)) :=
  h _ _ (.ref p) (Ext.push hp) (S.push hp r) ⟨some p, by rw [← S.len]; simp, fun a e => by cases e; rfl⟩

/-! ### lists of data -/
theorem PdAll.length {ds : List PyData} {vs : List V} (h : PdAll K Z H vs ds) : vs.length = ds.length := by
  induction ds generalizing vs with
  | nil => cases h; rfl
  | cons d ds ih => cases h with | cons a b => simp [ih b]
theorem PdAll.append {ds es : List PyData} {vs us : List V} (h : PdAll K Z H vs ds) (g : PdAll K Z H us es) : PdAll K Z H (vs ++ us) (ds ++ es) := by
  induction ds generalizing vs with
  | nil => cases h; exact g
  | cons d ds ih => cases h with | cons a b => exact .cons a (ih b)
theorem PdAll.get {ds : List PyData} {vs : List V} (h : PdAll K Z H vs ds) {i : Nat} {d : PyData} (e : ds[i]? = some d) : ∃ v, vs[i]? = some v ∧ Pd K Z H v d := by
  induction ds generalizing vs i with
  | nil => simp at e
  | cons x ds ih =>
    cases h with
    | cons a b =>
      cases i with
      | zero => simp at e; subst e; exact ⟨_, by simp, a⟩
      | succ i => simpa using ih b (by simpa using e)
theorem PdAll.drop {ds : List PyData} {vs : List V} (n : Nat) (h : PdAll K Z H vs ds) : PdAll K Z H (vs.drop n) (ds.drop n) := by
  induction n generalizing vs ds with
  | zero => exact h
  | succ n ih =>
    cases ds with
    | nil => cases h; exact .nil
    | cons x ds => cases h with | cons a b => exact ih b
theorem PdAll.take {ds : List PyData} {vs : List V} (n : Nat) (h : PdAll K Z H vs ds) : PdAll K Z H (vs.take n) (ds.take n) := by
  induction n generalizing vs ds with
  | zero => exact .nil
  | succ n ih =>
    cases ds with
    | nil => cases h; exact .nil
    | cons x ds => cases h with | cons a b => exact .cons a (ih b)
theorem PdAll.reverse {ds : List PyData} {vs : List V} (h : PdAll K Z H vs ds) : PdAll K Z H vs.reverse ds.reverse := by
  induction ds generalizing vs with
  | nil => cases h; exact .nil
  | cons x ds ih => cases h with | cons a b => simp only [List.reverse_cons]; exact (ih b).append (.cons a .nil)
theorem PdAll.toWRs {ds : List PyData} {vs : List V} (h : PdAll K Z H vs ds) : WRs K Z θ H (ds.map W.d) vs := by
  induction ds generalizing vs with
  | nil => cases h; exact .nil
  | cons x ds ih => cases h with | cons a b => exact .cons a (ih b)
@[simp] def allD : List W → Option (List PyData)
  | [] => some []
  | .d x :: ws => (allD ws).map (x :: ·)
  | _ :: _ => none
theorem allD_map (ds : List PyData) : allD (ds.map W.d) = some ds := by
  induction ds with
  | nil => rfl
  | cons x ds ih => simp [allD, ih]
theorem allD_eq : ∀ {ws : List W} {ds : List PyData}, allD ws = some ds → ws = ds.map W.d
  | [], ds, h => by cases h; rfl
  | .d x :: ws, ds, h => by
    simp only [allD, Option.map_eq_some_iff] at h
    obtain ⟨es, h1, rfl⟩ := h
    rw [allD_eq h1]; rfl
  | .ref _ :: _, _, h => by cases h
  | .scr _ :: _, _, h => by cases h
theorem WRs.pd {ws : List W} {vs : List V} {ds : List PyData} (h : WRs K Z θ H ws vs) (e : allD ws = some ds) : PdAll K Z H vs ds := by
  have := allD_eq e
  subst this
  clear e
  induction ds generalizing vs with
  | nil => cases h; exact .nil
  | cons x ds ih => cases h with | cons a b => exact .cons a (ih b)
theorem WRs.length {ws : List W} {vs : List V} (h : WRs K Z θ H ws vs) : ws.length = vs.length := Paired.length h
theorem paired_get' {α β : Type} {F : α → β → Prop} {l₁ : List α} {l₂ : List β} (h : Paired F l₁ l₂) : ∀ {i : Nat} {a : α}, l₁[i]? = some a → ∃ b, l₂[i]? = some b ∧ F a b := fun {i a} e => L2.paired_get h e
/-- the live object behind a place -/
theorem SR.at_ (S : SR K Z0 θ st H) {n : Nat} {ws : List W} {v : V} (h : WR K (Zs Z0 θ) θ H (.ref n) v) (e : st[n]? = some (.lst ws)) : ∃ a vs, v = .ref a ∧ θ[n]? = some (some a) ∧ H a = some (.lst vs) ∧ WRs K (Zs Z0 θ) θ H ws vs := by
  obtain ⟨o, h1, h2⟩ := h
  cases o with
  | none => rw [S.dd n h1] at e; cases e
  | some a =>
    obtain ⟨vs, q1, q2⟩ := S.obj n a _ h1 e
    exact ⟨a, vs, h2 a rfl, h1, q1, q2⟩
/-- a value as data, read through the store -/
@[simp] def asD (st : Sto) : W → Option PyData
  | .d x => some x
  | .ref n => match st[n]? with
    | some (.lst ws) => (allD ws).map .list
    | _ => none
  | .scr ns => some (.list (ns.map .int))
theorem dpAll_ints : ∀ ns : List Int, DpAll K H (ns.map V.int) (ns.map PyData.int)
  | [] => .nil
  | n :: ns => .cons (.int n) (dpAll_ints ns)
theorem asD_dp (S : SR K Z0 θ st H) {w : W} {v : V} {x : PyData} (h : WR K (Zs Z0 θ) θ H w v) (e : asD st w = some x) : Dp K H v x := by
  cases w with
  | d y => cases e; exact Pd.dp h
  | ref n =>
    dsimp only [asD] at e
    split at e
    · rename_i ws hw
      obtain ⟨a, vs, rfl, _, h3, h4⟩ := S.at_ h hw
      simp only [Option.map_eq_some_iff] at e
      obtain ⟨ds, e1, rfl⟩ := e
      exact .lst (.inl (.inl h3)) (PdAll.dp (h4.pd e1))
    · cases e
  | scr ns =>
    cases e
    obtain ⟨a, rfl, h⟩ := h
    exact .lst h.sqL (dpAll_ints ns)
/-- the items of a list or a tuple -/
@[simp] def items (st : Sto) : W → Option (List W)
  | .d (.list ds) => some (ds.map .d)
  | .d (.tuple ds) => some (ds.map .d)
  | .ref n => match st[n]? with
    | some (.lst ws) => some ws
    | _ => none
  | .scr ns => some (ns.map fun n => .d (.int n))
  | _ => none
theorem pdAll_ints : ∀ ns : List Int, PdAll K Z H (ns.map V.int) (ns.map PyData.int)
  | [] => .nil
  | n :: ns => .cons (.int n) (pdAll_ints ns)
theorem items_sq (S : SR K Z0 θ st H) {w : W} {v : V} {ws : List W} (h : WR K (Zs Z0 θ) θ H w v) (e : items st w = some ws) : ∃ a vs, v = .ref a ∧ (SqL K H a vs ∨ SqT K H a vs) ∧ WRs K (Zs Z0 θ) θ H ws vs := by
  cases w with
  | d y =>
    cases y with
    | list ds => cases e; cases h with | lst h1 h2 => exact ⟨_, _, rfl, .inl h1.sqL, h2.toWRs⟩
    | tuple ds => cases e; cases h with | tup h1 h2 => exact ⟨_, _, rfl, .inr h1, h2.toWRs⟩
    | _ => cases e
  | ref n =>
    dsimp only [items] at e
    split at e
    · rename_i ws' hw
      cases e
      obtain ⟨a, vs, rfl, _, h3, h4⟩ := S.at_ h hw
      exact ⟨a, vs, rfl, .inl (.inl (.inl h3)), h4⟩
    · cases e
  | scr ns =>
    cases e
    obtain ⟨a, rfl, h⟩ := h
    refine ⟨a, _, rfl, .inl h.sqL, ?_⟩
    have := (pdAll_ints (K := K) (Z := Zs Z0 θ) (H := H) ns).toWRs (θ := θ)
    rwa [List.map_map] at this
end

/-! ### operators -/
def chk {α : Type} (c : Prop) [Decidable c] (r : R α) : R α := if c then r else .bad
theorem chk_ok {α : Type} {c : Prop} [Decidable c] {r : R α} (h : c) : chk c r = r := if_pos h
theorem Post.chk {C : Ct} {Z0 : Addr → Prop} {θ : List (Option Addr)} {H : Hp} {α β : Type} {rel : List (Option Addr) → Hp → α → β → Prop} {c : Prop} [Decidable c] {r : R α} {Q : β → Hp → Prop} (h : Post C Z0 θ H rel (chk c r) Q) : c ∧ Post C Z0 θ H rel r Q := by
  unfold Y.chk at h
  by_cases hc : c
  · rw [if_pos hc] at h; exact ⟨hc, h⟩
  · rw [if_neg hc] at h; exact h.elim
@[simp] def vAdd : W → W → Sto → R W
  | .d (.int i), .d (.int j), st => .ok (.d (.int (i + j))) st
  | .d (.str x), .d (.str y), st => chk (x.length + y.length ≤ sizeLine) (.ok (.d (.str (x ++ y))) st)
  | .d (.tuple xs), .d (.tuple ys), st => chk (xs.length + ys.length ≤ sizeLine) (.ok (.d (.tuple (xs ++ ys))) st)
  | .d (.list xs), .d (.list ys), st => chk (xs.length + ys.length ≤ sizeLine) (.ok (.d (.list (xs ++ ys))) st)
  | _, _, _ => .bad
@[simp] def vInt (g : Int → Int → Int) : W → W → Sto → R W
  | .d (.int i), .d (.int j), st => .ok (.d (.int (g i j))) st
  | _, _, _ => .bad
def vIntC (c : Int → Int → Bool) (g : Int → Int → Int) : W → W → Sto → R W
  | .d (.int i), .d (.int j), st => chk (c i j = true) (.ok (.d (.int (g i j))) st)
  | _, _, _ => .bad
abbrev vSub := vInt (· - ·)
def cMul (i j : Int) : Bool := (decide (-(2 ^ 64) < i) && decide (i < 2 ^ 64)) || (decide (-(2 ^ 64) < j) && decide (j < 2 ^ 64))
def cDiv (i j : Int) : Bool := decide (j ≠ 0) && decide (j.natAbs < 1073741824)
def cMod (i j : Int) : Bool := decide (j ≠ 0)
def cPow (i j : Int) : Bool := decide (0 ≤ j) && (decide (j ≤ 1000000) && decide (i.natAbs < 2 ^ 64))
abbrev vMul := vIntC cMul (· * ·)
abbrev vDiv := vIntC cDiv Int.fdiv
abbrev vMod := vIntC cMod Int.fmod
abbrev vPow := vIntC cPow fun i j => i ^ j.toNat
abbrev vXor := vInt Builtin.bitXor
section
variable {X : Cx} {C : Ct}
theorem sqL_raw {pins : List (Addr × Obj)} {σ : L2.St} {H : Hp} {s : Shared} {a : Addr} {xs : List V} (I : Inv X pins σ H s) (h : Rd H a (.lst xs)) : ∃ (its : List Value) (n : Nat), Vals xs its ∧ xs.length = its.length ∧ s.heap.get? a = some { cls := .type "list", data := .seq its.toArray n } := by
  obtain ⟨z, its, n, r, e⟩ := h.ok I.hok
  exact ⟨its, n, r, r.length, e⟩
theorem op_catL {pins : List (Addr × Obj)} {s : Shared} {σ : L2.St} {H : Hp} {l b : Addr} {xs zs : List V} {Q : VK} (I : Inv X pins σ H s) (hH : Rd H l (.lst xs)) (hB : Rd H b (.lst zs)) (hz : xs.length + zs.length ≤ sizeLine)
    (q : ∀ p, H p = none → Q (.ref p) (upd H p (.lst (xs ++ zs)))) : wpAny (model X.prog X.w) X.A (binaryOp .Add (.ref l) (.ref b)) (EP X pins σ Q) X.xe s := by
  obtain ⟨its, n, r, hl, e⟩ := sqL_raw I hH
  obtain ⟨its2, n2, r2, hl2, e2⟩ := sqL_raw I hB
  have room : its.toArray.size + its2.toArray.size ≤ sizeLine := by
    simp only [List.size_toArray]; omega
  refine PySem.P.add_list e e2 ?_ room
  rw [show its.toArray ++ its2.toArray = (its ++ its2).toArray from by simp]
  have both : (xs ++ zs).length ≤ sizeLine := by rw [List.length_append]; exact hz
  exact ⟨.ref _, _, I.lnew (t' := s.toks) (r.append r2) both, rfl, q _ I.fresh⟩
theorem opAdd (hK : C.K = X.K) : OpR X (binaryOp .Add) (rdO C vAdd) := by
  obtain ⟨K, mg, E⟩ := C
  obtain rfl : K = X.K := hK
  intro pins s σ H x y v u Q I rx ry h
  obtain ⟨Z0, θ, st, a, b, S, wa, wb, p⟩ := h
  unfold vAdd at p
  split at p
  · cases wa; cases wb
    exact op_add pins s σ H _ _ v u Q I rx ry ⟨_, _, rfl, rfl, p.now S (show Pd _ _ _ _ _ from .int _)⟩
  · cases wa; cases wb
    exact op_add_str pins s σ H _ _ v u Q I rx ry ⟨_, _, rfl, rfl, p.chk.1, p.chk.2.now S (show Pd _ _ _ _ _ from .str _)⟩
  · cases wa with
    | tup h1 h2 =>
      cases wb with
      | tup g1 g2 =>
        refine op_catA pins s σ H _ _ v u Q I rx ry ⟨_, _, _, _, rfl, rfl, h1, g1, by rw [h2.length, g2.length]; exact p.chk.1, fun e => ?_, fun _ e => ?_, fun _ _ q hq => ?_⟩
        · subst e; cases h2
          exact p.chk.2.now S (show Pd _ _ _ _ _ from .tup g1 g2)
        · subst e; cases g2
          have p2 := p.chk.2
          rw [List.append_nil] at p2
          exact p2.now S (show Pd _ _ _ _ _ from .tup h1 h2)
        · exact p.chk.2.newTup S hq (h2.append g2)
  · cases wa with
    | lst h1 h2 =>
      cases wb with
      | lst g1 g2 =>
        cases rx; cases ry
        exact op_catL I h1.1 g1.1 (by rw [h2.length, g2.length]; exact p.chk.1) fun q hq => p.chk.2.newLst S hq (h2.append g2)
  · exact p.elim
theorem opI {f : Value → Value → Sem Value} {g : Int → Int → Int} (ho : OpR X f (rI0 fun i j => .int (g i j))) : OpR X f (rdO C (vInt g)) := by
  intro pins s σ H x y v u Q I rx ry h
  obtain ⟨Z0, θ, st, a, b, S, wa, wb, p⟩ := h
  unfold vInt at p
  split at p
  · cases wa; cases wb
    exact ho pins s σ H _ _ v u Q I rx ry ⟨_, _, rfl, rfl, p.now S (show Pd _ _ _ _ _ from .int _)⟩
  · exact p.elim
theorem opIC {f : Value → Value → Sem Value} {c : Int → Int → Bool} {P : Int → Int → Prop} {g : Int → Int → Int} (ho : OpR X f (rI P fun i j => .int (g i j))) (hc : ∀ i j, c i j = true → P i j) : OpR X f (rdO C (vIntC c g)) := by
  intro pins s σ H x y v u Q I rx ry h
  obtain ⟨Z0, θ, st, a, b, S, wa, wb, p⟩ := h
  unfold vIntC at p
  split at p
  · cases wa; cases wb
    exact ho pins s σ H _ _ v u Q I rx ry ⟨_, _, rfl, rfl, hc _ _ p.chk.1, p.chk.2.now S (show Pd _ _ _ _ _ from .int _)⟩
  · exact p.elim
theorem opSub : OpR X (binaryOp .Sub) (rdO C vSub) := opI op_sub
theorem opXor : OpR X (binaryOp .BitXor) (rdO C vXor) := opI op_xor
theorem opMul : OpR X (binaryOp .Mult) (rdO C vMul) := opIC op_mul fun i j h => by simpa [cMul, CMul] using h
theorem opDiv : OpR X (binaryOp .FloorDiv) (rdO C vDiv) := opIC op_fdivN fun i j h => by simpa [cDiv, CDivN] using h
theorem opMod : OpR X (binaryOp .Mod) (rdO C vMod) := opIC op_modN fun i j h => by simpa [cMod] using h
theorem opPow : OpR X (binaryOp .Pow) (rdO C vPow) := opIC op_pow fun i j h => by simpa [cPow, CPow] using h
@[simp] def vNeg : W → Sto → R W
  | .d (.int i), st => .ok (.d (.int (-i))) st
  | _, _ => .bad
theorem unNeg : UnR X (unaryOp .USub) (rdU C vNeg) := by
  intro pins s σ H x v Q I rx h
  obtain ⟨Z0, θ, st, a, S, wa, p⟩ := h
  unfold vNeg at p
  split at p
  · cases wa
    exact un_neg pins s σ H _ v Q I rx ⟨_, rfl, p.now S (show Pd _ _ _ _ _ from .int _)⟩
  · exact p.elim

/-! ### comparisons -/
def asInts : List PyData → Option (List Int)
  | [] => some []
  | .int i :: r => (asInts r).map (i :: ·)
  | _ :: _ => none
theorem asInts_eq : ∀ {ds : List PyData} {ns : List Int}, asInts ds = some ns → ds = ns.map .int
  | [], ns, h => by cases h; rfl
  | .int i :: ds, ns, h => by
    simp only [asInts, Option.map_eq_some_iff] at h
    obtain ⟨es, h1, rfl⟩ := h
    rw [asInts_eq h1]; rfl
  | .none :: _, _, h => by cases h
  | .bool _ :: _, _, h => by cases h
  | .str _ :: _, _, h => by cases h
  | .list _ :: _, _, h => by cases h
  | .tuple _ :: _, _, h => by cases h
  | .dict _ :: _, _, h => by cases h
theorem asInts_map (ns : List Int) : asInts (ns.map .int) = some ns := by
  induction ns with
  | nil => rfl
  | cons n ns ih => simp [asInts, ih]
theorem PdAll.intsEq {K : PySem.W.Frag} {Z : Addr → Prop} {H : Hp} : ∀ {ns : List Int} {vs : List V}, PdAll K Z H vs (ns.map .int) → vs = ns.map V.int
  | [], _, h => by cases h; rfl
  | n :: ns, _, h => by cases h with | cons a b => cases a; rw [PdAll.intsEq b]; rfl
@[simp] def vLt : W → W → Sto → R W
  | .d (.int i), .d (.int j), st => .ok (.d (.bool (decide (i < j)))) st
  | .d (.str x), .d (.str y), st => .ok (.d (.bool (decide (x.cps.toList < y.cps.toList)))) st
  | .d (.tuple xs), .d (.tuple ys), st => match asInts xs, asInts ys with
    | some ns, some ms => .ok (.d (.bool (HT.lexLt ns ms))) st
    | _, _ => .bad
  | _, _, _ => .bad
theorem opLt (hK : C.K = X.K) (hu : X.A.units < cLine) : OpR X (compareOp .Lt) (rdO C vLt) := by
  obtain ⟨K, mg, E⟩ := C
  obtain rfl : K = X.K := hK
  intro pins s σ H x y v u Q I rx ry h
  obtain ⟨Z0, θ, st, a, b, S, wa, wb, p⟩ := h
  unfold vLt at p
  split at p
  · cases wa; cases wb
    exact op_lt pins s σ H _ _ v u Q I rx ry ⟨_, _, rfl, rfl, p.now S (show Pd _ _ _ _ _ from .bl _)⟩
  · cases wa; cases wb
    exact op_lt_str pins s σ H _ _ v u Q I rx ry ⟨_, _, rfl, rfl, p.now S (show Pd _ _ _ _ _ from .bl _)⟩
  · split at p
    · rename_i ns ms e1 e2
      have e1 := asInts_eq e1
      have e2 := asInts_eq e2
      subst e1 e2
      cases wa with
      | tup h1 h2 =>
        cases wb with
        | tup g1 g2 =>
          have i1 := h2.intsEq
          have i2 := g2.intsEq
          subst i1 i2
          exact op_ltT hu pins s σ H _ _ v u Q I rx ry ⟨_, _, ns, ms, rfl, rfl, h1, g1, p.now S (show Pd _ _ _ _ _ from .bl _)⟩
    · exact p.elim
  · exact p.elim
@[simp] def vLe : W → W → Sto → R W
  | .d (.int i), .d (.int j), st => .ok (.d (.bool (decide (i ≤ j)))) st
  | .d (.str x), .d (.str y), st => .ok (.d (.bool (!decide (y.cps.toList < x.cps.toList)))) st
  | _, _, _ => .bad
theorem opLe : OpR X (compareOp .LtE) (rdO C vLe) := by
  intro pins s σ H x y v u Q I rx ry h
  obtain ⟨Z0, θ, st, a, b, S, wa, wb, p⟩ := h
  unfold vLe at p
  split at p
  · cases wa; cases wb
    exact op_le pins s σ H _ _ v u Q I rx ry ⟨_, _, rfl, rfl, p.now S (show Pd _ _ _ _ _ from .bl _)⟩
  · cases wa; cases wb
    exact op_le_str pins s σ H _ _ v u Q I rx ry ⟨_, _, rfl, rfl, p.now S (show Pd _ _ _ _ _ from .bl _)⟩
  · exact p.elim
@[simp] def vGt : W → W → Sto → R W
  | .d (.int i), .d (.int j), st => .ok (.d (.bool (decide (j < i)))) st
  | _, _, _ => .bad
theorem opGt : OpR X (compareOp .Gt) (rdO C vGt) := by
  intro pins s σ H x y v u Q I rx ry h
  obtain ⟨Z0, θ, st, a, b, S, wa, wb, p⟩ := h
  unfold vGt at p
  split at p
  · cases wa; cases wb
    exact op_gt pins s σ H _ _ v u Q I rx ry ⟨_, _, rfl, rfl, p.now S (show Pd _ _ _ _ _ from .bl _)⟩
  · exact p.elim
@[simp] def vGe : W → W → Sto → R W
  | .d (.int i), .d (.int j), st => .ok (.d (.bool (decide (j ≤ i)))) st
  | _, _, _ => .bad
theorem opGe : OpR X (compareOp .GtE) (rdO C vGe) := by
  intro pins s σ H x y v u Q I rx ry h
  obtain ⟨Z0, θ, st, a, b, S, wa, wb, p⟩ := h
  unfold vGe at p
  split at p
  · cases wa; cases wb
    exact op_ge pins s σ H _ _ v u Q I rx ry ⟨_, _, rfl, rfl, p.now S (show Pd _ _ _ _ _ from .bl _)⟩
  · exact p.elim
@[simp] def vEq (neg : Bool) : W → W → Sto → R W := fun a b st => match a, b with
  | .d (.str x), .d (.str y) => .ok (.d (.bool (neg ^^ decide (x = y)))) st
  | a, b => match asD st a, asD st b with
    | some d, some e => chk (SeqAt.shaped d = true ∧ SeqAt.shaped e = true) (.ok (.d (.bool (neg ^^ PyData.eqv d e))) st)
    | _, _ => .bad
theorem opEq (hK : C.K = X.K) (hu : X.A.units + 64 < cLine) : OpR X (compareOp .Eq) (rdO C (vEq false)) := by
  obtain ⟨K, mg, E⟩ := C
  obtain rfl : K = X.K := hK
  intro pins s σ H x y v u Q I rx ry h
  obtain ⟨Z0, θ, st, a, b, S, wa, wb, p⟩ := h
  unfold vEq at p
  split at p
  · cases wa; cases wb
    refine op_eq pins s σ H _ _ v u Q I rx ry ⟨rfl, ?_⟩
    have q := p
    rw [Bool.false_xor] at q
    have q := q.now S (show Pd _ _ _ _ _ from .bl _)
    simpa using q
  · split at p
    · rename_i d e h1 h2
      exact op_eqD hu pins s σ H _ _ v u Q I rx ry ⟨d, e, asD_dp S wa h1, asD_dp S wb h2, p.chk.1.1, p.chk.1.2, by have q := p.chk.2; rw [Bool.false_xor] at q; exact q.now S (show Pd _ _ _ _ _ from .bl _)⟩
    · exact p.elim
theorem opNe (hK : C.K = X.K) (hu : X.A.units + 64 < cLine) : OpR X (compareOp .NotEq) (rdO C (vEq true)) := by
  obtain ⟨K, mg, E⟩ := C
  obtain rfl : K = X.K := hK
  intro pins s σ H x y v u Q I rx ry h
  obtain ⟨Z0, θ, st, a, b, S, wa, wb, p⟩ := h
  unfold vEq at p
  split at p
  · cases wa; cases wb
    refine op_ne pins s σ H _ _ v u Q I rx ry ⟨rfl, ?_⟩
    have q := p
    rw [Bool.true_xor] at q
    have q := q.now S (show Pd _ _ _ _ _ from .bl _)
    simpa using q
  · split at p
    · rename_i d e h1 h2
      exact op_neD hu pins s σ H _ _ v u Q I rx ry ⟨d, e, asD_dp S wa h1, asD_dp S wb h2, p.chk.1.1, p.chk.1.2, by have q := p.chk.2; rw [Bool.true_xor] at q; exact q.now S (show Pd _ _ _ _ _ from .bl _)⟩
    · exact p.elim
@[simp] def vIs (neg : Bool) : W → W → Sto → R W
  | .d x, .d .none, st => .ok (.d (.bool (neg ^^ match x with | .none => true | _ => false))) st
  | .d (.bool a), .d (.bool b), st => .ok (.d (.bool (neg ^^ decide (a = b)))) st
  | _, _, _ => .bad
end
end Y
namespace Y
open PySem PySem.Spec PyProof.Rows L2
section
variable {X : Cx} {C : Ct}
theorem opIs (hK : C.K = X.K) : OpR X (compareOp .Is) (rdO C (vIs false)) := by
  obtain ⟨K, mg, E⟩ := C
  obtain rfl : K = X.K := hK
  intro pins s σ H x y v u Q I rx ry h
  obtain ⟨Z0, θ, st, a, b, S, wa, wb, p⟩ := h
  unfold vIs at p
  split at p
  · cases wb
    refine op_isN pins s σ H _ _ v u Q I rx ry ⟨rfl, ?_⟩
    rename_i d
    cases d <;> cases wa <;> exact p.now S (show Pd _ _ _ _ _ from .bl _)
  · cases wa; cases wb
    exact op_isBl pins s σ H _ _ v u Q I rx ry ⟨_, _, rfl, rfl, by rw [Bool.false_xor] at p; exact p.now S (show Pd _ _ _ _ _ from .bl _)⟩
  · exact p.elim
theorem opIsNot (hK : C.K = X.K) : OpR X (compareOp .IsNot) (rdO C (vIs true)) := by
  obtain ⟨K, mg, E⟩ := C
  obtain rfl : K = X.K := hK
  intro pins s σ H x y v u Q I rx ry h
  obtain ⟨Z0, θ, st, a, b, S, wa, wb, p⟩ := h
  unfold vIs at p
  split at p
  · cases wb
    refine op_notN pins s σ H _ _ v u Q I rx ry ⟨rfl, ?_⟩
    rename_i d
    cases d <;> cases wa <;> exact p.now S (show Pd _ _ _ _ _ from .bl _)
  · cases wa; cases wb
    exact op_notBl pins s σ H _ _ v u Q I rx ry ⟨_, _, rfl, rfl, by rw [Bool.true_xor] at p; exact p.now S (show Pd _ _ _ _ _ from .bl _)⟩
  · exact p.elim
/-- x in y: texts, lists, tuples of data -/
@[simp] def vIn (neg : Bool) : W → W → Sto → R W := fun a b st => match a, b with
  | .d (.str x), .d (.str y) => .ok (.d (.bool (neg ^^ !(Builtin.Str.occurrences y x 0 y.length 1).isEmpty))) st
  | a, b => match asD st a, asD st b with
    | some d, some (.list ds) => chk (SeqAt.shaped d = true ∧ SeqAt.shaped (.list ds) = true) (.ok (.d (.bool (neg ^^ ds.any fun z => PyData.eqv z d))) st)
    | some d, some (.tuple ds) => chk (SeqAt.shaped d = true ∧ SeqAt.shaped (.tuple ds) = true) (.ok (.d (.bool (neg ^^ ds.any fun z => PyData.eqv z d))) st)
    | _, _ => .bad
theorem opIn (hK : C.K = X.K) (hu : X.A.units + 65 < cLine) : OpR X (compareOp .In) (rdO C (vIn false)) := by
  obtain ⟨K, mg, E⟩ := C
  obtain rfl : K = X.K := hK
  intro pins s σ H x y v u Q I rx ry h
  obtain ⟨Z0, θ, st, a, b, S, wa, wb, p⟩ := h
  unfold vIn at p
  split at p
  · cases wa; cases wb
    exact op_in_str pins s σ H _ _ v u Q I rx ry ⟨_, _, rfl, rfl, by rw [Bool.false_xor] at p; exact p.now S (show Pd _ _ _ _ _ from .bl _)⟩
  · split at p
    · rename_i h1 h2
      obtain ⟨as, r1⟩ := Dp.reads I _ x v (asD_dp S wa h1) rx
      obtain ⟨bs, r2⟩ := Dp.reads I _ y u (asD_dp S wb h2) ry
      refine SeqAt.in_list_reads r2 r1 (SeqAt.canLay_of_shaped p.chk.1.2) (SeqAt.canLay_of_shaped p.chk.1.1) (room_in_shaped p.chk.1.1 hu) ⟨.bl _, H, I, rfl, ?_⟩
      have q := p.chk.2; rw [Bool.false_xor] at q; exact q.now S (show Pd _ _ _ _ _ from .bl _)
    · rename_i h1 h2
      obtain ⟨as, r1⟩ := Dp.reads I _ x v (asD_dp S wa h1) rx
      obtain ⟨bs, r2⟩ := Dp.reads I _ y u (asD_dp S wb h2) ry
      refine SeqAt.in_tuple_reads r2 r1 (SeqAt.canLay_of_shaped p.chk.1.2) (SeqAt.canLay_of_shaped p.chk.1.1) (room_in_shaped p.chk.1.1 hu) ⟨.bl _, H, I, rfl, ?_⟩
      have q := p.chk.2; rw [Bool.false_xor] at q; exact q.now S (show Pd _ _ _ _ _ from .bl _)
    · exact p.elim
theorem opNotIn (hK : C.K = X.K) (hu : X.A.units + 65 < cLine) : OpR X (compareOp .NotIn) (rdO C (vIn true)) := by
  obtain ⟨K, mg, E⟩ := C
  obtain rfl : K = X.K := hK
  intro pins s σ H x y v u Q I rx ry h
  obtain ⟨Z0, θ, st, a, b, S, wa, wb, p⟩ := h
  unfold vIn at p
  split at p
  · cases wa; cases wb
    exact op_notIn_str pins s σ H _ _ v u Q I rx ry ⟨_, _, rfl, rfl, by rw [Bool.true_xor] at p; exact p.now S (show Pd _ _ _ _ _ from .bl _)⟩
  · split at p
    · rename_i h1 h2
      obtain ⟨as, r1⟩ := Dp.reads I _ x v (asD_dp S wa h1) rx
      obtain ⟨bs, r2⟩ := Dp.reads I _ y u (asD_dp S wb h2) ry
      refine SeqAt.notIn_list_reads r2 r1 (SeqAt.canLay_of_shaped p.chk.1.2) (SeqAt.canLay_of_shaped p.chk.1.1) (room_in_shaped p.chk.1.1 hu) ⟨.bl _, H, I, rfl, ?_⟩
      have q := p.chk.2; rw [Bool.true_xor] at q; exact q.now S (show Pd _ _ _ _ _ from .bl _)
    · rename_i h1 h2
      obtain ⟨as, r1⟩ := Dp.reads I _ x v (asD_dp S wa h1) rx
      obtain ⟨bs, r2⟩ := Dp.reads I _ y u (asD_dp S wb h2) ry
      refine SeqAt.notIn_tuple_reads r2 r1 (SeqAt.canLay_of_shaped p.chk.1.2) (SeqAt.canLay_of_shaped p.chk.1.1) (room_in_shaped p.chk.1.1 hu) ⟨.bl _, H, I, rfl, ?_⟩
      have q := p.chk.2; rw [Bool.true_xor] at q; exact q.now S (show Pd _ _ _ _ _ from .bl _)
    · exact p.elim
/-- a chain -/
theorem t_chain {g g' : W → W → Sto → R W} {fa fb fc : En → Sto → R W} {σ : L2.St} {H : Hp} {Q : VK} (q : rdE C (dChain g g' fa fb fc) σ H Q) : tChain (rdO C g) (rdO C g') (rdE C fa) (rdE C fb) (rdE C fc) σ H Q := by
  obtain ⟨Z0, θ, ρ, st, S, N, p⟩ := q
  exact ⟨Z0, θ, ρ, st, S, N, Post.bind p fun w st1 θ1 H1 v _ e1 S1 w1 p1 => ⟨Z0, θ1, ρ, st1, S1, N.ext e1, Post.bind p1 fun w' st2 θ2 H2 v' _ e2 S2 w2 p2 => ⟨Z0, θ2, st2, w, w', S2, w1.ext e2, w2,
    post_asB p2 fun k st3 θ3 H3 e3 S3 p3 => ⟨k, rfl, by
      cases k with
      | true =>
        rw [if_pos rfl] at p3
        rw [if_pos rfl]
        exact ⟨Z0, θ3, ρ, st3, S3, ((N.ext e1).ext e2).ext e3, Post.bind p3 fun w'' st4 θ4 H4 v'' _ e4 S4 w4 p4 => ⟨Z0, θ4, st4, w', w'', S4, (w2.ext e3).ext e4, w4, p4⟩⟩
      | false =>
        rw [if_neg (by simp)] at p3
        rw [if_neg (by simp)]
        exact p3.now S3 (show Pd _ _ _ _ _ from .bl _)⟩⟩⟩⟩
theorem y_chain {a b c : Expr} {pos : Pos} {g g' : W → W → Sto → R W} {fa fb fc : En → Sto → R W} {op op' : CmpOp} (ho : OpR X (compareOp op) (rdO C g)) (ho' : OpR X (compareOp op') (rdO C g')) (ha : PE X a (rdE C fa)) (hb : PE X b (rdE C fb)) (hc : PE X c (rdE C fc))
    (hm : lastMarks [op, op'] [b, c] = false := by with_unfolding_all rfl) : PE X (.Compare a [op, op'] [b, c] pos) (rdE C (dChain g g' fa fb fc)) := PE.imp (pe_chain ho ho' ha hb hc hm) fun _ _ _ => t_chain
theorem y_tchain {a b c : Expr} {pos : Pos} {g g' : W → W → Sto → R W} {fa fb fc : En → Sto → R W} {op op' : CmpOp} (ho : OpR X (compareOp op) (rdO C g)) (ho' : OpR X (compareOp op') (rdO C g')) (ha : PE X a (rdE C fa)) (hb : PE X b (rdE C fb)) (hc : PE X c (rdE C fc))
    (hm : lastMarks [op, op'] [b, c] = false := by with_unfolding_all rfl) : PT X (.Compare a [op, op'] [b, c] pos) (rdT C fun ρ st => asB (dChain g g' fa fb fc ρ st)) := PT.imp (pt_chain ho ho' ha hb hc hm) fun _ _ _ q => t_test (fun _ _ _ => t_chain) q

/-! ### arguments, displays -/
@[simp] def dNil : En → Sto → R (List W) := fun _ st => .ok [] st
@[simp] def dCons (f : En → Sto → R W) (g : En → Sto → R (List W)) : En → Sto → R (List W) := fun ρ st => (f ρ st).bind fun w s => (g ρ s).bind fun ws s => .ok (w :: ws) s
theorem t_nil {σ : L2.St} {H : Hp} {Q : List V → Hp → Prop} (q : rdA C dNil σ H Q) : tNil σ H Q := by
  obtain ⟨Z0, θ, ρ, st, S, N, p⟩ := q
  exact p.now S .nil
theorem t_cons {f : En → Sto → R W} {g : En → Sto → R (List W)} {σ : L2.St} {H : Hp} {Q : List V → Hp → Prop} (q : rdA C (dCons f g) σ H Q) : tCons (rdE C f) (rdA C g) σ H Q := by
  obtain ⟨Z0, θ, ρ, st, S, N, p⟩ := q
  exact ⟨Z0, θ, ρ, st, S, N, Post.bind p fun w st1 θ1 H1 v _ e1 S1 w1 p1 => ⟨Z0, θ1, ρ, st1, S1, N.ext e1, Post.bind p1 fun ws st2 θ2 H2 vs _ e2 S2 w2 p2 => p2.now S2 (.cons (w1.ext e2) w2)⟩⟩
theorem y_nil : PA X [] (rdA C dNil) := PA.imp pa_nil fun _ _ _ => t_nil
theorem y_cons {e : Expr} {es : List Expr} {f : En → Sto → R W} {g : En → Sto → R (List W)} (h : PE X e (rdE C f)) (hr : PA X es (rdA C g)) (hs : starEach (e :: es) X.env = (false, eval e X.env) :: starEach es X.env := by rfl) : PA X (e :: es) (rdA C (dCons f g)) := PA.imp (pa_cons h hr hs) fun _ _ _ => t_cons
@[simp] def dTup (f : En → Sto → R (List W)) : En → Sto → R W := fun ρ st => (f ρ st).bind fun ws s => match allD ws with
  | some ds => chk (ds.length ≤ sizeLine) (.ok (.d (.tuple ds)) s)
  | none => .bad
/-- a new list that is not to change -/
@[simp] def dLst (f : En → Sto → R (List W)) : En → Sto → R W := fun ρ st => (f ρ st).bind fun ws s => match allD ws with
  | some ds => chk (ds.length ≤ sizeLine) (.ok (.d (.list ds)) s)
  | none => .bad
/-- a new list of the store -/
@[simp] def dNew (f : En → Sto → R (List W)) : En → Sto → R W := fun ρ st => (f ρ st).bind fun ws s => chk (ws.length ≤ sizeLine) (.ok (.ref s.length) (s ++ [.lst ws]))
theorem y_tup {es : List Expr} {pos : Pos} {x1} {f : En → Sto → R (List W)} (h : PA X es (rdA C f)) : PE X (.Tuple es x1 pos) (rdE C (dTup f)) := PE.imp (pe_tup h) fun σ H Q q => by
  obtain ⟨Z0, θ, ρ, st, S, N, p⟩ := q
  refine ⟨Z0, θ, ρ, st, S, N, Post.bind p fun ws st1 θ1 H1 vs _ e1 S1 w1 p1 => ?_⟩
  split at p1
  · rename_i ds e
    have r := w1.pd e
    exact ⟨by rw [r.length]; exact p1.chk.1, fun t ht => p1.chk.2.newTup S1 ht r⟩
  · exact p1.elim
theorem y_lst {es : List Expr} {pos : Pos} {f : En → Sto → R (List W)} (h : PA X es (rdA C f)) : PE X (.List es pos) (rdE C (dLst f)) := PE.imp (pe_lst h) fun σ H Q q => by
  obtain ⟨Z0, θ, ρ, st, S, N, p⟩ := q
  refine ⟨Z0, θ, ρ, st, S, N, Post.bind p fun ws st1 θ1 H1 vs _ e1 S1 w1 p1 => ?_⟩
  split at p1
  · rename_i ds e
    have r := w1.pd e
    exact ⟨by rw [r.length]; exact p1.chk.1, fun t ht => p1.chk.2.newLst S1 ht r⟩
  · exact p1.elim
theorem y_new {es : List Expr} {pos : Pos} {f : En → Sto → R (List W)} (h : PA X es (rdA C f)) : PE X (.List es pos) (rdE C (dNew f)) := PE.imp (pe_lst h) fun σ H Q q => by
  obtain ⟨Z0, θ, ρ, st, S, N, p⟩ := q
  refine ⟨Z0, θ, ρ, st, S, N, Post.bind p fun ws st1 θ1 H1 vs _ e1 S1 w1 p1 => ?_⟩
  exact ⟨by rw [← w1.length]; exact p1.chk.1, fun t ht => p1.chk.2.newRef S1 ht w1⟩

/-! ### subscripts, slices -/
@[simp] def vIx : W → W → Sto → R W := fun a i st => match i with
  | .d (.int i) => match a with
    | .d (.str z) => chk (z.length ≤ sizeLine) (match atI z.cps.toList i with
      | some c => .ok (.d (.str ⟨#[c]⟩)) st
      | none => .bad)
    | a => match items st a with
      | some ws => match atI ws i with
        | some w => .ok w st
        | none => .bad
      | none => .bad
  | _ => .bad
theorem atI_rel {α β : Type} {F : α → β → Prop} {l₁ : List α} {l₂ : List β} {i : Int} {x : α} (h : Paired F l₁ l₂) (e : atI l₁ i = some x) : ∃ y, atI l₂ i = some y ∧ F x y := by
  unfold atI at e ⊢
  rw [← Paired.length h]
  cases q : ixN l₁.length i with
  | none => rw [q] at e; cases e
  | some j =>
    rw [q] at e
    exact L2.paired_get h e
theorem ixR (hK : C.K = X.K) : IxR X (rdO C vIx) := by
  obtain ⟨K, mg, E⟩ := C
  obtain rfl : K = X.K := hK
  intro o sl pins s σ H x y v u Q I rx ry h hsb
  obtain ⟨Z0, θ, st, a, b, S, wa, wb, p⟩ := h
  unfold vIx at p
  split at p
  · cases wb
    split at p
    · cases wa
      obtain ⟨hz, p⟩ := p.chk
      split at p
      · rename_i c hc
        exact ix_seq o sl pins s σ H _ _ v u Q I rx ry (.inr (.inr ⟨_, _, c, rfl, rfl, hz, hc, p.now S (show Pd _ _ _ _ _ from .str _)⟩)) hsb
      · exact p.elim
    · split at p
      · rename_i ws hw
        split at p
        · rename_i w hx
          obtain ⟨p', vs, rfl, hs, r⟩ := items_sq S wa hw
          obtain ⟨y', hy, ry'⟩ := atI_rel r hx
          refine ix_seq o sl pins s σ H _ _ v u Q I rx ry ?_ hsb
          rcases hs with hs | hs
          · exact .inl ⟨_, _, _, _, rfl, rfl, hs, hy, p.now S ry'⟩
          · exact .inr (.inl ⟨_, _, _, _, rfl, rfl, hs, hy, p.now S ry'⟩)
        · exact p.elim
      · exact p.elim
  · exact p.elim
theorem y_ix {a b : Expr} {pos : Pos} {fa fb : En → Sto → R W} (hK : C.K = X.K) (ha : PE X a (rdE C fa)) (hb : PE X b (rdE C fb)) (hs : PlainIx b := by intro _ _; rfl) : PE X (.Subscript a b pos) (rdE C (dBin vIx fa fb)) := PE.imp (pe_ix (ixR hK) ha hb hs) fun _ _ _ => t_bin
def relO : List (Option Addr) → Hp → Option Int → Option Int → Prop := fun _ _ a b => a = b
def rdP (C : Ct) (f : En → Sto → R (Option Int)) : TO := fun σ H Q => ∃ Z0 θ ρ st, SR C.K Z0 θ st H ∧ EnR C.K (Zs Z0 θ) θ H ρ σ ∧ Post C Z0 θ H relO (f ρ st) Q
@[simp] def dNoP : En → Sto → R (Option Int) := fun _ st => .ok none st
@[simp] def dPart (f : En → Sto → R W) : En → Sto → R (Option Int) := fun ρ st => (f ρ st).bind fun w s => match w with
  | .d (.int i) => .ok (some i) s
  | _ => .bad
theorem PO.imp {e : Option Expr} {t t' : TO} (h : PO X e t) (k : ∀ σ H Q, t' σ H Q → t σ H Q) : PO X e t' := ⟨fun pins s σ H Q I q => h.run pins s σ H Q I (k σ H Q q)⟩
theorem y_noP : PO X none (rdP C dNoP) := PO.imp po_none fun σ H Q q => by
  obtain ⟨Z0, θ, ρ, st, S, N, p⟩ := q
  exact p.now S rfl
theorem y_part {e : Expr} {f : En → Sto → R W} (h : PE X e (rdE C f)) : PO X (some e) (rdP C (dPart f)) := PO.imp (po_some h) fun σ H Q q => by
  obtain ⟨Z0, θ, ρ, st, S, N, p⟩ := q
  refine ⟨Z0, θ, ρ, st, S, N, Post.bind p fun w st1 θ1 H1 v _ e1 S1 w1 p1 => ?_⟩
  split at p1
  · cases w1
    exact ⟨_, rfl, p1.now S1 rfl⟩
  · exact p1.elim
def cut {α : Type} (xs : List α) (lo hi : Option Int) : List α := (xs.drop (HT.sIx xs.length 0 lo)).take (HT.sIx xs.length xs.length hi - HT.sIx xs.length 0 lo)
@[simp] def vSl : W → Option Int → Option Int → Sto → R W := fun a lo hi st => match a with
  | .d (.str z) => chk (z.length ≤ sizeLine) (.ok (.d (.str (Txt.slice z lo hi))) st)
  | .d (.tuple ds) => .ok (.d (.tuple (cut ds lo hi))) st
  | a => match asD st a with
    | some (.list ds) => .ok (.d (.list (cut ds lo hi))) st
    | _ => .bad
@[simp] def dSl (fe : En → Sto → R W) (fl fh : En → Sto → R (Option Int)) : En → Sto → R W := fun ρ st => (fe ρ st).bind fun w s => (fl ρ s).bind fun lo s => (fh ρ s).bind fun hi s => vSl w lo hi s
theorem PdAll.cut {K : PySem.W.Frag} {Z : Addr → Prop} {H : Hp} {ds : List PyData} {vs : List V} (h : PdAll K Z H vs ds) (lo hi : Option Int) : PdAll K Z H (cutV vs lo hi) (Y.cut ds lo hi) := by
  unfold cutV Y.cut
  rw [h.length]
  exact (h.drop _).take _
theorem cut_whole {α : Type} {xs : List α} {lo hi : Option Int} (h : HT.sIx xs.length 0 lo = 0 ∧ HT.sIx xs.length xs.length hi = xs.length) : cut xs lo hi = xs := by
  unfold cut
  rw [h.1, h.2]
  simp
/-- a list of data, read -/
theorem asD_list {K : PySem.W.Frag} {Z0 : Addr → Prop} {θ : List (Option Addr)} {H : Hp} {st : Sto} (S : SR K Z0 θ st H) {w : W} {v : V} {ds : List PyData} (h : WR K (Zs Z0 θ) θ H w v) (e : asD st w = some (.list ds)) : ∃ a vs, v = .ref a ∧ SqL K H a vs ∧ PdAll K (Zs Z0 θ) H vs ds := by
  cases w with
  | d y => cases e; cases h with | lst h1 h2 => exact ⟨_, _, rfl, h1.sqL, h2⟩
  | ref n =>
    dsimp only [asD] at e
    split at e
    · rename_i ws hw
      obtain ⟨a, vs, rfl, _, h3, h4⟩ := S.at_ h hw
      simp only [Option.map_eq_some_iff] at e
      obtain ⟨ds', e1, e2⟩ := e
      cases e2
      exact ⟨a, vs, rfl, .inl (.inl h3), h4.pd e1⟩
    · cases e
  | scr ns =>
    cases e
    obtain ⟨a, rfl, h⟩ := h
    exact ⟨a, _, rfl, h.sqL, pdAll_ints ns⟩
theorem y_sl {e : Expr} {lo hi : Option Expr} {pos p2 : Pos} {fe : En → Sto → R W} {fl fh : En → Sto → R (Option Int)} (hK : C.K = X.K) (he : PE X e (rdE C fe)) (hl : PO X lo (rdP C fl)) (hh : PO X hi (rdP C fh)) : PE X (.Subscript e (.Slice lo hi none p2) pos) (rdE C (dSl fe fl fh)) := by
  obtain ⟨K, mg, E⟩ := C
  obtain rfl : K = X.K := hK
  refine PE.imp (pe_slice (SlR.or sl_list (SlR.or sl_tupA C8.sl_txt)) he hl hh) fun σ H Q q => ?_
  obtain ⟨Z0, θ, ρ, st, S, N, p⟩ := q
  refine ⟨Z0, θ, ρ, st, S, N, Post.bind p fun w st1 θ1 H1 v _ e1 S1 w1 p1 => ⟨Z0, θ1, ρ, st1, S1, N.ext e1, Post.bind p1 fun l st2 θ2 H2 l' _ e2 S2 w2 p2 => ⟨Z0, θ2, ρ, st2, S2, (N.ext e1).ext e2, Post.bind p2 fun h st3 θ3 H3 h' _ e3 S3 w3 p3 => ?_⟩⟩⟩
  cases w2
  cases w3
  have w4 := (w1.ext e2).ext e3
  unfold vSl at p3
  split at p3
  · cases w4
    exact .inr (.inr ⟨_, rfl, p3.chk.1, p3.chk.2.now S3 (show Pd _ _ _ _ _ from .str _)⟩)
  · cases w4 with
    | tup h1 h2 =>
      refine .inr (.inl ⟨_, _, rfl, h1, fun hw => ?_, fun _ t ht => ?_⟩)
      · rw [h2.length] at hw
        rw [cut_whole hw] at p3
        exact p3.now S3 (show Pd _ _ _ _ _ from .tup h1 h2)
      · exact p3.newTup S3 ht (h2.cut _ _)
  · split at p3
    · rename_i hd
      obtain ⟨a, vs, rfl, hs, r⟩ := asD_list S3 w4 hd
      exact .inl ⟨_, _, rfl, hs, fun t ht => p3.newLst S3 ht (r.cut _ _)⟩
    · exact p3.elim
/-- xs[::-1], a list -/
@[simp] def dRev (fe : En → Sto → R W) : En → Sto → R W := fun ρ st => (fe ρ st).bind fun w s => match asD s w with
  | some (.list ds) => .ok (.d (.list ds.reverse)) s
  | _ => .bad
theorem y_rev {e : Expr} {k : Nat} {p1 p2 p3 pos : Pos} {fe : En → Sto → R W} (hK : C.K = X.K) (he : PE X e (rdE C fe)) : PE X (.Subscript e (.Slice none none (some (.UnaryOp .USub (.Constant (.int 1) k p1) p2)) p3) pos) (rdE C (dRev fe)) := by
  obtain ⟨K, mg, E⟩ := C
  obtain rfl : K = X.K := hK
  refine PE.imp (pe_revL he) fun σ H Q q => ?_
  obtain ⟨Z0, θ, ρ, st, S, N, p⟩ := q
  refine ⟨Z0, θ, ρ, st, S, N, Post.bind p fun w st1 θ1 H1 v _ e1 S1 w1 p1 => ?_⟩
  split at p1
  · rename_i hd
    obtain ⟨a, vs, rfl, hs, r⟩ := asD_list S1 w1 hd
    exact ⟨_, _, rfl, hs, fun t ht => p1.newLst S1 ht r.reverse⟩
  · exact p1.elim
end
end Y

namespace Y
open PySem PySem.Spec PyProof.Rows L2
section
variable {X : Cx} {C : Ct}
/-! ### built-ins called by their names -/
@[simp] def dCall (g : List W → Sto → R W) (fa : En → Sto → R (List W)) : En → Sto → R W := fun ρ st => (fa ρ st).bind fun ws s => g ws s
theorem t_callB {g : List W → Sto → R W} {fa : En → Sto → R (List W)} {σ : L2.St} {H : Hp} {Q : VK} (q : rdE C (dCall g fa) σ H Q) : tCB (rdC C g) (rdA C fa) σ H Q := by
  obtain ⟨Z0, θ, ρ, st, S, N, p⟩ := q
  exact ⟨Z0, θ, ρ, st, S, N, Post.bind p fun w st1 θ1 H1 v _ e1 S1 w1 p1 => ⟨Z0, θ1, st1, w, S1, w1, p1⟩⟩
@[simp] def gLen : List W → Sto → R W
  | [.d (.str x)], st => chk (x.length ≤ sizeLine) (.ok (.d (.int x.length)) st)
  | [w], st => match items st w with
    | some ws => .ok (.d (.int ws.length)) st
    | none => .bad
  | _, _ => .bad
theorem cLen (hK : C.K = X.K) : CallR X (.builtin "len") (rdC C gLen) := by
  obtain ⟨K, mg, E⟩ := C
  obtain rfl : K = X.K := hK
  intro pins s σ H xs us Q I r h
  obtain ⟨Z0, θ, st, ws, S, rw', p⟩ := h
  unfold gLen at p
  split at p
  · cases rw' with
    | cons a b =>
      cases b
      cases a
      exact call_len_str pins s σ H _ us Q I r ⟨_, rfl, p.chk.1, p.chk.2.now S (show Pd _ _ _ _ _ from .int _)⟩
  · cases rw' with
    | cons a b =>
      cases b
      split at p
      · rename_i ws' hw
        obtain ⟨p', vs, rfl, hs, r'⟩ := items_sq S a hw
        exact call_len_seq pins s σ H _ us Q I r ⟨_, vs, rfl, hs, by rw [← r'.length]; exact p.now S (show Pd _ _ _ _ _ from .int _)⟩
      · exact p.elim
  · exact p.elim
@[simp] def gInt : List W → Sto → R W
  | [.d (.int i)], st => .ok (.d (.int i)) st
  | [.d (.bool b)], st => .ok (.d (.int (if b then 1 else 0))) st
  | _, _ => .bad
theorem cInt : CallR X (.type "int") (rdC C gInt) := by
  intro pins s σ H xs us Q I r h
  obtain ⟨Z0, θ, st, ws, S, rw', p⟩ := h
  unfold gInt at p
  split at p
  · cases rw' with
    | cons a b =>
      cases b
      cases a
      exact call_int1 pins s σ H _ us Q I r (.inl ⟨_, rfl, p.now S (show Pd _ _ _ _ _ from .int _)⟩)
  · cases rw' with
    | cons a b =>
      cases b
      cases a
      exact call_int1 pins s σ H _ us Q I r (.inr ⟨_, rfl, p.now S (show Pd _ _ _ _ _ from .int _)⟩)
  · exact p.elim
@[simp] def gAbs : List W → Sto → R W
  | [.d (.int i)], st => .ok (.d (.int (if i < 0 then -i else i))) st
  | _, _ => .bad
theorem cAbs : CallR X (.builtin "abs") (rdC C gAbs) := by
  intro pins s σ H xs us Q I r h
  obtain ⟨Z0, θ, st, ws, S, rw', p⟩ := h
  unfold gAbs at p
  split at p
  · cases rw' with
    | cons a b =>
      cases b
      cases a
      exact call_abs pins s σ H _ us Q I r ⟨_, rfl, p.now S (show Pd _ _ _ _ _ from .int _)⟩
  · exact p.elim
@[simp] def gMax2 : List W → Sto → R W
  | [.d (.int i), .d (.int j)], st => .ok (.d (.int (if j > i then j else i))) st
  | _, _ => .bad
@[simp] def gMin2 : List W → Sto → R W
  | [.d (.int i), .d (.int j)], st => .ok (.d (.int (if j < i then j else i))) st
  | _, _ => .bad
theorem cMax2 (hc : X.calm = true) : CallR X (.builtin "max") (rdC C gMax2) := by
  intro pins s σ H xs us Q I r h
  obtain ⟨Z0, θ, st, ws, S, rw', p⟩ := h
  unfold gMax2 at p
  split at p
  · cases rw' with
    | cons a b =>
      cases b with
      | cons c d =>
        cases d
        cases a
        cases c
        exact call_max2 hc pins s σ H _ us Q I r ⟨_, _, rfl, p.now S (show Pd _ _ _ _ _ from .int _)⟩
  · exact p.elim
theorem cMin2 (hc : X.calm = true) : CallR X (.builtin "min") (rdC C gMin2) := by
  intro pins s σ H xs us Q I r h
  obtain ⟨Z0, θ, st, ws, S, rw', p⟩ := h
  unfold gMin2 at p
  split at p
  · cases rw' with
    | cons a b =>
      cases b with
      | cons c d =>
        cases d
        cases a
        cases c
        exact call_min2 hc pins s σ H _ us Q I r ⟨_, _, rfl, p.now S (show Pd _ _ _ _ _ from .int _)⟩
  · exact p.elim
@[simp] def gTupleOf : List W → Sto → R W
  | [.d (.tuple ds)], st => .ok (.d (.tuple ds)) st
  | [w], st => match asD st w with
    | some (.list ds) => .ok (.d (.tuple ds)) st
    | _ => .bad
  | _, _ => .bad
theorem cTupleOf (hK : C.K = X.K) : CallR X (.type "tuple") (rdC C gTupleOf) := by
  obtain ⟨K, mg, E⟩ := C
  obtain rfl : K = X.K := hK
  intro pins s σ H xs us Q I r h
  obtain ⟨Z0, θ, st, ws, S, rw', p⟩ := h
  unfold gTupleOf at p
  split at p
  · cases rw' with
    | cons a b =>
      cases b
      cases a with
      | tup h1 h2 => exact call_tuple_of pins s σ H _ us Q I r ⟨_, _, rfl, .inr ⟨h1, p.now S (show Pd _ _ _ _ _ from .tup h1 h2)⟩⟩
  · cases rw' with
    | cons a b =>
      cases b
      split at p
      · rename_i ds hd
        obtain ⟨p', vs, rfl, hs, r'⟩ := asD_list S a hd
        exact call_tuple_of pins s σ H _ us Q I r ⟨_, _, rfl, .inl ⟨hs, fun l hl => p.newTup S hl r'⟩⟩
      · exact p.elim
  · exact p.elim
/-- list(x): a new one that is not to change -/
@[simp] def gListOf : List W → Sto → R W
  | [w], st => match asD st w with
    | some (.list ds) => .ok (.d (.list ds)) st
    | some (.tuple ds) => .ok (.d (.list ds)) st
    | _ => .bad
  | _, _ => .bad
/-- list(x): one of the store -/
@[simp] def gListNew : List W → Sto → R W
  | [w], st => match items st w with
    | some ws => .ok (.ref st.length) (st ++ [.lst ws])
    | none => .bad
  | _, _ => .bad
theorem asD_tup {K : PySem.W.Frag} {Z0 : Addr → Prop} {θ : List (Option Addr)} {H : Hp} {st : Sto} {w : W} {v : V} {ds : List PyData} (h : WR K (Zs Z0 θ) θ H w v) (e : asD st w = some (.tuple ds)) : ∃ a vs, v = .ref a ∧ SqT K H a vs ∧ PdAll K (Zs Z0 θ) H vs ds := by
  cases w with
  | d y => cases e; cases h with | tup h1 h2 => exact ⟨_, _, rfl, h1, h2⟩
  | ref n =>
    dsimp only [asD] at e
    split at e
    · simp only [Option.map_eq_some_iff] at e
      obtain ⟨ds', e1, e2⟩ := e
      cases e2
    · cases e
  | scr ns => cases e
theorem cListOf (hK : C.K = X.K) : CallR X (.type "list") (rdC C gListOf) := by
  obtain ⟨K, mg, E⟩ := C
  obtain rfl : K = X.K := hK
  intro pins s σ H xs us Q I r h
  obtain ⟨Z0, θ, st, ws, S, rw', p⟩ := h
  unfold gListOf at p
  split at p
  · cases rw' with
    | cons a b =>
      cases b
      split at p
      · rename_i ds hd
        obtain ⟨p', vs, rfl, hs, r'⟩ := asD_list S a hd
        exact call_list_of pins s σ H _ us Q I r ⟨_, _, rfl, .inl hs, fun l hl => p.newLst S hl r'⟩
      · rename_i ds hd
        obtain ⟨p', vs, rfl, hs, r'⟩ := asD_tup a hd
        exact call_list_of pins s σ H _ us Q I r ⟨_, _, rfl, .inr hs, fun l hl => p.newLst S hl r'⟩
      · exact p.elim
  · exact p.elim
theorem cListNew (hK : C.K = X.K) : CallR X (.type "list") (rdC C gListNew) := by
  obtain ⟨K, mg, E⟩ := C
  obtain rfl : K = X.K := hK
  intro pins s σ H xs us Q I r h
  obtain ⟨Z0, θ, st, ws, S, rw', p⟩ := h
  unfold gListNew at p
  split at p
  · cases rw' with
    | cons a b =>
      cases b
      split at p
      · rename_i ws' hw
        obtain ⟨p', vs, rfl, hs, r'⟩ := items_sq S a hw
        exact call_list_of pins s σ H _ us Q I r ⟨_, _, rfl, hs, fun l hl => p.newRef S hl r'⟩
      · exact p.elim
  · exact p.elim
@[simp] def gSum : List W → Sto → R W
  | [w], st => match asD st w with
    | some (.list ds) => match asInts ds with
      | some ns => .ok (.d (.int ns.sum)) st
      | none => .bad
    | _ => .bad
  | _, _ => .bad
theorem cSum (hK : C.K = X.K) (hc : X.calm = true) : CallR X (.builtin "sum") (rdC C gSum) := by
  obtain ⟨K, mg, E⟩ := C
  obtain rfl : K = X.K := hK
  intro pins s σ H xs us Q I r h
  obtain ⟨Z0, θ, st, ws, S, rw', p⟩ := h
  unfold gSum at p
  split at p
  · cases rw' with
    | cons a b =>
      cases b
      split at p
      · rename_i ds hd
        split at p
        · rename_i ns hn
          have := asInts_eq hn
          subst this
          obtain ⟨p', vs, rfl, hs, r'⟩ := asD_list S a hd
          have := r'.intsEq
          subst this
          exact cr_sum hc pins s σ H _ us Q I r ⟨_, ns, rfl, hs, p.now S (show Pd _ _ _ _ _ from .int _)⟩
        · exact p.elim
      · exact p.elim
  · exact p.elim
def asBools : List PyData → Option (List Bool)
  | [] => some []
  | .bool i :: r => (asBools r).map (i :: ·)
  | _ :: _ => none
theorem asBools_eq : ∀ {ds : List PyData} {ns : List Bool}, asBools ds = some ns → ds = ns.map .bool
  | [], ns, h => by cases h; rfl
  | .bool i :: ds, ns, h => by
    simp only [asBools, Option.map_eq_some_iff] at h
    obtain ⟨es, h1, rfl⟩ := h
    rw [asBools_eq h1]; rfl
  | .none :: _, _, h => by cases h
  | .int _ :: _, _, h => by cases h
  | .str _ :: _, _, h => by cases h
  | .list _ :: _, _, h => by cases h
  | .tuple _ :: _, _, h => by cases h
  | .dict _ :: _, _, h => by cases h
theorem asBools_map (ns : List Bool) : asBools (ns.map .bool) = some ns := by
  induction ns with
  | nil => rfl
  | cons n ns ih => simp [asBools, ih]
theorem PdAll.blsEq {K : PySem.W.Frag} {Z : Addr → Prop} {H : Hp} : ∀ {ns : List Bool} {vs : List V}, PdAll K Z H vs (ns.map .bool) → vs = ns.map V.bl
  | [], _, h => by cases h; rfl
  | n :: ns, _, h => by cases h with | cons a b => cases a; rw [PdAll.blsEq b]; rfl
@[simp] def gAll : List W → Sto → R W
  | [w], st => match asD st w with
    | some (.list ds) => match asBools ds with
      | some ns => .ok (.d (.bool (ns.all id))) st
      | none => .bad
    | _ => .bad
  | _, _ => .bad
theorem cAll (hK : C.K = X.K) (hc : X.calm = true) : CallR X (.builtin "all") (rdC C gAll) := by
  obtain ⟨K, mg, E⟩ := C
  obtain rfl : K = X.K := hK
  intro pins s σ H xs us Q I r h
  obtain ⟨Z0, θ, st, ws, S, rw', p⟩ := h
  unfold gAll at p
  split at p
  · cases rw' with
    | cons a b =>
      cases b
      split at p
      · rename_i ds hd
        split at p
        · rename_i ns hn
          have := asBools_eq hn
          subst this
          obtain ⟨p', vs, rfl, hs, r'⟩ := asD_list S a hd
          have := r'.blsEq
          subst this
          exact cr_all hc pins s σ H _ us Q I r ⟨_, ns, rfl, hs, p.now S (show Pd _ _ _ _ _ from .bl _)⟩
        · exact p.elim
      · exact p.elim
  · exact p.elim
@[simp] def gStr : List W → Sto → R W
  | [.d (.int i)], st => chk (i.natAbs.log2 < 1920) (.ok (.d (.str (toString i))) st)
  | _, _ => .bad
theorem cStr : CallR X (.type "str") (rdC C gStr) := by
  intro pins s σ H xs us Q I r h
  obtain ⟨Z0, θ, st, ws, S, rw', p⟩ := h
  unfold gStr at p
  split at p
  · cases rw' with
    | cons a b =>
      cases b
      cases a
      exact call_str_int pins s σ H _ us Q I r ⟨_, rfl, p.chk.1, p.chk.2.now S (show Pd _ _ _ _ _ from .str _)⟩
  · exact p.elim
/-- repr of data -/
@[simp] def gRepr : List W → Sto → R W
  | [w], st => match asD st w with
    | some d => chk (d.showable = true ∧ d.hasDict = false ∧ d.depth ≤ 64 ∧ d.shown.length ≤ sizeLine) (.ok (.d (.str d.shown)) st)
    | none => .bad
  | _, _ => .bad
theorem cRepr (hK : C.K = X.K) (hg : X.A.guards = some []) (hu : X.A.units + 66 < cLine) : CallR X (.builtin "repr") (rdC C gRepr) := by
  obtain ⟨K, mg, E⟩ := C
  obtain rfl : K = X.K := hK
  intro pins s σ H xs us Q I r h
  obtain ⟨Z0, θ, st, ws, S, rw', p⟩ := h
  unfold gRepr at p
  split at p
  · cases rw' with
    | cons a b =>
      cases b
      split at p
      · rename_i w v d hd
        obtain ⟨⟨h1, h2, h3, h4⟩, p⟩ := p.chk
        have hp := asD_dp S a hd
        obtain ⟨u, rfl, ru⟩ := vals1 r
        have fin : ∀ (k : Tok) (h' : Heap) (tk : Nat), (∀ b o, s.heap.get? b = some o → h'.get? b = some o) → EP X pins σ Q (.str d.shown k) { s with heap := h', toks := tk } := fun k h' tk hk =>
          ⟨.str d.shown, H, I.kept hk, ⟨_, rfl⟩, p.now S (show Pd _ _ _ _ _ from .str _)⟩
        have stay := fun (k : Tok) (tk : Nat) => fin k s.heap tk fun _ _ e => e
        cases hp with
        | non => cases ru; exact PySem.P.repr_of_none (stay _ _)
        | bl b => cases ru; exact PySem.P.repr_of_bool (stay _ _)
        | int i => obtain ⟨t, rfl⟩ := ru; exact PySem.P.repr_of_int (by simpa [PyData.showable] using h1) (stay _ _)
        | str x => obtain ⟨t, rfl⟩ := ru; exact PySem.P.repr_of_str (stay _ _) h4
        | lst g1 g2 =>
          cases ru
          obtain ⟨as, rr⟩ := Dp.reads I _ _ _ (.lst g1 g2) rfl
          exact PySem.repr_of_reads' rr h1 (fun z => by rw [h2] at z; cases z) hg (by omega) (fun _ _ e => e) (fun h' u tk hk => fin u h' tk hk) h4
        | tup g1 g2 =>
          cases ru
          obtain ⟨as, rr⟩ := Dp.reads I _ _ _ (.tup g1 g2) rfl
          exact PySem.repr_of_reads' rr h1 (fun z => by rw [h2] at z; cases z) hg (by omega) (fun _ _ e => e) (fun h' u tk hk => fin u h' tk hk) h4
      · exact p.elim
  · exact p.elim
end
end Y

namespace Y
open PySem PySem.Spec PyProof.Rows L2

/-! ### statements -/
inductive Fl where
  | nx | bk | ct
  | rt (w : W)
abbrev DS := En → Sto → R (Fl × En)
def EndAt (C : Ct) (Z0 : Addr → Prop) (θ : List (Option Addr)) (H : Hp) (σ : L2.St) (D : Ends) : Fl → Prop
  | .nx => D.nx σ H
  | .bk => D.bk σ H
  | .ct => D.ct σ H
  | .rt w => ∀ v, WR C.K (Zs Z0 θ) θ H w v → D.rt v H
def PostS (C : Ct) (Z0 : Addr → Prop) (θ : List (Option Addr)) (H : Hp) (r : R (Fl × En)) (D : Ends) : Prop :=
  match r with
  | .ok a st' => ∀ θ' H' σ', Ext θ H θ' H' → SR C.K Z0 θ' st' H' → EnR C.K (Zs Z0 θ') θ' H' a.2 σ' → EndAt C Z0 θ' H' σ' D a.1
  | .exc c x st' => ExcW C Z0 θ H c x st'
  | .bad => False
def rdS (C : Ct) (f : DS) : TS := fun D σ H => ∃ Z0 θ ρ st, SR C.K Z0 θ st H ∧ EnR C.K (Zs Z0 θ) θ H ρ σ ∧ PostS C Z0 θ H (f ρ st) D
section
variable {X : Cx} {C : Ct} {Z0 : Addr → Prop} {θ θ1 : List (Option Addr)} {H H1 : Hp} {D D' : Ends}
theorem PostS.from {r : R (Fl × En)} (e : Ext θ H θ1 H1) (h : PostS C Z0 θ H r D) : PostS C Z0 θ1 H1 r D := by
  cases r with
  | ok w st' => exact fun θ' H' v e' S p => h θ' H' v (e.trans e') S p
  | exc c x st' => exact ExcW.from e h
  | bad => exact h
theorem PostS.bindS {r : R (Fl × En)} {k : Fl × En → Sto → R (Fl × En)} (h : PostS C Z0 θ H (r.bind k) D)
    (f : ∀ fl ρ' st1 θ1 H1 σ1, Ext θ H θ1 H1 → SR C.K Z0 θ1 st1 H1 → EnR C.K (Zs Z0 θ1) θ1 H1 ρ' σ1 → PostS C Z0 θ1 H1 (k (fl, ρ') st1) D → EndAt C Z0 θ1 H1 σ1 D' fl) : PostS C Z0 θ H r D' := by
  cases r with
  | ok a st1 => exact fun θ1 H1 σ1 e S N => f a.1 a.2 st1 θ1 H1 σ1 e S N (PostS.from e h)
  | exc c x st1 => exact h
  | bad => exact h
theorem PostS.bindE {α β : Type} {rel : List (Option Addr) → Hp → α → β → Prop} {r : R α} {k : α → Sto → R (Fl × En)} {G : β → Hp → Prop} (h : PostS C Z0 θ H (r.bind k) D)
    (f : ∀ w st1 θ1 H1 v, Ext θ H θ1 H1 → SR C.K Z0 θ1 st1 H1 → rel θ1 H1 w v → PostS C Z0 θ1 H1 (k w st1) D → G v H1) : Post C Z0 θ H rel r G := by
  cases r with
  | ok w st1 => exact fun θ1 H1 v e S p => f w st1 θ1 H1 v e S p (PostS.from e h)
  | exc c x st1 => exact h
  | bad => exact h
theorem PostS.now {fl : Fl} {ρ : En} {st : Sto} {σ : L2.St} (h : PostS C Z0 θ H (.ok (fl, ρ) st) D) (S : SR C.K Z0 θ st H) (N : EnR C.K (Zs Z0 θ) θ H ρ σ) : EndAt C Z0 θ H σ D fl := h θ H σ Ext.refl S N
theorem EndAt.nxOf {D : Ends} {fl : Fl} {σ : L2.St} {u : L2.St → Hp → Prop} (h : fl ≠ .nx) (q : EndAt C Z0 θ H σ D fl) : EndAt C Z0 θ H σ { D with nx := u } fl := by
  cases fl with
  | nx => exact absurd rfl h
  | bk => exact q
  | ct => exact q
  | rt w => exact q
theorem EnR.set {K : PySem.W.Frag} {Z : Addr → Prop} {ρ : En} {σ : L2.St} {w : W} {v : V} (i : Nat) (N : EnR K Z θ H ρ σ) (r : WR K Z θ H w v) : EnR K Z θ H (ρ.set i (some w)) (σ.set i (some v)) := by
  refine ⟨by simp [N.len], fun j u e => ?_⟩
  by_cases h : i = j
  · subst h
    have hi : i < ρ.length := by
      have := (List.getElem?_eq_some_iff.mp e).1
      simpa using this
    rw [List.getElem?_set_self hi] at e
    cases e
    exact ⟨v, by rw [List.getElem?_set_self (by rw [← N.len]; exact hi)], r⟩
  · rw [List.getElem?_set_ne h] at e
    obtain ⟨v', h1, h2⟩ := N.at_ j u e
    exact ⟨v', by rw [List.getElem?_set_ne h]; exact h1, h2⟩
/-- one behind the other -/
@[simp] def dSeq (f g : DS) : DS := fun ρ st => (f ρ st).bind fun a s => match a.1 with
  | .nx => g a.2 s
  | fl => .ok (fl, a.2) s
@[simp] def dEnd : DS := fun ρ st => .ok (.nx, ρ) st
variable {st : Stmt} {rest : List Stmt} {f g : DS} {e : Expr} {fe : En → Sto → R W} {pos : Pos}
theorem t_seq {σ : L2.St} (q : rdS C (dSeq f g) D σ H) : tSeq (rdS C f) (rdS C g) D σ H := by
  obtain ⟨Z0, θ, ρ, st, S, N, p⟩ := q
  refine ⟨Z0, θ, ρ, st, S, N, PostS.bindS p fun fl ρ' st1 θ1 H1 σ1 e1 S1 N1 p1 => ?_⟩
  cases fl with
  | nx => exact ⟨Z0, θ1, ρ', st1, S1, N1, p1⟩
  | bk => exact p1.now S1 N1
  | ct => exact p1.now S1 N1
  | rt w => exact p1.now S1 N1
theorem y_end : PSs X [] (rdS C dEnd) := PSs.imp pss_nil fun D σ H ⟨_, _, _, _, S, N, p⟩ => p.now S N
theorem y_seq (h1 : PS X st (rdS C f)) (h2 : PSs X rest (rdS C g)) : PSs X (st :: rest) (rdS C (dSeq f g)) := PSs.imp (pss_cons h1 h2) fun _ _ _ => t_seq
theorem y_last (h1 : PS X st (rdS C f)) : PSs X [st] (rdS C f) := pss_one h1
@[simp] def dPass : DS := dEnd
theorem y_pass : PS X (.Pass pos) (rdS C dPass) := PS.imp ps_pass fun D σ H ⟨_, _, _, _, S, N, p⟩ => p.now S N
@[simp] def dCont : DS := fun ρ st => .ok (.ct, ρ) st
theorem y_cont : PS X (.Continue pos) (rdS C dCont) := PS.imp ps_continue fun D σ H ⟨_, _, _, _, S, N, p⟩ => p.now S N
@[simp] def dBreak : DS := fun ρ st => .ok (.bk, ρ) st
theorem y_break : PS X (.Break pos) (rdS C dBreak) := PS.imp ps_break fun D σ H ⟨_, _, _, _, S, N, p⟩ => p.now S N
@[simp] def dExpr (fe : En → Sto → R W) : DS := fun ρ st => (fe ρ st).bind fun _ s => .ok (.nx, ρ) s
theorem y_expr (h : PE X e (rdE C fe)) (hs : swapsWith e none pos.line X.env = pure false := by rfl) : PS X (.Expr e pos) (rdS C (dExpr fe)) := PS.imp (ps_expr h hs) fun D σ H q => by
  obtain ⟨Z0, θ, ρ, st, S, N, p⟩ := q
  exact ⟨Z0, θ, ρ, st, S, N, PostS.bindE p fun w st1 θ1 H1 v e1 S1 w1 p1 => p1.now S1 (N.ext e1)⟩
@[simp] def dRet (fe : En → Sto → R W) : DS := fun ρ st => (fe ρ st).bind fun w s => .ok (.rt w, ρ) s
theorem y_ret (h : PE X e (rdE C fe)) : PS X (.Return (some e) pos) (rdS C (dRet fe)) := PS.imp (ps_ret h) fun D σ H q => by
  obtain ⟨Z0, θ, ρ, st, S, N, p⟩ := q
  exact ⟨Z0, θ, ρ, st, S, N, PostS.bindE p fun w st1 θ1 H1 v e1 S1 w1 p1 => p1.now S1 (N.ext e1) v w1⟩
@[simp] def dRetN : DS := fun ρ st => .ok (.rt (.d .none), ρ) st
theorem y_retN : PS X (.Return none pos) (rdS C dRetN) := PS.imp ps_retN fun D σ H ⟨_, _, _, _, S, N, p⟩ => p.now S N _ (show Pd _ _ _ _ _ from .non)
@[simp] def dIfS (t : En → Sto → R Bool) (f g : DS) : DS := fun ρ st => (t ρ st).bind fun b s => if b = true then f ρ s else g ρ s
theorem y_ifS {c : Expr} {t : En → Sto → R Bool} {sa sb : List Stmt} (hc : PT X c (rdT C t)) (ha : PSs X sa (rdS C f)) (hb : PSs X sb (rdS C g)) : PS X (.If c sa sb pos) (rdS C (dIfS t f g)) := PS.imp (ps_if hc ha hb) fun D σ H q => by
  obtain ⟨Z0, θ, ρ, st, S, N, p⟩ := q
  refine ⟨Z0, θ, ρ, st, S, N, PostS.bindE p fun w st1 θ1 H1 v e1 S1 w1 p1 => ?_⟩
  cases w1
  cases w with
  | true => rw [if_pos rfl] at p1 ⊢; exact ⟨Z0, θ1, ρ, st1, S1, N.ext e1, p1⟩
  | false => rw [if_neg (by simp)] at p1 ⊢; exact ⟨Z0, θ1, ρ, st1, S1, N.ext e1, p1⟩

/-! ### targets -/
@[simp] def wipeE (ρ : En) : List Nat → En
  | [] => ρ
  | v :: vs => (wipeE ρ vs).set v none
theorem EnR.wipe {K : PySem.W.Frag} {Z : Addr → Prop} {ρ : En} {σ : L2.St} (N : EnR K Z θ H ρ σ) : ∀ vs : List Nat, EnR K Z θ H (wipeE ρ vs) (L2.wipe σ vs)
  | [] => N
  | v :: vs => by
    have ih := EnR.wipe N vs
    refine ⟨by simp [wipeE, L2.wipe, ih.len], fun j u e => ?_⟩
    unfold wipeE at e
    unfold L2.wipe
    by_cases h : v = j
    · subst h
      by_cases hv : v < (wipeE ρ vs).length
      · rw [List.getElem?_set_self hv] at e; cases e
      · rw [List.getElem?_eq_none (by simpa using hv)] at e; cases e
    · rw [List.getElem?_set_ne h] at e
      rw [List.getElem?_set_ne h]
      exact ih.at_ j u e
theorem wipe_set {σ : L2.St} {i : Nat} {x : Option V} : ∀ {vs : List Nat}, i ∈ vs → L2.wipe (σ.set i x) vs = L2.wipe σ vs
  | v :: vs, h => by
    unfold L2.wipe
    by_cases hi : i ∈ vs
    · rw [wipe_set hi]
    · have hv : v = i := by
        rcases List.mem_cons.mp h with h | h
        · exact h.symm
        · exact absurd h hi
      subst hv
      have : ∀ (us : List Nat), v ∉ us → L2.wipe (σ.set v x) us = (L2.wipe σ us).set v x := by
        intro us
        induction us with
        | nil => intro _; rfl
        | cons u us ih =>
          intro hu
          simp only [List.mem_cons, not_or] at hu
          show (L2.wipe (σ.set v x) us).set u none = ((L2.wipe σ us).set u none).set v x
          rw [ih hu.2, List.set_comm _ _ (Ne.symm hu.1)]
      rw [this vs hi, List.set_set]
abbrev relG (K : PySem.W.Frag) (Z0 : Addr → Prop) (vs : List Nat) (σ0 : L2.St) : List (Option Addr) → Hp → En → L2.St → Prop := fun θ H ρ σ => EnR K (Zs Z0 θ) θ H ρ σ ∧ L2.wipe σ vs = L2.wipe σ0 vs
def rdG (C : Ct) (vs : List Nat) (g : W → En → Sto → R En) : TG := fun v σ H Q => ∃ Z0 θ ρ st w, SR C.K Z0 θ st H ∧ EnR C.K (Zs Z0 θ) θ H ρ σ ∧ WR C.K (Zs Z0 θ) θ H w v ∧ Post C Z0 θ H (relG C.K Z0 vs σ) (g w ρ st) Q
def rdGs (C : Ct) (vs : List Nat) (g : List W → En → Sto → R En) : TGs := fun us σ H Q => ∃ Z0 θ ρ st ws, SR C.K Z0 θ st H ∧ EnR C.K (Zs Z0 θ) θ H ρ σ ∧ WRs C.K (Zs Z0 θ) θ H ws us ∧ Post C Z0 θ H (relG C.K Z0 vs σ) (g ws ρ st) Q
theorem PG.imp {e : Expr} {t t' : TG} (h : PG X e t) (k : ∀ v σ H Q, t' v σ H Q → t v σ H Q) : PG X e t' := ⟨fun pins s σ H v u Q I r q => h.run pins s σ H v u Q I r (k v σ H Q q)⟩
theorem PGs.imp {e : List Expr} {t t' : TGs} (h : PGs X e t) (k : ∀ v σ H Q, t' v σ H Q → t v σ H Q) : PGs X e t' := ⟨fun pins s σ H v u Q I r q => h.run pins s σ H v u Q I r (k v σ H Q q)⟩
@[simp] def tName (i : Nat) : W → En → Sto → R En := fun w ρ st => .ok (ρ.set i (some w)) st
@[simp] def tNil' : List W → En → Sto → R En := fun ws ρ st => match ws with | [] => .ok ρ st | _ => .bad
@[simp] def tCons' (g : W → En → Sto → R En) (h : List W → En → Sto → R En) : List W → En → Sto → R En := fun ws ρ st => match ws with
  | w :: ws => (g w ρ st).bind fun ρ s => h ws ρ s
  | [] => .bad
@[simp] def tTup' (n : Nat) (h : List W → En → Sto → R En) : W → En → Sto → R En := fun w ρ st => match w with
  | .d (.tuple ds) => chk (ds.length = n) (h (ds.map .d) ρ st)
  | _ => .bad
theorem y_gname {vs : List Nat} {i : Nat} {e : Expr} (h : PG X e (gName i)) (hi : i ∈ vs) : PG X e (rdG C vs (tName i)) := PG.imp h fun v σ H Q q => by
  obtain ⟨Z0, θ, ρ, st, w, S, N, r, p⟩ := q
  exact p.now S ⟨N.set i r, wipe_set hi⟩
theorem y_gnil {vs : List Nat} : PGs X [] (rdGs C vs tNil') := PGs.imp pgs_nil fun v σ H Q q => by
  obtain ⟨Z0, θ, ρ, st, ws, S, N, r, p⟩ := q
  unfold tNil' at p
  split at p
  · cases r
    exact ⟨rfl, p.now S ⟨N, rfl⟩⟩
  · exact p.elim
theorem y_gcons {vs : List Nat} {e : Expr} {es : List Expr} {g : W → En → Sto → R En} {h : List W → En → Sto → R En} (h1 : PG X e (rdG C vs g)) (h2 : PGs X es (rdGs C vs h))
    (hs : (assignEach (e :: es) X.env).map (·.2) = assign e X.env :: (assignEach es X.env).map (·.2) := by rfl) : PGs X (e :: es) (rdGs C vs (tCons' g h)) := PGs.imp (pgs_cons h1 h2 hs) fun v σ H Q q => by
  obtain ⟨Z0, θ, ρ, st, ws, S, N, r, p⟩ := q
  unfold tCons' at p
  split at p
  · cases r with
    | cons a b =>
      refine ⟨_, _, rfl, Z0, θ, ρ, st, _, S, N, a, Post.bind p fun ρ1 st1 θ1 H1 σ1 _ e1 S1 w1 p1 => ?_⟩
      refine ⟨Z0, θ1, ρ1, st1, _, S1, w1.1, WRs.ext e1 b, ?_⟩
      cases hr : h _ ρ1 st1 with
      | ok ρ2 st2 => rw [hr] at p1; exact fun θ2 H2 σ2 e2 S2 w2 => p1 θ2 H2 σ2 e2 S2 ⟨w2.1, w2.2.trans w1.2⟩
      | exc c x s => rw [hr] at p1; exact p1
      | bad => rw [hr] at p1; exact p1
  · exact p.elim
theorem y_gtup {vs : List Nat} {es : List Expr} {k n : Nat} {h : List W → En → Sto → R En} (hK : C.K = X.K) (hc : X.calm = true) (hh : PGs X es (rdGs C vs h))
    (hn : (assignEach es X.env).length = n := by rfl) (hst : (assignEach es X.env).findIdx? (·.1) = none := by rfl) : PG X (.Tuple es k pos) (rdG C vs (tTup' n h)) := by
  obtain ⟨K, mg, E⟩ := C
  obtain rfl : K = X.K := hK
  refine PG.imp (pg_tup hc hh hn hst) fun v σ H Q q => ?_
  obtain ⟨Z0, θ, ρ, st, w, S, N, r, p⟩ := q
  unfold tTup' at p
  split at p
  · cases r with
    | tup h1 h2 => exact ⟨_, _, rfl, h1, by rw [h2.length]; exact p.chk.1, Z0, θ, ρ, st, _, S, N, h2.toWRs, p.chk.2⟩
  · exact p.elim
/-- target = value -/
@[simp] def dAsg (fe : En → Sto → R W) (g : W → En → Sto → R En) : DS := fun ρ st => (fe ρ st).bind fun w s => (g w ρ s).bind fun ρ s => .ok (.nx, ρ) s
theorem t_asg {vs : List Nat} {g : W → En → Sto → R En} {σ : L2.St} (q : rdS C (dAsg fe g) D σ H) : tAsg (rdE C fe) (rdG C vs g) D σ H := by
  obtain ⟨Z0, θ, ρ, st, S, N, p⟩ := q
  refine ⟨Z0, θ, ρ, st, S, N, PostS.bindE p fun w st1 θ1 H1 v e1 S1 w1 p1 => ⟨Z0, θ1, ρ, st1, w, S1, N.ext e1, w1, PostS.bindE p1 fun ρ2 st2 θ2 H2 σ2 e2 S2 w2 p2 => p2.now S2 w2.1⟩⟩
theorem y_asg {vs : List Nat} {tg : Expr} {g : W → En → Sto → R En} (he : PE X e (rdE C fe)) (hg : PG X tg (rdG C vs g)) (hs : swapsWithSole [tg] e pos.line X.env = pure false := by rfl) (hw : swappedStores [tg] e X.env = pure none := by rfl)
    (h1 : (assignEach [tg] X.env).map (·.2) = [assign tg X.env] := by rfl) : PS X (.Assign [tg] e pos) (rdS C (dAsg fe g)) := PS.imp (ps_asg he hg hs hw h1) fun _ _ _ => t_asg
@[simp] def dSet (i : Nat) (fe : En → Sto → R W) : DS := fun ρ st => (fe ρ st).bind fun w s => .ok (.nx, ρ.set i (some w)) s
theorem t_set {i : Nat} {σ : L2.St} (q : rdS C (dSet i fe) D σ H) : tAsg (rdE C fe) (gName i) D σ H := by
  obtain ⟨Z0, θ, ρ, st, S, N, p⟩ := q
  exact ⟨Z0, θ, ρ, st, S, N, PostS.bindE p fun w st1 θ1 H1 v e1 S1 w1 p1 => p1.now S1 ((N.ext e1).set i w1)⟩
theorem y_set {i : Nat} {st : Stmt} (h : PS X st (tAsg (rdE C fe) (gName i))) : PS X st (rdS C (dSet i fe)) := PS.imp h fun _ _ _ => t_set
@[simp] def dPar (i j : Nat) (fa : En → Sto → R (List W)) : DS := fun ρ st => (fa ρ st).bind fun ws s => match ws with
  | [w, u] => .ok (.nx, (ρ.set i (some w)).set j (some u)) s
  | _ => .bad
theorem y_par {i j : Nat} {st : Stmt} {fa : En → Sto → R (List W)} (h : PS X st (tPar i j (rdA C fa))) : PS X st (rdS C (dPar i j fa)) := PS.imp h fun D σ H q => by
  obtain ⟨Z0, θ, ρ, st, S, N, p⟩ := q
  refine ⟨Z0, θ, ρ, st, S, N, PostS.bindE p fun ws st1 θ1 H1 vs e1 S1 w1 p1 => ?_⟩
  split at p1
  · cases w1 with
    | cons a b =>
      cases b with
      | cons c d =>
        cases d
        exact ⟨_, _, rfl, p1.now S1 (((N.ext e1).set i a).set j c)⟩
  · exact p1.elim
@[simp] def dPar3 (i j l : Nat) (fa : En → Sto → R (List W)) : DS := fun ρ st => (fa ρ st).bind fun ws s => match ws with
  | [w, u, z] => .ok (.nx, ((ρ.set i (some w)).set j (some u)).set l (some z)) s
  | _ => .bad
theorem y_par3 {i j l : Nat} {st : Stmt} {fa : En → Sto → R (List W)} (h : PS X st (tPar3 i j l (rdA C fa))) : PS X st (rdS C (dPar3 i j l fa)) := PS.imp h fun D σ H q => by
  obtain ⟨Z0, θ, ρ, st, S, N, p⟩ := q
  refine ⟨Z0, θ, ρ, st, S, N, PostS.bindE p fun ws st1 θ1 H1 vs e1 S1 w1 p1 => ?_⟩
  split at p1
  · cases w1 with
    | cons a b =>
      cases b with
      | cons c d =>
        cases d with
        | cons c2 d2 =>
          cases d2
          exact ⟨_, _, _, rfl, p1.now S1 ((((N.ext e1).set i a).set j c).set l c2)⟩
  · exact p1.elim
/-- name op= e -/
@[simp] def vIadd : W → W → Sto → R W
  | .d (.int i), .d (.int j), st => .ok (.d (.int (i + j))) st
  | .d (.str x), .d (.str y), st => chk (x.length + y.length ≤ sizeLine) (.ok (.d (.str (x ++ y))) st)
  | _, _, _ => .bad
theorem ipAdd : PIp X .Add (rdO C vIadd) := by
  intro pins s σ H x y v u Q I rx ry h
  obtain ⟨Z0, θ, st, a, b, S, wa, wb, p⟩ := h
  unfold vIadd at p
  split at p
  · cases wa; cases wb
    exact iop_add pins s σ H _ _ v u Q I rx ry ⟨_, _, rfl, rfl, p.now S (show Pd _ _ _ _ _ from .int _)⟩
  · cases wa; cases wb
    exact iop_add_str pins s σ H _ _ v u Q I rx ry ⟨_, _, rfl, rfl, p.chk.1, p.chk.2.now S (show Pd _ _ _ _ _ from .str _)⟩
  · exact p.elim
@[simp] def dAug (i : Nat) (g : W → W → Sto → R W) (fe : En → Sto → R W) : DS := fun ρ st => match ρ[i]? with
  | some (some x) => (fe ρ st).bind fun y s => (g x y s).bind fun z s => .ok (.nx, ρ.set i (some z)) s
  | _ => .bad
theorem y_aug {i : Nat} {st : Stmt} {g : W → W → Sto → R W} (h : PS X st (tAug i (rdE C fe) (rdO C g))) : PS X st (rdS C (dAug i g fe)) := PS.imp h fun D σ H q => by
  obtain ⟨Z0, θ, ρ, st, S, N, p⟩ := q
  unfold dAug at p
  split at p
  · rename_i x hx
    obtain ⟨v, h1, h2⟩ := N.at_ i x hx
    exact ⟨v, h1, Z0, θ, ρ, st, S, N, PostS.bindE p fun w st1 θ1 H1 u e1 S1 w1 p1 => ⟨Z0, θ1, st1, x, w, S1, h2.ext e1, w1, PostS.bindE p1 fun z st2 θ2 H2 zv e2 S2 w2 p2 => p2.now S2 (((N.ext e1).ext e2).set i w2)⟩⟩
  · exact p.elim

/-! ### a change of the store -/
theorem Ext.write {K : PySem.W.Frag} {st : Sto} {n : Nat} {a : Addr} {vs vs' : List V} (S : SR K Z0 θ st H) (h : θ[n]? = some (some a)) (e : H a = some (.lst vs)) : Ext θ H θ (upd H a (.lst vs')) := by
  have hm : some a ∈ θ := List.mem_of_getElem? h
  refine ⟨fun _ _ q => .inl q, fun _ _ q => .inl q, fun b o hb q => ?_, fun b xs q => ?_, fun b o u q => ?_, fun b q => ?_⟩
  · rw [upd_ne (show b ≠ a from fun z => hb (by rw [z]; exact hm))]; exact q
  · rw [upd_ne (show b ≠ a from fun z => by rw [z, e] at q; cases q)]; exact q
  · rw [upd_ne (show b ≠ a from fun z => by rw [z, e] at q; cases q)]; exact q
  · by_cases z : b = a
    · rw [z, upd_same]; simp
    · rw [upd_ne z]; exact q
theorem SR.write {K : PySem.W.Frag} {st : Sto} {n : Nat} {a : Addr} {vs vs' : List V} {ws' : List W} (S : SR K Z0 θ st H) (h : θ[n]? = some (some a)) (e : H a = some (.lst vs)) (r : WRs K (Zs Z0 θ) θ H ws' vs') : SR K Z0 θ (st.set n (.lst ws')) (upd H a (.lst vs')) := by
  have x := Ext.write (vs' := vs') S h e
  refine ⟨by simp [S.len], S.nd, fun m b o h1 h2 => ?_, fun m hm => ?_, fun b hb => x.live b (S.z0 b hb), S.dis⟩
  · by_cases hmn : n = m
    · subst hmn
      rw [h] at h1; cases h1
      have hn : n < st.length := by rw [← S.len]; exact (List.getElem?_eq_some_iff.mp h).1
      rw [List.getElem?_set_self hn] at h2
      cases h2
      exact ⟨vs', upd_same, WRs.ext x r⟩
    · rw [List.getElem?_set_ne hmn] at h2
      exact OR.ext x (upd_ne fun z => hmn (S.nd n m a h (z ▸ h1))) (S.obj m b o h1 h2)
  · rw [List.getElem?_set_ne (fun z => by rw [← z, h] at hm; cases hm)]
    exact S.dd m hm
/-- a place is given up: its list is not to change any more -/
theorem Ext.kill {n : Nat} {a : Addr} (h : θ[n]? = some (some a)) : Ext θ H (θ.set n none) H := by
  refine ⟨fun m b q => ?_, fun m o q => ?_, fun _ _ _ q => q, fun _ _ q => q, fun _ _ _ q => q, fun _ q => q⟩
  · by_cases hm : n = m
    · subst hm
      rw [List.getElem?_set_self (List.getElem?_eq_some_iff.mp h).1] at q; cases q
    · rw [List.getElem?_set_ne hm] at q; exact .inl q
  · by_cases hm : n = m
    · subst hm
      exact .inr (List.getElem?_set_self (List.getElem?_eq_some_iff.mp h).1)
    · exact .inl (by rw [List.getElem?_set_ne hm]; exact q)
theorem SR.kill {K : PySem.W.Frag} {st : Sto} {n : Nat} {a : Addr} (S : SR K Z0 θ st H) (h : θ[n]? = some (some a)) : SR K Z0 (θ.set n none) (st.set n .dead) H := by
  have x := Ext.kill (H := H) h
  have hn : n < st.length := by rw [← S.len]; exact (List.getElem?_eq_some_iff.mp h).1
  have old : ∀ {m : Nat} {b : Addr}, (θ.set n none)[m]? = some (some b) → n ≠ m ∧ θ[m]? = some (some b) := fun {m b} q => by
    by_cases hm : n = m
    · subst hm
      rw [List.getElem?_set_self (List.getElem?_eq_some_iff.mp h).1] at q; cases q
    · rw [List.getElem?_set_ne hm] at q; exact ⟨hm, q⟩
  refine ⟨by simp [S.len], fun m k b h1 h2 => S.nd m k b (old h1).2 (old h2).2, fun m b o h1 h2 => ?_, fun m hm => ?_, S.z0, fun b hb => ?_⟩
  · obtain ⟨q1, q2⟩ := old h1
    rw [List.getElem?_set_ne q1] at h2
    exact OR.ext x rfl (S.obj m b o q2 h2)
  · by_cases hmn : n = m
    · subst hmn; exact List.getElem?_set_self hn
    · rw [List.getElem?_set_ne hmn] at hm ⊢
      exact S.dd m hm
  · obtain ⟨m, hm⟩ := List.getElem?_of_mem hb
    exact S.dis b (List.mem_of_getElem? (old hm).2)
@[simp] def freeze : W → Sto → R W
  | .ref n, st => match st[n]? with
    | some (.lst ws) => match allD ws with
      | some ds => .ok (.d (.list ds)) (st.set n .dead)
      | none => .bad
    | _ => .bad
  | w, st => .ok w st
theorem post_freeze {K : PySem.W.Frag} {st st' : Sto} {w w' : W} {v : V} (S : SR K Z0 θ st H) (r : WR K (Zs Z0 θ) θ H w v) (e : freeze w st = .ok w' st') : ∃ θ', Ext θ H θ' H ∧ SR K Z0 θ' st' H ∧ WR K (Zs Z0 θ') θ' H w' v := by
  cases w with
  | d x => cases e; exact ⟨θ, Ext.refl, S, r⟩
  | scr ns => cases e; exact ⟨θ, Ext.refl, S, r⟩
  | ref n =>
    unfold freeze at e
    dsimp only at e
    split at e
    · rename_i ws hw
      split at e
      · rename_i ds hd
        cases e
        obtain ⟨a, vs, rfl, h2, h3, h4⟩ := S.at_ r hw
        refine ⟨θ.set n none, Ext.kill h2, S.kill h2, show Pd _ _ _ _ _ from .lst ⟨.inl h3, fun z => ?_⟩ (PdAll.ext (Ext.kill h2) (h4.pd hd))⟩
        rcases z with z | z
        · obtain ⟨m, hm⟩ := List.getElem?_of_mem z
          by_cases hmn : n = m
          · subst hmn
            rw [List.getElem?_set_self (List.getElem?_eq_some_iff.mp h2).1] at hm; cases hm
          · rw [List.getElem?_set_ne hmn] at hm
            exact hmn (S.nd n m a h2 hm)
        · exact S.dis a (List.mem_of_getElem? h2) z
      · cases e
    · cases e
theorem freeze_exc {w : W} {st : Sto} {c : Str} {x : PyData} {s : Sto} (h : freeze w st = .exc c x s) : False := by
  unfold freeze at h
  split at h
  · split at h
    · split at h <;> cases h
    · cases h
  · cases h
/-- (unseen by Python) the list at a name is not to change any more -/
@[simp] def dFrz (i : Nat) : DS := fun ρ st => match ρ[i]? with
  | some (some w) => (freeze w st).bind fun w s => .ok (.nx, ρ.set i (some w)) s
  | _ => .bad
theorem y_frz {i : Nat} {sts : List Stmt} (h : PSs X sts (rdS C f)) : PSs X sts (rdS C (dSeq (dFrz i) f)) := PSs.imp h fun D σ H q => by
  obtain ⟨Z0, θ, ρ, st, S, N, p⟩ := q
  unfold dSeq dFrz at p
  split at p
  · rename_i w hw
    obtain ⟨v, h1, h2⟩ := N.at_ i w hw
    cases e : freeze w st with
    | bad => rw [e] at p; exact p.elim
    | exc c x s => exact (freeze_exc e).elim
    | ok w' st' =>
      rw [e] at p
      obtain ⟨θ', x, S', r'⟩ := post_freeze S h2 e
      have N' := (N.ext x).set i r'
      have es : σ.set i (some v) = σ := by
        apply List.ext_getElem?
        intro j
        by_cases hj : i = j
        · subst hj; rw [List.getElem?_set_self (List.getElem?_eq_some_iff.mp h1).1, h1]
        · rw [List.getElem?_set_ne hj]
      rw [es] at N'
      exact ⟨Z0, θ', _, st', S', N', PostS.from x p⟩
  · exact p.elim
/-- return e, the list that it is not to change any more -/
@[simp] def dFz (fe : En → Sto → R W) : En → Sto → R W := fun ρ st => (fe ρ st).bind freeze
theorem y_fz (h : PE X e (rdE C fe)) : PE X e (rdE C (dFz fe)) := PE.imp h fun σ H Q q => by
  obtain ⟨Z0, θ, ρ, st, S, N, p⟩ := q
  refine ⟨Z0, θ, ρ, st, S, N, Post.bind p fun w st1 θ1 H1 v _ e1 S1 w1 p1 => ?_⟩
  cases e : freeze w st1 with
  | bad => rw [e] at p1; exact p1.elim
  | exc c x s => exact (freeze_exc e).elim
  | ok w' st' =>
    rw [e] at p1
    obtain ⟨θ', x, S', r'⟩ := post_freeze S1 w1 e
    exact p1 θ' H1 v x S' r'
end
end Y

namespace Y
open PySem PySem.Spec PyProof.Rows L2
section
variable {X : Cx} {C : Ct} {Z0 : Addr → Prop} {θ θ1 : List (Option Addr)} {H H1 : Hp} {D D' : Ends}
/-! ### methods of lists and texts -/
def isLst (st : Sto) (w : W) : Bool := (items st w).isSome
@[simp] def dMeth (g : W → List W → Sto → R W) (fo : En → Sto → R W) (fa : En → Sto → R (List W)) : En → Sto → R W := fun ρ st => (fo ρ st).bind fun u s => match u with
  | .ref n => match s[n]? with
    | some (.lst _) => (fa ρ s).bind fun ws s => g u ws s
    | _ => .bad
  | _ => .bad
def rdM (C : Ct) (g : W → List W → Sto → R W) : V → List V → Hp → VK → Prop := fun x xs H Q => ∃ Z0 θ st u ws, SR C.K Z0 θ st H ∧ WR C.K (Zs Z0 θ) θ H u x ∧ WRs C.K (Zs Z0 θ) θ H ws xs ∧ Post C Z0 θ H (relW C.K Z0) (g u ws st) Q
theorem t_meth {g : W → List W → Sto → R W} {fo : En → Sto → R W} {fa : En → Sto → R (List W)} {σ : L2.St} {Q : VK} (q : rdE C (dMeth g fo fa) σ H Q) : tBM C.K "list" (rdM C g) (rdE C fo) (rdA C fa) σ H Q := by
  obtain ⟨Z0, θ, ρ, st, S, N, p⟩ := q
  refine ⟨Z0, θ, ρ, st, S, N, Post.bind p fun u st1 θ1 H1 v _ e1 S1 w1 p1 => ?_⟩
  split at p1
  · split at p1
    · rename_i ws' hw
      obtain ⟨a, vs, rfl, h2, h3, h4⟩ := S1.at_ w1 hw
      exact ⟨.inl ⟨rfl, vs, .inl (.inl h3)⟩, Z0, θ1, ρ, st1, S1, N.ext e1, Post.bind p1 fun ws st2 θ2 H2 us _ e2 S2 w2 p2 => ⟨Z0, θ2, st2, _, ws, S2, w1.ext e2, w2, p2⟩⟩
    · exact p1.elim
  · exact p1.elim
@[simp] def dMeth0 (g : W → List W → Sto → R W) (fo : En → Sto → R W) : En → Sto → R W := fun ρ st => (fo ρ st).bind fun u s => match u with
  | .ref n => match s[n]? with
    | some (.lst _) => g u [] s
    | _ => .bad
  | _ => .bad
theorem t_meth0 {g : W → List W → Sto → R W} {fo : En → Sto → R W} {σ : L2.St} {Q : VK} (q : rdE C (dMeth0 g fo) σ H Q) : tBM0 C.K "list" (rdM C g) (rdE C fo) σ H Q := by
  obtain ⟨Z0, θ, ρ, st, S, N, p⟩ := q
  refine ⟨Z0, θ, ρ, st, S, N, Post.bind p fun u st1 θ1 H1 v _ e1 S1 w1 p1 => ?_⟩
  split at p1
  · split at p1
    · rename_i ws' hw
      obtain ⟨a, vs, rfl, h2, h3, h4⟩ := S1.at_ w1 hw
      exact ⟨.inl ⟨rfl, vs, .inl (.inl h3)⟩, Z0, θ1, st1, _, [], S1, w1, .nil, p1⟩
    · exact p1.elim
  · exact p1.elim
@[simp] def mAppend : W → List W → Sto → R W := fun u ws st => match u, ws with
  | .ref n, [w] => match st[n]? with
    | some (.lst xs) => chk (xs.length < sizeLine) (.ok (.d .none) (st.set n (.lst (xs ++ [w]))))
    | _ => .bad
  | _, _ => .bad
theorem paired_snoc {α β : Type} {F : α → β → Prop} {l₁ : List α} {l₂ : List β} {a : α} {b : β} (h : Paired F l₁ l₂) (r : F a b) : Paired F (l₁ ++ [a]) (l₂ ++ [b]) := by
  induction h with
  | nil => exact .cons r .nil
  | cons x _ ih => exact .cons x ih
theorem mtAppend : MtR X "list.append" (rdM C mAppend) := by
  intro pins s σ H x xs v us Q I rx rs h
  obtain ⟨Z0, θ, st, u, ws, S, wu, wws, p⟩ := h
  unfold mAppend at p
  split at p
  · split at p
    · rename_i n w zs hw
      obtain ⟨a, vs, rfl, h2, h3, h4⟩ := S.at_ wu hw
      cases wws with
      | cons r1 r2 =>
        cases r2
        refine mt_append pins s σ H _ _ v us Q I rx rs ⟨_, _, _, rfl, rfl, h3, by rw [← h4.length]; exact p.chk.1, ?_⟩
        exact p.chk.2 θ _ .non (Ext.write S h2 h3) (S.write h2 h3 (paired_snoc h4 r1)) (show Pd _ _ _ _ _ from .non)
    · exact p.elim
  · exact p.elim
@[simp] def mPop : W → List W → Sto → R W := fun u ws st => match u, ws with
  | .ref n, [] => match st[n]? with
    | some (.lst xs) => match xs[xs.length - 1]? with
      | some w => .ok w (st.set n (.lst xs.dropLast))
      | none => .bad
    | _ => .bad
  | _, _ => .bad
theorem paired_dropLast {α β : Type} {F : α → β → Prop} {l₁ : List α} {l₂ : List β} (h : Paired F l₁ l₂) : Paired F l₁.dropLast l₂.dropLast := by
  induction h with
  | nil => exact .nil
  | cons x t ih =>
    cases t with
    | nil => exact .nil
    | cons y t' => exact .cons x ih
theorem mtPop : MtR X "list.pop" (rdM C mPop) := by
  intro pins s σ H x xs v us Q I rx rs h
  obtain ⟨Z0, θ, st, u, ws, S, wu, wws, p⟩ := h
  unfold mPop at p
  split at p
  · split at p
    · rename_i n zs hw
      split at p
      · rename_i w hx
        obtain ⟨a, vs, rfl, h2, h3, h4⟩ := S.at_ wu hw
        cases wws
        obtain ⟨y, hy, ry⟩ := L2.paired_get h4 hx
        rw [h4.length] at hy
        have x := Ext.write (vs' := vs.dropLast) S h2 h3
        refine mt_pop pins s σ H _ _ v us Q I rx rs ⟨_, _, _, rfl, rfl, h3, hy, ?_⟩
        exact p θ _ y x (S.write h2 h3 (paired_dropLast h4)) (WR.ext x ry)
      · exact p.elim
    · exact p.elim
  · exact p.elim
@[simp] def mPopAt : W → List W → Sto → R W := fun u ws st => match u, ws with
  | .ref n, [.d (.int i)] => match st[n]? with
    | some (.lst xs) => match xs[i.toNat]? with
      | some w => chk (0 ≤ i ∧ i < 2 ^ 63) (.ok w (st.set n (.lst (xs.eraseIdx i.toNat))))
      | none => .bad
    | _ => .bad
  | _, _ => .bad
theorem paired_erase {α β : Type} {F : α → β → Prop} {l₁ : List α} {l₂ : List β} (h : Paired F l₁ l₂) : ∀ i, Paired F (l₁.eraseIdx i) (l₂.eraseIdx i) := by
  induction h with
  | nil => intro i; exact .nil
  | cons x t ih =>
    intro i
    cases i with
    | zero => exact t
    | succ i => exact .cons x (ih i)
theorem mtPopAt : MtR X "list.pop" (rdM C mPopAt) := by
  intro pins s σ H x xs v us Q I rx rs h
  obtain ⟨Z0, θ, st, u, ws, S, wu, wws, p⟩ := h
  unfold mPopAt at p
  split at p
  · split at p
    · rename_i i _ zs hw
      split at p
      · rename_i w hx
        obtain ⟨a, vs, rfl, h2, h3, h4⟩ := S.at_ wu hw
        cases wws with
        | cons r1 r2 =>
          cases r2
          cases r1
          obtain ⟨y, hy, ry⟩ := L2.paired_get h4 hx
          obtain ⟨⟨c1, c2⟩, p⟩ := p.chk
          have x := Ext.write (vs' := vs.eraseIdx i.toNat) S h2 h3
          have hl : i.toNat < vs.length := (List.getElem?_eq_some_iff.mp hy).1
          refine mt_popAt pins s σ H _ _ v us Q I rx rs ⟨_, _, _, i.toNat, _, rfl, rfl, h3, by omega, c2, ?_, hy, ?_⟩
          · have := atI_get (xs := vs) (i := i) (v := y) (by have := atI_nat (xs := vs) (j := i.toNat) hy; rwa [show ((i.toNat : Nat) : Int) = i by omega] at this)
            obtain ⟨j, q1, q2, q3, _⟩ := this
            have e : ixN vs.length i = some i.toNat := by
              unfold ixN
              rw [if_pos c1, if_pos (by omega)]
            exact (ixN_seq e).1
          · exact p θ _ y x (S.write h2 h3 (paired_erase h4 _)) (WR.ext x ry)
      · exact p.elim
    · exact p.elim
  · exact p.elim
/-- texts' methods -/
@[simp] def dMethS (g : W → List W → Sto → R W) (fo : En → Sto → R W) (fa : En → Sto → R (List W)) : En → Sto → R W := fun ρ st => (fo ρ st).bind fun u s => match u with
  | .d (.str x) => (fa ρ s).bind fun ws s => g (.d (.str x)) ws s
  | _ => .bad
theorem t_methS {g : W → List W → Sto → R W} {fo : En → Sto → R W} {fa : En → Sto → R (List W)} {σ : L2.St} {Q : VK} (q : rdE C (dMethS g fo fa) σ H Q) : tBM C.K "str" (rdM C g) (rdE C fo) (rdA C fa) σ H Q := by
  obtain ⟨Z0, θ, ρ, st, S, N, p⟩ := q
  refine ⟨Z0, θ, ρ, st, S, N, Post.bind p fun u st1 θ1 H1 v _ e1 S1 w1 p1 => ?_⟩
  split at p1
  · cases w1
    exact ⟨rfl, Z0, θ1, ρ, st1, S1, N.ext e1, Post.bind p1 fun ws st2 θ2 H2 us _ e2 S2 w2 p2 => ⟨Z0, θ2, st2, .d (.str _), ws, S2, Pd.str (K := C.K) (Z := Zs Z0 θ2) (H := H2) _, w2, p2⟩⟩
  · exact p1.elim
def asStrs : List PyData → Option (List Str)
  | [] => some []
  | .str i :: r => (asStrs r).map (i :: ·)
  | _ :: _ => none
theorem asStrs_eq : ∀ {ds : List PyData} {ns : List Str}, asStrs ds = some ns → ds = ns.map .str
  | [], ns, h => by cases h; rfl
  | .str i :: ds, ns, h => by
    simp only [asStrs, Option.map_eq_some_iff] at h
    obtain ⟨es, h1, rfl⟩ := h
    rw [asStrs_eq h1]; rfl
  | .none :: _, _, h => by cases h
  | .int _ :: _, _, h => by cases h
  | .bool _ :: _, _, h => by cases h
  | .list _ :: _, _, h => by cases h
  | .tuple _ :: _, _, h => by cases h
  | .dict _ :: _, _, h => by cases h
theorem asStrs_map (ns : List Str) : asStrs (ns.map .str) = some ns := by
  induction ns with
  | nil => rfl
  | cons n ns ih => simp [asStrs, ih]
theorem PdAll.strsEq {K : PySem.W.Frag} {Z : Addr → Prop} {H : Hp} : ∀ {ns : List Str} {vs : List V}, PdAll K Z H vs (ns.map .str) → vs = ns.map V.str
  | [], _, h => by cases h; rfl
  | n :: ns, _, h => by cases h with | cons a b => cases a; rw [PdAll.strsEq b]; rfl
@[simp] def mFind : W → List W → Sto → R W := fun u ws st => match u, ws with
  | .d (.str x), [.d (.str y), .d (.int i)] => .ok (.d (.int (Txt.find3 x y i))) st
  | _, _ => .bad
theorem mtFind : MtR X "str.find" (rdM C mFind) := by
  intro pins s σ H x xs v us Q I rx rs h
  obtain ⟨Z0, θ, st, u, ws, S, wu, wws, p⟩ := h
  unfold mFind at p
  split at p
  · cases wu
    cases wws with
    | cons r1 r2 =>
      cases r2 with
      | cons r3 r4 =>
        cases r4; cases r1; cases r3
        exact mt_find3 pins s σ H _ _ v us Q I rx rs ⟨_, _, _, rfl, rfl, p.now S (show Pd _ _ _ _ _ from .int _)⟩
  · exact p.elim
@[simp] def mJoin : W → List W → Sto → R W := fun u ws st => match u, ws with
  | .d (.str x), [w] => match asD st w with
    | some (.list ds) => match asStrs ds with
      | some ys => chk ((ys.map (·.length)).sum + ys.length * x.length ≤ 16777216) (.ok (.d (.str (Txt.join x ys))) st)
      | none => .bad
    | some (.tuple ds) => match asStrs ds with
      | some ys => chk ((ys.map (·.length)).sum + ys.length * x.length ≤ 16777216) (.ok (.d (.str (Txt.join x ys))) st)
      | none => .bad
    | _ => .bad
  | _, _ => .bad
theorem mtJoin (hK : C.K = X.K) : MtR X "str.join" (rdM C mJoin) := by
  obtain ⟨K, mg, E⟩ := C
  obtain rfl : K = X.K := hK
  intro pins s σ H x xs v us Q I rx rs h
  obtain ⟨Z0, θ, st, u, ws, S, wu, wws, p⟩ := h
  unfold mJoin at p
  split at p
  · cases wu
    cases wws with
    | cons r1 r2 =>
      cases r2
      split at p
      · rename_i ds hd
        split at p
        · rename_i ys hy
          have := asStrs_eq hy
          subst this
          obtain ⟨a, vs, rfl, hs, r'⟩ := asD_list S r1 hd
          have := r'.strsEq
          subst this
          exact mt_join pins s σ H _ _ v us Q I rx rs ⟨_, _, ys, rfl, rfl, .inl hs, p.chk.1, p.chk.2.now S (show Pd _ _ _ _ _ from .str _)⟩
        · exact p.elim
      · rename_i ds hd
        split at p
        · rename_i ys hy
          have := asStrs_eq hy
          subst this
          obtain ⟨a, vs, rfl, hs, r'⟩ := asD_tup r1 hd
          have := r'.strsEq
          subst this
          exact mt_join pins s σ H _ _ v us Q I rx rs ⟨_, _, ys, rfl, rfl, .inr hs, p.chk.1, p.chk.2.now S (show Pd _ _ _ _ _ from .str _)⟩
        · exact p.elim
      · exact p.elim
  · exact p.elim
/-! ### o[i] = e -/
@[simp] def dSetIx (fe fo fi : En → Sto → R W) : DS := fun ρ st => (fe ρ st).bind fun w s => (fo ρ s).bind fun o s => (fi ρ s).bind fun i s => match o, i with
  | .ref n, .d (.int i) => match s[n]? with
    | some (.lst xs) => match ixN xs.length i with
      | some j => .ok (.nx, ρ) (s.set n (.lst (xs.set j w)))
      | none => .bad
    | _ => .bad
  | _, _ => .bad
theorem paired_set {α β : Type} {F : α → β → Prop} {l₁ : List α} {l₂ : List β} {a : α} {b : β} (h : Paired F l₁ l₂) (r : F a b) : ∀ j, Paired F (l₁.set j a) (l₂.set j b) := by
  induction h with
  | nil => intro j; exact .nil
  | cons x t ih =>
    intro j
    cases j with
    | zero => exact .cons r t
    | succ j => exact .cons x (ih j)
theorem y_setIx {o i e : Expr} {pos ps : Pos} {fe fo fi : En → Sto → R W} (he : PE X e (rdE C fe)) (ho : PE X o (rdE C fo)) (hi : PE X i (rdE C fi))
    (ha : ∀ v, assign (.Subscript o i ps) X.env v = (do
      let ov ← holding [v] (eval o X.env)
      let iv ← holding [v, ov] (eval i X.env)
      standAt ps
      holding [v, ov, iv] (setItem ov iv v)
      release [v, ov, iv] []) := by intro _; rfl)
    (hs : swapsWithSole [.Subscript o i ps] e pos.line X.env = pure false := by rfl) (hw : swappedStores [.Subscript o i ps] e X.env = pure none := by rfl)
    (h1 : (assignEach [.Subscript o i ps] X.env).map (·.2) = [assign (.Subscript o i ps) X.env] := by rfl) : PS X (.Assign [.Subscript o i ps] e pos) (rdS C (dSetIx fe fo fi)) := PS.imp (ps_asg he (pg_sub ho hi set_list ha) hs hw h1) fun D σ H q => by
  obtain ⟨Z0, θ, ρ, st, S, N, p⟩ := q
  refine ⟨Z0, θ, ρ, st, S, N, PostS.bindE p fun w st1 θ1 H1 v e1 S1 w1 p1 => ⟨Z0, θ1, ρ, st1, S1, N.ext e1, PostS.bindE p1 fun ow st2 θ2 H2 ov e2 S2 w2 p2 => ⟨Z0, θ2, ρ, st2, S2, (N.ext e1).ext e2, PostS.bindE p2 fun iw st3 θ3 H3 iv e3 S3 w3 p3 => ?_⟩⟩⟩
  split at p3
  · split at p3
    · rename_i n k xs hx
      split at p3
      · rename_i j hj
        cases w3
        obtain ⟨a, vs, rfl, h2, h3, h4⟩ := S3.at_ (w2.ext e3) hx
        have x := Ext.write (vs' := vs.set j v) S3 h2 h3
        refine ⟨_, _, _, j, rfl, rfl, h3, by rw [← h4.length]; exact hj, ?_⟩
        have r := WR.ext e3 (WR.ext e2 w1)
        exact p3 θ3 _ σ x (S3.write h2 h3 (paired_set h4 r j)) (EnR.ext x (EnR.ext e3 (EnR.ext e2 (N.ext e1))))
      · exact p3.elim
    · exact p3.elim
  · exact p3.elim

/-! ### what is walked -/
/-- as Ext, but for places that are another's -/
structure ExtW (Z0 : Addr → Prop) (θ : List (Option Addr)) (H : Hp) (θ' : List (Option Addr)) (H' : Hp) : Prop where
  mem : ∀ a, some a ∈ θ' → some a ∈ θ ∨ H a = none
  keep : ∀ a o, ¬ Zs Z0 θ a → H a = some o → H' a = some o
  tup : ∀ a xs, H a = some (.tup xs) → H' a = some (.tup xs)
  frz : ∀ a o u, H a = some (.frz o u) → H' a = some (.frz o u)
  live : ∀ a, H a ≠ none → H' a ≠ none
theorem Ext.w {Z0 : Addr → Prop} {θ θ1 : List (Option Addr)} {H H1 : Hp} (e : Ext θ H θ1 H1) : ExtW Z0 θ H θ1 H1 := ⟨fun a h => e.mem h, fun a o hz h => e.keep a o (fun q => hz (.inl q)) h, e.tup, e.frz, e.live⟩
theorem ExtW.trans {Z0 : Addr → Prop} {θ θ1 θ2 : List (Option Addr)} {H H1 H2 : Hp} (e : ExtW Z0 θ H θ1 H1) (f : Ext θ1 H1 θ2 H2) : ExtW Z0 θ H θ2 H2 := by
  refine ⟨fun a h => ?_, fun a o hz h => f.keep a o (fun q => ?_) (e.keep a o hz h), fun a xs h => f.tup a xs (e.tup a xs h), fun a o u h => f.frz a o u (e.frz a o u h), fun a h => f.live a (e.live a h)⟩
  · rcases f.mem h with q | q
    · exact e.mem a q
    · right
      cases z : H a with
      | none => rfl
      | some o => exact absurd q (e.live a (by rw [z]; simp))
  · rcases e.mem a q with q | q
    · exact hz (.inl q)
    · rw [q] at h; cases h
theorem ExtW.put {Z0 : Addr → Prop} {θ θ1 : List (Option Addr)} {H H1 : Hp} {D : Addr} {xs ys : List V} (e : ExtW Z0 θ H θ1 H1) (hz : Zs Z0 θ D) (hD : H D = some (.lst xs)) : ExtW Z0 θ H θ1 (upd H1 D (.lst ys)) := by
  refine ⟨e.mem, fun a o hn h => ?_, fun a us h => ?_, fun a o u h => ?_, fun a h => ?_⟩
  · rw [upd_ne (fun z : a = D => hn (by rw [z]; exact hz))]; exact e.keep a o hn h
  · rw [upd_ne (fun z : a = D => by rw [z, hD] at h; cases h)]; exact e.tup a us h
  · rw [upd_ne (fun z : a = D => by rw [z, hD] at h; cases h)]; exact e.frz a o u h
  · by_cases z : a = D
    · rw [z, upd_same]; simp
    · rw [upd_ne z]; exact e.live a h
theorem ExtW.sqT {K : PySem.W.Frag} {Z0 : Addr → Prop} {θ θ1 : List (Option Addr)} {H H1 : Hp} (e : ExtW Z0 θ H θ1 H1) {a : Addr} {xs : List V} (h : SqT K H a xs) : SqT K H1 a xs := by
  rcases h with (h | ⟨o, h⟩) | h
  · exact .inl (.inl (e.tup _ _ h))
  · exact .inl (.inr ⟨o, e.frz _ _ _ h⟩)
  · exact .inr h
theorem ExtW.lstF {Z0 Z1 : Addr → Prop} {θ θ1 : List (Option Addr)} {H H1 : Hp} (hz : ∀ a, Z1 a → Z0 a ∨ H a = none) (e : ExtW Z0 θ H θ1 H1) {a : Addr} {xs : List V} (h : LstF (Zs Z0 θ) H a xs) : LstF (Zs Z1 θ1) H1 a xs := by
  obtain ⟨h, z⟩ := h
  have hn : H a ≠ none := by rcases h with h | ⟨o, h⟩ <;> rw [h] <;> simp
  refine ⟨?_, fun q => ?_⟩
  · rcases h with h | ⟨o, h⟩
    · exact .inl (e.keep a _ z h)
    · exact .inr ⟨o, e.keep a _ z h⟩
  · rcases q with q | q
    · rcases e.mem a q with q | q
      · exact z (.inl q)
      · exact hn q
    · rcases hz a q with q | q
      · exact z (.inr q)
      · exact hn q
mutual
theorem Pd.extW {K : PySem.W.Frag} {Z0 Z1 : Addr → Prop} {θ θ1 : List (Option Addr)} {H H1 : Hp} (hz : ∀ a, Z1 a → Z0 a ∨ H a = none) (e : ExtW Z0 θ H θ1 H1) : ∀ {d : PyData} {v : V}, Pd K (Zs Z0 θ) H v d → Pd K (Zs Z1 θ1) H1 v d
  | _, _, .non => .non
  | _, _, .bl b => .bl b
  | _, _, .int i => .int i
  | _, _, .str x => .str x
  | _, _, .lst h a => .lst (e.lstF hz h) (PdAll.extW hz e a)
  | _, _, .tup h a => .tup (e.sqT h) (PdAll.extW hz e a)
theorem PdAll.extW {K : PySem.W.Frag} {Z0 Z1 : Addr → Prop} {θ θ1 : List (Option Addr)} {H H1 : Hp} (hz : ∀ a, Z1 a → Z0 a ∨ H a = none) (e : ExtW Z0 θ H θ1 H1) : ∀ {ds : List PyData} {vs : List V}, PdAll K (Zs Z0 θ) H vs ds → PdAll K (Zs Z1 θ1) H1 vs ds
  | _, _, .nil => .nil
  | _, _, .cons a b => .cons (Pd.extW hz e a) (PdAll.extW hz e b)
end
/-- from here on J walks through the values ws -/
def ItOk (K : PySem.W.Frag) (Z0 : Addr → Prop) (θ : List (Option Addr)) (H : Hp) (ws : List W) (J : It) : Prop :=
  ∀ (Z1 : Addr → Prop) θ1 H1 st1, (∀ a, Z1 a → Z0 a ∨ H a = none) → ExtW Z0 θ H θ1 H1 → SR K Z1 θ1 st1 H1 → ∀ i : Nat, (∀ w, ws[i]? = some w → J.go i H1 ∧ ∀ x H2, J.yld i H1 x H2 → Ext θ1 H1 θ1 H2 ∧ SR K Z1 θ1 st1 H2 ∧ WR K (Zs Z1 θ1) θ1 H2 w x ∧ ∀ a, H1 a ≠ none → H2 a = H1 a) ∧ (ws.length ≤ i → J.stop i H1)
def rdI (C : Ct) (f : En → Sto → R (List W)) : TI := fun σ H Q => ∃ Z0 θ ρ st, SR C.K Z0 θ st H ∧ EnR C.K (Zs Z0 θ) θ H ρ σ ∧ Post C Z0 θ H (ItOk C.K Z0) (f ρ st) Q
theorem PI.imp {tg e : Expr} {t t' : TI} (h : PI X tg e t) (k : ∀ σ H Q, t' σ H Q → t σ H Q) : PI X tg e t' := ⟨fun pins s σ H Q I q => h.run pins s σ H Q I (k σ H Q q)⟩
theorem PI.or {tg e : Expr} {t t' : TI} (h : PI X tg e t) (h' : PI X tg e t') : PI X tg e (fun σ H R => t σ H R ∨ t' σ H R) := ⟨fun pins s σ H Q I q => q.elim (h.run pins s σ H Q I) (h'.run pins s σ H Q I)⟩
/-- other forbidden places -/
theorem lstF_zs {Z0 Z1 : Addr → Prop} {a : Addr} {xs : List V} (hz : ∀ a, Z1 a → Z0 a ∨ H a = none) (h : LstF (Zs Z0 θ) H a xs) : LstF (Zs Z1 θ) H a xs := by
  refine ⟨h.1, fun z => ?_⟩
  rcases z with z | z
  · exact h.2 (.inl z)
  · rcases hz a z with q | q
    · exact h.2 (.inr q)
    · rcases h.1 with e | ⟨o, e⟩ <;> (rw [q] at e; cases e)
mutual
theorem pd_zs {K : PySem.W.Frag} {Z0 Z1 : Addr → Prop} (hz : ∀ a, Z1 a → Z0 a ∨ H a = none) : ∀ {d : PyData} {v : V}, Pd K (Zs Z0 θ) H v d → Pd K (Zs Z1 θ) H v d
  | _, _, .non => .non
  | _, _, .bl b => .bl b
  | _, _, .int i => .int i
  | _, _, .str x => .str x
  | _, _, .lst h a => .lst (lstF_zs hz h) (pdAll_zs hz a)
  | _, _, .tup h a => .tup h (pdAll_zs hz a)
theorem pdAll_zs {K : PySem.W.Frag} {Z0 Z1 : Addr → Prop} (hz : ∀ a, Z1 a → Z0 a ∨ H a = none) : ∀ {ds : List PyData} {vs : List V}, PdAll K (Zs Z0 θ) H vs ds → PdAll K (Zs Z1 θ) H vs ds
  | _, _, .nil => .nil
  | _, _, .cons a b => .cons (pd_zs hz a) (pdAll_zs hz b)
end
theorem wr_zs {K : PySem.W.Frag} {Z0 Z1 : Addr → Prop} (hz : ∀ a, Z1 a → Z0 a ∨ H a = none) {w : W} {v : V} (h : WR K (Zs Z0 θ) θ H w v) : WR K (Zs Z1 θ) θ H w v := by
  cases w with
  | d x => exact pd_zs hz h
  | ref n => exact h
  | scr ns =>
    obtain ⟨a, h1, h2⟩ := h
    exact ⟨a, h1, h2.elim (fun q => .inl (lstF_zs hz q)) .inr⟩
theorem wrs_zs {K : PySem.W.Frag} {Z0 Z1 : Addr → Prop} (hz : ∀ a, Z1 a → Z0 a ∨ H a = none) {ws : List W} {vs : List V} (h : WRs K (Zs Z0 θ) θ H ws vs) : WRs K (Zs Z1 θ) θ H ws vs := Paired.imp (fun _ _ => wr_zs hz) h
/-- a walk through data that stands still -/
@[simp] def seqD : PyData → Option (List PyData)
  | .list ds => some ds
  | .tuple ds => some ds
  | .str x => some (x.cps.toList.map fun c => .str ⟨#[c]⟩)
  | _ => none
@[simp] def dIter (fe : En → Sto → R W) : En → Sto → R (List W) := fun ρ st => (fe ρ st).bind fun w s => match w with
  | .d x => match seqD x with
    | some ds => .ok (ds.map .d) s
    | none => .bad
  | .scr ns => .ok (ns.map fun n => .d (.int n)) s
  | _ => .bad
theorem itOk_lst {K : PySem.W.Frag} {a : Addr} {vs : List V} {ds : List PyData} (h1 : LstF (Zs Z0 θ) H a vs) (h2 : PdAll K (Zs Z0 θ) H vs ds) : ItOk K Z0 θ H (ds.map .d) (Itl K a) := fun Z1 θ1 H1 st1 hz e S i => by
  have q : SqL K H1 a vs := .inl (e.lstF hz h1).1
  refine ⟨fun w hw => ?_, fun hi => ⟨vs, q, by rw [h2.length]; simpa using hi⟩⟩
  rw [List.getElem?_map, Option.map_eq_some_iff] at hw
  obtain ⟨d, hd, rfl⟩ := hw
  obtain ⟨v, hv, r⟩ := h2.get hd
  refine ⟨⟨vs, v, q, hv⟩, fun x H2 y => ?_⟩
  obtain ⟨rfl, y⟩ := y
  have : x = v := Option.some.inj ((y vs q).symm.trans hv)
  subst this
  exact ⟨Ext.refl, S, show Pd _ _ _ _ _ from Pd.extW hz e r, fun _ _ => rfl⟩
theorem itOk_tup {K : PySem.W.Frag} {a : Addr} {vs : List V} {ds : List PyData} (h1 : SqT K H a vs) (h2 : PdAll K (Zs Z0 θ) H vs ds) : ItOk K Z0 θ H (ds.map .d) (Itt K a) := fun Z1 θ1 H1 st1 hz e S i => by
  have q : SqT K H1 a vs := e.sqT h1
  refine ⟨fun w hw => ?_, fun hi => ⟨vs, q, by rw [h2.length]; simpa using hi⟩⟩
  rw [List.getElem?_map, Option.map_eq_some_iff] at hw
  obtain ⟨d, hd, rfl⟩ := hw
  obtain ⟨v, hv, r⟩ := h2.get hd
  refine ⟨⟨vs, v, q, hv⟩, fun x H2 y => ?_⟩
  obtain ⟨rfl, y⟩ := y
  have : x = v := Option.some.inj ((y vs q).symm.trans hv)
  subst this
  exact ⟨Ext.refl, S, show Pd _ _ _ _ _ from Pd.extW hz e r, fun _ _ => rfl⟩
theorem itOk_str {K : PySem.W.Frag} {x : Str} : ItOk K Z0 θ H ((x.cps.toList.map fun c => PyData.str ⟨#[c]⟩).map .d) (Its x) := fun Z1 θ1 H1 st1 hz e S i => by
  refine ⟨fun w hw => ?_, fun hi => (show x.cps.size ≤ i by simpa using hi)⟩
  rw [List.getElem?_map, List.getElem?_map, Option.map_eq_some_iff] at hw
  obtain ⟨d, hd, rfl⟩ := hw
  rw [Option.map_eq_some_iff] at hd
  obtain ⟨c, hc, rfl⟩ := hd
  have hi : i < x.cps.size := by have := (List.getElem?_eq_some_iff.mp hc).1; simpa using this
  refine ⟨hi, fun v H2 y => ?_⟩
  obtain ⟨rfl, c', h1, rfl⟩ := y
  have : c' = c := by
    have e2 : x.cps[i]? = some c := by simpa using hc
    exact Option.some.inj (h1.symm.trans e2)
  subst this
  exact ⟨Ext.refl, S, show Pd _ _ _ _ _ from .str _, fun _ _ => rfl⟩
theorem y_iter {tg e : Expr} {fe : En → Sto → R W} (hK : C.K = X.K) (h : PE X e (rdE C fe)) : PI X tg e (rdI C (dIter fe)) := by
  obtain ⟨K, mg, E⟩ := C
  obtain rfl : K = X.K := hK
  refine PI.imp (PI.or (pi_list h) (PI.or (pi_tup h) (pi_str h))) fun σ H Q q => ?_
  obtain ⟨Z0, θ, ρ, st, S, N, p⟩ := q
  unfold dIter at p
  cases e : fe ρ st with
  | bad => rw [e] at p; exact p.elim
  | exc c x s => rw [e] at p; exact .inl ⟨Z0, θ, ρ, st, S, N, by rw [e]; exact p⟩
  | ok w st1 =>
    rw [e, R.bind_ok] at p
    split at p
    · rename_i x
      cases x with
      | list ds =>
        refine .inl ⟨Z0, θ, ρ, st, S, N, ?_⟩
        rw [e]
        intro θ1 H1 v e1 S1 w1
        cases w1 with
        | lst h1 h2 => exact ⟨_, rfl, ⟨_, h1.sqL⟩, p θ1 H1 _ e1 S1 (itOk_lst h1 h2)⟩
      | tuple ds =>
        refine .inr (.inl ⟨Z0, θ, ρ, st, S, N, ?_⟩)
        rw [e]
        intro θ1 H1 v e1 S1 w1
        cases w1 with
        | tup h1 h2 => exact ⟨_, rfl, ⟨_, h1⟩, p θ1 H1 _ e1 S1 (itOk_tup h1 h2)⟩
      | str x =>
        refine .inr (.inr ⟨Z0, θ, ρ, st, S, N, ?_⟩)
        rw [e]
        intro θ1 H1 v e1 S1 w1
        cases w1
        exact ⟨_, rfl, p θ1 H1 _ e1 S1 itOk_str⟩
      | none => exact p.elim
      | bool _ => exact p.elim
      | int _ => exact p.elim
      | dict _ => exact p.elim
    · rename_i ns
      refine .inl ⟨Z0, θ, ρ, st, S, N, ?_⟩
      rw [e]
      intro θ1 H1 v e1 S1 w1
      obtain ⟨a, rfl, h1⟩ := w1
      refine ⟨_, rfl, ⟨_, h1.sqL⟩, p θ1 H1 _ e1 S1 ?_⟩
      have e4 : (ns.map fun n => W.d (.int n)) = (ns.map PyData.int).map W.d := by simp
      rcases h1 with h1 | h1
      · rw [e4]; exact itOk_lst h1 (pdAll_ints ns)
      · intro Z1 θ2 H2 st2 hz e2 S2 i
        have q : SqL X.K H2 a (ns.map V.int) := sqL_of_hz h1
        refine ⟨fun w hw => ?_, fun hi => ⟨_, q, by simpa using hi⟩⟩
        rw [List.getElem?_map, Option.map_eq_some_iff] at hw
        obtain ⟨d, hd, rfl⟩ := hw
        have hv : (ns.map V.int)[i]? = some (.int d) := by rw [List.getElem?_map, hd]; rfl
        refine ⟨⟨_, _, q, hv⟩, fun x H3 y => ?_⟩
        obtain ⟨rfl, y⟩ := y
        have : x = .int d := Option.some.inj ((y _ q).symm.trans hv)
        subst this
        exact ⟨Ext.refl, S2, show Pd _ _ _ _ _ from .int _, fun _ _ => rfl⟩
    · exact p.elim
/-- range -/
def rngW (lo : Int) (n : Nat) : List W := (List.range n).map fun (i : Nat) => .d (.int (lo + i))
theorem itOk_rng {K : PySem.W.Frag} {lo : Int} {n : Nat} : ItOk K Z0 θ H (rngW lo n) (Itr lo n) := fun Z1 θ1 H1 st1 hz e S i => by
  refine ⟨fun w hw => ?_, fun hi => (show n ≤ i by simpa [rngW] using hi)⟩
  unfold rngW at hw
  rw [List.getElem?_map, Option.map_eq_some_iff] at hw
  obtain ⟨d, hd, rfl⟩ := hw
  obtain ⟨h1, h2⟩ := List.getElem?_eq_some_iff.mp hd
  have hd' : d = i := by simpa using h2.symm
  subst hd'
  refine ⟨(show d < n by simpa using h1), fun x H2 y => ?_⟩
  obtain ⟨rfl, rfl⟩ := y
  exact ⟨Ext.refl, S, show Pd _ _ _ _ _ from .int _, fun _ _ => rfl⟩
@[simp] def dRng1 (fa : En → Sto → R (List W)) : En → Sto → R (List W) := fun ρ st => (fa ρ st).bind fun ws s => match ws with
  | [.d (.int j)] => chk (-(2 ^ 62) ≤ j ∧ j < 2 ^ 62) (.ok (rngW 0 j.toNat) s)
  | _ => .bad
@[simp] def dRng2 (fa : En → Sto → R (List W)) : En → Sto → R (List W) := fun ρ st => (fa ρ st).bind fun ws s => match ws with
  | [.d (.int i), .d (.int j)] => chk (-(2 ^ 62) ≤ i ∧ i < 2 ^ 62 ∧ -(2 ^ 62) ≤ j ∧ j < 2 ^ 62) (.ok (rngW i (j - i).toNat) s)
  | _ => .bad
theorem y_rng1 {tg a : Expr} {fa : En → Sto → R (List W)} {p pos : Pos} (hg : Gl X "range") (hm : X.mg "range" = none) (ha : PA X [a] (rdA C fa)) (hs : starEach [a] X.env = [(false, eval a X.env)] := by rfl) : PI X tg (.Call (.Name "range" p) [a] [] pos) (rdI C (dRng1 fa)) := by
  refine PI.imp (pi_range1 hg hm ha hs) fun σ H Q q => ?_
  obtain ⟨Z0, θ, ρ, st, S, N, p⟩ := q
  refine ⟨Z0, θ, ρ, st, S, N, Post.bind p fun ws st1 θ1 H1 vs _ e1 S1 w1 p1 => ?_⟩
  split at p1
  · obtain ⟨⟨c1, c2⟩, p1⟩ := p1.chk
    cases w1 with
    | cons r1 r2 =>
      cases r2
      cases r1
      exact ⟨_, rfl, c1, c2, p1 θ1 H1 _ Ext.refl S1 itOk_rng⟩
  · exact p1.elim
theorem y_rng2 {tg a b : Expr} {fa : En → Sto → R (List W)} {p pos : Pos} (hg : Gl X "range") (hm : X.mg "range" = none) (ha : PA X [a, b] (rdA C fa)) (hs : starEach [a, b] X.env = [(false, eval a X.env), (false, eval b X.env)] := by rfl) (hs2 : starEach [b] X.env = [(false, eval b X.env)] := by rfl) :
    PI X tg (.Call (.Name "range" p) [a, b] [] pos) (rdI C (dRng2 fa)) := by
  refine PI.imp (pi_range2 hg hm ha hs hs2) fun σ H Q q => ?_
  obtain ⟨Z0, θ, ρ, st, S, N, p⟩ := q
  refine ⟨Z0, θ, ρ, st, S, N, Post.bind p fun ws st1 θ1 H1 vs _ e1 S1 w1 p1 => ?_⟩
  split at p1
  · obtain ⟨c, p1⟩ := p1.chk
    cases w1 with
    | cons r1 r2 =>
      cases r2 with
      | cons r3 r4 =>
        cases r4
        cases r1
        cases r3
        exact ⟨_, _, rfl, c, p1 θ1 H1 _ Ext.refl S1 itOk_rng⟩
  · exact p1.elim

/-! ### for, while -/
def forL (tg : W → En → Sto → R En) (body : DS) : List W → DS
  | [], ρ, st => .ok (.nx, ρ) st
  | w :: ws, ρ, st => (tg w ρ st).bind fun ρ1 s1 => (body ρ1 s1).bind fun a s2 => match a.1 with
    | .bk => .ok (.nx, a.2) s2
    | .rt w => .ok (.rt w, a.2) s2
    | _ => forL tg body ws a.2 s2
@[simp] def dFor (fi : En → Sto → R (List W)) (tg : W → En → Sto → R En) (body : DS) : DS := fun ρ st => (fi ρ st).bind fun ws s => forL tg body ws ρ s
theorem y_for {vs : List Nat} {tgt iter : Expr} {body : List Stmt} {fi : En → Sto → R (List W)} {tg : W → En → Sto → R En} {f : DS} {pos : Pos} (hp : PassesOwn (model X.prog X.w) X.A X.env X.xe) (hc : X.calm = true) (hi : PI X tgt iter (rdI C fi)) (hg : PG X tgt (rdG C vs tg)) (hb : PSs X body (rdS C f))
    (hs : ∀ x, foldedSetIterable iter X.env x = pure x := by intro _; rfl) : PS X (.For tgt iter body [] pos) (rdS C (dFor fi tg f)) := PS.imp (ps_for hp hc hi hg hb hs) fun D σ H q => by
  obtain ⟨Z0, θ, ρ, st, S, N, p⟩ := q
  refine ⟨Z0, θ, ρ, st, S, N, PostS.bindE p fun ws st1 θ1 H1 J e1 S1 it p1 => ?_⟩
  refine ⟨fun i m σ2 H2 => ∃ θ2 ρ2 st2, Ext θ1 H1 θ2 H2 ∧ SR C.K Z0 θ2 st2 H2 ∧ EnR C.K (Zs Z0 θ2) θ2 H2 ρ2 σ2 ∧ i ≤ ws.length ∧ m = ws.length - i ∧ PostS C Z0 θ2 H2 (forL tg f (ws.drop i) ρ2 st2) D, ⟨ws.length, θ1, ρ, st1, Ext.refl, S1, N.ext e1, Nat.zero_le _, by omega, p1⟩, fun i m σ2 H2 hW => ?_⟩
  obtain ⟨θ2, ρ2, st2, e2, S2, N2, hl, rfl, p2⟩ := hW
  obtain ⟨h1, h2⟩ := it Z0 θ2 H2 st2 (fun a h => .inl h) e2.w S2 i
  by_cases hlt : i < ws.length
  · obtain ⟨g1, g2⟩ := h1 ws[i] (List.getElem?_eq_getElem hlt)
    refine .inr ⟨g1, fun σ3 H3 => ∃ θ3 ρ3 st3, Ext θ1 H1 θ3 H3 ∧ SR C.K Z0 θ3 st3 H3 ∧ EnR C.K (Zs Z0 θ3) θ3 H3 ρ3 σ3 ∧ PostS C Z0 θ3 H3 (forL tg f (ws.drop (i + 1)) ρ3 st3) D, fun σ3 H3 h3 => ?_, fun x H3 y => ?_⟩
    · obtain ⟨θ3, ρ3, st3, a1, a2, a3, a4⟩ := h3
      exact ⟨ws.length - (i + 1), by omega, θ3, ρ3, st3, a1, a2, a3, hlt, rfl, a4⟩
    · obtain ⟨e3, S3, w3, _⟩ := g2 x H3 y
      rw [List.drop_eq_getElem_cons hlt] at p2
      have p3 := PostS.from e3 p2
      refine ⟨Z0, θ2, ρ2, st2, ws[i], S3, N2.ext e3, w3, PostS.bindE p3 fun ρ4 st4 θ4 H4 σ4 e4 S4 w4 p4 => ?_⟩
      refine ⟨Z0, θ4, ρ4, st4, S4, w4.1, PostS.bindS p4 fun fl ρ5 st5 θ5 H5 σ5 e5 S5 N5 p5 => ?_⟩
      have ee := ((e2.trans e3).trans e4).trans e5
      cases fl with
      | nx => exact ⟨θ5, ρ5, st5, ee, S5, N5, p5⟩
      | ct => exact ⟨θ5, ρ5, st5, ee, S5, N5, p5⟩
      | bk => exact p5.now S5 N5
      | rt w => exact p5.now S5 N5
  · have : i = ws.length := by omega
    subst this
    rw [List.drop_length] at p2
    exact .inl ⟨h2 (Nat.le_refl _), p2.now S2 N2⟩
def whileN (c : En → Sto → R Bool) (body : DS) : Nat → DS
  | 0, _, _ => .bad
  | n + 1, ρ, st => (c ρ st).bind fun k s => if k = true then (body ρ s).bind fun a s2 => match a.1 with
    | .bk => .ok (.nx, a.2) s2
    | .rt w => .ok (.rt w, a.2) s2
    | _ => whileN c body n a.2 s2
    else .ok (.nx, ρ) s
open Classical in
noncomputable def dWhile (c : En → Sto → R Bool) (body : DS) : DS := fun ρ st => if h : ∃ n, whileN c body n ρ st ≠ .bad then whileN c body (Classical.choose h) ρ st else .bad
theorem R.bind_mono {α β : Type} {r : R α} {f g : α → Sto → R β} (h : ∀ a s, r = .ok a s → f a s ≠ .bad → g a s = f a s) (hb : r.bind f ≠ .bad) : r.bind g = r.bind f := by
  cases r with
  | ok a s => exact h a s rfl hb
  | exc c x s => rfl
  | bad => rfl
theorem whileN_succ {c : En → Sto → R Bool} {body : DS} : ∀ (n : Nat) (ρ : En) (st : Sto), whileN c body n ρ st ≠ .bad → whileN c body (n + 1) ρ st = whileN c body n ρ st
  | 0, _, _, h => absurd rfl h
  | n + 1, ρ, st, h => by
    show (c ρ st).bind _ = (c ρ st).bind _
    refine R.bind_mono (fun k s _ h1 => ?_) h
    cases k with
    | false => rfl
    | true =>
      simp only [if_true] at h1 ⊢
      refine R.bind_mono (fun a s2 _ h2 => ?_) h1
      cases h3 : a.1 with
      | bk => rfl
      | rt w => rfl
      | nx => rw [h3] at h2; exact whileN_succ n a.2 s2 h2
      | ct => rw [h3] at h2; exact whileN_succ n a.2 s2 h2
theorem whileN_le {c : En → Sto → R Bool} {body : DS} {n m : Nat} (hle : n ≤ m) {ρ : En} {st : Sto} (h : whileN c body n ρ st ≠ .bad) : whileN c body m ρ st = whileN c body n ρ st := by
  induction hle with
  | refl => rfl
  | step _ ih => rw [whileN_succ _ _ _ (by rw [ih]; exact h), ih]
theorem dWhile_of {c : En → Sto → R Bool} {body : DS} {n : Nat} {ρ : En} {st : Sto} {r : R (Fl × En)} (h : whileN c body n ρ st = r) (hr : r ≠ .bad) : dWhile c body ρ st = r := by
  have hx : ∃ n, whileN c body n ρ st ≠ .bad := ⟨n, by rw [h]; exact hr⟩
  unfold dWhile
  rw [dif_pos hx]
  have h2 := Classical.choose_spec hx
  rcases Nat.le_total n (Classical.choose hx) with q | q
  · rw [whileN_le q (by rw [h]; exact hr), h]
  · rw [← h, whileN_le q h2]
theorem y_while {cond : Expr} {body : List Stmt} {c : En → Sto → R Bool} {f : DS} {pos : Pos} (hp : PassesOwn (model X.prog X.w) X.A X.env X.xe) (hc : PT X cond (rdT C c)) (hb : PSs X body (rdS C f)) : PS X (.While cond body [] pos) (rdS C (dWhile c f)) := PS.imp (ps_while hp hc hb) fun D σ H q => by
  obtain ⟨Z0, θ, ρ, st, S, N, p⟩ := q
  unfold dWhile at p
  split at p
  · rename_i hx
    refine ⟨fun m σ2 H2 => ∃ θ2 ρ2 st2, SR C.K Z0 θ2 st2 H2 ∧ EnR C.K (Zs Z0 θ2) θ2 H2 ρ2 σ2 ∧ PostS C Z0 θ2 H2 (whileN c f m ρ2 st2) D, ⟨_, θ, ρ, st, S, N, p⟩, fun m σ2 H2 hW => ?_⟩
    obtain ⟨θ2, ρ2, st2, S2, N2, p2⟩ := hW
    cases m with
    | zero => exact p2.elim
    | succ m =>
      refine ⟨Z0, θ2, ρ2, st2, S2, N2, PostS.bindE p2 fun k st3 θ3 H3 k' e3 S3 w3 p3 => ?_⟩
      cases w3
      cases k with
      | false => rw [if_neg (by simp)] at p3 ⊢; exact p3.now S3 (N2.ext e3)
      | true =>
        rw [if_pos rfl] at p3 ⊢
        refine ⟨fun σ4 H4 => ∃ θ4 ρ4 st4, SR C.K Z0 θ4 st4 H4 ∧ EnR C.K (Zs Z0 θ4) θ4 H4 ρ4 σ4 ∧ PostS C Z0 θ4 H4 (whileN c f m ρ4 st4) D, fun σ4 H4 h4 => ⟨m, Nat.lt_succ_self _, h4⟩, Z0, θ3, ρ2, st3, S3, N2.ext e3, PostS.bindS p3 fun fl ρ5 st5 θ5 H5 σ5 e5 S5 N5 p5 => ?_⟩
        cases fl with
        | nx => exact ⟨θ5, ρ5, st5, S5, N5, p5⟩
        | ct => exact ⟨θ5, ρ5, st5, S5, N5, p5⟩
        | bk => exact p5.now S5 N5
        | rt w => exact p5.now S5 N5
  · exact p.elim
end
end Y

namespace Y
open PySem PySem.Spec PyProof.Rows L2
section
variable {X : Cx} {C : Ct} {Z0 : Addr → Prop} {θ θ1 : List (Option Addr)} {H H1 : Hp} {D D' : Ends}
/-! ### list comprehensions -/
@[simp] def R.nox {α : Type} : R α → R α
  | .exc _ _ _ => .bad
  | r => r
abbrev Ct.nx (C : Ct) : Ct := ⟨C.K, C.mg, fun _ _ _ => False⟩
theorem Post.noxBind {α α' β β' : Type} {rel : List (Option Addr) → Hp → α → β → Prop} {rel' : List (Option Addr) → Hp → α' → β' → Prop} {r : R α} {f : α → Sto → R α'} {Q : β' → Hp → Prop} {G : β → Hp → Prop} (h : Post C Z0 θ H rel' (r.nox.bind f) Q)
    (k : ∀ w st1 θ1 H1 v, Ext θ H θ1 H1 → SR C.K Z0 θ1 st1 H1 → rel θ1 H1 w v → Post C Z0 θ1 H1 rel' (f w st1) Q → G v H1) : Post C.nx Z0 θ H rel r G := by
  cases r with
  | ok w st1 => exact fun θ1 H1 v e S p => k w st1 θ1 H1 v e S p (Post.from e h)
  | exc c x st1 => exact h.elim
  | bad => exact h
def lcL (tg : W → En → Sto → R En) (tt : En → Sto → R Bool) (fe : En → Sto → R W) (ρ : En) : List W → Sto → R (List W)
  | [], st => .ok [] st
  | w :: ws, st => (tg w ρ st).nox.bind fun ρ1 s1 => (tt ρ1 s1).nox.bind fun b s2 => if b = true then (fe ρ1 s2).nox.bind fun u s3 => (lcL tg tt fe ρ ws s3).bind fun us s4 => .ok (u :: us) s4
    else lcL tg tt fe ρ ws s2
/-- the values of a comprehension, its names at vs -/
@[simp] def dLc (vs : List Nat) (fi : En → Sto → R (List W)) (tg : W → En → Sto → R En) (tt : En → Sto → R Bool) (fe : En → Sto → R W) : En → Sto → R (List W) := fun ρ st => (fi ρ st).bind fun ws s => (lcL tg tt fe (wipeE ρ vs) ws s).bind fun us s2 => chk (us.length ≤ sizeLine) (.ok us s2)
@[simp] def dLcF (f : En → Sto → R (List W)) : En → Sto → R W := fun ρ st => (f ρ st).bind fun ws s => match allD ws with
  | some ds => .ok (.d (.list ds)) s
  | none => .bad
@[simp] def dLcN (f : En → Sto → R (List W)) : En → Sto → R W := fun ρ st => (f ρ st).bind fun ws s => .ok (.ref s.length) (s ++ [.lst ws])
/-- a place is set apart -/
def Zp (Z0 : Addr → Prop) (D : Addr) : Addr → Prop := fun a => a = D ∨ Z0 a
theorem Ext.mut {D : Addr} {o : HO} (e : Ext θ H θ1 H1) (h : H D = none) : Ext θ H θ1 (upd H1 D o) := by
  have nd : ∀ {a : Addr} {u : HO}, H a = some u → a ≠ D := fun q z => by rw [z, h] at q; cases q
  refine ⟨e.new, e.old, fun a u ha q => ?_, fun a xs q => ?_, fun a u v q => ?_, fun a q => ?_⟩
  · rw [upd_ne (nd q)]; exact e.keep a u ha q
  · rw [upd_ne (nd q)]; exact e.tup a xs q
  · rw [upd_ne (nd q)]; exact e.frz a u v q
  · cases z : H a with
    | none => exact absurd z q
    | some u => rw [upd_ne (nd z)]; exact e.live a q
/-- the list at a place that is set apart may change -/
theorem Ext.apart {D : Addr} {xs ys : List V} (h : H D = some (.lst xs)) : ∀ {K : PySem.W.Frag} {Z : Addr → Prop} (hz : Z D), (∀ {d : PyData} {v : V}, Pd K Z H v d → Pd K Z (upd H D (.lst ys)) v d) := by
  intro K Z hz
  have l : ∀ {a : Addr} {zs : List V}, LstF Z H a zs → LstF Z (upd H D (.lst ys)) a zs := fun {a zs} q => by
    have na : a ≠ D := fun z => q.2 (z ▸ hz)
    refine ⟨?_, q.2⟩
    rcases q.1 with q | ⟨o, q⟩
    · exact .inl (by rw [upd_ne na]; exact q)
    · exact .inr ⟨o, by rw [upd_ne na]; exact q⟩
  have t : ∀ {a : Addr} {zs : List V}, SqT K H a zs → SqT K (upd H D (.lst ys)) a zs := fun {a zs} q => by
    rcases q with (q | ⟨o, q⟩) | q
    · exact .inl (.inl (by rw [upd_ne (show a ≠ D from fun z => by rw [z, h] at q; cases q)]; exact q))
    · exact .inl (.inr ⟨o, by rw [upd_ne (show a ≠ D from fun z => by rw [z, h] at q; cases q)]; exact q⟩)
    · exact .inr q
  intro d v p
  exact Pd.rec (motive_1 := fun v d _ => Pd K Z (upd H D (.lst ys)) v d) (motive_2 := fun vs ds _ => PdAll K Z (upd H D (.lst ys)) vs ds) .non .bl .int .str (fun q _ ih => .lst (l q) ih) (fun q _ ih => .tup (t q) ih) .nil (fun _ _ a b => .cons a b) p
theorem wr_apart {K : PySem.W.Frag} {Z : Addr → Prop} {D : Addr} {xs ys : List V} (h : H D = some (.lst xs)) (hz : Z D) {w : W} {v : V} (r : WR K Z θ H w v) : WR K Z θ (upd H D (.lst ys)) w v := by
  cases w with
  | d x => exact Ext.apart h hz r
  | ref n => exact r
  | scr ns =>
    obtain ⟨a, h1, h2⟩ := r
    refine ⟨a, h1, h2.elim (fun q => .inl ?_) .inr⟩
    have na : a ≠ D := fun z => q.2 (z ▸ hz)
    refine ⟨?_, q.2⟩
    rcases q.1 with q | ⟨o, q⟩
    · exact .inl (by rw [upd_ne na]; exact q)
    · exact .inr ⟨o, by rw [upd_ne na]; exact q⟩
theorem enR_apart {K : PySem.W.Frag} {Z : Addr → Prop} {D : Addr} {xs ys : List V} (h : H D = some (.lst xs)) (hz : Z D) {ρ : En} {σ : L2.St} (N : EnR K Z θ H ρ σ) : EnR K Z θ (upd H D (.lst ys)) ρ σ :=
  ⟨N.len, fun i w q => let ⟨v, h1, h2⟩ := N.at_ i w q; ⟨v, h1, wr_apart h hz h2⟩⟩
theorem sr_apart {K : PySem.W.Frag} {D : Addr} {xs ys : List V} {st : Sto} (h : H D = some (.lst xs)) (hz : Z0 D) (S : SR K Z0 θ st H) : SR K Z0 θ st (upd H D (.lst ys)) := by
  refine ⟨S.len, S.nd, fun n a o h1 h2 => ?_, S.dd, fun a q => ?_, S.dis⟩
  · have na : a ≠ D := fun z => S.dis a (List.mem_of_getElem? h1) (z ▸ hz)
    have q := S.obj n a o h1 h2
    cases o with
    | dead => exact q
    | lst ws =>
      obtain ⟨vs, q1, q2⟩ := q
      exact ⟨vs, by rw [upd_ne na]; exact q1, Paired.imp (fun _ _ => wr_apart h (.inr hz)) q2⟩
  · by_cases z : a = D
    · rw [z, upd_same]; simp
    · rw [upd_ne z]; exact S.z0 a q
/-- a new list's place is set apart -/
theorem sr_zp {K : PySem.W.Frag} {D : Addr} {o : HO} {st : Sto} (h : H D = none) (S : SR K Z0 θ st H) : SR K (Zp Z0 D) θ st (upd H D o) := by
  have S2 := S.alloc (o := o) h
  have hz : ∀ a, Zp Z0 D a → Z0 a ∨ H a = none := fun a q => by
    rcases q with q | q
    · exact .inr (q ▸ h)
    · exact .inl q
  refine ⟨S.len, S.nd, fun n a so h1 h2 => ?_, S.dd, fun a q => ?_, fun a ha q => ?_⟩
  · have q := S.obj n a so h1 h2
    have na : a ≠ D := fun z => S.notZ h (.inl (z ▸ List.mem_of_getElem? h1))
    cases so with
    | dead => exact q
    | lst ws =>
      obtain ⟨vs, q1, q2⟩ := q
      exact ⟨vs, by rw [upd_ne na]; exact q1, WRs.ext (Ext.alloc h) (wrs_zs hz q2)⟩
  · rcases q with q | q
    · rw [q, upd_same]; simp
    · exact S2.z0 a q
  · rcases q with q | q
    · exact S.notZ h (.inl (q ▸ ha))
    · exact S.dis a ha q
theorem enR_zp {K : PySem.W.Frag} {D : Addr} {o : HO} (h : H D = none) {ρ : En} {σ : L2.St} (N : EnR K (Zs Z0 θ) θ H ρ σ) : EnR K (Zs (Zp Z0 D) θ) θ (upd H D o) ρ σ :=
  ⟨N.len, fun i w q => let ⟨v, h1, h2⟩ := N.at_ i w q; ⟨v, h1, WR.ext (Ext.alloc h) (wr_zs (fun a q => q.elim (fun z => .inr (z ▸ h)) .inl) h2)⟩⟩
theorem sr_unzp {K : PySem.W.Frag} {D : Addr} {st : Sto} (S : SR K (Zp Z0 D) θ st H) : SR K Z0 θ st H := by
  refine ⟨S.len, S.nd, fun n a so h1 h2 => ?_, S.dd, fun a q => S.z0 a (.inr q), fun a ha q => S.dis a ha (.inr q)⟩
  have q := S.obj n a so h1 h2
  cases so with
  | dead => exact q
  | lst ws =>
    obtain ⟨vs, q1, q2⟩ := q
    exact ⟨vs, q1, wrs_zs (fun a z => .inl (.inr z)) q2⟩
theorem wipe_wipe (σ : L2.St) : ∀ vs : List Nat, L2.wipe (L2.wipe σ vs) vs = L2.wipe σ vs
  | [] => rfl
  | v :: vs => by
    have key : ∀ (us : List Nat) (τ : L2.St) (i : Nat), L2.wipe (τ.set i none) us = (L2.wipe τ us).set i none := by
      intro us
      induction us with
      | nil => intro τ i; rfl
      | cons u us ih =>
        intro τ i
        show (L2.wipe (τ.set i none) us).set u none = ((L2.wipe τ us).set u none).set i none
        rw [ih]
        by_cases h : i = u
        · rw [h]
        · rw [List.set_comm _ _ h]
    show (L2.wipe ((L2.wipe σ vs).set v none) vs).set v none = (L2.wipe σ vs).set v none
    rw [key, wipe_wipe σ vs, List.set_set]
theorem nox_noexc {α : Type} {r : R α} {c : Str} {x : PyData} {s : Sto} (h : r.nox = .exc c x s) : False := by
  cases r <;> cases h
theorem lcL_noexc {tg : W → En → Sto → R En} {tt : En → Sto → R Bool} {fe : En → Sto → R W} {ρ : En} : ∀ {ws : List W} {st : Sto} {c : Str} {x : PyData} {s : Sto}, lcL tg tt fe ρ ws st = .exc c x s → False
  | [], _, _, _, _, h => by cases h
  | w :: ws, st, c, x, s, h => by
    unfold lcL at h
    cases c1 : (tg w ρ st).nox with
    | bad => rw [c1] at h; cases h
    | exc c x s => exact nox_noexc c1
    | ok ρ1 s1 =>
      rw [c1, R.bind_ok] at h
      cases c2 : (tt ρ1 s1).nox with
      | bad => rw [c2] at h; cases h
      | exc c x s => exact nox_noexc c2
      | ok b s2 =>
        rw [c2, R.bind_ok] at h
        cases b with
        | false => exact lcL_noexc h
        | true =>
          rw [if_pos rfl] at h
          cases c3 : (fe ρ1 s2).nox with
          | bad => rw [c3] at h; cases h
          | exc c x s => exact nox_noexc c3
          | ok u s3 =>
            rw [c3, R.bind_ok] at h
            cases c4 : lcL tg tt fe ρ ws s3 with
            | bad => rw [c4] at h; cases h
            | exc c x s => exact lcL_noexc c4
            | ok us s4 => rw [c4] at h; cases h
/-- the raw reading of a comprehension -/
theorem t_lcZ {vs : List Nat} {fi : En → Sto → R (List W)} {tg : W → En → Sto → R En} {tt : En → Sto → R Bool} {fe : En → Sto → R W} {σ : L2.St} {Q : VK} {Z0 : Addr → Prop} {θ : List (Option Addr)} {ρ : En} {st : Sto} {k : List W → Sto → R W}
    (S : SR C.K Z0 θ st H) (N : EnR C.K (Zs Z0 θ) θ H ρ σ) (p : Post C Z0 θ H (relW C.K Z0) ((dLc vs fi tg tt fe ρ st).bind k) Q)
    (fin : ∀ us st2 θ1 H1 θ2 H2 D acc, Ext θ H θ1 H1 → Ext θ1 H1 θ2 H2 → SR C.K (Zp Z0 D) θ2 st2 H2 → H2 D = some (.lst acc) → H1 D = none → some D ∉ θ2 → ¬ Z0 D → WRs C.K (Zs (Zp Z0 D) θ2) θ2 H2 us acc → Post C Z0 θ1 H1 (relW C.K Z0) (k us st2) Q → Q (.ref D) H2) :
    tLc (rdI C fi) (rdG C.nx vs tg) (rdT C.nx tt) (rdE C.nx fe) vs σ H Q := by
  unfold dLc at p
  rw [R.bind_assoc] at p
  refine ⟨Z0, θ, ρ, st, S, N, Post.bind p fun ws st1 θ1 H1 J _ e1 S1 it p1 => fun D hD => ?_⟩
  -- what is still to be made of the rest of the values
  refine ⟨fun i m H2 => ∃ θ2 st2 acc us, Ext θ1 H1 θ2 H2 ∧ SR C.K (Zp Z0 D) θ2 st2 H2 ∧ EnR C.K (Zs (Zp Z0 D) θ2) θ2 H2 (wipeE ρ vs) (L2.wipe σ vs) ∧ H2 D = some (.lst acc) ∧ some D ∉ θ2 ∧ WRs C.K (Zs (Zp Z0 D) θ2) θ2 H2 us acc ∧ i ≤ ws.length ∧ m = ws.length - i ∧
      Post C Z0 θ1 H1 (relW C.K Z0) ((((lcL tg tt fe (wipeE ρ vs) (ws.drop i) st2).bind fun us' s => .ok (us ++ us') s).bind fun us s => chk (us.length ≤ sizeLine) (.ok us s)).bind k) Q, ⟨ws.length, θ1, st1, [], [], Ext.mut Ext.refl hD, sr_zp hD S1, enR_zp hD ((N.ext e1).wipe vs), upd_same, fun z => S1.notZ hD (.inl z), .nil, Nat.zero_le _, by omega, ?_⟩, fun i m H2 hW => ?_⟩
  · have e : ∀ (r : R (List W)), (r.bind fun us' s => R.ok ([] ++ us') s) = r := fun r => by cases r <;> rfl
    rw [e]; exact p1
  obtain ⟨θ2, st2, acc, us, e2, S2, N2, hA, hN, rA, hl, rfl, p2⟩ := hW
  obtain ⟨h1, h2⟩ := it (Zp Z0 D) θ2 H2 st2 (fun a z => z.elim (fun z => .inr (z ▸ hD)) .inl) e2.w S2 i
  by_cases hlt : i < ws.length
  · obtain ⟨g1, g2⟩ := h1 ws[i] (List.getElem?_eq_getElem hlt)
    rw [List.drop_eq_getElem_cons hlt] at p2
    refine .inr ⟨g1, fun H3 => ∃ θ3 st3 acc us, Ext θ1 H1 θ3 H3 ∧ SR C.K (Zp Z0 D) θ3 st3 H3 ∧ EnR C.K (Zs (Zp Z0 D) θ3) θ3 H3 (wipeE ρ vs) (L2.wipe σ vs) ∧ H3 D = some (.lst acc) ∧ some D ∉ θ3 ∧ WRs C.K (Zs (Zp Z0 D) θ3) θ3 H3 us acc ∧
      Post C Z0 θ1 H1 (relW C.K Z0) ((((lcL tg tt fe (wipeE ρ vs) (ws.drop (i + 1)) st3).bind fun us' s => .ok (us ++ us') s).bind fun us s => chk (us.length ≤ sizeLine) (.ok us s)).bind k) Q, fun H3 h3 => ?_, fun x H3 y => ?_⟩
    · obtain ⟨θ3, st3, acc3, us3, a1, a2, a3, a4, a5, a6, a7⟩ := h3
      exact ⟨ws.length - (i + 1), by omega, θ3, st3, acc3, us3, a1, a2, a3, a4, a5, a6, hlt, rfl, a7⟩
    · obtain ⟨e3, S3, w3, k3⟩ := g2 x H3 y
      have keepD : ∀ {θ' : List (Option Addr)} {H' : Hp}, Ext θ2 H3 θ' H' → H' D = some (.lst acc) ∧ some D ∉ θ' := fun {θ' H'} e => by
        have hD3 : H3 D = some (.lst acc) := by rw [k3 D (by rw [hA]; simp)]; exact hA
        refine ⟨e.keep D _ hN hD3, fun z => ?_⟩
        rcases e.mem z with z | z
        · exact hN z
        · rw [hD3] at z; cases z
      unfold lcL at p2
      refine ⟨Zp Z0 D, θ2, wipeE ρ vs, st2, ws[i], S3, N2.ext e3, w3, ?_⟩
      cases c1 : tg ws[i] (wipeE ρ vs) st2 with
      | bad => rw [c1] at p2; exact p2.elim
      | exc c x s => rw [c1] at p2; exact p2.elim
      | ok ρ4 st4 =>
        rw [c1] at p2
        intro θ4 H4 σ4 e4 S4 w4
        refine ⟨w4.2.trans (wipe_wipe σ vs), Zp Z0 D, θ4, ρ4, st4, S4, w4.1, ?_⟩
        replace p2 : Post C Z0 θ1 H1 (relW C.K Z0) ((((((tt ρ4 st4).nox.bind fun b s2 => if b = true then (fe ρ4 s2).nox.bind fun u s3 => (lcL tg tt fe (wipeE ρ vs) (ws.drop (i + 1)) s3).bind fun us s4 => .ok (u :: us) s4 else lcL tg tt fe (wipeE ρ vs) (ws.drop (i + 1)) s2)).bind fun us' s => .ok (us ++ us') s).bind fun us s => chk (us.length ≤ sizeLine) (.ok us s)).bind k) Q := p2
        cases c2 : tt ρ4 st4 with
        | bad => rw [c2] at p2; exact p2.elim
        | exc c x s => rw [c2] at p2; exact p2.elim
        | ok b st5 =>
          rw [c2] at p2
          intro θ5 H5 b' e5 S5 w5
          cases w5
          have E5 := (e3.trans e4).trans e5
          cases b with
          | false =>
            rw [if_neg (by simp)]
            obtain ⟨d1, d2⟩ := keepD (e4.trans e5)
            exact ⟨θ5, st5, acc, us, e2.trans E5, S5, N2.ext E5, d1, d2, rA.ext E5, p2⟩
          | true =>
            rw [if_pos rfl]
            refine ⟨Zp Z0 D, θ5, ρ4, st5, S5, w4.1.ext e5, ?_⟩
            replace p2 : Post C Z0 θ1 H1 (relW C.K Z0) ((((((fe ρ4 st5).nox.bind fun u s3 => (lcL tg tt fe (wipeE ρ vs) (ws.drop (i + 1)) s3).bind fun us s4 => .ok (u :: us) s4)).bind fun us' s => .ok (us ++ us') s).bind fun us s => chk (us.length ≤ sizeLine) (.ok us s)).bind k) Q := p2
            cases c3 : fe ρ4 st5 with
            | bad => rw [c3] at p2; exact p2.elim
            | exc c x s => rw [c3] at p2; exact p2.elim
            | ok u st6 =>
              rw [c3] at p2
              intro θ6 H6 y' e6 S6 w6
              have E6 := E5.trans e6
              obtain ⟨d1, d2⟩ := keepD ((e4.trans e5).trans e6)
              have hzD : Zs (Zp Z0 D) θ6 D := .inr (.inl rfl)
              have eqn : (((((R.ok u st6).nox.bind fun u s3 => (lcL tg tt fe (wipeE ρ vs) (ws.drop (i + 1)) s3).bind fun us s4 => .ok (u :: us) s4)).bind fun us' s => R.ok (us ++ us') s)) = ((lcL tg tt fe (wipeE ρ vs) (ws.drop (i + 1)) st6).bind fun us' s => .ok ((us ++ [u]) ++ us') s) := by
                show (((lcL tg tt fe (wipeE ρ vs) (ws.drop (i + 1)) st6).bind fun us s4 => R.ok (u :: us) s4).bind fun us' s => R.ok (us ++ us') s) = _
                cases lcL tg tt fe (wipeE ρ vs) (ws.drop (i + 1)) st6 <;> simp
              rw [eqn] at p2
              have hlen : us.length < sizeLine := by
                cases c4 : lcL tg tt fe (wipeE ρ vs) (ws.drop (i + 1)) st6 with
                | bad => rw [c4] at p2; exact p2.elim
                | exc c x s => exact (lcL_noexc c4).elim
                | ok us' s =>
                  rw [c4] at p2
                  have p3 : Post C Z0 θ1 H1 (relW C.K Z0) ((chk (((us ++ [u]) ++ us').length ≤ sizeLine) (R.ok ((us ++ [u]) ++ us') s)).bind k) Q := p2
                  by_cases hc : ((us ++ [u]) ++ us').length ≤ sizeLine
                  · simp only [List.length_append, List.length_singleton] at hc; omega
                  · unfold Y.chk at p3; rw [if_neg hc] at p3; exact p3.elim
              refine ⟨acc, d1, by rw [← rA.length]; exact hlen, θ6, st6, acc ++ [y'], us ++ [u], Ext.mut (e2.trans E6) hD, sr_apart d1 (.inl rfl) S6, enR_apart d1 hzD (N2.ext E6), upd_same, d2, ?_, p2⟩
              exact paired_snoc (Paired.imp (fun _ _ => wr_apart d1 hzD) (rA.ext E6)) (wr_apart d1 hzD w6)
  · have hi : i = ws.length := by omega
    subst hi
    rw [List.drop_length] at p2
    refine .inl ⟨h2 (Nat.le_refl _), ?_⟩
    replace p2 : Post C Z0 θ1 H1 (relW C.K Z0) ((chk ((us ++ []).length ≤ sizeLine) (R.ok (us ++ []) st2)).bind k) Q := p2
    rw [List.append_nil] at p2
    by_cases hc : us.length ≤ sizeLine
    · rw [chk_ok hc] at p2
      exact fin us st2 θ1 H1 θ2 H2 D acc e1 e2 S2 hA hD hN (fun z => S1.z0 D z hD) rA p2
    · unfold Y.chk at p2; rw [if_neg hc] at p2; exact p2.elim
theorem t_lc {vs : List Nat} {fi : En → Sto → R (List W)} {tg : W → En → Sto → R En} {tt : En → Sto → R Bool} {fe : En → Sto → R W} {σ : L2.St} {Q : VK} {Z0 : Addr → Prop} {θ : List (Option Addr)} {ρ : En} {st : Sto} {k : List W → Sto → R W}
    (S : SR C.K Z0 θ st H) (N : EnR C.K (Zs Z0 θ) θ H ρ σ) (p : Post C Z0 θ H (relW C.K Z0) ((dLc vs fi tg tt fe ρ st).bind k) Q)
    (fin : ∀ us st1 θ1 H1 p ys, Ext θ H θ1 H1 → SR C.K Z0 θ1 st1 H1 → H1 p = some (.lst ys) → H p = none → ¬ Zs Z0 θ1 p → WRs C.K (Zs Z0 θ1) θ1 H1 us ys → Post C Z0 θ1 H1 (relW C.K Z0) (k us st1) Q → Q (.ref p) H1) :
    tLc (rdI C fi) (rdG C.nx vs tg) (rdT C.nx tt) (rdE C.nx fe) vs σ H Q :=
  t_lcZ S N p fun us st2 θ1 H1 θ2 H2 D acc e1 e2 S2 hA hD hN hz rA p2 => fin us st2 θ2 H2 D acc (e1.trans e2) (sr_unzp S2) hA (e1.fresh hD) (fun z => z.elim hN hz) (wrs_zs (fun a z => .inl (.inr z)) rA) (Post.from e2 p2)
end
end Y

namespace Y
open PySem PySem.Spec PyProof.Rows L2
section
variable {X : Cx} {C : Ct}
/-! ### comprehensions as values, and stored -/
theorem t_lcF {vs : List Nat} {fi : En → Sto → R (List W)} {tg : W → En → Sto → R En} {tt : En → Sto → R Bool} {fe : En → Sto → R W} {σ : L2.St} {H : Hp} {Q : VK} (q : rdE C (dLcF (dLc vs fi tg tt fe)) σ H Q) : tLc (rdI C fi) (rdG C.nx vs tg) (rdT C.nx tt) (rdE C.nx fe) vs σ H Q := by
  obtain ⟨Z0, θ, ρ, st, S, N, p⟩ := q
  refine t_lc S N p fun us st1 θ1 H1 a ys e1 S1 hp _ nz r p1 => ?_
  split at p1
  · rename_i ds hd
    exact p1 θ1 H1 _ Ext.refl S1 (show Pd _ _ _ _ _ from .lst ⟨.inl hp, nz⟩ (r.pd hd))
  · exact p1.elim
theorem SR.adopt {K : PySem.W.Frag} {Z0 : Addr → Prop} {θ : List (Option Addr)} {st : Sto} {H : Hp} {a : Addr} {ws : List W} {vs : List V} (S : SR K Z0 θ st H) (h : H a = some (.lst vs)) (nz : ¬ Zs Z0 θ a) (x : ∀ {w v}, WR K (Zs Z0 θ) θ H w v → WR K (Zs Z0 (θ ++ [some a])) (θ ++ [some a]) H w v) (r : WRs K (Zs Z0 θ) θ H ws vs) : SR K Z0 (θ ++ [some a]) (st ++ [.lst ws]) H := by
  have np : ∀ (n : Nat) b, θ[n]? = some (some b) → b ≠ a := fun n b h1 e => nz (.inl (e ▸ List.mem_of_getElem? h1))
  refine ⟨by simp [S.len], fun m n b h1 h2 => ?_, fun n b so h1 h2 => ?_, fun n hn => ?_, S.z0, fun b hb => ?_⟩
  · rcases getElem?_snoc h1 with h1 | ⟨e1, h1⟩ <;> rcases getElem?_snoc h2 with h2 | ⟨e2, h2⟩
    · exact S.nd m n b h1 h2
    · cases h2; exact absurd rfl (np _ _ h1)
    · cases h1; exact absurd rfl (np _ _ h2)
    · omega
  · rcases getElem?_snoc h1 with h1 | ⟨e1, h1⟩
    · have hl : n < st.length := by rw [← S.len]; exact (List.getElem?_eq_some_iff.mp h1).1
      rw [List.getElem?_append_left hl] at h2
      have q := S.obj n b so h1 h2
      cases so with
      | dead => exact q
      | lst us => obtain ⟨zs, q1, q2⟩ := q; exact ⟨zs, q1, Paired.imp (fun _ _ => x) q2⟩
    · cases h1
      rw [e1, S.len, List.getElem?_append_right (Nat.le_refl _)] at h2
      have : so = .lst ws := by simpa using h2.symm
      subst this
      exact ⟨vs, h, Paired.imp (fun _ _ => x) r⟩
  · rcases getElem?_snoc hn with hn | ⟨_, hn⟩
    · have e := S.dd n hn
      rw [List.getElem?_append_left (List.getElem?_eq_some_iff.mp e).1]; exact e
    · cases hn
  · rcases List.mem_append.mp hb with hb | hb
    · exact S.dis b hb
    · have e : b = a := by simpa using hb
      subst e
      exact fun z => nz (.inr z)
theorem y_lcF {elt tgt iter : Expr} {ifs : List Expr} {scope : Scope} {own : List (Str × Nat)} {pos : Pos} {fi : En → Sto → R (List W)} {tg : W → En → Sto → R En} {tt : En → Sto → R Bool} {fe : En → Sto → R W} (hc : X.calm = true) (hN : X.N.Nodup) (hi : PI X tgt iter (rdI C fi)) (ok : BlkOk X.N X.env.scope scope own)
    (hg : ∀ (s : Shared) (H : Hp) (A : Addr) (cl : List (Str × Addr)) (fp : List Addr), PG (X.blk s H scope (compEnvC scope cl A X.env) fp) tgt (rdG C.nx (own.map (·.2)) tg))
    (ht : ∀ (s : Shared) (H : Hp) (A : Addr) (cl : List (Str × Addr)) (fp : List Addr), PTs (X.blk s H scope (compEnvC scope cl A X.env) fp) ifs (rdT C.nx tt))
    (he : ∀ (s : Shared) (H : Hp) (A : Addr) (cl : List (Str × Addr)) (fp : List Addr), PE (X.blk s H scope (compEnvC scope cl A X.env) fp) elt (rdE C.nx fe)) (hs : ∀ x, foldedSetIterable iter X.env x = pure x := by intro _; rfl) :
    PE X (.ListComp elt [⟨tgt, iter, ifs, 0⟩] scope pos) (rdE C (dLcF (dLc (own.map (·.2)) fi tg tt fe))) := PE.imp (pe_lc hc hN hi ok hg ht he hs) fun _ _ _ => t_lcF
theorem y_setLcF {i : Nat} {y : Str} {py : Pos} {elt tgt iter : Expr} {ifs : List Expr} {scope : Scope} {own : List (Str × Nat)} {pos spos : Pos} {fi : En → Sto → R (List W)} {tg : W → En → Sto → R En} {tt : En → Sto → R Bool} {fe : En → Sto → R W} (hc : X.calm = true) (hN : X.N.Nodup) (hy : X.N[i]? = some y) (hyl : X.env.scope.names.lookup y = some .local)
    (hsw : swapsWith (.ListComp elt [⟨tgt, iter, ifs, 0⟩] scope pos) (some (.Name y py)) spos.line X.env = pure true) (hi : PI X tgt iter (rdI C fi)) (ok : BlkOk X.N X.env.scope scope own)
    (hg : ∀ (s : Shared) (H : Hp) (A : Addr) (cl : List (Str × Addr)) (fp : List Addr), PG (X.blk s H scope (compEnvC scope cl A X.env) fp) tgt (rdG C.nx (own.map (·.2)) tg))
    (ht : ∀ (s : Shared) (H : Hp) (A : Addr) (cl : List (Str × Addr)) (fp : List Addr), PTs (X.blk s H scope (compEnvC scope cl A X.env) fp) ifs (rdT C.nx tt))
    (he : ∀ (s : Shared) (H : Hp) (A : Addr) (cl : List (Str × Addr)) (fp : List Addr), PE (X.blk s H scope (compEnvC scope cl A X.env) fp) elt (rdE C.nx fe)) (hs : ∀ x, foldedSetIterable iter X.env x = pure x := by intro _; rfl) :
    PS X (.Assign [.Name y py] (.ListComp elt [⟨tgt, iter, ifs, 0⟩] scope pos) spos) (rdS C (dSet i (dLcF (dLc (own.map (·.2)) fi tg tt fe)))) := PS.imp (ps_setLc hc hN hy hyl hsw hi ok hg ht he hs) fun D σ H q => by
  obtain ⟨Z0, θ, ρ, st, S, N, p⟩ := q
  refine t_lcF ⟨Z0, θ, ρ, st, S, N, PostS.bindE p fun w st1 θ1 H1 v e1 S1 w1 p1 => p1.now S1 ((N.ext e1).set i w1)⟩

theorem zs_push {Z0 : Addr → Prop} {θ : List (Option Addr)} {D b : Addr} (h : Zs Z0 (θ ++ [some D]) b) : Zs (Zp Z0 D) θ b := by
  rcases h with h | h
  · rcases List.mem_append.mp h with h | h
    · exact .inl h
    · exact .inr (.inl (by simpa using h))
  · exact .inr (.inr h)
theorem wr_push {K : PySem.W.Frag} {Z0 : Addr → Prop} {θ : List (Option Addr)} {H : Hp} {D : Addr} {w : W} {v : V} (r : WR K (Zs (Zp Z0 D) θ) θ H w v) : WR K (Zs Z0 (θ ++ [some D])) (θ ++ [some D]) H w v := by
  cases w with
  | d x => exact Pd.less (fun a => zs_push) r
  | ref n =>
    obtain ⟨o, h1, h2⟩ := r
    exact ⟨o, by rw [List.getElem?_append_left (List.getElem?_eq_some_iff.mp h1).1]; exact h1, h2⟩
  | scr ns =>
    obtain ⟨a, h1, h2⟩ := r
    exact ⟨a, h1, h2.elim (fun q => .inl (q.less fun b => zs_push)) .inr⟩
theorem sr_push {K : PySem.W.Frag} {Z0 : Addr → Prop} {θ : List (Option Addr)} {st : Sto} {H : Hp} {D : Addr} {ws : List W} {vs : List V} (S : SR K (Zp Z0 D) θ st H) (h : H D = some (.lst vs)) (hn : some D ∉ θ) (hz : ¬ Z0 D) (r : WRs K (Zs (Zp Z0 D) θ) θ H ws vs) : SR K Z0 (θ ++ [some D]) (st ++ [.lst ws]) H := by
  refine ⟨by simp [S.len], fun m n b h1 h2 => ?_, fun n b so h1 h2 => ?_, fun n h1 => ?_, fun a q => S.z0 a (.inr q), fun b hb => ?_⟩
  · rcases getElem?_snoc h1 with h1 | ⟨e1, h1⟩ <;> rcases getElem?_snoc h2 with h2 | ⟨e2, h2⟩
    · exact S.nd m n b h1 h2
    · cases h2; exact absurd (List.mem_of_getElem? h1) hn
    · cases h1; exact absurd (List.mem_of_getElem? h2) hn
    · omega
  · rcases getElem?_snoc h1 with h1 | ⟨e1, h1⟩
    · have hl : n < st.length := by rw [← S.len]; exact (List.getElem?_eq_some_iff.mp h1).1
      rw [List.getElem?_append_left hl] at h2
      have q := S.obj n b so h1 h2
      cases so with
      | dead => exact q
      | lst us => obtain ⟨zs, q1, q2⟩ := q; exact ⟨zs, q1, Paired.imp (fun _ _ => wr_push) q2⟩
    · cases h1
      rw [e1, S.len, List.getElem?_append_right (Nat.le_refl _)] at h2
      have : so = .lst ws := by simpa using h2.symm
      subst this
      exact ⟨vs, h, Paired.imp (fun _ _ => wr_push) r⟩
  · rcases getElem?_snoc h1 with h1 | ⟨_, h1⟩
    · have e := S.dd n h1
      rw [List.getElem?_append_left (List.getElem?_eq_some_iff.mp e).1]; exact e
    · cases h1
  · rcases List.mem_append.mp hb with hb | hb
    · exact fun z => S.dis b hb (.inr z)
    · have e : b = D := by simpa using hb
      subst e
      exact hz
theorem ext_push {θ θ2 : List (Option Addr)} {H H2 : Hp} {D : Addr} (e : Ext θ H θ2 H2) (hD : H D = none) : Ext θ H (θ2 ++ [some D]) H2 := by
  refine ⟨fun n b h => ?_, fun n o h => ?_, e.keep, e.tup, e.frz, e.live⟩
  · rcases getElem?_snoc h with h | ⟨_, h⟩
    · exact e.new n b h
    · cases h; exact .inr hD
  · rcases e.old n o h with q | q
    · exact .inl (by rw [List.getElem?_append_left (List.getElem?_eq_some_iff.mp q).1]; exact q)
    · exact .inr (by rw [List.getElem?_append_left (List.getElem?_eq_some_iff.mp q).1]; exact q)
theorem t_lcN {vs : List Nat} {fi : En → Sto → R (List W)} {tg : W → En → Sto → R En} {tt : En → Sto → R Bool} {fe : En → Sto → R W} {σ : L2.St} {H : Hp} {Q : VK} (q : rdE C (dLcN (dLc vs fi tg tt fe)) σ H Q) : tLc (rdI C fi) (rdG C.nx vs tg) (rdT C.nx tt) (rdE C.nx fe) vs σ H Q := by
  obtain ⟨Z0, θ, ρ, st, S, N, p⟩ := q
  refine t_lcZ S N p fun us st2 θ1 H1 θ2 H2 D acc e1 e2 S2 hA hD hN hz rA p2 => ?_
  exact p2 (θ2 ++ [some D]) H2 (.ref D) (ext_push e2 hD) (sr_push S2 hA hN hz rA) ⟨some D, by rw [← S2.len]; simp, fun a e => by cases e; rfl⟩
theorem y_lcN {elt tgt iter : Expr} {ifs : List Expr} {scope : Scope} {own : List (Str × Nat)} {pos : Pos} {fi : En → Sto → R (List W)} {tg : W → En → Sto → R En} {tt : En → Sto → R Bool} {fe : En → Sto → R W} (hc : X.calm = true) (hN : X.N.Nodup) (hi : PI X tgt iter (rdI C fi)) (ok : BlkOk X.N X.env.scope scope own)
    (hg : ∀ (s : Shared) (H : Hp) (A : Addr) (cl : List (Str × Addr)) (fp : List Addr), PG (X.blk s H scope (compEnvC scope cl A X.env) fp) tgt (rdG C.nx (own.map (·.2)) tg))
    (ht : ∀ (s : Shared) (H : Hp) (A : Addr) (cl : List (Str × Addr)) (fp : List Addr), PTs (X.blk s H scope (compEnvC scope cl A X.env) fp) ifs (rdT C.nx tt))
    (he : ∀ (s : Shared) (H : Hp) (A : Addr) (cl : List (Str × Addr)) (fp : List Addr), PE (X.blk s H scope (compEnvC scope cl A X.env) fp) elt (rdE C.nx fe)) (hs : ∀ x, foldedSetIterable iter X.env x = pure x := by intro _; rfl) :
    PE X (.ListComp elt [⟨tgt, iter, ifs, 0⟩] scope pos) (rdE C (dLcN (dLc (own.map (·.2)) fi tg tt fe))) := PE.imp (pe_lc hc hN hi ok hg ht he hs) fun _ _ _ => t_lcN
theorem y_setLcN {i : Nat} {y : Str} {py : Pos} {elt tgt iter : Expr} {ifs : List Expr} {scope : Scope} {own : List (Str × Nat)} {pos spos : Pos} {fi : En → Sto → R (List W)} {tg : W → En → Sto → R En} {tt : En → Sto → R Bool} {fe : En → Sto → R W} (hc : X.calm = true) (hN : X.N.Nodup) (hy : X.N[i]? = some y) (hyl : X.env.scope.names.lookup y = some .local)
    (hsw : swapsWith (.ListComp elt [⟨tgt, iter, ifs, 0⟩] scope pos) (some (.Name y py)) spos.line X.env = pure true) (hi : PI X tgt iter (rdI C fi)) (ok : BlkOk X.N X.env.scope scope own)
    (hg : ∀ (s : Shared) (H : Hp) (A : Addr) (cl : List (Str × Addr)) (fp : List Addr), PG (X.blk s H scope (compEnvC scope cl A X.env) fp) tgt (rdG C.nx (own.map (·.2)) tg))
    (ht : ∀ (s : Shared) (H : Hp) (A : Addr) (cl : List (Str × Addr)) (fp : List Addr), PTs (X.blk s H scope (compEnvC scope cl A X.env) fp) ifs (rdT C.nx tt))
    (he : ∀ (s : Shared) (H : Hp) (A : Addr) (cl : List (Str × Addr)) (fp : List Addr), PE (X.blk s H scope (compEnvC scope cl A X.env) fp) elt (rdE C.nx fe)) (hs : ∀ x, foldedSetIterable iter X.env x = pure x := by intro _; rfl) :
    PS X (.Assign [.Name y py] (.ListComp elt [⟨tgt, iter, ifs, 0⟩] scope pos) spos) (rdS C (dSet i (dLcN (dLc (own.map (·.2)) fi tg tt fe)))) := PS.imp (ps_setLc hc hN hy hyl hsw hi ok hg ht he hs) fun D σ H q => by
  obtain ⟨Z0, θ, ρ, st, S, N, p⟩ := q
  exact t_lcN ⟨Z0, θ, ρ, st, S, N, PostS.bindE p fun w st1 θ1 H1 v e1 S1 w1 p1 => p1.now S1 ((N.ext e1).set i w1)⟩

/-! ### isinstance -/
@[simp] def tyName (st : Sto) : W → Option String
  | .d .none => some "NoneType"
  | .d (.bool _) => some "bool"
  | .d (.int _) => some "int"
  | .d (.str _) => some "str"
  | .d (.list _) => some "list"
  | .d (.tuple _) => some "tuple"
  | .ref n => match st[n]? with
    | some (.lst _) => some "list"
    | _ => none
  | _ => none
theorem tyX_of {K : PySem.W.Frag} {Z0 : Addr → Prop} {θ : List (Option Addr)} {H : Hp} {st : Sto} (S : SR K Z0 θ st H) {w : W} {v : V} {t : String} (r : WR K (Zs Z0 θ) θ H w v) (e : tyName st w = some t) : TyX K H v (.type t) := by
  cases w with
  | d x =>
    cases x with
    | none => cases e; cases r; exact .base .non
    | bool b => cases e; cases r; exact .base (.bl b)
    | int i => cases e; cases r; exact .base (.int i)
    | str x => cases e; cases r; exact .base (.str x)
    | list ds =>
      cases e
      cases r with
      | lst h1 _ =>
        rcases h1.1 with q | ⟨o, q⟩
        · exact .base (.lst q)
        · exact .base (.frz q)
    | tuple ds =>
      cases e
      cases r with
      | tup h1 _ =>
        rcases h1 with (q | ⟨o, q⟩) | ⟨o, its, n, h1, h2, _⟩
        · exact .base (.tup q)
        · exact .fTuple q
        · exact .kTuple h1 h2
    | dict _ => cases e
  | ref n =>
    dsimp only [tyName] at e
    split at e
    · rename_i ws hw
      cases e
      obtain ⟨a, vs, rfl, _, h3, _⟩ := S.at_ r hw
      exact .base (.lst h3)
    · cases e
  | scr ns => cases e
@[simp] def isiB (a : String) : List String → Option Bool
  | [] => some false
  | b :: bs => match kitB a b with
    | some true => some true
    | some false => isiB a bs
    | none => none
@[simp] def dIsi (Ts : List String) (fe : En → Sto → R W) : En → Sto → R W := fun ρ st => (fe ρ st).bind fun w s => match tyName s w with
  | some t => match isiB t Ts with
    | some b => .ok (.d (.bool b)) s
    | none => .bad
  | none => .bad
theorem y_isi1 {e : Expr} {fe : En → Sto → R W} {T : String} {x : Str} {p p1 pos : Pos} (hK : C.K = X.K) (hg : Gl X "isinstance") (hm : X.mg "isinstance" = none) (hgT : Gl X x) (hmT : X.mg x = none) (hv : bootBuiltins x = some (.type T)) (h : PE X e (rdE C fe))
    (hb : bootBuiltins "isinstance" = some (.builtin "isinstance") := by decide +kernel) (hn : x ≠ "__name__" := by decide) (hd : (x == ("__debug__" : Str)) = false := by decide)
    (h1 : starEach [e, .Name x p1] X.env = (false, eval e X.env) :: starEach [.Name x p1] X.env := by rfl) (h2 : (backTo pos (starEach [.Name x p1] X.env)).any (·.1) = false := by rfl) (h3 : starEach [.Name x p1] X.env = (false, eval (.Name x p1) X.env) :: starEach [] X.env := by rfl) :
    PE X (.Call (.Name "isinstance" p) [e, .Name x p1] [] pos) (rdE C (dIsi [T] fe)) := by
  obtain ⟨K, mg, E⟩ := C
  obtain rfl : K = X.K := hK
  refine PE.imp (pe_callB call_isi hg hm hb (pa_cons h (pa_cons (pe_bltn (v := .ty T) hgT hmT hv rfl hn hd) pa_nil h3) h1) (by decide) (by decide) h1 h2) fun σ H Q q => ?_
  obtain ⟨Z0, θ, ρ, st, S, N, p⟩ := q
  refine ⟨Z0, θ, ρ, st, S, N, Post.bind p fun w st1 θ1 H1 v _ e1 S1 w1 p1 => ?_⟩
  split at p1
  · rename_i t ht
    split at p1
    · rename_i b hb'
      refine ⟨v, .ty T, .type t, .type T, b, rfl, .ty T, tyX_of S1 w1 ht, ?_, p1.now S1 (show Pd _ _ _ _ _ from .bl _)⟩
      unfold isiB isiB at hb'
      cases q : kitB t T with
      | none => rw [q] at hb'; cases hb'
      | some c => rw [q] at hb'; cases c <;> (cases hb'; exact kit_ty q)
    · exact p1.elim
  · exact p1.elim
theorem y_isi2 {e : Expr} {fe : En → Sto → R W} {T U : String} {x y : Str} {p p1 p2 pos pt : Pos} {kt} (hK : C.K = X.K) (hg : Gl X "isinstance") (hm : X.mg "isinstance" = none) (hgT : Gl X x) (hmT : X.mg x = none) (hv : bootBuiltins x = some (.type T)) (hgU : Gl X y) (hmU : X.mg y = none) (hvU : bootBuiltins y = some (.type U)) (h : PE X e (rdE C fe))
    (hb : bootBuiltins "isinstance" = some (.builtin "isinstance") := by decide +kernel) (hn : x ≠ "__name__" := by decide) (hd : (x == ("__debug__" : Str)) = false := by decide) (hn' : y ≠ "__name__" := by decide) (hd' : (y == ("__debug__" : Str)) = false := by decide)
    (h1 : starEach [e, .Tuple [.Name x p1, .Name y p2] kt pt] X.env = (false, eval e X.env) :: starEach [.Tuple [.Name x p1, .Name y p2] kt pt] X.env := by rfl) (h2 : (backTo pos (starEach [.Tuple [.Name x p1, .Name y p2] kt pt] X.env)).any (·.1) = false := by rfl)
    (h3 : starEach [.Tuple [.Name x p1, .Name y p2] kt pt] X.env = (false, eval (.Tuple [.Name x p1, .Name y p2] kt pt) X.env) :: starEach [] X.env := by rfl)
    (h4 : starEach [.Name x p1, .Name y p2] X.env = (false, eval (.Name x p1) X.env) :: starEach [.Name y p2] X.env := by rfl) (h5 : starEach [.Name y p2] X.env = (false, eval (.Name y p2) X.env) :: starEach [] X.env := by rfl) :
    PE X (.Call (.Name "isinstance" p) [e, .Tuple [.Name x p1, .Name y p2] kt pt] [] pos) (rdE C (dIsi [T, U] fe)) := by
  obtain ⟨K, mg, E⟩ := C
  obtain rfl : K = X.K := hK
  refine PE.imp (pe_callB call_isiT hg hm hb (pa_cons h (pa_cons (pe_tup (pa_cons (pe_bltn (v := .ty T) hgT hmT hv rfl hn hd) (pa_cons (pe_bltn (v := .ty U) hgU hmU hvU rfl hn' hd') pa_nil h5) h4)) pa_nil h3) h1) (by decide) (by decide) h1 h2) fun σ H Q q => ?_
  obtain ⟨Z0, θ, ρ, st, S, N, p⟩ := q
  refine ⟨Z0, θ, ρ, st, S, N, Post.bind p fun w st1 θ1 H1 v _ e1 S1 w1 p1 => ⟨by show 2 ≤ sizeLine; decide, fun tp htp => ?_⟩⟩
  have x2 := Ext.alloc (θ := θ1) (o := .tup [.ty T, .ty U]) htp
  have S2 := S1.alloc (o := .tup [.ty T, .ty U]) htp
  split at p1
  · rename_i t ht
    split at p1
    · rename_i b hb'
      refine ⟨v, tp, [.ty T, .ty U], .type t, [.type T, .type U], b, rfl, upd_same, .cons (.ty T) (.cons (.ty U) .nil), tyX_of S2 (w1.ext x2) ht, ?_, p1 θ1 _ _ x2 S2 (show Pd _ _ _ _ _ from .bl _)⟩
      unfold isiB isiB isiB at hb'
      cases q : kitB t T with
      | none => rw [q] at hb'; cases hb'
      | some c =>
        rw [q] at hb'
        refine kitAny_cons (kit_ty q) (fun hc => ?_) fun hc => ?_
        · subst hc
          cases q2 : kitB t U with
          | none => rw [q2] at hb'; cases hb'
          | some c2 =>
            rw [q2] at hb'
            refine kitAny_cons (kit_ty q2) (fun hc => ?_) fun hc => ?_
            · subst hc; cases hb'; exact kitAny_nil
            · subst hc; cases hb'; rfl
        · subst hc; cases hb'; rfl
    · exact p1.elim
  · exact p1.elim
end

/-! ### defs -/
/-- a def that keeps its promise where no repr runs -/
structure FnG (P : Program) (w : World) (K : PySem.W.Frag) (mg : Str → Option Value) (base : Heap) (CX : CXT) (k : Nat) (f : Addr) (fd : FuncData) (ps : List Str) (sp : Sp) : Prop where
  len : ∀ vs H Q E, sp vs H Q E → vs.length = ps.length
  go : ∀ (A : Around) (outer : List Env) (s : Shared) (H : Hp) (args : Args) (us : List Value) (vs : List V) (Q : VK) (E : XK), A.guards = some [] → Room k A → Env0 P w K mg base A outer s H → BindsTo s fd args (ps.zip us) → Vals vs us → sp vs H Q E → codeAny (model P w) A (.call (.ref f) args) (CR CX outer P w H s Q E) s
section
variable {P : Program} {w : World} {K : PySem.W.Frag} {mg : Str → Option Value} {base : Heap} {CX : CXT}
theorem FnG.up {j k : Nat} {f : Addr} {fd : FuncData} {ps : List Str} {sp : Sp} (F : FnG P w K mg base CX j f fd ps sp) (h : j ≤ k) : FnG P w K mg base CX k f fd ps sp := ⟨F.len, fun A o s H a us vs Q E g r => F.go A o s H a us vs Q E g (r.mono h)⟩
theorem fnG_of {k : Nat} {x qual : Str} {st : Stmt} {f : Addr} {fd : FuncData} {N ps : List Str} {sp : Sp} (F : C8.Fun K x qual st f fd) (S : FnScope N ps (C8.fnScope st)) (len : ∀ vs H Q E, sp vs H Q E → vs.length = ps.length)
    (body : ∀ (cdv : Value) (A : Around) (outer : List Env) (s : Shared) (H : Hp) (vs : List V) (Q : VK) (E : XK), A.guards = some [] → Room k (A.deeper (envOfC qual (C8.fnScope st) s.heap.objs.size f cdv)) → sp vs H Q E →
      ∃ t, PSs (cxOf CX P w K mg base N qual (C8.fnScope st) f cdv A outer s H E) (C8.fnBody st) t ∧ t { nx := fun _ H' => Q .non H', rt := Q } (start N vs) H) : FnG P w K mg base CX (k + 1) f fd ps sp := by
  obtain ⟨_, _, dV, kV, doc, pm, an, cdv, ct, _, rfl, lk, hcd⟩ := F.ex
  refine ⟨len, ?_⟩
  intro A outer s H args us vs Q E gA room e0 bnd rel pr
  have lenV := len _ _ _ _ pr
  have kin := e0.mod.kin.keeps (h' := s.heap) (fun b o e => (e0.bs b o e).1)
  have nl := e0.mod.nolimit.keeps (h' := s.heap) (fun b o e => (e0.bs b o e).1)
  have knd : ∀ y ∈ ps.zip us, (C8.fnScope st).names.lookup y.1 = some .local ∨ ((C8.fnScope st).names.lookup y.1 = some .cell ∧ ((cellsFrom (s.heap.objs.size + 1) (C8.fnScope st).names []).lookup y.1).isSome = true) := by
    rintro ⟨n, v⟩ hy
    have hp := S.par n (List.of_mem_zip hy).1
    exact hp.imp id fun q => ⟨q, PySem.W.cellsFrom_some _ _ _ (.inl q)⟩
  refine codeAny_call_function room.depth (kin f _ lk) rfl S.co S.gen rfl (PySem.W.codeRec_of kin hcd) (bnd _ _ _ _ ?_)
  refine wpAny_newFunctionEnv_cells S.kind knd (fun env henv s1 inC => ?_)
  cases henv
  obtain ⟨t, ht, ok⟩ := body cdv A outer s H vs Q E gA (room.deeper _) pr
  have inv := inv_start (CX := CX) (E := E) S room.hd e0 lenV rel inC
  refine ⟨nl.keeps inC.toInCall.keep, codeAny_func (wpAny_mono (ht.run [] s1 (start N vs) H _ inv ok) ?_ (fun _ _ z => z))⟩
  intro fl s' fin
  cases fl with
  | ret u => obtain ⟨v, σ', H', J, rv, q⟩ := fin; exact ⟨v, H', J.os, J.bare, J.base, J.hok, rv, q⟩
  | next => obtain ⟨σ', H', J, q⟩ := fin; exact ⟨V.non, H', J.os, J.bare, J.base, J.hok, rfl, q⟩
  | brk => obtain ⟨_, _, _, q⟩ := fin; exact q.elim
  | cont => obtain ⟨_, _, _, q⟩ := fin; exact q.elim
end
end Y

namespace Y
open PySem PySem.Spec PyProof.Rows L2
/-! ### a def as a function of values and store -/
abbrev Fn := List W → Sto → R W
def c0 (K : PySem.W.Frag) (mg : Str → Option Value) : Ct := ⟨K, mg, C8.E0⟩
def spF (K : PySem.W.Frag) (mg : Str → Option Value) (n : Nat) (F : Fn) : Sp := fun vs H Q _ => vs.length = n ∧ ∃ Z0 θ st ws, SR K Z0 θ st H ∧ WRs K (Zs Z0 θ) θ H ws vs ∧ Post (c0 K mg) Z0 θ H (relW K Z0) (F ws st) Q
@[simp] def dDef (n : Nat) (body : DS) : Fn := fun ws st => (body (ws.map some ++ List.replicate (n - ws.length) none) st).bind fun a s => match a.1 with
  | .rt w => .ok w s
  | .nx => .ok (.d .none) s
  | _ => .bad
/-- a def that may be called by its name -/
structure CalG (P : Program) (w : World) (K : PySem.W.Frag) (mg : Str → Option Value) (base : Heap) (k : Nat) (x : Str) (st : Stmt) (ps : List Str) (n : Nat) (F : Fn) : Prop where
  ex : ∃ (f : Addr) (kV doc pm : Value) (an : Option Addr) (cdv ct : Value), FnG P w K mg base C8.CX0 k f (PySem.W.fnOf x x (C8.fnArgs st) (C8.fnBody st) (C8.fnScope st) .none kV doc pm an cdv ct) ps (spF K mg n F) ∧ mg x = some (.ref f) ∧ PySem.W.keepIn K (.ref f) = true ∧ ps.length = n ∧
    (∀ us : List Value, us.length = n → bindArgs (PySem.W.fnOf x x (C8.fnArgs st) (C8.fnBody st) (C8.fnScope st) .none kV doc pm an cdv ct) ⟨us, []⟩ = pure (ps.zip us))
/-- the context of a def's body -/
abbrev BX (P : Program) (w : World) (K : PySem.W.Frag) (mg : Str → Option Value) (base : Heap) (N : List Str) (x : Str) (st : Stmt) (f : Addr) (cdv : Value) (A : Around) (outer : List Env) (s : Shared) (H : Hp) (E : XK) : Cx := (cxOf C8.CX0 P w K mg base N x (C8.fnScope st) f cdv A outer s H E).nox
section
variable {P : Program} {w : World} {K : PySem.W.Frag} {mg : Str → Option Value} {base : Heap}
theorem nopassX {X : Cx} {E : XK} : Passes C8.CX0 X E := C8.pass0
theorem enR_start {Z : Addr → Prop} {θ : List (Option Addr)} {H : Hp} {N : List Str} {ws : List W} {vs : List V} (r : WRs K Z θ H ws vs) : EnR K Z θ H (ws.map some ++ List.replicate (N.length - ws.length) none) (start N vs) := by
  have hl := r.length
  refine ⟨by simp [L2.start, hl], fun i w e => ?_⟩
  by_cases h : i < ws.length
  · rw [List.getElem?_append_left (by simpa using h), List.getElem?_map] at e
    obtain ⟨u, hu, e⟩ := Option.map_eq_some_iff.mp e
    cases e
    obtain ⟨v, hv, rv⟩ := L2.paired_get r hu
    refine ⟨v, ?_, rv⟩
    unfold L2.start
    rw [List.getElem?_append_left (by simp; omega), List.getElem?_map, hv]; rfl
  · rw [List.getElem?_append_right (by simp; omega)] at e
    simp only [List.getElem?_replicate] at e
    split at e <;> cases e
theorem calG_of {k n : Nat} {x : Str} {st : Stmt} {f : Addr} {fd : FuncData} {N ps : List Str} {D : DS} (F : C8.Def K mg x st f fd) (df : fd.defaults = .none) (S : FnScope N ps (C8.fnScope st)) (hn : ps.length = n)
    (hb : ∀ (kV doc pm : Value) (an : Option Addr) (cdv ct : Value) (us : List Value), us.length = n → bindArgs (PySem.W.fnOf x x (C8.fnArgs st) (C8.fnBody st) (C8.fnScope st) .none kV doc pm an cdv ct) ⟨us, []⟩ = pure (ps.zip us))
    (body : ∀ (f : Addr) (cdv : Value) (A : Around) (outer : List Env) (s : Shared) (H : Hp) (E : XK), A.guards = some [] → Room k (A.deeper (envOfC x (C8.fnScope st) s.heap.objs.size f cdv)) → PSs (BX P w K mg base N x st f cdv A outer s H E) (C8.fnBody st) (rdS (c0 K mg) D)) :
    CalG P w K mg base (k + 1) x st ps n (dDef N.length D) := by
  obtain ⟨oc, od, dV, kV, doc, pm, an, cdv, ct, osl, rfl, lk, hcd⟩ := F.fn.ex
  have e : dV = .none := df
  subst e
  refine ⟨f, kV, doc, pm, an, cdv, ct, fnG_of F.fn S (fun vs H Q E h => by rw [h.1, hn]) (fun cdv A outer s H vs Q E g rm h => ?_), F.mgf, F.kp, hn, hb kV doc pm an cdv ct⟩
  obtain ⟨hl, Z0, θ, st', ws, S', r, p⟩ := h
  refine ⟨_, (body f cdv A outer s H E g rm).nox, Z0, θ, _, st', S', enR_start r, ?_⟩
  unfold dDef at p
  rw [r.length] at p ⊢
  cases e : D (ws.map some ++ List.replicate (N.length - vs.length) none) st' with
  | bad => rw [e] at p; exact p.elim
  | exc c x s => rw [e] at p; exact p
  | ok a s1 =>
    rw [e] at p
    obtain ⟨fl, ρ'⟩ := a
    intro θ1 H1 σ1 e1 S1 N1
    cases fl with
    | nx => exact p θ1 H1 _ e1 S1 (show Pd _ _ _ _ _ from .non)
    | rt w => exact fun v rv => p θ1 H1 v e1 S1 rv
    | bk => exact p.elim
    | ct => exact p.elim
/-- another function of values that says the same where it says anything -/
theorem CalG.as {k n : Nat} {x : Str} {st : Stmt} {ps : List Str} {F G : Fn} (c : CalG P w K mg base k x st ps n F) (h : ∀ ws s, ws.length = n → G ws s ≠ .bad → F ws s = G ws s) : CalG P w K mg base k x st ps n G := by
  obtain ⟨f, kV, doc, pm, an, cdv, ct, F', h1, h2, h3, h4⟩ := c.ex
  refine ⟨f, kV, doc, pm, an, cdv, ct, ⟨fun vs H Q E q => by rw [q.1, h3], fun A o s H a us vs Q E g r e0 b rv q => F'.go A o s H a us vs Q E g r e0 b rv ?_⟩, h1, h2, h3, h4⟩
  obtain ⟨hl, Z0, θ, st, ws, S, rr, p⟩ := q
  refine ⟨hl, Z0, θ, st, ws, S, rr, ?_⟩
  rw [h ws st (by rw [rr.length, hl]) (fun z => by rw [z] at p; exact p)]
  exact p
end
section
variable {X : Cx}
theorem run_calG {k : Nat} {f : Addr} {fd : FuncData} {ps : List Str} {n : Nat} {F : Fn} {pins : List (Addr × Obj)} {σ : L2.St} {H : Hp} {s : Shared} {Q : VK} {us : List Value} {vs : List V} {args : Args} (G : FnG X.prog X.w X.K X.mg X.base C8.CX0 k f fd ps (spF X.K X.mg n F)) (hr : Room k X.A) (hg : X.A.guards = some [])
    (I : Inv X pins σ H s) (r : Vals vs us) (hb : BindsTo s fd args (ps.zip us)) (h : spF X.K X.mg n F vs H Q C8.E0) : codeAny (model X.prog X.w) X.A (.call (.ref f) args) (fun r s' => ∃ u, r = .ok (.ret u) ∧ EP X pins σ Q u s') s := by
  refine codeAny_mono (G.go X.A X.stack s H args us vs Q C8.E0 hg hr I.env0 hb r h) fun r s' hq => ?_
  cases r with
  | error e => exact hq.elim
  | ok fl =>
    cases fl with
    | ret u => exact ⟨u, rfl, I.after hq⟩
    | next => exact hq.elim
    | brk => exact hq.elim
    | cont => exact hq.elim
/-- f(..): the callee sees the store -/
@[simp] def dCal (n : Nat) (F : Fn) (fa : En → Sto → R (List W)) : En → Sto → R W := fun ρ st => (fa ρ st).bind fun ws s => chk (ws.length = n) (F ws s)
/-- f(..): all that is handed over and handed back is data; the callee sees an empty store -/
@[simp] def pureW : W → Bool
  | .ref _ => false
  | _ => true
@[simp] def callP (F : Fn) (ws : List W) (s : Sto) : R W := match F ws [] with
  | .ok (.d x) _ => .ok (.d x) s
  | _ => .bad
@[simp] def dCalP (n : Nat) (F : Fn) (fa : En → Sto → R (List W)) : En → Sto → R W := fun ρ st => (fa ρ st).bind fun ws s => chk (ws.length = n ∧ ws.all pureW = true) (callP F ws s)
theorem wr_pure {K : PySem.W.Frag} {Z : Addr → Prop} {θ θ' : List (Option Addr)} {H : Hp} {w : W} {v : V} (h : pureW w = true) (r : WR K Z θ H w v) : WR K Z θ' H w v := by
  cases w with
  | d x => exact r
  | ref n => cases h
  | scr ns => exact r
theorem wrs_pure {K : PySem.W.Frag} {Z : Addr → Prop} {θ θ' : List (Option Addr)} {H : Hp} : ∀ {ws : List W} {vs : List V}, ws.all pureW = true → WRs K Z θ H ws vs → WRs K Z θ' H ws vs
  | [], _, _, h => by cases h; exact .nil
  | w :: ws, _, hp, h => by
    simp only [List.all_cons, Bool.and_eq_true] at hp
    cases h with | cons a b => exact .cons (wr_pure hp.1 a) (wrs_pure hp.2 b)
theorem zs_nil {Z : Addr → Prop} : Zs Z [] = Z := by
  funext a
  simp [Zs]
/-- what a callee wants of a pure call -/
theorem callP_sp {K : PySem.W.Frag} {mg : Str → Option Value} {n : Nat} {F : Fn} {Z0 : Addr → Prop} {θ : List (Option Addr)} {H : Hp} {st : Sto} {ws : List W} {vs : List V} {Q : VK} {E : XK} (S : SR K Z0 θ st H) (r : WRs K (Zs Z0 θ) θ H ws vs) (hn : ws.length = n) (hp : ws.all pureW = true)
    (p : Post (c0 K mg) Z0 θ H (relW K Z0) (callP F ws st) Q) : spF K mg n F vs H Q E := by
  refine ⟨by rw [← r.length, hn], Zs Z0 θ, [], [], ws, ?_, ?_, ?_⟩
  · refine ⟨rfl, fun m n a h => by simp at h, fun n a o h => by simp at h, fun n h => by simp at h, fun a h => ?_, fun a h => by simp at h⟩
    intro z
    exact S.notZ z h
  · rw [zs_nil]; exact wrs_pure hp r
  · unfold callP at p
    cases e : F ws [] with
    | bad => rw [e] at p; exact p.elim
    | exc c x s => rw [e] at p; exact p.elim
    | ok w s' =>
      rw [e] at p
      cases w with
      | ref m => exact p.elim
      | scr ns => exact p.elim
      | d x =>
        intro θ1 H1 v e1 S1 rv
        have keep : ∀ a o, H a = some o → H1 a = some o := fun a o h => e1.keep a o (by simp) h
        have x1 : Ext θ H θ H1 := ⟨fun _ _ h => .inl h, fun _ _ h => .inl h, fun a o _ h => keep a o h, e1.tup, e1.frz, e1.live⟩
        refine p θ H1 v x1 ⟨S.len, S.nd, fun n a o h1 h2 => ?_, S.dd, fun a h => e1.live a (S.z0 a h), S.dis⟩ ?_
        · have q := S.obj n a o h1 h2
          cases o with
          | dead => exact q
          | lst us => obtain ⟨zs, q1, q2⟩ := q; exact ⟨zs, keep a _ q1, WRs.ext x1 q2⟩
        · exact Pd.less (fun a h => .inr h) rv
def relC : List (Option Addr) → Hp → Unit → Unit → Prop := fun _ _ _ _ => True
variable {x : Str} {p pos : Pos} {e : Expr} {es : List Expr} {fa : En → Sto → R (List W)} {n k j : Nat} {F : Fn} {st : Stmt} {ps : List Str}
theorem bindsTo_eq {s : Shared} {fd : FuncData} {args : Args} {b : List (Str × Value)} (h : bindArgs fd args = pure b) : BindsTo s fd args b := .of_eq h
theorem pe_calG (c : CalG X.prog X.w X.K X.mg X.base k x st ps n F) (hr : Room j X.A) (hj : k ≤ j) (hgd : X.A.guards = some []) (hg : Gl X x) {t : TA} (ha : PA X (e :: es) t)
    (nd : (x == ("__debug__" : Str)) = false := by decide) (he : starEach (e :: es) X.env = (false, eval e X.env) :: starEach es X.env := by rfl)
    (nst : (backTo pos (starEach es X.env)).any (·.1) = false := by rfl) :
    PE X (.Call (.Name x p) (e :: es) [] pos) (fun σ H Q => t σ H fun vs H1 => spF X.K X.mg n F vs H1 Q C8.E0) := by
  obtain ⟨f, kV, doc, pm', an, cdv, ct, G, hm, kp, hl, hb⟩ := c.ex
  refine ⟨fun pins s σ H Q I h => wpAny_Call_Name_kw (ld_glob I hg hm (PySem.W.callWith_K (h₀ := X.base) I.ok.mod.kin kp (thn (ha.run pos pins s σ H _ I h) fun us s1 q => ?_) he nst) nd)⟩
  obtain ⟨vs, H1, I1, r, q⟩ := q
  refine ⟨I1.kIn, wpAny_call (codeAny_mono (run_calG G (hr.mono hj) hgd I1 r (bindsTo_eq (hb us (by rw [← r.length, q.1]))) q) fun r' s' hq => ?_)⟩
  obtain ⟨u, rfl, hq⟩ := hq
  exact hq
theorem y_cal {C : Ct} (hC : C = c0 X.K X.mg) (c : CalG X.prog X.w X.K X.mg X.base k x st ps n F) (hr : Room j X.A) (hj : k ≤ j) (hgd : X.A.guards = some []) (hg : Gl X x) (ha : PA X (e :: es) (rdA C fa))
    (nd : (x == ("__debug__" : Str)) = false := by decide) (he : starEach (e :: es) X.env = (false, eval e X.env) :: starEach es X.env := by rfl)
    (nst : (backTo pos (starEach es X.env)).any (·.1) = false := by rfl) :
    PE X (.Call (.Name x p) (e :: es) [] pos) (rdE C (dCal n F fa)) := by
  subst hC
  refine PE.imp (pe_calG c hr hj hgd hg ha nd he nst) fun σ H Q q => ?_
  obtain ⟨Z0, θ, ρ, st, S, N, q⟩ := q
  refine ⟨Z0, θ, ρ, st, S, N, Post.bind q fun ws st1 θ1 H1 vs _ e1 S1 r1 p1 => ?_⟩
  exact ⟨by rw [← r1.length]; exact p1.chk.1, Z0, θ1, st1, ws, S1, r1, p1.chk.2⟩
theorem y_calP {C : Ct} (hC : C = c0 X.K X.mg) (c : CalG X.prog X.w X.K X.mg X.base k x st ps n F) (hr : Room j X.A) (hj : k ≤ j) (hgd : X.A.guards = some []) (hg : Gl X x) (ha : PA X (e :: es) (rdA C fa))
    (nd : (x == ("__debug__" : Str)) = false := by decide) (he : starEach (e :: es) X.env = (false, eval e X.env) :: starEach es X.env := by rfl)
    (nst : (backTo pos (starEach es X.env)).any (·.1) = false := by rfl) :
    PE X (.Call (.Name x p) (e :: es) [] pos) (rdE C (dCalP n F fa)) := by
  subst hC
  refine PE.imp (pe_calG c hr hj hgd hg ha nd he nst) fun σ H Q q => ?_
  obtain ⟨Z0, θ, ρ, st, S, N, q⟩ := q
  refine ⟨Z0, θ, ρ, st, S, N, Post.bind q fun ws st1 θ1 H1 vs _ e1 S1 r1 p1 => ?_⟩
  exact callP_sp S1 r1 p1.chk.1.1 p1.chk.1.2 p1.chk.2

/-! ### keywords -/
/-- f(.., k = v): the parameters' order is pm's -/
def pick {α : Type} (pm : List Nat) (l : List α) : List α := pm.filterMap fun i => l[i]?
theorem pick_rel {α β : Type} {F : α → β → Prop} {l₁ : List α} {l₂ : List β} (h : Paired F l₁ l₂) : ∀ pm : List Nat, Paired F (pick pm l₁) (pick pm l₂)
  | [] => .nil
  | i :: pm => by
    have ih := pick_rel h pm
    unfold pick at ih ⊢
    rw [List.filterMap_cons, List.filterMap_cons]
    cases e : l₁[i]? with
    | none =>
      have : l₂[i]? = none := by
        rw [List.getElem?_eq_none_iff] at e ⊢
        rw [← Paired.length h]; exact e
      rw [this]; exact ih
    | some a =>
      obtain ⟨b, hb, r⟩ := L2.paired_get h e
      rw [hb]; exact .cons r ih
theorem paired_app {α β : Type} {F : α → β → Prop} {l₁ l₃ : List α} {l₂ l₄ : List β} (h : Paired F l₁ l₂) (g : Paired F l₃ l₄) : Paired F (l₁ ++ l₃) (l₂ ++ l₄) := by
  induction h with
  | nil => exact g
  | cons x _ ih => exact .cons x ih
/-- the values of keywords, from the left -/
theorem PK.imp {kws : List Keyword} {t t' : TA} (h : PK X kws t) (k : ∀ σ H Q, t' σ H Q → t σ H Q) : PK X kws t' := ⟨fun pos pins s σ H Q I q => h.run pos pins s σ H Q I (k σ H Q q)⟩
theorem y_knil {C : Ct} : PK X [] (rdA C dNil) := PK.imp pk_nil fun _ _ _ => t_nil
theorem y_kcons {C : Ct} {kws : List Keyword} {nm : Option Str} {kpos : Pos} {f : En → Sto → R W} {g : En → Sto → R (List W)} (h : PE X e (rdE C f)) (hr : PK X kws (rdA C g)) : PK X (⟨nm, e, kpos⟩ :: kws) (rdA C (dCons f g)) := PK.imp (pk_cons h hr) fun _ _ _ => t_cons
/-- only keywords -/
theorem y_calK {C : Ct} {kws : List Keyword} {ks : List Str} {pm : List Nat} (hC : C = c0 X.K X.mg) (c : CalG X.prog X.w X.K X.mg X.base k x st ps n F) (hr : Room j X.A) (hj : k ≤ j) (hgd : X.A.guards = some []) (hg : Gl X x) (ha : PK X kws (rdA C fa))
    (hkb : ∀ (kV doc pm' : Value) (an : Option Addr) (cdv ct : Value) (us : List Value), us.length = n → bindArgs (PySem.W.fnOf x x (C8.fnArgs st) (C8.fnBody st) (C8.fnScope st) .none kV doc pm' an cdv ct) ⟨[], ks.zip us⟩ = pure (ps.zip (pick pm us)))
    (hpm : ∀ ws : List W, ws.length = n → (pick pm ws).length = n)
    (hall : (backToKw pos (keywordEach kws X.env)).all (·.1.isSome) = true := by rfl) (hks : (backToKw pos (keywordEach kws X.env)).filterMap (·.1) = ks := by rfl)
    (hdb : (x == ("__debug__" : Str)) = false := by decide)
    (nst : ((backTo pos (starEach [] X.env)).any (·.1) || (backToKw pos (keywordEach kws X.env)).any (·.1.isNone)) = false := by rfl) : PE X (.Call (.Name x p) [] kws pos) (rdE C (dCalP n (fun ws => F (pick pm ws)) fa)) := by
  subst hC
  obtain ⟨f, kV, doc, pm', an, cdv, ct, G, hm, kp, hl, hb⟩ := c.ex
  refine ⟨fun pins s σ H Q I q => wpAny_Call_Name_kw (ld_glob I hg hm (PySem.W.callWith_KW0 (h₀ := X.base) I.ok.mod.kin kp hall ?_ nst) hdb)⟩
  obtain ⟨Z0, θ, ρ, st, S, N, q⟩ := q
  have q2 : rdA (c0 X.K X.mg) fa σ H (fun vs H1 => vs.length = n ∧ spF X.K X.mg n F (pick pm vs) H1 Q C8.E0) := by
    refine ⟨Z0, θ, ρ, st, S, N, Post.bind q fun ws st1 θ1 H1 vs _ e1 S1 r1 p1 => ?_⟩
    obtain ⟨⟨c1, c2⟩, p1⟩ := p1.chk
    refine ⟨by rw [← r1.length]; exact c1, callP_sp (F := F) S1 (pick_rel r1 pm) (hpm ws c1) ?_ p1⟩
    rw [List.all_eq_true] at c2 ⊢
    intro u hu
    unfold pick at hu
    obtain ⟨i, _, hi⟩ := List.mem_filterMap.mp hu
    exact c2 u (List.mem_of_getElem? hi)
  refine thn (ha.run pos pins s σ H _ I q2) fun us s1 ⟨vs, H1, I1, r, q3⟩ => ⟨I1.kIn, ?_⟩
  rw [hks]
  refine wpAny_call (codeAny_mono (run_calG G (hr.mono hj) hgd I1 (pick_rel r pm) (bindsTo_eq (hkb kV doc pm' an cdv ct us (by rw [← r.length, q3.1]))) q3.2) fun r' s' hq => ?_)
  obtain ⟨u, rfl, hq⟩ := hq
  exact hq
end

/-! ### the law's end -/
section
variable {P : Program} {w : World} {K : PySem.W.Frag} {mg : Str → Option Value}
theorem law_end {mb : Str → Option Value} {k : Nat} {fa a : Addr} {x : Str} {st : Stmt} {ps : List Str} {F : Fn} {s₁ : Shared} {vs : List Value} {ns : List Int}
    (kin : K.In s₁.heap) (gl : s₁.heap.Ns mainGlobals mg) (bl : s₁.heap.Ns builtinsNs mb) (bls : ∀ y : Str, y ≠ "__name__" → mb y = bootBuiltins y) (nl : s₁.heap.NoLimit) (gens : s₁.gens = #[])
    (script : s₁.heap.get? a = some { cls := .type "list", data := .seq vs.toArray }) (are : IntsAre vs ns) (few : ns.length ≤ 63) (room : Room k callerA) (hx : mg x = some (.ref fa))
    (cal : ∀ base : Heap, K.In base → base.Ns mainGlobals mg → CalG P w K mg base k x st ps 1 F) (holds : ∃ st, F [.scr ns] [] = .ok (.d (.bool true)) st) :
    codeAny (model P w) callerA (.call (.ref fa) ⟨[.ref a], []⟩)
      (fun r s' => r = .ok (.ret (.bool true)) ∧ OldK s₁.heap s'.heap ∧ s'.os = s₁.os ∧ AllBare s'.gens) s₁ := by
  have rel := vals_ints are
  have few' : (ns.map V.int).length ≤ sizeLine := by rw [List.length_map, sizeLine_eq]; omega
  -- what is known at the start: the script alone
  suffices start : ∀ H : Hp, Only H → SqL K H a (ns.map V.int) → HOk P w H s₁.heap → (∀ b, H b ≠ none → b = a ∧ K.lookup a = none) →
      codeAny (model P w) callerA (.call (.ref fa) ⟨[.ref a], []⟩) (fun r s' => r = .ok (.ret (.bool true)) ∧ OldK s₁.heap s'.heap ∧ s'.os = s₁.os ∧ AllBare s'.gens) s₁ by
    cases hk : K.lookup a with
    | some o =>
      have e := kin a o hk
      rw [script] at e
      cases e
      refine start (fun _ => none) (fun _ => .inl rfl) (.inr ⟨_, vs.toArray, _, hk, rfl, rfl, rfl, ?_, by simpa using rel⟩) (fun b u z => nomatch z) (fun b z => absurd rfl z)
      rw [List.size_toArray, ← rel.length]; exact few'
    | none =>
      have at_ : ∀ b u, (if b = a then some (HO.frz { cls := .type "list", data := .seq vs.toArray } (.lst (ns.map V.int))) else none) = some u → b = a ∧ u = HO.frz { cls := .type "list", data := .seq vs.toArray } (.lst (ns.map V.int)) := by
        intro b u z
        by_cases hb : b = a
        · rw [if_pos hb] at z; cases z; exact ⟨hb, rfl⟩
        · rw [if_neg hb] at z; cases z
      refine start (fun b => if b = a then some (.frz { cls := .type "list", data := .seq vs.toArray } (.lst (ns.map V.int))) else none) (fun b => ?_) (.inl (.inr ⟨_, if_pos rfl⟩)) (fun b u z => ?_) (fun b z => ?_)
      · by_cases hb : b = a
        · exact .inr ⟨_, _, if_pos hb⟩
        · exact .inl (if_neg hb)
      · obtain ⟨rfl, rfl⟩ := at_ b u z
        exact ⟨script, few', vs, _, rel, script⟩
      · refine ⟨?_, hk⟩
        by_cases hb : b = a
        · exact hb
        · exact absurd (if_neg hb) z
  intro H only sq ok alone
  have out : ∀ {b : Addr} {o : Obj}, s₁.heap.get? b = some o → (b = a → False) → (hidT s₁.heap H).get? b = some o := fun {b o} e nb => hidT_get e (by
    cases q : H b with
    | none => rfl
    | some u => exact (nb (alone b (by rw [q]; simp)).1).elim)
  have nspace : ∀ {b : Addr} {m : Str → Option Value}, s₁.heap.Ns b m → (hidT s₁.heap H).Ns b m := by
    rintro b m ⟨o, es, ep, e, d, r⟩
    refine ⟨o, es, ep, out e (fun z => ?_), d, r⟩
    rw [z, script] at e
    cases e
    cases (show Data.seq vs.toArray _ = Data.dict es ep from d)
  have kin' : K.In (hidT s₁.heap H) := fun b o e => hidT_get (kin b o e) (by
    cases q : H b with
    | none => rfl
    | some u =>
      obtain ⟨z1, z2⟩ := alone b (by rw [q]; simp)
      rw [z1, z2] at e; cases e)
  obtain ⟨f, kV, doc, pm', an, cdv, ct, G, hm, _, hps, bind⟩ := (cal _ kin' (nspace gl)).ex
  rw [hx] at hm
  cases hm
  have env : Env0 P w K mg (hidT s₁.heap H) callerA [] s₁ H := {
    frames := rfl
    mod := ⟨kin', nspace gl, ⟨mb, nspace bl, bls⟩, by obtain ⟨mc, h1, h2⟩ := nl; exact ⟨mc, nspace h1, h2⟩⟩
    bs := fun b o e => of_hidT e
    bsz := Nat.le_of_eq (hidT_size _ _)
    funs := trivial
    frf := fun b hb => nomatch hb
    hok := ok
    bare := .of_eq gens }
  obtain ⟨st, hst⟩ := holds
  have pr : spF K mg 1 F [.ref a] H (fun v _ => v = .bl true) C8.E0 := by
    refine ⟨rfl, fun _ => False, [], [], [.scr ns], ?_, .cons ⟨a, rfl, ?_⟩ .nil, ?_⟩
    · exact ⟨rfl, fun m n a h => by simp at h, fun n a o h => by simp at h, fun n h => by simp at h, fun a h => h.elim, fun a h => by simp at h⟩
    · rcases sq with q | q
      · exact .inl ⟨q, fun z => by rcases z with z | z; · simp at z
                                   · exact z⟩
      · exact .inr (.inr q)
    · rw [hst]
      intro θ' H' v _ _ r
      cases r
      rfl
  refine codeAny_mono (G.go callerA [] s₁ H ⟨[.ref a], []⟩ [.ref a] [.ref a] _ C8.E0 rfl room env (.of_eq (bind [.ref a] rfl)) (.cons rfl .nil) pr) fun r s' fin => ?_
  cases r with
  | error e => exact fin.elim
  | ok fl =>
    cases fl with
    | ret u =>
      obtain ⟨v, H', os, bare, un, ok', rv, rfl⟩ := fin
      cases rv
      refine ⟨rfl, OldK.of_keep ?_, os, bare⟩
      intro b o e
      rcases only b with z | ⟨ob, xs, z⟩
      · exact un.keep b o e z (by intro h; exact nomatch h) (by simp)
      · have e1 := (ok b _ z).1
        have e2 := (ok' b _ (un.frzs b ob _ z)).1
        rw [e] at e1; cases e1
        exact e2
    | next => exact fin.elim
    | brk => exact fin.elim
    | cont => exact fin.elim
open Att in
theorem walk_end {l : PySem.W.OpenLaw} {k : Nat} {q : Program} {loose : List Str} {XP : (Str → Option Value) → Heap → Prop} {YP : World → Heap → Prop} {d : DefRec} {K : Params → PySem.W.Frag} {st : Stmt} {ps : List Str} {F : Fn}
    (few : l.most = some 63) (nodf : d.params.defaults = []) (room : Room k callerA) (kin : ∀ (w : World) (h : Heap), YP w h → (K w.params).In h)
    (cal : ∀ (w : World) (mg : Str → Option Value) (h : Heap), (K w.params).In h → h.Ns mainGlobals mg → ∀ base : Heap, (K w.params).In base → base.Ns mainGlobals mg → CalG l.prog w (K w.params) mg base k d.name st ps 1 F)
    (holds : ∀ ns : List Int, ns.length ≤ 63 → ∃ st, F [.scr ns] [] = .ok (.d (.bool true)) st) : PySem.W.WalkO q loose XP YP l.row.toRowW d [] (fun f vs => PySem.call f vs) :=
  attach_call few nodf fun w s₀ s₁ mg mb fa o pm cd doc a vs ns G Y ho hd hcd hmg hobj hints hlen hg =>
    law_end (kin w _ Y) G.T.g G.T.b G.T.builtins G.T.nolimit hg hobj hints hlen room hmg (cal w mg _ (kin w _ Y) G.T.g) (holds ns hlen)
end
end Y

namespace Y
open PySem PySem.Spec PyProof.Rows L2
theorem u65 {k : Nat} {A : Around} (r : Room k A) : A.units + 65 < cLine := by have := r.un; omega
theorem u66 {k : Nat} {A : Around} (r : Room k A) : A.units + 66 < cLine := by have := r.un; omega
section
variable {X : Cx} {C : Ct} {x : Str} {p pos apos : Pos} {e o : Expr} {es : List Expr} {fa : En → Sto → R (List W)} {fo : En → Sto → R W} {id T : String} {g : List W → Sto → R W}
theorem y_callB (hc : CallR X (.builtin id) (rdC C g)) (hg : Gl X x) (hm : X.mg x = none) (hv : bootBuiltins x = some (.builtin id)) (ha : PA X (e :: es) (rdA C fa)) (hn : x ≠ "__name__" := by decide) (hdb : (x == ("__debug__" : Str)) = false := by decide)
    (he : starEach (e :: es) X.env = (false, eval e X.env) :: starEach es X.env := by rfl) (hpl : (backTo pos (starEach es X.env)).any (·.1) = false := by rfl) : PE X (.Call (.Name x p) (e :: es) [] pos) (rdE C (dCall g fa)) := PE.imp (pe_callB hc hg hm hv ha hn hdb he hpl) fun _ _ _ => t_callB
theorem y_callTy (hc : CallR X (.type T) (rdC C g)) (hg : Gl X x) (hm : X.mg x = none) (hv : bootBuiltins x = some (.type T)) (ha : PA X (e :: es) (rdA C fa)) (hn : x ≠ "__name__" := by decide) (hdb : (x == ("__debug__" : Str)) = false := by decide)
    (he : starEach (e :: es) X.env = (false, eval e X.env) :: starEach es X.env := by rfl) (hpl : (backTo pos (starEach es X.env)).any (·.1) = false := by rfl) : PE X (.Call (.Name x p) (e :: es) [] pos) (rdE C (dCall g fa)) := PE.imp (pe_callTy hc hg hm hv ha hn hdb he hpl) fun _ _ _ => t_callB
/-- xs[::-1], a list of the store -/
@[simp] def dRevN (fe : En → Sto → R W) : En → Sto → R W := fun ρ st => (fe ρ st).bind fun w s => match items s w with
  | some ws => match w with
    | .d (.tuple _) => .bad
    | _ => .ok (.ref s.length) (s ++ [.lst ws.reverse])
  | _ => .bad
theorem paired_rev {α β : Type} {F : α → β → Prop} {l₁ : List α} {l₂ : List β} (h : Paired F l₁ l₂) : Paired F l₁.reverse l₂.reverse := by
  induction h with
  | nil => exact .nil
  | cons x _ ih => rw [List.reverse_cons, List.reverse_cons]; exact paired_snoc ih x
theorem y_revN {k : Nat} {p1 p2 p3 : Pos} {fe : En → Sto → R W} (hK : C.K = X.K) (he : PE X e (rdE C fe)) : PE X (.Subscript e (.Slice none none (some (.UnaryOp .USub (.Constant (.int 1) k p1) p2)) p3) pos) (rdE C (dRevN fe)) := by
  obtain ⟨K, mg, E⟩ := C
  obtain rfl : K = X.K := hK
  refine PE.imp (pe_revL he) fun σ H Q q => ?_
  obtain ⟨Z0, θ, ρ, st, S, N, p⟩ := q
  refine ⟨Z0, θ, ρ, st, S, N, Post.bind p fun w st1 θ1 H1 v _ e1 S1 w1 p1 => ?_⟩
  split at p1
  · rename_i ws hw
    split at p1
    · exact p1.elim
    · rename_i nt
      obtain ⟨a, vs, rfl, hs, r⟩ := items_sq S1 w1 hw
      rcases hs with hs | hs
      · exact ⟨a, vs, rfl, hs, fun t ht => p1.newRef S1 ht (paired_rev r)⟩
      · cases w with
        | d y =>
          cases y with
          | tuple ds => exact (nt ds rfl).elim
          | list ds =>
            cases w1 with
            | lst h1 h2 =>
              refine ⟨a, _, rfl, h1.sqL, fun t ht => p1.newRef S1 ht ?_⟩
              have : ws = ds.map W.d := by cases hw; rfl
              subst this
              exact paired_rev h2.toWRs
          | none => cases hw
          | bool _ => cases hw
          | int _ => cases hw
          | str _ => cases hw
          | dict _ => cases hw
        | ref n =>
          dsimp only [items] at hw
          split at hw
          · rename_i us hu
            cases hw
            obtain ⟨b, zs, e2, _, h3, h4⟩ := S1.at_ w1 hu
            cases e2
            exact ⟨_, zs, rfl, .inl (.inl h3), fun t ht => p1.newRef S1 ht (paired_rev h4)⟩
          · cases hw
        | scr ns =>
          obtain ⟨b, e2, h1⟩ := w1
          cases e2
          refine ⟨_, _, rfl, h1.sqL, fun t ht => p1.newRef S1 ht ?_⟩
          have : ws = ns.map fun n => .d (.int n) := by cases hw; rfl
          subst this
          have := (pdAll_ints (K := X.K) (Z := Zs Z0 θ1) (H := H1) ns).toWRs (θ := θ1)
          rw [List.map_map] at this
          exact paired_rev this
  · exact p1.elim
/-- a module's constant -/
theorem y_glob {v : V} {u : Value} {d : PyData} (hg : Gl X x) (hm : X.mg x = some u) (r : RelV v u) (hp : ∀ K Z H, Pd K Z H v d) (hd : (x == ("__debug__" : Str)) = false := by decide) : PE X (.Name x pos) (rdE C (dLit d)) := y_lit (pe_glob hg hm r hd) hp
theorem y_meth {g : W → List W → Sto → R W} {name : Str} (hK : C.K = X.K) (pa : PlainAttrs "list") (slot : Slot "list" name id) (hty : typeOf (.builtin id) = pure (.type "method_descriptor")) (hm : MtR X id (rdM C g)) (ho : PE X o (rdE C fo)) (ha : PA X (e :: es) (rdA C fa))
    (hbase : attributeBase o name X.env (eval o X.env) = eval o X.env := by rfl)
    (hfew : ((backTo pos (starEach (e :: es) X.env)).all (fun x => !x.1) && (backToKw pos (keywordEach [] X.env)).all (fun x => x.1.isSome)
      && decide ((e :: es).length + ([] : List Keyword).length + (if ([] : List Keyword).isEmpty then 0 else 1) < 30)) = true := by rfl) (hline : (apos.endLine == pos.line) = true := by rfl) (hs : starEach (e :: es) X.env = (false, eval e X.env) :: starEach es X.env := by rfl) (hplain : (backTo pos (starEach es X.env)).any (·.1) = false := by rfl) :
    PE X (.Call (.Attribute o name apos) (e :: es) [] pos) (rdE C (dMeth g fo fa)) := by
  obtain ⟨K, mg, E⟩ := C
  obtain rfl : K = X.K := hK
  exact PE.imp (pe_bm pa slot hty hm ho ha hbase hfew hline hs hplain) fun _ _ _ => t_meth
theorem y_meth0 {g : W → List W → Sto → R W} {name : Str} (hK : C.K = X.K) (pa : PlainAttrs "list") (slot : Slot "list" name id) (hty : typeOf (.builtin id) = pure (.type "method_descriptor")) (hm : MtR X id (rdM C g)) (ho : PE X o (rdE C fo))
    (hbase : attributeBase o name X.env (eval o X.env) = eval o X.env := by rfl) (hline : (apos.endLine == pos.line) = true := by rfl) :
    PE X (.Call (.Attribute o name apos) [] [] pos) (rdE C (dMeth0 g fo)) := by
  obtain ⟨K, mg, E⟩ := C
  obtain rfl : K = X.K := hK
  exact PE.imp (pe_bm0 pa slot hty hm ho hbase hline) fun _ _ _ => t_meth0
theorem y_methS {g : W → List W → Sto → R W} {name : Str} (hK : C.K = X.K) (pa : PlainAttrs "str") (slot : Slot "str" name id) (hty : typeOf (.builtin id) = pure (.type "method_descriptor")) (hm : MtR X id (rdM C g)) (ho : PE X o (rdE C fo)) (ha : PA X (e :: es) (rdA C fa))
    (hbase : attributeBase o name X.env (eval o X.env) = eval o X.env := by rfl)
    (hfew : ((backTo pos (starEach (e :: es) X.env)).all (fun x => !x.1) && (backToKw pos (keywordEach [] X.env)).all (fun x => x.1.isSome)
      && decide ((e :: es).length + ([] : List Keyword).length + (if ([] : List Keyword).isEmpty then 0 else 1) < 30)) = true := by rfl) (hline : (apos.endLine == pos.line) = true := by rfl) (hs : starEach (e :: es) X.env = (false, eval e X.env) :: starEach es X.env := by rfl) (hplain : (backTo pos (starEach es X.env)).any (·.1) = false := by rfl) :
    PE X (.Call (.Attribute o name apos) (e :: es) [] pos) (rdE C (dMethS g fo fa)) := by
  obtain ⟨K, mg, E⟩ := C
  obtain rfl : K = X.K := hK
  exact PE.imp (pe_bm pa slot hty hm ho ha hbase hfew hline hs hplain) fun _ _ _ => t_methS
end

/-! ### enumerate -/
/-- a text's signs with their places, each in a new pair -/
def ItES (z : Str) : It := ⟨fun i _ => i < z.cps.size, fun i H v H' => ∃ T c, v = .ref T ∧ H T = none ∧ H' = upd H T (.tup [.int (i : Nat), .str ⟨#[c]⟩]) ∧ z.cps[i]? = some c, fun i _ => z.cps.size ≤ i⟩
theorem draws_str {prog : Program} {w : World} {A : Around} (hh : A.handled = none) (it : Addr) (z : Str) (t : Tok) :
    Draws prog w A it [it] z.cps.size (fun i v => ∃ c u, z.cps[i]? = some c ∧ v = .str ⟨#[c]⟩ u) (fun i h => h.IsStrIter it (strIterType z) z t i) := by
  unfold strIterType
  split
  · have D := Draws.strAscii (prog := prog) (w := w) hh it z t
    exact ⟨D.live, D.frame, fun i s Q E hi st hQ => D.item i s Q E hi st fun x h' tk a => hQ x h' tk (by obtain ⟨c, u, h1, h2⟩ := a; exact ⟨c, u, h1, h2⟩), D.done⟩
  · have D := Draws.strWide (prog := prog) (w := w) hh it z t
    exact ⟨D.live, D.frame, fun i s Q E hi st hQ => D.item i s Q E hi st fun x h' tk a => hQ x h' tk (by obtain ⟨c, u, h1, h2⟩ := a; exact ⟨c, u, h1, h2⟩), D.done⟩
theorem turn_ES {P : Program} {w : World} {K : PySem.W.Frag} {elts : List Expr} {kk : Nat} {tpos : Pos} (z : Str) (t : Tok) (e it : Addr) :
    Turn P w K (.Tuple elts kk tpos) (ItES z) [e, it] e (fun i h => (∃ old, IsEnum h e it ((i : Nat) : Int) old) ∧ h.IsStrIter it (strIterType z) z t i ∧ e ≠ it ∧ i ≤ z.cps.size) where
  mem := List.mem_cons_self
  obj := fun i h st b hb => by
    obtain ⟨⟨old, he⟩, ⟨o, ho, hc, hd⟩, _⟩ := st
    rcases List.mem_cons.mp hb with rfl | hb
    · exact ⟨_, he, fun v q => nomatch q⟩
    · cases List.mem_singleton.mp hb
      exact ⟨o, ho, fun v q => by rw [hd] at q; cases q⟩
  keep := fun i h h' st k => by
    obtain ⟨⟨old, he⟩, ⟨o, ho, r⟩, ne, le⟩ := st
    exact ⟨⟨old, k e (by simp) _ he⟩, ⟨o, k it (by simp) o ho, r⟩, ne, le⟩
  item := by
    intro X hP hw hK hc i pins s σ H E I hf st hg
    cases hP; cases hw; cases hK
    obtain ⟨⟨old, he⟩, hit, ne, le⟩ := st
    have hel : e < s.heap.objs.size := Heap.lt_size he
    have hil : it < s.heap.objs.size := by
      obtain ⟨_, q, _⟩ := hit
      exact Heap.lt_size q
    refine wpAny_pyNext_enum_itemD (draws_str (A := X.A.in1) (I.ok.hd hc) it z t) he hit hg ne (by simpa using ne) ?_
    intro x h' tk hx ho hit' hT hsz hk
    obtain ⟨c, u, hc1, rfl⟩ := hx
    refine ⟨.ref s.heap.objs.size, rfl, wpAny_letOwnedTupleGo_enum (s := { s with heap := h', toks := tk + 1 }) ho ?_⟩
    intro h2 he' sb
    have hT2 : h2.get? s.heap.objs.size = some { cls := .type "tuple", data := .seq #[.int i tk, .str ⟨#[c]⟩ u] } := (sb.2 _ (Nat.ne_of_gt hel)).trans hT
    have free := I.hok.fresh (Nat.le_refl s.heap.objs.size)
    have laid : ObjOk X.prog X.w (upd H s.heap.objs.size (.tup [.int (i : Nat), .str ⟨#[c]⟩])) h2 s.heap.objs.size (.tup [.int (i : Nat), .str ⟨#[c]⟩]) := by
      refine ⟨by show 2 ≤ sizeLine; decide, [.int i tk, .str ⟨#[c]⟩ u], .cons ⟨tk, rfl⟩ (.cons ⟨u, rfl⟩ .nil), _, hT2, rfl, _, rfl⟩
    have kept : ∀ b o, b ∉ [e, it] → s.heap.get? b = some o → h2.get? b = some o := fun b o hb q => by
      simp only [List.mem_cons, List.not_mem_nil, or_false, not_or] at hb
      exact (sb.2 b hb.1).trans (hk b o hb.1 hb.2 q)
    have I1 := I.turnedNew (t' := tk + 1) kept hf (Nat.le_refl _) laid
    refine ⟨.ref s.heap.objs.size, _, I1, rfl, ⟨_, c, rfl, free, rfl, hc1⟩, ⟨⟨.str ⟨#[c]⟩ u, ?_⟩, ?_, ne, hg⟩, fun b hb => ?_⟩
    · rw [Int.natCast_succ]; exact he'
    · obtain ⟨o, ho, r⟩ := hit'
      exact ⟨o, (sb.2 it (Ne.symm ne)).trans ho, r⟩
    · rw [upd_ne, (hf b hb).1]
      rcases List.mem_cons.mp hb with rfl | hb
      · exact Nat.ne_of_lt hel
      · cases List.mem_singleton.mp hb; exact Nat.ne_of_lt hil
  done := by
    intro X hP hw hK hc i pins s σ H E I hf st hg
    cases hP; cases hw; cases hK
    obtain ⟨⟨old, he⟩, hit, ne, le⟩ := st
    obtain ⟨f0, f1, f2, f3, f4, f5⟩ := hf it (by simp)
    have hi : i = z.cps.size := Nat.le_antisymm le hg
    subst hi
    exact wpAny_pyNext_enum_endD (draws_str (A := X.A.in1) (I.ok.hd hc) it z t) he hit fun h' eb => ⟨rfl, I.turned (t' := s.toks) (fun b o hb q => eb b o hb q) f0 f1 f3 f4 f5⟩
  self := fun A i s Q E st h => by
    obtain ⟨⟨_, he⟩, _⟩ := st
    exact wpAny_pyIter_enum he h
section
variable {X : Cx} {C : Ct}
/-- what enumerate walks: a list, a text -/
def iES (te : TE) : TI := fun σ H R => te σ H fun v H1 => ∃ z, v = .str z ∧ R (ItES z) H1
theorem pi_ES {e : Expr} {te : TE} {p pos tpos : Pos} {elts : List Expr} {kk : Nat} (hg : Gl X "enumerate") (hm : X.mg "enumerate" = none) (he : PE X e te) (hs : starEach [e] X.env = [(false, eval e X.env)] := by rfl) :
    PI X (.Tuple elts kk tpos) (.Call (.Name "enumerate" p) [e] [] pos) (iES te) := by
  refine ⟨fun pins s σ H R I q => Call_ (ld_blt I hg hm boot_enumerate (PyProof.Rows.callWith_type1 ?_ hs rfl))⟩
  refine thn ((pa_cons he pa_nil hs).run pos pins s σ H (fun vs H1 => ∃ z, vs = [.str z] ∧ R (ItES z) H1) I ?_) fun us s1 out => ?_
  · have q2 : te σ H fun v H1 => ∃ z, v = .str z ∧ R (ItES z) H1 := q
    exact (show tCons te tNil σ H _ from by
      unfold tCons tNil
      have m := q2
      exact (by
        have e : (fun (x : V) (H1 : Hp) => ∃ z, [x] = [V.str z] ∧ R (ItES z) H1) = fun x H1 => ∃ z, x = V.str z ∧ R (ItES z) H1 := by
          funext x H1; simp
        rw [e]; exact m))
  · obtain ⟨vs, H1, I1, r1, z, rfl, q1⟩ := out
    obtain ⟨u, rfl, ru⟩ := vals1 r1
    obtain ⟨t, rfl⟩ := ru
    refine call_enumerate_str fun h' he' hit hsz hk => wpAny_pyIter_enum he' ?_
    refine ⟨s1.heap.objs.size + 1, [s1.heap.objs.size + 1, s1.heap.objs.size], _, _, H1, rfl, I1.kept (t' := s1.toks) hk, turn_ES z t (s1.heap.objs.size + 1) s1.heap.objs.size, ⟨⟨.none, he'⟩, hit, Nat.succ_ne_self _, Nat.zero_le _⟩, fun b hb => ?_, q1⟩
    have big : s1.heap.objs.size ≤ b := by
      rcases List.mem_cons.mp hb with rfl | hb
      · exact Nat.le_succ _
      · cases List.mem_singleton.mp hb; exact Nat.le_refl _
    exact I1.fpOk big (I1.hok.fresh big)
def pairs (i : Nat) : List PyData → List W
  | [] => []
  | d :: ds => .d (.tuple [.int i, d]) :: pairs (i + 1) ds
theorem pairs_length (ds : List PyData) : ∀ i, (pairs i ds).length = ds.length := by
  induction ds with
  | nil => intro i; rfl
  | cons d ds ih => intro i; simp [pairs, ih]
theorem pairs_get (ds : List PyData) : ∀ (i j : Nat), (pairs i ds)[j]? = ds[j]?.map fun d => W.d (.tuple [.int ((i + j : Nat)), d]) := by
  induction ds with
  | nil => intro i j; simp [pairs]
  | cons d ds ih =>
    intro i j
    cases j with
    | zero => simp [pairs]
    | succ j =>
      simp only [pairs, List.getElem?_cons_succ]
      rw [ih (i + 1) j, show i + 1 + j = i + (j + 1) by omega]
@[simp] def dEnum (fe : En → Sto → R W) : En → Sto → R (List W) := fun ρ st => (fe ρ st).bind fun w s => match w with
  | .d (.list ds) => .ok (pairs 0 ds) s
  | .d (.str z) => .ok (pairs 0 (z.cps.toList.map fun c => .str ⟨#[c]⟩)) s
  | _ => .bad
theorem newPair {K : PySem.W.Frag} {Z0 : Addr → Prop} {θ : List (Option Addr)} {H : Hp} {st : Sto} {T : Addr} {x y : V} {a b : PyData} (S : SR K Z0 θ st H) (hT : H T = none) (ra : Pd K (Zs Z0 θ) H x a) (rb : Pd K (Zs Z0 θ) H y b) :
    Ext θ H θ (upd H T (.tup [x, y])) ∧ SR K Z0 θ st (upd H T (.tup [x, y])) ∧ WR K (Zs Z0 θ) θ (upd H T (.tup [x, y])) (.d (.tuple [a, b])) (.ref T) ∧ ∀ c, H c ≠ none → upd H T (.tup [x, y]) c = H c :=
  ⟨Ext.alloc hT, S.alloc hT, show Pd _ _ _ _ _ from .tup (.inl (.inl upd_same)) (.cons (Pd.ext (Ext.alloc hT) ra) (.cons (Pd.ext (Ext.alloc hT) rb) .nil)), fun c hc => upd_ne fun z => hc (z ▸ hT)⟩
theorem itOk_ES {K : PySem.W.Frag} {Z0 : Addr → Prop} {θ : List (Option Addr)} {H : Hp} {z : Str} : ItOk K Z0 θ H (pairs 0 (z.cps.toList.map fun c => .str ⟨#[c]⟩)) (ItES z) := fun Z1 θ1 H1 st1 hz e S i => by
  refine ⟨fun w hw => ?_, fun hi => (show z.cps.size ≤ i by rw [pairs_length] at hi; simpa using hi)⟩
  rw [pairs_get, List.getElem?_map] at hw
  cases hc : z.cps.toList[i]? with
  | none => rw [hc] at hw; cases hw
  | some c =>
    rw [hc] at hw
    cases hw
    have hi : i < z.cps.size := by have := (List.getElem?_eq_some_iff.mp hc).1; simpa using this
    refine ⟨hi, fun v H2 y => ?_⟩
    obtain ⟨T, c', rfl, hT, rfl, h1⟩ := y
    have : c' = c := by
      have e2 : z.cps[i]? = some c := by simpa using hc
      exact Option.some.inj (h1.symm.trans e2)
    subst this
    have := newPair S hT (.int (i : Nat)) (.str ⟨#[c']⟩)
    simpa using this
theorem itOk_EL {K : PySem.W.Frag} {Z0 : Addr → Prop} {θ : List (Option Addr)} {H : Hp} {a : Addr} {vs : List V} {ds : List PyData} (h1 : LstF (Zs Z0 θ) H a vs) (h2 : PdAll K (Zs Z0 θ) H vs ds) : ItOk K Z0 θ H (pairs 0 ds) (Ite K a) := fun Z1 θ1 H1 st1 hz e S i => by
  have q : SqL K H1 a vs := .inl (e.lstF hz h1).1
  refine ⟨fun w hw => ?_, fun hi => ⟨vs, q, by rw [h2.length]; rw [pairs_length] at hi; exact hi⟩⟩
  rw [pairs_get] at hw
  cases hd : ds[i]? with
  | none => rw [hd] at hw; cases hw
  | some d =>
    rw [hd] at hw
    cases hw
    obtain ⟨v, hv, r⟩ := h2.get hd
    refine ⟨⟨vs, v, q, hv⟩, fun x H2 y => ?_⟩
    obtain ⟨T, u, rfl, hT, rfl, y⟩ := y
    have : u = v := Option.some.inj ((y vs q).symm.trans hv)
    subst this
    have := newPair S hT (.int (i : Nat)) (Pd.extW hz e r)
    simpa using this
theorem y_enum {e : Expr} {fe : En → Sto → R W} {p pos tpos : Pos} {elts : List Expr} {kk : Nat} (hK : C.K = X.K) (hg : Gl X "enumerate") (hm : X.mg "enumerate" = none) (h : PE X e (rdE C fe)) (hs : starEach [e] X.env = [(false, eval e X.env)] := by rfl) :
    PI X (.Tuple elts kk tpos) (.Call (.Name "enumerate" p) [e] [] pos) (rdI C (dEnum fe)) := by
  obtain ⟨K, mg, E⟩ := C
  obtain rfl : K = X.K := hK
  refine PI.imp (PI.or (pi_enum hg hm (pa_cons h pa_nil hs) hs) (pi_ES hg hm h hs)) fun σ H Q q => ?_
  obtain ⟨Z0, θ, ρ, st, S, N, p⟩ := q
  unfold dEnum at p
  cases e : fe ρ st with
  | bad => rw [e] at p; exact p.elim
  | exc c x s => rw [e] at p; exact .inl ⟨Z0, θ, ρ, st, S, N, by rw [e]; exact p⟩
  | ok w st1 =>
    rw [e, R.bind_ok] at p
    split at p
    · refine .inl ⟨Z0, θ, ρ, st, S, N, ?_⟩
      rw [e]
      intro θ1 H1 v e1 S1 w1
      cases w1 with
      | lst h1 h2 => exact ⟨_, _, rfl, h1.sqL, p θ1 H1 _ e1 S1 (itOk_EL h1 h2)⟩
    · refine .inr ⟨Z0, θ, ρ, st, S, N, ?_⟩
      rw [e]
      intro θ1 H1 v e1 S1 w1
      cases w1
      exact ⟨_, rfl, p θ1 H1 _ e1 S1 itOk_ES⟩
    · exact p.elim
end
end Y
namespace Y
open PySem PySem.Spec PyProof.Rows L2
theorem y_yes {X : Cx} {C : Ct} : PTs X [] (rdT C fun _ st => .ok true st) := ⟨fun pins s σ H Q I q => pts_nil.run pins s σ H Q I (by
  obtain ⟨Z0, θ, ρ, st, S, N, p⟩ := q
  exact p.now S rfl)⟩
end Y

namespace Y
open PySem PySem.Spec PyProof.Rows L2
/-! ### reckoning with defs as functions -/
theorem R.bind_congr {α β : Type} {r r' : R α} {f : α → Sto → R β} (h : r = r') : r.bind f = r'.bind f := by rw [h]
theorem lcL_congr {tg : W → En → Sto → R En} {tt : En → Sto → R Bool} {fe : En → Sto → R W} {ρ ρ' : En} {ws ws' : List W} {st st' : Sto} (h1 : ρ = ρ') (h2 : ws = ws') (h3 : st = st') : lcL tg tt fe ρ ws st = lcL tg tt fe ρ' ws' st' := by rw [h1, h2, h3]
theorem forL_congr {tg : W → En → Sto → R En} {f : DS} {ρ ρ' : En} {ws ws' : List W} {st st' : Sto} (h1 : ws = ws') (h2 : ρ = ρ') (h3 : st = st') : forL tg f ws ρ st = forL tg f ws' ρ' st' := by rw [h1, h2, h3]
theorem dWhile_congr {c : En → Sto → R Bool} {f : DS} {ρ ρ' : En} {st st' : Sto} (h2 : ρ = ρ') (h3 : st = st') : dWhile c f ρ st = dWhile c f ρ' st' := by rw [h2, h3]
@[simp] theorem chk_true {α : Type} {r : R α} : chk True r = r := chk_ok trivial
abbrev I (i : Int) : W := .d (.int i)
@[simp high] theorem map_I (cs : List Int) : List.map W.d (List.map PyData.int cs) = List.map I cs := by simp
theorem vMulR {i j : Int} {st : Sto} (h : j.natAbs < 2 ^ 64) : vMul (.d (.int i)) (.d (.int j)) st = .ok (.d (.int (i * j))) st := by
  simp only [vMul, vIntC]
  refine chk_ok ?_
  simp only [cMul, Bool.or_eq_true, Bool.and_eq_true, decide_eq_true_eq]
  omega
theorem vDivP {i j : Int} {st : Sto} (h : 0 < j) (h2 : j < 1073741824) : vDiv (.d (.int i)) (.d (.int j)) st = .ok (.d (.int (i / j))) st := by
  simp only [vDiv, vIntC]
  rw [chk_ok (by simp only [cDiv, Bool.and_eq_true, decide_eq_true_eq]; omega), Int.fdiv_eq_ediv_of_nonneg _ (by omega)]
theorem vModP {i j : Int} {st : Sto} (h : 0 < j) : vMod (.d (.int i)) (.d (.int j)) st = .ok (.d (.int (i % j))) st := by
  simp only [vMod, vIntC]
  rw [chk_ok (by simp only [cMod, decide_eq_true_eq]; omega), Int.fmod_eq_emod_of_nonneg _ (by omega)]
theorem asInts_I (cs : List Int) : allD (cs.map I) = some (cs.map .int) := by
  induction cs with
  | nil => rfl
  | cons c cs ih => simp [allD, I, ih]
theorem canLay_ints (cs : List Int) : PyData.canLayAll0 (cs.map .int) = true := by
  induction cs with
  | nil => rfl
  | cons c cs ih => simp [PyData.canLayAll0, PyData.canLay0, ih]
theorem depth_ints (cs : List Int) : PyData.depthAll (cs.map .int) ≤ 1 := by
  induction cs with
  | nil => simp [PyData.depthAll]
  | cons c cs ih => simp [PyData.depthAll, PyData.depth]; omega
theorem shaped_ints (cs : List Int) : SeqAt.shaped (.list (cs.map .int)) = true := by
  unfold SeqAt.shaped
  rw [Bool.and_eq_true]
  refine ⟨by simp [PyData.canLay0, canLay_ints], ?_⟩
  have := depth_ints cs
  simp [PyData.depth]; omega
theorem shaped_int (i : Int) : SeqAt.shaped (.int i) = true := by simp [SeqAt.shaped, PyData.canLay0, PyData.depth]
theorem shaped_nil : SeqAt.shaped (.list []) = true := shaped_ints []
/-- a deal: a list of the rest to draw from, and a number -/
def DealIs (st : Sto) (n c : Nat) (cs : List Int) (b : Int) : Prop := st[n]? = some (.lst [.ref c, .d (.int b)]) ∧ st[c]? = some (.lst (cs.map I)) ∧ n ≠ c ∧ (∀ x ∈ cs, 0 ≤ x) ∧ cs.length ≤ 63
def DealOk (st : Sto) (n c : Nat) : Prop := ∃ cs b, DealIs st n c cs b
/-- what a draw leaves as it was -/
structure Dealt (n c : Nat) (st st' : Sto) : Prop where
  le : st.length ≤ st'.length
  keep : ∀ j, j < st.length → j ≠ n → j ≠ c → st'[j]? = st[j]?
  ok : DealOk st' n c
theorem Dealt.trans {n c : Nat} {s1 s2 s3 : Sto} (a : Dealt n c s1 s2) (b : Dealt n c s2 s3) : Dealt n c s1 s3 :=
  ⟨Nat.le_trans a.le b.le, fun j h h1 h2 => (b.keep j (Nat.lt_of_lt_of_le h a.le) h1 h2).trans (a.keep j h h1 h2), b.ok⟩
theorem Dealt.refl {n c : Nat} {st : Sto} (h : DealOk st n c) : Dealt n c st st := ⟨Nat.le_refl _, fun _ _ _ _ => rfl, h⟩
noncomputable def wAny : DS := (dWhile (dAnd (fun ρ st => asB (dBin (vEq true) (dBin vIx (dVar 0) (dLit (.int 0))) (dLst dNil) ρ st)) (fun ρ st => asB (dBin (vEq false) (dBin vIx (dBin vIx (dVar 0) (dLit (.int 0))) (dUn vNeg (dLit (.int 1)))) (dLit (.int 0)) ρ st)))
    (dExpr (dMeth0 mPop (dBin vIx (dVar 0) (dLit (.int 0))))))
noncomputable def B_any : DS :=
  (dSeq wAny
    (dSeq (dIfS (fun ρ st => asB (dBin (vEq true) (dBin vIx (dVar 0) (dLit (.int 0))) (dLst dNil) ρ st))
    (dSeq (dSet 2 (dCall gInt (dCons (dMeth0 mPop (dBin vIx (dVar 0) (dLit (.int 0)))) dNil)))
    (dSeq (dExpr (dMeth mAppend (dBin vIx (dVar 0) (dLit (.int 0))) (dCons (dBin vDiv (dVar 2) (dVar 1)) dNil)))
    (dRet (dBin vMod (dVar 2) (dVar 1)))))
    dEnd)
    (dSeq (dSetIx (dBin vMod (dCall gInt (dCons (dBin vAdd (dBin vMul (dBin vIx (dVar 0) (dLit (.int 1))) (dLit (.int 40693))) (dLit (.int 71))) dNil)) (dLit (.int 2147483647))) (dVar 0) (dLit (.int 1)))
    (dRet (dBin vMod (dCall gInt (dCons (dBin vDiv (dBin vIx (dVar 0) (dLit (.int 1))) (dLit (.int 64))) dNil)) (dVar 1))))))
noncomputable def F_any : Fn := dDef 3 B_any
theorem atI_zero {α : Type} (x : α) (xs : List α) : atI (x :: xs) 0 = some x := atI_nat (j := 0) rfl
theorem atI_one {α : Type} (x y : α) (xs : List α) : atI (x :: y :: xs) 1 = some y := atI_nat (j := 1) rfl
theorem atI_end {α : Type} (xs : List α) (v : α) : atI (xs ++ [v]) (-1) = some v := atI_last xs v
theorem DealIs.set {st : Sto} {n c : Nat} {cs ds : List Int} {b : Int} (h : DealIs st n c cs b) (hd : ∀ x ∈ ds, 0 ≤ x) (hl : ds.length ≤ 63) : DealIs (st.set c (.lst (ds.map I))) n c ds b := by
  obtain ⟨h1, h2, h3, h4, h5⟩ := h
  refine ⟨by rw [List.getElem?_set_ne (Ne.symm h3)]; exact h1, ?_, h3, hd, hl⟩
  rw [List.getElem?_set_self (List.getElem?_eq_some_iff.mp h2).1]
theorem DealIs.num {st : Sto} {n c : Nat} {cs : List Int} {b b' : Int} (h : DealIs st n c cs b) : DealIs (st.set n (.lst [.ref c, .d (.int b')])) n c cs b' := by
  obtain ⟨h1, h2, h3, h4, h5⟩ := h
  refine ⟨?_, by rw [List.getElem?_set_ne h3]; exact h2, h3, h4, h5⟩
  rw [List.getElem?_set_self (List.getElem?_eq_some_iff.mp h1).1]
theorem shaped_strOk {x : Str} (h : PyData.strOk x = true) : SeqAt.shaped (.str x) = true := by simp [SeqAt.shaped, PyData.canLay0, PyData.depth, h]
abbrev cAny : En → Sto → R Bool := dAnd (fun ρ st => asB (dBin (vEq true) (dBin vIx (dVar 0) (dLit (.int 0))) (dLst dNil) ρ st)) (fun ρ st => asB (dBin (vEq false) (dBin vIx (dBin vIx (dVar 0) (dLit (.int 0))) (dUn vNeg (dLit (.int 1)))) (dLit (.int 0)) ρ st))
abbrev tAny : DS := dExpr (dMeth0 mPop (dBin vIx (dVar 0) (dLit (.int 0))))
section
variable {st : Sto} {n c : Nat} {cs : List Int} {b k y : Int} {e : Option W}
theorem any_empty (h : DealIs st n c cs b) : asB (dBin (vEq true) (dBin vIx (dVar 0) (dLit (.int 0))) (dLst dNil) [some (.ref n), some (.d (.int k)), e] st) = .ok (!cs.isEmpty) st := by
  obtain ⟨h1, h2, h3, h4, h5⟩ := h
  simp [h1, h2, atI_zero, asInts_I, shaped_ints, shaped_nil]
  cases cs <;> simp [PyData.eqv, PyData.eqvAll]
theorem any_nil (h : DealIs st n c [] b) : cAny [some (.ref n), some (.d (.int k)), e] st = .ok false st := by
  have := any_empty (k := k) (e := e) h
  dsimp only [cAny, dAnd]
  rw [this]; rfl
theorem any_snoc (h : DealIs st n c (cs ++ [y]) b) : cAny [some (.ref n), some (.d (.int k)), e] st = .ok (decide (y = 0)) st := by
  have := any_empty (k := k) (e := e) h
  dsimp only [cAny, dAnd]
  rw [this]
  obtain ⟨h1, h2, h3, h4, h5⟩ := h
  have e1 : (cs ++ [y]).isEmpty = false := by cases cs <;> rfl
  simp [h1, h2, e1, atI_zero, atI_end, shaped_int, PyData.eqv]
  by_cases hy : y = 0 <;> simp [hy]
theorem any_pop (h : DealIs st n c (cs ++ [y]) b) : tAny [some (.ref n), some (.d (.int k)), e] st = .ok (.nx, [some (.ref n), some (.d (.int k)), e]) (st.set c (.lst (cs.map I))) := by
  obtain ⟨h1, h2, h3, h4, h5⟩ := h
  simp [h1, h2, atI_zero]
theorem DealIs.pop (h : DealIs st n c (cs ++ [y]) b) : DealIs (st.set c (.lst (cs.map I))) n c cs b :=
  h.set (fun x hx => h.2.2.2.1 x (List.mem_append_left _ hx)) (by have := h.2.2.2.2; simp at this; omega)
theorem any_loop : ∀ (m : Nat) (st : Sto) (cs : List Int), cs.length = m → DealIs st n c cs b → ∃ ds st', whileN cAny tAny (m + 1) [some (.ref n), some (.d (.int k)), e] st = .ok (.nx, [some (.ref n), some (.d (.int k)), e]) st' ∧ DealIs st' n c ds b ∧ st'.length = st.length ∧ ∀ j, j ≠ c → st'[j]? = st[j]? := by
  intro m
  induction m with
  | zero =>
    intro st cs hm h
    have : cs = [] := List.length_eq_zero_iff.mp hm
    subst this
    exact ⟨[], st, by unfold whileN; rw [any_nil h]; rfl, h, rfl, fun _ _ => rfl⟩
  | succ m ih =>
    intro st cs hm h
    have hne : cs ≠ [] := by intro z; rw [z] at hm; cases hm
    rw [← List.dropLast_concat_getLast hne] at h
    by_cases hy : cs.getLast hne = 0
    · obtain ⟨ds, st', h1, h2, h3, h4⟩ := ih _ _ (by simp; omega) h.pop
      refine ⟨ds, st', ?_, h2, by rw [h3]; simp, fun j hj => by rw [h4 j hj, List.getElem?_set_ne (Ne.symm hj)]⟩
      show (cAny _ st).bind _ = _
      rw [any_snoc h, R.bind_ok, if_pos (by simp [hy]), any_pop h, R.bind_ok]
      exact h1
    · refine ⟨_, st, ?_, h, rfl, fun _ _ => rfl⟩
      show (cAny _ st).bind _ = _
      rw [any_snoc h, R.bind_ok, if_neg (by simp [hy])]
theorem any_while (h : DealIs st n c cs b) : ∃ ds st', wAny [some (.ref n), some (.d (.int k)), e] st = .ok (.nx, [some (.ref n), some (.d (.int k)), e]) st' ∧ DealIs st' n c ds b ∧ st'.length = st.length ∧ ∀ j, j ≠ c → st'[j]? = st[j]? := by
  obtain ⟨ds, st', h1, h2⟩ := any_loop (k := k) (e := e) _ st cs rfl h
  exact ⟨ds, st', dWhile_of h1 (by simp), h2⟩
/-- a draw below k -/
theorem F_any_ok (h : DealOk st n c) (h0 : 0 < k) (h1 : k < 1073741824) : ∃ r st', F_any [.ref n, .d (.int k)] st = .ok (.d (.int r)) st' ∧ 0 ≤ r ∧ r < k ∧ Dealt n c st st' ∧ st'.length = st.length := by
  obtain ⟨cs, b, h⟩ := h
  obtain ⟨ds, s1, e1, hd, l1, k1⟩ := any_while (k := k) (e := none) h
  have e0 : F_any [.ref n, .d (.int k)] st = (B_any [some (.ref n), some (.d (.int k)), none] st).bind fun a s => match a.1 with
      | .rt w => .ok w s
      | .nx => .ok (.d .none) s
      | _ => .bad := rfl
  have em := any_empty (k := k) (e := none) hd
  by_cases hds : ds = []
  · subst hds
    refine ⟨(b * 40693 + 71) % 2147483647 / 64 % k, s1.set n (.lst [.ref c, .d (.int ((b * 40693 + 71) % 2147483647))]), ?_, Int.emod_nonneg _ (by omega), Int.emod_lt_of_pos _ h0, ⟨by simp [l1], fun j hj a1 a2 => by rw [List.getElem?_set_ne (Ne.symm a1), k1 j a2], ⟨[], _, hd.num⟩⟩, by simp [l1]⟩
    obtain ⟨g1, g2, g3, g4, g5⟩ := hd
    have gs : ∀ o, (s1.set n o)[n]? = some o := fun o => List.getElem?_set_self (List.getElem?_eq_some_iff.mp g1).1
    rw [e0]
    unfold B_any
    rw [dSeq, e1, R.bind_ok]
    simp only [dSeq, dIfS]
    rw [em]
    have q : ixN 2 1 = some 1 := by decide
    simp [g1, g2, atI_zero, atI_one, q]
    rw [vMulR (by decide)]
    simp
    rw [vModP (by decide)]
    simp only [g1, List.length_cons, List.length_nil, q, R.bind_ok, List.getElem?_cons_zero, List.getElem?_cons_succ, List.set_cons_succ, List.set_cons_zero, gs, atI_one, Nat.reduceAdd]
    rw [vDivP (by decide) (by decide)]
    simp
    rw [vModP h0]
    simp
  · have hne := hds
    rw [← List.dropLast_concat_getLast hne] at hd em
    generalize hy : ds.getLast hne = y at hd em
    generalize hz : ds.dropLast = zs at hd em
    have y0 : 0 ≤ y := hd.2.2.2.1 y (by simp)
    have hp := hd.pop
    have fin : DealIs (s1.set c (.lst ((zs ++ [y / k]).map I))) n c (zs ++ [y / k]) b := hd.set (fun x hx => by
      rcases List.mem_append.mp hx with hx | hx
      · exact hd.2.2.2.1 x (List.mem_append_left _ hx)
      · have : x = y / k := by simpa using hx
        rw [this]; exact Int.ediv_nonneg y0 (by omega)) (by have := hd.2.2.2.2; simpa using this)
    refine ⟨y % k, s1.set c (.lst ((zs ++ [y / k]).map I)), ?_, Int.emod_nonneg _ (by omega), Int.emod_lt_of_pos _ h0, ⟨by simp [l1], fun j hj a1 a2 => by rw [List.getElem?_set_ne (Ne.symm a2), k1 j a2], ⟨_, _, fin⟩⟩, by simp [l1]⟩
    obtain ⟨g1, g2, g3, g4, g5⟩ := hd
    have hc : c < s1.length := (List.getElem?_eq_some_iff.mp g2).1
    have g1' : (s1.set c (.lst (zs.map I)))[n]? = some (.lst [.ref c, .d (.int b)]) := by rw [List.getElem?_set_ne (Ne.symm g3)]; exact g1
    have g2' : (s1.set c (.lst (zs.map I)))[c]? = some (.lst (zs.map I)) := List.getElem?_set_self hc
    have e2 : (zs ++ [y]).isEmpty = false := by cases zs <;> rfl
    have room : (zs.map I).length < sizeLine := by
      simp only [List.length_append, List.length_map, List.length_singleton] at g5 ⊢
      rw [sizeLine_eq]; omega
    rw [e0]
    unfold B_any
    rw [dSeq, e1, R.bind_ok]
    simp only [dSeq, dIfS]
    rw [em]
    simp [g1, g2, g1', g2', e2, atI_zero]
    rw [vDivP h0 h1]
    simp at room
    simp [g1', g2', atI_zero, room, chk_ok]
    rw [vModP h0]
    simp
end
end Y

namespace Y
open PySem PySem.Spec PyProof.Rows L2
/-! ### loops and comprehensions, by what each turn does -/
theorem lcL_yes {tg : W → En → Sto → R En} {tt : En → Sto → R Bool} {fe : En → Sto → R W} {ρ ρ1 : En} {w u : W} {ws : List W} {st s1 s2 s3 : Sto} (h1 : tg w ρ st = .ok ρ1 s1) (h2 : tt ρ1 s1 = .ok true s2) (h3 : fe ρ1 s2 = .ok u s3) :
    lcL tg tt fe ρ (w :: ws) st = (lcL tg tt fe ρ ws s3).bind fun us s4 => .ok (u :: us) s4 := by
  simp [lcL, h1, h2, h3]
theorem lcL_no {tg : W → En → Sto → R En} {tt : En → Sto → R Bool} {fe : En → Sto → R W} {ρ ρ1 : En} {w : W} {ws : List W} {st s1 s2 : Sto} (h1 : tg w ρ st = .ok ρ1 s1) (h2 : tt ρ1 s1 = .ok false s2) :
    lcL tg tt fe ρ (w :: ws) st = lcL tg tt fe ρ ws s2 := by
  simp [lcL, h1, h2]
theorem lcL_map {α : Type} {tg : W → En → Sto → R En} {fe : En → Sto → R W} {ρ : En} {s : Sto} {emb g : α → W} : ∀ (ws : List α), (∀ a ∈ ws, ∃ ρ1, tg (emb a) ρ s = .ok ρ1 s ∧ fe ρ1 s = .ok (g a) s) → lcL tg (fun _ st => .ok true st) fe ρ (ws.map emb) s = .ok (ws.map g) s
  | [], _ => rfl
  | a :: ws, h => by
    obtain ⟨ρ1, h1, h2⟩ := h a List.mem_cons_self
    rw [List.map_cons, lcL_yes h1 rfl h2, lcL_map ws fun b hb => h b (List.mem_cons_of_mem _ hb)]
    rfl
theorem lcL_filter {α : Type} {tg : W → En → Sto → R En} {tt : En → Sto → R Bool} {fe : En → Sto → R W} {ρ : En} {s : Sto} {emb g : α → W} {p : α → Bool} : ∀ (ws : List α), (∀ a ∈ ws, ∃ ρ1, tg (emb a) ρ s = .ok ρ1 s ∧ tt ρ1 s = .ok (p a) s ∧ (p a = true → fe ρ1 s = .ok (g a) s)) → lcL tg tt fe ρ (ws.map emb) s = .ok ((ws.filter p).map g) s
  | [], _ => rfl
  | a :: ws, h => by
    obtain ⟨ρ1, h1, h2, h3⟩ := h a List.mem_cons_self
    have ih := lcL_filter ws fun b hb => h b (List.mem_cons_of_mem _ hb)
    cases hp : p a with
    | true =>
      rw [hp] at h2
      rw [List.map_cons, lcL_yes h1 h2 (h3 hp), ih, List.filter_cons_of_pos hp]
      rfl
    | false =>
      rw [hp] at h2
      rw [List.map_cons, lcL_no h1 h2, ih, List.filter_cons_of_neg (by simp [hp])]
/-- each turn may change the store -/
theorem lcL_inv {α : Type} {tg : W → En → Sto → R En} {fe : En → Sto → R W} {ρ : En} {emb : α → W} {P : Sto → Prop} {Q : W → Prop} : ∀ (ws : List α) (s : Sto), P s → (∀ a ∈ ws, ∀ s, P s → ∃ ρ1 u s', tg (emb a) ρ s = .ok ρ1 s ∧ fe ρ1 s = .ok u s' ∧ Q u ∧ P s') → ∃ us s', lcL tg (fun _ st => .ok true st) fe ρ (ws.map emb) s = .ok us s' ∧ us.length = ws.length ∧ (∀ u ∈ us, Q u) ∧ P s'
  | [], s, h, _ => ⟨[], s, rfl, rfl, (fun _ z => nomatch z), h⟩
  | a :: ws, s, h, t => by
    obtain ⟨ρ1, u, s1, h1, h2, h3, h4⟩ := t a List.mem_cons_self s h
    obtain ⟨us, s2, g1, g2, g3, g4⟩ := lcL_inv ws s1 h4 fun b hb => t b (List.mem_cons_of_mem _ hb)
    refine ⟨u :: us, s2, ?_, by simp [g2], fun v hv => ?_, g4⟩
    · rw [List.map_cons, lcL_yes h1 rfl h2, g1]
      rfl
    · rcases List.mem_cons.mp hv with rfl | hv
      · exact h3
      · exact g3 v hv
theorem forL_inv {α : Type} {tg : W → En → Sto → R En} {body : DS} {emb : α → W} {P : List α → En → Sto → Prop} (all : List α)
    (step : ∀ pre a post ρ s, all = pre ++ a :: post → P pre ρ s → ∃ ρ1 s1 ρ2 s2, tg (emb a) ρ s = .ok ρ1 s1 ∧ body ρ1 s1 = .ok (.nx, ρ2) s2 ∧ P (pre ++ [a]) ρ2 s2) :
    ∀ (post pre : List α) (ρ : En) (s : Sto), all = pre ++ post → P pre ρ s → ∃ ρ' s', forL tg body (post.map emb) ρ s = .ok (.nx, ρ') s' ∧ P all ρ' s'
  | [], pre, ρ, s, h, p => ⟨ρ, s, rfl, by rw [h, List.append_nil]; exact p⟩
  | a :: post, pre, ρ, s, h, p => by
    obtain ⟨ρ1, s1, ρ2, s2, h1, h2, h3⟩ := step pre a post ρ s h p
    obtain ⟨ρ', s', g1, g2⟩ := forL_inv all step post (pre ++ [a]) ρ2 s2 (by rw [h]; simp) h3
    refine ⟨ρ', s', ?_, g2⟩
    show (tg (emb a) ρ s).bind _ = _
    rw [h1, R.bind_ok, h2]
    exact g1
theorem cut_map {α β : Type} (f : α → β) (xs : List α) (lo hi : Option Int) : cut (xs.map f) lo hi = (cut xs lo hi).map f := by
  unfold cut
  simp [List.map_drop, List.map_take]
theorem cut_len {α : Type} (xs : List α) (lo hi : Option Int) : (cut xs lo hi).length ≤ xs.length := by
  unfold cut
  rw [List.length_take, List.length_drop]; omega
noncomputable def B_draw : DS :=
  (dSeq (dSet 2 (dLcF (dLc [4] (dIter (dSl (dVar 0) dNoP (dPart (dLit (.int 48))))) (tName 4) (fun _ st => .ok true st) (dCall gAbs (dCons (dCall gInt (dCons (dVar 4) dNil)) dNil)))))
    (dSeq (dSet 3 (dBin vAdd (dLit (.int 7919)) (dBin vMul (dLit (.int 104729)) (dVar 1))))
    (dSeq (dFor (dIter (dVar 2)) (tName 4)
    (dSet 3 (dBin vMod (dCall gInt (dCons (dBin vAdd (dBin vAdd (dBin vMul (dVar 3) (dLit (.int 48271))) (dBin vMod (dVar 4) (dLit (.int 2147483549)))) (dLit (.int 11))) dNil)) (dLit (.int 2147483647)))))
    (dRet (dNew (dCons (dRevN (dLcF (dLc [4] (dIter (dVar 2)) (tName 4) (fun ρ st => asB (dBin vGe (dVar 4) (dBin vPow (dLit (.int 10)) (dLit (.int 18))) ρ st)) (dVar 4)))) (dCons (dVar 3) dNil)))))))
noncomputable def F_draw : Fn := dDef 5 B_draw
theorem dSeq_nx {f g : DS} {ρ ρ' : En} {s s' : Sto} (h : f ρ s = .ok (.nx, ρ') s') : dSeq f g ρ s = g ρ' s' := by
  unfold dSeq; rw [h]; rfl
theorem dSeq_rt {f g : DS} {ρ ρ' : En} {s s' : Sto} {w : W} (h : f ρ s = .ok (.rt w, ρ') s') : dSeq f g ρ s = .ok (.rt w, ρ') s' := by
  unfold dSeq; rw [h]; rfl
theorem dDef_rt {n : Nat} {B : DS} {ws : List W} {s s' : Sto} {w : W} {ρ' : En} (h : B (ws.map some ++ List.replicate (n - ws.length) none) s = .ok (.rt w, ρ') s') : dDef n B ws s = .ok w s' := by
  unfold dDef; rw [h]; rfl
theorem F_draw_ok (ns : List Int) (k : Int) (hns : ns.length ≤ 63) (hk : k.natAbs < 2 ^ 64) : ∃ st, F_draw [.scr ns, .d (.int k)] [] = .ok (.ref 1) st ∧ DealOk st 1 0 := by
  have hcell : (dSet 2 (dLcF (dLc [4] (dIter (dSl (dVar 0) dNoP (dPart (dLit (.int 48))))) (tName 4) (fun _ st => .ok true st) (dCall gAbs (dCons (dCall gInt (dCons (dVar 4) dNil)) dNil))))) [some (.scr ns), some (.d (.int k)), none, none, none] [] =
      .ok (.nx, [some (.scr ns), some (.d (.int k)), some (.d (.list (((cut ns none (some 48)).map fun i => if i < 0 then -i else i).map .int))), none, none]) [] := by
    have e1 : lcL (tName 4) (fun _ st => .ok true st) (dCall gAbs (dCons (dCall gInt (dCons (dVar 4) dNil)) dNil)) [some (.scr ns), some (.d (.int k)), none, none, none] ((cut ns none (some 48)).map I) [] = .ok ((cut ns none (some 48)).map fun i => I (if i < 0 then -i else i)) [] :=
      lcL_map _ fun a _ => ⟨[some (.scr ns), some (.d (.int k)), none, none, some (I a)], by simp, by simp [I]⟩
    have e2 : ((cut ns none (some 48)).map fun i => I (if i < 0 then -i else i)) = (((cut ns none (some 48)).map fun i => if i < 0 then -i else i).map I) := by simp
    have hl := cut_len ns none (some 48)
    simp only [dSet, dLcF, dLc, dIter, dSl, dVar, dNoP, dPart, dLit, vSl, asD, seqD, wipeE, R.bind_ok, List.getElem?_cons_zero, cut_map, map_I, List.set_cons_succ, List.set_cons_zero]
    rw [e1, R.bind_ok, chk_ok (by rw [List.length_map, sizeLine_eq]; omega)]
    rw [R.bind_ok, e2, asInts_I]
    simp
  generalize hcs : (cut ns none (some 48)).map (fun i => if i < 0 then -i else i) = cs at hcell
  have hpos : ∀ x ∈ cs, 0 ≤ x := by
    intro x hx
    rw [← hcs] at hx
    obtain ⟨y, _, rfl⟩ := List.mem_map.mp hx
    split <;> omega
  have hlen : cs.length ≤ 63 := by
    rw [← hcs, List.length_map]
    have := cut_len ns none (some 48)
    omega
  have hset : (dSet 3 (dBin vAdd (dLit (.int 7919)) (dBin vMul (dLit (.int 104729)) (dVar 1)))) [some (.scr ns), some (.d (.int k)), some (.d (.list (cs.map .int))), none, none] [] = .ok (.nx, [some (.scr ns), some (.d (.int k)), some (.d (.list (cs.map .int))), some (I (7919 + 104729 * k)), none]) [] := by
    simp
    rw [vMulR hk]
    simp
  obtain ⟨ρ, s, hfor, x, y, hρ, hs⟩ := forL_inv (tg := tName 4) (emb := I) (body := dSet 3 (dBin vMod (dCall gInt (dCons (dBin vAdd (dBin vAdd (dBin vMul (dVar 3) (dLit (.int 48271))) (dBin vMod (dVar 4) (dLit (.int 2147483549)))) (dLit (.int 11))) dNil)) (dLit (.int 2147483647))))
    (P := fun pre ρ s => ∃ b x, ρ = [some (.scr ns), some (.d (.int k)), some (.d (.list (cs.map .int))), some (I b), x] ∧ s = []) cs
    (fun pre a post ρ s e p => by
      obtain ⟨b, x, rfl, rfl⟩ := p
      refine ⟨_, [], [some (.scr ns), some (.d (.int k)), some (.d (.list (cs.map .int))), some (I ((b * 48271 + a % 2147483549 + 11) % 2147483647)), some (I a)], [], rfl, ?_, _, _, rfl, rfl⟩
      · simp (disch := decide) [vMulR, vModP, List.getElem?_cons_zero]) cs [] _ [] rfl ⟨7919 + 104729 * k, none, rfl, rfl⟩
  subst hρ hs
  have hfor' : (dFor (dIter (dVar 2)) (tName 4) (dSet 3 (dBin vMod (dCall gInt (dCons (dBin vAdd (dBin vAdd (dBin vMul (dVar 3) (dLit (.int 48271))) (dBin vMod (dVar 4) (dLit (.int 2147483549)))) (dLit (.int 11))) dNil)) (dLit (.int 2147483647))))) [some (.scr ns), some (.d (.int k)), some (.d (.list (cs.map .int))), some (I (7919 + 104729 * k)), none] [] = .ok (.nx, [some (.scr ns), some (.d (.int k)), some (.d (.list (cs.map .int))), some (I x), y]) [] := by
    rw [← hfor]
    simp
  have hret : (dRet (dNew (dCons (dRevN (dLcF (dLc [4] (dIter (dVar 2)) (tName 4) (fun ρ st => asB (dBin vGe (dVar 4) (dBin vPow (dLit (.int 10)) (dLit (.int 18))) ρ st)) (dVar 4)))) (dCons (dVar 3) dNil)))) [some (.scr ns), some (.d (.int k)), some (.d (.list (cs.map .int))), some (I x), y] [] =
      .ok (.rt (.ref 1), [some (.scr ns), some (.d (.int k)), some (.d (.list (cs.map .int))), some (I x), y]) [.lst ((cs.filter fun c => decide ((10 : Int) ^ 18 ≤ c)).reverse.map I), .lst [.ref 0, I x]] := by
    have e1 : lcL (tName 4) (fun ρ st => asB (dBin vGe (dVar 4) (dBin vPow (dLit (.int 10)) (dLit (.int 18))) ρ st)) (dVar 4) [some (.scr ns), some (.d (.int k)), some (.d (.list (cs.map .int))), some (I x), none] (cs.map I) [] = .ok ((cs.filter fun c => decide ((10 : Int) ^ 18 ≤ c)).map I) [] :=
      lcL_filter _ fun a _ => ⟨[some (.scr ns), some (.d (.int k)), some (.d (.list (cs.map .int))), some (I x), some (I a)], by simp, by simp [vIntC, cPow, I, chk_ok], by simp⟩
    have hl : (cs.filter fun c => decide ((10 : Int) ^ 18 ≤ c)).length ≤ cs.length := List.length_filter_le _ _
    simp only [dRet, dNew, dCons, dNil, dRevN, dLcF, dLc, dIter, dVar, seqD, wipeE, R.bind_ok, List.getElem?_cons_zero, List.getElem?_cons_succ, map_I, List.set_cons_succ, List.set_cons_zero]
    rw [e1, R.bind_ok, chk_ok (by rw [List.length_map, sizeLine_eq]; omega), R.bind_ok, asInts_I]
    simp only [R.bind_ok, items, List.length_cons, List.length_nil, List.length_append, List.nil_append, map_I]
    rw [chk_ok (by rw [sizeLine_eq]; omega)]
    simp
  refine ⟨_, dDef_rt (by
    show B_draw [some (.scr ns), some (.d (.int k)), none, none, none] [] = _
    unfold B_draw
    rw [dSeq_nx hcell, dSeq_nx hset, dSeq_nx hfor', hret]), (cs.filter fun c => decide ((10 : Int) ^ 18 ≤ c)).reverse, x, by simp, by simp, by decide, fun c hc => hpos c (List.mem_filter.mp (List.mem_reverse.mp hc)).1, ?_⟩
  rw [List.length_reverse]
  exact Nat.le_trans (List.length_filter_le _ _) hlen
end Y

namespace Y
open PySem PySem.Spec PyProof.Rows L2
/-! ### data that stands as it is laid -/
theorem canLayAll_of {xs : List PyData} (h : ∀ x ∈ xs, x.canLay0 = true) : PyData.canLayAll0 xs = true := by
  induction xs with
  | nil => rfl
  | cons x xs ih =>
    rw [PyData.canLayAll0, h x List.mem_cons_self, ih fun y hy => h y (List.mem_cons_of_mem _ hy)]
    rfl
theorem depthAll_of {xs : List PyData} {k : Nat} (h : ∀ x ∈ xs, x.depth ≤ k) : PyData.depthAll xs ≤ k := by
  induction xs with
  | nil => exact Nat.zero_le _
  | cons x xs ih =>
    rw [PyData.depthAll]
    exact Nat.max_le.mpr ⟨h x List.mem_cons_self, ih fun y hy => h y (List.mem_cons_of_mem _ hy)⟩
/-- data that can be laid, at most k deep -/
def Dk (k : Nat) (d : PyData) : Prop := d.canLay0 = true ∧ d.depth ≤ k
theorem Dk.int {k : Nat} (i : Int) : Dk k (.int i) := ⟨rfl, Nat.zero_le _⟩
theorem Dk.bl {k : Nat} (i : Bool) : Dk k (.bool i) := ⟨rfl, Nat.zero_le _⟩
theorem Dk.non {k : Nat} : Dk k .none := ⟨rfl, Nat.zero_le _⟩
theorem Dk.str {k : Nat} {x : Str} (h : PyData.strOk x = true) : Dk k (.str x) := ⟨by rw [PyData.canLay0]; exact h, Nat.zero_le _⟩
theorem Dk.lst {k : Nat} {xs : List PyData} (h : ∀ x ∈ xs, Dk k x) : Dk (k + 1) (.list xs) :=
  ⟨by rw [PyData.canLay0]; exact canLayAll_of fun x hx => (h x hx).1, by rw [PyData.depth]; exact Nat.succ_le_succ (depthAll_of fun x hx => (h x hx).2)⟩
theorem Dk.tup {k : Nat} {xs : List PyData} (h : ∀ x ∈ xs, Dk k x) : Dk (k + 1) (.tuple xs) :=
  ⟨by rw [PyData.canLay0]; exact canLayAll_of fun x hx => (h x hx).1, by rw [PyData.depth]; exact Nat.succ_le_succ (depthAll_of fun x hx => (h x hx).2)⟩
theorem Dk.shaped {k : Nat} {d : PyData} (h : Dk k d) (hk : k ≤ 64) : SeqAt.shaped d = true := by
  unfold SeqAt.shaped
  rw [Bool.and_eq_true, decide_eq_true_eq]
  exact ⟨h.1, Nat.le_trans h.2 hk⟩
theorem eqv_refl {d : PyData} (h : SeqAt.shaped d = true) : PyData.eqv d d = true := SeqAt.eqv_refl d (SeqAt.canLay_of_shaped h)
theorem ne_same {d : PyData} {st : Sto} (h : SeqAt.shaped d = true) : vEq true (.d d) (.d d) st = .ok (.d (.bool false)) st := by
  have e := eqv_refl h
  cases d with
  | str x => simp [vEq]
  | _ => simp [vEq, h, e]
theorem eq_same {d : PyData} {st : Sto} (h : SeqAt.shaped d = true) : vEq false (.d d) (.d d) st = .ok (.d (.bool true)) st := by
  have e := eqv_refl h
  cases d with
  | str x => simp [vEq]
  | _ => simp [vEq, h, e]
theorem cut_from {α : Type} (xs : List α) {k : Nat} (h : k ≤ xs.length) : cut xs (some (k : Int)) none = xs.drop k := by
  unfold cut
  rw [HT.sIx_nat, HT.sIx_none, Nat.min_eq_left h, List.take_of_length_le (by rw [List.length_drop] <;> omega)]
theorem cut_to {α : Type} (xs : List α) {k : Nat} (h : k ≤ xs.length) : cut xs none (some (k : Int)) = xs.take k := by
  unfold cut
  rw [HT.sIx_nat, HT.sIx_none, Nat.min_eq_left h, List.drop_zero, Nat.sub_zero]
/-- repr of data -/
theorem repr_ok {d : PyData} {st : Sto} {k w : Nat} (h : Dk k d) (hk : k ≤ 64) (hs : d.showable = true) (hi : d.intsShort 13 = true) (hw : d.weight ≤ w) (h1 : w ≤ 2 ^ 20) : gRepr [.d d] st = .ok (.d (.str d.shown)) st := by
  have hl : PyData.layable0 d = true := by
    unfold PyData.layable0
    rw [Bool.and_eq_true, Bool.and_eq_true, decide_eq_true_eq, decide_eq_true_eq]
    exact ⟨⟨h.1, Nat.le_trans h.2 hk⟩, Nat.le_trans hw h1⟩
  have h2 := shown_le13 hl hi
  have h3 : d.shown.length ≤ sizeLine := by rw [sizeLine_eq]; omega
  have h4 : d.hasDict = false := PyData.hasDict_of_canLay d h.1
  have h5 : d.depth ≤ 64 := Nat.le_trans h.2 hk
  unfold gRepr
  simp only [asD]
  exact chk_ok ⟨hs, h4, h5, h3⟩
/-! ### one step after another -/
section
variable {ρ ρ' : En} {s s1 s2 s3 : Sto} {w u v : W} {ws us : List W} {f g k : En → Sto → R W} {fa ga : En → Sto → R (List W)} {t t' : En → Sto → R Bool} {b b' : Bool}
theorem dCons_ok (h1 : f ρ s = .ok w s1) (h2 : fa ρ s1 = .ok ws s2) : dCons f fa ρ s = .ok (w :: ws) s2 := by unfold dCons; rw [h1, R.bind_ok, h2]; rfl
theorem dCons1_ok (h1 : f ρ s = .ok w s1) : dCons f dNil ρ s = .ok [w] s1 := dCons_ok h1 rfl
theorem dTup_ok {ds : List PyData} (h1 : fa ρ s = .ok (ds.map W.d) s1) (h2 : ds.length ≤ sizeLine) : dTup fa ρ s = .ok (.d (.tuple ds)) s1 := by
  unfold dTup; rw [h1, R.bind_ok, allD_map]; exact chk_ok h2
theorem dLst_ok {ds : List PyData} (h1 : fa ρ s = .ok (ds.map W.d) s1) (h2 : ds.length ≤ sizeLine) : dLst fa ρ s = .ok (.d (.list ds)) s1 := by
  unfold dLst; rw [h1, R.bind_ok, allD_map]; exact chk_ok h2
theorem dCall_ok {G : List W → Sto → R W} {r : R W} (h1 : fa ρ s = .ok ws s1) (h2 : G ws s1 = r) : dCall G fa ρ s = r := by unfold dCall; rw [h1, R.bind_ok, h2]
theorem dBin_ok {G : W → W → Sto → R W} {r : R W} (h1 : f ρ s = .ok w s1) (h2 : g ρ s1 = .ok u s2) (h3 : G w u s2 = r) : dBin G f g ρ s = r := by unfold dBin; rw [h1, R.bind_ok, h2, R.bind_ok, h3]
theorem dUn_ok {G : W → Sto → R W} {r : R W} (h1 : f ρ s = .ok w s1) (h3 : G w s1 = r) : dUn G f ρ s = r := by unfold dUn; rw [h1, R.bind_ok, h3]
theorem asB_ok {r : R W} (h : r = .ok (.d (.bool b)) s) : asB r = .ok b s := by rw [h]; rfl
theorem dAnd_t (h1 : t ρ s = .ok true s1) (h2 : t' ρ s1 = .ok b s2) : dAnd t t' ρ s = .ok b s2 := by unfold dAnd; rw [h1, R.bind_ok, if_pos rfl, h2]
theorem dAnd_f (h1 : t ρ s = .ok false s1) : dAnd t t' ρ s = .ok false s1 := by unfold dAnd; rw [h1]; rfl
theorem dOr_f (h1 : t ρ s = .ok false s1) (h2 : t' ρ s1 = .ok b s2) : dOr t t' ρ s = .ok b s2 := by unfold dOr; rw [h1, R.bind_ok, if_neg (by simp), h2]
theorem dOr_t (h1 : t ρ s = .ok true s1) : dOr t t' ρ s = .ok true s1 := by unfold dOr; rw [h1]; rfl
theorem dNot_ok (h1 : t ρ s = .ok b s1) : dNot t ρ s = .ok (!b) s1 := by unfold dNot; rw [h1]; rfl
theorem dAndV_t {r : R W} (h1 : f ρ s = .ok (.d (.bool true)) s1) (h2 : g ρ s1 = r) : dAndV f g ρ s = r := by unfold dAndV; rw [asB_ok h1, R.bind_ok, if_pos rfl, h2]
theorem dAndV_f (h1 : f ρ s = .ok (.d (.bool false)) s1) : dAndV f g ρ s = .ok (.d (.bool false)) s1 := by unfold dAndV; rw [asB_ok h1]; rfl
theorem dIf_t {r : R W} (h1 : t ρ s = .ok true s1) (h2 : f ρ s1 = r) : dIf t f g ρ s = r := by unfold dIf; rw [h1, R.bind_ok, if_pos rfl, h2]
theorem dIf_f {r : R W} (h1 : t ρ s = .ok false s1) (h2 : g ρ s1 = r) : dIf t f g ρ s = r := by unfold dIf; rw [h1, R.bind_ok, if_neg (by simp), h2]
theorem dIfS_t {F G : DS} {r : R (Fl × En)} (h1 : t ρ s = .ok true s1) (h2 : F ρ s1 = r) : dIfS t F G ρ s = r := by unfold dIfS; rw [h1, R.bind_ok, if_pos rfl, h2]
theorem dIfS_f {F G : DS} {r : R (Fl × En)} (h1 : t ρ s = .ok false s1) (h2 : G ρ s1 = r) : dIfS t F G ρ s = r := by unfold dIfS; rw [h1, R.bind_ok, if_neg (by simp), h2]
theorem dSet_ok {i : Nat} (h1 : f ρ s = .ok w s1) : dSet i f ρ s = .ok (.nx, ρ.set i (some w)) s1 := by unfold dSet; rw [h1]; rfl
theorem dExpr_ok (h1 : f ρ s = .ok w s1) : dExpr f ρ s = .ok (.nx, ρ) s1 := by unfold dExpr; rw [h1]; rfl
theorem dRet_ok (h1 : f ρ s = .ok w s1) : dRet f ρ s = .ok (.rt w, ρ) s1 := by unfold dRet; rw [h1]; rfl
theorem dAsg_ok {G : W → En → Sto → R En} (h1 : f ρ s = .ok w s1) (h2 : G w ρ s1 = .ok ρ' s2) : dAsg f G ρ s = .ok (.nx, ρ') s2 := by unfold dAsg; rw [h1, R.bind_ok, h2]; rfl
theorem dFor_ok {G : W → En → Sto → R En} {B : DS} {r : R (Fl × En)} (h1 : fa ρ s = .ok ws s1) (h2 : forL G B ws ρ s1 = r) : dFor fa G B ρ s = r := by unfold dFor; rw [h1, R.bind_ok, h2]
theorem dMethS_ok {G : W → List W → Sto → R W} {r : R W} {x : Str} (h1 : f ρ s = .ok (.d (.str x)) s1) (h2 : fa ρ s1 = .ok ws s2) (h3 : G (.d (.str x)) ws s2 = r) : dMethS G f fa ρ s = r := by unfold dMethS; rw [h1, R.bind_ok]; show (fa ρ s1).bind _ = _; rw [h2, R.bind_ok, h3]
theorem dSl_ok {o p : En → Sto → R (Option Int)} {lo hi : Option Int} {r : R W} (h1 : f ρ s = .ok w s1) (h2 : o ρ s1 = .ok lo s2) (h3 : p ρ s2 = .ok hi s3) (h4 : vSl w lo hi s3 = r) : dSl f o p ρ s = r := by unfold dSl; rw [h1, R.bind_ok, h2, R.bind_ok, h3, R.bind_ok, h4]
theorem dPart_ok {i : Int} (h1 : f ρ s = .ok (.d (.int i)) s1) : dPart f ρ s = .ok (some i) s1 := by unfold dPart; rw [h1]; rfl
theorem dCal_ok {n : Nat} {F : Fn} {r : R W} (h1 : fa ρ s = .ok ws s1) (h2 : ws.length = n) (h3 : F ws s1 = r) : dCal n F fa ρ s = r := by unfold dCal; rw [h1, R.bind_ok, chk_ok h2, h3]
theorem dCalP_ok {n : Nat} {F : Fn} {x : PyData} (h1 : fa ρ s = .ok ws s1) (h2 : ws.length = n) (h3 : ws.all pureW = true) (h4 : F ws [] = .ok (.d x) s2) : dCalP n F fa ρ s = .ok (.d x) s1 := by unfold dCalP; rw [h1, R.bind_ok, chk_ok ⟨h2, h3⟩]; unfold callP; rw [h4]
theorem dLcF_ok {ds : List PyData} (h1 : fa ρ s = .ok (ds.map W.d) s1) : dLcF fa ρ s = .ok (.d (.list ds)) s1 := by unfold dLcF; rw [h1, R.bind_ok, allD_map]
theorem dLc_ok {vs : List Nat} {G : W → En → Sto → R En} {fe : En → Sto → R W} (h1 : fa ρ s = .ok ws s1) (h2 : lcL G t fe (wipeE ρ vs) ws s1 = .ok us s2) (h3 : us.length ≤ sizeLine) : dLc vs fa G t fe ρ s = .ok us s2 := by unfold dLc; rw [h1, R.bind_ok, h2, R.bind_ok, chk_ok h3]
theorem dIter_ok {x : PyData} {ds : List PyData} (h1 : f ρ s = .ok (.d x) s1) (h2 : seqD x = some ds) : dIter f ρ s = .ok (ds.map W.d) s1 := by unfold dIter; rw [h1, R.bind_ok]; dsimp only; rw [h2]
theorem dRng1_ok {j : Nat} (h1 : fa ρ s = .ok [.d (.int j)] s1) (h2 : j < 2 ^ 62) : dRng1 fa ρ s = .ok ((List.range j).map fun i : Nat => W.d (.int i)) s1 := by
  unfold dRng1; rw [h1, R.bind_ok]
  show chk _ _ = _
  rw [chk_ok ⟨by omega, by omega⟩]
  simp [rngW]
theorem dDef_of {n : Nat} {B : DS} (h : B (ws.map some ++ List.replicate (n - ws.length) none) s = .ok (.rt w, ρ') s1) : dDef n B ws s = .ok w s1 := dDef_rt h
theorem dVar_ok {i : Nat} (h : ρ[i]? = some (some w)) : dVar i ρ s = .ok w s := by unfold dVar; rw [h]
theorem map_d {α : Type} (g : α → PyData) (L : List α) : (L.map g).map W.d = L.map fun t => W.d (g t) := by rw [List.map_map]; rfl
theorem vIx_list {ds : List PyData} {j : Nat} {x : PyData} (h : ds[j]? = some x) : vIx (.d (.list ds)) (I j) s = .ok (.d x) s := by
  have e : atI (ds.map W.d) (j : Int) = some (W.d x) := atI_nat (by rw [List.getElem?_map, h]; rfl)
  simp [vIx, e]
theorem vIx_tup {ds : List PyData} {j : Nat} {x : PyData} (h : ds[j]? = some x) : vIx (.d (.tuple ds)) (I j) s = .ok (.d x) s := by
  have e : atI (ds.map W.d) (j : Int) = some (W.d x) := atI_nat (by rw [List.getElem?_map, h]; rfl)
  simp [vIx, e]
end
end Y

namespace Y
open PySem PySem.Spec PyProof.Rows L2
/-! ### sorted -/
def leI (a b : Int) : Bool := decide (a ≤ b)
noncomputable def srtI (ns : List Int) : List Int := ns.mergeSort leI
theorem srtI_perm (ns : List Int) : (srtI ns).Perm ns := List.mergeSort_perm ns leI
theorem srtI_pw (ns : List Int) : (srtI ns).Pairwise (· ≤ ·) := by
  have h := List.pairwise_mergeSort (le := leI) (fun a b c h1 h2 => by simp only [leI, decide_eq_true_eq] at *; omega) (fun a b => by simp only [leI, Bool.or_eq_true, decide_eq_true_eq]; omega) ns
  exact h.imp fun {a b} q => by simpa [leI] using q
theorem srtI_uniq {ns ms : List Int} (h : ms.Perm ns) (p : ms.Pairwise (· ≤ ·)) : ms = srtI ns :=
  List.Perm.eq_of_pairwise (fun _ _ _ _ a b => Int.le_antisymm a b) p (srtI_pw ns) (h.trans (srtI_perm ns).symm)
abbrev BB : Int := 1048576
abbrev P2 := Int × Int
def cd (p : P2) : Int := p.1 * BB + p.2
def leP (a b : P2) : Bool := decide (cd a ≤ cd b)
noncomputable def srtP (ps : List P2) : List P2 := ps.mergeSort leP
theorem srtP_perm (ps : List P2) : (srtP ps).Perm ps := List.mergeSort_perm ps leP
theorem srtP_pw (ps : List P2) : (srtP ps).Pairwise (fun a b => cd a ≤ cd b) := by
  have h := List.pairwise_mergeSort (le := leP) (fun a b c h1 h2 => by simp only [leP, decide_eq_true_eq] at *; omega) (fun a b => by simp only [leP, Bool.or_eq_true, decide_eq_true_eq]; omega) ps
  exact h.imp fun {a b} q => by simpa [leP] using q
/-- numbers in bounds -/
def InB (p : P2) : Prop := (0 ≤ p.1 ∧ p.1 < BB) ∧ 0 ≤ p.2 ∧ p.2 < BB
theorem cd_inj {a b : P2} (ha : InB a) (hb : InB b) (h : cd a = cd b) : a = b := by
  obtain ⟨a1, a2⟩ := a
  obtain ⟨b1, b2⟩ := b
  simp only [InB, cd, BB] at *
  have : a1 = b1 := by omega
  subst this
  have : a2 = b2 := by omega
  rw [this]
theorem srtP_uniq {ns ms : List P2} (hb : ∀ p ∈ ns, InB p) (h : ms.Perm ns) (p : ms.Pairwise (fun a b => cd a ≤ cd b)) : ms = srtP ns :=
  List.Perm.eq_of_pairwise (fun a b ha hb' h1 h2 => cd_inj (hb a (h.mem_iff.mp ha)) (hb b ((srtP_perm ns).mem_iff.mp hb')) (Int.le_antisymm h1 h2)) p (srtP_pw ns) (h.trans (srtP_perm ns).symm)
theorem srtP_congr {ns ms : List P2} (hb : ∀ p ∈ ns, InB p) (h : ms.Perm ns) : srtP ms = srtP ns := srtP_uniq hb ((srtP_perm ms).trans h) (srtP_pw ms)
/-- once each -/
def dd {α : Type} [DecidableEq α] : List α → List α
  | [] => []
  | a :: l => if a ∈ dd l then dd l else a :: dd l
theorem mem_dd {α : Type} [DecidableEq α] (l : List α) (x : α) : x ∈ dd l ↔ x ∈ l := by
  induction l with
  | nil => simp [dd]
  | cons a l ih =>
    unfold dd
    split
    · rename_i h
      rw [ih, List.mem_cons]
      constructor
      · exact .inr
      · rintro (rfl | h2)
        · exact ih.mp h
        · exact h2
    · rw [List.mem_cons, List.mem_cons, ih]
theorem nodup_dd {α : Type} [DecidableEq α] (l : List α) : (dd l).Nodup := by
  induction l with
  | nil => simp [dd]
  | cons a l ih =>
    unfold dd
    split
    · exact ih
    · rename_i h
      exact List.nodup_cons.mpr ⟨h, ih⟩
noncomputable def srtS (ps : List P2) : List P2 := srtP (dd ps)
theorem srtS_uniq {ns ms : List P2} (hb : ∀ p ∈ ns, InB p) (hn : ms.Nodup) (hm : ∀ p, p ∈ ms ↔ p ∈ ns) (p : ms.Pairwise (fun a b => cd a ≤ cd b)) : ms = srtS ns :=
  srtP_uniq (fun q hq => hb q ((mem_dd ns q).mp hq)) ((List.perm_ext_iff_of_nodup hn (nodup_dd ns)).mpr fun q => (hm q).trans (mem_dd ns q).symm) p
def pD (p : P2) : PyData := .tuple [.int p.1, .int p.2]
def asPairs : List PyData → Option (List P2)
  | [] => some []
  | .tuple [.int x, .int y] :: r => (asPairs r).map ((x, y) :: ·)
  | _ :: _ => none
theorem asPairs_eq : ∀ {ds : List PyData} {ps : List P2}, asPairs ds = some ps → ds = ps.map pD := by
  intro ds
  induction ds with
  | nil => intro ps h; cases h; rfl
  | cons d ds ih =>
    intro ps h
    unfold asPairs at h
    split at h
    · rename_i e
      cases e
    · rename_i e
      cases e
      simp only [Option.map_eq_some_iff] at h
      obtain ⟨es, h1, rfl⟩ := h
      rw [ih h1]; rfl
    · cases h
theorem asPairs_map (ps : List P2) : asPairs (ps.map pD) = some ps := by
  induction ps with
  | nil => rfl
  | cons p ps ih => simp [asPairs, pD, ih]
instance (p : P2) : Decidable (InB p) := by unfold InB; infer_instance
/-- sorted(x): ints, or pairs of them -/
noncomputable def gSorted : List W → Sto → R W
  | [w], st => match asD st w with
    | some (.list ds) => match asInts ds with
      | some ns => .ok (.d (.list ((srtI ns).map .int))) st
      | none => match asPairs ds with
        | some ps => chk (ps.length < 64 ∧ ∀ p ∈ ps, InB p) (.ok (.d (.list ((srtP ps).map pD))) st)
        | none => .bad
    | _ => .bad
  | _, _ => .bad
section
variable {X : Cx} {C : Ct}
open Classical in
noncomputable def kf (K : PySem.W.Frag) (H : Hp) (v : V) : P2 := if h : ∃ p : P2, TupI K H v [p.1, p.2] then Classical.choose h else (0, 0)
theorem kf_of {K : PySem.W.Frag} {H : Hp} {v : V} {p : P2} (h : TupI K H v [p.1, p.2]) : TupI K H v [(kf K H v).1, (kf K H v).2] := by
  unfold kf
  rw [dif_pos ⟨p, h⟩]
  exact Classical.choose_spec (p := fun p : P2 => TupI K H v [p.1, p.2]) ⟨p, h⟩
theorem sqT_det {pins : List (Addr × Obj)} {σ : L2.St} {H : Hp} {s : Shared} (I : Inv X pins σ H s) {t : Addr} {ns ms : List Int} (h1 : SqT X.K H t (ns.map V.int)) (h2 : SqT X.K H t (ms.map V.int)) : ns = ms := by
  have a := (tupI_raw I h1).ints
  have b := (tupI_raw I h2).ints
  exact a.symm.trans b
theorem tupI_det {pins : List (Addr × Obj)} {σ : L2.St} {H : Hp} {s : Shared} (I : Inv X pins σ H s) {v : V} {ns ms : List Int} (h1 : TupI X.K H v ns) (h2 : TupI X.K H v ms) : ns = ms := by
  obtain ⟨t, e1, a⟩ := h1
  obtain ⟨u, e2, b⟩ := h2
  subst e1
  cases e2
  exact sqT_det I a b
theorem kf_eq {pins : List (Addr × Obj)} {σ : L2.St} {H : Hp} {s : Shared} (I : Inv X pins σ H s) {v : V} {p : P2} (h : TupI X.K H v [p.1, p.2]) : kf X.K H v = p := by
  have e := tupI_det I (kf_of h) h
  cases e' : kf X.K H v with
  | mk a b =>
    rw [e'] at e
    obtain ⟨c, d⟩ := p
    simp only [List.cons.injEq, and_true] at e
    rw [e.1, e.2]
/-- pairs of ints, as they stand -/
theorem PdAll.pairs {K : PySem.W.Frag} {Z : Addr → Prop} {H : Hp} : ∀ {ps : List P2} {vs : List V}, PdAll K Z H vs (ps.map pD) → Paired (fun v p => TupI K H v [p.1, p.2]) vs ps
  | [], _, h => by cases h; exact .nil
  | p :: ps, _, h => by
    cases h with
    | cons a b =>
      refine .cons ?_ b.pairs
      cases a with
      | tup h1 h2 =>
        cases h2 with
        | cons i j =>
          cases j with
          | cons k l =>
            cases i; cases k; cases l
            exact ⟨_, rfl, h1⟩
theorem pdAll_of_pairs {K : PySem.W.Frag} {Z : Addr → Prop} {H : Hp} : ∀ {vs : List V} {ps : List P2}, Paired (fun v p => TupI K H v [p.1, p.2]) vs ps → PdAll K Z H vs (ps.map pD)
  | _, _, .nil => .nil
  | _, _, .cons ⟨t, e, h⟩ r => by
    subst e
    exact .cons (.tup h (.cons (.int _) (.cons (.int _) .nil))) (pdAll_of_pairs r)
theorem paired_kf {pins : List (Addr × Obj)} {σ : L2.St} {H : Hp} {s : Shared} (I : Inv X pins σ H s) : ∀ {vs : List V} {ps : List P2}, Paired (fun v p => TupI X.K H v [p.1, p.2]) vs ps → vs.map (kf X.K H) = ps
  | _, _, .nil => rfl
  | _, _, .cons a r => by rw [List.map_cons, kf_eq I a, paired_kf I r]
theorem paired_of_mem {K : PySem.W.Frag} {H : Hp} : ∀ {vs : List V}, (∀ v ∈ vs, TupI K H v [(kf K H v).1, (kf K H v).2]) → Paired (fun v p => TupI K H v [p.1, p.2]) vs (vs.map (kf K H))
  | [], _ => .nil
  | v :: vs, h => .cons (h v List.mem_cons_self) (paired_of_mem fun u hu => h u (List.mem_cons_of_mem _ hu))
theorem paired_mem {α β : Type} {F : α → β → Prop} : ∀ {l₁ : List α} {l₂ : List β}, Paired F l₁ l₂ → ∀ a ∈ l₁, ∃ b ∈ l₂, F a b
  | _, _, .nil, _, h => nomatch h
  | _, _, .cons r t, a, h => by
    rcases List.mem_cons.mp h with rfl | h
    · exact ⟨_, List.mem_cons_self, r⟩
    · obtain ⟨b, h1, h2⟩ := paired_mem t a h
      exact ⟨b, List.mem_cons_of_mem _ h1, h2⟩
theorem code2 (p : P2) : TS.code BB [p.1, p.2] = cd p := by
  show p.1 * BB ^ 1 + (p.2 * BB ^ 0 + 0) = _
  have e1 : (BB : Int) ^ 1 = BB := by decide
  have e0 : (BB : Int) ^ 0 = 1 := by decide
  rw [e1, e0, Int.mul_one, Int.add_zero]
  rfl
theorem bd2 {p : P2} (h : InB p) : TS.Bd BB [p.1, p.2] := by
  unfold TS.Bd
  simp [InB] at *
  omega
theorem cSorted (hK : C.K = X.K) : CallR X (.builtin "sorted") (rdC C gSorted) := by
  obtain ⟨K, mg, E⟩ := C
  obtain rfl : K = X.K := hK
  intro pins s σ H xs us Q I r h
  obtain ⟨Z0, θ, st, ws, S, rw', p⟩ := h
  unfold gSorted at p
  split at p
  · cases rw' with
    | cons a b =>
      cases b
      split at p
      · rename_i ds hd
        obtain ⟨p', vs, rfl, hs, r'⟩ := asD_list S a hd
        split at p
        · rename_i ns hn
          have := asInts_eq hn
          subst this
          have := r'.intsEq
          subst this
          exact cr_sortedI pins s σ H _ us Q I r ⟨_, ns, rfl, hs, fun ns' l h1 h2 hl => by
            rw [srtI_uniq h1 h2]
            exact p.newLst S hl (pdAll_ints _)⟩
        · split at p
          · rename_i ps hp
            obtain ⟨⟨h64, hb⟩, p⟩ := p.chk
            have := asPairs_eq hp
            subst this
            have pr := r'.pairs
            have ek := paired_kf I pr
            have hx : ∀ x ∈ vs, TupI X.K H x [(kf X.K H x).1, (kf X.K H x).2] ∧ InB (kf X.K H x) := fun x hx => by
              obtain ⟨q, hq, hf⟩ := paired_mem pr x hx
              have e := kf_eq I hf
              rw [e]
              exact ⟨hf, hb q hq⟩
            refine cr_sortT (d := 2) (B := BB) (by decide) pins s σ H _ us Q I r ⟨_, vs, rfl, hs, by rw [Paired.length pr]; exact h64, fun x m => ⟨_, (hx x m).1, rfl, bd2 (hx x m).2⟩, fun ys l h1 h2 hl => ?_⟩
            have hy : ∀ y ∈ ys, TupI X.K H y [(kf X.K H y).1, (kf X.K H y).2] := fun y m => (hx y (h1.mem_iff.mp m)).1
            have e2 : ys.map (kf X.K H) = srtP ps := by
              refine srtP_uniq hb (by rw [← ek]; exact h1.map _) ?_
              rw [List.pairwise_map]
              refine List.Pairwise.imp_of_mem (fun {u v} hu hv q => ?_) h2
              have := q _ _ (hy u hu) (hy v hv)
              rw [code2, code2] at this
              exact this
            have pa := paired_of_mem hy
            rw [e2] at pa
            exact p.newLst S hl (pdAll_of_pairs pa)
          · exact p.elim
      · exact p.elim
  · exact p.elim
end
end Y

namespace Y
open PySem PySem.Spec PyProof.Rows L2
/-! ### sorted(set(xs)), pairs -/
theorem paired_ks {K : PySem.W.Frag} {H : Hp} : ∀ {vs : List V} {ps : List P2}, Paired (fun v p => TupI K H v [p.1, p.2]) vs ps → ∃ ks : List (Addr × List Int), vs = ks.map (fun q => V.ref q.1) ∧ ks.map (·.2) = ps.map (fun p => [p.1, p.2]) ∧ ∀ q ∈ ks, SqT K H q.1 (q.2.map V.int)
  | _, _, .nil => ⟨[], rfl, rfl, fun _ h => nomatch h⟩
  | _, _, .cons (b := p) ⟨t, e, h⟩ r => by
    obtain ⟨ks, h1, h2, h3⟩ := paired_ks r
    exact ⟨(t, [p.1, p.2]) :: ks, by rw [h1, e]; rfl, by rw [List.map_cons, h2]; rfl, fun q hq => by
      rcases List.mem_cons.mp hq with rfl | hq
      · exact h
      · exact h3 q hq⟩
def toP : List Int → P2
  | [x, y] => (x, y)
  | _ => (0, 0)
noncomputable def gSortedSet : List W → Sto → R W
  | [w], st => match asD st w with
    | some (.list ds) => match asPairs ds with
        | some ps => chk (ps.length < 64 ∧ ∀ p ∈ ps, InB p) (.ok (.d (.list ((srtS ps).map pD))) st)
        | none => .bad
    | _ => .bad
  | _, _ => .bad
section
variable {X : Cx} {C : Ct}
theorem y_sortedSet {a : Expr} {fa : En → Sto → R W} {p p2 q pos : Pos} (hK : C.K = X.K) (hc : X.calm = true) (hu : X.A.units + 65 < cLine) (hg : Gl X "sorted") (hm : X.mg "sorted" = none) (hg2 : Gl X "set") (hm2 : X.mg "set" = none) (ha : PE X a (rdE C fa))
    (he : starEach [a] X.env = (false, eval a X.env) :: starEach [] X.env := by rfl) : PE X (.Call (.Name "sorted" p) [.Call (.Name "set" p2) [a] [] q] [] pos) (rdE C (dCall gSortedSet (dCons fa dNil))) := by
  obtain ⟨K, mg, E⟩ := C
  obtain rfl : K = X.K := hK
  refine PE.imp (pe_callB (cr_sortedT hc) hg hm (by decide +kernel) (pa_cons (pe_callTy (cr_setOfT hc (by omega)) hg2 hm2 (by decide +kernel) (pa_cons ha pa_nil he) (by decide) (by decide) he) pa_nil)) fun σ H Q h => ?_
  obtain ⟨Z0, θ, ρ, st, S, N, h⟩ := h
  refine ⟨Z0, θ, ρ, st, S, N, ?_⟩
  unfold dCall at h
  rw [show dCons fa dNil ρ st = (fa ρ st).bind fun w s => (dNil ρ s).bind fun ws s => .ok (w :: ws) s from rfl, R.bind_assoc] at h
  refine Post.bind h fun w st1 θ1 H1 v _ e1 S1 w1 p1 => ?_
  have p1 : Post ⟨X.K, mg, E⟩ Z0 θ1 H1 (relW X.K Z0) (gSortedSet [w] st1) Q := p1
  unfold gSortedSet at p1
  dsimp only at p1
  split at p1
  · rename_i ds hd
    obtain ⟨l, vs, rfl, hs, r'⟩ := asD_list S1 w1 hd
    split at p1
    · rename_i ps hp
      obtain ⟨⟨h64, hb⟩, p1⟩ := p1.chk
      have := asPairs_eq hp
      subst this
      have pr := r'.pairs
      obtain ⟨ks, k1, k2, k3⟩ := paired_ks pr
      have kl : ks.length = ps.length := by have := congrArg List.length k2; simpa using this
      have kp : ∀ q ∈ ks, ∃ p ∈ ps, q.2 = [p.1, p.2] := fun q hq => by
        have hm : q.2 ∈ ks.map (·.2) := List.mem_map.mpr ⟨q, hq, rfl⟩
        rw [k2] at hm
        obtain ⟨p, hp1, hp2⟩ := List.mem_map.mp hm
        exact ⟨p, hp1, hp2.symm⟩
      refine ⟨l, ks, rfl, by rw [← k1]; exact hs, k3, by omega, fun a L ha hL1 hL2 => ?_⟩
      have S2 := S1.alloc (o := SetTO X.prog X.w a L) ha
      refine ⟨a, L, 2, BB, rfl, upd_same, fun q hq => (Ext.alloc (θ := θ1) ha).sqT (k3 q (hL1 q hq)), by decide, fun q hq => ?_, fun L' y g1 g2 g3 g4 hy => ?_⟩
      · obtain ⟨p, hp1, hp2⟩ := kp q (hL1 q hq)
        rw [hp2]
        exact ⟨rfl, bd2 (hb p hp1)⟩
      · have mL : ∀ q ∈ L', ∃ p ∈ ps, q.2 = [p.1, p.2] := fun q hq => kp q (hL1 q (g1.mem_iff.mp hq))
        have back : ∀ q ∈ L', [(toP q.2).1, (toP q.2).2] = q.2 := fun q hq => by
          obtain ⟨p, _, e⟩ := mL q hq
          rw [e]; rfl
        have eq : L'.map (fun q => toP q.2) = srtS ps := by
          refine srtS_uniq hb ?_ (fun p => ?_) ?_
          · have : L'.map (·.2) = (L'.map (fun q => toP q.2)).map fun p => [p.1, p.2] := by
              rw [List.map_map]
              exact List.map_congr_left fun q hq => (back q hq).symm
            rw [this] at g2
            exact List.Pairwise.imp (fun {a b} h z => h (by rw [z])) (List.pairwise_map.mp g2)
          · rw [List.mem_map]
            constructor
            · rintro ⟨q, hq, rfl⟩
              obtain ⟨p, hp1, e⟩ := mL q hq
              rw [e]; exact hp1
            · intro hp1
              have : [p.1, p.2] ∈ ks.map (·.2) := by rw [k2]; exact List.mem_map.mpr ⟨p, hp1, rfl⟩
              obtain ⟨k, hk1, hk2⟩ := List.mem_map.mp this
              have := hL2 k hk1
              obtain ⟨q, hq1, hq2⟩ := List.mem_map.mp this
              refine ⟨q, g1.mem_iff.mpr hq1, ?_⟩
              rw [hq2, hk2]; rfl
          · rw [List.pairwise_map]
            refine List.Pairwise.imp_of_mem (fun {u v} hu hv q => ?_) g4
            rw [← back u hu, ← back v hv, code2, code2] at q
            exact q
        have pa : PdAll X.K (Zs Z0 θ1) (upd H1 a (SetTO X.prog X.w a L)) (L'.map fun q => V.ref q.1) ((srtS ps).map pD) := by
          rw [← eq]
          refine pdAll_of_pairs ?_
          have : ∀ M : List (Addr × List Int), (∀ q ∈ M, q ∈ L') → Paired (fun v p => TupI X.K (upd H1 a (SetTO X.prog X.w a L)) v [p.1, p.2]) (M.map fun q => V.ref q.1) (M.map fun q => toP q.2) := by
            intro M
            induction M with
            | nil => intro _; exact .nil
            | cons q M ih =>
              intro hM
              refine .cons ?_ (ih fun r hr => hM r (List.mem_cons_of_mem _ hr))
              have hq := hM q List.mem_cons_self
              rw [back q hq]
              exact ⟨q.1, rfl, (Ext.alloc (θ := θ1) ha).sqT (k3 q (hL1 q (g1.mem_iff.mp hq)))⟩
          exact this L' fun _ h => h
        exact (Post.from (Ext.alloc ha) p1).newLst S2 hy pa
    · exact p1.elim
  · exact p1.elim
/-- len(set(x)), x a tuple of ints -/
def gLenSet : List W → Sto → R W
  | [w], st => match asD st w with
    | some (.tuple ds) => match asInts ds with
        | some ns => chk (ns.length ≤ 1000) (.ok (.d (.int ((dd ns).length : Nat))) st)
        | none => .bad
    | _ => .bad
  | _, _ => .bad
theorem setR_len {w : World} {h : Heap} {a : Addr} {ns : List Int} {c : Nat} (z : SetR w h a (fun j => decide (j ∈ ns)) c) : c = (dd ns).length := by
  obtain ⟨o, es, ep, t, _, _, _, _, h1, h2, _, _, h3, _⟩ := z
  have hp : (es.toList.map keyOf).Perm (dd ns) := (List.perm_ext_iff_of_nodup h1 (nodup_dd ns)).mpr fun k => by
    rw [← h2 k, decide_eq_true_eq, mem_dd]
  have := hp.length_eq
  rw [List.length_map, Array.length_toList, h3] at this
  exact this
theorem y_lenSet {a : Expr} {fa : En → Sto → R W} {p p2 q pos : Pos} (hK : C.K = X.K) (hc : X.calm = true) (hg : Gl X "len") (hm : X.mg "len" = none) (hg2 : Gl X "set") (hm2 : X.mg "set" = none) (ha : PE X a (rdE C fa))
    (he : starEach [a] X.env = (false, eval a X.env) :: starEach [] X.env := by rfl) : PE X (.Call (.Name "len" p) [.Call (.Name "set" p2) [a] [] q] [] pos) (rdE C (dCall gLenSet (dCons fa dNil))) := by
  obtain ⟨K, mg, E⟩ := C
  obtain rfl : K = X.K := hK
  refine ⟨fun pins s σ H Q I h => ?_⟩
  obtain ⟨Z0, θ, ρ, st, S, N, h⟩ := h
  unfold dCall at h
  rw [show dCons fa dNil ρ st = (fa ρ st).bind fun w s => (dNil ρ s).bind fun ws s => .ok (w :: ws) s from rfl, R.bind_assoc] at h
  have run := ha.run pins s σ H (fun v H1 => ∃ (l : Addr) (ns : List Int), v = V.ref l ∧ SqT X.K H1 l (ns.map V.int) ∧ ns.length ≤ 1000 ∧ Q (.int ((dd ns).length : Nat)) H1) I ⟨Z0, θ, ρ, st, S, N, Post.bind h fun w st1 θ1 H1 v _ e1 S1 w1 p1 => by
    have p1 : Post ⟨X.K, mg, E⟩ Z0 θ1 H1 (relW X.K Z0) (gLenSet [w] st1) Q := p1
    unfold gLenSet at p1
    dsimp only at p1
    split at p1
    · rename_i ds hd
      obtain ⟨l, vs, rfl, hs, r'⟩ := asD_tup w1 hd
      split at p1
      · rename_i ns hn
        have := asInts_eq hn
        subst this
        have := r'.intsEq
        subst this
        exact ⟨l, ns, rfl, hs, p1.chk.1, p1.chk.2.now S1 (show Pd _ _ _ _ _ from .int _)⟩
      · exact p1.elim
    · exact p1.elim⟩
  refine Call_ (ld_blt I hg hm PySem.boot_len (PyProof.Rows.callWith_builtin1 (PyProof.Rows.args_cons (Call_ (ld_blt I hg2 hm2 PyProof.Rows.boot_set (PyProof.Rows.callWith_type1 (PyProof.Rows.args_cons (thn run fun v s1 z => ?_) he) he rfl))) rfl) rfl rfl))
  obtain ⟨x, H1, I1, r1, l, ns, rfl, hq, hl, q1⟩ := z
  cases r1
  obtain ⟨its, rv, pl, hz⟩ := I1.tuple hq
  refine PyProof.Rows.args_nil (call_set_tupI ns (I1.ok.hd hc) pl (by simpa using rv.ints) (by unfold scanBound; omega) fun h' tk c hR hcl hk => PyProof.Rows.args_nil ?_)
  have hcn := setR_len hR
  obtain ⟨o, es, ep, t, g1, g2, g3, _, _, _, g4, g5, g6, _⟩ := hR
  have I2 : Inv X pins σ H1 { s1 with heap := h', toks := tk } := I1.kept hk
  refine call_len_set g1 g2 g3 g5 (by rw [g6, hcn]; have := hcn ▸ hcl; omega) ⟨.int ((dd ns).length : Nat), H1, I2.tok _, ⟨_, by rw [g6, hcn]⟩, q1⟩
end
end Y

namespace Y
open PySem PySem.Spec PyProof.Rows L2
/-! ### min(t), max(t) of a tuple of ints; list(range(n)); t * n -/
def gMinT : List W → Sto → R W
  | [.d (.tuple ds)], st => match asInts ds with
    | some (n :: ns) => .ok (.d (.int (ns.foldl min n))) st
    | _ => .bad
  | _, _ => .bad
def gMaxT : List W → Sto → R W
  | [.d (.tuple ds)], st => match asInts ds with
    | some (n :: ns) => .ok (.d (.int (ns.foldl max n))) st
    | _ => .bad
  | _, _ => .bad
section
variable {X : Cx} {C : Ct}
theorem ints_reads {h : Heap} : ∀ {ns : List Int} {its : List Value}, Vals (ns.map V.int) its → ReadsAll h its (ns.map .int) []
  | [], _, .nil => .nil
  | n :: ns, _, .cons ⟨t, e⟩ r => by
    subst e
    exact .cons (.int n t) (ints_reads r)
theorem ints_alike (ns : List Int) : PySem.W.AlikeAll (ns.map .int) := by
  refine ⟨fun x hx y hy => ?_, fun x hx => ?_⟩
  · obtain ⟨a, _, rfl⟩ := List.mem_map.mp hx
    obtain ⟨b, _, rfl⟩ := List.mem_map.mp hy
    rfl
  · obtain ⟨a, _, rfl⟩ := List.mem_map.mp hx
    intro z; cases z
theorem cMinT (hK : C.K = X.K) (hc : X.calm = true) (hu : X.A.units + 64 < cLine) : CallR X (.builtin "min") (rdC C gMinT) := by
  obtain ⟨K, mg, E⟩ := C
  obtain rfl : K = X.K := hK
  intro pins s σ H xs us Q I r h
  obtain ⟨Z0, θ, st, ws, S, rw', p⟩ := h
  unfold gMinT at p
  split at p
  · cases rw' with
    | cons a b =>
      cases b
      split at p
      · rename_i n ns hn
        have := asInts_eq hn
        subst this
        cases a with
        | tup h1 h2 =>
          have := h2.intsEq
          subst this
          obtain ⟨its, rv, pl, hz⟩ := I.tuple h1
          rw [Vals.ref1 r]
          have hd := depth_ints (n :: ns)
          refine PySem.W.min_tuple_data (x := .int n) (xs := ns.map .int) (I.ok.hd hc) pl (by simpa using ints_reads rv) (ints_alike (n :: ns)) (by rw [List.map_cons] at hd; omega) fun i v h' tk bs _ hr hk => ?_
          rw [PySem.W.minD_ints] at hr
          cases hr
          exact ⟨.int _, H, I.kept hk, ⟨_, rfl⟩, p.now S (show Pd _ _ _ _ _ from .int _)⟩
      · exact p.elim
  · exact p.elim
theorem cMaxT (hK : C.K = X.K) (hc : X.calm = true) (hu : X.A.units + 64 < cLine) : CallR X (.builtin "max") (rdC C gMaxT) := by
  obtain ⟨K, mg, E⟩ := C
  obtain rfl : K = X.K := hK
  intro pins s σ H xs us Q I r h
  obtain ⟨Z0, θ, st, ws, S, rw', p⟩ := h
  unfold gMaxT at p
  split at p
  · cases rw' with
    | cons a b =>
      cases b
      split at p
      · rename_i n ns hn
        have := asInts_eq hn
        subst this
        cases a with
        | tup h1 h2 =>
          have := h2.intsEq
          subst this
          obtain ⟨its, rv, pl, hz⟩ := I.tuple h1
          rw [Vals.ref1 r]
          have hd := depth_ints (n :: ns)
          refine PySem.W.max_tuple_data (x := .int n) (xs := ns.map .int) (I.ok.hd hc) pl (by simpa using ints_reads rv) (ints_alike (n :: ns)) (by rw [List.map_cons] at hd; omega) fun i v h' tk bs _ hr hk => ?_
          rw [PySem.W.maxD_ints] at hr
          cases hr
          exact ⟨.int _, H, I.kept hk, ⟨_, rfl⟩, p.now S (show Pd _ _ _ _ _ from .int _)⟩
      · exact p.elim
  · exact p.elim
/-- list(range(e)), a list that is not to change -/
def dListRng (fe : En → Sto → R W) : En → Sto → R W := fun ρ st => (fe ρ st).bind fun w s => match w with
  | .d (.int n) => chk (0 ≤ n ∧ n ≤ 16777216) (.ok (.d (.list ((List.range n.toNat).map fun i : Nat => .int i))) s)
  | _ => .bad
theorem pdAll_rg {K : PySem.W.Frag} {Z : Addr → Prop} {H : Hp} (n : Nat) : ∀ l : List Nat, PdAll K Z H (l.map fun i => V.int (0 + (i : Nat))) (l.map fun i : Nat => PyData.int i)
  | [] => .nil
  | i :: l => .cons (by show Pd K Z H (.int (0 + ((i : Nat) : Int))) (.int ((i : Nat) : Int)); rw [Int.zero_add]; exact .int _) (pdAll_rg n l)
theorem y_listRng {a : Expr} {fa : En → Sto → R W} {p p2 pos q : Pos} (hK : C.K = X.K) (hc : X.calm = true) (hg : Gl X "list") (hm : X.mg "list" = none) (hg2 : Gl X "range") (hm2 : X.mg "range" = none) (ha : PE X a (rdE C fa))
    (he : starEach [a] X.env = (false, eval a X.env) :: starEach [] X.env := by rfl) : PE X (.Call (.Name "list" p) [.Call (.Name "range" p2) [a] [] q] [] pos) (rdE C (dListRng fa)) := by
  obtain ⟨K, mg, E⟩ := C
  obtain rfl : K = X.K := hK
  refine PE.imp (pe_listRg hc hg hm (prg_1 hg2 hm2 ha he)) fun σ H Q h => ?_
  obtain ⟨Z0, θ, ρ, st, S, N, h⟩ := h
  refine ⟨Z0, θ, ρ, st, S, N, Post.bind h fun w st1 θ1 H1 v _ e1 S1 w1 p1 => ?_⟩
  split at p1
  · obtain ⟨⟨h0, h1⟩, p1⟩ := p1.chk
    cases w1
    refine ⟨_, rfl, RgOk.of_le (by decide) (by omega) (by decide) h0, fun t ht => p1.newLst S1 ht ?_⟩
    unfold rgV
    rw [Int.sub_zero]
    exact pdAll_rg 0 _
  · exact p1.elim
end
end Y

namespace Y
open PySem PySem.Spec PyProof.Rows L2
open AutoSeq1 (wpAny_loadPart')
/-! ### t * n -/
section
variable {X : Cx} {C : Ct}
theorem tup_self (l : Addr) (items : Array Value) (n : Nat) (dd : Option Addr) (sl : Array (Option Value)) (u : Tok) :
    Meets (Builtin.«tuple.__mul__» ⟨[.ref l, .int 1 u], []⟩) (fun _ R s => s.heap.get? l = some { cls := .type "tuple", dict := dd, data := .seq items n, slots := sl } ∧ R (.ok (.ret (Value.ref l))) s) :=
  .of_wp fun prog w A R s h => by
    obtain ⟨hp, g, d, tk, os⟩ := s; obtain ⟨hl, h⟩ := h; have f1 := AutoSeq1.idx_int
    have c0 : (decide ((1 : Int) < -(2 ^ 63)) || decide ((1 : Int) ≥ 2 ^ 63)) = false := by decide
    have c1 : (items.isEmpty || (1 : Int) == 1) = true := by simp
    wp_walk using wpAny_loadPart' hl
    exact ⟨_, rfl, h⟩
def vRep : W → W → Sto → R W
  | .d (.tuple ds), .d (.int k), st => chk (ds ≠ [] ∧ 1 ≤ k ∧ k ≤ 1000 ∧ ds.length ≤ 1000) (.ok (.d (.tuple (List.replicate k.toNat ds).flatten)) st)
  | _, _, _ => .bad
theorem PdAll.rep {K : PySem.W.Frag} {Z : Addr → Prop} {H : Hp} {ds : List PyData} {vs : List V} (h : PdAll K Z H vs ds) : ∀ k : Nat, PdAll K Z H (List.replicate k vs).flatten (List.replicate k ds).flatten
  | 0 => .nil
  | k + 1 => by
    rw [List.replicate_succ, List.replicate_succ, List.flatten_cons, List.flatten_cons]
    exact h.append (PdAll.rep h k)
theorem opRep (hK : C.K = X.K) : OpR X (binaryOp .Mult) (rdO C vRep) := by
  obtain ⟨K, mg, E⟩ := C
  obtain rfl : K = X.K := hK
  intro pins s σ H x y v u Q I rx ry h
  obtain ⟨Z0, θ, st, a, b, S, wa, wb, p⟩ := h
  unfold vRep at p
  split at p
  · rename_i ds k
    obtain ⟨⟨g1, g2, g3, g4⟩, p⟩ := p.chk
    cases wb
    cases wa with
    | tup h1 h2 =>
      have hl := h2.length
      have hne := g1
      by_cases hk : k = 1
      · subst hk
        obtain ⟨its, r, ⟨⟨cls, dd, data, sl⟩, ho, hc, n, hd⟩, hs⟩ := I.tuple h1
        simp only at hc hd
        subst hc hd
        cases rx
        obtain ⟨t, rfl⟩ := ry
        refine wpAny_binaryOp_repeat_ref (T := "tuple") (U := "int") (by decide) ⟨_, ho, rfl⟩ (fun s' => typeIs_int s' 1 t) noFill_tuple_mul F.fills_int_mul F.slot_int_rmul repeat_tuple F.slot_int_index.lookup
          (call_meets F.slot_int_rmul (typeIs_int s 1 t) F.entry_int_rmul (F.args_int_rmul_2 _ _) (int_rmul_tuple 1 t _ its.toArray n dd sl) ⟨ho, rfl, ⟨_, ho, rfl⟩, call_meets F.slot_tuple_mul ⟨_, ho, rfl⟩ F.entry_tuple_mul (F.args_tuple_mul_2 _ _) (tup_self _ its.toArray n dd sl t) ⟨ho, ?_⟩⟩)
        refine ⟨.ref _, H, I, rfl, p.now S ?_⟩
        show Pd _ _ _ _ _
        simpa using (show Pd X.K (Zs Z0 θ) H (.ref _) (.tuple ds) from .tup h1 h2)
      · refine op_repT pins s σ H _ _ v u Q I rx ry ⟨_, k, _, rfl, rfl, h1, ?_, by omega, g3, by rw [hl]; exact g4, fun q hq => p.newTup S hq (h2.rep k.toNat)⟩
        intro z
        rw [z] at hl
        exact hne (List.length_eq_zero_iff.mp hl.symm)
  · exact p.elim
end
end Y

namespace Y
open PySem PySem.Spec PyProof.Rows L2
/-! ### comprehensions with two fors -/
section
variable (tg : W → En → Sto → R En) (tt : En → Sto → R Bool) (fi1 : En → Sto → R (List W)) (vs1 : List Nat) (tg1 : W → En → Sto → R En) (tt1 : En → Sto → R Bool) (fe : En → Sto → R W)
def lc2L (ρ : En) : List W → Sto → R (List W)
  | [], st => .ok [] st
  | w :: ws, st => (tg w ρ st).nox.bind fun ρ1 s1 => (tt ρ1 s1).nox.bind fun b s2 => if b = true then (fi1 ρ1 s2).nox.bind fun ws1 s3 => (lcL tg1 tt1 fe (wipeE ρ1 vs1) ws1 s3).bind fun us s4 => (lc2L ρ ws s4).bind fun us' s5 => .ok (us ++ us') s5 else lc2L ρ ws s2
def dLc2 (vs : List Nat) (fi : En → Sto → R (List W)) : En → Sto → R (List W) := fun ρ st => (fi ρ st).bind fun ws s => (lc2L tg tt fi1 vs1 tg1 tt1 fe (wipeE ρ vs) ws s).bind fun us s2 => chk (us.length ≤ sizeLine) (.ok us s2)
end
section
variable {C : Ct} {H : Hp} {tg : W → En → Sto → R En} {tt : En → Sto → R Bool} {fi1 : En → Sto → R (List W)} {vs1 : List Nat} {tg1 : W → En → Sto → R En} {tt1 : En → Sto → R Bool} {fe : En → Sto → R W}
theorem lc2L_noexc {ρ : En} : ∀ {ws : List W} {st : Sto} {c : Str} {x : PyData} {s : Sto}, lc2L tg tt fi1 vs1 tg1 tt1 fe ρ ws st = .exc c x s → False
  | [], _, _, _, _, h => by cases h
  | w :: ws, st, c, x, s, h => by
    unfold lc2L at h
    cases c1 : (tg w ρ st).nox with
    | bad => rw [c1] at h; cases h
    | exc c x s => exact nox_noexc c1
    | ok ρ1 s1 =>
      rw [c1, R.bind_ok] at h
      cases c2 : (tt ρ1 s1).nox with
      | bad => rw [c2] at h; cases h
      | exc c x s => exact nox_noexc c2
      | ok b s2 =>
        rw [c2, R.bind_ok] at h
        cases b with
        | false => exact lc2L_noexc h
        | true =>
          rw [if_pos rfl] at h
          cases c3 : (fi1 ρ1 s2).nox with
          | bad => rw [c3] at h; cases h
          | exc c x s => exact nox_noexc c3
          | ok ws1 s3 =>
            rw [c3, R.bind_ok] at h
            cases c4 : lcL tg1 tt1 fe (wipeE ρ1 vs1) ws1 s3 with
            | bad => rw [c4] at h; cases h
            | exc c x s => exact lcL_noexc c4
            | ok us s4 =>
              rw [c4, R.bind_ok] at h
              cases c5 : lc2L tg tt fi1 vs1 tg1 tt1 fe ρ ws s4 with
              | bad => rw [c5] at h; cases h
              | exc c x s => exact lc2L_noexc c5
              | ok us' s5 => rw [c5] at h; cases h
/-- what follows when us are made -/
def K2 (tg : W → En → Sto → R En) (tt : En → Sto → R Bool) (fi1 : En → Sto → R (List W)) (vs1 : List Nat) (tg1 : W → En → Sto → R En) (tt1 : En → Sto → R Bool) (fe : En → Sto → R W) (ρ : En) (k : List W → Sto → R W) (rest : List W) (us : List W) (st : Sto) : R W :=
  (lc2L tg tt fi1 vs1 tg1 tt1 fe ρ rest st).bind fun us' s => (chk ((us ++ us').length ≤ sizeLine) (.ok (us ++ us') s)).bind k
def K1 (tg1 : W → En → Sto → R En) (tt1 : En → Sto → R Bool) (fe : En → Sto → R W) (ρ1 : En) (kk : List W → Sto → R W) (rest : List W) (us : List W) (st : Sto) : R W :=
  (lcL tg1 tt1 fe ρ1 rest st).bind fun us1 s => kk (us ++ us1) s
theorem K1_cons {ρ1 : En} {kk : List W → Sto → R W} {w : W} {rest us : List W} {st : Sto} : K1 tg1 tt1 fe ρ1 kk (w :: rest) us st = (tg1 w ρ1 st).nox.bind fun ρ2 s1 => (tt1 ρ2 s1).nox.bind fun b s2 => if b = true then (fe ρ2 s2).nox.bind fun u s3 => K1 tg1 tt1 fe ρ1 kk rest (us ++ [u]) s3 else K1 tg1 tt1 fe ρ1 kk rest us s2 := by
  unfold K1
  conv => lhs; unfold lcL
  cases (tg1 w ρ1 st).nox with
  | bad => rfl
  | exc c x s => rfl
  | ok ρ2 s1 =>
    simp only [R.bind_ok]
    cases (tt1 ρ2 s1).nox with
    | bad => rfl
    | exc c x s => rfl
    | ok b s2 =>
      simp only [R.bind_ok]
      cases b with
      | false => rfl
      | true =>
        simp only [if_true]
        cases (fe ρ2 s2).nox with
        | bad => rfl
        | exc c x s => rfl
        | ok u s3 =>
          simp only [R.bind_ok]
          cases lcL tg1 tt1 fe ρ1 rest s3 <;> simp
theorem K2_cons {ρ : En} {k : List W → Sto → R W} {w : W} {rest us : List W} {st : Sto} : K2 tg tt fi1 vs1 tg1 tt1 fe ρ k (w :: rest) us st = (tg w ρ st).nox.bind fun ρ1 s1 => (tt ρ1 s1).nox.bind fun b s2 => if b = true then (fi1 ρ1 s2).nox.bind fun ws1 s3 => K1 tg1 tt1 fe (wipeE ρ1 vs1) (K2 tg tt fi1 vs1 tg1 tt1 fe ρ k rest) ws1 us s3 else K2 tg tt fi1 vs1 tg1 tt1 fe ρ k rest us s2 := by
  unfold K2
  conv => lhs; unfold lc2L
  cases (tg w ρ st).nox with
  | bad => rfl
  | exc c x s => rfl
  | ok ρ1 s1 =>
    simp only [R.bind_ok]
    cases (tt ρ1 s1).nox with
    | bad => rfl
    | exc c x s => rfl
    | ok b s2 =>
      simp only [R.bind_ok]
      cases b with
      | false => rfl
      | true =>
        simp only [if_true]
        cases (fi1 ρ1 s2).nox with
        | bad => rfl
        | exc c x s => rfl
        | ok ws1 s3 =>
          simp only [R.bind_ok]
          unfold K1
          cases lcL tg1 tt1 fe (wipeE ρ1 vs1) ws1 s3 with
          | bad => rfl
          | exc c x s => rfl
          | ok us1 s4 =>
            simp only [R.bind_ok]
            cases lc2L tg tt fi1 vs1 tg1 tt1 fe ρ rest s4 <;> simp
/-- few are made so far -/
theorem K2_len {ρ : En} {k : List W → Sto → R W} {rest us : List W} {st : Sto} {Z0 : Addr → Prop} {θ : List (Option Addr)} {Q : VK} (h : Post C Z0 θ H (relW C.K Z0) (K2 tg tt fi1 vs1 tg1 tt1 fe ρ k rest us st) Q) : us.length ≤ sizeLine := by
  unfold K2 at h
  cases c4 : lc2L tg tt fi1 vs1 tg1 tt1 fe ρ rest st with
  | bad => rw [c4] at h; exact h.elim
  | exc c x s => exact (lc2L_noexc c4).elim
  | ok us' s =>
    rw [c4, R.bind_ok] at h
    by_cases hc : (us ++ us').length ≤ sizeLine
    · simp only [List.length_append] at hc; omega
    · unfold Y.chk at h; rw [if_neg hc] at h; exact h.elim
theorem K1_len {ρ ρ1 : En} {k : List W → Sto → R W} {rest rest2 us : List W} {st : Sto} {Z0 : Addr → Prop} {θ : List (Option Addr)} {Q : VK} (h : Post C Z0 θ H (relW C.K Z0) (K1 tg1 tt1 fe ρ1 (K2 tg tt fi1 vs1 tg1 tt1 fe ρ k rest2) rest us st) Q) : us.length ≤ sizeLine := by
  unfold K1 at h
  cases c4 : lcL tg1 tt1 fe ρ1 rest st with
  | bad => rw [c4] at h; exact h.elim
  | exc c x s => exact (lcL_noexc c4).elim
  | ok us' s =>
    rw [c4, R.bind_ok] at h
    have := K2_len h
    simp only [List.length_append] at this; omega
theorem K2_start {ρ : En} {k : List W → Sto → R W} {ws : List W} {st : Sto} : ((lc2L tg tt fi1 vs1 tg1 tt1 fe ρ ws st).bind fun us s2 => chk (us.length ≤ sizeLine) (.ok us s2)).bind k = K2 tg tt fi1 vs1 tg1 tt1 fe ρ k ws [] st := by
  unfold K2
  cases lc2L tg tt fi1 vs1 tg1 tt1 fe ρ ws st <;> rfl
theorem t_lc2Z {vs : List Nat} {fi : En → Sto → R (List W)} {σ : L2.St} {Q : VK} {Z0 : Addr → Prop} {θ : List (Option Addr)} {ρ : En} {st : Sto} {k : List W → Sto → R W}
    (S : SR C.K Z0 θ st H) (N : EnR C.K (Zs Z0 θ) θ H ρ σ) (p : Post C Z0 θ H (relW C.K Z0) ((dLc2 tg tt fi1 vs1 tg1 tt1 fe vs fi ρ st).bind k) Q)
    (fin : ∀ us st2 θ1 H1 θ2 H2 D acc, Ext θ H θ1 H1 → Ext θ1 H1 θ2 H2 → SR C.K (Zp Z0 D) θ2 st2 H2 → H2 D = some (.lst acc) → H1 D = none → some D ∉ θ2 → ¬ Z0 D → WRs C.K (Zs (Zp Z0 D) θ2) θ2 H2 us acc → Post C Z0 θ1 H1 (relW C.K Z0) (k us st2) Q → Q (.ref D) H2) :
    tLc2 (rdI C fi) (rdG C.nx vs tg) (rdT C.nx tt) (rdI C.nx fi1) (rdG C.nx vs1 tg1) (rdT C.nx tt1) (rdE C.nx fe) vs vs1 σ H Q := by
  unfold dLc2 at p
  rw [R.bind_assoc] at p
  refine ⟨Z0, θ, ρ, st, S, N, Post.bind p fun ws st1 θ1 H1 J _ e1 S1 it p1 => fun D hD => ?_⟩
  rw [K2_start] at p1
  refine ⟨fun i m H2 => ∃ θ2 st2 acc us, Ext θ1 H1 θ2 H2 ∧ SR C.K (Zp Z0 D) θ2 st2 H2 ∧ EnR C.K (Zs (Zp Z0 D) θ2) θ2 H2 (wipeE ρ vs) (L2.wipe σ vs) ∧ H2 D = some (.lst acc) ∧ some D ∉ θ2 ∧ WRs C.K (Zs (Zp Z0 D) θ2) θ2 H2 us acc ∧ i ≤ ws.length ∧ m = ws.length - i ∧
      Post C Z0 θ1 H1 (relW C.K Z0) (K2 tg tt fi1 vs1 tg1 tt1 fe (wipeE ρ vs) k (ws.drop i) us st2) Q, ⟨ws.length, θ1, st1, [], [], Ext.mut Ext.refl hD, sr_zp hD S1, enR_zp hD ((N.ext e1).wipe vs), upd_same, fun z => S1.notZ hD (.inl z), .nil, Nat.zero_le _, by omega, p1⟩, fun i m H2 hW => ?_⟩
  obtain ⟨θ2, st2, acc, us, e2, S2, N2, hA, hN, rA, hl, rfl, p2⟩ := hW
  obtain ⟨h1, h2⟩ := it (Zp Z0 D) θ2 H2 st2 (fun a z => z.elim (fun z => .inr (z ▸ hD)) .inl) e2.w S2 i
  by_cases hlt : i < ws.length
  · obtain ⟨g1, g2⟩ := h1 ws[i] (List.getElem?_eq_getElem hlt)
    rw [List.drop_eq_getElem_cons hlt, K2_cons] at p2
    refine .inr ⟨g1, fun H3 => ∃ θ3 st3 acc us, Ext θ1 H1 θ3 H3 ∧ SR C.K (Zp Z0 D) θ3 st3 H3 ∧ EnR C.K (Zs (Zp Z0 D) θ3) θ3 H3 (wipeE ρ vs) (L2.wipe σ vs) ∧ H3 D = some (.lst acc) ∧ some D ∉ θ3 ∧ WRs C.K (Zs (Zp Z0 D) θ3) θ3 H3 us acc ∧
      Post C Z0 θ1 H1 (relW C.K Z0) (K2 tg tt fi1 vs1 tg1 tt1 fe (wipeE ρ vs) k (ws.drop (i + 1)) us st3) Q, fun H3 h3 => ?_, fun x H3 y => ?_⟩
    · obtain ⟨θ3, st3, acc3, us3, a1, a2, a3, a4, a5, a6, a7⟩ := h3
      exact ⟨ws.length - (i + 1), by omega, θ3, st3, acc3, us3, a1, a2, a3, a4, a5, a6, hlt, rfl, a7⟩
    · obtain ⟨e3, S3, w3, k3⟩ := g2 x H3 y
      have keepD : ∀ {θ' : List (Option Addr)} {H' : Hp}, Ext θ2 H3 θ' H' → H' D = some (.lst acc) ∧ some D ∉ θ' := fun {θ' H'} e => by
        have hD3 : H3 D = some (.lst acc) := by rw [k3 D (by rw [hA]; simp)]; exact hA
        refine ⟨e.keep D _ hN hD3, fun z => ?_⟩
        rcases e.mem z with z | z
        · exact hN z
        · rw [hD3] at z; cases z
      refine ⟨Zp Z0 D, θ2, wipeE ρ vs, st2, ws[i], S3, N2.ext e3, w3, ?_⟩
      cases c1 : tg ws[i] (wipeE ρ vs) st2 with
      | bad => rw [c1] at p2; exact p2.elim
      | exc c x s => rw [c1] at p2; exact p2.elim
      | ok ρ4 st4 =>
        rw [c1] at p2
        intro θ4 H4 σ4 e4 S4 w4
        refine ⟨w4.2.trans (wipe_wipe σ vs), Zp Z0 D, θ4, ρ4, st4, S4, w4.1, ?_⟩
        replace p2 : Post C Z0 θ1 H1 (relW C.K Z0) ((tt ρ4 st4).nox.bind fun b s2 => if b = true then (fi1 ρ4 s2).nox.bind fun ws1 s3 => K1 tg1 tt1 fe (wipeE ρ4 vs1) (K2 tg tt fi1 vs1 tg1 tt1 fe (wipeE ρ vs) k (ws.drop (i + 1))) ws1 us s3 else K2 tg tt fi1 vs1 tg1 tt1 fe (wipeE ρ vs) k (ws.drop (i + 1)) us s2) Q := p2
        cases c2 : tt ρ4 st4 with
        | bad => rw [c2] at p2; exact p2.elim
        | exc c x s => rw [c2] at p2; exact p2.elim
        | ok b st5 =>
          rw [c2] at p2
          intro θ5 H5 b' e5 S5 w5
          cases w5
          have E5 := (e3.trans e4).trans e5
          cases b with
          | false =>
            rw [if_neg (by simp)]
            obtain ⟨d1, d2⟩ := keepD (e4.trans e5)
            exact ⟨θ5, st5, acc, us, e2.trans E5, S5, N2.ext E5, d1, d2, rA.ext E5, p2⟩
          | true =>
            rw [if_pos rfl]
            refine ⟨Zp Z0 D, θ5, ρ4, st5, S5, w4.1.ext e5, ?_⟩
            replace p2 : Post C Z0 θ1 H1 (relW C.K Z0) ((fi1 ρ4 st5).nox.bind fun ws1 s3 => K1 tg1 tt1 fe (wipeE ρ4 vs1) (K2 tg tt fi1 vs1 tg1 tt1 fe (wipeE ρ vs) k (ws.drop (i + 1))) ws1 us s3) Q := p2
            cases c3 : fi1 ρ4 st5 with
            | bad => rw [c3] at p2; exact p2.elim
            | exc c x s => rw [c3] at p2; exact p2.elim
            | ok ws1 st6 =>
              rw [c3] at p2
              replace p2 : Post C Z0 θ1 H1 (relW C.K Z0) (K1 tg1 tt1 fe (wipeE ρ4 vs1) (K2 tg tt fi1 vs1 tg1 tt1 fe (wipeE ρ vs) k (ws.drop (i + 1))) ws1 us st6) Q := p2
              intro θ6 H6 J1 e6 S6 it1
              have E6 := E5.trans e6
              obtain ⟨d1, d2⟩ := keepD ((e4.trans e5).trans e6)
              -- the walk within
              refine ⟨fun j m1 H7 => ∃ θ7 st7 acc us, Ext θ1 H1 θ7 H7 ∧ ExtW (Zp Z0 D) θ6 H6 θ7 H7 ∧ SR C.K (Zp Z0 D) θ7 st7 H7 ∧ EnR C.K (Zs (Zp Z0 D) θ7) θ7 H7 (wipeE ρ vs) (L2.wipe σ vs) ∧ EnR C.K (Zs (Zp Z0 D) θ7) θ7 H7 (wipeE ρ4 vs1) (L2.wipe σ4 vs1) ∧ H7 D = some (.lst acc) ∧ some D ∉ θ7 ∧ WRs C.K (Zs (Zp Z0 D) θ7) θ7 H7 us acc ∧ j ≤ ws1.length ∧ m1 = ws1.length - j ∧
                Post C Z0 θ1 H1 (relW C.K Z0) (K1 tg1 tt1 fe (wipeE ρ4 vs1) (K2 tg tt fi1 vs1 tg1 tt1 fe (wipeE ρ vs) k (ws.drop (i + 1))) (ws1.drop j) us st7) Q, ⟨ws1.length, θ6, st6, acc, us, e2.trans E6, Ext.refl.w, S6, N2.ext E6, (w4.1.ext (e5.trans e6)).wipe vs1, d1, d2, rA.ext E6, Nat.zero_le _, by omega, p2⟩, fun j m1 H7 hW1 => ?_⟩
              obtain ⟨θ7, st7, acc7, us7, f1, f2, S7, N7, M7, hA7, hN7, rA7, hl7, rfl, p7⟩ := hW1
              obtain ⟨q1, q2⟩ := it1 (Zp Z0 D) θ7 H7 st7 (fun a z => .inl z) f2 S7 j
              have hzD : ∀ θ' : List (Option Addr), Zs (Zp Z0 D) θ' D := fun θ' => .inr (.inl rfl)
              by_cases hjt : j < ws1.length
              · obtain ⟨r1, r2⟩ := q1 ws1[j] (List.getElem?_eq_getElem hjt)
                rw [List.drop_eq_getElem_cons hjt, K1_cons] at p7
                refine .inr ⟨r1, fun H8 => ∃ θ7 st7 acc us, Ext θ1 H1 θ7 H8 ∧ ExtW (Zp Z0 D) θ6 H6 θ7 H8 ∧ SR C.K (Zp Z0 D) θ7 st7 H8 ∧ EnR C.K (Zs (Zp Z0 D) θ7) θ7 H8 (wipeE ρ vs) (L2.wipe σ vs) ∧ EnR C.K (Zs (Zp Z0 D) θ7) θ7 H8 (wipeE ρ4 vs1) (L2.wipe σ4 vs1) ∧ H8 D = some (.lst acc) ∧ some D ∉ θ7 ∧ WRs C.K (Zs (Zp Z0 D) θ7) θ7 H8 us acc ∧
                  Post C Z0 θ1 H1 (relW C.K Z0) (K1 tg1 tt1 fe (wipeE ρ4 vs1) (K2 tg tt fi1 vs1 tg1 tt1 fe (wipeE ρ vs) k (ws.drop (i + 1))) (ws1.drop (j + 1)) us st7) Q, fun H8 h8 => ?_, fun x H8 y => ?_⟩
                · obtain ⟨θ8, st8, acc8, us8, a1, a2, a3, a4, a5, a6, a7, a8, a9⟩ := h8
                  exact ⟨ws1.length - (j + 1), by omega, θ8, st8, acc8, us8, a1, a2, a3, a4, a5, a6, a7, a8, hjt, rfl, a9⟩
                · obtain ⟨e8, S8, w8, k8⟩ := r2 x H8 y
                  have keep8 : ∀ {θ' : List (Option Addr)} {H' : Hp}, Ext θ7 H8 θ' H' → H' D = some (.lst acc7) ∧ some D ∉ θ' := fun {θ' H'} e => by
                    have hD3 : H8 D = some (.lst acc7) := by rw [k8 D (by rw [hA7]; simp)]; exact hA7
                    refine ⟨e.keep D _ hN7 hD3, fun z => ?_⟩
                    rcases e.mem z with z | z
                    · exact hN7 z
                    · rw [hD3] at z; cases z
                  refine ⟨Zp Z0 D, θ7, wipeE ρ4 vs1, st7, ws1[j], S8, M7.ext e8, w8, ?_⟩
                  cases c4 : tg1 ws1[j] (wipeE ρ4 vs1) st7 with
                  | bad => rw [c4] at p7; exact p7.elim
                  | exc c x s => rw [c4] at p7; exact p7.elim
                  | ok ρ9 st9 =>
                    rw [c4] at p7
                    intro θ9 H9 σ9 e9 S9 w9
                    refine ⟨w9.2.trans (wipe_wipe σ4 vs1), Zp Z0 D, θ9, ρ9, st9, S9, w9.1, ?_⟩
                    replace p7 : Post C Z0 θ1 H1 (relW C.K Z0) ((tt1 ρ9 st9).nox.bind fun b s2 => if b = true then (fe ρ9 s2).nox.bind fun u s3 => K1 tg1 tt1 fe (wipeE ρ4 vs1) (K2 tg tt fi1 vs1 tg1 tt1 fe (wipeE ρ vs) k (ws.drop (i + 1))) (ws1.drop (j + 1)) (us7 ++ [u]) s3 else K1 tg1 tt1 fe (wipeE ρ4 vs1) (K2 tg tt fi1 vs1 tg1 tt1 fe (wipeE ρ vs) k (ws.drop (i + 1))) (ws1.drop (j + 1)) us7 s2) Q := p7
                    cases c5 : tt1 ρ9 st9 with
                    | bad => rw [c5] at p7; exact p7.elim
                    | exc c x s => rw [c5] at p7; exact p7.elim
                    | ok b st10 =>
                      rw [c5] at p7
                      intro θ10 H10 b' e10 S10 w10
                      cases w10
                      have E10 := (e8.trans e9).trans e10
                      cases b with
                      | false =>
                        rw [if_neg (by simp)]
                        obtain ⟨d3, d4⟩ := keep8 (e9.trans e10)
                        exact ⟨θ10, st10, acc7, us7, f1.trans E10, f2.trans E10, S10, N7.ext E10, M7.ext E10, d3, d4, rA7.ext E10, p7⟩
                      | true =>
                        rw [if_pos rfl]
                        refine ⟨Zp Z0 D, θ10, ρ9, st10, S10, w9.1.ext e10, ?_⟩
                        replace p7 : Post C Z0 θ1 H1 (relW C.K Z0) ((fe ρ9 st10).nox.bind fun u s3 => K1 tg1 tt1 fe (wipeE ρ4 vs1) (K2 tg tt fi1 vs1 tg1 tt1 fe (wipeE ρ vs) k (ws.drop (i + 1))) (ws1.drop (j + 1)) (us7 ++ [u]) s3) Q := p7
                        cases c6 : fe ρ9 st10 with
                        | bad => rw [c6] at p7; exact p7.elim
                        | exc c x s => rw [c6] at p7; exact p7.elim
                        | ok u st11 =>
                          rw [c6] at p7
                          replace p7 : Post C Z0 θ1 H1 (relW C.K Z0) (K1 tg1 tt1 fe (wipeE ρ4 vs1) (K2 tg tt fi1 vs1 tg1 tt1 fe (wipeE ρ vs) k (ws.drop (i + 1))) (ws1.drop (j + 1)) (us7 ++ [u]) st11) Q := p7
                          intro θ11 H11 y' e11 S11 w11
                          have E11 := E10.trans e11
                          obtain ⟨d3, d4⟩ := keep8 ((e9.trans e10).trans e11)
                          have hlen := K1_len p7
                          rw [List.length_append, List.length_singleton] at hlen
                          refine ⟨acc7, d3, by rw [← rA7.length]; exact hlen, θ11, st11, acc7 ++ [y'], us7 ++ [u], Ext.mut (f1.trans E11) hD, (f2.trans E11).put (hzD θ6) d1, sr_apart d3 (.inl rfl) S11, enR_apart d3 (hzD θ11) (N7.ext E11), enR_apart d3 (hzD θ11) (M7.ext E11), upd_same, d4, ?_, p7⟩
                          exact paired_snoc (Paired.imp (fun _ _ => wr_apart d3 (hzD θ11)) (rA7.ext E11)) (wr_apart d3 (hzD θ11) w11)
              · have hj : j = ws1.length := by omega
                subst hj
                rw [List.drop_length] at p7
                replace p7 : Post C Z0 θ1 H1 (relW C.K Z0) (K2 tg tt fi1 vs1 tg1 tt1 fe (wipeE ρ vs) k (ws.drop (i + 1)) (us7 ++ []) st7) Q := p7
                rw [List.append_nil] at p7
                exact .inl ⟨q2 (Nat.le_refl _), θ7, st7, acc7, us7, f1, S7, N7, hA7, hN7, rA7, p7⟩
  · have hi : i = ws.length := by omega
    subst hi
    rw [List.drop_length] at p2
    refine .inl ⟨h2 (Nat.le_refl _), ?_⟩
    replace p2 : Post C Z0 θ1 H1 (relW C.K Z0) ((chk ((us ++ []).length ≤ sizeLine) (R.ok (us ++ []) st2)).bind k) Q := p2
    rw [List.append_nil] at p2
    by_cases hc : us.length ≤ sizeLine
    · rw [chk_ok hc] at p2
      exact fin us st2 θ1 H1 θ2 H2 D acc e1 e2 S2 hA hD hN (fun z => S1.z0 D z hD) rA p2
    · unfold Y.chk at p2; rw [if_neg hc] at p2; exact p2.elim
theorem t_lc2F {vs : List Nat} {fi : En → Sto → R (List W)} {σ : L2.St} {Q : VK} (q : rdE C (dLcF (dLc2 tg tt fi1 vs1 tg1 tt1 fe vs fi)) σ H Q) : tLc2 (rdI C fi) (rdG C.nx vs tg) (rdT C.nx tt) (rdI C.nx fi1) (rdG C.nx vs1 tg1) (rdT C.nx tt1) (rdE C.nx fe) vs vs1 σ H Q := by
  obtain ⟨Z0, θ, ρ, st, S, N, p⟩ := q
  refine t_lc2Z S N p fun us st2 θ1 H1 θ2 H2 D acc e1 e2 S2 hA hD hN hz rA p2 => ?_
  split at p2
  · rename_i ds hd
    exact p2 θ2 H2 _ e2 (sr_unzp S2) (show Pd _ _ _ _ _ from .lst ⟨.inl hA, fun z => z.elim hN hz⟩ ((wrs_zs (Z0 := Zp Z0 D) (Z1 := Z0) (fun a z => .inl (.inr z)) rA).pd hd))
  · exact p2.elim
theorem t_lc2N {vs : List Nat} {fi : En → Sto → R (List W)} {σ : L2.St} {Q : VK} (q : rdE C (dLcN (dLc2 tg tt fi1 vs1 tg1 tt1 fe vs fi)) σ H Q) : tLc2 (rdI C fi) (rdG C.nx vs tg) (rdT C.nx tt) (rdI C.nx fi1) (rdG C.nx vs1 tg1) (rdT C.nx tt1) (rdE C.nx fe) vs vs1 σ H Q := by
  obtain ⟨Z0, θ, ρ, st, S, N, p⟩ := q
  refine t_lc2Z S N p fun us st2 θ1 H1 θ2 H2 D acc e1 e2 S2 hA hD hN hz rA p2 => ?_
  exact p2 (θ2 ++ [some D]) H2 (.ref D) (ext_push e2 hD) (sr_push S2 hA hN hz rA) ⟨some D, by rw [← S2.len]; simp, fun a e => by cases e; rfl⟩
variable {X : Cx}
theorem y_lc2F {elt tgt iter tgt1 iter1 : Expr} {ifs ifs1 : List Expr} {scope : Scope} {own : List (Str × Nat)} {pos : Pos} {fi : En → Sto → R (List W)} (hc : X.calm = true) (hN : X.N.Nodup) (hi : PI X tgt iter (rdI C fi)) (ok : BlkOk X.N X.env.scope scope own) (hv : ∀ i ∈ vs1, i ∈ own.map (·.2))
    (hg : ∀ (s : Shared) (H : Hp) (A : Addr) (cl : List (Str × Addr)) (fp : List Addr), PG (X.blk s H scope (compEnvC scope cl A X.env) fp) tgt (rdG C.nx (own.map (·.2)) tg))
    (ht : ∀ (s : Shared) (H : Hp) (A : Addr) (cl : List (Str × Addr)) (fp : List Addr), PTs (X.blk s H scope (compEnvC scope cl A X.env) fp) ifs (rdT C.nx tt))
    (hi1 : ∀ (s : Shared) (H : Hp) (A : Addr) (cl : List (Str × Addr)) (fp : List Addr), PI (X.blk s H scope (compEnvC scope cl A X.env) fp) tgt1 iter1 (rdI C.nx fi1))
    (hg1 : ∀ (s : Shared) (H : Hp) (A : Addr) (cl : List (Str × Addr)) (fp : List Addr), PG (X.blk s H scope (compEnvC scope cl A X.env) fp) tgt1 (rdG C.nx vs1 tg1))
    (ht1 : ∀ (s : Shared) (H : Hp) (A : Addr) (cl : List (Str × Addr)) (fp : List Addr), PTs (X.blk s H scope (compEnvC scope cl A X.env) fp) ifs1 (rdT C.nx tt1))
    (he : ∀ (s : Shared) (H : Hp) (A : Addr) (cl : List (Str × Addr)) (fp : List Addr), PE (X.blk s H scope (compEnvC scope cl A X.env) fp) elt (rdE C.nx fe)) (hs : ∀ x, foldedSetIterable iter X.env x = pure x := by intro _; rfl) (hs1 : ∀ env x, foldedSetIterable iter1 env x = pure x := by intro _ _; rfl) :
    PE X (.ListComp elt [⟨tgt, iter, ifs, 0⟩, ⟨tgt1, iter1, ifs1, 0⟩] scope pos) (rdE C (dLcF (dLc2 tg tt fi1 vs1 tg1 tt1 fe (own.map (·.2)) fi))) := PE.imp (pe_lc2 hc hN hi ok hv hg ht hi1 hg1 ht1 he hs hs1) fun _ _ _ => t_lc2F
theorem y_lc2N {elt tgt iter tgt1 iter1 : Expr} {ifs ifs1 : List Expr} {scope : Scope} {own : List (Str × Nat)} {pos : Pos} {fi : En → Sto → R (List W)} (hc : X.calm = true) (hN : X.N.Nodup) (hi : PI X tgt iter (rdI C fi)) (ok : BlkOk X.N X.env.scope scope own) (hv : ∀ i ∈ vs1, i ∈ own.map (·.2))
    (hg : ∀ (s : Shared) (H : Hp) (A : Addr) (cl : List (Str × Addr)) (fp : List Addr), PG (X.blk s H scope (compEnvC scope cl A X.env) fp) tgt (rdG C.nx (own.map (·.2)) tg))
    (ht : ∀ (s : Shared) (H : Hp) (A : Addr) (cl : List (Str × Addr)) (fp : List Addr), PTs (X.blk s H scope (compEnvC scope cl A X.env) fp) ifs (rdT C.nx tt))
    (hi1 : ∀ (s : Shared) (H : Hp) (A : Addr) (cl : List (Str × Addr)) (fp : List Addr), PI (X.blk s H scope (compEnvC scope cl A X.env) fp) tgt1 iter1 (rdI C.nx fi1))
    (hg1 : ∀ (s : Shared) (H : Hp) (A : Addr) (cl : List (Str × Addr)) (fp : List Addr), PG (X.blk s H scope (compEnvC scope cl A X.env) fp) tgt1 (rdG C.nx vs1 tg1))
    (ht1 : ∀ (s : Shared) (H : Hp) (A : Addr) (cl : List (Str × Addr)) (fp : List Addr), PTs (X.blk s H scope (compEnvC scope cl A X.env) fp) ifs1 (rdT C.nx tt1))
    (he : ∀ (s : Shared) (H : Hp) (A : Addr) (cl : List (Str × Addr)) (fp : List Addr), PE (X.blk s H scope (compEnvC scope cl A X.env) fp) elt (rdE C.nx fe)) (hs : ∀ x, foldedSetIterable iter X.env x = pure x := by intro _; rfl) (hs1 : ∀ env x, foldedSetIterable iter1 env x = pure x := by intro _ _; rfl) :
    PE X (.ListComp elt [⟨tgt, iter, ifs, 0⟩, ⟨tgt1, iter1, ifs1, 0⟩] scope pos) (rdE C (dLcN (dLc2 tg tt fi1 vs1 tg1 tt1 fe (own.map (·.2)) fi))) := PE.imp (pe_lc2 hc hN hi ok hv hg ht hi1 hg1 ht1 he hs hs1) fun _ _ _ => t_lc2N
theorem y_setLc2F {i : Nat} {y : Str} {py : Pos} {elt tgt iter tgt1 iter1 : Expr} {ifs ifs1 : List Expr} {scope : Scope} {own : List (Str × Nat)} {pos spos : Pos} {fi : En → Sto → R (List W)} (hc : X.calm = true) (hN : X.N.Nodup) (hy : X.N[i]? = some y) (hyl : X.env.scope.names.lookup y = some .local)
    (hsw : swapsWith (.ListComp elt [⟨tgt, iter, ifs, 0⟩, ⟨tgt1, iter1, ifs1, 0⟩] scope pos) (some (.Name y py)) spos.line X.env = pure true) (hi : PI X tgt iter (rdI C fi)) (ok : BlkOk X.N X.env.scope scope own) (hv : ∀ i ∈ vs1, i ∈ own.map (·.2))
    (hg : ∀ (s : Shared) (H : Hp) (A : Addr) (cl : List (Str × Addr)) (fp : List Addr), PG (X.blk s H scope (compEnvC scope cl A X.env) fp) tgt (rdG C.nx (own.map (·.2)) tg))
    (ht : ∀ (s : Shared) (H : Hp) (A : Addr) (cl : List (Str × Addr)) (fp : List Addr), PTs (X.blk s H scope (compEnvC scope cl A X.env) fp) ifs (rdT C.nx tt))
    (hi1 : ∀ (s : Shared) (H : Hp) (A : Addr) (cl : List (Str × Addr)) (fp : List Addr), PI (X.blk s H scope (compEnvC scope cl A X.env) fp) tgt1 iter1 (rdI C.nx fi1))
    (hg1 : ∀ (s : Shared) (H : Hp) (A : Addr) (cl : List (Str × Addr)) (fp : List Addr), PG (X.blk s H scope (compEnvC scope cl A X.env) fp) tgt1 (rdG C.nx vs1 tg1))
    (ht1 : ∀ (s : Shared) (H : Hp) (A : Addr) (cl : List (Str × Addr)) (fp : List Addr), PTs (X.blk s H scope (compEnvC scope cl A X.env) fp) ifs1 (rdT C.nx tt1))
    (he : ∀ (s : Shared) (H : Hp) (A : Addr) (cl : List (Str × Addr)) (fp : List Addr), PE (X.blk s H scope (compEnvC scope cl A X.env) fp) elt (rdE C.nx fe)) (hs : ∀ x, foldedSetIterable iter X.env x = pure x := by intro _; rfl) (hs1 : ∀ env x, foldedSetIterable iter1 env x = pure x := by intro _ _; rfl) :
    PS X (.Assign [.Name y py] (.ListComp elt [⟨tgt, iter, ifs, 0⟩, ⟨tgt1, iter1, ifs1, 0⟩] scope pos) spos) (rdS C (dSet i (dLcF (dLc2 tg tt fi1 vs1 tg1 tt1 fe (own.map (·.2)) fi)))) := PS.imp (ps_setLc2 hc hN hy hyl hsw hi ok hv hg ht hi1 hg1 ht1 he hs hs1) fun D σ H q => by
  obtain ⟨Z0, θ, ρ, st, S, N, p⟩ := q
  exact t_lc2F ⟨Z0, θ, ρ, st, S, N, PostS.bindE p fun w st1 θ1 H1 v e1 S1 w1 p1 => p1.now S1 ((N.ext e1).set i w1)⟩
theorem y_setLc2N {i : Nat} {y : Str} {py : Pos} {elt tgt iter tgt1 iter1 : Expr} {ifs ifs1 : List Expr} {scope : Scope} {own : List (Str × Nat)} {pos spos : Pos} {fi : En → Sto → R (List W)} (hc : X.calm = true) (hN : X.N.Nodup) (hy : X.N[i]? = some y) (hyl : X.env.scope.names.lookup y = some .local)
    (hsw : swapsWith (.ListComp elt [⟨tgt, iter, ifs, 0⟩, ⟨tgt1, iter1, ifs1, 0⟩] scope pos) (some (.Name y py)) spos.line X.env = pure true) (hi : PI X tgt iter (rdI C fi)) (ok : BlkOk X.N X.env.scope scope own) (hv : ∀ i ∈ vs1, i ∈ own.map (·.2))
    (hg : ∀ (s : Shared) (H : Hp) (A : Addr) (cl : List (Str × Addr)) (fp : List Addr), PG (X.blk s H scope (compEnvC scope cl A X.env) fp) tgt (rdG C.nx (own.map (·.2)) tg))
    (ht : ∀ (s : Shared) (H : Hp) (A : Addr) (cl : List (Str × Addr)) (fp : List Addr), PTs (X.blk s H scope (compEnvC scope cl A X.env) fp) ifs (rdT C.nx tt))
    (hi1 : ∀ (s : Shared) (H : Hp) (A : Addr) (cl : List (Str × Addr)) (fp : List Addr), PI (X.blk s H scope (compEnvC scope cl A X.env) fp) tgt1 iter1 (rdI C.nx fi1))
    (hg1 : ∀ (s : Shared) (H : Hp) (A : Addr) (cl : List (Str × Addr)) (fp : List Addr), PG (X.blk s H scope (compEnvC scope cl A X.env) fp) tgt1 (rdG C.nx vs1 tg1))
    (ht1 : ∀ (s : Shared) (H : Hp) (A : Addr) (cl : List (Str × Addr)) (fp : List Addr), PTs (X.blk s H scope (compEnvC scope cl A X.env) fp) ifs1 (rdT C.nx tt1))
    (he : ∀ (s : Shared) (H : Hp) (A : Addr) (cl : List (Str × Addr)) (fp : List Addr), PE (X.blk s H scope (compEnvC scope cl A X.env) fp) elt (rdE C.nx fe)) (hs : ∀ x, foldedSetIterable iter X.env x = pure x := by intro _; rfl) (hs1 : ∀ env x, foldedSetIterable iter1 env x = pure x := by intro _ _; rfl) :
    PS X (.Assign [.Name y py] (.ListComp elt [⟨tgt, iter, ifs, 0⟩, ⟨tgt1, iter1, ifs1, 0⟩] scope pos) spos) (rdS C (dSet i (dLcN (dLc2 tg tt fi1 vs1 tg1 tt1 fe (own.map (·.2)) fi)))) := PS.imp (ps_setLc2 hc hN hy hyl hsw hi ok hv hg ht hi1 hg1 ht1 he hs hs1) fun D σ H q => by
  obtain ⟨Z0, θ, ρ, st, S, N, p⟩ := q
  exact t_lc2N ⟨Z0, θ, ρ, st, S, N, PostS.bindE p fun w st1 θ1 H1 v e1 S1 w1 p1 => p1.now S1 ((N.ext e1).set i w1)⟩
end
end Y

namespace Y
open PySem PySem.Spec PyProof.Rows L2
/-! ### range with a step, tuple(range(n)) -/
def rngC (lo c : Int) (n : Nat) : List W := (List.range n).map fun (i : Nat) => .d (.int (lo + i * c))
def dRng3 (fa : En → Sto → R (List W)) : En → Sto → R (List W) := fun ρ st => (fa ρ st).bind fun ws s => match ws with
  | [.d (.int i), .d (.int j), .d (.int c)] => chk (c ≠ 0 ∧ c.natAbs < 1073741824 ∧ Builtin.Range.small i j c = true ∧ 0 ≤ Builtin.Range.rangeSize i j c) (.ok (rngC i c (Builtin.Range.rangeSize i j c).toNat) s)
  | _ => .bad
theorem itOk_rngC {K : PySem.W.Frag} {Z0 : Addr → Prop} {θ : List (Option Addr)} {H : Hp} {lo c : Int} {n : Nat} : ItOk K Z0 θ H (rngC lo c n) (Itc lo c n) := fun Z1 θ1 H1 st1 hz e S i => by
  refine ⟨fun w hw => ?_, fun hi => (show n ≤ i by simpa [rngC] using hi)⟩
  unfold rngC at hw
  rw [List.getElem?_map, Option.map_eq_some_iff] at hw
  obtain ⟨d, hd, rfl⟩ := hw
  obtain ⟨h1, h2⟩ := List.getElem?_eq_some_iff.mp hd
  have hd' : d = i := by simpa using h2.symm
  subst hd'
  refine ⟨(show d < n by simpa using h1), fun x H2 y => ?_⟩
  obtain ⟨rfl, rfl⟩ := y
  exact ⟨Ext.refl, S, show Pd _ _ _ _ _ from .int _, fun _ _ => rfl⟩
section
variable {X : Cx} {C : Ct}
theorem y_rng3 {tgt a b c : Expr} {fa : En → Sto → R (List W)} {p pos : Pos} (hg : Gl X "range") (hm : X.mg "range" = none) (ha : PA X [a, b, c] (rdA C fa)) (hs : starEach [a, b, c] X.env = (false, eval a X.env) :: starEach [b, c] X.env := by rfl) (hpl : (backTo pos (starEach [b, c] X.env)).any (·.1) = false := by rfl) :
    PI X tgt (.Call (.Name "range" p) [a, b, c] [] pos) (rdI C (dRng3 fa)) := by
  refine PI.imp (pi_range3 hg hm ha hs hpl) fun σ H Q q => ?_
  obtain ⟨Z0, θ, ρ, st, S, N, p⟩ := q
  refine ⟨Z0, θ, ρ, st, S, N, Post.bind p fun ws st1 θ1 H1 vs _ e1 S1 w1 p1 => ?_⟩
  split at p1
  · obtain ⟨⟨c1, c2, c3, c4⟩, p1⟩ := p1.chk
    cases w1 with
    | cons r1 r2 =>
      cases r2 with
      | cons r3 r4 =>
        cases r4 with
        | cons r5 r6 =>
          cases r6
          cases r1
          cases r3
          cases r5
          exact ⟨_, _, _, _, rfl, ⟨c1, c2, c3, (Int.toNat_of_nonneg c4).symm⟩, p1 θ1 H1 _ Ext.refl S1 itOk_rngC⟩
  · exact p1.elim
/-- tuple(range(e)) -/
def dTupRng (fe : En → Sto → R W) : En → Sto → R W := fun ρ st => (fe ρ st).bind fun w s => match w with
  | .d (.int n) => chk (0 ≤ n ∧ n ≤ 16777216) (.ok (.d (.tuple ((List.range n.toNat).map fun i : Nat => .int i))) s)
  | _ => .bad
theorem y_tupRng {a : Expr} {fa : En → Sto → R W} {p p2 pos q : Pos} (hK : C.K = X.K) (hc : X.calm = true) (hg : Gl X "tuple") (hm : X.mg "tuple" = none) (hg2 : Gl X "range") (hm2 : X.mg "range" = none) (ha : PE X a (rdE C fa))
    (he : starEach [a] X.env = (false, eval a X.env) :: starEach [] X.env := by rfl) : PE X (.Call (.Name "tuple" p) [.Call (.Name "range" p2) [a] [] q] [] pos) (rdE C (dTupRng fa)) := by
  obtain ⟨K, mg, E⟩ := C
  obtain rfl : K = X.K := hK
  refine PE.imp (pe_tupRg hc hg hm (prg_1 hg2 hm2 ha he)) fun σ H Q h => ?_
  obtain ⟨Z0, θ, ρ, st, S, N, h⟩ := h
  refine ⟨Z0, θ, ρ, st, S, N, Post.bind h fun w st1 θ1 H1 v _ e1 S1 w1 p1 => ?_⟩
  split at p1
  · obtain ⟨⟨h0, h1⟩, p1⟩ := p1.chk
    cases w1
    refine ⟨_, rfl, RgOk.of_le (by decide) (by omega) (by decide) h0, fun t ht => p1.newTup S1 ht ?_⟩
    unfold rgV
    rw [Int.sub_zero]
    exact pdAll_rg 0 _
  · exact p1.elim
end
end Y

namespace Y
open PySem PySem.Spec PyProof.Rows L2
/-! ### what a value is worth as a test; max of a list -/
def dTru (fe : En → Sto → R W) : En → Sto → R Bool := fun ρ st => (fe ρ st).bind fun w s => match w with
  | .d (.bool b) => .ok b s
  | w => match items s w with
    | some ws => .ok (!ws.isEmpty) s
    | none => .bad
def gMaxL : List W → Sto → R W
  | [w], st => match asD st w with
    | some (.list ds) => match asInts ds with
      | some (n :: ns) => .ok (.d (.int (ns.foldl max n))) st
      | _ => .bad
    | _ => .bad
  | _, _ => .bad
theorem foldl_max (ns : List Int) : ∀ n : Int, (ns.foldl max n) ∈ n :: ns ∧ ∀ y ∈ n :: ns, y ≤ ns.foldl max n := by
  induction ns with
  | nil => intro n; simp
  | cons a ns ih =>
    intro n
    obtain ⟨h1, h2⟩ := ih (max n a)
    rw [List.foldl_cons]
    refine ⟨?_, fun y hy => ?_⟩
    · rcases List.mem_cons.mp h1 with z | z
      · rw [z]
        rcases Int.le_total n a with q | q
        · rw [Int.max_eq_right q]; simp
        · rw [Int.max_eq_left q]; simp
      · simp [z]
    · have m := h2 (max n a) List.mem_cons_self
      rcases List.mem_cons.mp hy with rfl | hy
      · exact Int.le_trans (Int.le_max_left _ _) m
      · rcases List.mem_cons.mp hy with rfl | hy
        · exact Int.le_trans (Int.le_max_right _ _) m
        · exact h2 y (List.mem_cons_of_mem _ hy)
section
variable {X : Cx} {C : Ct}
theorem cMaxL (hK : C.K = X.K) (hc : X.calm = true) : CallR X (.builtin "max") (rdC C gMaxL) := by
  obtain ⟨K, mg, E⟩ := C
  obtain rfl : K = X.K := hK
  intro pins s σ H xs us Q I r h
  obtain ⟨Z0, θ, st, ws, S, rw', p⟩ := h
  unfold gMaxL at p
  split at p
  · cases rw' with
    | cons a b =>
      cases b
      split at p
      · rename_i ds hd
        obtain ⟨p', vs, rfl, hs, r'⟩ := asD_list S a hd
        split at p
        · rename_i n ns hn
          have := asInts_eq hn
          subst this
          have := r'.intsEq
          subst this
          refine cr_max hc pins s σ H _ us Q I r ⟨_, n :: ns, rfl, hs, by simp, fun m hm hy => ?_⟩
          obtain ⟨h1, h2⟩ := foldl_max ns n
          have : m = ns.foldl max n := Int.le_antisymm (h2 m hm) (hy _ h1)
          rw [this]
          exact p.now S (show Pd _ _ _ _ _ from .int _)
        · exact p.elim
      · exact p.elim
  · exact p.elim
theorem y_tru {e : Expr} {f : En → Sto → R W} (hK : C.K = X.K) (h : PE X e (rdE C f)) (he : ∀ whole, isTrue e X.env whole = (do let v ← whole; standAt e.pos; holding [v] (truthy v)) := by intro _; rfl) : PT X e (rdT C (dTru f)) := by
  obtain ⟨K, mg, E⟩ := C
  obtain rfl : K = X.K := hK
  refine PT.imp (pt_truth h he) fun σ H Q q => ?_
  obtain ⟨Z0, θ, ρ, st, S, N, p⟩ := q
  refine ⟨Z0, θ, ρ, st, S, N, Post.bind p fun w st1 θ1 H1 v _ e1 S1 w1 p1 => ?_⟩
  split at p1
  · cases w1
    exact ⟨_, rfl, p1.now S1 rfl⟩
  · split at p1
    · rename_i ws hw
      obtain ⟨a, vs, rfl, hs, r⟩ := items_sq S1 w1 hw
      have hl := r.length
      have em : (!ws.isEmpty) = !vs.isEmpty := by cases ws <;> cases vs <;> simp at hl ⊢
      refine ⟨!vs.isEmpty, ?_, by rw [← em]; exact p1.now S1 rfl⟩
      rcases hs with hs | hs
      · exact .inl ⟨vs, hs, rfl⟩
      · exact .inr (.inl ⟨vs, hs, rfl⟩)
    · exact p1.elim
end
end Y

namespace Y
open PySem PySem.Spec PyProof.Rows L2
/-! ### for x in a list of the store, which stays meanwhile -/
open Classical in
noncomputable def forS (n : Nat) (all : List W) (tg : W → En → Sto → R En) (body : DS) : List W → DS
  | [], ρ, st => if st[n]? = some (.lst all) then .ok (.nx, ρ) st else .bad
  | w :: ws, ρ, st => if st[n]? = some (.lst all) then (tg w ρ st).bind fun ρ1 s1 => (body ρ1 s1).bind fun a s2 => match a.1 with
    | .bk => .ok (.nx, a.2) s2
    | .rt w => .ok (.rt w, a.2) s2
    | _ => forS n all tg body ws a.2 s2
    else .bad
noncomputable def dForS (fe : En → Sto → R W) (tg : W → En → Sto → R En) (body : DS) : DS := fun ρ st => (fe ρ st).bind fun w s => match w with
  | .ref n => match s[n]? with
    | some (.lst ws) => forS n ws tg body ws ρ s
    | _ => .bad
  | _ => .bad
theorem forS_guard {C : Ct} {Z0 : Addr → Prop} {θ : List (Option Addr)} {H : Hp} {n : Nat} {all ws : List W} {tg : W → En → Sto → R En} {f : DS} {ρ : En} {st : Sto} {D : Ends} (h : PostS C Z0 θ H (forS n all tg f ws ρ st) D) : st[n]? = some (.lst all) := by
  refine Classical.byContradiction fun no => ?_
  cases ws with
  | nil => unfold forS at h; rw [if_neg no] at h; exact h.elim
  | cons w ws => unfold forS at h; rw [if_neg no] at h; exact h.elim
section
variable {X : Cx} {C : Ct}
theorem y_forS {vs : List Nat} {tgt iter : Expr} {body : List Stmt} {fe : En → Sto → R W} {tg : W → En → Sto → R En} {f : DS} {pos : Pos} (hK : C.K = X.K) (hp : PassesOwn (model X.prog X.w) X.A X.env X.xe) (hc : X.calm = true) (h : PE X iter (rdE C fe)) (hg : PG X tgt (rdG C vs tg)) (hb : PSs X body (rdS C f))
    (hs : ∀ x, foldedSetIterable iter X.env x = pure x := by intro _; rfl) : PS X (.For tgt iter body [] pos) (rdS C (dForS fe tg f)) := by
  obtain ⟨K, mg, E⟩ := C
  obtain rfl : K = X.K := hK
  refine PS.imp (ps_for hp hc (pi_list h) hg hb hs) fun D σ H q => ?_
  obtain ⟨Z0, θ, ρ, st, S, N, p⟩ := q
  refine ⟨Z0, θ, ρ, st, S, N, PostS.bindE p fun w st1 θ1 H1 v e1 S1 w1 p1 => ?_⟩
  split at p1
  · rename_i n
    split at p1
    · rename_i ws hw
      obtain ⟨a, us, rfl, ha, hA, rA⟩ := S1.at_ w1 hw
      refine ⟨a, rfl, ⟨us, .inl (.inl hA)⟩, ?_⟩
      refine ⟨fun i m σ2 H2 => ∃ θ2 ρ2 st2, Ext θ1 H1 θ2 H2 ∧ SR X.K Z0 θ2 st2 H2 ∧ EnR X.K (Zs Z0 θ2) θ2 H2 ρ2 σ2 ∧ i ≤ ws.length ∧ m = ws.length - i ∧ PostS ⟨X.K, mg, E⟩ Z0 θ2 H2 (forS n ws tg f (ws.drop i) ρ2 st2) D, ⟨ws.length, θ1, ρ, st1, Ext.refl, S1, N.ext e1, Nat.zero_le _, by omega, p1⟩, fun i m σ2 H2 hW => ?_⟩
      obtain ⟨θ2, ρ2, st2, e2, S2, N2, hl, rfl, p2⟩ := hW
      have hg2 := forS_guard p2
      have ha2 : θ2[n]? = some (some a) := by
        rcases e2.old n _ ha with z | z
        · exact z
        · rw [S2.dd n z] at hg2; cases hg2
      obtain ⟨xs, hX, rX⟩ := S2.obj n a _ ha2 hg2
      have qX : SqL X.K H2 a xs := .inl (.inl hX)
      by_cases hlt : i < ws.length
      · obtain ⟨x0, hx0, rx0⟩ := paired_get' rX (List.getElem?_eq_getElem hlt)
        refine .inr ⟨⟨xs, x0, qX, hx0⟩, fun σ3 H3 => ∃ θ3 ρ3 st3, Ext θ1 H1 θ3 H3 ∧ SR X.K Z0 θ3 st3 H3 ∧ EnR X.K (Zs Z0 θ3) θ3 H3 ρ3 σ3 ∧ PostS ⟨X.K, mg, E⟩ Z0 θ3 H3 (forS n ws tg f (ws.drop (i + 1)) ρ3 st3) D, fun σ3 H3 h3 => ?_, fun x H3 y => ?_⟩
        · obtain ⟨θ3, ρ3, st3, a1, a2, a3, a4⟩ := h3
          exact ⟨ws.length - (i + 1), by omega, θ3, ρ3, st3, a1, a2, a3, hlt, rfl, a4⟩
        · obtain ⟨rfl, y⟩ := y
          have hx : x = x0 := Option.some.inj ((y xs qX).symm.trans hx0)
          subst hx
          rw [List.drop_eq_getElem_cons hlt] at p2
          unfold forS at p2
          rw [if_pos hg2] at p2
          refine ⟨Z0, θ2, ρ2, st2, ws[i], S2, N2, rx0, PostS.bindE p2 fun ρ4 st4 θ4 H4 σ4 e4 S4 w4 p4 => ?_⟩
          refine ⟨Z0, θ4, ρ4, st4, S4, w4.1, PostS.bindS p4 fun fl ρ5 st5 θ5 H5 σ5 e5 S5 N5 p5 => ?_⟩
          have ee := (e2.trans e4).trans e5
          cases fl with
          | nx => exact ⟨θ5, ρ5, st5, ee, S5, N5, p5⟩
          | ct => exact ⟨θ5, ρ5, st5, ee, S5, N5, p5⟩
          | bk => exact p5.now S5 N5
          | rt w => exact p5.now S5 N5
      · have hi : i = ws.length := by omega
        subst hi
        rw [List.drop_length] at p2
        unfold forS at p2
        rw [if_pos hg2] at p2
        exact .inl ⟨⟨xs, qX, by rw [← rX.length]; exact Nat.le_refl _⟩, p2.now S2 N2⟩
    · exact p1.elim
  · exact p1.elim
end
end Y

namespace Y
open PySem PySem.Spec PyProof.Rows L2
/-! ### comprehensions over a list of the store -/
open Classical in
noncomputable def lcS (n : Nat) (all : List W) (tg : W → En → Sto → R En) (tt : En → Sto → R Bool) (fe : En → Sto → R W) (ρ : En) : List W → Sto → R (List W)
  | [], st => if st[n]? = some (.lst all) then .ok [] st else .bad
  | w :: ws, st => if st[n]? = some (.lst all) then (tg w ρ st).nox.bind fun ρ1 s1 => (tt ρ1 s1).nox.bind fun b s2 => if b = true then (fe ρ1 s2).nox.bind fun u s3 => (lcS n all tg tt fe ρ ws s3).bind fun us s4 => .ok (u :: us) s4
    else lcS n all tg tt fe ρ ws s2
    else .bad
noncomputable def dLcS (vs : List Nat) (fe0 : En → Sto → R W) (tg : W → En → Sto → R En) (tt : En → Sto → R Bool) (fe : En → Sto → R W) : En → Sto → R (List W) := fun ρ st => (fe0 ρ st).bind fun w s => match w with
  | .ref n => match s[n]? with
    | some (.lst ws) => (lcS n ws tg tt fe (wipeE ρ vs) ws s).bind fun us s2 => chk (us.length ≤ sizeLine) (.ok us s2)
    | _ => .bad
  | _ => .bad
section
variable {n : Nat} {all : List W} {tg : W → En → Sto → R En} {tt : En → Sto → R Bool} {fe : En → Sto → R W} {ρ : En}
theorem lcS_bad {ws : List W} {st : Sto} (no : ¬ st[n]? = some (.lst all)) : lcS n all tg tt fe ρ ws st = .bad := by
  cases ws <;> (unfold lcS; rw [if_neg no])
theorem lcS_noexc : ∀ {ws : List W} {st : Sto} {c : Str} {x : PyData} {s : Sto}, lcS n all tg tt fe ρ ws st = .exc c x s → False
  | [], st, c, x, s, h => by
    unfold lcS at h
    split at h <;> cases h
  | w :: ws, st, c, x, s, h => by
    by_cases hg : st[n]? = some (.lst all)
    · unfold lcS at h
      rw [if_pos hg] at h
      cases c1 : (tg w ρ st).nox with
      | bad => rw [c1] at h; cases h
      | exc c x s => exact nox_noexc c1
      | ok ρ1 s1 =>
        rw [c1, R.bind_ok] at h
        cases c2 : (tt ρ1 s1).nox with
        | bad => rw [c2] at h; cases h
        | exc c x s => exact nox_noexc c2
        | ok b s2 =>
          rw [c2, R.bind_ok] at h
          cases b with
          | false => exact lcS_noexc h
          | true =>
            rw [if_pos rfl] at h
            cases c3 : (fe ρ1 s2).nox with
            | bad => rw [c3] at h; cases h
            | exc c x s => exact nox_noexc c3
            | ok u s3 =>
              rw [c3, R.bind_ok] at h
              cases c4 : lcS n all tg tt fe ρ ws s3 with
              | bad => rw [c4] at h; cases h
              | exc c x s => exact lcS_noexc c4
              | ok us s4 => rw [c4] at h; cases h
    · rw [lcS_bad hg] at h; cases h
end
section
variable {C : Ct} {H : Hp}
theorem t_lcS {vs : List Nat} {fi : En → Sto → R W} {tg : W → En → Sto → R En} {tt : En → Sto → R Bool} {fe : En → Sto → R W} {σ : L2.St} {Q : VK} {Z0 : Addr → Prop} {θ : List (Option Addr)} {ρ : En} {st : Sto} {k : List W → Sto → R W}
    (S : SR C.K Z0 θ st H) (N : EnR C.K (Zs Z0 θ) θ H ρ σ) (p : Post C Z0 θ H (relW C.K Z0) ((dLcS vs fi tg tt fe ρ st).bind k) Q)
    (fin : ∀ us st2 θ1 H1 θ2 H2 D acc, Ext θ H θ1 H1 → Ext θ1 H1 θ2 H2 → SR C.K (Zp Z0 D) θ2 st2 H2 → H2 D = some (.lst acc) → H1 D = none → some D ∉ θ2 → ¬ Z0 D → WRs C.K (Zs (Zp Z0 D) θ2) θ2 H2 us acc → Post C Z0 θ1 H1 (relW C.K Z0) (k us st2) Q → Q (.ref D) H2) :
    tLc (iList C.K (rdE C fi)) (rdG C.nx vs tg) (rdT C.nx tt) (rdE C.nx fe) vs σ H Q := by
  unfold dLcS at p
  rw [R.bind_assoc] at p
  refine ⟨Z0, θ, ρ, st, S, N, Post.bind p fun w0 st1 θ1 H1 v0 _ e1 S1 w1 p1 => ?_⟩
  cases w0 with
  | d _ => exact p1.elim
  | scr _ => exact p1.elim
  | ref n =>
  cases hw : st1[n]? with
  | none => simp only [hw] at p1; exact p1.elim
  | some o =>
  cases o with
  | dead => simp only [hw] at p1; exact p1.elim
  | lst ws =>
  simp only [hw] at p1
  obtain ⟨a, us0, rfl, ha, hA0, rA0⟩ := S1.at_ w1 hw
  refine ⟨a, rfl, ⟨us0, .inl (.inl hA0)⟩, fun D hD => ?_⟩
  -- what is still to be made of the rest of the values
  refine ⟨fun i m H2 => ∃ θ2 st2 acc us, Ext θ1 H1 θ2 H2 ∧ SR C.K (Zp Z0 D) θ2 st2 H2 ∧ EnR C.K (Zs (Zp Z0 D) θ2) θ2 H2 (wipeE ρ vs) (L2.wipe σ vs) ∧ H2 D = some (.lst acc) ∧ some D ∉ θ2 ∧ WRs C.K (Zs (Zp Z0 D) θ2) θ2 H2 us acc ∧ i ≤ ws.length ∧ m = ws.length - i ∧
      Post C Z0 θ1 H1 (relW C.K Z0) ((((lcS n ws tg tt fe (wipeE ρ vs) (ws.drop i) st2).bind fun us' s => .ok (us ++ us') s).bind fun us s => chk (us.length ≤ sizeLine) (.ok us s)).bind k) Q, ⟨ws.length, θ1, st1, [], [], Ext.mut Ext.refl hD, sr_zp hD S1, enR_zp hD ((N.ext e1).wipe vs), upd_same, fun z => S1.notZ hD (.inl z), .nil, Nat.zero_le _, by omega, ?_⟩, fun i m H2 hW => ?_⟩
  · have e : ∀ (r : R (List W)), (r.bind fun us' s => R.ok ([] ++ us') s) = r := fun r => by cases r <;> rfl
    rw [e]; exact p1
  obtain ⟨θ2, st2, acc, us, e2, S2, N2, hA, hN, rA, hl, rfl, p2⟩ := hW
  have hg2 : st2[n]? = some (.lst ws) := Classical.byContradiction fun no => by
    rw [lcS_bad no] at p2
    exact p2.elim
  have ha2 : θ2[n]? = some (some a) := by
    rcases e2.old n _ ha with z | z
    · exact z
    · rw [S2.dd n z] at hg2; cases hg2
  obtain ⟨xs, hX, rX⟩ := S2.obj n a _ ha2 hg2
  have qX : SqL C.K H2 a xs := .inl (.inl hX)
  by_cases hlt : i < ws.length
  · obtain ⟨x0, hx0, rx0⟩ := paired_get' rX (List.getElem?_eq_getElem hlt)
    rw [List.drop_eq_getElem_cons hlt] at p2
    refine .inr ⟨⟨xs, x0, qX, hx0⟩, fun H3 => ∃ θ3 st3 acc us, Ext θ1 H1 θ3 H3 ∧ SR C.K (Zp Z0 D) θ3 st3 H3 ∧ EnR C.K (Zs (Zp Z0 D) θ3) θ3 H3 (wipeE ρ vs) (L2.wipe σ vs) ∧ H3 D = some (.lst acc) ∧ some D ∉ θ3 ∧ WRs C.K (Zs (Zp Z0 D) θ3) θ3 H3 us acc ∧
      Post C Z0 θ1 H1 (relW C.K Z0) ((((lcS n ws tg tt fe (wipeE ρ vs) (ws.drop (i + 1)) st3).bind fun us' s => .ok (us ++ us') s).bind fun us s => chk (us.length ≤ sizeLine) (.ok us s)).bind k) Q, fun H3 h3 => ?_, fun x H3 y => ?_⟩
    · obtain ⟨θ3, st3, acc3, us3, a1, a2, a3, a4, a5, a6, a7⟩ := h3
      exact ⟨ws.length - (i + 1), by omega, θ3, st3, acc3, us3, a1, a2, a3, a4, a5, a6, hlt, rfl, a7⟩
    · obtain ⟨rfl, y⟩ := y
      have hx : x = x0 := Option.some.inj ((y xs qX).symm.trans hx0)
      subst hx
      have e3 : Ext θ2 H3 θ2 H3 := Ext.refl
      have S3 := S2
      have w3 := rx0
      have keepD : ∀ {θ' : List (Option Addr)} {H' : Hp}, Ext θ2 H3 θ' H' → H' D = some (.lst acc) ∧ some D ∉ θ' := fun {θ' H'} e => by
        have hD3 := hA
        refine ⟨e.keep D _ hN hD3, fun z => ?_⟩
        rcases e.mem z with z | z
        · exact hN z
        · rw [hD3] at z; cases z
      unfold lcS at p2
      rw [if_pos hg2] at p2
      refine ⟨Zp Z0 D, θ2, wipeE ρ vs, st2, ws[i], S3, N2.ext e3, w3, ?_⟩
      cases c1 : tg ws[i] (wipeE ρ vs) st2 with
      | bad => rw [c1] at p2; exact p2.elim
      | exc c x s => rw [c1] at p2; exact p2.elim
      | ok ρ4 st4 =>
        rw [c1] at p2
        intro θ4 H4 σ4 e4 S4 w4
        refine ⟨w4.2.trans (wipe_wipe σ vs), Zp Z0 D, θ4, ρ4, st4, S4, w4.1, ?_⟩
        replace p2 : Post C Z0 θ1 H1 (relW C.K Z0) ((((((tt ρ4 st4).nox.bind fun b s2 => if b = true then (fe ρ4 s2).nox.bind fun u s3 => (lcS n ws tg tt fe (wipeE ρ vs) (ws.drop (i + 1)) s3).bind fun us s4 => .ok (u :: us) s4 else lcS n ws tg tt fe (wipeE ρ vs) (ws.drop (i + 1)) s2)).bind fun us' s => .ok (us ++ us') s).bind fun us s => chk (us.length ≤ sizeLine) (.ok us s)).bind k) Q := p2
        cases c2 : tt ρ4 st4 with
        | bad => rw [c2] at p2; exact p2.elim
        | exc c x s => rw [c2] at p2; exact p2.elim
        | ok b st5 =>
          rw [c2] at p2
          intro θ5 H5 b' e5 S5 w5
          cases w5
          have E5 := (e3.trans e4).trans e5
          cases b with
          | false =>
            rw [if_neg (by simp)]
            obtain ⟨d1, d2⟩ := keepD (e4.trans e5)
            exact ⟨θ5, st5, acc, us, e2.trans E5, S5, N2.ext E5, d1, d2, rA.ext E5, p2⟩
          | true =>
            rw [if_pos rfl]
            refine ⟨Zp Z0 D, θ5, ρ4, st5, S5, w4.1.ext e5, ?_⟩
            replace p2 : Post C Z0 θ1 H1 (relW C.K Z0) ((((((fe ρ4 st5).nox.bind fun u s3 => (lcS n ws tg tt fe (wipeE ρ vs) (ws.drop (i + 1)) s3).bind fun us s4 => .ok (u :: us) s4)).bind fun us' s => .ok (us ++ us') s).bind fun us s => chk (us.length ≤ sizeLine) (.ok us s)).bind k) Q := p2
            cases c3 : fe ρ4 st5 with
            | bad => rw [c3] at p2; exact p2.elim
            | exc c x s => rw [c3] at p2; exact p2.elim
            | ok u st6 =>
              rw [c3] at p2
              intro θ6 H6 y' e6 S6 w6
              have E6 := E5.trans e6
              obtain ⟨d1, d2⟩ := keepD ((e4.trans e5).trans e6)
              have hzD : Zs (Zp Z0 D) θ6 D := .inr (.inl rfl)
              have eqn : (((((R.ok u st6).nox.bind fun u s3 => (lcS n ws tg tt fe (wipeE ρ vs) (ws.drop (i + 1)) s3).bind fun us s4 => .ok (u :: us) s4)).bind fun us' s => R.ok (us ++ us') s)) = ((lcS n ws tg tt fe (wipeE ρ vs) (ws.drop (i + 1)) st6).bind fun us' s => .ok ((us ++ [u]) ++ us') s) := by
                show (((lcS n ws tg tt fe (wipeE ρ vs) (ws.drop (i + 1)) st6).bind fun us s4 => R.ok (u :: us) s4).bind fun us' s => R.ok (us ++ us') s) = _
                cases lcS n ws tg tt fe (wipeE ρ vs) (ws.drop (i + 1)) st6 <;> simp
              rw [eqn] at p2
              have hlen : us.length < sizeLine := by
                cases c4 : lcS n ws tg tt fe (wipeE ρ vs) (ws.drop (i + 1)) st6 with
                | bad => rw [c4] at p2; exact p2.elim
                | exc c x s => exact (lcS_noexc c4).elim
                | ok us' s =>
                  rw [c4] at p2
                  have p3 : Post C Z0 θ1 H1 (relW C.K Z0) ((chk (((us ++ [u]) ++ us').length ≤ sizeLine) (R.ok ((us ++ [u]) ++ us') s)).bind k) Q := p2
                  by_cases hc : ((us ++ [u]) ++ us').length ≤ sizeLine
                  · simp only [List.length_append, List.length_singleton] at hc; omega
                  · unfold Y.chk at p3; rw [if_neg hc] at p3; exact p3.elim
              refine ⟨acc, d1, by rw [← rA.length]; exact hlen, θ6, st6, acc ++ [y'], us ++ [u], Ext.mut (e2.trans E6) hD, sr_apart d1 (.inl rfl) S6, enR_apart d1 hzD (N2.ext E6), upd_same, d2, ?_, p2⟩
              exact paired_snoc (Paired.imp (fun _ _ => wr_apart d1 hzD) (rA.ext E6)) (wr_apart d1 hzD w6)
  · have hi : i = ws.length := by omega
    subst hi
    rw [List.drop_length] at p2
    unfold lcS at p2
    rw [if_pos hg2] at p2
    refine .inl ⟨⟨xs, qX, by rw [← rX.length]; exact Nat.le_refl _⟩, ?_⟩
    replace p2 : Post C Z0 θ1 H1 (relW C.K Z0) ((chk ((us ++ []).length ≤ sizeLine) (R.ok (us ++ []) st2)).bind k) Q := p2
    rw [List.append_nil] at p2
    by_cases hc : us.length ≤ sizeLine
    · rw [chk_ok hc] at p2
      exact fin us st2 θ1 H1 θ2 H2 D acc e1 e2 S2 hA hD hN (fun z => S1.z0 D z hD) rA p2
    · unfold Y.chk at p2; rw [if_neg hc] at p2; exact p2.elim
theorem t_lcSF {vs : List Nat} {f0 : En → Sto → R W} {tg : W → En → Sto → R En} {tt : En → Sto → R Bool} {fe : En → Sto → R W} {σ : L2.St} {Q : VK} (q : rdE C (dLcF (dLcS vs f0 tg tt fe)) σ H Q) : tLc (iList C.K (rdE C f0)) (rdG C.nx vs tg) (rdT C.nx tt) (rdE C.nx fe) vs σ H Q := by
  obtain ⟨Z0, θ, ρ, st, S, N, p⟩ := q
  refine t_lcS S N p fun us st2 θ1 H1 θ2 H2 D acc e1 e2 S2 hA hD hN hz rA p2 => ?_
  split at p2
  · rename_i ds hd
    exact p2 θ2 H2 _ e2 (sr_unzp S2) (show Pd _ _ _ _ _ from .lst ⟨.inl hA, fun z => z.elim hN hz⟩ ((wrs_zs (Z0 := Zp Z0 D) (Z1 := Z0) (fun a z => .inl (.inr z)) rA).pd hd))
  · exact p2.elim
theorem t_lcSN {vs : List Nat} {f0 : En → Sto → R W} {tg : W → En → Sto → R En} {tt : En → Sto → R Bool} {fe : En → Sto → R W} {σ : L2.St} {Q : VK} (q : rdE C (dLcN (dLcS vs f0 tg tt fe)) σ H Q) : tLc (iList C.K (rdE C f0)) (rdG C.nx vs tg) (rdT C.nx tt) (rdE C.nx fe) vs σ H Q := by
  obtain ⟨Z0, θ, ρ, st, S, N, p⟩ := q
  refine t_lcS S N p fun us st2 θ1 H1 θ2 H2 D acc e1 e2 S2 hA hD hN hz rA p2 => ?_
  exact p2 (θ2 ++ [some D]) H2 (.ref D) (ext_push e2 hD) (sr_push S2 hA hN hz rA) ⟨some D, by rw [← S2.len]; simp, fun a e => by cases e; rfl⟩
variable {X : Cx}
theorem y_lcSF {elt tgt iter : Expr} {ifs : List Expr} {scope : Scope} {own : List (Str × Nat)} {pos : Pos} {f0 : En → Sto → R W} {tg : W → En → Sto → R En} {tt : En → Sto → R Bool} {fe : En → Sto → R W} (hK : C.K = X.K) (hc : X.calm = true) (hN : X.N.Nodup) (hi : PE X iter (rdE C f0)) (ok : BlkOk X.N X.env.scope scope own)
    (hg : ∀ (s : Shared) (H : Hp) (A : Addr) (cl : List (Str × Addr)) (fp : List Addr), PG (X.blk s H scope (compEnvC scope cl A X.env) fp) tgt (rdG C.nx (own.map (·.2)) tg))
    (ht : ∀ (s : Shared) (H : Hp) (A : Addr) (cl : List (Str × Addr)) (fp : List Addr), PTs (X.blk s H scope (compEnvC scope cl A X.env) fp) ifs (rdT C.nx tt))
    (he : ∀ (s : Shared) (H : Hp) (A : Addr) (cl : List (Str × Addr)) (fp : List Addr), PE (X.blk s H scope (compEnvC scope cl A X.env) fp) elt (rdE C.nx fe)) (hs : ∀ x, foldedSetIterable iter X.env x = pure x := by intro _; rfl) :
    PE X (.ListComp elt [⟨tgt, iter, ifs, 0⟩] scope pos) (rdE C (dLcF (dLcS (own.map (·.2)) f0 tg tt fe))) := by
  obtain ⟨K, mg, E⟩ := C
  obtain rfl : K = X.K := hK
  exact PE.imp (pe_lc hc hN (pi_list hi) ok hg ht he hs) fun _ _ _ => t_lcSF
theorem y_lcSN {elt tgt iter : Expr} {ifs : List Expr} {scope : Scope} {own : List (Str × Nat)} {pos : Pos} {f0 : En → Sto → R W} {tg : W → En → Sto → R En} {tt : En → Sto → R Bool} {fe : En → Sto → R W} (hK : C.K = X.K) (hc : X.calm = true) (hN : X.N.Nodup) (hi : PE X iter (rdE C f0)) (ok : BlkOk X.N X.env.scope scope own)
    (hg : ∀ (s : Shared) (H : Hp) (A : Addr) (cl : List (Str × Addr)) (fp : List Addr), PG (X.blk s H scope (compEnvC scope cl A X.env) fp) tgt (rdG C.nx (own.map (·.2)) tg))
    (ht : ∀ (s : Shared) (H : Hp) (A : Addr) (cl : List (Str × Addr)) (fp : List Addr), PTs (X.blk s H scope (compEnvC scope cl A X.env) fp) ifs (rdT C.nx tt))
    (he : ∀ (s : Shared) (H : Hp) (A : Addr) (cl : List (Str × Addr)) (fp : List Addr), PE (X.blk s H scope (compEnvC scope cl A X.env) fp) elt (rdE C.nx fe)) (hs : ∀ x, foldedSetIterable iter X.env x = pure x := by intro _; rfl) :
    PE X (.ListComp elt [⟨tgt, iter, ifs, 0⟩] scope pos) (rdE C (dLcN (dLcS (own.map (·.2)) f0 tg tt fe))) := by
  obtain ⟨K, mg, E⟩ := C
  obtain rfl : K = X.K := hK
  exact PE.imp (pe_lc hc hN (pi_list hi) ok hg ht he hs) fun _ _ _ => t_lcSN
end
end Y

namespace Y
open PySem PySem.Spec PyProof.Rows L2
/-! ### set(xs), sorted(set(xs)) for a list of ints -/
section
variable {P : Program} {w : World} {A : Around} {E : Value → Shared → Prop} {s : Shared}
/-- a set that has nothing yet -/
abbrev noSet (w : World) : Obj := { cls := .type "set", dict := none, data := .set #[] 0 (.fresh 0 0 (!w.params.followText "set-order")) }
/-- the heap with it, last -/
abbrev withNo (w : World) (s : Shared) : Heap := s.heap.push (noSet w)
def SetMade (w : World) (s : Shared) (ns : List Int) (s' : Shared) : Prop :=
  ∃ h' tk c, s' = { s with heap := h', toks := tk } ∧ SetR w h' s.heap.objs.size (fun j => decide (j ∈ ns)) c ∧ c ≤ ns.length ∧ (∀ b o, s.heap.get? b = some o → h'.get? b = some o)
set_option maxHeartbeats 3200000 in
theorem set_ints_init {l : Addr} {its : Array Value} {ns : List Int} (hh : A.handled = none) (hl : s.heap.IsList l its) (hi : IntsAre its.toList ns) (hb : ns.length + 1 < scanBound) (hT : Shared.TypeIs { s with heap := withNo w s } (.ref s.heap.objs.size) "set") :
    codeAny (model P w) A (.call (.builtin "set.__init__") ⟨[.ref s.heap.objs.size, .ref l], []⟩) (wants (fun r s₂ => r = .none ∧ SetMade w s ns s₂) E) { s with heap := withNo w s } := by
  have hk : its.size = ns.length := by have q := IntsAre.length hi; rwa [Array.length_toList] at q
  have hS : (withNo w s).get? s.heap.objs.size = some (noSet w) := Heap.get?_push_size _ rfl
  obtain ⟨⟨oc, od, oa, os⟩, ho, e1, nl, e2⟩ := hl
  simp only at e1 e2
  subst e1 e2
  have ho' : (withNo w s).get? l = some { cls := .type "list", dict := od, data := .seq its nl, slots := os } := Heap.get?_push_of_some _ ho
  have hl1 : (withNo w s).IsList l its := ⟨_, ho', rfl, nl, rfl⟩
  refine codeAny_call_builtin F.called_set.init.plain F.entry_set_init (check_set_init_1 hT ?_)
  have q1 := F.sub_list_set; have q2 := F.sub_list_frozenset
  have q3 : (Value.type "list" == Value.type "dict") = false := rfl
  unfold Builtin.«set.__init__» noKeywords Builtin.Frozenset.updateFrom
  generalize hPI : pyIter = PI
  wp_walk
  subst hPI
  refine wpAny_pyIter_list hl1 (wpAny_bind (wpAny_runValue ?_))
  have lS : l < s.heap.objs.size := Heap.lt_size ho
  have h3 : A.in1.in1.handled = none := by simp [hh]
  have z : (withNo w s).objs.size = s.heap.objs.size + 1 := Heap.size_push ..
  have nI : l ≠ (withNo w s).objs.size := by rw [z]; exact Nat.ne_of_lt (Nat.lt_succ_of_lt lS)
  have hSf : s.heap.objs.size ∉ [(withNo w s).objs.size, l] := by
    intro m
    rcases List.mem_cons.mp m with m | m
    · exact absurd (m.trans z) (Nat.ne_of_lt (Nat.lt_succ_self _))
    · exact absurd (List.mem_singleton.mp m).symm (Nat.ne_of_lt lS)
  refine set_update_ints ((Walks.list h3 _ l nI its).toS) s.heap.objs.size hSf ns hk hb (fun i v hv => ?_) (its.size - 0) 0 _ (by omega) (Nat.zero_le _) ?_ ?_ ?_
  · have hi' : i < ns.length := by rw [← hk]; exact (Array.getElem?_eq_some_iff.mp hv).1
    obtain ⟨t, e⟩ := PyProof.Rows.IntsAre.int_at hi i v (by rwa [Array.getElem?_toList])
    refine ⟨ns[i], t, List.getElem?_eq_getElem hi', ?_⟩
    rw [e, List.getD_eq_getElem?_getD, List.getElem?_eq_getElem hi'] <;> rfl
  · exact ⟨⟨_, Heap.get?_push_size _ rfl, rfl, rfl⟩, hl1.push _⟩
  · exact ⟨0, Nat.le_refl 0, setR_new_at (w := w) (Heap.get?_push_of_some _ hS)⟩
  · intro s' c' hm hc' hS'
    obtain ⟨h', g2, d', tk', os'⟩ := s'
    have eg : g2 = s.gens := hm.gens
    have ed : d' = s.drawn := hm.drawn
    have eo : os' = s.os := hm.os
    subst eg ed eo
    show wpAny _ _ _ _ _ _
    refine wpAny_pure ?_
    show wpAny _ _ (ret Value.none) _ _ _
    refine wpAny_pure ⟨rfl, h', tk', c', rfl, hS', hk ▸ hc', fun b o e => hm.heap b o ?_ (Heap.get?_push_of_some _ (Heap.get?_push_of_some _ e))⟩
    have hb0 := Heap.lt_size e
    intro m
    rcases List.mem_cons.mp m with m | m
    · exact absurd m (Nat.ne_of_lt hb0)
    · exact absurd ((List.mem_singleton.mp m).trans z) (Nat.ne_of_lt (Nat.lt_succ_of_lt hb0))
set_option maxHeartbeats 3200000 in
theorem call_set_ints {l : Addr} {its : Array Value} (ns : List Int) {Q : Value → Shared → Prop} (hh : A.handled = none) (hl : s.heap.IsList l its) (hi : IntsAre its.toList ns) (hb : ns.length + 1 < scanBound)
    (k : ∀ s', SetMade w s ns s' → Q (.ref s.heap.objs.size) s') : wpAny (model P w) A (call (.type "set") [.ref l]) Q E s := by
  obtain ⟨c, tl, hmro⟩ := F.called_set.mro
  have a1 := F.called_set.made; have a2 := F.called_set.sub
  refine wpAny_call (codeAny_of_tree ?_)
  show wpAny _ _ (callAny (.type "set") _) _ _ _
  refine wpAny_pure ⟨Code.quiet_builtin _ (by decide +kernel), codeAny_builtin F.entry_type_call ?_⟩
  rw [Around.under_plain (weight_type_call_type "set" [.ref l] []) rfl]
  have a3 := F.called_set.notType; have a4 := F.called_set.canCreate
  have a5 := F.typeCall_set_1 (.ref l)
  repeat (any_goals (first | assumption | wp_step))
  refine codeAny_mono (code_set_led1 (.ref l) (E := E) (Q₁ := fun o s₁ => o = .ref s.heap.objs.size ∧ s₁ = { s with heap := withNo w s }) ⟨rfl, rfl⟩) fun r s₁ hr => ?_
  cases r with
  | error e => exact hr
  | ok fl =>
    cases fl with
    | ret obj =>
      obtain ⟨rfl, rfl⟩ := hr
      have hT : Shared.TypeIs { s with heap := withNo w s } (.ref s.heap.objs.size) "set" := ⟨_, Heap.get?_push_size _ rfl, rfl⟩
      have b1 := F.called_set.init.lookup
      have b2 := F.called_set.init.bind (.ref s.heap.objs.size)
      repeat (any_goals (first | assumption | wp_step))
      refine codeAny_mono (set_ints_init (P := P) (E := E) (A := _) (by simp [hh]) hl hi hb hT) fun r₂ s₂ hr₂ => ?_
      cases r₂ with
      | error e => exact hr₂
      | ok fl₂ =>
        cases fl₂ with
        | ret r =>
          obtain ⟨rfl, m⟩ := hr₂
          repeat (any_goals (first | assumption | wp_step))
          exact k _ m
        | _ => exact hr₂.elim
    | _ => exact hr.elim
end
end Y

namespace Y
open PySem PySem.Spec PyProof.Rows L2
theorem dd_len {α : Type} [DecidableEq α] : ∀ l : List α, (dd l).length ≤ l.length
  | [] => Nat.le_refl _
  | x :: l => by
    have ih := dd_len l
    simp only [dd]
    split <;> simp <;> omega
/-- once each, rising -/
noncomputable def srtU (ns : List Int) : List Int := srtI (dd ns)
theorem mem_srtU {ns : List Int} {x : Int} : x ∈ srtU ns ↔ x ∈ ns := by
  unfold srtU
  rw [(srtI_perm _).mem_iff, mem_dd]
theorem srtU_nodup (ns : List Int) : (srtU ns).Nodup := (srtI_perm _).nodup_iff.mpr (nodup_dd ns)
theorem srtU_pw (ns : List Int) : (srtU ns).Pairwise (· < ·) := by
  have h1 := srtI_pw (dd ns)
  have h2 := srtU_nodup ns
  unfold srtU at h2 ⊢
  exact (h1.and h2).imp fun {a b} h => by omega
theorem srtU_uniq {ns ms : List Int} (h : ms.Pairwise (· < ·)) (hm : ∀ x, x ∈ ms ↔ x ∈ ns) : ms = srtU ns := by
  refine srtI_uniq ?_ (h.imp fun {a b} q => by omega)
  exact (List.perm_ext_iff_of_nodup (h.imp fun {a b} q => by omega) (nodup_dd ns)).mpr fun a => by rw [hm, mem_dd]
noncomputable def gSortedSetI : List W → Sto → R W
  | [w], st => match asD st w with
    | some (.list ds) => match asInts ds with
        | some ns => chk (ns.length < 64) (.ok (.d (.list ((srtU ns).map .int))) st)
        | none => .bad
    | _ => .bad
  | _, _ => .bad
section
variable {X : Cx} {C : Ct}
def rSetI (K : PySem.W.Frag) (w : World) : List V → Hp → VK → Prop := fun vs H Q => ∃ (a : Addr) (ns : List Int), vs = [V.ref a] ∧ SqL K H a (ns.map V.int) ∧ ns.length ≤ 1000 ∧
  ∀ p, H p = none → Q (.ref p) (upd H p (SetO w p (fun j => decide (j ∈ ns)) (dd ns).length))
theorem cr_setI (hc : X.calm = true) : CallR X (.type "set") (rSetI X.K X.w) := by
  intro pins s σ H vs us Q I r h
  obtain ⟨a, ns, rfl, hs, hn, q⟩ := h
  obtain ⟨its, rv, hl, hz⟩ := I.list hs
  rw [Vals.ref1 r]
  refine call_set_ints ns (I.ok.hd hc) hl.isList rv.ints (by unfold scanBound; omega) fun s' m => ?_
  obtain ⟨h', tk, c, rfl, hR, hcl, hk⟩ := m
  have e := setR_len hR
  subst e
  exact ⟨.ref _, upd H s.heap.objs.size (SetO X.w s.heap.objs.size (fun j => decide (j ∈ ns)) (dd ns).length), I.laid (t' := tk) (fun b u e => hk b u e) (Nat.le_refl _) (setO_new hR), rfl, q _ (I.hok.fresh (Nat.le_refl _))⟩
theorem y_sortedSetI {a : Expr} {fa : En → Sto → R W} {p p2 q pos : Pos} (hK : C.K = X.K) (hc : X.calm = true) (hg : Gl X "sorted") (hm : X.mg "sorted" = none) (hg2 : Gl X "set") (hm2 : X.mg "set" = none) (ha : PE X a (rdE C fa))
    (he : starEach [a] X.env = (false, eval a X.env) :: starEach [] X.env := by rfl) : PE X (.Call (.Name "sorted" p) [.Call (.Name "set" p2) [a] [] q] [] pos) (rdE C (dCall gSortedSetI (dCons fa dNil))) := by
  obtain ⟨K, mg, E⟩ := C
  obtain rfl : K = X.K := hK
  refine PE.imp (pe_callB (cr_sortedSet hc) hg hm (by decide +kernel) (pa_cons (pe_callTy (cr_setI hc) hg2 hm2 (by decide +kernel) (pa_cons ha pa_nil he) (by decide) (by decide) he) pa_nil)) fun σ H Q h => ?_
  obtain ⟨Z0, θ, ρ, st, S, N, h⟩ := h
  refine ⟨Z0, θ, ρ, st, S, N, ?_⟩
  unfold dCall at h
  rw [show dCons fa dNil ρ st = (fa ρ st).bind fun w s => (dNil ρ s).bind fun ws s => .ok (w :: ws) s from rfl, R.bind_assoc] at h
  refine Post.bind h fun w st1 θ1 H1 v _ e1 S1 w1 p1 => ?_
  have p1 : Post ⟨X.K, mg, E⟩ Z0 θ1 H1 (relW X.K Z0) (gSortedSetI [w] st1) Q := p1
  unfold gSortedSetI at p1
  dsimp only at p1
  split at p1
  · rename_i ds hd
    obtain ⟨l, vs, rfl, hs, r'⟩ := asD_list S1 w1 hd
    split at p1
    · rename_i ns hn
      obtain ⟨h64, p1⟩ := p1.chk
      have := asInts_eq hn
      subst this
      have := r'.intsEq
      subst this
      refine ⟨l, ns, rfl, hs, by omega, fun a ha => ?_⟩
      have S2 := S1.alloc (o := SetO X.w a (fun j => decide (j ∈ ns)) (dd ns).length) ha
      have hle : (dd ns).length ≤ ns.length := dd_len ns
      refine ⟨a, _, _, rfl, upd_same, by omega, fun ms l' g1 g2 g3 hy => ?_⟩
      have : ms = srtU ns := srtU_uniq g1 fun x => by rw [g2, decide_eq_true_eq]
      subst this
      exact (Post.from (Ext.alloc ha) p1).newLst S2 hy (pdAll_ints _)
    · exact p1.elim
  · exact p1.elim
end
end Y

namespace MB
/-! ### largest plans and barriers, for people in a list -/
theorem count_flip {V : List Nat} (hV : V.Nodup) {x : Nat} (hx : x ∈ V) {p q : Nat → Bool} (hp : p x = false) (hq : q x = true) (h : ∀ v ∈ V, v ≠ x → p v = q v) : V.countP q = V.countP p + 1 := by
  induction V with
  | nil => cases hx
  | cons a V ih =>
    have hn := List.nodup_cons.mp hV
    by_cases e : a = x
    · subst e
      have : V.countP p = V.countP q := List.countP_congr fun v hv => by
        have := h v (List.mem_cons_of_mem _ hv) fun z => hn.1 (z ▸ hv)
        rw [this]
      rw [List.countP_cons_of_pos hq, List.countP_cons_of_neg (by simp [hp]), this]
    · have hx' : x ∈ V := by
        rcases List.mem_cons.mp hx with z | z
        · exact absurd z.symm e
        · exact z
      have i := ih hn.2 hx' fun v hv => h v (List.mem_cons_of_mem _ hv)
      have ha := h a List.mem_cons_self e
      rw [List.countP_cons, List.countP_cons, i, ha]
      omega
variable (adj : Nat → Nat → Prop)
/-- a plan: each one's partner, himself if he has none -/
structure Mt (V : List Nat) (m : Nat → Nat) : Prop where
  mem : ∀ v ∈ V, m v ∈ V
  inv : ∀ v ∈ V, m (m v) = v
  adj : ∀ v ∈ V, m v ≠ v → adj v (m v)
def miss (V : List Nat) (m : Nat → Nat) : Nat := V.countP fun v => decide (m v = v)
/-- a largest plan -/
structure Mx (V : List Nat) (m : Nat → Nat) : Prop where
  mt : Mt adj V m
  least : ∀ m', Mt adj V m' → miss V m ≤ miss V m'
def swap (m : Nat → Nat) (u v : Nat) : Nat → Nat := fun w => if w = u then v else if w = v then u else m w
variable {adj} (sym : ∀ u v, adj u v → adj v u)
include sym
theorem mt_swap {V : List Nat} {m : Nat → Nat} (h : Mt adj V m) {u v : Nat} (hu : u ∈ V) (hv : v ∈ V) (ne : u ≠ v) (a : adj u v) (mu : m u = u) (mv : m v = v) : Mt adj V (swap m u v) := by
  refine ⟨fun w hw => ?_, fun w hw => ?_, fun w hw hn => ?_⟩
  · unfold swap
    split
    · exact hv
    · split
      · exact hu
      · exact h.mem w hw
  · unfold swap
    by_cases e1 : w = u
    · subst e1; simp [Ne.symm ne]
    · by_cases e2 : w = v
      · subst e2; simp [e1]
      · have h1 : m w ≠ u := fun z => e1 (by have := h.inv w hw; rw [z, mu] at this; exact this.symm)
        have h2 : m w ≠ v := fun z => e2 (by have := h.inv w hw; rw [z, mv] at this; exact this.symm)
        simp [e1, e2, h1, h2, h.inv w hw]
  · unfold swap at hn ⊢
    by_cases e1 : w = u
    · subst e1; simpa using a
    · by_cases e2 : w = v
      · subst e2; simp [e1]; exact sym _ _ a
      · simp [e1, e2] at hn ⊢; exact h.adj w hw hn
theorem miss_swap {V : List Nat} (hV : V.Nodup) {m : Nat → Nat} {u v : Nat} (hu : u ∈ V) (hv : v ∈ V) (ne : u ≠ v) (mu : m u = u) (mv : m v = v) : miss V m = miss V (swap m u v) + 2 := by
  have h1 := count_flip hV hu (p := fun w => decide (m w = w) && decide (w ≠ u)) (q := fun w => decide (m w = w)) (by simp) (by simp [mu]) (fun w _ hw => by simp [hw])
  have h2 := count_flip hV hv (p := fun w => decide (swap m u v w = w)) (q := fun w => decide (m w = w) && decide (w ≠ u)) (by simp [swap, Ne.symm ne]; exact ne) (by simp [mv, Ne.symm ne]) (fun w _ hw => by
    by_cases e : w = u
    · subst e; simp [swap]; exact Ne.symm ne
    · simp [swap, e, hw])
  unfold miss
  omega
/-- two neighbours are not both left -/
theorem no_adj {V : List Nat} (hV : V.Nodup) {m : Nat → Nat} (h : Mx adj V m) {u v : Nat} (hu : u ∈ V) (hv : v ∈ V) (ne : u ≠ v) (a : adj u v) (mu : m u = u) (mv : m v = v) : False := by
  have h1 := h.least _ (mt_swap sym h.mt hu hv ne a mu mv)
  have h2 := miss_swap sym hV hu hv ne mu mv
  omega
/-- x and y make a pair, whoever had y is left -/
def turn (m : Nat → Nat) (x y : Nat) : Nat → Nat := fun w => if w = x then y else if w = y then x else if w = m y then m y else m w
theorem mt_turn {V : List Nat} {m : Nat → Nat} (h : Mt adj V m) {x y : Nat} (hx : x ∈ V) (hy : y ∈ V) (ne : x ≠ y) (a : adj x y) (mx : m x = x) (my : m y ≠ y) : Mt adj V (turn m x y) := by
  have hz : m (m y) = y := h.inv y hy
  have zx : m y ≠ x := fun e => ne (by rw [e, mx] at hz; exact hz)
  refine ⟨fun w hw => ?_, fun w hw => ?_, fun w hw hn => ?_⟩
  · unfold turn
    split
    · exact hy
    · split
      · exact hx
      · split
        · exact h.mem y hy
        · exact h.mem w hw
  · unfold turn
    by_cases e1 : w = x
    · subst e1; simp [Ne.symm ne]
    · by_cases e2 : w = y
      · subst e2; simp [e1]
      · by_cases e3 : w = m y
        · subst e3; simp [e1, e2]
        · have h1 : m w ≠ x := fun z => e1 (by have := h.inv w hw; rw [z, mx] at this; exact this.symm)
          have h2 : m w ≠ y := fun z => e3 (by have := h.inv w hw; rw [z] at this; exact this.symm)
          have h3 : m w ≠ m y := fun z => e2 (by have := h.inv w hw; rw [z, hz] at this; exact this.symm)
          simp [e1, e2, e3, h1, h2, h3, h.inv w hw]
  · unfold turn at hn ⊢
    by_cases e1 : w = x
    · subst e1; simpa using a
    · by_cases e2 : w = y
      · subst e2; simp [e1]; exact sym _ _ a
      · by_cases e3 : w = m y
        · subst e3; simp [e1, e2] at hn
        · simp [e1, e2, e3] at hn ⊢; exact h.adj w hw hn
theorem miss_turn {V : List Nat} (hV : V.Nodup) {m : Nat → Nat} (h : Mt adj V m) {x y : Nat} (hx : x ∈ V) (hy : y ∈ V) (ne : x ≠ y) (mx : m x = x) (my : m y ≠ y) : miss V (turn m x y) = miss V m := by
  have hz : m (m y) = y := h.inv y hy
  have zx : m y ≠ x := fun e => ne (by rw [e, mx] at hz; exact hz)
  have h1 := count_flip hV hx (p := fun w => decide (m w = w) && decide (w ≠ x)) (q := fun w => decide (m w = w)) (by simp) (by simp [mx]) (fun w _ hw => by simp [hw])
  have h2 := count_flip hV (h.mem y hy) (p := fun w => decide (m w = w) && decide (w ≠ x)) (q := fun w => decide (turn m x y w = w)) (by simp [hz]; intro e; exact absurd e.symm my) (by simp [turn, zx, my]) (fun w _ hw => by
    by_cases e1 : w = x
    · subst e1; simp [turn]; exact Ne.symm ne
    · by_cases e2 : w = y
      · subst e2; simp [turn, e1, my]; exact ne
      · simp [turn, e1, e2, hw])
  unfold miss
  omega
omit sym in
theorem count_lt {V : List Nat} (hV : V.Nodup) {x : Nat} (hx : x ∈ V) {p q : Nat → Bool} (hp : p x = false) (hq : q x = true) (h : ∀ v ∈ V, p v = true → q v = true) : V.countP p < V.countP q := by
  have h1 := count_flip hV hx (p := fun w => q w && decide (w ≠ x)) (q := q) (by simp) hq (fun w _ hw => by simp [hw])
  have h2 : V.countP p ≤ V.countP fun w => q w && decide (w ≠ x) := List.countP_mono_left fun w hw pw => by
    have : w ≠ x := by intro e; subst e; rw [hp] at pw; cases pw
    simp [h w hw pw, this]
  omega
def dis (V : List Nat) (M N : Nat → Nat) : Nat := V.countP fun v => decide (M v ≠ N v)
theorem mx_eq {V : List Nat} {M N : Nat → Nat} (h : Mx adj V M) (g : Mx adj V N) : miss V M = miss V N := Nat.le_antisymm (h.least _ g.mt) (g.least _ h.mt)
/-- Gallai: not both of u and v, if never u with t, never v with t -/
theorem no_two {V : List Nat} (hV : V.Nodup) {u v t : Nat} (hu : u ∈ V) (hv : v ∈ V) (ht : t ∈ V) (uv : u ≠ v)
    (nu : ∀ N, Mx adj V N → N u = u → N t = t → False) (nv : ∀ N, Mx adj V N → N v = v → N t = t → False) {M : Nat → Nat} (hM : Mx adj V M) (mu : M u = u) (mv : M v = v) :
    ∀ (k : Nat) (N : Nat → Nat), dis V M N ≤ k → Mx adj V N → N t = t → False := by
  have mt : M t ≠ t := fun e => nu M hM mu e
  intro k
  induction k with
  | zero =>
    intro N hd hN nt
    have hlt : V.countP (fun _ => false) < dis V M N := count_lt hV ht (p := fun _ => false) (q := fun w => decide (M w ≠ N w)) rfl (by simp [nt, mt]) (fun _ _ h => by cases h)
    omega
  | succ k ih =>
    intro N hd hN nt
    have Nu : N u ≠ u := fun e => nu N hN e nt
    have Nv : N v ≠ v := fun e => nv N hN e nt
    -- somebody else whom M serves and N leaves
    have ex : ∃ x ∈ V, x ≠ t ∧ N x = x ∧ M x ≠ x := by
      refine Classical.byContradiction fun no => ?_
      have all : ∀ w ∈ V, N w = w → w = t ∨ M w = w := fun w hw e => Classical.byContradiction fun z => no ⟨w, hw, fun y => z (.inl y), e, fun y => z (.inr y)⟩
      have c1 := count_flip hV hu (p := fun w => decide (M w = w) && decide (w ≠ u)) (q := fun w => decide (M w = w)) (by simp) (by simp [mu]) (fun w _ hw => by simp [hw])
      have c2 := count_flip hV hv (p := fun w => (decide (M w = w) && decide (w ≠ u)) && decide (w ≠ v)) (q := fun w => decide (M w = w) && decide (w ≠ u)) (by simp) (by simp [mv, Ne.symm uv]) (fun w _ hw => by simp [hw])
      have c3 := count_flip hV ht (p := fun w => decide (N w = w) && decide (w ≠ t)) (q := fun w => decide (N w = w)) (by simp) (by simp [nt]) (fun w _ hw => by simp [hw])
      have c4 : V.countP (fun w => decide (N w = w) && decide (w ≠ t)) ≤ V.countP fun w => (decide (M w = w) && decide (w ≠ u)) && decide (w ≠ v) := List.countP_mono_left fun w hw pw => by
        simp only [Bool.and_eq_true, decide_eq_true_eq] at pw ⊢
        have h1 := (all w hw pw.1).resolve_left pw.2
        exact ⟨⟨h1, fun e => Nu (e ▸ pw.1)⟩, fun e => Nv (e ▸ pw.1)⟩
      have c5 := mx_eq sym hM hN
      unfold miss at c5
      omega
    obtain ⟨x, hx, xt, nx, mx⟩ := ex
    have hy : M x ∈ V := hM.mt.mem x hx
    have yx : M (M x) = x := hM.mt.inv x hx
    have axy : adj x (M x) := hM.mt.adj x hx mx
    have ny : N (M x) ≠ M x := fun e => no_adj sym hV hN hx hy (Ne.symm mx) axy nx e
    have hN2 : Mx adj V (turn N x (M x)) := ⟨mt_turn sym hN.mt hx hy (Ne.symm mx) axy nx ny, fun m' h' => by rw [miss_turn sym hV hN.mt hx hy (Ne.symm mx) nx ny]; exact hN.least m' h'⟩
    have ty : t ≠ M x := fun e => ny (e ▸ nt)
    have tz : t ≠ N (M x) := fun e => by
      have := hN.mt.inv (M x) hy
      rw [← e, nt] at this
      exact ty this
    have nt2 : turn N x (M x) t = t := by simp [turn, Ne.symm xt, ty, tz, nt]
    have lt : dis V M (turn N x (M x)) < dis V M N := count_lt hV hx (by simp [turn]) (by simp [nx, mx]) (fun w hw pw => by
      simp only [decide_eq_true_eq] at pw ⊢
      by_cases e1 : w = x
      · subst e1; simp [turn] at pw
      · by_cases e2 : w = M x
        · subst e2; simp [turn, e1, yx] at pw
        · by_cases e3 : w = N (M x)
          · intro q
            rw [e3, hN.mt.inv (M x) hy, ← e3] at q
            have := hM.mt.inv w hw
            rw [q, yx] at this
            exact e1 this.symm
          · simp [turn, e1, e2, e3] at pw; exact pw)
    exact ih _ (by omega) hN2 nt2
/-- a way within V -/
inductive Way (adj : Nat → Nat → Prop) (V : List Nat) : Nat → Nat → Prop
  | nil {u : Nat} : u ∈ V → Way adj V u u
  | snoc {u t v : Nat} : Way adj V u t → v ∈ V → adj t v → Way adj V u v
omit sym in
theorem Way.mem {V : List Nat} {u v : Nat} (h : Way adj V u v) : u ∈ V ∧ v ∈ V := by
  induction h with
  | nil h => exact ⟨h, h⟩
  | snoc _ hv _ ih => exact ⟨ih.1, hv⟩
/-- if each one is left by some largest plan, no largest plan leaves two whom a way joins -/
theorem gallai {V : List Nat} (hV : V.Nodup) (free : ∀ t ∈ V, ∃ N, Mx adj V N ∧ N t = t) {u v : Nat} (w : Way adj V u v) : u ≠ v → ∀ M, Mx adj V M → M u = u → M v = v → False := by
  induction w with
  | nil _ => intro h; exact absurd rfl h
  | @snoc t v w hv a ih =>
    intro uv M hM mu mv
    have hu := w.mem.1
    have ht := w.mem.2
    by_cases e : u = t
    · subst e
      exact no_adj sym hV hM hu hv uv a mu mv
    · by_cases e2 : t = v
      · subst e2
        exact ih uv M hM mu mv
      · obtain ⟨N, hN, nt⟩ := free t ht
        exact no_two sym hV hu hv ht uv (fun N hN n1 n2 => ih e N hN n1 n2) (fun N hN n1 n2 => no_adj sym hV hN ht hv e2 a n2 n1) hM mu mv _ N (Nat.le_refl _) hN nt
/-- an involution of a list -/
structure Iv (V : List Nat) (m : Nat → Nat) : Prop where
  mem : ∀ v ∈ V, m v ∈ V
  inv : ∀ v ∈ V, m (m v) = v
omit sym in
theorem parity : ∀ (k : Nat) (V : List Nat), V.length ≤ k → V.Nodup → ∀ m, Iv V m → V.length % 2 = miss V m % 2 := by
  intro k
  induction k with
  | zero =>
    intro V hk _ m _
    have : V = [] := List.length_eq_zero_iff.mp (by omega)
    subst this
    rfl
  | succ k ih =>
    intro V hk hV m h
    cases V with
    | nil => rfl
    | cons a W =>
      have hn := List.nodup_cons.mp hV
      have wa : ∀ w ∈ W, w ≠ a := fun w hw e => hn.1 (e ▸ hw)
      by_cases e : m a = a
      · have hW : Iv W m := ⟨fun w hw => by
          have h1 := h.mem w (List.mem_cons_of_mem _ hw)
          rcases List.mem_cons.mp h1 with z | z
          · have := h.inv w (List.mem_cons_of_mem _ hw)
            rw [z, e] at this
            exact absurd this.symm (wa w hw)
          · exact z, fun w hw => h.inv w (List.mem_cons_of_mem _ hw)⟩
        have := ih W (by simp at hk; omega) hn.2 m hW
        unfold miss at this ⊢
        rw [List.countP_cons_of_pos (by simp [e]), List.length_cons]
        omega
      · have hb : m a ∈ W := by
          rcases List.mem_cons.mp (h.mem a List.mem_cons_self) with z | z
          · exact absurd z e
          · exact z
        have he : (W.erase (m a)).Nodup := hn.2.erase _
        have hW : Iv (W.erase (m a)) m := ⟨fun w hw => by
          obtain ⟨w1, w2⟩ := (hn.2.mem_erase_iff).mp hw
          have h1 := h.mem w (List.mem_cons_of_mem _ w2)
          refine (hn.2.mem_erase_iff).mpr ⟨fun z => ?_, ?_⟩
          · have := h.inv w (List.mem_cons_of_mem _ w2)
            rw [z, h.inv a List.mem_cons_self] at this
            exact wa w w2 this.symm
          · rcases List.mem_cons.mp h1 with z | z
            · have := h.inv w (List.mem_cons_of_mem _ w2)
              rw [z] at this
              exact absurd this.symm w1
            · exact z, fun w hw => h.inv w (List.mem_cons_of_mem _ (List.mem_of_mem_erase hw))⟩
        have hl : (W.erase (m a)).length + 1 = W.length := by
          rw [List.length_erase_of_mem hb]
          have := List.length_pos_of_mem hb
          omega
        have := ih (W.erase (m a)) (by simp at hk; omega) he m hW
        have hp : W.Perm (m a :: W.erase (m a)) := List.perm_cons_erase hb
        have hc : miss W m = miss (W.erase (m a)) m := by
          unfold miss
          rw [hp.countP_eq, List.countP_cons_of_neg]
          simp only [decide_eq_true_eq]
          rw [h.inv a List.mem_cons_self]
          exact fun z => e z.symm
        have hc2 : miss (a :: W) m = miss W m := by
          unfold miss
          rw [List.countP_cons_of_neg (by simp [e])]
        rw [hc2, hc, List.length_cons]
        omega
omit sym in
theorem Mt.iv {V : List Nat} {m : Nat → Nat} (h : Mt adj V m) : Iv V m := ⟨h.mem, h.inv⟩
omit sym in
theorem mx_ex (V : List Nat) : ∃ m, Mx adj V m := by
  have key : ∀ (k : Nat) (m : Nat → Nat), Mt adj V m → miss V m ≤ k → ∃ m, Mx adj V m := by
    intro k
    induction k with
    | zero => intro m h hk; exact ⟨m, h, fun m' _ => by omega⟩
    | succ k ih =>
      intro m h hk
      by_cases z : ∃ m', Mt adj V m' ∧ miss V m' < miss V m
      · obtain ⟨m', h1, h2⟩ := z
        exact ih m' h1 (by omega)
      · exact ⟨m, h, fun m' h' => Nat.not_lt.mp fun q => z ⟨m', h', q⟩⟩
  exact key _ id ⟨fun v hv => hv, fun v _ => rfl, fun v _ h => absurd rfl h⟩ (Nat.le_refl _)
/-- a lot whose taking away leaves many odd classes -/
structure Bar (adj : Nat → Nat → Prop) (V S L : List Nat) (f : Nat → Nat) : Prop where
  sn : S.Nodup
  ss : ∀ v ∈ S, v ∈ V
  same : ∀ u v, u ∈ V → v ∈ V → u ∉ S → v ∉ S → adj u v → f u = f v
  ln : L.Nodup
  odd : ∀ l ∈ L, (V.countP fun v => decide (v ∉ S) && decide (f v = l)) % 2 = 1
omit sym in
theorem Way.trans {V : List Nat} {a b c : Nat} (h : Way adj V a b) (g : Way adj V b c) : Way adj V a c := by
  induction g with
  | nil _ => exact h
  | snoc _ hv a ih => exact ih.snoc hv a
theorem Way.symm {V : List Nat} {a b : Nat} (h : Way adj V a b) : Way adj V b a := by
  induction h with
  | nil h => exact .nil h
  | snoc w hv a ih => exact Way.trans (.snoc (.nil hv) w.mem.2 (sym _ _ a)) ih
/-- Tutte and Berge: some lot leaves as many odd classes more than it has people as a largest plan leaves people -/
theorem berge : ∀ (k : Nat) (V : List Nat), V.length ≤ k → V.Nodup → ∀ M, Mx adj V M → ∃ S L f, Bar adj V S L f ∧ S.length + miss V M ≤ L.length := by
  intro k
  induction k with
  | zero =>
    intro V hk _ M _
    have : V = [] := List.length_eq_zero_iff.mp (by omega)
    subst this
    exact ⟨[], [], id, ⟨by simp, by simp, by simp, by simp, by simp⟩, by simp [miss]⟩
  | succ k ih =>
    intro V hk hV M hM
    by_cases free : ∀ t ∈ V, ∃ N, Mx adj V N ∧ N t = t
    · -- each part leaves one at most
      have one : ∀ {x y w : Nat}, Way adj V x w → Way adj V y w → M x = x → M y = y → x = y := fun {x y w} h g mx my =>
        Classical.byContradiction fun ne => gallai sym hV free (h.trans (g.symm sym)) ne M hM mx my
      let d : Nat := V.foldr max 0 + 1
      have dv : d ∉ V := fun h => by
        have : ∀ (W : List Nat) (x : Nat), x ∈ W → x ≤ W.foldr max 0 := by
          intro W
          induction W with
          | nil => intro x h; cases h
          | cons a W ihw =>
            intro x h
            rcases List.mem_cons.mp h with rfl | h
            · exact Nat.le_max_left _ _
            · exact Nat.le_trans (ihw x h) (Nat.le_max_right _ _)
        have := this V d h
        show False
        have : V.foldr max 0 + 1 ≤ V.foldr max 0 := this
        omega
      have pick : ∃ f : Nat → Nat, ∀ w, (∀ x, Way adj V x w → M x = x → f w = x) ∧ ((∀ x, Way adj V x w → M x ≠ x) → f w = d) := by
        refine ⟨fun w => @dite _ (∃ x, Way adj V x w ∧ M x = x) (Classical.propDecidable _) (fun h => Classical.choose h) (fun _ => d), fun w => ⟨fun x h1 h2 => ?_, fun h => ?_⟩⟩
        · have hx : ∃ x, Way adj V x w ∧ M x = x := ⟨x, h1, h2⟩
          dsimp only
          rw [dif_pos hx]
          obtain ⟨c1, c2⟩ := Classical.choose_spec hx
          exact one c1 h1 c2 h2
        · dsimp only
          rw [dif_neg fun ⟨x, h1, h2⟩ => h x h1 h2]
      obtain ⟨f, hf⟩ := pick
      have step : ∀ u v, u ∈ V → v ∈ V → adj u v → f u = f v := fun u v hu hv a => by
        by_cases z : ∃ x, Way adj V x u ∧ M x = x
        · obtain ⟨x, h1, h2⟩ := z
          rw [(hf u).1 x h1 h2, (hf v).1 x (h1.snoc hv a) h2]
        · have h1 : ∀ x, Way adj V x u → M x ≠ x := fun x h e => z ⟨x, h, e⟩
          have h2 : ∀ x, Way adj V x v → M x ≠ x := fun x h e => z ⟨x, h.snoc hu (sym _ _ a), e⟩
          rw [(hf u).2 h1, (hf v).2 h2]
      refine ⟨[], V.filter fun v => decide (M v = v), f, ⟨by simp, by simp, fun u v hu hv _ _ a => step u v hu hv a, hV.filter _, fun l hl => ?_⟩, by simp [miss, List.countP_eq_length_filter]⟩
      obtain ⟨lV, lm⟩ := List.mem_filter.mp hl
      have lm : M l = l := of_decide_eq_true lm
      have fl : f l = l := (hf l).1 l (.nil lV) lm
      have hW : (V.filter fun v => decide (f v = l)).Nodup := hV.filter _
      have iv : Iv (V.filter fun v => decide (f v = l)) M := ⟨fun w hw => by
        obtain ⟨w1, w2⟩ := List.mem_filter.mp hw
        refine List.mem_filter.mpr ⟨hM.mt.mem w w1, ?_⟩
        by_cases e : M w = w
        · rw [e]; exact w2
        · have := step w (M w) w1 (hM.mt.mem w w1) (hM.mt.adj w w1 e)
          rw [← this]; exact w2, fun w hw => hM.mt.inv w (List.mem_filter.mp hw).1⟩
      have pr := parity _ _ (Nat.le_refl _) hW M iv
      have m1 : miss (V.filter fun v => decide (f v = l)) M = 1 := by
        have c := count_flip hW (x := l) (List.mem_filter.mpr ⟨lV, by simp [fl]⟩) (p := fun _ => false) (q := fun v => decide (M v = v)) rfl (by simp [lm]) (fun w hw hn => by
          obtain ⟨w1, w2⟩ := List.mem_filter.mp hw
          have w2 : f w = l := of_decide_eq_true w2
          by_cases e : M w = w
          · have := (hf w).1 w (.nil w1) e
            rw [w2] at this
            exact absurd this.symm hn
          · simp [e])
        unfold miss
        rw [c]; simp
      rw [m1] at pr
      have e2 : (V.countP fun v => decide (v ∉ ([] : List Nat)) && decide (f v = l)) = (V.filter fun v => decide (f v = l)).length := by
        rw [List.countP_eq_length_filter]; simp
      rw [e2, pr]
    · -- somebody whom all largest plans serve
      have : ∃ v ∈ V, ∀ N, Mx adj V N → N v ≠ v := Classical.byContradiction fun no => free fun t ht => Classical.byContradiction fun z => no ⟨t, ht, fun N hN e => z ⟨N, hN, e⟩⟩
      obtain ⟨v, hv, all⟩ := this
      have hV2 : (V.erase v).Nodup := hV.erase _
      have hl : (V.erase v).length + 1 = V.length := by
        rw [List.length_erase_of_mem hv]
        have := List.length_pos_of_mem hv
        omega
      have hp : V.Perm (v :: V.erase v) := List.perm_cons_erase hv
      obtain ⟨N, hN⟩ := mx_ex (adj := adj) (V.erase v)
      obtain ⟨S, L, f, hB, hL⟩ := ih (V.erase v) (by omega) hV2 N hN
      have vE : v ∉ V.erase v := fun h => ((hV.mem_erase_iff).mp h).1 rfl
      have mE : ∀ w, w ∈ V → w ≠ v → w ∈ V.erase v := fun w hw ne => (hV.mem_erase_iff).mpr ⟨ne, hw⟩
      -- N and v alone
      have mtE : Mt adj V (fun w => if w = v then v else N w) := by
        refine ⟨fun w hw => ?_, fun w hw => ?_, fun w hw hn => ?_⟩
        · by_cases e : w = v
          · simp [e, hv]
          · simp only [e, if_false]; exact List.mem_of_mem_erase (hN.mt.mem w (mE w hw e))
        · by_cases e : w = v
          · simp [e]
          · have h1 := hN.mt.mem w (mE w hw e)
            have h2 : N w ≠ v := fun z => vE (z ▸ h1)
            simp [e, h2, hN.mt.inv w (mE w hw e)]
        · by_cases e : w = v
          · simp [e] at hn
          · simp only [e, if_false] at hn ⊢; exact hN.mt.adj w (mE w hw e) hn
      have msE : miss V (fun w => if w = v then v else N w) = miss (V.erase v) N + 1 := by
        unfold miss
        rw [hp.countP_eq, List.countP_cons_of_pos (by simp)]
        congr 1
        refine List.countP_congr fun w hw => ?_
        have : w ≠ v := fun e => vE (e ▸ hw)
        simp [this]
      have lt : miss V M < miss V (fun w => if w = v then v else N w) := by
        refine Nat.not_le.mp fun le => all _ ⟨mtE, fun m' h' => Nat.le_trans le (hM.least m' h')⟩ (by simp)
      have p1 := parity _ _ (Nat.le_refl _) hV M hM.mt.iv
      have p2 := parity _ _ (Nat.le_refl _) hV2 N hN.mt.iv
      refine ⟨v :: S, L, f, ⟨List.nodup_cons.mpr ⟨fun h => vE (hB.ss v h), hB.sn⟩, fun w hw => ?_, fun a b ha hb na nb ab => ?_, hB.ln, fun l hl' => ?_⟩, by rw [List.length_cons]; omega⟩
      · rcases List.mem_cons.mp hw with rfl | hw
        · exact hv
        · exact List.mem_of_mem_erase (hB.ss w hw)
      · simp only [List.mem_cons, not_or] at na nb
        exact hB.same a b (mE a ha na.1) (mE b hb nb.1) na.2 nb.2 ab
      · have := hB.odd l hl'
        rw [hp.countP_eq, List.countP_cons_of_neg (by simp)]
        rw [← this]
        congr 1
        refine List.countP_congr fun w hw => ?_
        have : w ≠ v := fun e => vE (e ▸ hw)
        simp [this]
omit sym in
theorem sub_len : ∀ (l m : List Nat), l.Nodup → (∀ x ∈ l, x ∈ m) → l.length ≤ m.length
  | [], _, _, _ => Nat.zero_le _
  | a :: l, m, h, hs => by
    have hn := List.nodup_cons.mp h
    have ha := hs a List.mem_cons_self
    have := sub_len l (m.erase a) hn.2 fun x hx => (List.mem_erase_of_ne (fun e : x = a => hn.1 (by rw [← e]; exact hx))).mpr (hs x (List.mem_cons_of_mem _ hx))
    rw [List.length_erase_of_mem ha] at this
    have := List.length_pos_of_mem ha
    simp only [List.length_cons]
    omega
omit sym in
/-- no lot leaves more odd classes than a plan leaves people, and it has people -/
theorem weak {V S L : List Nat} {f : Nat → Nat} (hV : V.Nodup) (b : Bar adj V S L f) {M : Nat → Nat} (hM : Mt adj V M) : L.length ≤ S.length + miss V M := by
  have pick : ∀ l ∈ L, ∃ x ∈ V, x ∉ S ∧ f x = l ∧ (M x = x ∨ M x ∈ S) := fun l hl => Classical.byContradiction fun no => by
    have hn : ∀ x ∈ V, x ∉ S → f x = l → M x ≠ x ∧ M x ∉ S := fun x hx hs hf => ⟨fun e => no ⟨x, hx, hs, hf, .inl e⟩, fun e => no ⟨x, hx, hs, hf, .inr e⟩⟩
    have hW : (V.filter fun v => decide (v ∉ S) && decide (f v = l)).Nodup := hV.filter _
    have iv : Iv (V.filter fun v => decide (v ∉ S) && decide (f v = l)) M := ⟨fun w hw => by
      obtain ⟨w1, w2⟩ := List.mem_filter.mp hw
      simp only [Bool.and_eq_true, decide_eq_true_eq] at w2
      obtain ⟨n1, n2⟩ := hn w w1 w2.1 w2.2
      refine List.mem_filter.mpr ⟨hM.mem w w1, ?_⟩
      simp only [Bool.and_eq_true, decide_eq_true_eq]
      exact ⟨n2, by rw [← b.same w (M w) w1 (hM.mem w w1) w2.1 n2 (hM.adj w w1 n1)]; exact w2.2⟩, fun w hw => hM.inv w (List.mem_filter.mp hw).1⟩
    have pr := parity _ _ (Nat.le_refl _) hW M iv
    have m0 : miss (V.filter fun v => decide (v ∉ S) && decide (f v = l)) M = 0 := by
      unfold miss
      rw [List.countP_eq_zero]
      intro w hw
      obtain ⟨w1, w2⟩ := List.mem_filter.mp hw
      simp only [Bool.and_eq_true, decide_eq_true_eq] at w2 ⊢
      exact (hn w w1 w2.1 w2.2).1
    have := b.odd l hl
    rw [List.countP_eq_length_filter, pr, m0] at this
    cases this
  have : ∃ g : Nat → Nat, ∀ l ∈ L, g l ∈ V ∧ g l ∉ S ∧ f (g l) = l ∧ (M (g l) = g l ∨ M (g l) ∈ S) :=
    ⟨fun l => @dite _ (l ∈ L) (Classical.propDecidable _) (fun h => Classical.choose (pick l h)) (fun _ => 0), fun l hl => by
      dsimp only
      rw [dif_pos hl]
      exact Classical.choose_spec (pick l hl)⟩
  obtain ⟨g, hg⟩ := this
  let e : Nat → Nat := fun l => M (g l)
  have inj : ∀ a ∈ L, ∀ c ∈ L, e a = e c → a = c := fun a ha c hc z => by
    obtain ⟨a1, a2, a3, a4⟩ := hg a ha
    obtain ⟨c1, c2, c3, c4⟩ := hg c hc
    have h1 := hM.inv (g a) a1
    have h2 := hM.inv (g c) c1
    have z : M (g a) = M (g c) := z
    rw [← a3, ← c3, ← h1, ← h2, z]
  have nd : (L.map e).Nodup := by
    unfold List.Nodup
    rw [List.pairwise_map]
    exact List.Pairwise.imp_of_mem (fun {a c} ha hc ne z => ne (inj a ha c hc z)) b.ln
  have sub : ∀ x ∈ L.map e, x ∈ S ++ V.filter fun v => decide (M v = v) := fun x hx => by
    obtain ⟨l, hl, rfl⟩ := List.mem_map.mp hx
    obtain ⟨a1, a2, a3, a4⟩ := hg l hl
    rcases a4 with h | h
    · exact List.mem_append_right _ (List.mem_filter.mpr ⟨by show M (g l) ∈ V; rw [h]; exact a1, by show decide (M (M (g l)) = M (g l)) = true; rw [h, h]; simp⟩)
    · exact List.mem_append_left _ h
  have := sub_len _ _ nd sub
  rw [List.length_map, List.length_append] at this
  unfold miss
  rw [List.countP_eq_length_filter]
  exact this
end MB

namespace BL
open PySem PySem.Spec PyProof.Rows L2 Y
/-! ### what all laws draw with -/
noncomputable abbrev F_l_any : Fn := F_any
noncomputable def B_l_of : DS :=
  (dRet (dBin vIx (dVar 1) (dCal 2 F_l_any (dCons (dVar 0) (dCons (dCall gLen (dCons (dVar 1) dNil)) dNil)))))
noncomputable def F_l_of : Fn := dDef 2 B_l_of
noncomputable def B_l_mixed : DS :=
  (dSeq (dPar 2 3 (dCons (dCall gListNew (dCons (dVar 1) dNil)) (dCons (dNew dNil) dNil)))
    (dSeq (dWhile (fun ρ st => asB (dBin (vEq true) (dVar 2) (dLst dNil) ρ st))
    (dExpr (dMeth mAppend (dVar 3) (dCons (dMeth mPopAt (dVar 2) (dCons (dCal 2 F_l_any (dCons (dVar 0) (dCons (dCall gLen (dCons (dVar 2) dNil)) dNil))) dNil)) dNil))))
    (dRet (dFz (dVar 3)))))
noncomputable def F_l_mixed : Fn := dDef 4 B_l_mixed
noncomputable def B_l_web : DS :=
  (dSeq (dPar 2 3 (dCons (dBin vAdd (dLit (.int 1)) (dCal 2 F_l_any (dCons (dVar 0) (dCons (dVar 1) dNil)))) (dCons (dNew dNil) dNil)))
    (dSeq (dSet 4 (dCal 2 F_l_mixed (dCons (dVar 0) (dCons (dListRng (dVar 2)) dNil))))
    (dSeq (dSet 5 (dCal 2 F_l_any (dCons (dVar 0) (dCons (dLit (.int 4)) dNil))))
    (dSeq (dIfS (fun ρ st => asB (dBin vLt (dVar 5) (dLit (.int 3)) ρ st))
    (dSet 3 (dLcN (dLc [8] (dRng1 (dCons (dBin vSub (dVar 2) (dLit (.int 1))) dNil)) (tName 8) (fun ρ st => asB (dBin vGt (dCal 2 F_l_any (dCons (dVar 0) (dCons (dLit (.int 8)) dNil))) (dLit (.int 0)) ρ st)) (dTup (dCons (dBin vIx (dVar 4) (dVar 8)) (dCons (dBin vIx (dVar 4) (dBin vAdd (dVar 8) (dLit (.int 1)))) dNil))))))
    dEnd)
    (dSeq (dIfS (dAnd (fun ρ st => asB (dBin (vEq false) (dVar 5) (dLit (.int 0)) ρ st)) (fun ρ st => asB (dBin vGt (dVar 2) (dLit (.int 2)) ρ st)))
    (dSeq (dSet 6 (dCal 2 F_l_of (dCons (dVar 0) (dCons (dLst (dCons (dLit (.int 3)) (dCons (dLit (.int 3)) (dCons (dLit (.int 5)) (dCons (dLit (.int 7)) (dCons (dVar 2) dNil)))))) dNil))))
    (dExpr (dMeth mAppend (dVar 3) (dCons (dTup (dCons (dBin vIx (dVar 4) (dLit (.int 0))) (dCons (dBin vIx (dVar 4) (dBin vSub (dCall gMin2 (dCons (dVar 6) (dCons (dVar 2) dNil))) (dLit (.int 1)))) dNil))) dNil))))
    dEnd)
    (dSeq (dFor (dRng1 (dCons (dIf (fun ρ st => asB (dBin vLt (dVar 5) (dLit (.int 3)) ρ st)) (dCal 2 F_l_any (dCons (dVar 0) (dCons (dBin vAdd (dVar 2) (dLit (.int 1))) dNil))) (dCal 2 F_l_any (dCons (dVar 0) (dCons (dBin vAdd (dBin vMul (dLit (.int 2)) (dVar 2)) (dLit (.int 1))) dNil)))) dNil)) (tName 7)
    (dExpr (dMeth mAppend (dVar 3) (dCons (dTup (dCons (dCal 2 F_l_any (dCons (dVar 0) (dCons (dVar 2) dNil))) (dCons (dCal 2 F_l_any (dCons (dVar 0) (dCons (dVar 2) dNil))) dNil))) dNil))))
    (dSeq (dFrz 3)
    (dRet (dTup (dCons (dVar 2) (dCons (dCall gTupleOf (dCons (dCall gSortedSet (dCons (dLcF (dLc [9] (dIter (dVar 3)) (tName 9) (fun ρ st => asB (dBin (vEq true) (dBin vIx (dVar 9) (dLit (.int 0))) (dBin vIx (dVar 9) (dLit (.int 1))) ρ st)) (dTup (dCons (dCall gMinT (dCons (dVar 9) dNil)) (dCons (dCall gMaxT (dCons (dVar 9) dNil)) dNil))))) dNil)) dNil)) dNil)))))))))))
noncomputable def F_l_web : Fn := dDef 10 B_l_web
theorem any_eq : F_l_any = F_any := rfl
theorem Dealt.get {n c j : Nat} {s s' : Sto} (h : Dealt n c s s') (hj : j < s.length) (h1 : j ≠ n) (h2 : j ≠ c) : s'[j]? = s[j]? := h.keep j hj h1 h2
theorem dealOk_lt {st : Sto} {n c : Nat} (h : DealOk st n c) : n < st.length ∧ c < st.length := by
  obtain ⟨cs, b, h1, h2, _⟩ := h
  exact ⟨(List.getElem?_eq_some_iff.mp h1).1, (List.getElem?_eq_some_iff.mp h2).1⟩
theorem dealOk_keep {s s' : Sto} {n c : Nat} (h : DealOk s n c) (k : ∀ j, j < s.length → s'[j]? = s[j]?) : DealOk s' n c := by
  obtain ⟨l1, l2⟩ := dealOk_lt h
  obtain ⟨cs, b, h1, h2, r⟩ := h
  exact ⟨cs, b, (k n l1).trans h1, (k c l2).trans h2, r⟩
theorem gLen_list {ds : List PyData} {st : Sto} : gLen [.d (.list ds)] st = .ok (I ds.length) st := by simp
theorem gLen_tup {ds : List PyData} {st : Sto} : gLen [.d (.tuple ds)] st = .ok (I ds.length) st := by simp
theorem F_of_ok {n c : Nat} {st : Sto} {ds : List PyData} (h : DealOk st n c) (h0 : ds ≠ []) (h1 : ds.length < 1073741824) : ∃ d st', F_l_of [.ref n, .d (.list ds)] st = .ok (.d d) st' ∧ d ∈ ds ∧ Dealt n c st st' := by
  have hp : 0 < ds.length := List.length_pos_iff.mpr h0
  obtain ⟨r, st', e, g1, g2, g3, g4⟩ := F_any_ok (k := ds.length) h (by omega) (by omega)
  obtain ⟨j, rfl⟩ := Int.eq_ofNat_of_zero_le g1
  have hj : j < ds.length := by omega
  exact ⟨ds[j], st', dDef_rt (dRet_ok (dBin_ok (dVar_ok rfl) (dCal_ok (dCons_ok (dVar_ok rfl) (dCons1_ok (dCall_ok (dCons1_ok (dVar_ok rfl)) gLen_list))) rfl (by simpa [any_eq] using e)) (vIx_list (List.getElem?_eq_getElem hj)))), List.getElem_mem hj, g3⟩
/-! ### in another order -/
abbrev cMx : En → Sto → R Bool := fun ρ st => asB (dBin (vEq true) (dVar 2) (dLst dNil) ρ st)
noncomputable abbrev bMx : DS := (dExpr (dMeth mAppend (dVar 3) (dCons (dMeth mPopAt (dVar 2) (dCons (dCal 2 F_l_any (dCons (dVar 0) (dCons (dCall gLen (dCons (dVar 2) dNil)) dNil))) dNil)) dNil)))
abbrev lst (ds : List PyData) : SO := .lst (ds.map W.d)
structure MixAt (n c a : Nat) (s : Sto) (left found : List PyData) : Prop where
  ok : DealOk s n c
  na : n < a
  ca : c < a
  len : s.length = a + 2
  l : s[a]? = some (lst left)
  f : s[a + 1]? = some (lst found)
theorem mx_test {n c a : Nat} {s : Sto} {left found : List PyData} {x : Option W} (h : MixAt n c a s left found) (hs : SeqAt.shaped (.list left) = true) : cMx [some (.ref n), x, some (.ref a), some (.ref (a + 1))] s = .ok (!left.isEmpty) s := by
  have e : asD s (.ref a) = some (.list left) := by simp [h.l, allD_map]
  refine asB_ok (dBin_ok (dVar_ok rfl) (dLst_ok (ds := []) rfl (by decide)) ?_)
  simp only [vEq, e]
  show chk _ _ = _
  rw [chk_ok ⟨hs, shaped_nil⟩]
  cases left <;> simp [PyData.eqv, PyData.eqvAll]
theorem dMeth_ok {G : W → List W → Sto → R W} {fo : En → Sto → R W} {fa : En → Sto → R (List W)} {ρ : En} {s s1 s2 : Sto} {m : Nat} {xs ws : List W} {r : R W} (h1 : fo ρ s = .ok (.ref m) s1) (h2 : s1[m]? = some (.lst xs)) (h3 : fa ρ s1 = .ok ws s2) (h4 : G (.ref m) ws s2 = r) : dMeth G fo fa ρ s = r := by
  unfold dMeth
  rw [h1, R.bind_ok]
  dsimp only
  rw [h2]
  dsimp only
  rw [h3, R.bind_ok, h4]
theorem erase_map {α β : Type} (f : α → β) (xs : List α) (j : Nat) : (xs.map f).eraseIdx j = (xs.eraseIdx j).map f := by
  rw [List.eraseIdx_eq_take_drop_succ, List.eraseIdx_eq_take_drop_succ, List.map_append, List.map_take, List.map_drop]
theorem lst_get {s : Sto} {a : Nat} {o : SO} (h : s[a]? = some o) {o' : SO} : (s.set a o')[a]? = some o' := List.getElem?_set_self (List.getElem?_eq_some_iff.mp h).1
theorem mx_turn {n c a : Nat} {s : Sto} {left found : List PyData} {x : Option W} (h : MixAt n c a s left found) (hl : left ≠ []) (hf : found.length + left.length ≤ 1000000) :
    ∃ left' found' s', bMx [some (.ref n), x, some (.ref a), some (.ref (a + 1))] s = .ok (.nx, [some (.ref n), x, some (.ref a), some (.ref (a + 1))]) s' ∧ MixAt n c a s' left' found' ∧ left'.length + 1 = left.length ∧ found'.length = found.length + 1 ∧ (left' ++ found').Perm (left ++ found) ∧ (∀ d ∈ left', d ∈ left) ∧ ∀ i, i < a → i ≠ n → i ≠ c → s'[i]? = s[i]? := by
  have hp : 0 < left.length := List.length_pos_iff.mpr hl
  obtain ⟨r, s1, e, g1, g2, g3, g4⟩ := F_any_ok (k := left.length) h.ok (by omega) (by omega)
  obtain ⟨j, rfl⟩ := Int.eq_ofNat_of_zero_le g1
  have hj : j < left.length := by omega
  have na := h.na
  have ca := h.ca
  have k1 : s1[a]? = some (lst left) := (g3.keep a (by have := h.len; omega) (by omega) (by omega)).trans h.l
  have k2 : s1[a + 1]? = some (lst found) := (g3.keep (a + 1) (by have := h.len; omega) (by omega) (by omega)).trans h.f
  have el : gLen [.ref a] s = .ok (I left.length) s := by simp [h.l]
  have pop : mPopAt (.ref a) [I j] s1 = .ok (.d left[j]) (s1.set a (lst (left.eraseIdx j))) := by
    simp only [mPopAt, k1, Int.toNat_natCast]
    rw [List.getElem?_map, List.getElem?_eq_getElem hj]
    show chk _ _ = _
    rw [chk_ok ⟨by omega, by omega⟩, erase_map]
  have k3 : (s1.set a (lst (left.eraseIdx j)))[a + 1]? = some (lst found) := by rw [List.getElem?_set_ne (by omega)]; exact k2
  have app : mAppend (.ref (a + 1)) [.d left[j]] (s1.set a (lst (left.eraseIdx j))) = .ok (.d .none) ((s1.set a (lst (left.eraseIdx j))).set (a + 1) (lst (found ++ [left[j]]))) := by
    simp only [mAppend, k3]
    rw [chk_ok (by rw [List.length_map, sizeLine_eq]; omega)]
    simp [lst]
  have k4 : ∀ i, i ≠ a → i ≠ a + 1 → ((s1.set a (lst (left.eraseIdx j))).set (a + 1) (lst (found ++ [left[j]])))[i]? = s1[i]? := fun i h1 h2 => by rw [List.getElem?_set_ne (Ne.symm h2), List.getElem?_set_ne (Ne.symm h1)]
  have dk : DealOk ((s1.set a (lst (left.eraseIdx j))).set (a + 1) (lst (found ++ [left[j]]))) n c := by
    obtain ⟨cs, b, h1, h2, r⟩ := g3.ok
    exact ⟨cs, b, (k4 n (by omega) (by omega)).trans h1, (k4 c (by omega) (by omega)).trans h2, r⟩
  refine ⟨left.eraseIdx j, found ++ [left[j]], _, dExpr_ok (dMeth_ok (dVar_ok rfl) h.f (dCons1_ok (dMeth_ok (dVar_ok rfl) h.l (dCons1_ok (dCal_ok (dCons_ok (dVar_ok rfl) (dCons1_ok (dCall_ok (dCons1_ok (dVar_ok rfl)) el))) rfl e)) pop)) app), ⟨dk, na, ca, by simp [g4, h.len], ?_, lst_get k3⟩, ?_, by simp, ?_, ?_, ?_⟩
  · rw [List.getElem?_set_ne (by omega)]; exact lst_get k1
  · rw [List.length_eraseIdx_of_lt hj]; omega
  · have hs : left.Perm (left[j] :: left.eraseIdx j) := by
      rw [List.eraseIdx_eq_take_drop_succ]
      have := List.perm_middle (a := left[j]) (l₁ := left.take j) (l₂ := left.drop (j + 1))
      rw [List.getElem_cons_drop, List.take_append_drop] at this
      exact this
    refine List.Perm.trans ?_ (List.Perm.append_right found hs.symm)
    rw [← List.append_assoc]
    exact (List.perm_append_comm).trans (by simp)
  · exact fun d hd => List.mem_of_mem_eraseIdx hd
  · intro i hi h1 h2
    rw [k4 i (by omega) (by omega)]
    exact g3.keep i (by have := h.len; omega) h1 h2
theorem mx_loop {n c a : Nat} {x : Option W} (k : Nat) : ∀ (s : Sto) (left found : List PyData), left.length = k → MixAt n c a s left found → found.length + left.length ≤ 1000000 → (∀ d ∈ left, Dk 60 d) →
    ∃ found' s', whileN cMx bMx (k + 1) [some (.ref n), x, some (.ref a), some (.ref (a + 1))] s = .ok (.nx, [some (.ref n), x, some (.ref a), some (.ref (a + 1))]) s' ∧ MixAt n c a s' [] found' ∧ found'.Perm (left ++ found) ∧ ∀ i, i < a → i ≠ n → i ≠ c → s'[i]? = s[i]? := by
  induction k with
  | zero =>
    intro s left found hk h hf hd
    have : left = [] := List.length_eq_zero_iff.mp hk
    subst this
    have t := mx_test (x := x) h ((Dk.lst hd).shaped (by decide))
    refine ⟨found, s, ?_, h, by simp, fun _ _ _ _ => rfl⟩
    show (cMx _ s).bind _ = _
    rw [t]; rfl
  | succ k ih =>
    intro s left found hk h hf hd
    have hl : left ≠ [] := by intro z; subst z; cases hk
    have t := mx_test (x := x) h ((Dk.lst hd).shaped (by decide))
    have ht : left.isEmpty = false := by cases left with | nil => exact absurd rfl hl | cons => rfl
    rw [ht] at t
    obtain ⟨l2, f2, s2, e, h2, q1, q2, q3, q5, q4⟩ := mx_turn (x := x) h hl hf
    have hd2 : ∀ d ∈ l2, Dk 60 d := fun d hd' => hd d (q5 d hd')
    obtain ⟨f3, s3, e3, h3, p3, u3⟩ := ih s2 l2 f2 (by omega) h2 (by omega) hd2
    refine ⟨f3, s3, ?_, h3, p3.trans q3, fun i hi a1 a2 => (u3 i hi a1 a2).trans (q4 i hi a1 a2)⟩
    show (cMx _ s).bind _ = _
    rw [t, R.bind_ok, if_pos (by rfl), e, R.bind_ok]
    exact e3
theorem F_mixed_ok {n c : Nat} {st : Sto} {ds : List PyData} (h : DealOk st n c) (hl : ds.length ≤ 1000000) (hd : ∀ d ∈ ds, Dk 60 d) : ∃ es st', F_l_mixed [.ref n, .d (.list ds)] st = .ok (.d (.list es)) st' ∧ es.Perm ds ∧ Dealt n c st st' := by
  obtain ⟨l1, l2⟩ := dealOk_lt h
  have kp : ∀ i, i < st.length → (st ++ [lst ds] ++ [lst []])[i]? = st[i]? := fun i hi => by
    rw [List.append_assoc, List.getElem?_append_left hi]
  have m0 : MixAt n c st.length (st ++ [lst ds] ++ [lst []]) ds [] := ⟨dealOk_keep h kp, l1, l2, by simp, by simp, by simp⟩
  obtain ⟨es, s2, e, h2, p2, u2⟩ := mx_loop (x := some (.d (.list ds))) ds.length _ ds [] rfl m0 (by simpa using hl) hd
  have e1 : (dPar 2 3 (dCons (dCall gListNew (dCons (dVar 1) dNil)) (dCons (dNew dNil) dNil))) [some (.ref n), some (.d (.list ds)), none, none] st = .ok (.nx, [some (.ref n), some (.d (.list ds)), some (.ref st.length), some (.ref (st.length + 1))]) (st ++ [lst ds] ++ [lst []]) := by
    simp [lst]
  have e3 : (dRet (dFz (dVar 3))) [some (.ref n), some (.d (.list ds)), some (.ref st.length), some (.ref (st.length + 1))] s2 = .ok (.rt (.d (.list es)), [some (.ref n), some (.d (.list ds)), some (.ref st.length), some (.ref (st.length + 1))]) (s2.set (st.length + 1) .dead) := by
    refine dRet_ok ?_
    unfold dFz
    simp [h2.f, lst, allD_map, -List.map_map]
  refine ⟨es, _, dDef_rt ((dSeq_nx e1).trans ((dSeq_nx (dWhile_of e (by simp))).trans e3)), by simpa using p2, ⟨by simp [h2.len], fun i hi a1 a2 => ?_, ?_⟩⟩
  · rw [List.getElem?_set_ne (by omega), u2 i hi a1 a2, kp i hi]
  · obtain ⟨cs, b, g1, g2, r⟩ := h2.ok
    exact ⟨cs, b, by rw [List.getElem?_set_ne (by omega)]; exact g1, by rw [List.getElem?_set_ne (by omega)]; exact g2, r⟩
/-! ### lists with a test that draws -/
theorem lcL_sub {α : Type} {tg : W → En → Sto → R En} {tt : En → Sto → R Bool} {fe : En → Sto → R W} {ρ : En} {emb g : α → W} {P : Sto → Prop} : ∀ (ws : List α) (s : Sto), P s → (∀ a ∈ ws, ∀ s, P s → ∃ ρ1 b s', tg (emb a) ρ s = .ok ρ1 s ∧ tt ρ1 s = .ok b s' ∧ P s' ∧ (b = true → fe ρ1 s' = .ok (g a) s')) → ∃ (sub : List α) (s' : Sto), sub.Sublist ws ∧ lcL tg tt fe ρ (ws.map emb) s = .ok (sub.map g) s' ∧ P s'
  | [], s, h, _ => ⟨[], s, .slnil, rfl, h⟩
  | a :: ws, s, h, t => by
    obtain ⟨ρ1, b, s1, h1, h2, h3, h4⟩ := t a List.mem_cons_self s h
    obtain ⟨sub, s2, g1, g2, g3⟩ := lcL_sub ws s1 h3 fun b hb => t b (List.mem_cons_of_mem _ hb)
    cases b with
    | true =>
      refine ⟨a :: sub, s2, .cons_cons a g1, ?_, g3⟩
      rw [List.map_cons, lcL_yes h1 h2 (h4 rfl), g2]; rfl
    | false =>
      refine ⟨sub, s2, .cons a g1, ?_, g3⟩
      rw [List.map_cons, lcL_no h1 h2, g2]
theorem perm_unmap {α β : Type} {f : α → β} {g : β → α} {l : List α} {es : List β} (hg : ∀ a, g (f a) = a) (p : es.Perm (l.map f)) : ∃ l' : List α, es = l'.map f ∧ l'.Perm l := by
  refine ⟨es.map g, ?_, ?_⟩
  · rw [List.map_map]
    have : ∀ e ∈ es, f (g e) = e := fun e he => by
      obtain ⟨a, _, rfl⟩ := List.mem_map.mp (p.mem_iff.mp he)
      rw [hg]
    have h2 := List.map_congr_left (f := f ∘ g) (g := id) (l := es) this
    rw [h2, List.map_id]
  · have := p.map g
    rw [List.map_map] at this
    have e : l.map (g ∘ f) = l := by
      have := List.map_congr_left (f := g ∘ f) (g := id) (l := l) fun a _ => hg a
      rw [this, List.map_id]
    rw [e] at this
    exact this
abbrev nI (i : Nat) : PyData := .int (i : Int)
def unI : PyData → Nat
  | .int i => i.toNat
  | _ => 0
theorem rng_ok {ρ : En} {st : Sto} {f : En → Sto → R W} {m : Nat} (h : f ρ st = .ok (I m) st) (hm : m ≤ 1000) : dListRng f ρ st = .ok (.d (.list ((List.range m).map nI))) st := by
  unfold dListRng
  rw [h, R.bind_ok]
  dsimp only
  rw [chk_ok ⟨by omega, by omega⟩, Int.toNat_natCast]
theorem mixed_rng {n c m : Nat} {st : Sto} (h : DealOk st n c) (hm : m ≤ 1000) : ∃ (σ : List Nat) (st' : Sto), F_l_mixed [.ref n, .d (.list ((List.range m).map nI))] st = .ok (.d (.list (σ.map nI))) st' ∧ σ.Perm (List.range m) ∧ Dealt n c st st' := by
  obtain ⟨es, s, e, p, d⟩ := F_mixed_ok (ds := (List.range m).map nI) h (by simp; omega) (fun x hx => by
    obtain ⟨i, _, rfl⟩ := List.mem_map.mp hx
    exact Dk.int _)
  obtain ⟨σ, rfl, q⟩ := perm_unmap (f := nI) (g := unI) (fun a => by simp [unI]) p
  exact ⟨σ, s, e, q, d⟩
/-! ### a drawn web -/
abbrev wP (p : P2) : W := .d (pD p)
def InM (m : Nat) (p : P2) : Prop := (0 ≤ p.1 ∧ p.1 < m) ∧ 0 ≤ p.2 ∧ p.2 < m
structure WebAt (n c b m : Nat) (s : Sto) (qs : List P2) : Prop where
  ok : DealOk s n c
  nb : b ≠ n
  cb : b ≠ c
  at_ : s[b]? = some (.lst (qs.map wP))
  inm : ∀ q ∈ qs, InM m q
theorem WebAt_dealt {n c b m : Nat} {s s' : Sto} {qs : List P2} (h : WebAt n c b m s qs) (d : Dealt n c s s') : WebAt n c b m s' qs :=
  ⟨d.ok, h.nb, h.cb, (d.keep b (List.getElem?_eq_some_iff.mp h.at_).1 h.nb h.cb).trans h.at_, h.inm⟩
theorem web_app {n c b m : Nat} {s : Sto} {qs : List P2} {q : P2} (h : WebAt n c b m s qs) (hq : InM m q) (hl : qs.length < 1000) : ∃ s', mAppend (.ref b) [wP q] s = .ok (.d .none) s' ∧ WebAt n c b m s' (qs ++ [q]) := by
  refine ⟨s.set b (.lst ((qs ++ [q]).map wP)), ?_, ?_⟩
  · simp only [mAppend, h.at_]
    rw [chk_ok (by rw [List.length_map, sizeLine_eq]; omega)]
    simp
  · refine ⟨?_, h.nb, h.cb, lst_get h.at_, fun x hx => ?_⟩
    · obtain ⟨cs, d, g1, g2, r⟩ := h.ok
      exact ⟨cs, d, by rw [List.getElem?_set_ne h.nb]; exact g1, by rw [List.getElem?_set_ne h.cb]; exact g2, r⟩
    · rcases List.mem_append.mp hx with hx | hx
      · exact h.inm x hx
      · have : x = q := by simpa using hx
        rw [this]; exact hq
theorem web_new {n c m : Nat} {s : Sto} {qs : List P2} (h : DealOk s n c) (hq : ∀ q ∈ qs, InM m q) : WebAt n c s.length m (s ++ [.lst (qs.map wP)]) qs := by
  obtain ⟨l1, l2⟩ := dealOk_lt h
  exact ⟨dealOk_keep h fun j hj => by rw [List.getElem?_append_left hj], by omega, by omega, by simp, hq⟩
theorem two_le : 2 ≤ sizeLine := by rw [sizeLine_eq]; decide
theorem dPar_ok {i j : Nat} {fa : En → Sto → R (List W)} {ρ : En} {s s1 : Sto} {w u : W} (h : fa ρ s = .ok [w, u] s1) : dPar i j fa ρ s = .ok (.nx, (ρ.set i (some w)).set j (some u)) s1 := by unfold dPar; rw [h]; rfl
theorem dNew_ok {fa : En → Sto → R (List W)} {ρ : En} {s s1 : Sto} {ws : List W} (h : fa ρ s = .ok ws s1) (hl : ws.length ≤ sizeLine) : dNew fa ρ s = .ok (.ref s1.length) (s1 ++ [.lst ws]) := by unfold dNew; rw [h, R.bind_ok, chk_ok hl]
theorem dLcN_ok {f : En → Sto → R (List W)} {ρ : En} {s s1 : Sto} {ws : List W} (h : f ρ s = .ok ws s1) : dLcN f ρ s = .ok (.ref s1.length) (s1 ++ [.lst ws]) := by unfold dLcN; rw [h]; rfl
theorem dFrz_ok {i b : Nat} {ρ : En} {s : Sto} {ds : List PyData} (h : ρ[i]? = some (some (.ref b))) (h2 : s[b]? = some (.lst (ds.map W.d))) : dFrz i ρ s = .ok (.nx, ρ.set i (some (.d (.list ds)))) (s.set b .dead) := by
  unfold dFrz
  rw [h]
  simp [h2, allD_map, -List.map_map]
theorem gSS_ok {ps : List P2} {st : Sto} (h : ps.length < 64) (hb : ∀ p ∈ ps, InB p) : gSortedSet [.d (.list (ps.map pD))] st = .ok (.d (.list ((srtS ps).map pD))) st := by
  unfold gSortedSet
  simp only [asD, asPairs_map]
  exact chk_ok ⟨h, hb⟩
theorem gS_pairs {ps : List P2} {st : Sto} (h : ps.length < 64) (hb : ∀ p ∈ ps, InB p) : gSorted [.d (.list (ps.map pD))] st = .ok (.d (.list ((srtP ps).map pD))) st := by
  cases ps with
  | nil =>
    have e : srtP [] = [] := by have := (srtP_perm []).length_eq; exact List.length_eq_zero_iff.mp (by simpa using this)
    have e2 : srtI [] = [] := by have := (srtI_perm []).length_eq; exact List.length_eq_zero_iff.mp (by simpa using this)
    simp [gSorted, asInts, e, e2]
  | cons p ps =>
    unfold gSorted
    simp only [asD]
    have e : asInts ((p :: ps).map pD) = none := rfl
    rw [e]
    simp only [asPairs_map]
    exact chk_ok ⟨h, hb⟩
theorem gS_ints {ns : List Int} {st : Sto} : gSorted [.d (.list (ns.map .int))] st = .ok (.d (.list ((srtI ns).map .int))) st := by
  unfold gSorted
  simp only [asD, asInts_map]
theorem any_ok {n c k : Nat} {st : Sto} (h : DealOk st n c) (h0 : 0 < k) (h1 : k < 1000000) : ∃ (j : Nat) (st' : Sto), F_l_any [.ref n, I k] st = .ok (I j) st' ∧ j < k ∧ Dealt n c st st' ∧ st'.length = st.length := by
  obtain ⟨r, s, e, g1, g2, g3, g4⟩ := F_any_ok (k := (k : Int)) h (by omega) (by omega)
  obtain ⟨j, rfl⟩ := Int.eq_ofNat_of_zero_le g1
  exact ⟨j, s, e, by omega, g3, g4⟩
section
variable {t n c : Nat} {e6 e7 e8 e9 : Option W}
abbrev We (t n m : Nat) (p row form : Option W) (e6 e7 e8 e9 : Option W) : En := [some (.ref n), some (I t), some (I m), p, row, form, e6, e7, e8, e9]
theorem we_step1 {st : Sto} (h : DealOk st n c) (ht1 : 1 ≤ t) (ht : t ≤ 20) : ∃ (m b : Nat) (s : Sto), (dPar 2 3 (dCons (dBin vAdd (dLit (.int 1)) (dCal 2 F_l_any (dCons (dVar 0) (dCons (dVar 1) dNil)))) (dCons (dNew dNil) dNil))) [some (.ref n), some (I t), none, none, none, none, none, none, none, none] st = .ok (.nx, We t n m (some (.ref b)) none none none none none none) s ∧ 1 ≤ m ∧ m ≤ 20 ∧ m ≤ t ∧ WebAt n c b m s [] := by
  obtain ⟨j, s, e, g1, g2, g3⟩ := any_ok (k := t) h (by omega) (by omega)
  refine ⟨1 + j, s.length, s ++ [.lst []], dPar_ok (w := I (1 + j : Nat)) (u := .ref s.length) (dCons_ok (dBin_ok rfl (dCal_ok (dCons_ok (dVar_ok rfl) (dCons1_ok (dVar_ok rfl))) rfl e) (by simp)) (dCons1_ok (dNew_ok rfl (by decide)))), by omega, by omega, by omega, ?_⟩
  exact web_new (qs := []) g2.ok (fun _ hq => nomatch hq)
theorem we_step2 {m b : Nat} {s : Sto} {qs : List P2} (h : WebAt n c b m s qs) (hm : m ≤ 20) : ∃ (σ : List Nat) (s' : Sto), (dSet 4 (dCal 2 F_l_mixed (dCons (dVar 0) (dCons (dListRng (dVar 2)) dNil)))) (We t n m (some (.ref b)) none none none none none none) s = .ok (.nx, We t n m (some (.ref b)) (some (.d (.list (σ.map nI)))) none none none none none) s' ∧ σ.Perm (List.range m) ∧ WebAt n c b m s' qs := by
  obtain ⟨σ, s', e, p, d⟩ := mixed_rng (m := m) h.ok (by omega)
  exact ⟨σ, s', dSet_ok (dCal_ok (dCons_ok (dVar_ok rfl) (dCons1_ok (rng_ok (dVar_ok rfl) (by omega)))) rfl e), p, WebAt_dealt h d⟩
theorem we_step3 {m b : Nat} {s : Sto} {qs : List P2} {p row : Option W} (h : WebAt n c b m s qs) : ∃ (k : Nat) (s' : Sto), (dSet 5 (dCal 2 F_l_any (dCons (dVar 0) (dCons (dLit (.int 4)) dNil)))) (We t n m p row none none none none none) s = .ok (.nx, We t n m p row (some (I k)) none none none none) s' ∧ WebAt n c b m s' qs := by
  obtain ⟨k, s', e, g1, g2, g3⟩ := any_ok (k := 4) h.ok (by decide) (by decide)
  exact ⟨k, s', dSet_ok (dCal_ok (dCons_ok (dVar_ok rfl) (dCons1_ok rfl)) rfl e), WebAt_dealt h g2⟩
theorem we_form {m : Nat} {s : Sto} {p row : Option W} {k : Nat} : asB (dBin vLt (dVar 5) (dLit (.int 3)) (We t n m p row (some (I k)) e6 e7 e8 e9) s) = .ok (decide ((k : Int) < 3)) s := asB_ok (dBin_ok (dVar_ok rfl) rfl rfl)
theorem row_at {σ : List Nat} {m : Nat} (hσ : σ.Perm (List.range m)) {i : Nat} (hi : i < m) : ∃ u, (σ.map nI)[i]? = some (nI u) ∧ u < m := by
  have hl : σ.length = m := by have := hσ.length_eq; simpa using this
  refine ⟨σ[i], by simp [hl, hi], ?_⟩
  have := hσ.mem_iff.mp (List.getElem_mem (show i < σ.length by omega))
  simpa using this
theorem we_step4 {m b k : Nat} {s : Sto} {qs : List P2} {σ : List Nat} (h : WebAt n c b m s qs) (hq : qs.length ≤ 19) (hσ : σ.Perm (List.range m)) (h1 : 1 ≤ m) (hm : m ≤ 20) : ∃ (b' : Nat) (qs' : List P2) (s' : Sto), (dIfS (fun ρ st => asB (dBin vLt (dVar 5) (dLit (.int 3)) ρ st))
    (dSet 3 (dLcN (dLc [8] (dRng1 (dCons (dBin vSub (dVar 2) (dLit (.int 1))) dNil)) (tName 8) (fun ρ st => asB (dBin vGt (dCal 2 F_l_any (dCons (dVar 0) (dCons (dLit (.int 8)) dNil))) (dLit (.int 0)) ρ st)) (dTup (dCons (dBin vIx (dVar 4) (dVar 8)) (dCons (dBin vIx (dVar 4) (dBin vAdd (dVar 8) (dLit (.int 1)))) dNil))))))
    dEnd) (We t n m (some (.ref b)) (some (.d (.list (σ.map nI)))) (some (I k)) none none none none) s = .ok (.nx, We t n m (some (.ref b')) (some (.d (.list (σ.map nI)))) (some (I k)) none none none none) s' ∧ WebAt n c b' m s' qs' ∧ qs'.length ≤ 19 := by
  by_cases hk : (k : Int) < 3
  · have key : ∀ i : Nat, i < m - 1 → ∃ p : P2, InM m p ∧ ∀ s, dTup (dCons (dBin vIx (dVar 4) (dVar 8)) (dCons (dBin vIx (dVar 4) (dBin vAdd (dVar 8) (dLit (.int 1)))) dNil)) (We t n m (some (.ref b)) (some (.d (.list (σ.map nI)))) (some (I k)) none none (some (I i)) none) s = .ok (wP p) s := by
      intro i hi
      obtain ⟨u, a1, a2⟩ := row_at hσ (i := i) (by omega)
      obtain ⟨v, b1, b2⟩ := row_at hσ (i := i + 1) (by omega)
      refine ⟨((u : Int), (v : Int)), ⟨⟨by omega, by simp; omega⟩, by omega, by simp; omega⟩, fun s => ?_⟩
      have hv : vAdd (I i) (.d (.int 1)) s = .ok (I (i + 1 : Nat)) s := by simp
      exact dTup_ok (ds := [nI u, nI v]) (dCons_ok (dBin_ok (dVar_ok rfl) (dVar_ok rfl) (vIx_list a1)) (dCons1_ok (dBin_ok (dVar_ok rfl) (dBin_ok (dVar_ok rfl) rfl hv) (vIx_list b1)))) two_le
    have : ∃ pf : Nat → P2, ∀ i, i < m - 1 → InM m (pf i) ∧ ∀ s, dTup (dCons (dBin vIx (dVar 4) (dVar 8)) (dCons (dBin vIx (dVar 4) (dBin vAdd (dVar 8) (dLit (.int 1)))) dNil)) (We t n m (some (.ref b)) (some (.d (.list (σ.map nI)))) (some (I k)) none none (some (I i)) none) s = .ok (wP (pf i)) s :=
      ⟨fun i => if hi : i < m - 1 then Classical.choose (key i hi) else (0, 0), fun i hi => by
        dsimp only
        rw [dif_pos hi]
        exact Classical.choose_spec (key i hi)⟩
    obtain ⟨pf, hpf⟩ := this
    obtain ⟨sub, s2, q1, q2, q3⟩ := lcL_sub (tg := tName 8) (tt := fun ρ st => asB (dBin vGt (dCal 2 F_l_any (dCons (dVar 0) (dCons (dLit (.int 8)) dNil))) (dLit (.int 0)) ρ st)) (fe := dTup (dCons (dBin vIx (dVar 4) (dVar 8)) (dCons (dBin vIx (dVar 4) (dBin vAdd (dVar 8) (dLit (.int 1)))) dNil))) (ρ := We t n m (some (.ref b)) (some (.d (.list (σ.map nI)))) (some (I k)) none none none none) (emb := fun i : Nat => W.d (.int i)) (g := fun i => wP (pf i)) (P := fun s => DealOk s n c) (List.range (m - 1)) s h.ok (fun i hi s hs => by
      obtain ⟨j, s', e, g1, g2, g3⟩ := any_ok (k := 8) hs (by decide) (by decide)
      exact ⟨We t n m (some (.ref b)) (some (.d (.list (σ.map nI)))) (some (I k)) none none (some (I i)) none, decide ((0 : Int) < (j : Int)), s', rfl, asB_ok (dBin_ok (dCal_ok (dCons_ok (dVar_ok rfl) (dCons1_ok rfl)) rfl e) rfl rfl), g2.ok, fun _ => (hpf i (List.mem_range.mp hi)).2 s'⟩)
    have hsub : sub.length ≤ m - 1 := by have := q1.length_le; simpa using this
    have hmem : ∀ i ∈ sub, i < m - 1 := fun i hi => List.mem_range.mp (q1.subset hi)
    have e8 : sub.map (fun i => wP (pf i)) = (sub.map pf).map wP := by rw [List.map_map]; rfl
    rw [e8] at q2
    have hT : asB (dBin vLt (dVar 5) (dLit (.int 3)) (We t n m (some (.ref b)) (some (.d (.list (σ.map nI)))) (some (I k)) none none none none) s) = .ok true s := (we_form (s := s) (e6 := none) (e7 := none) (e8 := none) (e9 := none)).trans (by rw [decide_eq_true hk])
    have hS : dBin vSub (dVar 2) (dLit (.int 1)) (We t n m (some (.ref b)) (some (.d (.list (σ.map nI)))) (some (I k)) none none none none) s = .ok (.d (.int ((m - 1 : Nat) : Int))) s := by
      have : (m : Int) - 1 = ((m - 1 : Nat) : Int) := by omega
      exact dBin_ok (dVar_ok rfl) rfl (by simp [this])
    refine ⟨s2.length, sub.map pf, s2 ++ [.lst ((sub.map pf).map wP)], dIfS_t hT (dSet_ok (dLcN_ok (dLc_ok (dRng1_ok (j := m - 1) (dCons1_ok hS) (by omega)) q2 (by rw [List.length_map, List.length_map, sizeLine_eq]; omega)))), web_new q3 (fun q hq => ?_), by rw [List.length_map]; omega⟩
    · obtain ⟨i, hi, rfl⟩ := List.mem_map.mp hq
      exact (hpf i (hmem i hi)).1
  · refine ⟨b, qs, s, dIfS_f ?_ rfl, h, hq⟩
    exact (we_form (s := s) (e6 := none) (e7 := none) (e8 := none) (e9 := none)).trans (by rw [decide_eq_false hk])
theorem we_step5 {m b k : Nat} {s : Sto} {qs : List P2} {σ : List Nat} (h : WebAt n c b m s qs) (hq : qs.length ≤ 19) (hσ : σ.Perm (List.range m)) (h1 : 1 ≤ m) (hm : m ≤ 20) : ∃ (e6 : Option W) (qs' : List P2) (s' : Sto), (dIfS (dAnd (fun ρ st => asB (dBin (vEq false) (dVar 5) (dLit (.int 0)) ρ st)) (fun ρ st => asB (dBin vGt (dVar 2) (dLit (.int 2)) ρ st)))
    (dSeq (dSet 6 (dCal 2 F_l_of (dCons (dVar 0) (dCons (dLst (dCons (dLit (.int 3)) (dCons (dLit (.int 3)) (dCons (dLit (.int 5)) (dCons (dLit (.int 7)) (dCons (dVar 2) dNil)))))) dNil))))
    (dExpr (dMeth mAppend (dVar 3) (dCons (dTup (dCons (dBin vIx (dVar 4) (dLit (.int 0))) (dCons (dBin vIx (dVar 4) (dBin vSub (dCall gMin2 (dCons (dVar 6) (dCons (dVar 2) dNil))) (dLit (.int 1)))) dNil))) dNil))))
    dEnd) (We t n m (some (.ref b)) (some (.d (.list (σ.map nI)))) (some (I k)) none none none none) s = .ok (.nx, We t n m (some (.ref b)) (some (.d (.list (σ.map nI)))) (some (I k)) e6 none none none) s' ∧ WebAt n c b m s' qs' ∧ qs'.length ≤ 20 := by
  have t1 : asB (dBin (vEq false) (dVar 5) (dLit (.int 0)) (We t n m (some (.ref b)) (some (.d (.list (σ.map nI)))) (some (I k)) none none none none) s) = .ok (decide ((k : Int) = 0)) s := by
    refine asB_ok (dBin_ok (dVar_ok rfl) rfl ?_)
    simp [vEq, shaped_int, PyData.eqv]
    by_cases z : k = 0 <;> simp [z]
  have t2 : asB (dBin vGt (dVar 2) (dLit (.int 2)) (We t n m (some (.ref b)) (some (.d (.list (σ.map nI)))) (some (I k)) none none none none) s) = .ok (decide ((2 : Int) < m)) s := asB_ok (dBin_ok (dVar_ok rfl) rfl rfl)
  by_cases hk : (k : Int) = 0 ∧ (2 : Int) < m
  · rw [decide_eq_true hk.1] at t1
    rw [decide_eq_true hk.2] at t2
    have a5 : 5 ≤ sizeLine := by rw [sizeLine_eq]; decide
    obtain ⟨d, s1, e, hd, dd⟩ := F_of_ok (ds := [.int 3, .int 3, .int 5, .int 7, .int m]) h.ok (by simp) (by simp)
    have hz : ∃ z : Nat, d = .int z ∧ 1 ≤ z := by
      simp only [List.mem_cons, List.not_mem_nil, or_false] at hd
      rcases hd with rfl | rfl | rfl | rfl | rfl
      · exact ⟨3, rfl, by decide⟩
      · exact ⟨3, rfl, by decide⟩
      · exact ⟨5, rfl, by decide⟩
      · exact ⟨7, rfl, by decide⟩
      · exact ⟨m, rfl, h1⟩
    obtain ⟨z, rfl, hz1⟩ := hz
    have h2 := WebAt_dealt h dd
    obtain ⟨u, a1, a2⟩ := row_at hσ (i := 0) (by omega)
    obtain ⟨v, b1, b2⟩ := row_at hσ (i := min z m - 1) (by omega)
    obtain ⟨s2, f1, f2⟩ := web_app (q := ((u : Int), (v : Int))) h2 ⟨⟨by omega, by simp; omega⟩, by omega, by simp; omega⟩ (by omega)
    have g1 : gMin2 [I z, I m] s1 = .ok (I (min z m : Nat)) s1 := by
      simp only [gMin2]
      congr 3
      split <;> omega
    have g2 : vSub (I (min z m : Nat)) (.d (.int 1)) s1 = .ok (I (min z m - 1 : Nat)) s1 := by
      have : ((min z m : Nat) : Int) - 1 = ((min z m - 1 : Nat) : Int) := by omega
      simp only [vSub, Y.vInt, this]
    refine ⟨some (I z), qs ++ [((u : Int), (v : Int))], s2, dIfS_t (dAnd_t t1 t2) ?_, f2, by simp; omega⟩
    refine (dSeq_nx (dSet_ok (dCal_ok (dCons_ok (dVar_ok rfl) (dCons1_ok (dLst_ok (ds := [.int 3, .int 3, .int 5, .int 7, .int m]) rfl a5))) rfl e))).trans ?_
    exact dExpr_ok (dMeth_ok (dVar_ok rfl) h2.at_ (dCons1_ok (dTup_ok (ds := [nI u, nI v]) (dCons_ok (dBin_ok (dVar_ok rfl) rfl (vIx_list (j := 0) a1)) (dCons1_ok (dBin_ok (dVar_ok rfl) (dBin_ok (dCall_ok (dCons_ok (dVar_ok rfl) (dCons1_ok (dVar_ok rfl))) g1) rfl g2) (vIx_list b1)))) two_le)) f1)
  · refine ⟨none, qs, s, dIfS_f ?_ rfl, h, by omega⟩
    by_cases z : (k : Int) = 0
    · rw [decide_eq_true z] at t1
      rw [decide_eq_false (fun y => hk ⟨z, y⟩)] at t2
      exact dAnd_t t1 t2
    · rw [decide_eq_false z] at t1
      exact dAnd_f t1
theorem we_step6 {m b k : Nat} {s : Sto} {qs : List P2} {row e6 : Option W} (h : WebAt n c b m s qs) (hq : qs.length ≤ 20) (h1 : 1 ≤ m) (hm : m ≤ 20) : ∃ (e7 : Option W) (qs' : List P2) (s' : Sto), (dFor (dRng1 (dCons (dIf (fun ρ st => asB (dBin vLt (dVar 5) (dLit (.int 3)) ρ st)) (dCal 2 F_l_any (dCons (dVar 0) (dCons (dBin vAdd (dVar 2) (dLit (.int 1))) dNil))) (dCal 2 F_l_any (dCons (dVar 0) (dCons (dBin vAdd (dBin vMul (dLit (.int 2)) (dVar 2)) (dLit (.int 1))) dNil)))) dNil)) (tName 7)
    (dExpr (dMeth mAppend (dVar 3) (dCons (dTup (dCons (dCal 2 F_l_any (dCons (dVar 0) (dCons (dVar 2) dNil))) (dCons (dCal 2 F_l_any (dCons (dVar 0) (dCons (dVar 2) dNil))) dNil))) dNil)))) (We t n m (some (.ref b)) row (some (I k)) e6 none none none) s = .ok (.nx, We t n m (some (.ref b)) row (some (I k)) e6 e7 none none) s' ∧ WebAt n c b m s' qs' ∧ qs'.length ≤ 60 := by
  have hcount : ∃ (j : Nat) (s1 : Sto), dIf (fun ρ st => asB (dBin vLt (dVar 5) (dLit (.int 3)) ρ st)) (dCal 2 F_l_any (dCons (dVar 0) (dCons (dBin vAdd (dVar 2) (dLit (.int 1))) dNil))) (dCal 2 F_l_any (dCons (dVar 0) (dCons (dBin vAdd (dBin vMul (dLit (.int 2)) (dVar 2)) (dLit (.int 1))) dNil))) (We t n m (some (.ref b)) row (some (I k)) e6 none none none) s = .ok (I j) s1 ∧ j ≤ 40 ∧ WebAt n c b m s1 qs := by
    by_cases hk : (k : Int) < 3
    · obtain ⟨j, s1, e, g1, g2, g3⟩ := any_ok (k := m + 1) h.ok (by omega) (by omega)
      have tt : asB (dBin vLt (dVar 5) (dLit (.int 3)) (We t n m (some (.ref b)) row (some (I k)) e6 none none none) s) = .ok true s := we_form.trans (by rw [decide_eq_true hk])
      exact ⟨j, s1, dIf_t tt (dCal_ok (dCons_ok (dVar_ok rfl) (dCons1_ok (dBin_ok (dVar_ok rfl) rfl rfl))) rfl e), by omega, WebAt_dealt h g2⟩
    · obtain ⟨j, s1, e, g1, g2, g3⟩ := any_ok (k := 2 * m + 1) h.ok (by omega) (by omega)
      have tt : asB (dBin vLt (dVar 5) (dLit (.int 3)) (We t n m (some (.ref b)) row (some (I k)) e6 none none none) s) = .ok false s := we_form.trans (by rw [decide_eq_false hk])
      have e2 : ((2 * m + 1 : Nat) : Int) = 2 * (m : Int) + 1 := by omega
      rw [e2] at e
      exact ⟨j, s1, dIf_f tt (dCal_ok (dCons_ok (dVar_ok rfl) (dCons1_ok (dBin_ok (dBin_ok rfl (dVar_ok rfl) (vMulR (by omega))) rfl rfl))) rfl e), by omega, WebAt_dealt h g2⟩
  obtain ⟨j, s1, c1, c2, c3⟩ := hcount
  obtain ⟨ρ', s', f1, e7, qs', rfl, f2, f3⟩ := forL_inv (tg := tName 7) (emb := fun i : Nat => W.d (.int i)) (body := dExpr (dMeth mAppend (dVar 3) (dCons (dTup (dCons (dCal 2 F_l_any (dCons (dVar 0) (dCons (dVar 2) dNil))) (dCons (dCal 2 F_l_any (dCons (dVar 0) (dCons (dVar 2) dNil))) dNil))) dNil)))
    (P := fun pre ρ s => ∃ e7 qs', ρ = We t n m (some (.ref b)) row (some (I k)) e6 e7 none none ∧ WebAt n c b m s qs' ∧ qs'.length ≤ 20 + pre.length) (List.range j)
    (fun pre a post ρ s ea p => by
      obtain ⟨e7, qs1, rfl, w1, w2⟩ := p
      have hpre : pre.length < j := by have := congrArg List.length ea; simp at this; omega
      obtain ⟨x, t1, x1, x2, x3, _⟩ := any_ok (k := m) w1.ok (by omega) (by omega)
      have y1 := WebAt_dealt w1 x3
      obtain ⟨y, t2, y2, y3, y4, _⟩ := any_ok (k := m) y1.ok (by omega) (by omega)
      have y5 := WebAt_dealt y1 y4
      obtain ⟨t3, z1, z2⟩ := web_app (q := ((x : Int), (y : Int))) y5 ⟨⟨by omega, by simp; omega⟩, by omega, by simp; omega⟩ (by omega)
      refine ⟨We t n m (some (.ref b)) row (some (I k)) e6 (some (I a)) none none, s, We t n m (some (.ref b)) row (some (I k)) e6 (some (I a)) none none, t3, rfl, ?_, some (I a), qs1 ++ [((x : Int), (y : Int))], rfl, z2, by simp; omega⟩
      exact dExpr_ok (dMeth_ok (dVar_ok rfl) w1.at_ (dCons1_ok (dTup_ok (ds := [nI x, nI y]) (dCons_ok (dCal_ok (dCons_ok (dVar_ok rfl) (dCons1_ok (dVar_ok rfl))) rfl x1) (dCons1_ok (dCal_ok (dCons_ok (dVar_ok rfl) (dCons1_ok (dVar_ok rfl))) rfl y2))) two_le)) z1)) (List.range j) [] (We t n m (some (.ref b)) row (some (I k)) e6 none none none) s1 rfl ⟨none, qs, rfl, c3, by simpa using hq⟩
  rw [List.length_range] at f3
  exact ⟨e7, qs', s', dFor_ok (dRng1_ok (j := j) (dCons1_ok c1) (by omega)) f1, f2, by omega⟩
end
theorem inB_of {m : Nat} {p : P2} (h : InM m p) (hm : m ≤ 1000) : InB p := by
  obtain ⟨⟨a, b⟩, c, d⟩ := h
  exact ⟨⟨a, by show _ < (1048576 : Int); omega⟩, c, by show _ < (1048576 : Int); omega⟩
def mm (p : P2) : P2 := (min p.1 p.2, max p.1 p.2)
theorem lcL_filter2 {α : Type} {tg : W → En → Sto → R En} {tt : En → Sto → R Bool} {fe : En → Sto → R W} {ρ : En} {s : Sto} {emb g : α → W} {p : α → Bool} (ws : List α) (h : ∀ a ∈ ws, ∃ ρ1, tg (emb a) ρ s = .ok ρ1 s ∧ tt ρ1 s = .ok (p a) s ∧ (p a = true → fe ρ1 s = .ok (g a) s)) : lcL tg tt fe ρ (ws.map emb) s = .ok ((ws.filter p).map g) s := lcL_filter ws h
/-- a web, as drawn -/
structure WebOk (m : Nat) (ps : List P2) : Prop where
  h1 : 1 ≤ m
  hm : m ≤ 20
  len : ps.length < 64
  inm : ∀ p ∈ ps, InM m p
  lt : ∀ p ∈ ps, p.1 < p.2
  nd : ps.Nodup
  pw : ps.Pairwise (fun a b => cd a ≤ cd b)
abbrev webD (m : Nat) (ps : List P2) : PyData := .tuple [.int m, .tuple (ps.map pD)]
theorem we_ret {t n m : Nat} {row form e6 e7 : Option W} {qs : List P2} {s : Sto} (hm : m ≤ 20) (h1 : 1 ≤ m) (hq : qs.length ≤ 60) (hi : ∀ q ∈ qs, InM m q) : ∃ ps, (dRet (dTup (dCons (dVar 2) (dCons (dCall gTupleOf (dCons (dCall gSortedSet (dCons (dLcF (dLc [9] (dIter (dVar 3)) (tName 9) (fun ρ st => asB (dBin (vEq true) (dBin vIx (dVar 9) (dLit (.int 0))) (dBin vIx (dVar 9) (dLit (.int 1))) ρ st)) (dTup (dCons (dCall gMinT (dCons (dVar 9) dNil)) (dCons (dCall gMaxT (dCons (dVar 9) dNil)) dNil))))) dNil)) dNil)) dNil)))) (We t n m (some (.d (.list (qs.map pD)))) row form e6 e7 none none) s = .ok (.rt (.d (webD m ps)), We t n m (some (.d (.list (qs.map pD)))) row form e6 e7 none none) s ∧ WebOk m ps := by
  have e := lcL_filter2 (tg := tName 9) (tt := fun ρ st => asB (dBin (vEq true) (dBin vIx (dVar 9) (dLit (.int 0))) (dBin vIx (dVar 9) (dLit (.int 1))) ρ st)) (fe := dTup (dCons (dCall gMinT (dCons (dVar 9) dNil)) (dCons (dCall gMaxT (dCons (dVar 9) dNil)) dNil))) (ρ := We t n m (some (.d (.list (qs.map pD)))) row form e6 e7 none none) (s := s) (emb := fun q => W.d (pD q)) (g := fun q => W.d (pD (mm q))) (p := fun q : P2 => decide (q.1 ≠ q.2)) qs (fun q hq' => by
    refine ⟨We t n m (some (.d (.list (qs.map pD)))) row form e6 e7 none (some (.d (pD q))), rfl, asB_ok (dBin_ok (dBin_ok (dVar_ok rfl) rfl (vIx_tup (j := 0) rfl)) (dBin_ok (dVar_ok rfl) rfl (vIx_tup (j := 1) rfl)) ?_), fun _ => ?_⟩
    · simp [vEq, shaped_int, PyData.eqv]
      by_cases z : q.1 = q.2 <;> simp [z]
    · exact dTup_ok (ds := [.int (min q.1 q.2), .int (max q.1 q.2)]) (dCons_ok (dCall_ok (dCons1_ok (dVar_ok rfl)) rfl) (dCons1_ok (dCall_ok (dCons1_ok (dVar_ok rfl)) rfl))) two_le)
  rw [← map_d pD, ← map_d (fun q => pD (mm q))] at e
  generalize hr : qs.filter (fun q : P2 => decide (q.1 ≠ q.2)) = rs at e
  have hrs : ∀ r ∈ rs, InM m r ∧ r.1 ≠ r.2 := fun r hr' => by
    rw [← hr] at hr'
    obtain ⟨a, b⟩ := List.mem_filter.mp hr'
    exact ⟨hi r a, of_decide_eq_true b⟩
  have hrl : rs.length ≤ 60 := by rw [← hr]; exact Nat.le_trans (List.length_filter_le _ _) hq
  have hm2 : ∀ p ∈ rs.map mm, InM m p ∧ p.1 < p.2 := fun p hp => by
    obtain ⟨r, h2, rfl⟩ := List.mem_map.mp hp
    obtain ⟨⟨⟨a, b⟩, c, d⟩, f⟩ := hrs r h2
    unfold mm InM
    simp only
    omega
  have hml : (rs.map mm).length < 64 := by rw [List.length_map]; omega
  have e2 : rs.map (fun q => pD (mm q)) = (rs.map mm).map pD := by rw [List.map_map]; rfl
  rw [e2] at e
  have mem : ∀ p, p ∈ srtS (rs.map mm) ↔ p ∈ rs.map mm := fun p => ((srtP_perm _).mem_iff).trans (mem_dd _ p)
  refine ⟨srtS (rs.map mm), dRet_ok (dTup_ok (ds := [.int m, .tuple ((srtS (rs.map mm)).map pD)]) (dCons_ok (dVar_ok rfl) (dCons1_ok (dCall_ok (dCons1_ok (dCall_ok (dCons1_ok (dLcF_ok (dLc_ok (dIter_ok (dVar_ok rfl) rfl) e (by rw [List.length_map, List.length_map, List.length_map, sizeLine_eq]; omega)))) (gSS_ok hml fun p hp => inB_of (hm2 p hp).1 (by omega)))) rfl))) two_le), h1, hm, ?_, fun p hp => (hm2 p ((mem p).mp hp)).1, fun p hp => (hm2 p ((mem p).mp hp)).2, (srtP_perm _).nodup_iff.mpr (nodup_dd _), srtP_pw _⟩
  have l1 : (srtS (rs.map mm)).length = (dd (rs.map mm)).length := (srtP_perm _).length_eq
  have l2 : (dd (rs.map mm)).length ≤ (rs.map mm).length := by
    have : ∀ l : List P2, (dd l).length ≤ l.length := by
      intro l
      induction l with
      | nil => simp [dd]
      | cons a l ih => unfold dd; split <;> simp <;> omega
    exact this _
  omega
theorem F_web_ok {n c t : Nat} {st : Sto} (h : DealOk st n c) (ht1 : 1 ≤ t) (ht : t ≤ 20) : ∃ m ps st', F_l_web [.ref n, I t] st = .ok (.d (webD m ps)) st' ∧ WebOk m ps ∧ m ≤ t ∧ DealOk st' n c := by
  obtain ⟨m, b, s1, a1, h1, h9, hmt, w1⟩ := we_step1 h ht1 ht
  obtain ⟨σ, s2, a2, hσ, w2⟩ := we_step2 w1 h9
  obtain ⟨k, s3, a3, w3⟩ := we_step3 (p := some (.ref b)) (row := some (.d (.list (σ.map nI)))) w2
  obtain ⟨b4, q4, s4, a4, w4, l4⟩ := we_step4 (k := k) w3 (by simp) hσ h1 h9
  obtain ⟨e6, q5, s5, a5, w5, l5⟩ := we_step5 (k := k) w4 l4 hσ h1 h9
  obtain ⟨e7, q6, s6, a6, w6, l6⟩ := we_step6 (k := k) (row := some (.d (.list (σ.map nI)))) (e6 := e6) w5 l5 h1 h9
  have a7 : dFrz 3 (We t n m (some (.ref b4)) (some (.d (.list (σ.map nI)))) (some (I k)) e6 e7 none none) s6 = .ok (.nx, We t n m (some (.d (.list (q6.map pD)))) (some (.d (.list (σ.map nI)))) (some (I k)) e6 e7 none none) (s6.set b4 .dead) :=
    dFrz_ok rfl (by rw [w6.at_, map_d])
  obtain ⟨ps, a8, ok⟩ := we_ret (t := t) (n := n) (row := some (.d (.list (σ.map nI)))) (form := some (I k)) (e6 := e6) (e7 := e7) (s := s6.set b4 .dead) h9 h1 l6 w6.inm
  refine ⟨m, ps, s6.set b4 .dead, dDef_rt (ρ' := We t n m (some (.d (.list (q6.map pD)))) (some (.d (.list (σ.map nI)))) (some (I k)) e6 e7 none none) ?_, ok, hmt, ?_⟩
  · exact (dSeq_nx a1).trans ((dSeq_nx a2).trans ((dSeq_nx a3).trans ((dSeq_nx a4).trans ((dSeq_nx a5).trans ((dSeq_nx a6).trans ((dSeq_nx a7).trans a8))))))
  · obtain ⟨cs, d, g1, g2, r⟩ := w6.ok
    exact ⟨cs, d, by rw [List.getElem?_set_ne w6.nb]; exact g1, by rw [List.getElem?_set_ne w6.cb]; exact g2, r⟩
end BL

namespace BL
open PySem PySem.Spec PyProof.Rows L2 Y
/-! ### small data -/
theorem all_show {xs : List PyData} (h : ∀ x ∈ xs, x.showable = true) : PyData.showableAll xs = true := by
  induction xs with
  | nil => rfl
  | cons x xs ih => rw [PyData.showableAll, h x List.mem_cons_self, ih fun y hy => h y (List.mem_cons_of_mem _ hy)]; rfl
theorem all_short {xs : List PyData} (h : ∀ x ∈ xs, x.intsShort 13 = true) : PyData.intsShortAll 13 xs = true := by
  induction xs with
  | nil => rfl
  | cons x xs ih => rw [PyData.intsShortAll, h x List.mem_cons_self, ih fun y hy => h y (List.mem_cons_of_mem _ hy)]; rfl
theorem all_wt {xs : List PyData} {k : Nat} (h : ∀ x ∈ xs, x.weight ≤ k) : PyData.weightAll xs ≤ (k + 1) * xs.length := by
  induction xs with
  | nil => simp [PyData.weightAll]
  | cons x xs ih =>
    have h1 := h x List.mem_cons_self
    have h2 := ih fun y hy => h y (List.mem_cons_of_mem _ hy)
    rw [PyData.weightAll, List.length_cons, Nat.mul_add, Nat.mul_one]
    omega
/-- small data: a level deeper -/
structure Sm (k w : Nat) (d : PyData) : Prop where
  dk : Dk k d
  sh : d.showable = true
  st : d.intsShort 13 = true
  wt : d.weight ≤ w
theorem Sm.int {k : Nat} {i : Int} (h1 : i.natAbs < 1024) : Sm k 10 (.int i) := by
  have l : i.natAbs.log2 < 10 := by
    by_cases h0 : i.natAbs = 0
    · rw [h0]; decide
    · rw [Nat.log2_lt h0]; omega
  refine ⟨Dk.int _, ?_, ?_, ?_⟩
  · rw [PyData.showable, decide_eq_true_eq]; exact Nat.lt_of_lt_of_le l (by decide)
  · rw [PyData.intsShort, decide_eq_true_eq]; exact PyData.shown_int_le (by omega)
  · rw [PyData.weight]; split <;> omega
theorem Sm.tup {k w n : Nat} {xs : List PyData} (h : ∀ x ∈ xs, Sm k w x) (hl : xs.length ≤ n) : Sm (k + 1) ((w + 1) * n) (.tuple xs) :=
  ⟨Dk.tup fun x hx => (h x hx).dk, by rw [PyData.showable]; exact all_show fun x hx => (h x hx).sh, by rw [PyData.intsShort]; exact all_short fun x hx => (h x hx).st, by
    rw [PyData.weight]
    exact Nat.le_trans (all_wt fun x hx => (h x hx).wt) (Nat.mul_le_mul_left _ hl)⟩
theorem Sm.up {k w w' : Nat} {d : PyData} (h : Sm k w d) (hw : w ≤ w') : Sm k w' d := ⟨h.dk, h.sh, h.st, Nat.le_trans h.wt hw⟩
theorem Sm.deep {k k' w : Nat} {d : PyData} (h : Sm k w d) (hk : k ≤ k') : Sm k' w d := ⟨⟨h.dk.1, Nat.le_trans h.dk.2 hk⟩, h.sh, h.st, h.wt⟩
theorem Sm.repr {k w : Nat} {d : PyData} {st : Sto} (h : Sm k w d) (hk : k ≤ 64) (hw : w ≤ 2 ^ 20) : gRepr [.d d] st = .ok (.d (.str d.shown)) st := repr_ok h.dk hk h.sh h.st h.wt hw

theorem Sm.bool {k w : Nat} {b : Bool} : Sm k w (.bool b) := ⟨Dk.bl _, by cases b <;> rfl, by cases b <;> rfl, by cases b <;> exact Nat.zero_le _⟩
theorem Sm.none {k w : Nat} : Sm k w .none := ⟨Dk.non, rfl, rfl, Nat.zero_le _⟩
theorem Sm.shaped {k w : Nat} {d : PyData} (h : Sm k w d) (hk : k ≤ 64) : SeqAt.shaped d = true := h.dk.shaped hk
theorem Sm.nat {k i : Nat} (h1 : i < 1024) : Sm k 10 (nI i) := Sm.int (by omega)
theorem Sm.lst {k w n : Nat} {xs : List PyData} (h : ∀ x ∈ xs, Sm k w x) (hl : xs.length ≤ n) : Sm (k + 1) ((w + 1) * n) (.list xs) :=
  ⟨Dk.lst fun x hx => (h x hx).dk, by rw [PyData.showable]; exact all_show fun x hx => (h x hx).sh, by rw [PyData.intsShort]; exact all_short fun x hx => (h x hx).st, by
    rw [PyData.weight]
    exact Nat.le_trans (all_wt fun x hx => (h x hx).wt) (Nat.mul_le_mul_left _ hl)⟩
/-- the same data shown twice is the same text -/
theorem ne_repr {f g : En → Sto → R W} {ρ : En} {s s1 s2 : Sto} {k w : Nat} {d : PyData} (hd : Sm k w d) (hk : k ≤ 64) (hw : w ≤ 2 ^ 20) (h1 : f ρ s = .ok (.d d) s1) (h2 : g ρ s1 = .ok (.d d) s2) :
    asB (dBin (vEq true) (dCall gRepr (dCons f dNil)) (dCall gRepr (dCons g dNil)) ρ s) = .ok false s2 :=
  asB_ok (dBin_ok (dCall_ok (dCons1_ok h1) (hd.repr hk hw)) (dCall_ok (dCons1_ok h2) (hd.repr hk hw)) (by simp [vEq]))
/-! ### numbers, pairs, lots -/
abbrev E2 := Nat × Nat
abbrev eD (e : E2) : PyData := .tuple [nI e.1, nI e.2]
abbrev lotD (l : List Nat) : PyData := .tuple (l.map nI)
abbrev webN (m : Nat) (es : List E2) : PyData := .tuple [nI m, .tuple (es.map eD)]
def toE (p : P2) : E2 := (p.1.toNat, p.2.toNat)
/-- a web: rising pairs of people -/
structure WebN (m : Nat) (es : List E2) : Prop where
  h1 : 1 ≤ m
  hm : m ≤ 20
  len : es.length < 64
  lt : ∀ e ∈ es, e.1 < e.2 ∧ e.2 < m
  nd : es.Nodup
  pw : es.Pairwise (fun a b => a.1 < b.1 ∨ (a.1 = b.1 ∧ a.2 < b.2))
theorem eD_toE {m : Nat} {p : P2} (h : InM m p) : eD (toE p) = pD p := by
  obtain ⟨⟨a, _⟩, b, _⟩ := h
  unfold eD toE pD nI
  simp only
  rw [Int.toNat_of_nonneg a, Int.toNat_of_nonneg b]
theorem WebOk.nat {m : Nat} {ps : List P2} (h : WebOk m ps) : ∃ es, webD m ps = webN m es ∧ WebN m es := by
  have e : ps.map pD = (ps.map toE).map eD := by
    rw [List.map_map]
    exact List.map_congr_left fun p hp => (eD_toE (h.inm p hp)).symm
  refine ⟨ps.map toE, by unfold webD webN; rw [e], h.h1, h.hm, by rw [List.length_map]; exact h.len, ?_, ?_, ?_⟩
  · intro e he
    obtain ⟨p, hp, rfl⟩ := List.mem_map.mp he
    obtain ⟨⟨a, b⟩, c, d⟩ := h.inm p hp
    have := h.lt p hp
    unfold toE
    simp only
    omega
  · have n := h.nd
    rw [List.Nodup, List.pairwise_map]
    refine List.Pairwise.imp_of_mem (fun {a b} ha hb q e => q ?_) n
    have := (eD_toE (h.inm a ha)).symm.trans ((congrArg eD e).trans (eD_toE (h.inm b hb)))
    unfold pD at this
    simp only [PyData.tuple.injEq, List.cons.injEq, PyData.int.injEq, and_true] at this
    exact Prod.ext this.1 this.2
  · rw [List.pairwise_map]
    refine List.Pairwise.imp_of_mem (fun {a b} ha hb q => ?_) (h.nd.and h.pw)
    obtain ⟨q1, q2⟩ := q
    obtain ⟨⟨a1, a2⟩, a3, a4⟩ := h.inm a ha
    obtain ⟨⟨b1, b2⟩, b3, b4⟩ := h.inm b hb
    have hm := h.hm
    unfold cd at q2
    unfold toE
    simp only
    have ne : a.1 ≠ b.1 ∨ a.2 ≠ b.2 := by
      by_cases z : a.1 = b.1
      · exact .inr fun y => q1 (Prod.ext z y)
      · exact .inl z
    simp only [BB] at q2
    omega
theorem shaped_lot (l : List Nat) : SeqAt.shaped (lotD l) = true := (Dk.tup (k := 0) fun x hx => by
    obtain ⟨u, _, rfl⟩ := List.mem_map.mp hx
    exact Dk.int _).shaped (by decide)
theorem any_nat (l : List Nat) (i : Nat) : ((l.map nI).any fun z => PyData.eqv z (nI i)) = decide (i ∈ l) := by
  induction l with
  | nil => simp
  | cons a l ih =>
    rw [List.map_cons, List.any_cons, ih]
    have e : PyData.eqv (nI a) (nI i) = decide (i = a) := by
      show ((a : Int) == (i : Int)) = _
      rw [Bool.eq_iff_iff, beq_iff_eq, decide_eq_true_eq]
      omega
    rw [e]
    by_cases h1 : i = a <;> simp [h1]
theorem vIn_nat {l : List Nat} {i : Nat} {st : Sto} : vIn false (.d (nI i)) (.d (lotD l)) st = .ok (.d (.bool (decide (i ∈ l)))) st := by
  show chk _ _ = _
  rw [chk_ok ⟨shaped_int _, shaped_lot l⟩, ← any_nat, Bool.false_xor]
theorem vNotIn_nat {l : List Nat} {i : Nat} {st : Sto} : vIn true (.d (nI i)) (.d (lotD l)) st = .ok (.d (.bool (!decide (i ∈ l)))) st := by
  show chk _ _ = _
  rw [chk_ok ⟨shaped_int _, shaped_lot l⟩, ← any_nat]
  simp
theorem vEq_nat {i j : Nat} {st : Sto} : vEq false (.d (nI i)) (.d (nI j)) st = .ok (.d (.bool (decide (i = j)))) st := by
  show chk _ _ = _
  rw [chk_ok ⟨shaped_int _, shaped_int _⟩]
  congr 3
  show ((false ^^ ((i : Int) == (j : Int))) : Bool) = _
  rw [Bool.false_xor, Bool.eq_iff_iff, beq_iff_eq, decide_eq_true_eq]
  omega
theorem vEq_int {i j : Int} {st : Sto} : vEq false (.d (.int i)) (.d (.int j)) st = .ok (.d (.bool (decide (i = j)))) st := by
  show chk _ _ = _
  rw [chk_ok ⟨shaped_int _, shaped_int _⟩]
  congr 3
  show (false ^^ (i == j)) = _
  rw [Bool.false_xor, Bool.eq_iff_iff, beq_iff_eq, decide_eq_true_eq]
theorem vNe_int {i j : Int} {st : Sto} : vEq true (.d (.int i)) (.d (.int j)) st = .ok (.d (.bool (!decide (i = j)))) st := by
  show chk _ _ = _
  rw [chk_ok ⟨shaped_int _, shaped_int _⟩]
  congr 3
  show (true ^^ (i == j)) = _
  rw [Bool.true_xor, Bool.not_inj_iff, Bool.eq_iff_iff, beq_iff_eq, decide_eq_true_eq]
theorem vAdd_nat {i j : Nat} {st : Sto} : vAdd (.d (nI i)) (.d (nI j)) st = .ok (.d (nI (i + j))) st := rfl
theorem gLen_map {α : Type} {f : α → PyData} {l : List α} {st : Sto} : gLen [.d (.list (l.map f))] st = .ok (.d (nI l.length)) st := by rw [gLen_list, List.length_map]
theorem gLen_tmap {α : Type} {f : α → PyData} {l : List α} {st : Sto} : gLen [.d (.tuple (l.map f))] st = .ok (.d (nI l.length)) st := by rw [gLen_tup, List.length_map]
theorem vIx_lmap {α : Type} {f : α → PyData} {l : List α} {j : Nat} {x : α} {st : Sto} (h : l[j]? = some x) : vIx (.d (.list (l.map f))) (.d (nI j)) st = .ok (.d (f x)) st := vIx_list (by rw [List.getElem?_map, h]; rfl)
theorem vIx_tmap {α : Type} {f : α → PyData} {l : List α} {j : Nat} {x : α} {st : Sto} (h : l[j]? = some x) : vIx (.d (.tuple (l.map f))) (.d (nI j)) st = .ok (.d (f x)) st := vIx_tup (by rw [List.getElem?_map, h]; rfl)
theorem vIx_ref {n : Nat} {ws : List W} {j : Nat} {x : W} {st : Sto} (h1 : st[n]? = some (.lst ws)) (h : ws[j]? = some x) : vIx (.ref n) (.d (nI j)) st = .ok x st := by
  have e : atI ws (j : Int) = some x := atI_nat h
  simp [vIx, h1, e]
theorem le_line {n : Nat} (h : n ≤ 1000000) : n ≤ sizeLine := by rw [sizeLine_eq]; omega
/-! ### steps, for the hand that goes on -/
section
variable {ρ ρ' : En} {s s1 s2 s3 : Sto} {w u v : W} {ws us : List W} {f g k : En → Sto → R W} {fa ga : En → Sto → R (List W)} {t t' : En → Sto → R Bool} {b b' : Bool} {r : R (Fl × En)}
theorem tup_ok {ds : List PyData} (h1 : fa ρ s = .ok ws s1) (h2 : allD ws = some ds) (h3 : ds.length ≤ 1000000) : dTup fa ρ s = .ok (.d (.tuple ds)) s1 := by
  have := allD_eq h2; subst this; exact dTup_ok h1 (le_line h3)
theorem lst_ok {ds : List PyData} (h1 : fa ρ s = .ok ws s1) (h2 : allD ws = some ds) (h3 : ds.length ≤ 1000000) : dLst fa ρ s = .ok (.d (.list ds)) s1 := by
  have := allD_eq h2; subst this; exact dLst_ok h1 (le_line h3)
theorem and_ok (h1 : t ρ s = .ok b s) (h2 : t' ρ s = .ok b' s) : dAnd t t' ρ s = .ok (b && b') s := by
  cases b with
  | true => exact dAnd_t h1 h2
  | false => exact dAnd_f h1
theorem or_ok (h1 : t ρ s = .ok b s) (h2 : t' ρ s = .ok b' s) : dOr t t' ρ s = .ok (b || b') s := by
  cases b with
  | true => exact dOr_t h1
  | false => exact dOr_f h1 h2
theorem ifS_ok {F G : DS} (h1 : t ρ s = .ok b s1) (h2 : b = true → F ρ s1 = r) (h3 : b = false → G ρ s1 = r) : dIfS t F G ρ s = r := by
  cases b with
  | true => exact dIfS_t h1 (h2 rfl)
  | false => exact dIfS_f h1 (h3 rfl)
theorem if_ok {r : R W} (h1 : t ρ s = .ok b s1) (h2 : b = true → f ρ s1 = r) (h3 : b = false → g ρ s1 = r) : dIf t f g ρ s = r := by
  cases b with
  | true => exact dIf_t h1 (h2 rfl)
  | false => exact dIf_f h1 (h3 rfl)
theorem to {F G : DS} (h : F ρ s = .ok (.nx, ρ') s1) (k : G ρ' s1 = r) : dSeq F G ρ s = r := (dSeq_nx h).trans k
theorem out {F G : DS} (h : F ρ s = .ok (.rt w, ρ') s1) (k : .ok (.rt w, ρ') s1 = r) : dSeq F G ρ s = r := (dSeq_rt h).trans k
theorem lcF_ok {ds : List PyData} (h1 : fa ρ s = .ok ws s1) (h2 : allD ws = some ds) : dLcF fa ρ s = .ok (.d (.list ds)) s1 := by
  have := allD_eq h2; subst this; exact dLcF_ok h1
theorem tupleOf_list {ds : List PyData} {st : Sto} : gTupleOf [.d (.list ds)] st = .ok (.d (.tuple ds)) st := by simp
end
end BL

namespace BL
open PySem PySem.Spec PyProof.Rows L2 Y
/-! ### loops by what they keep -/
theorem whileN_ok {c : En → Sto → R Bool} {body : DS} {P : Nat → En → Sto → Prop} {Q : En → Sto → Prop}
    (step : ∀ k ρ s, P k ρ s → (∃ s1, c ρ s = .ok false s1 ∧ Q ρ s1) ∨ ∃ s1 ρ2 s2 k', c ρ s = .ok true s1 ∧ body ρ s1 = .ok (.nx, ρ2) s2 ∧ k' < k ∧ P k' ρ2 s2) :
    ∀ (n k : Nat) (ρ : En) (s : Sto), k < n → P k ρ s → ∃ ρ' s', whileN c body n ρ s = .ok (.nx, ρ') s' ∧ Q ρ' s'
  | 0, _, _, _, h, _ => absurd h (Nat.not_lt_zero _)
  | n + 1, k, ρ, s, h, p => by
    rcases step k ρ s p with ⟨s1, h1, h2⟩ | ⟨s1, ρ2, s2, k', h1, h2, h3, h4⟩
    · exact ⟨ρ, s1, by unfold whileN; rw [h1, R.bind_ok, if_neg (by simp)], h2⟩
    · obtain ⟨ρ', s', g1, g2⟩ := whileN_ok step n k' ρ2 s2 (by omega) h4
      refine ⟨ρ', s', ?_, g2⟩
      unfold whileN
      rw [h1, R.bind_ok, if_pos rfl, h2, R.bind_ok]
      exact g1
theorem while_ok {c : En → Sto → R Bool} {body : DS} {P : Nat → En → Sto → Prop} {Q : En → Sto → Prop}
    (step : ∀ k ρ s, P k ρ s → (∃ s1, c ρ s = .ok false s1 ∧ Q ρ s1) ∨ ∃ s1 ρ2 s2 k', c ρ s = .ok true s1 ∧ body ρ s1 = .ok (.nx, ρ2) s2 ∧ k' < k ∧ P k' ρ2 s2)
    (k : Nat) (ρ : En) (s : Sto) (p : P k ρ s) : ∃ ρ' s', dWhile c body ρ s = .ok (.nx, ρ') s' ∧ Q ρ' s' := by
  obtain ⟨ρ', s', h1, h2⟩ := whileN_ok step (k + 1) k ρ s (by omega) p
  exact ⟨ρ', s', dWhile_of h1 (by simp), h2⟩
theorem forS_ok {α : Type} {n : Nat} {tg : W → En → Sto → R En} {body : DS} {emb : α → W} {P : List α → En → Sto → Prop} (all : List α)
    (keep : ∀ pre ρ s, P pre ρ s → s[n]? = some (.lst (all.map emb)))
    (step : ∀ pre a post ρ s, all = pre ++ a :: post → P pre ρ s → ∃ ρ1 s1 ρ2 s2, tg (emb a) ρ s = .ok ρ1 s1 ∧ body ρ1 s1 = .ok (.nx, ρ2) s2 ∧ P (pre ++ [a]) ρ2 s2) :
    ∀ (post pre : List α) (ρ : En) (s : Sto), all = pre ++ post → P pre ρ s → ∃ ρ' s', forS n (all.map emb) tg body (post.map emb) ρ s = .ok (.nx, ρ') s' ∧ P all ρ' s'
  | [], pre, ρ, s, h, p => ⟨ρ, s, by show forS n (all.map emb) tg body [] ρ s = _; unfold forS; rw [if_pos (keep pre ρ s p)], by rw [h, List.append_nil]; exact p⟩
  | a :: post, pre, ρ, s, h, p => by
    obtain ⟨ρ1, s1, ρ2, s2, h1, h2, h3⟩ := step pre a post ρ s h p
    obtain ⟨ρ', s', g1, g2⟩ := forS_ok all keep step post (pre ++ [a]) ρ2 s2 (by rw [h]; simp) h3
    refine ⟨ρ', s', ?_, g2⟩
    show forS n (all.map emb) tg body (emb a :: post.map emb) ρ s = _
    unfold forS
    rw [if_pos (keep pre ρ s p), h1, R.bind_ok, h2, R.bind_ok]
    exact g1
theorem dForS_ok {f : En → Sto → R W} {tg : W → En → Sto → R En} {body : DS} {ρ : En} {s s1 : Sto} {n : Nat} {ws : List W} {r : R (Fl × En)} (h1 : f ρ s = .ok (.ref n) s1) (h2 : s1[n]? = some (.lst ws)) (h3 : forS n ws tg body ws ρ s1 = r) : dForS f tg body ρ s = r := by
  unfold dForS
  rw [h1, R.bind_ok]
  dsimp only
  rw [h2]
  exact h3
theorem forL_ok {α : Type} {tg : W → En → Sto → R En} {body : DS} {emb : α → W} {P : List α → En → Sto → Prop} (all : List α)
    (step : ∀ pre a post ρ s, all = pre ++ a :: post → P pre ρ s → ∃ ρ1 s1 ρ2 s2, tg (emb a) ρ s = .ok ρ1 s1 ∧ body ρ1 s1 = .ok (.nx, ρ2) s2 ∧ P (pre ++ [a]) ρ2 s2)
    {ρ : En} {s : Sto} (p : P [] ρ s) : ∃ ρ' s', forL tg body (all.map emb) ρ s = .ok (.nx, ρ') s' ∧ P all ρ' s' := forL_inv all step all [] ρ s rfl p
/-- a comprehension without a test -/
theorem lcL_acc {α : Type} {tg : W → En → Sto → R En} {fe : En → Sto → R W} {ρ : En} {emb : α → W} {P : List α → List W → Sto → Prop} (all : List α)
    (step : ∀ pre a post us s, all = pre ++ a :: post → P pre us s → ∃ ρ1 s1 u s2, tg (emb a) ρ s = .ok ρ1 s1 ∧ fe ρ1 s1 = .ok u s2 ∧ P (pre ++ [a]) (us ++ [u]) s2) :
    ∀ (post pre : List α) (us : List W) (s : Sto), all = pre ++ post → P pre us s → ∃ vs s', lcL tg (fun _ st => .ok true st) fe ρ (post.map emb) s = .ok vs s' ∧ P all (us ++ vs) s'
  | [], pre, us, s, h, p => ⟨[], s, rfl, by rw [h, List.append_nil, List.append_nil]; exact p⟩
  | a :: post, pre, us, s, h, p => by
    obtain ⟨ρ1, s1, u, s2, h1, h2, h3⟩ := step pre a post us s h p
    obtain ⟨vs, s', g1, g2⟩ := lcL_acc all step post (pre ++ [a]) (us ++ [u]) s2 (by rw [h]; simp) h3
    refine ⟨u :: vs, s', ?_, by rw [List.append_assoc] at g2; exact g2⟩
    show lcL tg _ fe ρ (emb a :: post.map emb) s = _
    unfold lcL
    rw [h1]
    simp only [R.nox, R.bind_ok, if_true]
    rw [h2]
    simp only [R.nox, R.bind_ok]
    rw [g1]
    rfl
theorem dLcS_ok {vs : List Nat} {f : En → Sto → R W} {tg : W → En → Sto → R En} {tt : En → Sto → R Bool} {fe : En → Sto → R W} {ρ : En} {s s1 s2 : Sto} {n : Nat} {ws us : List W} (h1 : f ρ s = .ok (.ref n) s1) (h2 : s1[n]? = some (.lst ws)) (h3 : lcS n ws tg tt fe (wipeE ρ vs) ws s1 = .ok us s2) (h4 : us.length ≤ sizeLine) : dLcS vs f tg tt fe ρ s = .ok us s2 := by
  unfold dLcS
  rw [h1, R.bind_ok]
  dsimp only
  rw [h2]
  dsimp only
  rw [h3, R.bind_ok, chk_ok h4]
theorem lcS_filter {α : Type} {n : Nat} {all : List W} {tg : W → En → Sto → R En} {tt : En → Sto → R Bool} {fe : En → Sto → R W} {ρ : En} {s : Sto} {emb g : α → W} {p : α → Bool} (hn : s[n]? = some (.lst all)) : ∀ (ws : List α), (∀ a ∈ ws, ∃ ρ1, tg (emb a) ρ s = .ok ρ1 s ∧ tt ρ1 s = .ok (p a) s ∧ (p a = true → fe ρ1 s = .ok (g a) s)) → lcS n all tg tt fe ρ (ws.map emb) s = .ok ((ws.filter p).map g) s
  | [], _ => by show lcS n all tg tt fe ρ [] s = _; unfold lcS; rw [if_pos hn]; rfl
  | a :: ws, h => by
    obtain ⟨ρ1, h1, h2, h3⟩ := h a List.mem_cons_self
    have ih := lcS_filter hn ws fun b hb => h b (List.mem_cons_of_mem _ hb)
    show lcS n all tg tt fe ρ (emb a :: ws.map emb) s = _
    unfold lcS
    rw [if_pos hn, h1]
    simp only [R.nox, R.bind_ok]
    rw [h2]
    simp only [R.nox, R.bind_ok]
    cases hp : p a with
    | true =>
      rw [if_pos rfl, h3 hp]
      simp only [R.nox, R.bind_ok]
      rw [ih, List.filter_cons_of_pos hp]
      rfl
    | false =>
      rw [if_neg (by simp), ih, List.filter_cons_of_neg (by simp [hp])]
/-! ### lists of the store -/
abbrev nW (i : Nat) : W := .d (nI i)
theorem append_ok {n : Nat} {xs : List W} {w : W} {st : Sto} (h : st[n]? = some (.lst xs)) (hl : xs.length < 1000000) : mAppend (.ref n) [w] st = .ok (.d .none) (st.set n (.lst (xs ++ [w]))) := by
  unfold mAppend
  simp only [h]
  exact chk_ok (by rw [sizeLine_eq]; omega)
theorem pop_ok {n : Nat} {xs : List W} {w : W} {st : Sto} (h : st[n]? = some (.lst (xs ++ [w]))) : mPop (.ref n) [] st = .ok w (st.set n (.lst xs)) := by
  unfold mPop
  simp only [h]
  simp
theorem meth0_ok {G : W → List W → Sto → R W} {fo : En → Sto → R W} {ρ : En} {s s1 : Sto} {m : Nat} {xs : List W} {r : R W} (h1 : fo ρ s = .ok (.ref m) s1) (h2 : s1[m]? = some (.lst xs)) (h4 : G (.ref m) [] s1 = r) : dMeth0 G fo ρ s = r := by
  unfold dMeth0
  rw [h1, R.bind_ok]
  dsimp only
  rw [h2]
  exact h4
theorem setIx_ok {fe fo fi : En → Sto → R W} {ρ : En} {s s1 s2 s3 : Sto} {w : W} {n i : Nat} {xs : List W} (h1 : fe ρ s = .ok w s1) (h2 : fo ρ s1 = .ok (.ref n) s2) (h3 : fi ρ s2 = .ok (nW i) s3) (h4 : s3[n]? = some (.lst xs)) (h5 : i < xs.length) : dSetIx fe fo fi ρ s = .ok (.nx, ρ) (s3.set n (.lst (xs.set i w))) := by
  unfold dSetIx
  rw [h1, R.bind_ok, h2, R.bind_ok, h3, R.bind_ok]
  dsimp only
  rw [h4]
  dsimp only
  have e : ixN xs.length (i : Int) = some i := by
    unfold ixN
    simp
    omega
  rw [e]
end BL

namespace BL
open PySem PySem.Spec PyProof.Rows L2 Y
/-! ### rows of neighbours -/
noncomputable def B_rows_of : DS :=
  (dSeq (dSet 1 (dLcN (dLc [4] (dRng1 (dCons (dBin vIx (dVar 0) (dLit (.int 0))) dNil)) (tName 4) (fun _ st => .ok true st) (dNew dNil))))
    (dSeq (dFor (dIter (dBin vIx (dVar 0) (dLit (.int 1)))) (tTup' 2 (tCons' (tName 2) (tCons' (tName 3) tNil')))
    (dSeq (dExpr (dMeth mAppend (dBin vIx (dVar 1) (dVar 2)) (dCons (dVar 3) dNil)))
    (dExpr (dMeth mAppend (dBin vIx (dVar 1) (dVar 3)) (dCons (dVar 2) dNil)))))
    (dRet (dVar 1))))
noncomputable def F_rows_of : Fn := dDef 5 B_rows_of

def nbs (es : List E2) (i : Nat) : List Nat := es.flatMap fun e => if e.1 = i then [e.2] else if e.2 = i then [e.1] else []
theorem nbs_snoc (es : List E2) (e : E2) (i : Nat) : nbs (es ++ [e]) i = nbs es i ++ (if e.1 = i then [e.2] else if e.2 = i then [e.1] else []) := by
  unfold nbs; rw [List.flatMap_append]; simp
theorem nbs_len (es : List E2) (i : Nat) : (nbs es i).length ≤ es.length := by
  induction es with
  | nil => exact Nat.le_refl _
  | cons e es ih =>
    have : nbs (e :: es) i = (if e.1 = i then [e.2] else if e.2 = i then [e.1] else []) ++ nbs es i := rfl
    rw [this, List.length_append, List.length_cons]
    split
    · simp; omega
    · split <;> simp <;> omega
def Adj (es : List E2) (u v : Nat) : Prop := (u, v) ∈ es ∨ (v, u) ∈ es
theorem Adj.symm {es : List E2} {u v : Nat} (h : Adj es u v) : Adj es v u := h.elim .inr .inl
theorem mem_nbs {es : List E2} {u v : Nat} (hs : ∀ e ∈ es, e.1 < e.2) : v ∈ nbs es u ↔ Adj es u v := by
  unfold nbs Adj
  rw [List.mem_flatMap]
  constructor
  · rintro ⟨⟨a, b⟩, he, hv⟩
    simp only at hv
    split at hv
    · rename_i q; subst q; rw [List.mem_singleton.mp hv]; exact .inl he
    · split at hv
      · rename_i q; subst q; rw [List.mem_singleton.mp hv]; exact .inr he
      · cases hv
  · rintro (h | h)
    · exact ⟨_, h, by simp⟩
    · refine ⟨_, h, ?_⟩
      have := hs _ h
      simp only at this ⊢
      rw [if_neg (by omega), if_pos trivial]
      exact List.mem_singleton.mpr rfl
/-- the rows of neighbours lie at R -/
structure RowsAt (s : Sto) (L m : Nat) (nb : Nat → List Nat) : Prop where
  top : s[L + m]? = some (.lst ((List.range m).map fun i => .ref (L + i)))
  row : ∀ i, i < m → s[L + i]? = some (.lst ((nb i).map nW))
theorem RowsAt.keep {s s' : Sto} {L m : Nat} {nb : Nat → List Nat} (h : RowsAt s L m nb) (k : ∀ i, i ≤ L + m → s'[i]? = s[i]?) : RowsAt s' L m nb :=
  ⟨(k _ (Nat.le_refl _)).trans h.top, fun i hi => (k _ (by omega)).trans (h.row i hi)⟩
theorem RowsAt.get {s : Sto} {L m : Nat} {nb : Nat → List Nat} (h : RowsAt s L m nb) {u : Nat} (hu : u < m) : vIx (.ref (L + m)) (nW u) s = .ok (.ref (L + u)) s :=
  vIx_ref h.top (by rw [List.getElem?_map, List.getElem?_range hu]; rfl)
theorem rows_of_ok {m : Nat} {es : List E2} (hw : ∀ e ∈ es, e.1 < e.2 ∧ e.2 < m) (hl : es.length ≤ 1000) (hm : m ≤ 1000) (s : Sto) :
    ∃ s', F_rows_of [.d (webN m es)] s = .ok (.ref (s.length + m)) s' ∧ s'.length = s.length + m + 1 ∧ (∀ i, i < s.length → s'[i]? = s[i]?) ∧ RowsAt s' s.length m (nbs es) := by
  obtain ⟨vs, s1, e1, e2, e3⟩ := lcL_acc (tg := tName 4) (fe := dNew dNil) (ρ := [some (.d (webN m es)), none, none, none, none]) (emb := fun i : Nat => W.d (.int i)) (P := fun pre us t => us = (List.range pre.length).map (fun i => W.ref (s.length + i)) ∧ t = s ++ List.replicate pre.length (.lst [])) (List.range m)
    (fun pre a post us t ea p => by
      obtain ⟨rfl, rfl⟩ := p
      refine ⟨_, _, _, _, rfl, dNew_ok rfl (by decide), ?_, ?_⟩
      · rw [List.length_append, List.length_replicate, List.length_append, List.length_singleton, List.range_succ, List.map_append]; rfl
      · rw [List.append_assoc, List.length_append, List.length_singleton, List.replicate_succ']) (List.range m) [] [] s rfl ⟨rfl, by simp⟩
  rw [List.nil_append, List.length_range] at e2
  rw [List.length_range] at e3
  subst e2 e3
  have g1 : (dSet 1 (dLcN (dLc [4] (dRng1 (dCons (dBin vIx (dVar 0) (dLit (.int 0))) dNil)) (tName 4) (fun _ st => .ok true st) (dNew dNil)))) [some (.d (webN m es)), none, none, none, none] s =
      .ok (.nx, [some (.d (webN m es)), some (.ref (s.length + m)), none, none, none]) (s ++ List.replicate m (.lst []) ++ [.lst ((List.range m).map fun i => W.ref (s.length + i))]) := by
    have := dSet_ok (i := 1) (dLcN_ok (dLc_ok (vs := [4]) (dRng1_ok (j := m) (dCons1_ok (dBin_ok (f := dVar 0) (g := dLit (.int 0)) (ρ := [some (.d (webN m es)), none, none, none, none]) (s := s) (dVar_ok rfl) rfl (vIx_tup (j := 0) rfl))) (by omega)) e1 (le_line (by rw [List.length_map, List.length_range]; omega))))
    rw [List.length_append, List.length_replicate] at this
    exact this
  obtain ⟨ρ', s2, f1, ⟨x, y, rfl⟩, f2, f3, f4⟩ := forL_ok (tg := tTup' 2 (tCons' (tName 2) (tCons' (tName 3) tNil'))) (body := dSeq (dExpr (dMeth mAppend (dBin vIx (dVar 1) (dVar 2)) (dCons (dVar 3) dNil))) (dExpr (dMeth mAppend (dBin vIx (dVar 1) (dVar 3)) (dCons (dVar 2) dNil)))) (emb := fun e => W.d (eD e))
    (P := fun pre ρ t => (∃ x y, ρ = [some (.d (webN m es)), some (.ref (s.length + m)), x, y, none]) ∧ t.length = s.length + m + 1 ∧ (∀ i, i < s.length → t[i]? = s[i]?) ∧ RowsAt t s.length m (nbs pre)) es
    (fun pre e post ρ t ea p => by
      obtain ⟨⟨x, y, rfl⟩, p1, p2, p3⟩ := p
      obtain ⟨u, v⟩ := e
      have hmem : (u, v) ∈ es := by rw [ea]; simp
      obtain ⟨h1, h2⟩ := hw _ hmem
      simp only at h1 h2
      have hpl : pre.length < es.length := by rw [ea]; simp
      have hn := nbs_len pre u
      have hn2 := nbs_len pre v
      have q1 := append_ok (w := nW v) (p3.row u (by omega)) (by rw [List.length_map]; omega)
      have p4 : RowsAt (t.set (s.length + u) (.lst ((nbs pre u).map nW ++ [nW v]))) s.length m (fun i => if i = u then nbs pre u ++ [v] else nbs pre i) := by
        refine ⟨by rw [List.getElem?_set_ne (by omega)]; exact p3.top, fun i hi => ?_⟩
        by_cases z : i = u
        · subst z; rw [List.getElem?_set_self (by omega), if_pos rfl]; simp
        · rw [List.getElem?_set_ne (by omega), if_neg z]; exact p3.row i hi
      have r2 := p4.row v (by omega)
      rw [if_neg (by omega)] at r2
      have q2 := append_ok (w := nW u) r2 (by rw [List.length_map]; omega)
      refine ⟨[some (.d (webN m es)), some (.ref (s.length + m)), some (nW u), some (nW v), none], t, _, _, rfl,
        to (dExpr_ok (dMeth_ok (dBin_ok (dVar_ok rfl) (dVar_ok rfl) (p3.get (by omega))) (p3.row u (by omega)) (dCons1_ok (dVar_ok rfl)) q1)) (dExpr_ok (dMeth_ok (dBin_ok (dVar_ok rfl) (dVar_ok rfl) (p4.get (by omega))) r2 (dCons1_ok (dVar_ok rfl)) q2)), ⟨_, _, rfl⟩, by simp [p1], fun i hi => ?_, ?_⟩
      · rw [List.getElem?_set_ne (by omega), List.getElem?_set_ne (by omega)]; exact p2 i hi
      · refine ⟨by rw [List.getElem?_set_ne (by omega)]; exact p4.top, fun i hi => ?_⟩
        rw [nbs_snoc]
        by_cases z : i = v
        · subst z
          rw [List.getElem?_set_self (by rw [List.length_set]; omega)]
          simp only
          rw [if_neg (by omega), if_pos trivial]; simp
        · rw [List.getElem?_set_ne (by omega), p4.row i hi]
          simp only
          by_cases z2 : i = u
          · subst z2; rw [if_pos rfl, if_pos rfl]
          · rw [if_neg z2, if_neg (by omega), if_neg (by omega), List.append_nil])
    (ρ := [some (.d (webN m es)), some (.ref (s.length + m)), none, none, none]) (s := s ++ List.replicate m (.lst []) ++ [.lst ((List.range m).map fun i => W.ref (s.length + i))])
    ⟨⟨none, none, rfl⟩, by simp; omega, fun i hi => by rw [List.append_assoc, List.getElem?_append_left hi], ⟨by
      rw [List.getElem?_append_right (by simp)]
      simp, fun i hi => by
      rw [List.append_assoc, List.getElem?_append_right (by omega), List.getElem?_append_left (by simp; omega), List.getElem?_replicate, if_pos (by omega)]
      rfl⟩⟩
  refine ⟨s2, dDef_rt (ρ' := [some (.d (webN m es)), some (.ref (s.length + m)), x, y, none]) (to g1 (to (dFor_ok (dIter_ok (x := .tuple (es.map eD)) (dBin_ok (dVar_ok rfl) rfl (vIx_tup (j := 1) rfl)) rfl) ?_) (dRet_ok (dVar_ok rfl)))), f2, f3, f4⟩
  rw [map_d]
  exact f1
end BL

namespace BL
open PySem PySem.Spec PyProof.Rows L2 Y
/-! ### the parts of what is left -/
inductive Rch (es : List E2) : Nat → Nat → Prop
  | nil (u : Nat) : Rch es u u
  | snoc {u t v : Nat} : Rch es u t → Adj es t v → Rch es u v
theorem Rch.trans {es : List E2} {a b c : Nat} (h : Rch es a b) (g : Rch es b c) : Rch es a c := by
  induction g with
  | nil => exact h
  | snoc _ e ih => exact .snoc ih e
theorem Rch.symm {es : List E2} {a b : Nat} (h : Rch es a b) : Rch es b a := by
  induction h with
  | nil => exact .nil _
  | snoc _ e ih => exact (Rch.snoc (.nil _) e.symm).trans ih
/-- nobody reaches one without a pair, but himself -/
theorem Rch.alone {es : List E2} {a b : Nat} (h : Rch es a b) (no : ∀ w, ¬ Adj es w b) : a = b := by
  cases h with
  | nil => rfl
  | snoc _ e => exact absurd e (no _)
def outE (l : List Nat) (e : E2) : Bool := !decide (e.1 ∈ l) && !decide (e.2 ∈ l)
noncomputable def B_without : DS :=
  (dRet (dTup (dCons (dBin vIx (dVar 0) (dLit (.int 0))) (dCons (dCall gTupleOf (dCons (dLcF (dLc [2, 3] (dIter (dBin vIx (dVar 0) (dLit (.int 1)))) (tTup' 2 (tCons' (tName 2) (tCons' (tName 3) tNil'))) (dAnd (fun ρ st => asB (dBin (vIn true) (dVar 2) (dVar 1) ρ st)) (fun ρ st => asB (dBin (vIn true) (dVar 3) (dVar 1) ρ st))) (dTup (dCons (dVar 2) (dCons (dVar 3) dNil))))) dNil)) dNil))))
noncomputable def F_without : Fn := dDef 4 B_without

theorem without_ok {m : Nat} {es : List E2} {l : List Nat} (hl : es.length ≤ 1000) : F_without [.d (webN m es), .d (lotD l)] [] = .ok (.d (webN m (es.filter (outE l)))) [] := by
  have e := lcL_filter2 (tg := tTup' 2 (tCons' (tName 2) (tCons' (tName 3) tNil'))) (tt := dAnd (fun ρ st => asB (dBin (vIn true) (dVar 2) (dVar 1) ρ st)) (fun ρ st => asB (dBin (vIn true) (dVar 3) (dVar 1) ρ st))) (fe := dTup (dCons (dVar 2) (dCons (dVar 3) dNil))) (ρ := [some (.d (webN m es)), some (.d (lotD l)), none, none]) (s := []) (emb := fun e => W.d (eD e)) (g := fun e => W.d (eD e)) (p := outE l) es (fun e _ =>
    ⟨[some (.d (webN m es)), some (.d (lotD l)), some (nW e.1), some (nW e.2)], rfl, and_ok (asB_ok (dBin_ok (dVar_ok rfl) (dVar_ok rfl) vNotIn_nat)) (asB_ok (dBin_ok (dVar_ok rfl) (dVar_ok rfl) vNotIn_nat)), fun _ => tup_ok (ds := [nI e.1, nI e.2]) (dCons_ok (dVar_ok rfl) (dCons1_ok (dVar_ok rfl))) rfl (Nat.le_of_ble_eq_true rfl)⟩)
  rw [← map_d eD, ← map_d eD] at e
  have hf : (es.filter (outE l)).length ≤ es.length := List.length_filter_le _ _
  exact dDef_rt (ρ' := [some (.d (webN m es)), some (.d (lotD l)), none, none]) (dRet_ok (tup_ok (ds := [nI m, .tuple ((es.filter (outE l)).map eD)]) (dCons_ok (dBin_ok (dVar_ok rfl) rfl (vIx_tup (j := 0) rfl)) (dCons1_ok (dCall_ok (dCons1_ok (dLcF_ok (dLc_ok (vs := [2, 3]) (dIter_ok (x := .tuple (es.map eD)) (dBin_ok (dVar_ok rfl) rfl (vIx_tup (j := 1) rfl)) rfl) e (le_line (by rw [List.length_map, List.length_map]; omega))))) tupleOf_list))) rfl (Nat.le_of_ble_eq_true rfl)))
noncomputable def B_part_of : DS :=
  (dSeq (dSetIx (dLit (.bool true)) (dVar 1) (dVar 2))
    (dSeq (dSet 3 (dNew dNil))
    (dSeq (dSet 4 (dNew (dCons (dVar 2) dNil)))
    (dSeq (dWhile (dTru (dVar 4))
    (dSeq (dSet 5 (dMeth0 mPop (dVar 4)))
    (dSeq (dExpr (dMeth mAppend (dVar 3) (dCons (dVar 5) dNil)))
    (dForS (dBin vIx (dVar 0) (dVar 5)) (tName 6)
    (dIfS (dNot (fun ρ st => asB ((dBin vIx (dVar 1) (dVar 6)) ρ st)))
    (dSeq (dSetIx (dLit (.bool true)) (dVar 1) (dVar 6))
    (dExpr (dMeth mAppend (dVar 4) (dCons (dVar 6) dNil))))
    dEnd)))))
    (dRet (dCall gTupleOf (dCons (dCall gSorted (dCons (dVar 3) dNil)) dNil)))))))
noncomputable def F_part_of : Fn := dDef 7 B_part_of

abbrev bools (m : Nat) (b : Nat → Bool) : SO := .lst ((List.range m).map fun i => .d (.bool (b i)))
theorem bools_get {m : Nat} {b : Nat → Bool} {s : Sto} {B v : Nat} (h : s[B]? = some (bools m b)) (hv : v < m) : vIx (.ref B) (nW v) s = .ok (.d (.bool (b v))) s :=
  vIx_ref h (by rw [List.getElem?_map, List.getElem?_range hv]; rfl)
theorem bools_set {m : Nat} {b : Nat → Bool} {v : Nat} (x : Bool) : ((List.range m).map fun i => W.d (.bool (b i))).set v (.d (.bool x)) = (List.range m).map fun i => W.d (.bool (if i = v then x else b i)) := by
  apply List.ext_getElem?
  intro i
  rw [List.getElem?_set]
  by_cases h1 : v = i
  · subst h1
    rw [if_pos rfl]
    by_cases h2 : v < m
    · rw [if_pos (by simpa using h2), List.getElem?_map, List.getElem?_range h2]
      simp
    · rw [if_neg (by simpa using h2), List.getElem?_map, List.getElem?_eq_none (by simpa using h2)]
      rfl
  · rw [if_neg h1, List.getElem?_map, List.getElem?_map]
    by_cases h2 : i < m
    · rw [List.getElem?_range h2]
      simp only [Option.map_some]
      rw [if_neg (fun z => h1 z.symm)]
    · rw [List.getElem?_eq_none (by simpa using h2)]; rfl
theorem dTru_ref {f : En → Sto → R W} {ρ : En} {s s1 : Sto} {n : Nat} {ws : List W} (h1 : f ρ s = .ok (.ref n) s1) (h2 : s1[n]? = some (.lst ws)) : dTru f ρ s = .ok (!ws.isEmpty) s1 := by
  unfold dTru
  rw [h1, R.bind_ok]
  simp only [items, h2]
/-- a walk's state: who is told, who is ahead -/
structure PSt (es : List E2) (m L B n0 p : Nat) (s0 : Sto) (b0 : Nat → Bool) (part ahead : List Nat) (b : Nat → Bool) (s : Sto) : Prop where
  len : s.length = n0 + 2
  keep : ∀ i, i < n0 → i ≠ B → s[i]? = s0[i]?
  bs : s[B]? = some (bools m b)
  pa : s[n0]? = some (.lst (part.map nW))
  ah : s[n0 + 1]? = some (.lst (ahead.map nW))
  nd : (part ++ ahead).Nodup
  mem : ∀ v, v < m → (b v = true ↔ b0 v = true ∨ v ∈ part ∨ v ∈ ahead)
  lt : ∀ v, v ∈ part ∨ v ∈ ahead → v < m ∧ b0 v = false ∧ Rch es p v
theorem nodup_lt {l : List Nat} {m : Nat} (h : l.Nodup) (hl : ∀ v ∈ l, v < m) : l.length ≤ m := by
  have := MB.sub_len l (List.range m) h fun v hv => List.mem_range.mpr (hl v hv)
  simpa using this
theorem srt_part {m : Nat} {l : List Nat} (h : l.Nodup) (hl : ∀ v ∈ l, v < m) : srtI (l.map fun i : Nat => (i : Int)) = ((List.range m).filter fun v => decide (v ∈ l)).map fun i : Nat => (i : Int) := by
  refine (srtI_uniq ?_ ?_).symm
  · refine List.Perm.map _ ((List.perm_ext_iff_of_nodup ((List.nodup_range).filter _) h).mpr fun a => ?_)
    rw [List.mem_filter, List.mem_range, decide_eq_true_eq]
    exact ⟨fun q => q.2, fun q => ⟨hl a q, q⟩⟩
  · rw [List.pairwise_map]
    exact ((List.pairwise_lt_range).filter _).imp fun {a b} q => by omega
theorem part_of_ok {es : List E2} {m L B p : Nat} {s : Sto} {b0 : Nat → Bool} (hes : ∀ e ∈ es, e.1 < e.2 ∧ e.2 < m) (hl : es.length ≤ 1000) (hm : m ≤ 1000) (hr : RowsAt s L m (nbs es)) (hLB : L + m < B) (hB : B < s.length) (hb : s[B]? = some (bools m b0)) (hp : p < m) (hpb : b0 p = false) :
    ∃ s' b', F_part_of [.ref (L + m), .ref B, nW p] s = .ok (.d (lotD ((List.range m).filter fun v => b' v && !b0 v))) s' ∧ s'.length = s.length + 2 ∧ (∀ i, i < s.length → i ≠ B → s'[i]? = s[i]?) ∧ s'[B]? = some (bools m b') ∧ (∀ v, v < m → b0 v = true → b' v = true) ∧ b' p = true ∧
      ∀ v, v < m → b' v = true → b0 v = false → Rch es p v ∧ ∀ w, Adj es v w → b' w = true := by
  have adj_lt : ∀ {u w}, Adj es u w → w < m := fun {u w} h => h.elim (fun q => (hes _ q).2) (fun q => by have := hes _ q; simp only at this; omega)
  have hes1 : ∀ e ∈ es, e.1 < e.2 := fun e he => (hes e he).1
  -- the loop
  have loop := while_ok (c := dTru (dVar 4)) (body := (dSeq (dSet 5 (dMeth0 mPop (dVar 4)))
    (dSeq (dExpr (dMeth mAppend (dVar 3) (dCons (dVar 5) dNil)))
    (dForS (dBin vIx (dVar 0) (dVar 5)) (tName 6)
    (dIfS (dNot (fun ρ st => asB ((dBin vIx (dVar 1) (dVar 6)) ρ st)))
    (dSeq (dSetIx (dLit (.bool true)) (dVar 1) (dVar 6))
    (dExpr (dMeth mAppend (dVar 4) (dCons (dVar 6) dNil))))
    dEnd)))))
    (P := fun k ρ t => ∃ x y part ahead b, ρ = [some (.ref (L + m)), some (.ref B), some (nW p), some (.ref s.length), some (.ref (s.length + 1)), x, y] ∧ PSt es m L B s.length p s b0 part ahead b t ∧ (p ∈ part ∨ p ∈ ahead) ∧ k = m - part.length ∧ ∀ v ∈ part, ∀ w, Adj es v w → b w = true)
    (Q := fun ρ t => ∃ x y part b, ρ = [some (.ref (L + m)), some (.ref B), some (nW p), some (.ref s.length), some (.ref (s.length + 1)), x, y] ∧ PSt es m L B s.length p s b0 part [] b t ∧ p ∈ part ∧ ∀ v ∈ part, ∀ w, Adj es v w → b w = true)
    (fun k ρ t hP => by
      obtain ⟨x, y, part, ahead, b, rfl, st, hpp, rfl, cl⟩ := hP
      rcases List.eq_nil_or_concat ahead with rfl | ⟨ah, one, rfl⟩
      · refine .inl ⟨t, ?_, x, y, part, b, rfl, st, hpp.elim id (fun z => nomatch z), cl⟩
        exact dTru_ref (dVar_ok rfl) st.ah
      · rw [List.concat_eq_append] at st hpp
        refine .inr ?_
        have hone := st.lt one (.inr (by simp))
        have hlen : (part ++ (ah ++ [one])).length ≤ m := nodup_lt st.nd fun v hv => (st.lt v (List.mem_append.mp hv)).1
        rw [List.length_append, List.length_append, List.length_singleton] at hlen
        have ht : dTru (dVar 4) [some (.ref (L + m)), some (.ref B), some (nW p), some (.ref s.length), some (.ref (s.length + 1)), x, y] t = .ok true t := by
          have := dTru_ref (f := dVar 4) (ρ := [some (.ref (L + m)), some (.ref B), some (nW p), some (.ref s.length), some (.ref (s.length + 1)), x, y]) (dVar_ok rfl) st.ah
          rw [this]; simp
        -- one is taken
        have a0 := st.ah
        rw [List.map_append] at a0
        have pop := pop_ok a0
        have lt0 : s.length < t.length := by rw [st.len]; omega
        have lt1 : s.length + 1 < t.length := by rw [st.len]; omega
        generalize ht1 : t.set (s.length + 1) (.lst (ah.map nW)) = t1 at pop
        have p1 : t1[s.length]? = some (.lst (part.map nW)) := by rw [← ht1, List.getElem?_set_ne (by omega)]; exact st.pa
        have app := append_ok (w := nW one) p1 (by rw [List.length_map]; omega)
        generalize ht2 : t1.set s.length (.lst (part.map nW ++ [nW one])) = t2 at app
        have k2 : ∀ i, i < s.length → t2[i]? = t[i]? := fun i hi => by
          rw [← ht2, List.getElem?_set_ne (by omega), ← ht1, List.getElem?_set_ne (by omega)]
        have hr2 : RowsAt t2 L m (nbs es) := hr.keep fun i hi => by rw [k2 i (by omega)]; exact st.keep i (by omega) (by omega)
        -- invariant of the walk through the row
        have nd := st.nd
        have st2 : PSt es m L B s.length p s b0 (part ++ [one]) ah b t2 := by
          refine ⟨by rw [← ht2, ← ht1]; simp [st.len], fun i hi hne => (k2 i hi).trans (st.keep i hi hne), (k2 B hB).trans st.bs, ?_, ?_, ?_, fun v hv => ?_, fun v hv => ?_⟩
          · rw [← ht2, List.getElem?_set_self (by rw [← ht1]; simpa using lt0)]; simp
          · rw [← ht2, List.getElem?_set_ne (by omega), ← ht1, List.getElem?_set_self lt1]
          · refine List.Perm.nodup_iff ?_ |>.mp nd
            rw [List.append_assoc]
            exact List.Perm.append_left _ List.perm_append_comm
          · rw [st.mem v hv]; simp only [List.mem_append, List.mem_singleton]
            constructor <;> (rintro (h | h | h) <;> simp_all) <;> (rcases h with h | h <;> simp_all)
          · refine st.lt v ?_
            simp only [List.mem_append, List.mem_singleton] at hv ⊢
            rcases hv with (h | h) | h <;> simp_all
        obtain ⟨ρ3, t3, f1, y3, ah3, b3, rfl, f2, f3, f4, f5⟩ := forS_ok (n := L + one) (tg := tName 6) (body := (dIfS (dNot (fun ρ st => asB ((dBin vIx (dVar 1) (dVar 6)) ρ st)))
    (dSeq (dSetIx (dLit (.bool true)) (dVar 1) (dVar 6))
    (dExpr (dMeth mAppend (dVar 4) (dCons (dVar 6) dNil))))
    dEnd)) (emb := nW) (P := fun pre ρ t' => ∃ y' ah' b', ρ = [some (.ref (L + m)), some (.ref B), some (nW p), some (.ref s.length), some (.ref (s.length + 1)), some (nW one), y'] ∧ PSt es m L B s.length p s b0 (part ++ [one]) ah' b' t' ∧ (∀ v, b v = true → b' v = true) ∧ (∀ w ∈ pre, b' w = true) ∧ ∀ i, i < s.length → i ≠ B → t'[i]? = t2[i]?) (nbs es one)
          (fun pre ρ t' h => by
            obtain ⟨y', ah', b', rfl, g1, g2, g3, g4⟩ := h
            rw [g4 _ (by omega) (by omega)]
            exact hr2.row one hone.1)
          (fun pre w post ρ t' ew h => by
            obtain ⟨y', ah', b', rfl, g1, g2, g3, g4⟩ := h
            have hw : Adj es one w := (mem_nbs hes1).mp (by rw [ew]; simp)
            have hwm := adj_lt hw
            have tt : dNot (fun ρ st => asB ((dBin vIx (dVar 1) (dVar 6)) ρ st)) [some (.ref (L + m)), some (.ref B), some (nW p), some (.ref s.length), some (.ref (s.length + 1)), some (nW one), some (nW w)] t' = .ok (!b' w) t' :=
              dNot_ok (asB_ok (dBin_ok (dVar_ok rfl) (dVar_ok rfl) (bools_get g1.bs hwm)))
            cases hbw : b' w with
            | true =>
              rw [hbw] at tt
              refine ⟨[some (.ref (L + m)), some (.ref B), some (nW p), some (.ref s.length), some (.ref (s.length + 1)), some (nW one), some (nW w)], t', _, t', rfl, dIfS_f tt rfl, _, ah', b', rfl, g1, g2, fun u hu => ?_, g4⟩
              rcases List.mem_append.mp hu with h | h
              · exact g3 u h
              · rw [List.mem_singleton.mp h]; exact hbw
            | false =>
              rw [hbw] at tt
              have e1 := setIx_ok (fe := dLit (.bool true)) (fo := dVar 1) (fi := dVar 6) (ρ := [some (.ref (L + m)), some (.ref B), some (nW p), some (.ref s.length), some (.ref (s.length + 1)), some (nW one), some (nW w)]) (s := t') (s1 := t') (s2 := t') (s3 := t') (w := .d (.bool true)) (n := B) (i := w) rfl (dVar_ok rfl) (dVar_ok rfl) g1.bs (by simpa using hwm)
              rw [bools_set] at e1
              generalize ht4 : t'.set B (.lst ((List.range m).map fun i => W.d (.bool (if i = w then true else b' i)))) = t4 at e1
              have a4 : t4[s.length + 1]? = some (.lst (ah'.map nW)) := by rw [← ht4, List.getElem?_set_ne (by omega)]; exact g1.ah
              have hlen3 : (part ++ [one] ++ ah').length ≤ m := nodup_lt g1.nd fun v hv => (g1.lt v (List.mem_append.mp hv)).1
              simp only [List.length_append, List.length_singleton] at hlen3
              have e2 := append_ok (w := nW w) a4 (by rw [List.length_map]; omega)
              have hw0 : ¬ (b0 w = true ∨ w ∈ part ++ [one] ∨ w ∈ ah') := fun z => by rw [(g1.mem w hwm).mpr z] at hbw; cases hbw
              refine ⟨[some (.ref (L + m)), some (.ref B), some (nW p), some (.ref s.length), some (.ref (s.length + 1)), some (nW one), some (nW w)], t', _, _, rfl, dIfS_t tt (to e1 (dExpr_ok (dMeth_ok (dVar_ok rfl) a4 (dCons1_ok (dVar_ok rfl)) e2))), _, ah' ++ [w], fun i => if i = w then true else b' i, rfl, ⟨?_, ?_, ?_, ?_, ?_, ?_, ?_, ?_⟩, ?_, ?_, ?_⟩
              · rw [← ht4]; simp [g1.len]
              · intro i hi hne
                rw [List.getElem?_set_ne (by omega), ← ht4, List.getElem?_set_ne (by omega)]
                exact g1.keep i hi hne
              · rw [List.getElem?_set_ne (by omega), ← ht4, List.getElem?_set_self (by rw [g1.len]; omega)]
              · rw [List.getElem?_set_ne (by omega), ← ht4, List.getElem?_set_ne (by omega)]; exact g1.pa
              · rw [List.getElem?_set_self (by rw [← ht4]; simp [g1.len])]; simp
              · rw [← List.append_assoc]
                refine List.nodup_append.mpr ⟨g1.nd, by simp, fun a ha c hc e => ?_⟩
                rw [List.mem_singleton.mp hc] at e
                subst e
                exact hw0 (.inr (List.mem_append.mp ha))
              · intro v hv
                by_cases z : v = w
                · subst z; simp
                · simp only [if_neg z]
                  rw [g1.mem v hv, List.mem_append (s := ah'), List.mem_singleton]
                  simp [z]
              · intro v hv
                rw [List.mem_append (s := ah'), List.mem_singleton, ← or_assoc] at hv
                rcases hv with hv | rfl
                · exact g1.lt v hv
                · exact ⟨hwm, by simpa using fun z => hw0 (.inl z), hone.2.2.snoc hw⟩
              · intro v hv
                simp only
                split
                · rfl
                · exact g2 v hv
              · intro u hu
                simp only
                rcases List.mem_append.mp hu with h | h
                · split
                  · rfl
                  · exact g3 u h
                · rw [if_pos (List.mem_singleton.mp h)]
              · intro i hi hne
                rw [List.getElem?_set_ne (by omega), ← ht4, List.getElem?_set_ne (by omega)]
                exact g4 i hi hne)
          (nbs es one) [] [some (.ref (L + m)), some (.ref B), some (nW p), some (.ref s.length), some (.ref (s.length + 1)), some (nW one), y] t2 rfl ⟨y, ah, b, rfl, st2, fun _ h => h, (fun _ h => nomatch h), fun _ _ _ => rfl⟩
        refine ⟨t, _, t3, m - (part ++ [one]).length, ht, to (dSet_ok (meth0_ok (dVar_ok rfl) a0 pop)) (to (dExpr_ok (dMeth_ok (dVar_ok rfl) p1 (dCons1_ok (dVar_ok rfl)) app)) (dForS_ok (dBin_ok (dVar_ok rfl) (dVar_ok rfl) (hr2.get hone.1)) (hr2.row one hone.1) f1)), by rw [List.length_append, List.length_singleton]; omega, _, _, part ++ [one], ah3, b3, rfl, f2, ?_, rfl, ?_⟩
        · rcases hpp with h | h
          · exact .inl (List.mem_append_left _ h)
          · rcases List.mem_append.mp h with h | h
            · have h5 : b p = true := (st.mem p hp).mpr (.inr (.inr (List.mem_append_left _ h)))
              have h6 := (f2.mem p hp).mp (f3 p h5)
              rcases h6 with h6 | h6 | h6
              · rw [hpb] at h6; cases h6
              · exact .inl h6
              · exact .inr h6
            · rw [List.mem_singleton.mp h]; exact .inl (by simp)
        · intro v hv w hvw
          rcases List.mem_append.mp hv with h | h
          · exact f3 w (cl v h w hvw)
          · rw [List.mem_singleton.mp h] at hvw
            exact f4 w ((mem_nbs hes1).mpr hvw))
  -- the first steps
  have e1 := setIx_ok (fe := dLit (.bool true)) (fo := dVar 1) (fi := dVar 2) (ρ := [some (.ref (L + m)), some (.ref B), some (nW p), none, none, none, none]) (s := s) (s1 := s) (s2 := s) (s3 := s) (w := .d (.bool true)) (n := B) (i := p) rfl (dVar_ok rfl) (dVar_ok rfl) hb (by simpa using hp)
  rw [bools_set] at e1
  generalize hs1 : s.set B (.lst ((List.range m).map fun i => W.d (.bool (if i = p then true else b0 i)))) = s1 at e1
  have l1 : s1.length = s.length := by rw [← hs1]; simp
  have e2 : (dSet 3 (dNew dNil)) [some (.ref (L + m)), some (.ref B), some (nW p), none, none, none, none] s1 = .ok (.nx, [some (.ref (L + m)), some (.ref B), some (nW p), some (.ref s.length), none, none, none]) (s1 ++ [.lst []]) := by
    have := dSet_ok (i := 3) (ρ := [some (.ref (L + m)), some (.ref B), some (nW p), none, none, none, none]) (dNew_ok (fa := dNil) (s := s1) rfl (by decide))
    rw [l1] at this; exact this
  have e3 : (dSet 4 (dNew (dCons (dVar 2) dNil))) [some (.ref (L + m)), some (.ref B), some (nW p), some (.ref s.length), none, none, none] (s1 ++ [.lst []]) = .ok (.nx, [some (.ref (L + m)), some (.ref B), some (nW p), some (.ref s.length), some (.ref (s.length + 1)), none, none]) (s1 ++ [.lst []] ++ [.lst [nW p]]) := by
    have := dSet_ok (i := 4) (ρ := [some (.ref (L + m)), some (.ref B), some (nW p), some (.ref s.length), none, none, none]) (dNew_ok (fa := dCons (dVar 2) dNil) (s := s1 ++ [.lst []]) (dCons1_ok (dVar_ok rfl)) (le_line (Nat.le_of_ble_eq_true rfl)))
    rw [List.length_append, l1] at this; exact this
  obtain ⟨ρ', t, g1, x, y, part, b, rfl, g2, g3, g4⟩ := loop m [some (.ref (L + m)), some (.ref B), some (nW p), some (.ref s.length), some (.ref (s.length + 1)), none, none] (s1 ++ [.lst []] ++ [.lst [nW p]])
    ⟨none, none, [], [p], fun i => if i = p then true else b0 i, rfl, ⟨by simp [l1], fun i hi hne => by rw [List.append_assoc, List.getElem?_append_left (by omega), ← hs1, List.getElem?_set_ne (by omega)], by rw [List.append_assoc, List.getElem?_append_left (by omega), ← hs1, List.getElem?_set_self hB], by rw [List.append_assoc, List.getElem?_append_right (by omega), l1, Nat.sub_self]; rfl, by rw [List.getElem?_append_right (by simp [l1])]; simp [l1], by simp, fun v hv => by
      by_cases z : v = p
      · subst z; simp
      · simp [z], fun v hv => by
      have : v = p := by simpa using hv
      subst this
      exact ⟨hp, hpb, .nil _⟩⟩, .inr (by simp), by simp, fun _ h => nomatch h⟩
  have pl : part.Nodup := by have := g2.nd; simpa using this
  have plt : ∀ v ∈ part, v < m := fun v hv => (g2.lt v (.inl hv)).1
  have srt : gSorted [.ref s.length] t = .ok (.d (.list (((List.range m).filter fun v => decide (v ∈ part)).map nI))) t := by
    unfold gSorted
    have : asD t (.ref s.length) = some (.list ((part.map fun i : Nat => (i : Int)).map .int)) := by
      unfold asD
      simp only
      rw [g2.pa]
      simp only
      rw [show part.map nW = (part.map nI).map W.d by rw [map_d], allD_map]
      simp
    dsimp only
    rw [this]
    simp only
    rw [asInts_map]
    simp only
    rw [srt_part pl plt]
    simp
  have hfil : ((List.range m).filter fun v => decide (v ∈ part)) = (List.range m).filter fun v => b v && !b0 v := by
    refine List.filter_congr fun v hv => ?_
    have hv := List.mem_range.mp hv
    have q := g2.mem v hv
    rw [Bool.eq_iff_iff, decide_eq_true_eq, Bool.and_eq_true, q, Bool.not_eq_true']
    constructor
    · intro h; exact ⟨.inr (.inl h), (g2.lt v (.inl h)).2.1⟩
    · rintro ⟨h | h | h, h2⟩
      · rw [h] at h2; cases h2
      · exact h
      · cases h
  refine ⟨t, b, dDef_rt (ρ' := [some (.ref (L + m)), some (.ref B), some (nW p), some (.ref s.length), some (.ref (s.length + 1)), x, y]) (to e1 (to e2 (to e3 (to g1 (dRet_ok (dCall_ok (dCons1_ok (dCall_ok (dCons1_ok (dVar_ok rfl)) srt)) ?_)))))), g2.len, g2.keep, g2.bs, fun v hv h => (g2.mem v hv).mpr (.inl h), (g2.mem p hp).mpr (.inr (.inl g3)), fun v hv h1 h2 => ?_⟩
  · rw [tupleOf_list, hfil]
  · rcases (g2.mem v hv).mp h1 with h | h | h
    · rw [h] at h2; cases h2
    · exact ⟨(g2.lt v (.inl h)).2.2, g4 v h⟩
    · cases h
end BL

namespace BL
open PySem PySem.Spec PyProof.Rows L2 Y
theorem fz_ok {f : En → Sto → R W} {ρ : En} {s s1 : Sto} {n : Nat} {ds : List PyData} (h1 : f ρ s = .ok (.ref n) s1) (h2 : s1[n]? = some (.lst (ds.map W.d))) : dFz f ρ s = .ok (.d (.list ds)) (s1.set n .dead) := by
  unfold dFz
  rw [h1, R.bind_ok]
  unfold freeze
  dsimp only
  rw [h2]
  dsimp only
  rw [allD_map]
theorem range_split {m a : Nat} {pre post : List Nat} (h : List.range m = pre ++ a :: post) : a < m ∧ pre = List.range a := by
  have h1 : (List.range m)[pre.length]? = some a := by rw [h]; simp
  have h2 := List.getElem?_eq_some_iff.mp h1
  obtain ⟨h3, h4⟩ := h2
  have h5 : a = pre.length := by simpa using h4.symm
  have h6 : a < m := by rw [h5]; simpa using h3
  refine ⟨h6, ?_⟩
  have h7 := congrArg (List.take pre.length) h
  rw [List.take_left, List.take_range, Nat.min_eq_left (by omega)] at h7
  rw [h5, h7]
/-! ### the parts, by reaching -/
def IsHead (es : List E2) (l : List Nat) (p : Nat) : Prop := p ∉ l ∧ ∀ w, w < p → ¬ Rch es w p
open Classical in
noncomputable def partOf (m : Nat) (es : List E2) (h : Nat) : List Nat := (List.range m).filter fun v => decide (Rch es h v)
open Classical in
noncomputable def heads (es : List E2) (l : List Nat) (k : Nat) : List Nat := (List.range k).filter fun p => decide (IsHead es l p)
noncomputable def cano (m : Nat) (es : List E2) (l : List Nat) : List (List Nat) := (heads es l m).map (partOf m es)
theorem out_adj {es : List E2} {l : List Nat} {u v : Nat} : Adj (es.filter (outE l)) u v ↔ Adj es u v ∧ u ∉ l ∧ v ∉ l := by
  unfold Adj outE
  simp only [List.mem_filter, Bool.and_eq_true, Bool.not_eq_true', decide_eq_false_iff_not]
  constructor
  · rintro (⟨a, b, c⟩ | ⟨a, b, c⟩)
    · exact ⟨.inl a, b, c⟩
    · exact ⟨.inr a, c, b⟩
  · rintro ⟨a | a, b, c⟩
    · exact .inl ⟨a, b, c⟩
    · exact .inr ⟨a, c, b⟩
noncomputable def B_parts_left : DS :=
  (dSeq (dSet 2 (dCal 1 F_rows_of (dCons (dCalP 2 F_without (dCons (dVar 0) (dCons (dVar 1) dNil))) dNil)))
    (dSeq (dSet 3 (dLcN (dLc [5] (dRng1 (dCons (dBin vIx (dVar 0) (dLit (.int 0))) dNil)) (tName 5) (fun _ st => .ok true st) (dBin (vIn false) (dVar 5) (dVar 1)))))
    (dSeq (dSet 4 (dNew dNil))
    (dSeq (dFor (dRng1 (dCons (dBin vIx (dVar 0) (dLit (.int 0))) dNil)) (tName 5)
    (dIfS (dNot (fun ρ st => asB ((dBin vIx (dVar 3) (dVar 5)) ρ st)))
    (dExpr (dMeth mAppend (dVar 4) (dCons (dCal 3 F_part_of (dCons (dVar 2) (dCons (dVar 3) (dCons (dVar 5) dNil)))) dNil)))
    dEnd))
    (dRet (dFz (dVar 4)))))))
noncomputable def F_parts_left : Fn := dDef 6 B_parts_left

theorem parts_left_ok {m : Nat} {es : List E2} {l : List Nat} (hes : ∀ e ∈ es, e.1 < e.2 ∧ e.2 < m) (hl : es.length ≤ 1000) (hm : m ≤ 1000) :
    ∃ s', F_parts_left [.d (webN m es), .d (lotD l)] [] = .ok (.d (.list ((cano m (es.filter (outE l)) l).map lotD))) s' := by
  generalize hfe : es.filter (outE l) = fe
  have hfes : ∀ e ∈ fe, e.1 < e.2 ∧ e.2 < m := fun e he => by rw [← hfe] at he; exact hes e (List.mem_filter.mp he).1
  have hfl : fe.length ≤ 1000 := by rw [← hfe]; exact Nat.le_trans (List.length_filter_le _ _) hl
  have iso : ∀ {u v : Nat}, Adj fe u v → u ∉ l ∧ v ∉ l := fun {u v} h => by rw [← hfe] at h; exact (out_adj.mp h).2
  have alone : ∀ {u v : Nat}, Rch fe u v → v ∈ l → u = v := fun {u v} h hv => h.alone fun w q => (iso q).2 hv
  obtain ⟨s1, a1, a2, _, a4⟩ := rows_of_ok hfes hfl hm []
  simp only [List.length_nil, Nat.zero_add] at a1 a2
  have w1 := without_ok (m := m) (l := l) hl
  rw [hfe] at w1
  have g1 : (dSet 2 (dCal 1 F_rows_of (dCons (dCalP 2 F_without (dCons (dVar 0) (dCons (dVar 1) dNil))) dNil))) [some (.d (webN m es)), some (.d (lotD l)), none, none, none, none] [] = .ok (.nx, [some (.d (webN m es)), some (.d (lotD l)), some (.ref m), none, none, none]) s1 :=
    dSet_ok (dCal_ok (dCons1_ok (dCalP_ok (dCons_ok (dVar_ok rfl) (dCons1_ok (dVar_ok rfl))) rfl rfl w1)) rfl a1)
  have c1 := lcL_map (tg := tName 5) (fe := dBin (vIn false) (dVar 5) (dVar 1)) (ρ := [some (.d (webN m es)), some (.d (lotD l)), some (.ref m), none, none, none]) (s := s1) (emb := fun i : Nat => W.d (.int i)) (g := fun i => .d (.bool (decide (i ∈ l)))) (List.range m) (fun i hi => ⟨[some (.d (webN m es)), some (.d (lotD l)), some (.ref m), none, none, some (nW i)], rfl, dBin_ok (dVar_ok rfl) (dVar_ok rfl) vIn_nat⟩)
  have g2 : (dSet 3 (dLcN (dLc [5] (dRng1 (dCons (dBin vIx (dVar 0) (dLit (.int 0))) dNil)) (tName 5) (fun _ st => .ok true st) (dBin (vIn false) (dVar 5) (dVar 1))))) [some (.d (webN m es)), some (.d (lotD l)), some (.ref m), none, none, none] s1 = .ok (.nx, [some (.d (webN m es)), some (.d (lotD l)), some (.ref m), some (.ref (m + 1)), none, none]) (s1 ++ [bools m fun i => decide (i ∈ l)]) := by
    have := dSet_ok (i := 3) (dLcN_ok (dLc_ok (vs := [5]) (dRng1_ok (j := m) (dCons1_ok (dBin_ok (f := dVar 0) (g := dLit (.int 0)) (ρ := [some (.d (webN m es)), some (.d (lotD l)), some (.ref m), none, none, none]) (s := s1) (dVar_ok rfl) rfl (vIx_tup (j := 0) rfl))) (by omega)) c1 (le_line (by rw [List.length_map, List.length_range]; omega))))
    rw [a2] at this
    exact this
  have g3 : (dSet 4 (dNew dNil)) [some (.d (webN m es)), some (.d (lotD l)), some (.ref m), some (.ref (m + 1)), none, none] (s1 ++ [bools m fun i => decide (i ∈ l)]) = .ok (.nx, [some (.d (webN m es)), some (.d (lotD l)), some (.ref m), some (.ref (m + 1)), some (.ref (m + 2)), none]) (s1 ++ [bools m fun i => decide (i ∈ l)] ++ [.lst []]) := by
    have := dSet_ok (i := 4) (ρ := [some (.d (webN m es)), some (.d (lotD l)), some (.ref m), some (.ref (m + 1)), none, none]) (dNew_ok (fa := dNil) (s := s1 ++ [bools m fun i => decide (i ∈ l)]) rfl (by decide))
    rw [List.length_append, a2] at this
    exact this
  obtain ⟨ρ', t, f1, ⟨x, rfl⟩, f2, ⟨b, f3, f4⟩, f5, f6⟩ := forL_ok (tg := tName 5) (body := (dIfS (dNot (fun ρ st => asB ((dBin vIx (dVar 3) (dVar 5)) ρ st)))
    (dExpr (dMeth mAppend (dVar 4) (dCons (dCal 3 F_part_of (dCons (dVar 2) (dCons (dVar 3) (dCons (dVar 5) dNil)))) dNil)))
    dEnd)) (emb := fun i : Nat => W.d (.int i))
    (P := fun pre ρ t => (∃ x, ρ = [some (.d (webN m es)), some (.d (lotD l)), some (.ref m), some (.ref (m + 1)), some (.ref (m + 2)), x]) ∧ m + 3 ≤ t.length ∧ (∃ b, t[m + 1]? = some (bools m b) ∧ ∀ v, v < m → (b v = true ↔ v ∈ l ∨ ∃ w ∈ pre, w ∉ l ∧ Rch fe w v)) ∧ t[m + 2]? = some (.lst (((heads fe l pre.length).map (partOf m fe)).map fun c => W.d (lotD c))) ∧ RowsAt t 0 m (nbs fe)) (List.range m)
    (fun pre a post ρ t ea p => by
      obtain ⟨⟨x, rfl⟩, p1, ⟨b, p2, p3⟩, p4, p5⟩ := p
      obtain ⟨ha, rfl⟩ := range_split ea
      rw [List.length_range] at p4
      have test : dNot (fun ρ st => asB ((dBin vIx (dVar 3) (dVar 5)) ρ st)) [some (.d (webN m es)), some (.d (lotD l)), some (.ref m), some (.ref (m + 1)), some (.ref (m + 2)), some (nW a)] t = .ok (!b a) t := dNot_ok (asB_ok (dBin_ok (dVar_ok rfl) (dVar_ok rfl) (bools_get p2 ha)))
      have hd : b a = false ↔ IsHead fe l a := by
        rw [← Bool.not_eq_true, p3 a ha]
        unfold IsHead
        constructor
        · intro h
          refine ⟨fun z => h (.inl z), fun w hw z => h (.inr ⟨w, List.mem_range.mpr hw, fun hwl => ?_, z⟩)⟩
          have := alone z.symm hwl
          omega
        · rintro ⟨h1, h2⟩ (h | ⟨w, h3, _, h5⟩)
          · exact h1 h
          · exact h2 w (List.mem_range.mp h3) h5
      cases hba : b a with
      | true =>
        rw [hba] at test
        have nh : ¬ IsHead fe l a := fun z => by rw [hd.mpr z] at hba; cases hba
        refine ⟨_, t, _, t, rfl, dIfS_f test rfl, ⟨_, rfl⟩, p1, ⟨b, p2, fun v hv => ?_⟩, ?_, p5⟩
        · rw [p3 v hv]
          constructor
          · rintro (h | ⟨w, h1, h2⟩)
            · exact .inl h
            · exact .inr ⟨w, List.mem_append_left _ h1, h2⟩
          · rintro (h | ⟨w, h1, h2, h3⟩)
            · exact .inl h
            · rcases List.mem_append.mp h1 with h1 | h1
              · exact .inr ⟨w, h1, h2, h3⟩
              · have : w = a := List.mem_singleton.mp h1
                subst this
                rcases (p3 w ha).mp hba with q | ⟨u, q1, q2, q3⟩
                · exact absurd q h2
                · exact .inr ⟨u, q1, q2, q3.trans h3⟩
        · rw [List.length_append, List.length_range, List.length_singleton]
          have : heads fe l (a + 1) = heads fe l a := by
            unfold heads
            rw [List.range_succ, List.filter_append]
            simp [nh]
          rw [this]; exact p4
      | false =>
        rw [hba] at test
        have hh := hd.mp hba
        obtain ⟨t2, b2, q1, q2, q3, q4, q5, q6, q7⟩ := part_of_ok (L := 0) (B := m + 1) hfes hfl hm p5 (by omega) (by omega) p2 ha hba
        rw [Nat.zero_add] at q1
        have inpart : ∀ v, v < m → (b2 v = true ∧ b v = false ↔ Rch fe a v) := fun v hv => by
          constructor
          · rintro ⟨h1, h2⟩; exact (q7 v hv h1 h2).1
          · intro h
            have nb : ∀ u, u < m → Rch fe a u → b u = false := fun u hu hr => by
              rw [← Bool.not_eq_true, p3 u hu]
              rintro (z | ⟨w, z1, z2, z3⟩)
              · have := alone hr z; subst this; exact hh.1 z
              · exact hh.2 w (List.mem_range.mp z1) (z3.trans hr.symm)
            refine ⟨?_, nb v hv h⟩
            have : ∀ u, Rch fe a u → u < m → b2 u = true := by
              intro u hr
              induction hr with
              | nil => intro _; exact q6
              | @snoc t' v' hr' e ih =>
                intro hv'
                have ht' : t' < m := e.elim (fun q => by have := hfes _ q; simp only at this; omega) (fun q => (hfes _ q).2)
                exact (q7 t' ht' (ih ht') (nb t' ht' hr')).2 v' e
            exact this v h hv
        have hpart : ((List.range m).filter fun v => b2 v && !b v) = partOf m fe a := by
          refine List.filter_congr fun v hv => ?_
          rw [Bool.eq_iff_iff, Bool.and_eq_true, Bool.not_eq_true', @decide_eq_true_eq _ (Classical.propDecidable _)]
          exact inpart v (List.mem_range.mp hv)
        rw [hpart] at q1
        have p4' : t2[m + 2]? = _ := (q3 (m + 2) (by omega) (by omega)).trans p4
        have hlen : (heads fe l a).length ≤ m := by
          unfold heads
          exact Nat.le_trans (List.length_filter_le _ _) (by rw [List.length_range]; omega)
        have app := append_ok (w := .d (lotD (partOf m fe a))) p4' (by rw [List.length_map, List.length_map]; omega)
        refine ⟨_, t, _, _, rfl, dIfS_t test (dExpr_ok (dMeth_ok (dVar_ok rfl) p4 (dCons1_ok (dCal_ok (dCons_ok (dVar_ok rfl) (dCons_ok (dVar_ok rfl) (dCons1_ok (dVar_ok rfl)))) rfl q1)) app)), ⟨_, rfl⟩, by rw [List.length_set]; omega, ⟨b2, by rw [List.getElem?_set_ne (by omega)]; exact q4, fun v hv => ?_⟩, ?_, ⟨?_, fun i hi => ?_⟩⟩
        · constructor
          · intro h
            cases hbv : b v with
            | true =>
              rcases (p3 v hv).mp hbv with z | ⟨w, z1, z2⟩
              · exact .inl z
              · exact .inr ⟨w, List.mem_append_left _ z1, z2⟩
            | false => exact .inr ⟨a, by simp, hh.1, (inpart v hv).mp ⟨h, hbv⟩⟩
          · rintro (h | ⟨w, h1, h2, h3⟩)
            · exact q5 v hv ((p3 v hv).mpr (.inl h))
            · rcases List.mem_append.mp h1 with h1 | h1
              · exact q5 v hv ((p3 v hv).mpr (.inr ⟨w, h1, h2, h3⟩))
              · rw [List.mem_singleton.mp h1] at h3
                exact ((inpart v hv).mpr h3).1
        · rw [List.getElem?_set_self (by omega), List.length_append, List.length_range, List.length_singleton]
          have : heads fe l (a + 1) = heads fe l a ++ [a] := by
            unfold heads
            rw [List.range_succ, List.filter_append]
            simp [hh]
          rw [this]; simp
        · rw [List.getElem?_set_ne (by omega)]; exact (q3 _ (by omega) (by omega)).trans p5.top
        · rw [List.getElem?_set_ne (by omega)]; exact (q3 _ (by omega) (by omega)).trans (p5.row i hi))
    (ρ := [some (.d (webN m es)), some (.d (lotD l)), some (.ref m), some (.ref (m + 1)), some (.ref (m + 2)), none]) (s := s1 ++ [bools m fun i => decide (i ∈ l)] ++ [.lst []])
    ⟨⟨none, rfl⟩, by simp [a2], ⟨fun i => decide (i ∈ l), by rw [List.append_assoc, List.getElem?_append_right (by omega), a2, Nat.sub_self]; rfl, fun v hv => by simp⟩, by rw [List.getElem?_append_right (by simp [a2])]; simp [a2, heads], a4.keep fun i hi => by rw [List.append_assoc, List.getElem?_append_left (by simp at hi; omega)]⟩
  rw [List.length_range] at f5
  refine ⟨t.set (m + 2) .dead, dDef_rt (ρ' := [some (.d (webN m es)), some (.d (lotD l)), some (.ref m), some (.ref (m + 1)), some (.ref (m + 2)), x]) (to g1 (to g2 (to g3 (to (dFor_ok (dRng1_ok (j := m) (dCons1_ok (dBin_ok (dVar_ok rfl) rfl (vIx_tup (j := 0) rfl))) (by omega)) f1) (dRet_ok (fz_ok (dVar_ok rfl) (f5.trans ?_)))))))⟩
  unfold cano
  simp
noncomputable def B_odd_parts : DS :=
  (dRet (dCall gTupleOf (dCons (dLcF (dLc [2] (dIter (dCalP 2 F_parts_left (dCons (dVar 0) (dCons (dVar 1) dNil)))) (tName 2) (fun ρ st => asB (dBin (vEq false) (dBin vMod (dCall gLen (dCons (dVar 2) dNil)) (dLit (.int 2))) (dLit (.int 1)) ρ st)) (dVar 2))) dNil)))
noncomputable def F_odd_parts : Fn := dDef 3 B_odd_parts

noncomputable def oddPs (m : Nat) (es : List E2) (l : List Nat) : List (List Nat) := (cano m (es.filter (outE l)) l).filter fun c => decide (c.length % 2 = 1)
theorem heads_len (es : List E2) (l : List Nat) (k : Nat) : (heads es l k).length ≤ k := by
  unfold heads
  exact Nat.le_trans (List.length_filter_le _ _) (Nat.le_of_eq List.length_range)
theorem cano_len (m : Nat) (es : List E2) (l : List Nat) : (cano m es l).length ≤ m := by unfold cano; rw [List.length_map]; exact heads_len _ _ _
theorem odd_test {n : Nat} {st : Sto} : vEq false (.d (.int ((n : Int) % 2))) (.d (.int 1)) st = .ok (.d (.bool (decide (n % 2 = 1)))) st := by
  rw [vEq_int]
  congr 3
  rw [Bool.eq_iff_iff, decide_eq_true_eq, decide_eq_true_eq]
  omega
theorem odd_parts_ok {m : Nat} {es : List E2} {l : List Nat} (hes : ∀ e ∈ es, e.1 < e.2 ∧ e.2 < m) (hl : es.length ≤ 1000) (hm : m ≤ 1000) :
    F_odd_parts [.d (webN m es), .d (lotD l)] [] = .ok (.d (.tuple ((oddPs m es l).map lotD))) [] := by
  obtain ⟨s', e⟩ := parts_left_ok (l := l) hes hl hm
  have c := lcL_filter2 (tg := tName 2) (tt := fun ρ st => asB (dBin (vEq false) (dBin vMod (dCall gLen (dCons (dVar 2) dNil)) (dLit (.int 2))) (dLit (.int 1)) ρ st)) (fe := dVar 2) (ρ := [some (.d (webN m es)), some (.d (lotD l)), none]) (s := []) (emb := fun c => W.d (lotD c)) (g := fun c => W.d (lotD c)) (p := fun c => decide (c.length % 2 = 1)) (cano m (es.filter (outE l)) l) (fun c _ =>
    ⟨[some (.d (webN m es)), some (.d (lotD l)), some (.d (lotD c))], rfl, asB_ok (dBin_ok (dBin_ok (dCall_ok (dCons1_ok (dVar_ok rfl)) gLen_tmap) rfl (vModP (by decide))) rfl odd_test), fun _ => dVar_ok rfl⟩)
  rw [← map_d lotD, ← map_d lotD] at c
  have hlen := cano_len m (es.filter (outE l)) l
  exact dDef_rt (ρ' := [some (.d (webN m es)), some (.d (lotD l)), none]) (dRet_ok (dCall_ok (dCons1_ok (dLcF_ok (dLc_ok (vs := [2]) (dIter_ok (dCalP_ok (dCons_ok (dVar_ok rfl) (dCons1_ok (dVar_ok rfl))) rfl rfl e) rfl) c (le_line (by rw [List.length_map, List.length_map]; exact Nat.le_trans (List.length_filter_le _ _) (by omega)))))) tupleOf_list))
noncomputable def B_spare_number : DS :=
  (dRet (dBin vSub (dCall gLen (dCons (dCalP 2 F_odd_parts (dCons (dVar 0) (dCons (dVar 1) dNil))) dNil)) (dCall gLen (dCons (dVar 1) dNil))))
noncomputable def F_spare_number : Fn := dDef 2 B_spare_number

theorem spare_number_ok {m : Nat} {es : List E2} {l : List Nat} (hes : ∀ e ∈ es, e.1 < e.2 ∧ e.2 < m) (hl : es.length ≤ 1000) (hm : m ≤ 1000) :
    F_spare_number [.d (webN m es), .d (lotD l)] [] = .ok (.d (.int (((oddPs m es l).length : Int) - l.length))) [] :=
  dDef_rt (ρ' := [some (.d (webN m es)), some (.d (lotD l))]) (dRet_ok (dBin_ok (dCall_ok (dCons1_ok (dCalP_ok (dCons_ok (dVar_ok rfl) (dCons1_ok (dVar_ok rfl))) rfl rfl (odd_parts_ok hes hl hm))) gLen_tmap) (dCall_ok (dCons1_ok (dVar_ok rfl)) gLen_tmap) rfl))
end BL

namespace BL
open PySem PySem.Spec PyProof.Rows L2 Y
/-! ### how far one comes in so many steps -/
def Lev (es : List E2) (h : Nat) : Nat → Nat → Prop
  | 0, v => h = v
  | r + 1, v => Lev es h r v ∨ ∃ u, Lev es h r u ∧ Adj es u v
theorem lev_rch {es : List E2} {h : Nat} : ∀ {r v : Nat}, Lev es h r v → Rch es h v
  | 0, _, e => by cases e; exact .nil _
  | r + 1, _, .inl e => lev_rch e
  | r + 1, _, .inr ⟨u, e, a⟩ => (lev_rch e).snoc a
open Classical in
theorem lev_all {es : List E2} {m h : Nat} (hes : ∀ e ∈ es, e.1 < e.2 ∧ e.2 < m) (hm : h < m) {v : Nat} (hr : Rch es h v) : Lev es h m v := by
  have adj_lt : ∀ {u w}, Adj es u w → w < m := fun {u w} h => h.elim (fun q => (hes _ q).2) (fun q => by have := hes _ q; simp only at this; omega)
  have key : ∀ r, (∀ v, Rch es h v → Lev es h r v) ∨ r + 1 ≤ (List.range m).countP fun v => decide (Lev es h r v) := by
    intro r
    induction r with
    | zero =>
      refine .inr ?_
      have : (List.range m).countP (fun _ => false) < (List.range m).countP fun v => decide (Lev es h 0 v) := MB.count_lt (List.nodup_range) (List.mem_range.mpr hm) rfl (by simp [Lev]) (fun _ _ z => nomatch z)
      omega
    | succ r ih =>
      by_cases all : ∀ v, Rch es h v → Lev es h (r + 1) v
      · exact .inl all
      · refine .inr ?_
        rcases ih with ih | ih
        · exact absurd (fun v hv => Or.inl (ih v hv)) all
        · have : ∃ v, Lev es h (r + 1) v ∧ ¬ Lev es h r v := by
            refine Classical.byContradiction fun no => all fun v hv => .inl ?_
            induction hv with
            | nil =>
              have : ∀ k, Lev es h k h := fun k => by induction k with
                | zero => rfl
                | succ k ih => exact .inl ih
              exact this r
            | @snoc t v _ a ih2 => exact Classical.byContradiction fun z => no ⟨v, .inr ⟨t, ih2, a⟩, z⟩
          obtain ⟨x, x1, x2⟩ := this
          have xm : x < m := by
            rcases x1 with x1 | ⟨u, _, a⟩
            · exact absurd x1 x2
            · exact adj_lt a
          have := MB.count_lt (V := List.range m) (List.nodup_range) (List.mem_range.mpr xm) (p := fun v => decide (Lev es h r v)) (q := fun v => decide (Lev es h (r + 1) v)) (by simpa using x2) (by simpa using x1) (fun v _ z => by
            have z := of_decide_eq_true z
            exact decide_eq_true (Or.inl z))
          omega
  rcases key m with k | k
  · exact k v hr
  · have := List.countP_le_length (p := fun v => decide (Lev es h m v)) (l := List.range m)
    rw [List.length_range] at this
    omega
theorem mem_heads {es : List E2} {l : List Nat} {k h : Nat} : h ∈ heads es l k ↔ h < k ∧ IsHead es l h := by
  unfold heads
  rw [List.mem_filter, List.mem_range, @decide_eq_true_eq _ (Classical.propDecidable _)]
theorem mem_part {m : Nat} {es : List E2} {h v : Nat} : v ∈ partOf m es h ↔ v < m ∧ Rch es h v := by
  unfold partOf
  rw [List.mem_filter, List.mem_range, @decide_eq_true_eq _ (Classical.propDecidable _)]
/-! ### marks -/
noncomputable def B_l_parts : DS :=
  (dSeq (dSet 2 (dLcN (dLc [4] (dRng1 (dCons (dBin vIx (dVar 0) (dLit (.int 0))) dNil)) (tName 4) (fun _ st => .ok true st) (dIf (fun ρ st => asB (dBin (vIn false) (dVar 4) (dVar 1) ρ st)) (dLit .none) (dVar 4)))))
    (dSeq (dFor (dRng1 (dCons (dBin vIx (dVar 0) (dLit (.int 0))) dNil)) (tName 3)
    (dFor (dIter (dBin vIx (dVar 0) (dLit (.int 1)))) (tTup' 2 (tCons' (tName 4) (tCons' (tName 5) tNil')))
    (dIfS (dAnd (fun ρ st => asB (dBin (vIs true) (dBin vIx (dVar 2) (dVar 4)) (dLit .none) ρ st)) (fun ρ st => asB (dBin (vIs true) (dBin vIx (dVar 2) (dVar 5)) (dLit .none) ρ st)))
    (dSeq (dSetIx (dCall gMin2 (dCons (dBin vIx (dVar 2) (dVar 4)) (dCons (dBin vIx (dVar 2) (dVar 5)) dNil))) (dVar 2) (dVar 4))
    (dSetIx (dBin vIx (dVar 2) (dVar 4)) (dVar 2) (dVar 5)))
    dEnd)))
    (dRet (dLcF (dLc [6] (dIter (dCall gSortedSetI (dCons (dLcF (dLcS [7] (dVar 2) (tName 7) (fun ρ st => asB (dBin (vIs true) (dVar 7) (dLit .none) ρ st)) (dVar 7))) dNil))) (tName 6) (fun _ st => .ok true st) (dCall gTupleOf (dCons (dLcF (dLc [4] (dRng1 (dCons (dBin vIx (dVar 0) (dLit (.int 0))) dNil)) (tName 4) (fun ρ st => asB (dBin (vEq false) (dBin vIx (dVar 2) (dVar 4)) (dVar 6) ρ st)) (dVar 4))) dNil)))))))
noncomputable def F_l_parts : Fn := dDef 8 B_l_parts

def mkW (l : List Nat) (μ : Nat → Nat) (i : Nat) : W := if i ∈ l then .d .none else nW (μ i)
abbrev marks (m : Nat) (l : List Nat) (μ : Nat → Nat) : SO := .lst ((List.range m).map (mkW l μ))
theorem marks_get {m : Nat} {l : List Nat} {μ : Nat → Nat} {s : Sto} {B v : Nat} (h : s[B]? = some (marks m l μ)) (hv : v < m) : vIx (.ref B) (nW v) s = .ok (mkW l μ v) s :=
  vIx_ref h (by rw [List.getElem?_map, List.getElem?_range hv]; rfl)
theorem marks_set {m : Nat} {l : List Nat} {μ : Nat → Nat} {v k : Nat} (hv : v ∉ l) : ((List.range m).map (mkW l μ)).set v (nW k) = (List.range m).map (mkW l fun i => if i = v then k else μ i) := by
  apply List.ext_getElem?
  intro i
  rw [List.getElem?_set]
  by_cases h1 : v = i
  · subst h1
    rw [if_pos rfl]
    by_cases h2 : v < m
    · rw [if_pos (by simpa using h2), List.getElem?_map, List.getElem?_range h2]
      simp [mkW, hv]
    · rw [if_neg (by simpa using h2), List.getElem?_map, List.getElem?_eq_none (by simpa using h2)]
      rfl
  · rw [if_neg h1, List.getElem?_map, List.getElem?_map]
    by_cases h2 : i < m
    · rw [List.getElem?_range h2]
      simp only [Option.map_some, mkW]
      rw [if_neg (show ¬ i = v from fun z => h1 z.symm)]
    · rw [List.getElem?_eq_none (by simpa using h2)]; rfl
theorem isnot_mark {l : List Nat} {μ : Nat → Nat} {v : Nat} {st : Sto} : vIs true (mkW l μ v) (.d .none) st = .ok (.d (.bool (!decide (v ∈ l)))) st := by
  unfold mkW
  by_cases h : v ∈ l
  · rw [if_pos h, decide_eq_true h]; rfl
  · rw [if_neg h, decide_eq_false h]; rfl
theorem min2_nat {i j : Nat} {st : Sto} : gMin2 [nW i, nW j] st = .ok (nW (min i j)) st := by
  simp only [gMin2]
  congr 3
  split <;> omega
/-- what is known behind some rounds -/
structure MkOk (es : List E2) (l : List Nat) (m : Nat) (μ : Nat → Nat) : Prop where
  is : ∀ v, v < m → v ∉ l → μ v ∉ l ∧ μ v < m ∧ Rch es (μ v) v
theorem l_parts_ok {m : Nat} {es : List E2} {l : List Nat} (hes : ∀ e ∈ es, e.1 < e.2 ∧ e.2 < m) (hl : es.length ≤ 1000) (hm : m < 64) :
    ∃ s', F_l_parts [.d (webN m es), .d (lotD l)] [] = .ok (.d (.list ((cano m (es.filter (outE l)) l).map lotD))) s' := by
  generalize hfe : es.filter (outE l) = fe
  have hfes : ∀ e ∈ fe, e.1 < e.2 ∧ e.2 < m := fun e he => by rw [← hfe] at he; exact hes e (List.mem_filter.mp he).1
  have fadj : ∀ {u v : Nat}, Adj fe u v ↔ Adj es u v ∧ u ∉ l ∧ v ∉ l := fun {u v} => by rw [← hfe]; exact out_adj
  have alone : ∀ {u v : Nat}, Rch fe u v → v ∈ l → u = v := fun {u v} h hv => h.alone fun w q => (fadj.mp q).2.2 hv
  have c1 := lcL_map (tg := tName 4) (fe := (dIf (fun ρ st => asB (dBin (vIn false) (dVar 4) (dVar 1) ρ st)) (dLit .none) (dVar 4))) (ρ := [some (.d (webN m es)), some (.d (lotD l)), none, none, none, none, none, none]) (s := []) (emb := fun i : Nat => W.d (.int i)) (g := mkW l id) (List.range m) (fun i hi => ⟨[some (.d (webN m es)), some (.d (lotD l)), none, none, some (nW i), none, none, none], rfl, by
    refine if_ok (asB_ok (dBin_ok (dVar_ok rfl) (dVar_ok rfl) vIn_nat)) (fun h => ?_) (fun h => ?_)
    · unfold mkW; rw [if_pos (of_decide_eq_true h)]; rfl
    · unfold mkW; rw [if_neg (of_decide_eq_false h)]; rfl⟩)
  have g1 : (dSet 2 (dLcN (dLc [4] (dRng1 (dCons (dBin vIx (dVar 0) (dLit (.int 0))) dNil)) (tName 4) (fun _ st => .ok true st) (dIf (fun ρ st => asB (dBin (vIn false) (dVar 4) (dVar 1) ρ st)) (dLit .none) (dVar 4))))) [some (.d (webN m es)), some (.d (lotD l)), none, none, none, none, none, none] [] = .ok (.nx, [some (.d (webN m es)), some (.d (lotD l)), some (.ref 0), none, none, none, none, none]) [marks m l id] := by
    have hml : ((List.range m).map (mkW l id)).length ≤ sizeLine := le_line (by rw [List.length_map, List.length_range]; omega)
    have := dSet_ok (i := 2) (dLcN_ok (dLc_ok (vs := [4]) (dRng1_ok (j := m) (dCons1_ok (dBin_ok (f := dVar 0) (g := dLit (.int 0)) (ρ := [some (.d (webN m es)), some (.d (lotD l)), none, none, none, none, none, none]) (s := []) (dVar_ok rfl) rfl (vIx_tup (j := 0) rfl))) (by omega)) c1 hml))
    exact this
  -- rounds
  obtain ⟨ρ', t, f1, ⟨x, y, z, rfl⟩, μ, rfl, f2, f3⟩ := forL_ok (tg := tName 3) (body := (dFor (dIter (dBin vIx (dVar 0) (dLit (.int 1)))) (tTup' 2 (tCons' (tName 4) (tCons' (tName 5) tNil')))
    (dIfS (dAnd (fun ρ st => asB (dBin (vIs true) (dBin vIx (dVar 2) (dVar 4)) (dLit .none) ρ st)) (fun ρ st => asB (dBin (vIs true) (dBin vIx (dVar 2) (dVar 5)) (dLit .none) ρ st)))
    (dSeq (dSetIx (dCall gMin2 (dCons (dBin vIx (dVar 2) (dVar 4)) (dCons (dBin vIx (dVar 2) (dVar 5)) dNil))) (dVar 2) (dVar 4))
    (dSetIx (dBin vIx (dVar 2) (dVar 4)) (dVar 2) (dVar 5)))
    dEnd))) (emb := fun i : Nat => W.d (.int i))
    (P := fun pre ρ t => (∃ x y z, ρ = [some (.d (webN m es)), some (.d (lotD l)), some (.ref 0), x, y, z, none, none]) ∧ ∃ μ, t = [marks m l μ] ∧ MkOk fe l m μ ∧ ∀ h v, h ∉ l → v < m → Lev fe h pre.length v → μ v ≤ h) (List.range m)
    (fun pre a post ρ t ea p => by
      obtain ⟨⟨x, y, z, rfl⟩, μ0, rfl, p1, p2⟩ := p
      obtain ⟨ρ2, t2, q1, ⟨y2, z2, rfl⟩, μ, rfl, q2, q3, q4⟩ := forL_ok (tg := tTup' 2 (tCons' (tName 4) (tCons' (tName 5) tNil'))) (body := (dIfS (dAnd (fun ρ st => asB (dBin (vIs true) (dBin vIx (dVar 2) (dVar 4)) (dLit .none) ρ st)) (fun ρ st => asB (dBin (vIs true) (dBin vIx (dVar 2) (dVar 5)) (dLit .none) ρ st)))
    (dSeq (dSetIx (dCall gMin2 (dCons (dBin vIx (dVar 2) (dVar 4)) (dCons (dBin vIx (dVar 2) (dVar 5)) dNil))) (dVar 2) (dVar 4))
    (dSetIx (dBin vIx (dVar 2) (dVar 4)) (dVar 2) (dVar 5)))
    dEnd)) (emb := fun e => W.d (eD e))
        (P := fun pr ρ t => (∃ y z, ρ = [some (.d (webN m es)), some (.d (lotD l)), some (.ref 0), some (nW a), y, z, none, none]) ∧ ∃ μ, t = [marks m l μ] ∧ MkOk fe l m μ ∧ (∀ v, μ v ≤ μ0 v) ∧ ∀ u v, Adj pr u v → u ∉ l → v ∉ l → μ v ≤ μ0 u) es
        (fun pr e po ρ t ee q => by
          obtain ⟨⟨y, z, rfl⟩, μ, rfl, r1, r2, r3⟩ := q
          obtain ⟨u, v⟩ := e
          have hmem : (u, v) ∈ es := by rw [ee]; simp
          obtain ⟨h1, h2⟩ := hes _ hmem
          simp only at h1 h2
          have test : dAnd (fun ρ st => asB (dBin (vIs true) (dBin vIx (dVar 2) (dVar 4)) (dLit .none) ρ st)) (fun ρ st => asB (dBin (vIs true) (dBin vIx (dVar 2) (dVar 5)) (dLit .none) ρ st)) [some (.d (webN m es)), some (.d (lotD l)), some (.ref 0), some (nW a), some (nW u), some (nW v), none, none] [marks m l μ] = .ok (!decide (u ∈ l) && !decide (v ∈ l)) [marks m l μ] :=
            and_ok (asB_ok (dBin_ok (dBin_ok (dVar_ok rfl) (dVar_ok rfl) (marks_get rfl (by omega))) rfl isnot_mark)) (asB_ok (dBin_ok (dBin_ok (dVar_ok rfl) (dVar_ok rfl) (marks_get rfl h2)) rfl isnot_mark))
          by_cases hc : u ∉ l ∧ v ∉ l
          · obtain ⟨c1, c2⟩ := hc
            have huv : Adj fe u v := fadj.mpr ⟨.inl hmem, c1, c2⟩
            rw [decide_eq_false c1, decide_eq_false c2] at test
            have a1 : mkW l μ u = nW (μ u) := by unfold mkW; rw [if_neg c1]
            have a2 : mkW l μ v = nW (μ v) := by unfold mkW; rw [if_neg c2]
            have s1 := setIx_ok (fe := dCall gMin2 (dCons (dBin vIx (dVar 2) (dVar 4)) (dCons (dBin vIx (dVar 2) (dVar 5)) dNil))) (fo := dVar 2) (fi := dVar 4) (ρ := [some (.d (webN m es)), some (.d (lotD l)), some (.ref 0), some (nW a), some (nW u), some (nW v), none, none]) (s := [marks m l μ]) (s1 := [marks m l μ]) (s2 := [marks m l μ]) (s3 := [marks m l μ]) (w := nW (min (μ u) (μ v))) (n := 0) (i := u) (xs := (List.range m).map (mkW l μ))
              (dCall_ok (dCons_ok (dBin_ok (dVar_ok rfl) (dVar_ok rfl) ((marks_get rfl (by omega)).trans (by rw [a1]))) (dCons1_ok (dBin_ok (dVar_ok rfl) (dVar_ok rfl) ((marks_get rfl h2).trans (by rw [a2]))))) min2_nat) (dVar_ok rfl) (dVar_ok rfl) rfl (by simp; omega)
            rw [marks_set c1] at s1
            have a3 : mkW l (fun i => if i = u then min (μ u) (μ v) else μ i) u = nW (min (μ u) (μ v)) := by unfold mkW; rw [if_neg c1]; show nW (if u = u then _ else _) = _; rw [if_pos rfl]
            have s2 := setIx_ok (fe := dBin vIx (dVar 2) (dVar 4)) (fo := dVar 2) (fi := dVar 5) (ρ := [some (.d (webN m es)), some (.d (lotD l)), some (.ref 0), some (nW a), some (nW u), some (nW v), none, none]) (s := [marks m l (fun i => if i = u then min (μ u) (μ v) else μ i)]) (s1 := [marks m l (fun i => if i = u then min (μ u) (μ v) else μ i)]) (s2 := [marks m l (fun i => if i = u then min (μ u) (μ v) else μ i)]) (s3 := [marks m l (fun i => if i = u then min (μ u) (μ v) else μ i)]) (w := nW (min (μ u) (μ v))) (n := 0) (i := v) (xs := (List.range m).map (mkW l (fun i => if i = u then min (μ u) (μ v) else μ i)))
              (dBin_ok (dVar_ok rfl) (dVar_ok rfl) ((marks_get rfl (by omega)).trans (by rw [a3]))) (dVar_ok rfl) (dVar_ok rfl) rfl (by simp; omega)
            rw [marks_set c2] at s2
            refine ⟨_, [marks m l μ], _, _, rfl, dIfS_t test (to s1 s2), ⟨_, _, rfl⟩, _, rfl, ⟨fun w hw hwl => ?_⟩, fun w => ?_, fun p q hpq c3 c4 => ?_⟩
            · have ru := r1.is u (by omega) c1
              have rv := r1.is v h2 c2
              have rw' := r1.is w hw hwl
              have uv : Rch fe u v := (Rch.nil u).snoc huv
              try simp only
              by_cases e1 : w = v
              · subst e1; rw [if_pos rfl]
                rcases Nat.le_total (μ u) (μ w) with q | q
                · rw [Nat.min_eq_left q]; exact ⟨ru.1, ru.2.1, ru.2.2.trans uv⟩
                · rw [Nat.min_eq_right q]; exact rv
              · rw [if_neg e1]
                by_cases e2 : w = u
                · subst e2; rw [if_pos rfl]
                  rcases Nat.le_total (μ w) (μ v) with q | q
                  · rw [Nat.min_eq_left q]; exact ru
                  · rw [Nat.min_eq_right q]; exact ⟨rv.1, rv.2.1, rv.2.2.trans uv.symm⟩
                · rw [if_neg e2]; exact rw'
            · have := r2 w; have hu := r2 u; have hv := r2 v
              try simp only
              split
              · rename_i e; subst e; omega
              · split
                · rename_i e; subst e; omega
                · exact this
            · have ru := r2 u; have rv := r2 v
              have old : Adj pr p q → (if q = v then min (μ u) (μ v) else if q = u then min (μ u) (μ v) else μ q) ≤ μ0 p := fun h => by
                have := r3 p q h c3 c4
                split
                · rename_i e; subst e; omega
                · split
                  · rename_i e; subst e; omega
                  · exact this
              try simp only
              rcases hpq with h | h
              · rcases List.mem_append.mp h with h | h
                · exact old (.inl h)
                · have := List.mem_singleton.mp h
                  simp only [Prod.mk.injEq] at this
                  obtain ⟨rfl, rfl⟩ := this
                  rw [if_pos rfl]; omega
              · rcases List.mem_append.mp h with h | h
                · exact old (.inr h)
                · have := List.mem_singleton.mp h
                  simp only [Prod.mk.injEq] at this
                  obtain ⟨rfl, rfl⟩ := this
                  rw [if_neg (by omega), if_pos rfl]; omega
          · have hf : (!decide (u ∈ l) && !decide (v ∈ l)) = false := by
              rw [Bool.and_eq_false_iff, Bool.not_eq_false', Bool.not_eq_false', decide_eq_true_eq, decide_eq_true_eq]
              rcases Classical.em (u ∈ l) with h | h
              · exact .inl h
              · exact .inr (Classical.byContradiction fun z => hc ⟨h, z⟩)
            rw [hf] at test
            refine ⟨_, [marks m l μ], _, _, rfl, dIfS_f test rfl, ⟨_, _, rfl⟩, μ, rfl, r1, r2, fun p q hpq c3 c4 => ?_⟩
            rcases hpq with h | h
            · rcases List.mem_append.mp h with h | h
              · exact r3 p q (.inl h) c3 c4
              · have := List.mem_singleton.mp h
                simp only [Prod.mk.injEq] at this
                obtain ⟨rfl, rfl⟩ := this
                exact absurd ⟨c3, c4⟩ hc
            · rcases List.mem_append.mp h with h | h
              · exact r3 p q (.inr h) c3 c4
              · have := List.mem_singleton.mp h
                simp only [Prod.mk.injEq] at this
                obtain ⟨rfl, rfl⟩ := this
                exact absurd ⟨c4, c3⟩ hc)
        (ρ := [some (.d (webN m es)), some (.d (lotD l)), some (.ref 0), some (nW a), y, z, none, none]) (s := [marks m l μ0]) ⟨⟨y, z, rfl⟩, μ0, rfl, p1, fun _ => Nat.le_refl _, fun u v h => h.elim (fun z => nomatch z) (fun z => nomatch z)⟩
      refine ⟨[some (.d (webN m es)), some (.d (lotD l)), some (.ref 0), some (nW a), y, z, none, none], [marks m l μ0], _, _, rfl, dFor_ok (dIter_ok (x := .tuple (es.map eD)) (dBin_ok (dVar_ok rfl) rfl (vIx_tup (j := 1) rfl)) rfl) (by rw [map_d]; exact q1), ⟨_, _, _, rfl⟩, μ, rfl, q2, fun h v hh hv lev => ?_⟩
      rw [List.length_append, List.length_singleton] at lev
      rcases lev with lev | ⟨u, lev, ad⟩
      · exact Nat.le_trans (q3 v) (p2 h v hh hv lev)
      · obtain ⟨b1, b2, b3⟩ := fadj.mp ad
        have hu : u < m := b1.elim (fun q => by have := hes _ q; simp only at this; omega) (fun q => (hes _ q).2)
        exact Nat.le_trans (q4 u v b1 b2 b3) (p2 h u hh hu lev))
    (ρ := [some (.d (webN m es)), some (.d (lotD l)), some (.ref 0), none, none, none, none, none]) (s := [marks m l id])
    ⟨⟨none, none, none, rfl⟩, id, rfl, ⟨fun v hv hvl => ⟨hvl, hv, .nil _⟩⟩, fun h v hh hv lev => by
      have : h = v := lev
      subst this; exact Nat.le_refl _⟩
  rw [List.length_range] at f3
  have least : ∀ h v, h ∉ l → h < m → v < m → Rch fe h v → μ v ≤ h := fun h v hh hhm hv hr => f3 h v hh hv (lev_all hfes hhm hr)
  -- what the marks are
  have cM : lcS 0 ((List.range m).map (mkW l μ)) (tName 7) (fun ρ st => asB (dBin (vIs true) (dVar 7) (dLit .none) ρ st)) (dVar 7) [some (.d (webN m es)), some (.d (lotD l)), some (.ref 0), x, y, z, none, none] ((List.range m).map (mkW l μ)) [marks m l μ] = .ok (((List.range m).filter fun v => !decide (v ∈ l)).map fun v => nW (μ v)) [marks m l μ] :=
    lcS_filter (emb := mkW l μ) (g := fun v => nW (μ v)) rfl (List.range m) (fun v hv => ⟨[some (.d (webN m es)), some (.d (lotD l)), some (.ref 0), x, y, z, none, some (mkW l μ v)], rfl, asB_ok (dBin_ok (dVar_ok rfl) rfl isnot_mark), fun h => by
      have : v ∉ l := by simpa using h
      exact (dVar_ok rfl).trans (by unfold mkW; rw [if_neg this])⟩)
  generalize hns : (((List.range m).filter fun v => !decide (v ∈ l)).map fun v => ((μ v : Nat) : Int)) = ns
  have cM2 : (((List.range m).filter fun v => !decide (v ∈ l)).map fun v => nW (μ v)) = (ns.map PyData.int).map W.d := by
    rw [← hns, List.map_map, List.map_map]; rfl
  rw [cM2] at cM
  have hlen : ns.length < 64 := by
    rw [← hns, List.length_map]
    exact Nat.lt_of_le_of_lt (List.length_filter_le _ _) (by rw [List.length_range]; exact hm)
  have hh : srtU ns = (heads fe l m).map fun h : Nat => (h : Int) := by
    refine (srtU_uniq ?_ fun k => ?_).symm
    · rw [List.pairwise_map]
      exact (List.pairwise_lt_range.filter _).imp fun {a b} q => by omega
    · rw [← hns]
      simp only [List.mem_map, mem_heads, List.mem_filter, List.mem_range, Bool.not_eq_true', decide_eq_false_iff_not]
      constructor
      · rintro ⟨h, ⟨h1, h2⟩, rfl⟩
        refine ⟨h, ⟨h1, h2.1⟩, ?_⟩
        have e1 := least h h h2.1 h1 h1 (.nil _)
        have e2 := f2.is h h1 h2.1
        have e3 : ¬ μ h < h := fun q => h2.2 _ q e2.2.2
        omega
      · rintro ⟨v, ⟨h1, h2⟩, rfl⟩
        have e2 := f2.is v h1 h2
        refine ⟨μ v, ⟨e2.2.1, e2.1, fun w hw hr => ?_⟩, rfl⟩
        have hr2 := hr.trans e2.2.2
        have hwl : w ∉ l := fun q => h2 (alone hr2.symm q ▸ q)
        have := least w v hwl (by omega) h1 hr2
        omega
  have cS : dCall gSortedSetI (dCons (dLcF (dLcS [7] (dVar 2) (tName 7) (fun ρ st => asB (dBin (vIs true) (dVar 7) (dLit .none) ρ st)) (dVar 7))) dNil) [some (.d (webN m es)), some (.d (lotD l)), some (.ref 0), x, y, z, none, none] [marks m l μ] = .ok (.d (.list ((heads fe l m).map nI))) [marks m l μ] := by
    refine dCall_ok (dCons1_ok (dLcF_ok (dLcS_ok (vs := [7]) (dVar_ok rfl) rfl cM (le_line (by rw [List.length_map, List.length_map]; omega))))) ?_
    unfold gSortedSetI
    simp only [asD]
    rw [asInts_map]
    try simp only
    rw [chk_ok hlen, hh, List.map_map]
    rfl
  have hhl := heads_len fe l m
  have cP := lcL_map (tg := tName 6) (fe := (dCall gTupleOf (dCons (dLcF (dLc [4] (dRng1 (dCons (dBin vIx (dVar 0) (dLit (.int 0))) dNil)) (tName 4) (fun ρ st => asB (dBin (vEq false) (dBin vIx (dVar 2) (dVar 4)) (dVar 6) ρ st)) (dVar 4))) dNil))) (ρ := [some (.d (webN m es)), some (.d (lotD l)), some (.ref 0), x, y, z, none, none]) (s := [marks m l μ]) (emb := fun h : Nat => W.d (.int h)) (g := fun h => W.d (lotD (partOf m fe h))) (heads fe l m) (fun h hh' => by
    obtain ⟨h1, h2⟩ := mem_heads.mp hh'
    refine ⟨[some (.d (webN m es)), some (.d (lotD l)), some (.ref 0), x, y, z, some (nW h), none], rfl, ?_⟩
    have c := lcL_filter2 (tg := tName 4) (tt := fun ρ st => asB (dBin (vEq false) (dBin vIx (dVar 2) (dVar 4)) (dVar 6) ρ st)) (fe := dVar 4) (ρ := [some (.d (webN m es)), some (.d (lotD l)), some (.ref 0), x, none, z, some (nW h), none]) (s := [marks m l μ]) (emb := fun i : Nat => W.d (.int i)) (g := fun i => nW i) (p := fun v => !decide (v ∈ l) && decide (μ v = h)) (List.range m) (fun v hv => by
      have hv := List.mem_range.mp hv
      refine ⟨[some (.d (webN m es)), some (.d (lotD l)), some (.ref 0), x, some (nW v), z, some (nW h), none], rfl, asB_ok (dBin_ok (dBin_ok (dVar_ok rfl) (dVar_ok rfl) (marks_get rfl hv)) (dVar_ok rfl) ?_), fun _ => dVar_ok rfl⟩
      unfold mkW
      by_cases hvl : v ∈ l
      · rw [if_pos hvl, decide_eq_true hvl]
        show chk _ _ = _
        rw [chk_ok ⟨by decide, shaped_int _⟩]; rfl
      · rw [if_neg hvl, decide_eq_false hvl, vEq_nat]; rfl)
    have : ((List.range m).filter fun v => !decide (v ∈ l) && decide (μ v = h)) = partOf m fe h := by
      refine List.filter_congr fun v hv => ?_
      have hv := List.mem_range.mp hv
      rw [Bool.eq_iff_iff, Bool.and_eq_true, Bool.not_eq_true', decide_eq_false_iff_not, decide_eq_true_eq, @decide_eq_true_eq _ (Classical.propDecidable _)]
      constructor
      · rintro ⟨a, rfl⟩; exact (f2.is v hv a).2.2
      · intro hr
        have hvl : v ∉ l := fun q => by have := alone hr q; subst this; exact h2.1 q
        refine ⟨hvl, ?_⟩
        have e1 := least h v h2.1 h1 hv hr
        have e2 := f2.is v hv hvl
        have e3 : ¬ μ v < h := fun q => h2.2 _ q (e2.2.2.trans hr.symm)
        omega
    rw [this] at c
    rw [show (partOf m fe h).map (fun i => nW i) = ((partOf m fe h).map nI).map W.d by rw [map_d]] at c
    have hpl : (partOf m fe h).length ≤ m := by
      unfold partOf
      exact Nat.le_trans (List.length_filter_le _ _) (Nat.le_of_eq List.length_range)
    exact dCall_ok (dCons1_ok (dLcF_ok (dLc_ok (vs := [4]) (dRng1_ok (j := m) (dCons1_ok (dBin_ok (dVar_ok rfl) rfl (vIx_tup (j := 0) rfl))) (by omega)) c (le_line (by rw [List.length_map, List.length_map]; omega))))) tupleOf_list)
  refine ⟨[marks m l μ], dDef_rt (ρ' := [some (.d (webN m es)), some (.d (lotD l)), some (.ref 0), x, y, z, none, none]) (to g1 (to (dFor_ok (dRng1_ok (j := m) (dCons1_ok (dBin_ok (dVar_ok rfl) rfl (vIx_tup (j := 0) rfl))) (by omega)) f1) (dRet_ok (dLcF_ok (ds := (cano m fe l).map lotD) (dLc_ok (vs := [6]) (dIter_ok cS rfl) ?_ (le_line ?_))))))⟩
  · unfold cano
    rw [map_d, List.map_map, List.map_map]
    exact cP
  · rw [List.length_map, List.length_map]
    have := cano_len m fe l
    omega
noncomputable def B_l_odd : DS :=
  (dRet (dLcF (dLc [2] (dIter (dCalP 2 F_l_parts (dCons (dVar 0) (dCons (dVar 1) dNil)))) (tName 2) (fun ρ st => asB (dBin (vEq false) (dBin vMod (dCall gInt (dCons (dCall gLen (dCons (dVar 2) dNil)) dNil)) (dLit (.int 2))) (dLit (.int 1)) ρ st)) (dVar 2))))
noncomputable def F_l_odd : Fn := dDef 3 B_l_odd

theorem l_odd_ok {m : Nat} {es : List E2} {l : List Nat} (hes : ∀ e ∈ es, e.1 < e.2 ∧ e.2 < m) (hl : es.length ≤ 1000) (hm : m < 64) :
    F_l_odd [.d (webN m es), .d (lotD l)] [] = .ok (.d (.list ((oddPs m es l).map lotD))) [] := by
  obtain ⟨s', e⟩ := l_parts_ok (l := l) hes hl hm
  have c := lcL_filter2 (tg := tName 2) (tt := fun ρ st => asB (dBin (vEq false) (dBin vMod (dCall gInt (dCons (dCall gLen (dCons (dVar 2) dNil)) dNil)) (dLit (.int 2))) (dLit (.int 1)) ρ st)) (fe := dVar 2) (ρ := [some (.d (webN m es)), some (.d (lotD l)), none]) (s := []) (emb := fun c => W.d (lotD c)) (g := fun c => W.d (lotD c)) (p := fun c => decide (c.length % 2 = 1)) (cano m (es.filter (outE l)) l) (fun c _ =>
    ⟨[some (.d (webN m es)), some (.d (lotD l)), some (.d (lotD c))], rfl, asB_ok (dBin_ok (dBin_ok (dCall_ok (dCons1_ok (dCall_ok (dCons1_ok (dVar_ok rfl)) gLen_tmap)) rfl) rfl (vModP (by decide))) rfl odd_test), fun _ => dVar_ok rfl⟩)
  rw [← map_d lotD, ← map_d lotD] at c
  have hlen := cano_len m (es.filter (outE l)) l
  exact dDef_rt (ρ' := [some (.d (webN m es)), some (.d (lotD l)), none]) (dRet_ok (dLcF_ok (dLc_ok (vs := [2]) (dIter_ok (dCalP_ok (dCons_ok (dVar_ok rfl) (dCons1_ok (dVar_ok rfl))) rfl rfl e) rfl) c (le_line (by rw [List.length_map, List.length_map]; exact Nat.le_trans (List.length_filter_le _ _) (by omega))))))
end BL

namespace BL
open PySem PySem.Spec PyProof.Rows L2 Y
/-! ### all lots -/
def allL : Nat → List (List Nat)
  | 0 => [[]]
  | k + 1 => allL k ++ (allL k).map (· ++ [k])
theorem allL_len : ∀ k, (allL k).length = 2 ^ k
  | 0 => rfl
  | k + 1 => by rw [allL, List.length_append, List.length_map, allL_len k, Nat.pow_succ]; omega
theorem allL_mem {l : List Nat} : ∀ {k : Nat}, l ∈ allL k → l.Pairwise (· < ·) ∧ ∀ x ∈ l, x < k
  | 0, h => by
    have : l = [] := List.mem_singleton.mp h
    subst this
    exact ⟨.nil, fun _ z => nomatch z⟩
  | k + 1, h => by
    rcases List.mem_append.mp h with h | h
    · obtain ⟨a, b⟩ := allL_mem h
      exact ⟨a, fun x hx => Nat.lt_succ_of_lt (b x hx)⟩
    · obtain ⟨q, hq, rfl⟩ := List.mem_map.mp h
      obtain ⟨a, b⟩ := allL_mem hq
      refine ⟨List.pairwise_append.mpr ⟨a, by simp, fun x hx y hy => by rw [List.mem_singleton.mp hy]; exact b x hx⟩, fun x hx => ?_⟩
      rcases List.mem_append.mp hx with hx | hx
      · exact Nat.lt_succ_of_lt (b x hx)
      · rw [List.mem_singleton.mp hx]; omega
theorem allL_filter (p : Nat → Bool) : ∀ k, (List.range k).filter p ∈ allL k
  | 0 => by simp [allL]
  | k + 1 => by
    rw [List.range_succ, List.filter_append, allL]
    cases h : p k with
    | true =>
      rw [List.filter_cons_of_pos h, List.filter_nil]
      exact List.mem_append_right _ (List.mem_map.mpr ⟨_, allL_filter p k, rfl⟩)
    | false =>
      rw [List.filter_cons_of_neg (by simp [h]), List.filter_nil, List.append_nil]
      exact List.mem_append_left _ (allL_filter p k)
theorem allL_short {l : List Nat} {k : Nat} (h : l ∈ allL k) : l.length ≤ k := nodup_lt ((allL_mem h).1.imp fun {a b} q => by omega) (allL_mem h).2
noncomputable def B_l_all_lots : DS :=
  (dSeq (dSet 1 (dLst (dCons (dTup dNil) dNil)))
    (dSeq (dFor (dRng1 (dCons (dVar 0) dNil)) (tName 2)
    (dSet 1 (dBin vAdd (dVar 1) (dLcF (dLc [3] (dIter (dVar 1)) (tName 3) (fun _ st => .ok true st) (dBin vAdd (dVar 3) (dTup (dCons (dVar 2) dNil))))))))
    (dRet (dVar 1))))
noncomputable def F_l_all_lots : Fn := dDef 4 B_l_all_lots

theorem all_lots_ok {m : Nat} (hm : m ≤ 19) : F_l_all_lots [.d (nI m)] [] = .ok (.d (.list ((allL m).map lotD))) [] := by
  have pw : ∀ k, k ≤ 19 → 2 ^ k ≤ 524288 := fun k hk => Nat.le_trans (Nat.pow_le_pow_right (by decide) hk) (by decide)
  obtain ⟨ρ', t, f1, ⟨x, rfl⟩, rfl⟩ := forL_ok (tg := tName 2) (body := (dSet 1 (dBin vAdd (dVar 1) (dLcF (dLc [3] (dIter (dVar 1)) (tName 3) (fun _ st => .ok true st) (dBin vAdd (dVar 3) (dTup (dCons (dVar 2) dNil)))))))) (emb := fun i : Nat => W.d (.int i))
    (P := fun pre ρ t => (∃ x, ρ = [some (.d (nI m)), some (.d (.list ((allL pre.length).map lotD))), x, none]) ∧ t = []) (List.range m)
    (fun pre a post ρ t ea p => by
      obtain ⟨⟨x, rfl⟩, rfl⟩ := p
      obtain ⟨ha, rfl⟩ := range_split ea
      simp only [List.length_range, List.length_append, List.length_singleton]
      have c := lcL_map (tg := tName 3) (fe := dBin vAdd (dVar 3) (dTup (dCons (dVar 2) dNil))) (ρ := [some (.d (nI m)), some (.d (.list ((allL a).map lotD))), some (nW a), none]) (s := []) (emb := fun l => W.d (lotD l)) (g := fun l => W.d (lotD (l ++ [a]))) (allL a) (fun l hl =>
        ⟨[some (.d (nI m)), some (.d (.list ((allL a).map lotD))), some (nW a), some (.d (lotD l))], rfl, dBin_ok (dVar_ok rfl) (tup_ok (dCons1_ok (dVar_ok rfl)) rfl (Nat.le_of_ble_eq_true rfl)) (by
          have := allL_short hl
          simp only [vAdd]
          rw [chk_ok (le_line (by rw [List.length_map, List.length_singleton]; omega))]
          simp)⟩)
      have e2 : (allL a).map (fun l => W.d (lotD (l ++ [a]))) = (((allL a).map (· ++ [a])).map lotD).map W.d := by rw [List.map_map, List.map_map]; rfl
      rw [e2, ← map_d lotD] at c
      have hl := allL_len a
      have hp := pw (a + 1) (by omega)
      rw [Nat.pow_succ] at hp
      refine ⟨_, [], _, [], rfl, dSet_ok (dBin_ok (dVar_ok rfl) (dLcF_ok (dLc_ok (vs := [3]) (dIter_ok (dVar_ok rfl) rfl) c (le_line (by simp only [List.length_map]; omega)))) ?_), ⟨_, rfl⟩, rfl⟩
      simp only [vAdd]
      rw [chk_ok (le_line (by simp only [List.length_map]; omega))]
      rw [allL, List.map_append])
    (ρ := [some (.d (nI m)), some (.d (.list ((allL 0).map lotD))), none, none]) (s := []) ⟨⟨none, rfl⟩, rfl⟩
  rw [List.length_range] at f1
  exact dDef_rt (ρ' := [some (.d (nI m)), some (.d (.list ((allL m).map lotD))), x, none]) (to (dSet_ok (lst_ok (ds := [.tuple []]) (dCons1_ok (tup_ok (ds := []) rfl rfl (Nat.le_of_ble_eq_true rfl))) rfl (Nat.le_of_ble_eq_true rfl))) (to (dFor_ok (dRng1_ok (j := m) (dCons1_ok (dVar_ok rfl)) (by omega)) f1) (dRet_ok (dVar_ok rfl))))
/-! ### all plans -/
def hit (e o : E2) : Bool := decide (o.1 ∈ [e.1, e.2]) || decide (o.2 ∈ [e.1, e.2])
def stepP (found : List (List E2)) (e : E2) : List (List E2) := found ++ (found.filter fun p => (p.filter (hit e)).isEmpty).map (· ++ [e])
def allP (es : List E2) : List (List E2) := es.foldl stepP [[]]
theorem allP_snoc (es : List E2) (e : E2) : allP (es ++ [e]) = stepP (allP es) e := by unfold allP; rw [List.foldl_append]; rfl
def Dis (a b : E2) : Prop := (a.1 ≠ b.1 ∧ a.1 ≠ b.2) ∧ a.2 ≠ b.1 ∧ a.2 ≠ b.2
theorem hit_dis {e o : E2} : hit e o = false ↔ Dis o e := by
  unfold hit Dis
  simp [not_or]
theorem free_iff {p : List E2} {e : E2} : (p.filter (hit e)).isEmpty = true ↔ ∀ o ∈ p, Dis o e := by
  rw [List.isEmpty_iff, List.filter_eq_nil_iff]
  exact ⟨fun h o ho => hit_dis.mp (by simpa using h o ho), fun h o ho => by simpa using hit_dis.mpr (h o ho)⟩
theorem allP_mem {p : List E2} : ∀ (n : Nat) (es : List E2), es.length = n → (p ∈ allP es ↔ p.Sublist es ∧ p.Pairwise Dis)
  | 0, es, h => by
    have := List.length_eq_zero_iff.mp h
    subst this
    show p ∈ [[]] ↔ _
    rw [List.mem_singleton, List.sublist_nil]
    exact ⟨fun h => ⟨h, by subst h; exact .nil⟩, fun h => h.1⟩
  | n + 1, es, h => by
    rcases List.eq_nil_or_concat es with rfl | ⟨pre, e, rfl⟩
    · cases h
    · rw [List.concat_eq_append] at h ⊢
      have ih := fun q : List E2 => allP_mem (p := q) n pre (by simpa using h)
      rw [allP_snoc, stepP, List.mem_append, ih p, List.sublist_append_iff]
      constructor
      · rintro (⟨a, b⟩ | h)
        · exact ⟨⟨p, [], by simp, a, List.nil_sublist _⟩, b⟩
        · obtain ⟨q, hq, rfl⟩ := List.mem_map.mp h
          obtain ⟨h1, h2⟩ := List.mem_filter.mp hq
          obtain ⟨a, b⟩ := (ih q).mp h1
          refine ⟨⟨q, [e], rfl, a, List.Sublist.refl _⟩, List.pairwise_append.mpr ⟨b, by simp, fun x hx y hy => ?_⟩⟩
          rw [List.mem_singleton.mp hy]
          exact free_iff.mp h2 x hx
      · rintro ⟨⟨l1, l2, rfl, a, b⟩, c⟩
        obtain ⟨c1, c2, c3⟩ := List.pairwise_append.mp c
        cases b with
        | cons _ b =>
          have := List.sublist_nil.mp b
          subst this
          rw [List.append_nil] at c ⊢
          exact .inl ⟨a, c1⟩
        | cons_cons _ b =>
          have := List.sublist_nil.mp b
          subst this
          exact .inr (List.mem_map.mpr ⟨l1, List.mem_filter.mpr ⟨(ih l1).mpr ⟨a, c1⟩, free_iff.mpr fun o ho => c3 o ho e (by simp)⟩, rfl⟩)
theorem allP_mono (pre : List E2) (e : E2) : (allP pre).length ≤ (allP (pre ++ [e])).length := by rw [allP_snoc, stepP, List.length_append]; omega
theorem allP_pow : ∀ (n : Nat) (es : List E2), es.length = n → (allP es).length ≤ 2 ^ n
  | 0, es, h => by
    have := List.length_eq_zero_iff.mp h
    subst this
    exact Nat.le_refl _
  | n + 1, es, h => by
    rcases List.eq_nil_or_concat es with rfl | ⟨pre, e, rfl⟩
    · cases h
    · rw [List.concat_eq_append] at h ⊢
      have ih := allP_pow n pre (by simpa using h)
      rw [allP_snoc, stepP, List.length_append, List.length_map, Nat.pow_succ]
      have := List.length_filter_le (fun p => (p.filter (hit e)).isEmpty) (allP pre)
      omega
theorem allP_pre : ∀ (post pre : List E2), (allP pre).length ≤ (allP (pre ++ post)).length
  | [], pre => by rw [List.append_nil]; exact Nat.le_refl _
  | e :: post, pre => by
    have := allP_pre post (pre ++ [e])
    rw [List.append_assoc] at this
    exact Nat.le_trans (allP_mono pre e) this
abbrev planD (p : List E2) : PyData := .tuple (p.map eD)
theorem shaped_edges (l : List E2) : SeqAt.shaped (.list (l.map eD)) = true := (Dk.lst (k := 1) fun x hx => by
    obtain ⟨u, _, rfl⟩ := List.mem_map.mp hx
    exact Dk.tup (k := 0) fun y hy => by
      rcases List.mem_cons.mp hy with rfl | hy
      · exact Dk.int _
      · rw [List.mem_singleton.mp hy]; exact Dk.int _).shaped (by decide)
theorem eq_nil {l : List E2} {st : Sto} : vEq false (.d (.list (l.map eD))) (.d (.list [])) st = .ok (.d (.bool l.isEmpty)) st := by
  show chk _ _ = _
  rw [chk_ok ⟨shaped_edges l, shaped_nil⟩]
  cases l <;> rfl
noncomputable def B_l_all_plans : DS :=
  (dSeq (dSet 1 (dLst (dCons (dTup dNil) dNil)))
    (dSeq (dFor (dIter (dBin vIx (dVar 0) (dLit (.int 1)))) (tName 2)
    (dSet 1 (dBin vAdd (dVar 1) (dLcF (dLc [3] (dIter (dVar 1)) (tName 3) (fun ρ st => asB (dBin (vEq false) (dLcF (dLc [4] (dIter (dVar 3)) (tName 4) (dOr (fun ρ st => asB (dBin (vIn false) (dBin vIx (dVar 4) (dLit (.int 0))) (dVar 2) ρ st)) (fun ρ st => asB (dBin (vIn false) (dBin vIx (dVar 4) (dLit (.int 1))) (dVar 2) ρ st))) (dVar 4))) (dLst dNil) ρ st)) (dBin vAdd (dVar 3) (dTup (dCons (dVar 2) dNil))))))))
    (dRet (dVar 1))))
noncomputable def F_l_all_plans : Fn := dDef 5 B_l_all_plans

theorem all_plans_ok {m : Nat} {es : List E2} (hl : es.length ≤ 1000) (hb : (allP es).length ≤ 16000000) : F_l_all_plans [.d (webN m es)] [] = .ok (.d (.list ((allP es).map planD))) [] := by
  obtain ⟨ρ', t, f1, ⟨x, rfl⟩, rfl⟩ := forL_ok (tg := tName 2) (body := (dSet 1 (dBin vAdd (dVar 1) (dLcF (dLc [3] (dIter (dVar 1)) (tName 3) (fun ρ st => asB (dBin (vEq false) (dLcF (dLc [4] (dIter (dVar 3)) (tName 4) (dOr (fun ρ st => asB (dBin (vIn false) (dBin vIx (dVar 4) (dLit (.int 0))) (dVar 2) ρ st)) (fun ρ st => asB (dBin (vIn false) (dBin vIx (dVar 4) (dLit (.int 1))) (dVar 2) ρ st))) (dVar 4))) (dLst dNil) ρ st)) (dBin vAdd (dVar 3) (dTup (dCons (dVar 2) dNil)))))))) (emb := fun e => W.d (eD e))
    (P := fun pre ρ t => (∃ x, ρ = [some (.d (webN m es)), some (.d (.list ((allP pre).map planD))), x, none, none]) ∧ t = []) es
    (fun pre e post ρ t ea p => by
      obtain ⟨⟨x, rfl⟩, rfl⟩ := p
      have hb1 : (allP (pre ++ [e])).length ≤ 16000000 := Nat.le_trans (by rw [ea, show pre ++ e :: post = pre ++ [e] ++ post by simp]; exact allP_pre post _) hb
      have hpl : pre.length < es.length := by rw [ea]; simp
      have c := lcL_filter2 (tg := tName 3) (tt := (fun ρ st => asB (dBin (vEq false) (dLcF (dLc [4] (dIter (dVar 3)) (tName 4) (dOr (fun ρ st => asB (dBin (vIn false) (dBin vIx (dVar 4) (dLit (.int 0))) (dVar 2) ρ st)) (fun ρ st => asB (dBin (vIn false) (dBin vIx (dVar 4) (dLit (.int 1))) (dVar 2) ρ st))) (dVar 4))) (dLst dNil) ρ st))) (fe := dBin vAdd (dVar 3) (dTup (dCons (dVar 2) dNil))) (ρ := [some (.d (webN m es)), some (.d (.list ((allP pre).map planD))), some (.d (eD e)), none, none]) (s := []) (emb := fun p => W.d (planD p)) (g := fun p => W.d (planD (p ++ [e]))) (p := fun p => (p.filter (hit e)).isEmpty) (allP pre) (fun p hp => by
        have hsub := ((allP_mem pre.length pre rfl).mp hp).1
        have hplen : p.length ≤ pre.length := hsub.length_le
        refine ⟨[some (.d (webN m es)), some (.d (.list ((allP pre).map planD))), some (.d (eD e)), some (.d (planD p)), none], rfl, ?_, fun _ => ?_⟩
        · have c2 := lcL_filter2 (tg := tName 4) (tt := (dOr (fun ρ st => asB (dBin (vIn false) (dBin vIx (dVar 4) (dLit (.int 0))) (dVar 2) ρ st)) (fun ρ st => asB (dBin (vIn false) (dBin vIx (dVar 4) (dLit (.int 1))) (dVar 2) ρ st)))) (fe := dVar 4) (ρ := [some (.d (webN m es)), some (.d (.list ((allP pre).map planD))), some (.d (eD e)), some (.d (planD p)), none]) (s := []) (emb := fun o => W.d (eD o)) (g := fun o => W.d (eD o)) (p := hit e) p (fun o _ =>
            ⟨[some (.d (webN m es)), some (.d (.list ((allP pre).map planD))), some (.d (eD e)), some (.d (planD p)), some (.d (eD o))], rfl, or_ok (asB_ok (dBin_ok (dBin_ok (dVar_ok rfl) rfl (vIx_tup (j := 0) rfl)) (dVar_ok rfl) (vIn_nat (l := [e.1, e.2])))) (asB_ok (dBin_ok (dBin_ok (dVar_ok rfl) rfl (vIx_tup (j := 1) rfl)) (dVar_ok rfl) (vIn_nat (l := [e.1, e.2])))), fun _ => dVar_ok rfl⟩)
          rw [← map_d eD, ← map_d eD] at c2
          have := List.length_filter_le (hit e) p
          exact asB_ok (dBin_ok (dLcF_ok (dLc_ok (vs := [4]) (dIter_ok (x := planD p) (dVar_ok rfl) rfl) c2 (le_line (by simp only [List.length_map]; omega)))) (lst_ok (ds := []) rfl rfl (Nat.zero_le _)) eq_nil)
        · refine dBin_ok (dVar_ok rfl) (tup_ok (dCons1_ok (dVar_ok rfl)) rfl (Nat.le_of_ble_eq_true rfl)) ?_
          simp only [vAdd]
          rw [chk_ok (le_line (by simp only [List.length_map, List.length_singleton]; omega))]
          simp)
      have e2 : ((allP pre).filter fun p => (p.filter (hit e)).isEmpty).map (fun p => W.d (planD (p ++ [e]))) = ((((allP pre).filter fun p => (p.filter (hit e)).isEmpty).map (· ++ [e])).map planD).map W.d := by rw [List.map_map, List.map_map]; rfl
      rw [e2, ← map_d planD] at c
      rw [allP_snoc, stepP, List.length_append, List.length_map] at hb1
      have z : (16000000 : Nat) ≤ sizeLine := by rw [sizeLine_eq]; decide
      refine ⟨_, [], _, [], rfl, dSet_ok (dBin_ok (dVar_ok rfl) (dLcF_ok (dLc_ok (vs := [3]) (dIter_ok (dVar_ok rfl) rfl) c (by simp only [List.length_map]; omega))) ?_), ⟨_, rfl⟩, rfl⟩
      simp only [vAdd]
      rw [chk_ok (by simp only [List.length_map]; omega)]
      rw [allP_snoc, stepP, List.map_append])
    (ρ := [some (.d (webN m es)), some (.d (.list ((allP []).map planD))), none, none, none]) (s := []) ⟨⟨none, rfl⟩, rfl⟩
  exact dDef_rt (ρ' := [some (.d (webN m es)), some (.d (.list ((allP es).map planD))), x, none, none]) (to (dSet_ok (lst_ok (ds := [.tuple []]) (dCons1_ok (tup_ok (ds := []) rfl rfl (Nat.le_of_ble_eq_true rfl))) rfl (Nat.le_of_ble_eq_true rfl))) (to (dFor_ok (dIter_ok (x := .tuple (es.map eD)) (dBin_ok (dVar_ok rfl) rfl (vIx_tup (j := 1) rfl)) rfl) (by rw [map_d]; exact f1)) (dRet_ok (dVar_ok rfl))))
end BL

namespace BL
open PySem PySem.Spec PyProof.Rows L2 Y
/-! ### plans and barriers -/
theorem sub_len {α : Type} [DecidableEq α] : ∀ (l m : List α), l.Nodup → (∀ x ∈ l, x ∈ m) → l.length ≤ m.length
  | [], _, _, _ => Nat.zero_le _
  | a :: l, m, h, hs => by
    obtain ⟨h1, h2⟩ := List.nodup_cons.mp h
    have ha : a ∈ m := hs a List.mem_cons_self
    have := sub_len l (m.erase a) h2 fun x hx => (List.mem_erase_of_ne (fun z => h1 (by rw [← z]; exact hx))).mpr (hs x (List.mem_cons_of_mem _ hx))
    rw [List.length_erase_of_mem ha] at this
    have hp : 0 < m.length := List.length_pos_of_mem ha
    rw [List.length_cons]
    omega
theorem same_len {α : Type} [DecidableEq α] {l m : List α} (hl : l.Nodup) (hm : m.Nodup) (h : ∀ x, x ∈ l ↔ x ∈ m) : l.length = m.length :=
  Nat.le_antisymm (sub_len l m hl fun x hx => (h x).mp hx) (sub_len m l hm fun x hx => (h x).mpr hx)
theorem three (f : Nat → Nat) : ∀ l : List Nat, l.length = l.countP (fun v => decide (f v = v)) + l.countP (fun v => decide (v < f v)) + l.countP (fun v => decide (f v < v))
  | [] => rfl
  | v :: l => by
    have ih := three f l
    rw [List.length_cons, List.countP_cons, List.countP_cons, List.countP_cons]
    rcases Nat.lt_trichotomy v (f v) with h | h | h
    · simp [h, show ¬ f v = v by omega, show ¬ f v < v by omega]; omega
    · simp [← h]; omega
    · simp [h, show ¬ f v = v by omega, show ¬ v < f v by omega]; omega
section
variable {m : Nat} {es : List E2} (hes : ∀ e ∈ es, e.1 < e.2 ∧ e.2 < m) (nd : es.Nodup)
include hes nd
theorem mt_count {f : Nat → Nat} (h : MB.Mt (Adj es) (List.range m) f) : MB.miss (List.range m) f + 2 * (es.filter fun e => decide (f e.1 = e.2)).length = m := by
  have t := three f (List.range m)
  rw [List.length_range] at t
  have inv : ∀ v, v < m → f (f v) = v := fun v hv => h.inv v (List.mem_range.mpr hv)
  have mem : ∀ v, v < m → f v < m := fun v hv => List.mem_range.mp (h.mem v (List.mem_range.mpr hv))
  have fn : (es.filter fun e => decide (f e.1 = e.2)).Nodup := nd.filter _
  have e1 : (List.range m).countP (fun v => decide (v < f v)) = (es.filter fun e => decide (f e.1 = e.2)).length := by
    rw [List.countP_eq_length_filter, ← List.length_map (f := fun e : E2 => e.1) (as := es.filter fun e => decide (f e.1 = e.2))]
    refine same_len (List.nodup_range.filter _) ?_ fun v => ?_
    · rw [List.Nodup, List.pairwise_map]
      refine List.Pairwise.imp_of_mem (fun {a b} ha hb q z => q ?_) fn
      have ha := of_decide_eq_true (List.mem_filter.mp ha).2
      have hb := of_decide_eq_true (List.mem_filter.mp hb).2
      exact Prod.ext z (by rw [← ha, ← hb, z])
    · rw [List.mem_filter, List.mem_range, decide_eq_true_eq, List.mem_map]
      constructor
      · rintro ⟨h1, h2⟩
        have := h.adj v (List.mem_range.mpr h1) (by omega)
        rcases this with q | q
        · exact ⟨_, List.mem_filter.mpr ⟨q, by simp⟩, rfl⟩
        · have := hes _ q; simp only at this; omega
      · rintro ⟨e, he, rfl⟩
        obtain ⟨h1, h2⟩ := List.mem_filter.mp he
        have h2 := of_decide_eq_true h2
        have := hes e h1
        omega
  have e2 : (List.range m).countP (fun v => decide (f v < v)) = (es.filter fun e => decide (f e.1 = e.2)).length := by
    rw [List.countP_eq_length_filter, ← List.length_map (f := fun e : E2 => e.2) (as := es.filter fun e => decide (f e.1 = e.2))]
    refine same_len (List.nodup_range.filter _) ?_ fun v => ?_
    · rw [List.Nodup, List.pairwise_map]
      refine List.Pairwise.imp_of_mem (fun {a b} ha hb q z => q ?_) fn
      have ha1 := hes _ (List.mem_filter.mp ha).1
      have hb1 := hes _ (List.mem_filter.mp hb).1
      have ha := of_decide_eq_true (List.mem_filter.mp ha).2
      have hb := of_decide_eq_true (List.mem_filter.mp hb).2
      have i1 := inv a.1 (by omega)
      have i2 := inv b.1 (by omega)
      rw [ha] at i1
      rw [hb] at i2
      exact Prod.ext (by rw [← i1, ← i2, z]) z
    · rw [List.mem_filter, List.mem_range, decide_eq_true_eq, List.mem_map]
      constructor
      · rintro ⟨h1, h2⟩
        have := h.adj v (List.mem_range.mpr h1) (by omega)
        rcases this with q | q
        · have := hes _ q; simp only at this; omega
        · exact ⟨_, List.mem_filter.mpr ⟨q, by simp [inv v h1]⟩, rfl⟩
      · rintro ⟨e, he, rfl⟩
        obtain ⟨h1, h2⟩ := List.mem_filter.mp he
        have h2 := of_decide_eq_true h2
        have := hes e h1
        have i := inv e.1 (by omega)
        rw [h2] at i
        omega
  unfold MB.miss
  omega
end
theorem dis_symm {a b : E2} (h : Dis a b) : Dis b a := ⟨⟨fun z => h.1.1 z.symm, fun z => h.2.1 z.symm⟩, fun z => h.1.2 z.symm, fun z => h.2.2 z.symm⟩
theorem dis_all {p : List E2} (h : p.Pairwise Dis) {a b : E2} (ha : a ∈ p) (hb : b ∈ p) : a = b ∨ Dis a b := by
  induction p with
  | nil => cases ha
  | cons x p ih =>
    obtain ⟨h1, h2⟩ := List.pairwise_cons.mp h
    rcases List.mem_cons.mp ha with e1 | ha
    · rcases List.mem_cons.mp hb with e2 | hb
      · exact .inl (e1.trans e2.symm)
      · rw [e1]; exact .inr (h1 b hb)
    · rcases List.mem_cons.mp hb with e2 | hb
      · rw [e2]; exact .inr (dis_symm (h1 a ha))
      · exact ih h2 ha hb
/-- everybody's partner by a plan, himself if he has none -/
def mate (p : List E2) (v : Nat) : Nat := match p.find? (fun e => decide (e.1 = v)) with
  | some e => e.2
  | none => match p.find? (fun e => decide (e.2 = v)) with
    | some e => e.1
    | none => v
theorem mate_cases (p : List E2) (v : Nat) : (∃ e ∈ p, e.1 = v ∧ mate p v = e.2) ∨ (∃ e ∈ p, e.2 = v ∧ mate p v = e.1) ∨ (mate p v = v ∧ ∀ e ∈ p, e.1 ≠ v ∧ e.2 ≠ v) := by
  unfold mate
  cases h1 : p.find? (fun e => decide (e.1 = v)) with
  | some e =>
    refine .inl ⟨e, List.mem_of_find?_eq_some h1, ?_, rfl⟩
    have := List.find?_some h1
    exact of_decide_eq_true this
  | none =>
    cases h2 : p.find? (fun e => decide (e.2 = v)) with
    | some e =>
      refine .inr (.inl ⟨e, List.mem_of_find?_eq_some h2, ?_, rfl⟩)
      have := List.find?_some h2
      exact of_decide_eq_true this
    | none =>
      refine .inr (.inr ⟨rfl, fun e he => ⟨fun z => ?_, fun z => ?_⟩⟩)
      · have := List.find?_eq_none.mp h1 e he
        exact this (decide_eq_true z)
      · have := List.find?_eq_none.mp h2 e he
        exact this (decide_eq_true z)
section
variable {m : Nat} {es p : List E2} (hes : ∀ e ∈ es, e.1 < e.2 ∧ e.2 < m) (hs : ∀ e ∈ p, e ∈ es) (hp : p.Pairwise Dis)
include hes hs hp
theorem mate_fst {e : E2} (he : e ∈ p) : mate p e.1 = e.2 := by
  rcases mate_cases p e.1 with ⟨o, h1, h2, h3⟩ | ⟨o, h1, h2, h3⟩ | ⟨_, h2⟩
  · rcases dis_all hp h1 he with rfl | d
    · exact h3
    · exact absurd h2 d.1.1
  · rcases dis_all hp h1 he with rfl | d
    · have := hes _ (hs _ he); omega
    · exact absurd h2 d.2.1
  · exact absurd rfl (h2 e he).1
theorem mate_snd {e : E2} (he : e ∈ p) : mate p e.2 = e.1 := by
  rcases mate_cases p e.2 with ⟨o, h1, h2, h3⟩ | ⟨o, h1, h2, h3⟩ | ⟨_, h2⟩
  · rcases dis_all hp h1 he with rfl | d
    · have := hes _ (hs _ he); omega
    · exact absurd h2 d.1.2
  · rcases dis_all hp h1 he with rfl | d
    · exact h3
    · exact absurd h2 d.2.2
  · exact absurd rfl (h2 e he).2
theorem mate_mt : MB.Mt (Adj es) (List.range m) (mate p) where
  mem v hv := by
    have hv := List.mem_range.mp hv
    rw [List.mem_range]
    rcases mate_cases p v with ⟨o, h1, h2, h3⟩ | ⟨o, h1, h2, h3⟩ | ⟨h3, _⟩
    · rw [h3]; exact (hes _ (hs _ h1)).2
    · rw [h3]; have := hes _ (hs _ h1); omega
    · rw [h3]; exact hv
  inv v hv := by
    rcases mate_cases p v with ⟨o, h1, h2, h3⟩ | ⟨o, h1, h2, h3⟩ | ⟨h3, _⟩
    · rw [h3, mate_snd hes hs hp h1, h2]
    · rw [h3, mate_fst hes hs hp h1, h2]
    · rw [h3, h3]
  adj v hv ne := by
    rcases mate_cases p v with ⟨o, h1, h2, h3⟩ | ⟨o, h1, h2, h3⟩ | ⟨h3, _⟩
    · rw [h3, ← h2]; exact .inl (hs _ h1)
    · rw [h3, ← h2]; exact .inr (hs _ h1)
    · exact absurd h3 ne
end
section
variable {m : Nat} {es : List E2} (hes : ∀ e ∈ es, e.1 < e.2 ∧ e.2 < m) (nd : es.Nodup)
include hes nd
theorem plan_le {M : Nat → Nat} (hM : MB.Mx (Adj es) (List.range m) M) {p : List E2} (h : p ∈ allP es) : 2 * p.length + MB.miss (List.range m) M ≤ m := by
  obtain ⟨h1, h2⟩ := (allP_mem es.length es rfl).mp h
  have hs : ∀ e ∈ p, e ∈ es := fun e he => h1.subset he
  have mt := mate_mt hes hs h2
  have c := mt_count hes nd mt
  have l := hM.least _ mt
  have : p.length ≤ (es.filter fun e => decide (mate p e.1 = e.2)).length := sub_len _ _ (h1.nodup nd) fun e he => List.mem_filter.mpr ⟨hs e he, decide_eq_true (mate_fst hes hs h2 he)⟩
  omega
theorem plan_mx {M : Nat → Nat} (hM : MB.Mx (Adj es) (List.range m) M) : ∃ p ∈ allP es, 2 * p.length + MB.miss (List.range m) M = m := by
  have c := mt_count hes nd hM.mt
  refine ⟨es.filter fun e => decide (M e.1 = e.2), (allP_mem es.length es rfl).mpr ⟨List.filter_sublist, ?_⟩, by omega⟩
  refine List.Pairwise.imp_of_mem (fun {a b} ha hb q => ?_) (nd.filter _)
  have ha1 := hes _ (List.mem_filter.mp ha).1
  have hb1 := hes _ (List.mem_filter.mp hb).1
  have ha := of_decide_eq_true (List.mem_filter.mp ha).2
  have hb := of_decide_eq_true (List.mem_filter.mp hb).2
  have ia := hM.mt.inv a.1 (List.mem_range.mpr (by omega))
  have ib := hM.mt.inv b.1 (List.mem_range.mpr (by omega))
  rw [ha] at ia
  rw [hb] at ib
  refine ⟨⟨fun z => q (Prod.ext z (by rw [← ha, ← hb, z])), fun z => ?_⟩, fun z => ?_, fun z => q (Prod.ext (by rw [← ia, ← ib, z]) z)⟩
  · rw [← z, ha] at ib; omega
  · rw [z, hb] at ia; omega
end
/-! ### heads -/
section
variable {m : Nat} {fe : List E2} {l : List Nat}
theorem head_ex (iso : ∀ {u v : Nat}, Adj fe u v → u ∉ l ∧ v ∉ l) (lt : ∀ {u v : Nat}, Adj fe u v → u < m ∧ v < m) : ∀ (v : Nat), v < m → v ∉ l → ∃ h, h ∈ heads fe l m ∧ Rch fe h v := by
  intro v hv hvl
  have : ∀ n w, w ≤ n → w < m → w ∉ l → Rch fe w v → ∃ h, h ∈ heads fe l m ∧ Rch fe h v := by
    intro n
    induction n with
    | zero =>
      intro w hw hm hl hr
      refine ⟨w, mem_heads.mpr ⟨hm, hl, fun u hu => by omega⟩, hr⟩
    | succ n ih =>
      intro w hw hm hl hr
      by_cases hh : IsHead fe l w
      · exact ⟨w, mem_heads.mpr ⟨hm, hh⟩, hr⟩
      · have : ∃ u, u < w ∧ Rch fe u w := Classical.byContradiction fun no => hh ⟨hl, fun u hu z => no ⟨u, hu, z⟩⟩
        obtain ⟨u, h1, h2⟩ := this
        have hul : u ∉ l := fun z => by
          have := (h2.symm).alone fun x q => (iso q).2 z
          omega
        exact ih u (by omega) (by omega) hul (h2.trans hr)
  exact this v v (Nat.le_refl _) hv hvl (.nil _)
theorem head_uniq {h k v : Nat} (hh : h ∈ heads fe l m) (hk : k ∈ heads fe l m) (r1 : Rch fe h v) (r2 : Rch fe k v) : h = k := by
  have a := (mem_heads.mp hh).2.2
  have b := (mem_heads.mp hk).2.2
  rcases Nat.lt_trichotomy h k with q | q | q
  · exact absurd (r1.trans r2.symm) (b h q)
  · exact q
  · exact absurd (r2.trans r1.symm) (a k q)
open Classical in
noncomputable def hdOf (m : Nat) (fe : List E2) (l : List Nat) (v : Nat) : Nat := if h : ∃ h, h ∈ heads fe l m ∧ Rch fe h v then Classical.choose h else m
theorem hdOf_eq {h v : Nat} (hh : h ∈ heads fe l m) (r : Rch fe h v) : hdOf m fe l v = h := by
  have ex : ∃ h, h ∈ heads fe l m ∧ Rch fe h v := ⟨h, hh, r⟩
  unfold hdOf
  rw [dif_pos ex]
  exact head_uniq (Classical.choose_spec ex).1 hh (Classical.choose_spec ex).2 r
theorem heads_nodup : (heads fe l m).Nodup := by unfold heads; exact List.nodup_range.filter _
noncomputable def oddHs (m : Nat) (fe : List E2) (l : List Nat) : List Nat := (heads fe l m).filter fun h => decide ((partOf m fe h).length % 2 = 1)
theorem oddPs_len (es : List E2) : (oddPs m es l).length = (oddHs m (es.filter (outE l)) l).length := by
  unfold oddPs cano oddHs
  rw [List.filter_map, List.length_map]
  rfl
theorem fiber {g : Nat → Nat} {q : Nat → Bool} {H : List Nat} (hn : H.Nodup) : ∀ V : List Nat, (∀ v ∈ V, q v = true → g v ∈ H) → V.countP q = (H.map fun h => V.countP fun v => q v && decide (g v = h)).sum
  | [], _ => by
    have : ∀ K : List Nat, (K.map fun _ => 0).sum = 0 := fun K => by induction K with
      | nil => rfl
      | cons a K ih => rw [List.map_cons, List.sum_cons, ih]
    exact (this H).symm
  | v :: V, h => by
    have ih := fiber hn V fun u hu => h u (List.mem_cons_of_mem _ hu)
    have add : ∀ K : List Nat, (K.map fun h => (v :: V).countP fun v => q v && decide (g v = h)).sum = (K.map fun h => V.countP fun v => q v && decide (g v = h)).sum + K.countP fun h => q v && decide (g v = h) := by
      intro K
      induction K with
      | nil => rfl
      | cons a K ik =>
        rw [List.map_cons, List.sum_cons, ik, List.map_cons, List.sum_cons, List.countP_cons, List.countP_cons]
        omega
    rw [add, ← ih, List.countP_cons]
    congr 1
    cases hq : q v with
    | false => simp
    | true =>
      rw [if_pos rfl]
      have hg := h v List.mem_cons_self hq
      have : ∀ K : List Nat, K.Nodup → (K.countP fun h => true && decide (g v = h)) = if g v ∈ K then 1 else 0 := by
        intro K
        induction K with
        | nil => intro _; rfl
        | cons a K ik =>
          intro hk
          obtain ⟨k1, k2⟩ := List.nodup_cons.mp hk
          rw [List.countP_cons, ik k2]
          by_cases z : g v = a
          · subst z
            rw [if_neg k1, if_pos List.mem_cons_self]
            simp
          · by_cases y : g v ∈ K
            · rw [if_pos y, if_pos (List.mem_cons_of_mem _ y)]; simp [z]
            · rw [if_neg y, if_neg (fun x => (List.mem_cons.mp x).elim z y)]; simp [z]
      rw [this H hn, if_pos hg]
end
section
variable {m : Nat} {es : List E2} (hes : ∀ e ∈ es, e.1 < e.2 ∧ e.2 < m)
include hes
theorem adj_lt {u v : Nat} (h : Adj es u v) : u < m ∧ v < m := by
  rcases h with h | h <;> (have := hes _ h; simp only at this; omega)
theorem spare_le {M : Nat → Nat} (hM : MB.Mx (Adj es) (List.range m) M) {l : List Nat} (h : l ∈ allL m) : (oddPs m es l).length ≤ l.length + MB.miss (List.range m) M := by
  obtain ⟨h1, h2⟩ := allL_mem h
  have lt := fun {u v : Nat} (q : Adj (es.filter (outE l)) u v) => adj_lt hes (out_adj.mp q).1
  have iso := fun {u v : Nat} (q : Adj (es.filter (outE l)) u v) => (out_adj.mp q).2
  have part_f : ∀ k ∈ heads (es.filter (outE l)) l m, (List.range m).countP (fun v => decide (v ∉ l) && decide (hdOf m (es.filter (outE l)) l v = k)) = (partOf m (es.filter (outE l)) k).length := by
    intro k hk
    rw [List.countP_eq_length_filter]
    congr 1
    refine List.filter_congr fun v hv => ?_
    have hv := List.mem_range.mp hv
    rw [Bool.eq_iff_iff, Bool.and_eq_true, decide_eq_true_eq, decide_eq_true_eq, @decide_eq_true_eq _ (Classical.propDecidable _)]
    constructor
    · rintro ⟨a, b⟩
      obtain ⟨h, q1, q2⟩ := head_ex iso lt v hv a
      rw [hdOf_eq q1 q2] at b
      rw [← b]; exact q2
    · intro r
      refine ⟨fun z => ?_, hdOf_eq hk r⟩
      have := r.alone fun x q => (iso q).2 z
      subst this
      exact (mem_heads.mp hk).2.1 z
  have bar : MB.Bar (Adj es) (List.range m) l (oddHs m (es.filter (outE l)) l) (hdOf m (es.filter (outE l)) l) := by
    refine ⟨h1.imp fun {a b} q => by omega, fun v hv => List.mem_range.mpr (h2 v hv), fun u v hu hv hul hvl a => ?_, heads_nodup.filter _, fun k hk => ?_⟩
    · obtain ⟨h, q1, q2⟩ := head_ex iso lt u (List.mem_range.mp hu) hul
      rw [hdOf_eq q1 q2, hdOf_eq q1 (q2.snoc (out_adj.mpr ⟨a, hul, hvl⟩))]
    · obtain ⟨k1, k2⟩ := List.mem_filter.mp hk
      have := part_f k k1
      have k2 := of_decide_eq_true k2
      rw [← this] at k2
      exact k2
  have := MB.weak (List.nodup_range) bar hM.mt
  rw [oddPs_len]
  exact this
theorem spare_ge {M : Nat → Nat} (hM : MB.Mx (Adj es) (List.range m) M) : ∃ l ∈ allL m, l.length + MB.miss (List.range m) M ≤ (oddPs m es l).length := by
  obtain ⟨S, L, f, bar, hle⟩ := MB.berge (fun u v h => Adj.symm h) m (List.range m) (by rw [List.length_range]; exact Nat.le_refl _) (List.nodup_range) M hM
  refine ⟨(List.range m).filter fun v => decide (v ∈ S), allL_filter _ m, ?_⟩
  generalize hl : (List.range m).filter (fun v => decide (v ∈ S)) = l
  have mem : ∀ v, v < m → (v ∈ l ↔ v ∈ S) := fun v hv => by rw [← hl, List.mem_filter, List.mem_range, decide_eq_true_eq]; exact ⟨fun q => q.2, fun q => ⟨hv, q⟩⟩
  have ll : l.length ≤ S.length := sub_len _ _ (by rw [← hl]; exact List.nodup_range.filter _) fun v hv => by
    rw [← hl] at hv
    exact of_decide_eq_true (List.mem_filter.mp hv).2
  have lt := fun {u v : Nat} (q : Adj (es.filter (outE l)) u v) => adj_lt hes (out_adj.mp q).1
  have iso := fun {u v : Nat} (q : Adj (es.filter (outE l)) u v) => (out_adj.mp q).2
  have same : ∀ {u v : Nat}, Rch (es.filter (outE l)) u v → f u = f v := by
    intro u v r
    induction r with
    | nil => rfl
    | @snoc t v _ a ih =>
      obtain ⟨a1, a2, a3⟩ := out_adj.mp a
      obtain ⟨l1, l2⟩ := lt a
      rw [ih]
      exact bar.same t v (List.mem_range.mpr l1) (List.mem_range.mpr l2) (fun z => a2 ((mem t l1).mpr z)) (fun z => a3 ((mem v l2).mpr z)) a1
  have key : ∀ a ∈ L, ∃ h ∈ oddHs m (es.filter (outE l)) l, f h = a := by
    intro a ha
    refine Classical.byContradiction fun no => ?_
    have odd := bar.odd a ha
    have fib := fiber (g := hdOf m (es.filter (outE l)) l) (q := fun v => decide (v ∉ S) && decide (f v = a)) (H := heads (es.filter (outE l)) l m) heads_nodup (List.range m) (fun v hv q => by
      have hv := List.mem_range.mp hv
      rw [Bool.and_eq_true, decide_eq_true_eq] at q
      obtain ⟨h, q1, q2⟩ := head_ex iso lt v hv (fun z => q.1 ((mem v hv).mp z))
      rw [hdOf_eq q1 q2]; exact q1)
    have even : ∀ K : List Nat, (∀ h ∈ K, h ∈ heads (es.filter (outE l)) l m) → (K.map fun h => (List.range m).countP fun v => (decide (v ∉ S) && decide (f v = a)) && decide (hdOf m (es.filter (outE l)) l v = h)).sum % 2 = 0 := by
      intro K
      induction K with
      | nil => intro _; rfl
      | cons h K ih =>
        intro hK
        have ih := ih fun x hx => hK x (List.mem_cons_of_mem _ hx)
        have hh := hK h List.mem_cons_self
        rw [List.map_cons, List.sum_cons]
        have : ((List.range m).countP fun v => (decide (v ∉ S) && decide (f v = a)) && decide (hdOf m (es.filter (outE l)) l v = h)) % 2 = 0 := by
          by_cases z : f h = a
          · have e : ((List.range m).countP fun v => (decide (v ∉ S) && decide (f v = a)) && decide (hdOf m (es.filter (outE l)) l v = h)) = (partOf m (es.filter (outE l)) h).length := by
              rw [List.countP_eq_length_filter]
              congr 1
              refine List.filter_congr fun v hv => ?_
              have hv := List.mem_range.mp hv
              rw [Bool.eq_iff_iff, Bool.and_eq_true, Bool.and_eq_true, decide_eq_true_eq, decide_eq_true_eq, decide_eq_true_eq, @decide_eq_true_eq _ (Classical.propDecidable _)]
              constructor
              · rintro ⟨⟨b1, _⟩, b2⟩
                obtain ⟨k, q1, q2⟩ := head_ex iso lt v hv (fun z => b1 ((mem v hv).mp z))
                rw [hdOf_eq q1 q2] at b2
                rw [← b2]; exact q2
              · intro r
                refine ⟨⟨fun z => ?_, (same r).symm.trans z⟩, hdOf_eq hh r⟩
                have := r.alone fun x q => (iso q).2 ((mem v hv).mpr z)
                subst this
                exact (mem_heads.mp hh).2.1 ((mem h hv).mpr z)
            rw [e]
            have : ¬ (partOf m (es.filter (outE l)) h).length % 2 = 1 := fun y => no ⟨h, List.mem_filter.mpr ⟨hh, decide_eq_true y⟩, z⟩
            omega
          · have e : ((List.range m).countP fun v => (decide (v ∉ S) && decide (f v = a)) && decide (hdOf m (es.filter (outE l)) l v = h)) = 0 := by
              rw [List.countP_eq_zero]
              intro v hv q
              have hv := List.mem_range.mp hv
              rw [Bool.and_eq_true, Bool.and_eq_true, decide_eq_true_eq, decide_eq_true_eq, decide_eq_true_eq] at q
              obtain ⟨⟨b1, b2⟩, b3⟩ := q
              obtain ⟨k, q1, q2⟩ := head_ex iso lt v hv (fun z => b1 ((mem v hv).mp z))
              rw [hdOf_eq q1 q2] at b3
              subst b3
              exact z ((same q2).trans b2)
            rw [e]
        omega
    rw [fib, even _ fun _ h => h] at odd
    cases odd
  have hL : L.length ≤ ((oddHs m (es.filter (outE l)) l).map f).length := sub_len _ _ bar.ln fun a ha => by
    obtain ⟨h, h1, h2⟩ := key a ha
    exact List.mem_map.mpr ⟨h, h1, h2⟩
  rw [List.length_map] at hL
  rw [oddPs_len]
  omega
end
end BL

set_option maxHeartbeats 4000000
namespace G
open PySem PySem.Spec PyProof.Rows L2 Y

def topS (i : Nat) : Stmt := PySem.Challenge.pw_givesifgets_k16_whole_barriers.main.body.getD i (.Pass ⟨0, 0, 0, 0⟩)

/-! ### rows_of -/
abbrev s_rows_of : Stmt := topS 1
theorem sc_rows_of : FnScope ["web", "rows", "u", "v", "_"] ["web"] (C8.fnScope s_rows_of) := C8.fnScope_by (by decide +kernel)
noncomputable def B_rows_of : DS :=
  (dSeq (dSet 1 (dLcN (dLc [4] (dRng1 (dCons (dBin vIx (dVar 0) (dLit (.int 0))) dNil)) (tName 4) (fun _ st => .ok true st) (dNew dNil))))
    (dSeq (dFor (dIter (dBin vIx (dVar 0) (dLit (.int 1)))) (tTup' 2 (tCons' (tName 2) (tCons' (tName 3) tNil')))
    (dSeq (dExpr (dMeth mAppend (dBin vIx (dVar 1) (dVar 2)) (dCons (dVar 3) dNil)))
    (dExpr (dMeth mAppend (dBin vIx (dVar 1) (dVar 3)) (dCons (dVar 2) dNil)))))
    (dRet (dVar 1))))
noncomputable def F_rows_of : Fn := dDef 5 B_rows_of
theorem ok_rows_of {P : Program} {w : World} {K : PySem.W.Frag} {mg : Str → Option Value} {base : Heap} {f : Addr} {fd : FuncData} (F : C8.Def K mg "rows_of" s_rows_of f fd) (df : fd.defaults = .none) (z_range : mg "range" = none) : CalG P w K mg base 1 "rows_of" s_rows_of ["web"] 1 F_rows_of := by
  have sc := sc_rows_of
  refine calG_of (k := 0) (N := ["web", "rows", "u", "v", "_"]) (D := B_rows_of) F df sc rfl (fun _ _ _ _ _ _ us hl => match us, hl with | [_], _ => rfl) (fun f cdv A outer s H E hg hr => ?_)
  exact (y_seq (y_setLcN (i := 1) rfl sc.nd rfl rfl (sw_true rfl rfl rfl (by decide +kernel)) (y_rng1 (by rfl) z_range (y_cons (y_ix rfl (y_var (pv 0)) y_int) y_nil)) (blkOk_by (own := [("_", 4)]) (by first | decide +kernel | kernel_rfl | rfl)) (fun _ _ _ _ _ => (y_gname (vs := [4]) (pg_name (i := 4) sc.nd rfl (.inl rfl)) (by decide))) (fun _ _ _ _ _ => y_yes) (fun _ _ _ _ _ => (y_new y_nil)))
    (y_seq (y_for (vs := [2, 3]) PassesOwn.never rfl (y_iter rfl (y_ix rfl (y_var (pv 0)) y_int)) (y_gtup rfl rfl (y_gcons (y_gname (vs := [2, 3]) (pg_name (i := 2) sc.nd rfl (.inl rfl)) (by decide)) (y_gcons (y_gname (vs := [2, 3]) (pg_name (i := 3) sc.nd rfl (.inl rfl)) (by decide)) y_gnil)))
    (y_seq (y_expr (y_meth rfl PySem.F.plainAttrs_list PySem.F.slot_list_append PySem.F.type_list_append mtAppend (y_ix rfl (y_var (pv 1)) (y_var (pv 2))) (y_cons (y_var (pv 3)) y_nil)))
    (y_last (y_expr (y_meth rfl PySem.F.plainAttrs_list PySem.F.slot_list_append PySem.F.type_list_append mtAppend (y_ix rfl (y_var (pv 1)) (y_var (pv 3))) (y_cons (y_var (pv 2)) y_nil))))))
    (y_last (y_ret (y_var (pv 1))))))
/-! ### without -/
abbrev s_without : Stmt := topS 2
theorem sc_without : FnScope ["web", "lot", "u", "v"] ["web", "lot"] (C8.fnScope s_without) := C8.fnScope_by (by decide +kernel)
noncomputable def B_without : DS :=
  (dRet (dTup (dCons (dBin vIx (dVar 0) (dLit (.int 0))) (dCons (dCall gTupleOf (dCons (dLcF (dLc [2, 3] (dIter (dBin vIx (dVar 0) (dLit (.int 1)))) (tTup' 2 (tCons' (tName 2) (tCons' (tName 3) tNil'))) (dAnd (fun ρ st => asB (dBin (vIn true) (dVar 2) (dVar 1) ρ st)) (fun ρ st => asB (dBin (vIn true) (dVar 3) (dVar 1) ρ st))) (dTup (dCons (dVar 2) (dCons (dVar 3) dNil))))) dNil)) dNil))))
noncomputable def F_without : Fn := dDef 4 B_without
theorem ok_without {P : Program} {w : World} {K : PySem.W.Frag} {mg : Str → Option Value} {base : Heap} {f : Addr} {fd : FuncData} (F : C8.Def K mg "without" s_without f fd) (df : fd.defaults = .none) (z_tuple : mg "tuple" = none) : CalG P w K mg base 1 "without" s_without ["web", "lot"] 2 F_without := by
  have sc := sc_without
  refine calG_of (k := 0) (N := ["web", "lot", "u", "v"]) (D := B_without) F df sc rfl (fun _ _ _ _ _ _ us hl => match us, hl with | [_, _], _ => rfl) (fun f cdv A outer s H E hg hr => ?_)
  exact (y_last (y_ret (y_tup (y_cons (y_ix rfl (y_var (pv 0)) y_int) (y_cons (y_callTy (cTupleOf rfl) (by rfl) z_tuple (by decide +kernel) (y_cons (y_lcF rfl sc.nd (y_iter rfl (y_ix rfl (y_var (pv 0)) y_int)) (blkOk_by (own := [("u", 2), ("v", 3)]) (by first | decide +kernel | kernel_rfl | rfl)) (fun _ _ _ _ _ => (y_gtup rfl rfl (y_gcons (y_gname (vs := [2, 3]) (pg_name (i := 2) sc.nd rfl (.inl rfl)) (by decide)) (y_gcons (y_gname (vs := [2, 3]) (pg_name (i := 3) sc.nd rfl (.inl rfl)) (by decide)) y_gnil)))) (fun _ _ _ _ _ => pts_one (y_and (y_tcmp (opNotIn rfl (u65 hr)) (y_var (pv 2)) (y_var (pv 1)) (by rfl)) (y_pw1 (y_tcmp (opNotIn rfl (u65 hr)) (y_var (pv 3)) (y_var (pv 1)) (by rfl)))).pt) (fun _ _ _ _ _ => (y_tup (y_cons (y_var (pv 2)) (y_cons (y_var (pv 3)) y_nil))))) y_nil)) y_nil)))))
/-! ### _part_of -/
abbrev s_part_of : Stmt := topS 4
theorem sc_part_of : FnScope ["rows", "reached", "person", "part", "ahead", "one", "other"] ["rows", "reached", "person"] (C8.fnScope s_part_of) := C8.fnScope_by (by decide +kernel)
noncomputable def B_part_of : DS :=
  (dSeq (dSetIx (dLit (.bool true)) (dVar 1) (dVar 2))
    (dSeq (dSet 3 (dNew dNil))
    (dSeq (dSet 4 (dNew (dCons (dVar 2) dNil)))
    (dSeq (dWhile (dTru (dVar 4))
    (dSeq (dSet 5 (dMeth0 mPop (dVar 4)))
    (dSeq (dExpr (dMeth mAppend (dVar 3) (dCons (dVar 5) dNil)))
    (dForS (dBin vIx (dVar 0) (dVar 5)) (tName 6)
    (dIfS (dNot (fun ρ st => asB ((dBin vIx (dVar 1) (dVar 6)) ρ st)))
    (dSeq (dSetIx (dLit (.bool true)) (dVar 1) (dVar 6))
    (dExpr (dMeth mAppend (dVar 4) (dCons (dVar 6) dNil))))
    dEnd)))))
    (dRet (dCall gTupleOf (dCons (dCall gSorted (dCons (dVar 3) dNil)) dNil)))))))
noncomputable def F_part_of : Fn := dDef 7 B_part_of
theorem ok_part_of {P : Program} {w : World} {K : PySem.W.Frag} {mg : Str → Option Value} {base : Heap} {f : Addr} {fd : FuncData} (F : C8.Def K mg "_part_of" s_part_of f fd) (df : fd.defaults = .none) (z_sorted : mg "sorted" = none) (z_tuple : mg "tuple" = none) : CalG P w K mg base 1 "_part_of" s_part_of ["rows", "reached", "person"] 3 F_part_of := by
  have sc := sc_part_of
  refine calG_of (k := 0) (N := ["rows", "reached", "person", "part", "ahead", "one", "other"]) (D := B_part_of) F df sc rfl (fun _ _ _ _ _ _ us hl => match us, hl with | [_, _, _], _ => rfl) (fun f cdv A outer s H E hg hr => ?_)
  exact (y_seq (y_setIx y_bl (y_var (pv 1)) (y_var (pv 2)))
    (y_seq (y_set (ps_set (i := 3) sc.nd rfl (.inl rfl) (y_new y_nil)))
    (y_seq (y_set (ps_set (i := 4) sc.nd rfl (.inl rfl) (y_new (y_cons (y_var (pv 2)) y_nil))))
    (y_seq (y_while PassesOwn.never (y_tru rfl (y_var (pv 4)))
    (y_seq (y_set (ps_set (i := 5) sc.nd rfl (.inl rfl) (y_meth0 rfl PySem.F.plainAttrs_list PySem.F.slot_list_pop PySem.F.type_list_pop mtPop (y_var (pv 4)))))
    (y_seq (y_expr (y_meth rfl PySem.F.plainAttrs_list PySem.F.slot_list_append PySem.F.type_list_append mtAppend (y_var (pv 3)) (y_cons (y_var (pv 5)) y_nil)))
    (y_last (y_forS (vs := [6]) rfl PassesOwn.never rfl (y_ix rfl (y_var (pv 0)) (y_var (pv 5))) (y_gname (vs := [6]) (pg_name (i := 6) sc.nd rfl (.inl rfl)) (by decide))
    (y_last (y_ifS (y_not (y_tval (y_ix rfl (y_var (pv 1)) (y_var (pv 6)))))
    (y_seq (y_setIx y_bl (y_var (pv 1)) (y_var (pv 6)))
    (y_last (y_expr (y_meth rfl PySem.F.plainAttrs_list PySem.F.slot_list_append PySem.F.type_list_append mtAppend (y_var (pv 4)) (y_cons (y_var (pv 6)) y_nil)))))
    y_end)))))))
    (y_last (y_ret (y_callTy (cTupleOf rfl) (by rfl) z_tuple (by decide +kernel) (y_cons (y_callB (cSorted rfl) (by rfl) z_sorted (by decide +kernel) (y_cons (y_var (pv 3)) y_nil)) y_nil))))))))
/-! ### parts_left -/
abbrev s_parts_left : Stmt := topS 3
theorem sc_parts_left : FnScope ["web", "lot", "rows", "reached", "parts", "person"] ["web", "lot"] (C8.fnScope s_parts_left) := C8.fnScope_by (by decide +kernel)
noncomputable def B_parts_left : DS :=
  (dSeq (dSet 2 (dCal 1 F_rows_of (dCons (dCalP 2 F_without (dCons (dVar 0) (dCons (dVar 1) dNil))) dNil)))
    (dSeq (dSet 3 (dLcN (dLc [5] (dRng1 (dCons (dBin vIx (dVar 0) (dLit (.int 0))) dNil)) (tName 5) (fun _ st => .ok true st) (dBin (vIn false) (dVar 5) (dVar 1)))))
    (dSeq (dSet 4 (dNew dNil))
    (dSeq (dFor (dRng1 (dCons (dBin vIx (dVar 0) (dLit (.int 0))) dNil)) (tName 5)
    (dIfS (dNot (fun ρ st => asB ((dBin vIx (dVar 3) (dVar 5)) ρ st)))
    (dExpr (dMeth mAppend (dVar 4) (dCons (dCal 3 F_part_of (dCons (dVar 2) (dCons (dVar 3) (dCons (dVar 5) dNil)))) dNil)))
    dEnd))
    (dRet (dFz (dVar 4)))))))
noncomputable def F_parts_left : Fn := dDef 6 B_parts_left
theorem ok_parts_left {P : Program} {w : World} {K : PySem.W.Frag} {mg : Str → Option Value} {base : Heap} {f : Addr} {fd : FuncData} (F : C8.Def K mg "parts_left" s_parts_left f fd) (df : fd.defaults = .none) (z_range : mg "range" = none) (c_rows_of : CalG P w K mg base 1 "rows_of" s_rows_of ["web"] 1 F_rows_of) (c_without : CalG P w K mg base 1 "without" s_without ["web", "lot"] 2 F_without) (c_part_of : CalG P w K mg base 1 "_part_of" s_part_of ["rows", "reached", "person"] 3 F_part_of) : CalG P w K mg base 2 "parts_left" s_parts_left ["web", "lot"] 2 F_parts_left := by
  have sc := sc_parts_left
  refine calG_of (k := 1) (N := ["web", "lot", "rows", "reached", "parts", "person"]) (D := B_parts_left) F df sc rfl (fun _ _ _ _ _ _ us hl => match us, hl with | [_, _], _ => rfl) (fun f cdv A outer s H E hg hr => ?_)
  exact (y_seq (y_set (ps_set (i := 2) sc.nd rfl (.inl rfl) (y_cal rfl c_rows_of hr (by decide) hg (by rfl) (y_cons (y_calP rfl c_without hr (by decide) hg (by rfl) (y_cons (y_var (pv 0)) (y_cons (y_var (pv 1)) y_nil))) y_nil))))
    (y_seq (y_setLcN (i := 3) rfl sc.nd rfl rfl (sw_true rfl rfl rfl (by decide +kernel)) (y_rng1 (by rfl) z_range (y_cons (y_ix rfl (y_var (pv 0)) y_int) y_nil)) (blkOk_by (own := [("person", 5)]) (by first | decide +kernel | kernel_rfl | rfl)) (fun _ _ _ _ _ => (y_gname (vs := [5]) (pg_name (i := 5) sc.nd rfl (.inl rfl)) (by decide))) (fun _ _ _ _ _ => y_yes) (fun _ _ _ _ _ => (y_cmp (opIn rfl (u65 hr)) (y_var (pv 5)) (y_var (pv 1)) (by rfl))))
    (y_seq (y_set (ps_set (i := 4) sc.nd rfl (.inl rfl) (y_new y_nil)))
    (y_seq (y_for (vs := [5]) PassesOwn.never rfl (y_rng1 (by rfl) z_range (y_cons (y_ix rfl (y_var (pv 0)) y_int) y_nil)) (y_gname (vs := [5]) (pg_name (i := 5) sc.nd rfl (.inl rfl)) (by decide))
    (y_last (y_ifS (y_not (y_tval (y_ix rfl (y_var (pv 3)) (y_var (pv 5)))))
    (y_last (y_expr (y_meth rfl PySem.F.plainAttrs_list PySem.F.slot_list_append PySem.F.type_list_append mtAppend (y_var (pv 4)) (y_cons (y_cal rfl c_part_of hr (by decide) hg (by rfl) (y_cons (y_var (pv 2)) (y_cons (y_var (pv 3)) (y_cons (y_var (pv 5)) y_nil)))) y_nil))))
    y_end)))
    (y_last (y_ret (y_fz (y_var (pv 4)))))))))
/-! ### odd_parts -/
abbrev s_odd_parts : Stmt := topS 6
theorem sc_odd_parts : FnScope ["web", "lot", "part"] ["web", "lot"] (C8.fnScope s_odd_parts) := C8.fnScope_by (by decide +kernel)
noncomputable def B_odd_parts : DS :=
  (dRet (dCall gTupleOf (dCons (dLcF (dLc [2] (dIter (dCalP 2 F_parts_left (dCons (dVar 0) (dCons (dVar 1) dNil)))) (tName 2) (fun ρ st => asB (dBin (vEq false) (dBin vMod (dCall gLen (dCons (dVar 2) dNil)) (dLit (.int 2))) (dLit (.int 1)) ρ st)) (dVar 2))) dNil)))
noncomputable def F_odd_parts : Fn := dDef 3 B_odd_parts
theorem ok_odd_parts {P : Program} {w : World} {K : PySem.W.Frag} {mg : Str → Option Value} {base : Heap} {f : Addr} {fd : FuncData} (F : C8.Def K mg "odd_parts" s_odd_parts f fd) (df : fd.defaults = .none) (z_len : mg "len" = none) (z_tuple : mg "tuple" = none) (c_parts_left : CalG P w K mg base 2 "parts_left" s_parts_left ["web", "lot"] 2 F_parts_left) : CalG P w K mg base 3 "odd_parts" s_odd_parts ["web", "lot"] 2 F_odd_parts := by
  have sc := sc_odd_parts
  refine calG_of (k := 2) (N := ["web", "lot", "part"]) (D := B_odd_parts) F df sc rfl (fun _ _ _ _ _ _ us hl => match us, hl with | [_, _], _ => rfl) (fun f cdv A outer s H E hg hr => ?_)
  exact (y_last (y_ret (y_callTy (cTupleOf rfl) (by rfl) z_tuple (by decide +kernel) (y_cons (y_lcF rfl sc.nd (y_iter rfl (y_calP rfl c_parts_left hr (by decide) hg (by rfl) (y_cons (y_var (pv 0)) (y_cons (y_var (pv 1)) y_nil)))) (blkOk_by (own := [("part", 2)]) (by first | decide +kernel | kernel_rfl | rfl)) (fun _ _ _ _ _ => (y_gname (vs := [2]) (pg_name (i := 2) sc.nd rfl (.inl rfl)) (by decide))) (fun _ _ _ _ _ => pts_one (y_tcmp (opEq rfl hr.units) (y_op opMod (y_callB (cLen rfl) (by rfl) z_len (by decide +kernel) (y_cons (y_var (pv 2)) y_nil)) y_int) y_int (nomark _))) (fun _ _ _ _ _ => (y_var (pv 2)))) y_nil))))
/-! ### spare_number -/
abbrev s_spare_number : Stmt := topS 7
theorem sc_spare_number : FnScope ["web", "lot"] ["web", "lot"] (C8.fnScope s_spare_number) := C8.fnScope_by (by decide +kernel)
noncomputable def B_spare_number : DS :=
  (dRet (dBin vSub (dCall gLen (dCons (dCalP 2 F_odd_parts (dCons (dVar 0) (dCons (dVar 1) dNil))) dNil)) (dCall gLen (dCons (dVar 1) dNil))))
noncomputable def F_spare_number : Fn := dDef 2 B_spare_number
theorem ok_spare_number {P : Program} {w : World} {K : PySem.W.Frag} {mg : Str → Option Value} {base : Heap} {f : Addr} {fd : FuncData} (F : C8.Def K mg "spare_number" s_spare_number f fd) (df : fd.defaults = .none) (z_len : mg "len" = none) (c_odd_parts : CalG P w K mg base 3 "odd_parts" s_odd_parts ["web", "lot"] 2 F_odd_parts) : CalG P w K mg base 4 "spare_number" s_spare_number ["web", "lot"] 2 F_spare_number := by
  have sc := sc_spare_number
  refine calG_of (k := 3) (N := ["web", "lot"]) (D := B_spare_number) F df sc rfl (fun _ _ _ _ _ _ us hl => match us, hl with | [_, _], _ => rfl) (fun f cdv A outer s H E hg hr => ?_)
  exact (y_last (y_ret (y_op opSub (y_callB (cLen rfl) (by rfl) z_len (by decide +kernel) (y_cons (y_calP rfl c_odd_parts hr (by decide) hg (by rfl) (y_cons (y_var (pv 0)) (y_cons (y_var (pv 1)) y_nil))) y_nil)) (y_callB (cLen rfl) (by rfl) z_len (by decide +kernel) (y_cons (y_var (pv 1)) y_nil)))))
/-! ### _law_draw -/
abbrev s_l_draw : Stmt := topS 9
theorem sc_l_draw : FnScope ["script", "salt", "cells", "blend", "cell"] ["script", "salt"] (C8.fnScope s_l_draw) := C8.fnScope_by (by decide +kernel)
noncomputable def B_l_draw : DS :=
  (dSeq (dSet 2 (dLcF (dLc [4] (dIter (dSl (dVar 0) dNoP (dPart (dLit (.int 48))))) (tName 4) (fun _ st => .ok true st) (dCall gAbs (dCons (dCall gInt (dCons (dVar 4) dNil)) dNil)))))
    (dSeq (dSet 3 (dBin vAdd (dLit (.int 7919)) (dBin vMul (dLit (.int 104729)) (dVar 1))))
    (dSeq (dFor (dIter (dVar 2)) (tName 4)
    (dSet 3 (dBin vMod (dCall gInt (dCons (dBin vAdd (dBin vAdd (dBin vMul (dVar 3) (dLit (.int 48271))) (dBin vMod (dVar 4) (dLit (.int 2147483549)))) (dLit (.int 11))) dNil)) (dLit (.int 2147483647)))))
    (dRet (dNew (dCons (dRevN (dLcF (dLc [4] (dIter (dVar 2)) (tName 4) (fun ρ st => asB (dBin vGe (dVar 4) (dBin vPow (dLit (.int 10)) (dLit (.int 18))) ρ st)) (dVar 4)))) (dCons (dVar 3) dNil)))))))
noncomputable def F_l_draw : Fn := dDef 5 B_l_draw
theorem ok_l_draw {P : Program} {w : World} {K : PySem.W.Frag} {mg : Str → Option Value} {base : Heap} {f : Addr} {fd : FuncData} (F : C8.Def K mg "_law_draw" s_l_draw f fd) (df : fd.defaults = .none) (z_abs : mg "abs" = none) (z_int : mg "int" = none) : CalG P w K mg base 1 "_law_draw" s_l_draw ["script", "salt"] 2 F_l_draw := by
  have sc := sc_l_draw
  refine calG_of (k := 0) (N := ["script", "salt", "cells", "blend", "cell"]) (D := B_l_draw) F df sc rfl (fun _ _ _ _ _ _ us hl => match us, hl with | [_, _], _ => rfl) (fun f cdv A outer s H E hg hr => ?_)
  exact (y_seq (y_setLcF (i := 2) rfl sc.nd rfl rfl (sw_true rfl rfl rfl (by decide +kernel)) (y_iter rfl (y_sl rfl (y_var (pv 0)) y_noP (y_part y_int))) (blkOk_by (own := [("cell", 4)]) (by first | decide +kernel | kernel_rfl | rfl)) (fun _ _ _ _ _ => (y_gname (vs := [4]) (pg_name (i := 4) sc.nd rfl (.inl rfl)) (by decide))) (fun _ _ _ _ _ => y_yes) (fun _ _ _ _ _ => (y_callB cAbs (by rfl) z_abs (by decide +kernel) (y_cons (y_callTy cInt (by rfl) z_int (by decide +kernel) (y_cons (y_var (pv 4)) y_nil)) y_nil))))
    (y_seq (y_set (ps_set (i := 3) sc.nd rfl (.inl rfl) (y_op (opAdd rfl) y_int (y_op opMul y_int (y_var (pv 1))))))
    (y_seq (y_for (vs := [4]) PassesOwn.never rfl (y_iter rfl (y_var (pv 2))) (y_gname (vs := [4]) (pg_name (i := 4) sc.nd rfl (.inl rfl)) (by decide))
    (y_last (y_set (ps_set (i := 3) sc.nd rfl (.inl rfl) (y_op opMod (y_callTy cInt (by rfl) z_int (by decide +kernel) (y_cons (y_op (opAdd rfl) (y_op (opAdd rfl) (y_op opMul (y_var (pv 3)) y_int) (y_op opMod (y_var (pv 4)) y_int)) y_int) y_nil)) y_int)))))
    (y_last (y_ret (y_new (y_cons (y_revN rfl (y_lcF rfl sc.nd (y_iter rfl (y_var (pv 2))) (blkOk_by (own := [("cell", 4)]) (by first | decide +kernel | kernel_rfl | rfl)) (fun _ _ _ _ _ => (y_gname (vs := [4]) (pg_name (i := 4) sc.nd rfl (.inl rfl)) (by decide))) (fun _ _ _ _ _ => pts_one (y_tcmp opGe (y_var (pv 4)) (y_op opPow y_int y_int) (nomark _))) (fun _ _ _ _ _ => (y_var (pv 4))))) (y_cons (y_var (pv 3)) y_nil))))))))
/-! ### _law_any -/
abbrev s_l_any : Stmt := topS 10
theorem sc_l_any : FnScope ["deal", "bound", "rest"] ["deal", "bound"] (C8.fnScope s_l_any) := C8.fnScope_by (by decide +kernel)
noncomputable def B_l_any : DS :=
  (dSeq (dWhile (dAnd (fun ρ st => asB (dBin (vEq true) (dBin vIx (dVar 0) (dLit (.int 0))) (dLst dNil) ρ st)) (fun ρ st => asB (dBin (vEq false) (dBin vIx (dBin vIx (dVar 0) (dLit (.int 0))) (dUn vNeg (dLit (.int 1)))) (dLit (.int 0)) ρ st)))
    (dExpr (dMeth0 mPop (dBin vIx (dVar 0) (dLit (.int 0))))))
    (dSeq (dIfS (fun ρ st => asB (dBin (vEq true) (dBin vIx (dVar 0) (dLit (.int 0))) (dLst dNil) ρ st))
    (dSeq (dSet 2 (dCall gInt (dCons (dMeth0 mPop (dBin vIx (dVar 0) (dLit (.int 0)))) dNil)))
    (dSeq (dExpr (dMeth mAppend (dBin vIx (dVar 0) (dLit (.int 0))) (dCons (dBin vDiv (dVar 2) (dVar 1)) dNil)))
    (dRet (dBin vMod (dVar 2) (dVar 1)))))
    dEnd)
    (dSeq (dSetIx (dBin vMod (dCall gInt (dCons (dBin vAdd (dBin vMul (dBin vIx (dVar 0) (dLit (.int 1))) (dLit (.int 40693))) (dLit (.int 71))) dNil)) (dLit (.int 2147483647))) (dVar 0) (dLit (.int 1)))
    (dRet (dBin vMod (dCall gInt (dCons (dBin vDiv (dBin vIx (dVar 0) (dLit (.int 1))) (dLit (.int 64))) dNil)) (dVar 1))))))
noncomputable def F_l_any : Fn := dDef 3 B_l_any
theorem ok_l_any {P : Program} {w : World} {K : PySem.W.Frag} {mg : Str → Option Value} {base : Heap} {f : Addr} {fd : FuncData} (F : C8.Def K mg "_law_any" s_l_any f fd) (df : fd.defaults = .none) (z_int : mg "int" = none) : CalG P w K mg base 1 "_law_any" s_l_any ["deal", "bound"] 2 F_l_any := by
  have sc := sc_l_any
  refine calG_of (k := 0) (N := ["deal", "bound", "rest"]) (D := B_l_any) F df sc rfl (fun _ _ _ _ _ _ us hl => match us, hl with | [_, _], _ => rfl) (fun f cdv A outer s H E hg hr => ?_)
  exact (y_seq (y_while PassesOwn.never (y_and (y_tcmp (opNe rfl hr.units) (y_ix rfl (y_var (pv 0)) y_int) (y_lst y_nil) (nomark _)) (y_pw1 (y_tcmp (opEq rfl hr.units) (y_ix rfl (y_ix rfl (y_var (pv 0)) y_int) (y_un unNeg y_int)) y_int (nomark _)))).pt
    (y_last (y_expr (y_meth0 rfl PySem.F.plainAttrs_list PySem.F.slot_list_pop PySem.F.type_list_pop mtPop (y_ix rfl (y_var (pv 0)) y_int)))))
    (y_seq (y_ifS (y_tcmp (opNe rfl hr.units) (y_ix rfl (y_var (pv 0)) y_int) (y_lst y_nil) (nomark _))
    (y_seq (y_set (ps_set (i := 2) sc.nd rfl (.inl rfl) (y_callTy cInt (by rfl) z_int (by decide +kernel) (y_cons (y_meth0 rfl PySem.F.plainAttrs_list PySem.F.slot_list_pop PySem.F.type_list_pop mtPop (y_ix rfl (y_var (pv 0)) y_int)) y_nil))))
    (y_seq (y_expr (y_meth rfl PySem.F.plainAttrs_list PySem.F.slot_list_append PySem.F.type_list_append mtAppend (y_ix rfl (y_var (pv 0)) y_int) (y_cons (y_op opDiv (y_var (pv 2)) (y_var (pv 1))) y_nil)))
    (y_last (y_ret (y_op opMod (y_var (pv 2)) (y_var (pv 1)))))))
    y_end)
    (y_seq (y_setIx (y_op opMod (y_callTy cInt (by rfl) z_int (by decide +kernel) (y_cons (y_op (opAdd rfl) (y_op opMul (y_ix rfl (y_var (pv 0)) y_int) y_int) y_int) y_nil)) y_int) (y_var (pv 0)) y_int)
    (y_last (y_ret (y_op opMod (y_callTy cInt (by rfl) z_int (by decide +kernel) (y_cons (y_op opDiv (y_ix rfl (y_var (pv 0)) y_int) y_int) y_nil)) (y_var (pv 1))))))))
/-! ### _law_of -/
abbrev s_l_of : Stmt := topS 11
theorem sc_l_of : FnScope ["deal", "some"] ["deal", "some"] (C8.fnScope s_l_of) := C8.fnScope_by (by decide +kernel)
noncomputable def B_l_of : DS :=
  (dRet (dBin vIx (dVar 1) (dCal 2 F_l_any (dCons (dVar 0) (dCons (dCall gLen (dCons (dVar 1) dNil)) dNil)))))
noncomputable def F_l_of : Fn := dDef 2 B_l_of
theorem ok_l_of {P : Program} {w : World} {K : PySem.W.Frag} {mg : Str → Option Value} {base : Heap} {f : Addr} {fd : FuncData} (F : C8.Def K mg "_law_of" s_l_of f fd) (df : fd.defaults = .none) (z_len : mg "len" = none) (c_l_any : CalG P w K mg base 1 "_law_any" s_l_any ["deal", "bound"] 2 F_l_any) : CalG P w K mg base 2 "_law_of" s_l_of ["deal", "some"] 2 F_l_of := by
  have sc := sc_l_of
  refine calG_of (k := 1) (N := ["deal", "some"]) (D := B_l_of) F df sc rfl (fun _ _ _ _ _ _ us hl => match us, hl with | [_, _], _ => rfl) (fun f cdv A outer s H E hg hr => ?_)
  exact (y_last (y_ret (y_ix rfl (y_var (pv 1)) (y_cal rfl c_l_any hr (by decide) hg (by rfl) (y_cons (y_var (pv 0)) (y_cons (y_callB (cLen rfl) (by rfl) z_len (by decide +kernel) (y_cons (y_var (pv 1)) y_nil)) y_nil))))))
/-! ### _law_mixed -/
abbrev s_l_mixed : Stmt := topS 12
theorem sc_l_mixed : FnScope ["deal", "some", "left", "found"] ["deal", "some"] (C8.fnScope s_l_mixed) := C8.fnScope_by (by decide +kernel)
noncomputable def B_l_mixed : DS :=
  (dSeq (dPar 2 3 (dCons (dCall gListNew (dCons (dVar 1) dNil)) (dCons (dNew dNil) dNil)))
    (dSeq (dWhile (fun ρ st => asB (dBin (vEq true) (dVar 2) (dLst dNil) ρ st))
    (dExpr (dMeth mAppend (dVar 3) (dCons (dMeth mPopAt (dVar 2) (dCons (dCal 2 F_l_any (dCons (dVar 0) (dCons (dCall gLen (dCons (dVar 2) dNil)) dNil))) dNil)) dNil))))
    (dRet (dFz (dVar 3)))))
noncomputable def F_l_mixed : Fn := dDef 4 B_l_mixed
theorem ok_l_mixed {P : Program} {w : World} {K : PySem.W.Frag} {mg : Str → Option Value} {base : Heap} {f : Addr} {fd : FuncData} (F : C8.Def K mg "_law_mixed" s_l_mixed f fd) (df : fd.defaults = .none) (z_len : mg "len" = none) (z_list : mg "list" = none) (c_l_any : CalG P w K mg base 1 "_law_any" s_l_any ["deal", "bound"] 2 F_l_any) : CalG P w K mg base 2 "_law_mixed" s_l_mixed ["deal", "some"] 2 F_l_mixed := by
  have sc := sc_l_mixed
  refine calG_of (k := 1) (N := ["deal", "some", "left", "found"]) (D := B_l_mixed) F df sc rfl (fun _ _ _ _ _ _ us hl => match us, hl with | [_, _], _ => rfl) (fun f cdv A outer s H E hg hr => ?_)
  exact (y_seq (y_par (ps_par (i := 2) (j := 3) rfl sc.nd rfl rfl (by decide) rfl rfl (y_cons (y_callTy (cListNew rfl) (by rfl) z_list (by decide +kernel) (y_cons (y_var (pv 1)) y_nil)) (y_cons (y_new y_nil) y_nil)) (by rfl)))
    (y_seq (y_while PassesOwn.never (y_tcmp (opNe rfl hr.units) (y_var (pv 2)) (y_lst y_nil) (nomark _))
    (y_last (y_expr (y_meth rfl PySem.F.plainAttrs_list PySem.F.slot_list_append PySem.F.type_list_append mtAppend (y_var (pv 3)) (y_cons (y_meth rfl PySem.F.plainAttrs_list PySem.F.slot_list_pop PySem.F.type_list_pop mtPopAt (y_var (pv 2)) (y_cons (y_cal rfl c_l_any hr (by decide) hg (by rfl) (y_cons (y_var (pv 0)) (y_cons (y_callB (cLen rfl) (by rfl) z_len (by decide +kernel) (y_cons (y_var (pv 2)) y_nil)) y_nil))) y_nil)) y_nil)))))
    (y_last (y_ret (y_fz (y_var (pv 3)))))))
/-! ### _law_web -/
abbrev s_l_web : Stmt := topS 13
theorem sc_l_web : FnScope ["deal", "most", "n", "pairs", "row", "form", "size", "turn", "at", "pair"] ["deal", "most"] (C8.fnScope s_l_web) := C8.fnScope_by (by decide +kernel)
noncomputable def B_l_web : DS :=
  (dSeq (dPar 2 3 (dCons (dBin vAdd (dLit (.int 1)) (dCal 2 F_l_any (dCons (dVar 0) (dCons (dVar 1) dNil)))) (dCons (dNew dNil) dNil)))
    (dSeq (dSet 4 (dCal 2 F_l_mixed (dCons (dVar 0) (dCons (dListRng (dVar 2)) dNil))))
    (dSeq (dSet 5 (dCal 2 F_l_any (dCons (dVar 0) (dCons (dLit (.int 4)) dNil))))
    (dSeq (dIfS (fun ρ st => asB (dBin vLt (dVar 5) (dLit (.int 3)) ρ st))
    (dSet 3 (dLcN (dLc [8] (dRng1 (dCons (dBin vSub (dVar 2) (dLit (.int 1))) dNil)) (tName 8) (fun ρ st => asB (dBin vGt (dCal 2 F_l_any (dCons (dVar 0) (dCons (dLit (.int 8)) dNil))) (dLit (.int 0)) ρ st)) (dTup (dCons (dBin vIx (dVar 4) (dVar 8)) (dCons (dBin vIx (dVar 4) (dBin vAdd (dVar 8) (dLit (.int 1)))) dNil))))))
    dEnd)
    (dSeq (dIfS (dAnd (fun ρ st => asB (dBin (vEq false) (dVar 5) (dLit (.int 0)) ρ st)) (fun ρ st => asB (dBin vGt (dVar 2) (dLit (.int 2)) ρ st)))
    (dSeq (dSet 6 (dCal 2 F_l_of (dCons (dVar 0) (dCons (dLst (dCons (dLit (.int 3)) (dCons (dLit (.int 3)) (dCons (dLit (.int 5)) (dCons (dLit (.int 7)) (dCons (dVar 2) dNil)))))) dNil))))
    (dExpr (dMeth mAppend (dVar 3) (dCons (dTup (dCons (dBin vIx (dVar 4) (dLit (.int 0))) (dCons (dBin vIx (dVar 4) (dBin vSub (dCall gMin2 (dCons (dVar 6) (dCons (dVar 2) dNil))) (dLit (.int 1)))) dNil))) dNil))))
    dEnd)
    (dSeq (dFor (dRng1 (dCons (dIf (fun ρ st => asB (dBin vLt (dVar 5) (dLit (.int 3)) ρ st)) (dCal 2 F_l_any (dCons (dVar 0) (dCons (dBin vAdd (dVar 2) (dLit (.int 1))) dNil))) (dCal 2 F_l_any (dCons (dVar 0) (dCons (dBin vAdd (dBin vMul (dLit (.int 2)) (dVar 2)) (dLit (.int 1))) dNil)))) dNil)) (tName 7)
    (dExpr (dMeth mAppend (dVar 3) (dCons (dTup (dCons (dCal 2 F_l_any (dCons (dVar 0) (dCons (dVar 2) dNil))) (dCons (dCal 2 F_l_any (dCons (dVar 0) (dCons (dVar 2) dNil))) dNil))) dNil))))
    (dSeq (dFrz 3)
    (dRet (dTup (dCons (dVar 2) (dCons (dCall gTupleOf (dCons (dCall gSortedSet (dCons (dLcF (dLc [9] (dIter (dVar 3)) (tName 9) (fun ρ st => asB (dBin (vEq true) (dBin vIx (dVar 9) (dLit (.int 0))) (dBin vIx (dVar 9) (dLit (.int 1))) ρ st)) (dTup (dCons (dCall gMinT (dCons (dVar 9) dNil)) (dCons (dCall gMaxT (dCons (dVar 9) dNil)) dNil))))) dNil)) dNil)) dNil)))))))))))
noncomputable def F_l_web : Fn := dDef 10 B_l_web
theorem ok_l_web {P : Program} {w : World} {K : PySem.W.Frag} {mg : Str → Option Value} {base : Heap} {f : Addr} {fd : FuncData} (F : C8.Def K mg "_law_web" s_l_web f fd) (df : fd.defaults = .none) (z_list : mg "list" = none) (z_max : mg "max" = none) (z_min : mg "min" = none) (z_range : mg "range" = none) (z_set : mg "set" = none) (z_sorted : mg "sorted" = none) (z_tuple : mg "tuple" = none) (c_l_any : CalG P w K mg base 1 "_law_any" s_l_any ["deal", "bound"] 2 F_l_any) (c_l_mixed : CalG P w K mg base 2 "_law_mixed" s_l_mixed ["deal", "some"] 2 F_l_mixed) (c_l_of : CalG P w K mg base 2 "_law_of" s_l_of ["deal", "some"] 2 F_l_of) : CalG P w K mg base 3 "_law_web" s_l_web ["deal", "most"] 2 F_l_web := by
  have sc := sc_l_web
  refine calG_of (k := 2) (N := ["deal", "most", "n", "pairs", "row", "form", "size", "turn", "at", "pair"]) (D := B_l_web) F df sc rfl (fun _ _ _ _ _ _ us hl => match us, hl with | [_, _], _ => rfl) (fun f cdv A outer s H E hg hr => ?_)
  exact (y_seq (y_par (ps_par (i := 2) (j := 3) rfl sc.nd rfl rfl (by decide) rfl rfl (y_cons (y_op (opAdd rfl) y_int (y_cal rfl c_l_any hr (by decide) hg (by rfl) (y_cons (y_var (pv 0)) (y_cons (y_var (pv 1)) y_nil)))) (y_cons (y_new y_nil) y_nil)) (by rfl)))
    (y_seq (y_set (ps_set (i := 4) sc.nd rfl (.inr rfl) (y_cal rfl c_l_mixed hr (by decide) hg (by rfl) (y_cons (y_var (pv 0)) (y_cons (y_listRng rfl rfl (by rfl) z_list (by rfl) z_range (y_var (pv 2))) y_nil)))))
    (y_seq (y_set (ps_set (i := 5) sc.nd rfl (.inl rfl) (y_cal rfl c_l_any hr (by decide) hg (by rfl) (y_cons (y_var (pv 0)) (y_cons y_int y_nil)))))
    (y_seq (y_ifS (y_tcmp (opLt rfl hr.units0) (y_var (pv 5)) y_int (nomark _))
    (y_last (y_setLcN (i := 3) rfl sc.nd rfl rfl (sw_true rfl rfl rfl (by decide +kernel)) (y_rng1 (by rfl) z_range (y_cons (y_op opSub (y_var (pv 2)) y_int) y_nil)) (blkOk_by (own := [("at", 8)]) (by first | decide +kernel | kernel_rfl | rfl)) (fun _ _ _ _ _ => (y_gname (vs := [8]) (pg_name (i := 8) sc.nd rfl (.inl rfl)) (by decide))) (fun _ _ _ _ _ => pts_one (y_tcmp opGt (y_cal rfl c_l_any hr (by decide) hg (by rfl) (y_cons (y_var (pv 0)) (y_cons y_int y_nil))) y_int (nomark _))) (fun _ _ _ _ _ => (y_tup (y_cons (y_ix rfl (y_var (pv 4)) (y_var (pv 8))) (y_cons (y_ix rfl (y_var (pv 4)) (y_op (opAdd rfl) (y_var (pv 8)) y_int)) y_nil))))))
    y_end)
    (y_seq (y_ifS (y_and (y_tcmp (opEq rfl hr.units) (y_var (pv 5)) y_int (nomark _)) (y_pw1 (y_tcmp opGt (y_var (pv 2)) y_int (nomark _)))).pt
    (y_seq (y_set (ps_set (i := 6) sc.nd rfl (.inl rfl) (y_cal rfl c_l_of hr (by decide) hg (by rfl) (y_cons (y_var (pv 0)) (y_cons (y_lst (y_cons y_int (y_cons y_int (y_cons y_int (y_cons y_int (y_cons (y_var (pv 2)) y_nil)))))) y_nil)))))
    (y_last (y_expr (y_meth rfl PySem.F.plainAttrs_list PySem.F.slot_list_append PySem.F.type_list_append mtAppend (y_var (pv 3)) (y_cons (y_tup (y_cons (y_ix rfl (y_var (pv 4)) y_int) (y_cons (y_ix rfl (y_var (pv 4)) (y_op opSub (y_callB (cMin2 rfl) (by rfl) z_min (by decide +kernel) (y_cons (y_var (pv 6)) (y_cons (y_var (pv 2)) y_nil))) y_int)) y_nil))) y_nil)))))
    y_end)
    (y_seq (y_for (vs := [7]) PassesOwn.never rfl (y_rng1 (by rfl) z_range (y_cons (y_if (y_tcmp (opLt rfl hr.units0) (y_var (pv 5)) y_int (nomark _)) (y_cal rfl c_l_any hr (by decide) hg (by rfl) (y_cons (y_var (pv 0)) (y_cons (y_op (opAdd rfl) (y_var (pv 2)) y_int) y_nil))) (y_cal rfl c_l_any hr (by decide) hg (by rfl) (y_cons (y_var (pv 0)) (y_cons (y_op (opAdd rfl) (y_op opMul y_int (y_var (pv 2))) y_int) y_nil)))) y_nil)) (y_gname (vs := [7]) (pg_name (i := 7) sc.nd rfl (.inl rfl)) (by decide))
    (y_last (y_expr (y_meth rfl PySem.F.plainAttrs_list PySem.F.slot_list_append PySem.F.type_list_append mtAppend (y_var (pv 3)) (y_cons (y_tup (y_cons (y_cal rfl c_l_any hr (by decide) hg (by rfl) (y_cons (y_var (pv 0)) (y_cons (y_var (pv 2)) y_nil))) (y_cons (y_cal rfl c_l_any hr (by decide) hg (by rfl) (y_cons (y_var (pv 0)) (y_cons (y_var (pv 2)) y_nil))) y_nil))) y_nil)))))
    (y_frz (i := 3) (y_last (y_ret (y_tup (y_cons (y_var (pv 2)) (y_cons (y_callTy (cTupleOf rfl) (by rfl) z_tuple (by decide +kernel) (y_cons (y_sortedSet rfl rfl (u65 hr) (by rfl) z_sorted (by rfl) z_set (y_lcF rfl sc.nd (y_iter rfl (y_var (pv 3))) (blkOk_by (own := [("pair", 9)]) (by first | decide +kernel | kernel_rfl | rfl)) (fun _ _ _ _ _ => (y_gname (vs := [9]) (pg_name (i := 9) sc.nd rfl (.inl rfl)) (by decide))) (fun _ _ _ _ _ => pts_one (y_tcmp (opNe rfl hr.units) (y_ix rfl (y_var (pv 9)) y_int) (y_ix rfl (y_var (pv 9)) y_int) (nomark _))) (fun _ _ _ _ _ => (y_tup (y_cons (y_callB (cMinT rfl rfl hr.units) (by rfl) z_min (by decide +kernel) (y_cons (y_var (pv 9)) y_nil)) (y_cons (y_callB (cMaxT rfl rfl hr.units) (by rfl) z_max (by decide +kernel) (y_cons (y_var (pv 9)) y_nil)) y_nil)))))) y_nil)) y_nil))))))))))))
/-! ### _law_all_plans -/
abbrev s_l_all_plans : Stmt := topS 14
theorem sc_l_all_plans : FnScope ["web", "found", "pair", "plan", "one"] ["web"] (C8.fnScope s_l_all_plans) := C8.fnScope_by (by decide +kernel)
noncomputable def B_l_all_plans : DS :=
  (dSeq (dSet 1 (dLst (dCons (dTup dNil) dNil)))
    (dSeq (dFor (dIter (dBin vIx (dVar 0) (dLit (.int 1)))) (tName 2)
    (dSet 1 (dBin vAdd (dVar 1) (dLcF (dLc [3] (dIter (dVar 1)) (tName 3) (fun ρ st => asB (dBin (vEq false) (dLcF (dLc [4] (dIter (dVar 3)) (tName 4) (dOr (fun ρ st => asB (dBin (vIn false) (dBin vIx (dVar 4) (dLit (.int 0))) (dVar 2) ρ st)) (fun ρ st => asB (dBin (vIn false) (dBin vIx (dVar 4) (dLit (.int 1))) (dVar 2) ρ st))) (dVar 4))) (dLst dNil) ρ st)) (dBin vAdd (dVar 3) (dTup (dCons (dVar 2) dNil))))))))
    (dRet (dVar 1))))
noncomputable def F_l_all_plans : Fn := dDef 5 B_l_all_plans
theorem ok_l_all_plans {P : Program} {w : World} {K : PySem.W.Frag} {mg : Str → Option Value} {base : Heap} {f : Addr} {fd : FuncData} (F : C8.Def K mg "_law_all_plans" s_l_all_plans f fd) (df : fd.defaults = .none) : CalG P w K mg base 1 "_law_all_plans" s_l_all_plans ["web"] 1 F_l_all_plans := by
  have sc := sc_l_all_plans
  refine calG_of (k := 0) (N := ["web", "found", "pair", "plan", "one"]) (D := B_l_all_plans) F df sc rfl (fun _ _ _ _ _ _ us hl => match us, hl with | [_], _ => rfl) (fun f cdv A outer s H E hg hr => ?_)
  exact (y_seq (y_set (ps_set (i := 1) sc.nd rfl (.inl rfl) (y_lst (y_cons (y_tup y_nil) y_nil))))
    (y_seq (y_for (vs := [2]) PassesOwn.never rfl (y_iter rfl (y_ix rfl (y_var (pv 0)) y_int)) (y_gname (vs := [2]) (pg_name (i := 2) sc.nd rfl (.inr rfl)) (by decide))
    (y_last (y_set (ps_set (i := 1) sc.nd rfl (.inl rfl) (y_op (opAdd rfl) (y_var (pv 1)) (y_lcF rfl sc.nd (y_iter rfl (y_var (pv 1))) (blkOk_by (own := [("plan", 3)]) (by first | decide +kernel | kernel_rfl | rfl)) (fun _ _ _ _ _ => (y_gname (vs := [3]) (pg_name (i := 3) sc.nd rfl (.inl rfl)) (by decide))) (fun _ _ _ _ _ => pts_one (y_tcmp (opEq rfl hr.units) (y_lcF rfl sc.nd (y_iter rfl (y_var (pv 3))) (blkOk_by (own := [("one", 4)]) (by first | decide +kernel | kernel_rfl | rfl)) (fun _ _ _ _ _ => (y_gname (vs := [4]) (pg_name (i := 4) sc.nd rfl (.inl rfl)) (by decide))) (fun _ _ _ _ _ => pts_one (y_or (y_tcmp (opIn rfl (u65 hr)) (y_ix rfl (y_var (pv 4)) y_int) (y_var (pv 2)) (by rfl)) (y_pw1 (y_tcmp (opIn rfl (u65 hr)) (y_ix rfl (y_var (pv 4)) y_int) (y_var (pv 2)) (by rfl)))).pt) (fun _ _ _ _ _ => (y_var (pv 4)))) (y_lst y_nil) (nomark _))) (fun _ _ _ _ _ => (y_op (opAdd rfl) (y_var (pv 3)) (y_tup (y_cons (y_var (pv 2)) y_nil))))))))))
    (y_last (y_ret (y_var (pv 1))))))
/-! ### _law_parts -/
abbrev s_l_parts : Stmt := topS 15
theorem sc_l_parts : FnScope ["web", "lot", "marks", "turn", "one", "other", "head", "mark"] ["web", "lot"] (C8.fnScope s_l_parts) := C8.fnScope_by (by decide +kernel)
noncomputable def B_l_parts : DS :=
  (dSeq (dSet 2 (dLcN (dLc [4] (dRng1 (dCons (dBin vIx (dVar 0) (dLit (.int 0))) dNil)) (tName 4) (fun _ st => .ok true st) (dIf (fun ρ st => asB (dBin (vIn false) (dVar 4) (dVar 1) ρ st)) (dLit .none) (dVar 4)))))
    (dSeq (dFor (dRng1 (dCons (dBin vIx (dVar 0) (dLit (.int 0))) dNil)) (tName 3)
    (dFor (dIter (dBin vIx (dVar 0) (dLit (.int 1)))) (tTup' 2 (tCons' (tName 4) (tCons' (tName 5) tNil')))
    (dIfS (dAnd (fun ρ st => asB (dBin (vIs true) (dBin vIx (dVar 2) (dVar 4)) (dLit .none) ρ st)) (fun ρ st => asB (dBin (vIs true) (dBin vIx (dVar 2) (dVar 5)) (dLit .none) ρ st)))
    (dSeq (dSetIx (dCall gMin2 (dCons (dBin vIx (dVar 2) (dVar 4)) (dCons (dBin vIx (dVar 2) (dVar 5)) dNil))) (dVar 2) (dVar 4))
    (dSetIx (dBin vIx (dVar 2) (dVar 4)) (dVar 2) (dVar 5)))
    dEnd)))
    (dRet (dLcF (dLc [6] (dIter (dCall gSortedSetI (dCons (dLcF (dLcS [7] (dVar 2) (tName 7) (fun ρ st => asB (dBin (vIs true) (dVar 7) (dLit .none) ρ st)) (dVar 7))) dNil))) (tName 6) (fun _ st => .ok true st) (dCall gTupleOf (dCons (dLcF (dLc [4] (dRng1 (dCons (dBin vIx (dVar 0) (dLit (.int 0))) dNil)) (tName 4) (fun ρ st => asB (dBin (vEq false) (dBin vIx (dVar 2) (dVar 4)) (dVar 6) ρ st)) (dVar 4))) dNil)))))))
noncomputable def F_l_parts : Fn := dDef 8 B_l_parts
theorem ok_l_parts {P : Program} {w : World} {K : PySem.W.Frag} {mg : Str → Option Value} {base : Heap} {f : Addr} {fd : FuncData} (F : C8.Def K mg "_law_parts" s_l_parts f fd) (df : fd.defaults = .none) (z_min : mg "min" = none) (z_range : mg "range" = none) (z_set : mg "set" = none) (z_sorted : mg "sorted" = none) (z_tuple : mg "tuple" = none) : CalG P w K mg base 1 "_law_parts" s_l_parts ["web", "lot"] 2 F_l_parts := by
  have sc := sc_l_parts
  refine calG_of (k := 0) (N := ["web", "lot", "marks", "turn", "one", "other", "head", "mark"]) (D := B_l_parts) F df sc rfl (fun _ _ _ _ _ _ us hl => match us, hl with | [_, _], _ => rfl) (fun f cdv A outer s H E hg hr => ?_)
  exact (y_seq (y_set (ps_set (i := 2) sc.nd rfl (.inr rfl) (y_lcN rfl sc.nd (y_rng1 (by rfl) z_range (y_cons (y_ix rfl (y_var (pv 0)) y_int) y_nil)) (blkOk_by (own := [("one", 4)]) (by first | decide +kernel | kernel_rfl | rfl)) (fun _ _ _ _ _ => (y_gname (vs := [4]) (pg_name (i := 4) sc.nd rfl (.inl rfl)) (by decide))) (fun _ _ _ _ _ => y_yes) (fun _ _ _ _ _ => (y_if (y_tcmp (opIn rfl (u65 hr)) (y_var (pv 4)) (y_var (pv 1)) (by rfl)) y_non (y_var (pv 4)))))))
    (y_seq (y_for (vs := [3]) PassesOwn.never rfl (y_rng1 (by rfl) z_range (y_cons (y_ix rfl (y_var (pv 0)) y_int) y_nil)) (y_gname (vs := [3]) (pg_name (i := 3) sc.nd rfl (.inl rfl)) (by decide))
    (y_last (y_for (vs := [4, 5]) PassesOwn.never rfl (y_iter rfl (y_ix rfl (y_var (pv 0)) y_int)) (y_gtup rfl rfl (y_gcons (y_gname (vs := [4, 5]) (pg_name (i := 4) sc.nd rfl (.inl rfl)) (by decide)) (y_gcons (y_gname (vs := [4, 5]) (pg_name (i := 5) sc.nd rfl (.inl rfl)) (by decide)) y_gnil)))
    (y_last (y_ifS (y_and (y_tcmp (opIsNot rfl) (y_ix rfl (y_var (pv 2)) (y_var (pv 4))) y_non (nomark _)) (y_pw1 (y_tcmp (opIsNot rfl) (y_ix rfl (y_var (pv 2)) (y_var (pv 5))) y_non (nomark _)))).pt
    (y_seq (y_setIx (y_callB (cMin2 rfl) (by rfl) z_min (by decide +kernel) (y_cons (y_ix rfl (y_var (pv 2)) (y_var (pv 4))) (y_cons (y_ix rfl (y_var (pv 2)) (y_var (pv 5))) y_nil))) (y_var (pv 2)) (y_var (pv 4)))
    (y_last (y_setIx (y_ix rfl (y_var (pv 2)) (y_var (pv 4))) (y_var (pv 2)) (y_var (pv 5)))))
    y_end)))))
    (y_last (y_ret (y_lcF rfl sc.nd (y_iter rfl (y_sortedSetI rfl rfl (by rfl) z_sorted (by rfl) z_set (y_lcSF rfl rfl sc.nd (y_var (pv 2)) (blkOk_by (own := [("mark", 7)]) (by first | decide +kernel | kernel_rfl | rfl)) (fun _ _ _ _ _ => (y_gname (vs := [7]) (pg_name (i := 7) sc.nd rfl (.inl rfl)) (by decide))) (fun _ _ _ _ _ => pts_one (y_tcmp (opIsNot rfl) (y_var (pv 7)) y_non (nomark _))) (fun _ _ _ _ _ => (y_var (pv 7)))))) (blkOk_by (own := [("head", 6)]) (by first | decide +kernel | kernel_rfl | rfl)) (fun _ _ _ _ _ => (y_gname (vs := [6]) (pg_name (i := 6) sc.nd rfl (.inr rfl)) (by decide))) (fun _ _ _ _ _ => y_yes) (fun _ _ _ _ _ => (y_callTy (cTupleOf rfl) (by rfl) z_tuple (by decide +kernel) (y_cons (y_lcF rfl sc.nd (y_rng1 (by rfl) z_range (y_cons (y_ix rfl (y_var (pv 0)) y_int) y_nil)) (blkOk_by (own := [("one", 4)]) (by first | decide +kernel | kernel_rfl | rfl)) (fun _ _ _ _ _ => (y_gname (vs := [4]) (pg_name (i := 4) sc.nd rfl (.inl rfl)) (by decide))) (fun _ _ _ _ _ => pts_one (y_tcmp (opEq rfl hr.units) (y_ix rfl (y_var (pv 2)) (y_var (pv 4))) (y_var (pv 6)) (nomark _))) (fun _ _ _ _ _ => (y_var (pv 4)))) y_nil))))))))
/-! ### _law_odd -/
abbrev s_l_odd : Stmt := topS 16
theorem sc_l_odd : FnScope ["web", "lot", "part"] ["web", "lot"] (C8.fnScope s_l_odd) := C8.fnScope_by (by decide +kernel)
noncomputable def B_l_odd : DS :=
  (dRet (dLcF (dLc [2] (dIter (dCalP 2 F_l_parts (dCons (dVar 0) (dCons (dVar 1) dNil)))) (tName 2) (fun ρ st => asB (dBin (vEq false) (dBin vMod (dCall gInt (dCons (dCall gLen (dCons (dVar 2) dNil)) dNil)) (dLit (.int 2))) (dLit (.int 1)) ρ st)) (dVar 2))))
noncomputable def F_l_odd : Fn := dDef 3 B_l_odd
theorem ok_l_odd {P : Program} {w : World} {K : PySem.W.Frag} {mg : Str → Option Value} {base : Heap} {f : Addr} {fd : FuncData} (F : C8.Def K mg "_law_odd" s_l_odd f fd) (df : fd.defaults = .none) (z_int : mg "int" = none) (z_len : mg "len" = none) (c_l_parts : CalG P w K mg base 1 "_law_parts" s_l_parts ["web", "lot"] 2 F_l_parts) : CalG P w K mg base 2 "_law_odd" s_l_odd ["web", "lot"] 2 F_l_odd := by
  have sc := sc_l_odd
  refine calG_of (k := 1) (N := ["web", "lot", "part"]) (D := B_l_odd) F df sc rfl (fun _ _ _ _ _ _ us hl => match us, hl with | [_, _], _ => rfl) (fun f cdv A outer s H E hg hr => ?_)
  exact (y_last (y_ret (y_lcF rfl sc.nd (y_iter rfl (y_calP rfl c_l_parts hr (by decide) hg (by rfl) (y_cons (y_var (pv 0)) (y_cons (y_var (pv 1)) y_nil)))) (blkOk_by (own := [("part", 2)]) (by first | decide +kernel | kernel_rfl | rfl)) (fun _ _ _ _ _ => (y_gname (vs := [2]) (pg_name (i := 2) sc.nd rfl (.inl rfl)) (by decide))) (fun _ _ _ _ _ => pts_one (y_tcmp (opEq rfl hr.units) (y_op opMod (y_callTy cInt (by rfl) z_int (by decide +kernel) (y_cons (y_callB (cLen rfl) (by rfl) z_len (by decide +kernel) (y_cons (y_var (pv 2)) y_nil)) y_nil)) y_int) y_int (nomark _))) (fun _ _ _ _ _ => (y_var (pv 2))))))
/-! ### _law_all_lots -/
abbrev s_l_all_lots : Stmt := topS 17
theorem sc_l_all_lots : FnScope ["n", "found", "one", "lot"] ["n"] (C8.fnScope s_l_all_lots) := C8.fnScope_by (by decide +kernel)
noncomputable def B_l_all_lots : DS :=
  (dSeq (dSet 1 (dLst (dCons (dTup dNil) dNil)))
    (dSeq (dFor (dRng1 (dCons (dVar 0) dNil)) (tName 2)
    (dSet 1 (dBin vAdd (dVar 1) (dLcF (dLc [3] (dIter (dVar 1)) (tName 3) (fun _ st => .ok true st) (dBin vAdd (dVar 3) (dTup (dCons (dVar 2) dNil))))))))
    (dRet (dVar 1))))
noncomputable def F_l_all_lots : Fn := dDef 4 B_l_all_lots
theorem ok_l_all_lots {P : Program} {w : World} {K : PySem.W.Frag} {mg : Str → Option Value} {base : Heap} {f : Addr} {fd : FuncData} (F : C8.Def K mg "_law_all_lots" s_l_all_lots f fd) (df : fd.defaults = .none) (z_range : mg "range" = none) : CalG P w K mg base 1 "_law_all_lots" s_l_all_lots ["n"] 1 F_l_all_lots := by
  have sc := sc_l_all_lots
  refine calG_of (k := 0) (N := ["n", "found", "one", "lot"]) (D := B_l_all_lots) F df sc rfl (fun _ _ _ _ _ _ us hl => match us, hl with | [_], _ => rfl) (fun f cdv A outer s H E hg hr => ?_)
  exact (y_seq (y_set (ps_set (i := 1) sc.nd rfl (.inl rfl) (y_lst (y_cons (y_tup y_nil) y_nil))))
    (y_seq (y_for (vs := [2]) PassesOwn.never rfl (y_rng1 (by rfl) z_range (y_cons (y_var (pv 0)) y_nil)) (y_gname (vs := [2]) (pg_name (i := 2) sc.nd rfl (.inr rfl)) (by decide))
    (y_last (y_set (ps_set (i := 1) sc.nd rfl (.inl rfl) (y_op (opAdd rfl) (y_var (pv 1)) (y_lcF rfl sc.nd (y_iter rfl (y_var (pv 1))) (blkOk_by (own := [("lot", 3)]) (by first | decide +kernel | kernel_rfl | rfl)) (fun _ _ _ _ _ => (y_gname (vs := [3]) (pg_name (i := 3) sc.nd rfl (.inl rfl)) (by decide))) (fun _ _ _ _ _ => y_yes) (fun _ _ _ _ _ => (y_op (opAdd rfl) (y_var (pv 3)) (y_tup (y_cons (y_var (pv 2)) y_nil))))))))))
    (y_last (y_ret (y_var (pv 1))))))
/-! ### law -/
abbrev s_law : Stmt := topS 18
theorem sc_law : FnScope ["script", "deal", "web", "most", "greatest", "lot", "parts", "plan"] ["script"] (C8.fnScope s_law) := C8.fnScope_by (by decide +kernel)
noncomputable def B_law : DS :=
  (dSeq (dSet 1 (dCal 2 F_l_draw (dCons (dVar 0) (dCons (dLit (.int 16)) dNil))))
    (dSeq (dSet 2 (dCal 2 F_l_web (dCons (dVar 1) (dCons (dLit (.int 7)) dNil))))
    (dSeq (dPar 3 4 (dCons (dCall gMaxL (dCons (dLcF (dLc [7] (dIter (dCalP 1 F_l_all_plans (dCons (dVar 2) dNil))) (tName 7) (fun _ st => .ok true st) (dCall gLen (dCons (dVar 7) dNil)))) dNil)) (dCons (dUn vNeg (dLit (.int 9))) dNil)))
    (dSeq (dFor (dIter (dCalP 1 F_l_all_lots (dCons (dBin vIx (dVar 2) (dLit (.int 0))) dNil))) (tName 5)
    (dSeq (dSet 6 (dCalP 2 F_l_odd (dCons (dVar 2) (dCons (dVar 5) dNil))))
    (dSeq (dIfS (dOr (fun ρ st => asB (dBin (vEq true) (dCall gRepr (dCons (dCalP 2 F_odd_parts (dCons (dVar 2) (dCons (dVar 5) dNil))) dNil)) (dCall gRepr (dCons (dCall gTupleOf (dCons (dVar 6) dNil)) dNil)) ρ st)) (fun ρ st => asB (dBin (vEq true) (dCall gRepr (dCons (dCalP 2 F_spare_number (dCons (dVar 2) (dCons (dVar 5) dNil))) dNil)) (dCall gRepr (dCons (dBin vSub (dCall gLen (dCons (dVar 6) dNil)) (dCall gLen (dCons (dVar 5) dNil))) dNil)) ρ st)))
    (dRet (dLit (.bool false)))
    dEnd)
    (dSeq (dSet 4 (dCall gMax2 (dCons (dVar 4) (dCons (dCalP 2 (fun ws => F_spare_number (pick [1, 0] ws)) (dCons (dVar 5) (dCons (dVar 2) dNil))) dNil))))
    (dIfS (dAnd (fun ρ st => asB (dBin (vEq false) (dCal 2 F_l_any (dCons (dVar 1) (dCons (dLit (.int 9)) dNil))) (dLit (.int 0)) ρ st)) (fun ρ st => asB (dBin (vEq true) (dCall gRepr (dCons (dCalP 2 (fun ws => F_odd_parts (pick [1, 0] ws)) (dCons (dVar 5) (dCons (dVar 2) dNil))) dNil)) (dCall gRepr (dCons (dCall gTupleOf (dCons (dVar 6) dNil)) dNil)) ρ st)))
    (dRet (dLit (.bool false)))
    dEnd)))))
    (dRet (dBin (vEq false) (dVar 4) (dBin vSub (dBin vIx (dVar 2) (dLit (.int 0))) (dBin vMul (dLit (.int 2)) (dVar 3)))))))))
noncomputable def F_law : Fn := dDef 8 B_law
theorem ok_law {P : Program} {w : World} {K : PySem.W.Frag} {mg : Str → Option Value} {base : Heap} {f : Addr} {fd : FuncData} (F : C8.Def K mg "law" s_law f fd) (df : fd.defaults = .none) (z_len : mg "len" = none) (z_max : mg "max" = none) (z_repr : mg "repr" = none) (z_tuple : mg "tuple" = none) (c_l_draw : CalG P w K mg base 1 "_law_draw" s_l_draw ["script", "salt"] 2 F_l_draw) (c_l_web : CalG P w K mg base 3 "_law_web" s_l_web ["deal", "most"] 2 F_l_web) (c_l_all_plans : CalG P w K mg base 1 "_law_all_plans" s_l_all_plans ["web"] 1 F_l_all_plans) (c_l_all_lots : CalG P w K mg base 1 "_law_all_lots" s_l_all_lots ["n"] 1 F_l_all_lots) (c_l_odd : CalG P w K mg base 2 "_law_odd" s_l_odd ["web", "lot"] 2 F_l_odd) (c_odd_parts : CalG P w K mg base 3 "odd_parts" s_odd_parts ["web", "lot"] 2 F_odd_parts) (c_spare_number : CalG P w K mg base 4 "spare_number" s_spare_number ["web", "lot"] 2 F_spare_number) (c_l_any : CalG P w K mg base 1 "_law_any" s_l_any ["deal", "bound"] 2 F_l_any) : CalG P w K mg base 5 "law" s_law ["script"] 1 F_law := by
  have sc := sc_law
  refine calG_of (k := 4) (N := ["script", "deal", "web", "most", "greatest", "lot", "parts", "plan"]) (D := B_law) F df sc rfl (fun _ _ _ _ _ _ us hl => match us, hl with | [_], _ => rfl) (fun f cdv A outer s H E hg hr => ?_)
  exact (y_seq (y_set (ps_set (i := 1) sc.nd rfl (.inl rfl) (y_cal rfl c_l_draw hr (by decide) hg (by rfl) (y_cons (y_var (pv 0)) (y_cons y_int y_nil)))))
    (y_seq (y_set (ps_set (i := 2) sc.nd rfl (.inl rfl) (y_cal rfl c_l_web hr (by decide) hg (by rfl) (y_cons (y_var (pv 1)) (y_cons y_int y_nil)))))
    (y_seq (y_par (ps_par (i := 3) (j := 4) rfl sc.nd rfl rfl (by decide) rfl rfl (y_cons (y_callB (cMaxL rfl rfl) (by rfl) z_max (by decide +kernel) (y_cons (y_lcF rfl sc.nd (y_iter rfl (y_calP rfl c_l_all_plans hr (by decide) hg (by rfl) (y_cons (y_var (pv 2)) y_nil))) (blkOk_by (own := [("plan", 7)]) (by first | decide +kernel | kernel_rfl | rfl)) (fun _ _ _ _ _ => (y_gname (vs := [7]) (pg_name (i := 7) sc.nd rfl (.inl rfl)) (by decide))) (fun _ _ _ _ _ => y_yes) (fun _ _ _ _ _ => (y_callB (cLen rfl) (by rfl) z_len (by decide +kernel) (y_cons (y_var (pv 7)) y_nil)))) y_nil)) (y_cons (y_un unNeg y_int) y_nil)) (by rfl)))
    (y_seq (y_for (vs := [5]) PassesOwn.never rfl (y_iter rfl (y_calP rfl c_l_all_lots hr (by decide) hg (by rfl) (y_cons (y_ix rfl (y_var (pv 2)) y_int) y_nil))) (y_gname (vs := [5]) (pg_name (i := 5) sc.nd rfl (.inl rfl)) (by decide))
    (y_seq (y_set (ps_set (i := 6) sc.nd rfl (.inl rfl) (y_calP rfl c_l_odd hr (by decide) hg (by rfl) (y_cons (y_var (pv 2)) (y_cons (y_var (pv 5)) y_nil)))))
    (y_seq (y_ifS (y_or (y_tcmp (opNe rfl hr.units) (y_callB (cRepr rfl hg (u66 hr)) (by rfl) z_repr (by decide +kernel) (y_cons (y_calP rfl c_odd_parts hr (by decide) hg (by rfl) (y_cons (y_var (pv 2)) (y_cons (y_var (pv 5)) y_nil))) y_nil)) (y_callB (cRepr rfl hg (u66 hr)) (by rfl) z_repr (by decide +kernel) (y_cons (y_callTy (cTupleOf rfl) (by rfl) z_tuple (by decide +kernel) (y_cons (y_var (pv 6)) y_nil)) y_nil)) (nomark _)) (y_pw1 (y_tcmp (opNe rfl hr.units) (y_callB (cRepr rfl hg (u66 hr)) (by rfl) z_repr (by decide +kernel) (y_cons (y_calP rfl c_spare_number hr (by decide) hg (by rfl) (y_cons (y_var (pv 2)) (y_cons (y_var (pv 5)) y_nil))) y_nil)) (y_callB (cRepr rfl hg (u66 hr)) (by rfl) z_repr (by decide +kernel) (y_cons (y_op opSub (y_callB (cLen rfl) (by rfl) z_len (by decide +kernel) (y_cons (y_var (pv 6)) y_nil)) (y_callB (cLen rfl) (by rfl) z_len (by decide +kernel) (y_cons (y_var (pv 5)) y_nil))) y_nil)) (nomark _)))).pt
    (y_last (y_ret y_bl))
    y_end)
    (y_seq (y_set (ps_set (i := 4) sc.nd rfl (.inl rfl) (y_callB (cMax2 rfl) (by rfl) z_max (by decide +kernel) (y_cons (y_var (pv 4)) (y_cons (y_calK (pm := [1, 0]) rfl c_spare_number hr (by decide) hg (by rfl) (y_kcons (y_var (pv 5)) (y_kcons (y_var (pv 2)) y_knil)) (fun _ _ _ _ _ _ us hl => match us, hl with | [_, _], _ => rfl) (fun ws hl => match ws, hl with | [_, _], _ => rfl)) y_nil)))))
    (y_last (y_ifS (y_and (y_tcmp (opEq rfl hr.units) (y_cal rfl c_l_any hr (by decide) hg (by rfl) (y_cons (y_var (pv 1)) (y_cons y_int y_nil))) y_int (nomark _)) (y_pw1 (y_tcmp (opNe rfl hr.units) (y_callB (cRepr rfl hg (u66 hr)) (by rfl) z_repr (by decide +kernel) (y_cons (y_calK (pm := [1, 0]) rfl c_odd_parts hr (by decide) hg (by rfl) (y_kcons (y_var (pv 5)) (y_kcons (y_var (pv 2)) y_knil)) (fun _ _ _ _ _ _ us hl => match us, hl with | [_, _], _ => rfl) (fun ws hl => match ws, hl with | [_, _], _ => rfl)) y_nil)) (y_callB (cRepr rfl hg (u66 hr)) (by rfl) z_repr (by decide +kernel) (y_cons (y_callTy (cTupleOf rfl) (by rfl) z_tuple (by decide +kernel) (y_cons (y_var (pv 6)) y_nil)) y_nil)) (nomark _)))).pt
    (y_last (y_ret y_bl))
    y_end))))))
    (y_last (y_ret (y_cmp (opEq rfl hr.units) (y_var (pv 4)) (y_op opSub (y_ix rfl (y_var (pv 2)) y_int) (y_op opMul y_int (y_var (pv 3)))) (nomark _))))))))
end G

namespace G
open PySem PySem.Spec PyProof.Rows L2 Y BL
/-! ### the law of barriers -/
theorem any16 : F_l_any = F_any := rfl
theorem draw16 : F_l_draw = F_draw := rfl
theorem web16 : F_l_web = BL.F_l_web := rfl
theorem odd16 : F_odd_parts = BL.F_odd_parts := rfl
theorem spare16 : F_spare_number = BL.F_spare_number := rfl
theorem lodd16 : F_l_odd = BL.F_l_odd := rfl
theorem plans16 : F_l_all_plans = BL.F_l_all_plans := rfl
theorem lots16 : F_l_all_lots = BL.F_l_all_lots := rfl
def pairs7 : List E2 := (List.range 7).flatMap fun u => ((List.range 7).filter fun v => decide (u < v)).map fun v => (u, v)
theorem few7 {m : Nat} {es : List E2} (hm : m ≤ 7) (h : ∀ e ∈ es, e.1 < e.2 ∧ e.2 < m) (nd : es.Nodup) : es.length ≤ 21 := by
  have : pairs7.length = 21 := by decide
  rw [← this]
  refine BL.sub_len es pairs7 nd fun e he => ?_
  have := h e he
  exact List.mem_flatMap.mpr ⟨e.1, List.mem_range.mpr (by omega), List.mem_map.mpr ⟨e.2, List.mem_filter.mpr ⟨List.mem_range.mpr (by omega), decide_eq_true this.1⟩, rfl⟩⟩
theorem sm_lotN {m : Nat} {l : List Nat} (hm : m ≤ 20) (h : ∀ i ∈ l, i < m) (hl : l.length ≤ 20) : Sm 1 220 (lotD l) :=
  (Sm.tup (k := 0) (w := 10) (n := 20) (fun x hx => by
    obtain ⟨i, hi, rfl⟩ := List.mem_map.mp hx
    exact Sm.nat (by have := h i hi; omega)) (by rw [List.length_map]; exact hl)).up (by decide)
theorem sm_odds {m : Nat} {es : List E2} {l : List Nat} (hm : m ≤ 20) : Sm 2 4420 (.tuple ((oddPs m es l).map lotD)) := by
  have hl : (oddPs m es l).length ≤ m := by
    unfold oddPs
    exact Nat.le_trans (List.length_filter_le _ _) (cano_len _ _ _)
  refine (Sm.tup (k := 1) (w := 220) (n := 20) (fun x hx => ?_) (by rw [List.length_map]; omega)).up (by decide)
  obtain ⟨c, hc, rfl⟩ := List.mem_map.mp hx
  unfold oddPs cano at hc
  obtain ⟨h, hh, rfl⟩ := List.mem_map.mp (List.mem_filter.mp hc).1
  refine sm_lotN hm (fun i hi => (mem_part.mp hi).1) ?_
  unfold partOf
  exact Nat.le_trans (List.length_filter_le _ _) (by rw [List.length_range]; omega)
theorem F_law_ok (ns : List Int) (hns : ns.length ≤ 63) : ∃ st, F_law [.scr ns] [] = .ok (.d (.bool true)) st := by
  obtain ⟨s1, d1, d2⟩ := F_draw_ok ns 16 hns (by decide)
  obtain ⟨m, ps, s2, w1, w2, w3, w4⟩ := F_web_ok (t := 7) d2 (by decide) (by decide)
  obtain ⟨es, we, wn⟩ := w2.nat
  rw [we] at w1
  have hes := wn.lt
  have nd := wn.nd
  have few := few7 w3 hes nd
  have hb : (allP es).length ≤ 16000000 := Nat.le_trans (allP_pow es.length es rfl) (Nat.le_trans (Nat.pow_le_pow_right (by decide) few) (by decide))
  obtain ⟨M, hM⟩ := MB.mx_ex (adj := Adj es) (List.range m)
  obtain ⟨p0, pm, pe⟩ := plan_mx hes nd hM
  have g1 : (dSet 1 (dCal 2 F_l_draw (dCons (dVar 0) (dCons (dLit (.int 16)) dNil)))) [some (.scr ns), none, none, none, none, none, none, none] [] = .ok (.nx, [some (.scr ns), some (.ref 1), none, none, none, none, none, none]) s1 :=
    dSet_ok (dCal_ok (dCons_ok (dVar_ok rfl) (dCons1_ok rfl)) rfl d1)
  have g2 : (dSet 2 (dCal 2 F_l_web (dCons (dVar 1) (dCons (dLit (.int 7)) dNil)))) [some (.scr ns), some (.ref 1), none, none, none, none, none, none] s1 = .ok (.nx, [some (.scr ns), some (.ref 1), some (.d (webN m es)), none, none, none, none, none]) s2 :=
    dSet_ok (dCal_ok (dCons_ok (dVar_ok rfl) (dCons1_ok rfl)) rfl w1)
  -- the most
  have mx : gMaxL [.d (.list ((allP es).map fun p => nI p.length))] s2 = .ok (.d (nI p0.length)) s2 := by
    unfold gMaxL
    simp only [asD]
    have e : (allP es).map (fun p => nI p.length) = ((allP es).map fun p => ((p.length : Nat) : Int)).map .int := by rw [List.map_map]; rfl
    rw [e, asInts_map]
    generalize hL : (allP es).map (fun p => ((p.length : Nat) : Int)) = L
    have hin : ((p0.length : Nat) : Int) ∈ L := by rw [← hL]; exact List.mem_map.mpr ⟨p0, pm, rfl⟩
    have hle : ∀ y ∈ L, y ≤ ((p0.length : Nat) : Int) := fun y hy => by
      rw [← hL] at hy
      obtain ⟨p, hp, rfl⟩ := List.mem_map.mp hy
      have := plan_le hes nd hM hp
      omega
    cases L with
    | nil => cases hin
    | cons n ns =>
      simp only
      obtain ⟨f1, f2⟩ := foldl_max ns n
      have a := f2 _ hin
      have b := hle _ f1
      have : ns.foldl max n = ((p0.length : Nat) : Int) := by omega
      rw [this]
  have c3 := lcL_map (tg := tName 7) (fe := dCall gLen (dCons (dVar 7) dNil)) (ρ := [some (.scr ns), some (.ref 1), some (.d (webN m es)), none, none, none, none, none]) (s := s2) (emb := fun p => W.d (planD p)) (g := fun p => W.d (nI p.length)) (allP es) (fun p _ => ⟨[some (.scr ns), some (.ref 1), some (.d (webN m es)), none, none, none, none, some (.d (planD p))], rfl, dCall_ok (dCons1_ok (dVar_ok rfl)) gLen_tmap⟩)
  rw [← map_d planD, ← map_d fun p : List E2 => nI p.length] at c3
  have hline : (((allP es).map fun p : List E2 => nI p.length).map W.d).length ≤ sizeLine := by rw [List.length_map, List.length_map, sizeLine_eq]; omega
  have ap := all_plans_ok (m := m) (es := es) (by omega) hb
  rw [← plans16] at ap
  have g3 : (dPar 3 4 (dCons (dCall gMaxL (dCons (dLcF (dLc [7] (dIter (dCalP 1 F_l_all_plans (dCons (dVar 2) dNil))) (tName 7) (fun _ st => .ok true st) (dCall gLen (dCons (dVar 7) dNil)))) dNil)) (dCons (dUn vNeg (dLit (.int 9))) dNil))) [some (.scr ns), some (.ref 1), some (.d (webN m es)), none, none, none, none, none] s2 = .ok (.nx, [some (.scr ns), some (.ref 1), some (.d (webN m es)), some (.d (nI p0.length)), some (.d (.int (-9))), none, none, none]) s2 :=
    BL.dPar_ok (dCons_ok (dCall_ok (dCons1_ok (dLcF_ok (dLc_ok (vs := [7]) (dIter_ok (dCalP_ok (dCons1_ok (dVar_ok rfl)) rfl rfl ap) rfl) c3 hline))) mx) (dCons1_ok (dUn_ok rfl rfl)))
  have al := all_lots_ok (m := m) (by omega)
  rw [← lots16] at al
  have hm20 : m ≤ 20 := by omega
  obtain ⟨ρ', s3, f1, ⟨G, x, y, rfl, f2, f3⟩, f4⟩ := forL_ok (tg := tName 5) (body := (dSeq (dSet 6 (dCalP 2 F_l_odd (dCons (dVar 2) (dCons (dVar 5) dNil))))
    (dSeq (dIfS (dOr (fun ρ st => asB (dBin (vEq true) (dCall gRepr (dCons (dCalP 2 F_odd_parts (dCons (dVar 2) (dCons (dVar 5) dNil))) dNil)) (dCall gRepr (dCons (dCall gTupleOf (dCons (dVar 6) dNil)) dNil)) ρ st)) (fun ρ st => asB (dBin (vEq true) (dCall gRepr (dCons (dCalP 2 F_spare_number (dCons (dVar 2) (dCons (dVar 5) dNil))) dNil)) (dCall gRepr (dCons (dBin vSub (dCall gLen (dCons (dVar 6) dNil)) (dCall gLen (dCons (dVar 5) dNil))) dNil)) ρ st)))
    (dRet (dLit (.bool false)))
    dEnd)
    (dSeq (dSet 4 (dCall gMax2 (dCons (dVar 4) (dCons (dCalP 2 (fun ws => F_spare_number (pick [1, 0] ws)) (dCons (dVar 5) (dCons (dVar 2) dNil))) dNil))))
    (dIfS (dAnd (fun ρ st => asB (dBin (vEq false) (dCal 2 F_l_any (dCons (dVar 1) (dCons (dLit (.int 9)) dNil))) (dLit (.int 0)) ρ st)) (fun ρ st => asB (dBin (vEq true) (dCall gRepr (dCons (dCalP 2 (fun ws => F_odd_parts (pick [1, 0] ws)) (dCons (dVar 5) (dCons (dVar 2) dNil))) dNil)) (dCall gRepr (dCons (dCall gTupleOf (dCons (dVar 6) dNil)) dNil)) ρ st)))
    (dRet (dLit (.bool false)))
    dEnd))))) (emb := fun l => W.d (lotD l))
    (P := fun pre ρ s => (∃ (G : Int) (x y : Option W), ρ = [some (.scr ns), some (.ref 1), some (.d (webN m es)), some (.d (nI p0.length)), some (.d (.int G)), x, y, none] ∧ (∀ l ∈ pre, ((oddPs m es l).length : Int) - l.length ≤ G) ∧ (G = -9 ∨ ∃ l ∈ pre, G = ((oddPs m es l).length : Int) - l.length)) ∧ DealOk s 1 0) (allL m)
    (fun pre l post ρ s ea p => by
      obtain ⟨⟨G, x, y, rfl, p1, p2⟩, p3⟩ := p
      have hl : l ∈ allL m := by rw [ea]; simp
      have hls := allL_short hl
      have hol : (oddPs m es l).length ≤ m := by
        unfold oddPs
        exact Nat.le_trans (List.length_filter_le _ _) (cano_len _ _ _)
      have o1 := l_odd_ok (l := l) hes (by omega) (show m < 64 by omega)
      have o2 := odd_parts_ok (l := l) hes (by omega) (show m ≤ 1000 by omega)
      have o3 := spare_number_ok (l := l) hes (by omega) (show m ≤ 1000 by omega)
      rw [← lodd16] at o1
      rw [← odd16] at o2
      rw [← spare16] at o3
      obtain ⟨j, s4, a1, a2, a3, a4⟩ := any_ok (k := 9) p3 (by decide) (by decide)
      have a1 : F_l_any [.ref 1, .d (.int 9)] s = .ok (I j) s4 := a1
      generalize hG' : (if ((oddPs m es l).length : Int) - l.length > G then ((oddPs m es l).length : Int) - l.length else G) = G'
      have e1 : (dSet 6 (dCalP 2 F_l_odd (dCons (dVar 2) (dCons (dVar 5) dNil)))) [some (.scr ns), some (.ref 1), some (.d (webN m es)), some (.d (nI p0.length)), some (.d (.int G)), some (.d (lotD l)), y, none] s = .ok (.nx, [some (.scr ns), some (.ref 1), some (.d (webN m es)), some (.d (nI p0.length)), some (.d (.int G)), some (.d (lotD l)), some (.d (.list ((oddPs m es l).map lotD))), none]) s :=
        dSet_ok (dCalP_ok (dCons_ok (dVar_ok rfl) (dCons1_ok (dVar_ok rfl))) rfl rfl o1)
      have t1 : dOr (fun ρ st => asB (dBin (vEq true) (dCall gRepr (dCons (dCalP 2 F_odd_parts (dCons (dVar 2) (dCons (dVar 5) dNil))) dNil)) (dCall gRepr (dCons (dCall gTupleOf (dCons (dVar 6) dNil)) dNil)) ρ st)) (fun ρ st => asB (dBin (vEq true) (dCall gRepr (dCons (dCalP 2 F_spare_number (dCons (dVar 2) (dCons (dVar 5) dNil))) dNil)) (dCall gRepr (dCons (dBin vSub (dCall gLen (dCons (dVar 6) dNil)) (dCall gLen (dCons (dVar 5) dNil))) dNil)) ρ st)) [some (.scr ns), some (.ref 1), some (.d (webN m es)), some (.d (nI p0.length)), some (.d (.int G)), some (.d (lotD l)), some (.d (.list ((oddPs m es l).map lotD))), none] s = .ok false s :=
        or_ok (b := false) (b' := false) (ne_repr (sm_odds hm20) (by decide) (by decide) (dCalP_ok (dCons_ok (dVar_ok rfl) (dCons1_ok (dVar_ok rfl))) rfl rfl o2) (dCall_ok (dCons1_ok (dVar_ok rfl)) tupleOf_list))
          (ne_repr (k := 0) (Sm.int (i := ((oddPs m es l).length : Int) - l.length) (by omega)) (by decide) (by decide) (dCalP_ok (dCons_ok (dVar_ok rfl) (dCons1_ok (dVar_ok rfl))) rfl rfl o3) (dBin_ok (dCall_ok (dCons1_ok (dVar_ok rfl)) gLen_map) (dCall_ok (dCons1_ok (dVar_ok rfl)) gLen_tmap) rfl))
      have e2 : (dSet 4 (dCall gMax2 (dCons (dVar 4) (dCons (dCalP 2 (fun ws => F_spare_number (pick [1, 0] ws)) (dCons (dVar 5) (dCons (dVar 2) dNil))) dNil)))) [some (.scr ns), some (.ref 1), some (.d (webN m es)), some (.d (nI p0.length)), some (.d (.int G)), some (.d (lotD l)), some (.d (.list ((oddPs m es l).map lotD))), none] s = .ok (.nx, [some (.scr ns), some (.ref 1), some (.d (webN m es)), some (.d (nI p0.length)), some (.d (.int G')), some (.d (lotD l)), some (.d (.list ((oddPs m es l).map lotD))), none]) s := by
        refine dSet_ok (w := .d (.int G')) (dCall_ok (dCons_ok (dVar_ok rfl) (dCons1_ok (dCalP_ok (F := fun ws => F_spare_number (pick [1, 0] ws)) (dCons_ok (dVar_ok rfl) (dCons1_ok (dVar_ok rfl))) rfl rfl o3))) ?_)
        simp only [gMax2]
        rw [hG']
      have t2 : dAnd (fun ρ st => asB (dBin (vEq false) (dCal 2 F_l_any (dCons (dVar 1) (dCons (dLit (.int 9)) dNil))) (dLit (.int 0)) ρ st)) (fun ρ st => asB (dBin (vEq true) (dCall gRepr (dCons (dCalP 2 (fun ws => F_odd_parts (pick [1, 0] ws)) (dCons (dVar 5) (dCons (dVar 2) dNil))) dNil)) (dCall gRepr (dCons (dCall gTupleOf (dCons (dVar 6) dNil)) dNil)) ρ st)) [some (.scr ns), some (.ref 1), some (.d (webN m es)), some (.d (nI p0.length)), some (.d (.int G')), some (.d (lotD l)), some (.d (.list ((oddPs m es l).map lotD))), none] s = .ok false s4 := by
        have q1 : asB (dBin (vEq false) (dCal 2 F_l_any (dCons (dVar 1) (dCons (dLit (.int 9)) dNil))) (dLit (.int 0)) [some (.scr ns), some (.ref 1), some (.d (webN m es)), some (.d (nI p0.length)), some (.d (.int G')), some (.d (lotD l)), some (.d (.list ((oddPs m es l).map lotD))), none] s) = .ok (decide ((j : Int) = 0)) s4 :=
          asB_ok (dBin_ok (dCal_ok (dCons_ok (dVar_ok rfl) (dCons1_ok rfl)) rfl a1) rfl vEq_int)
        cases hj : decide ((j : Int) = 0) with
        | true =>
          rw [hj] at q1
          exact dAnd_t q1 (ne_repr (sm_odds hm20) (by decide) (by decide) (dCalP_ok (F := fun ws => F_odd_parts (pick [1, 0] ws)) (dCons_ok (dVar_ok rfl) (dCons1_ok (dVar_ok rfl))) rfl rfl o2) (dCall_ok (dCons1_ok (dVar_ok rfl)) tupleOf_list))
        | false =>
          rw [hj] at q1
          exact dAnd_f q1
      refine ⟨_, s, _, s4, rfl, to e1 (to (dIfS_f t1 rfl) (to e2 (dIfS_f t2 rfl))), ⟨G', _, _, rfl, fun k hk => ?_, ?_⟩, a3.ok⟩
      · rcases List.mem_append.mp hk with h | h
        · have := p1 k h
          rw [← hG']
          split <;> omega
        · rw [List.mem_singleton.mp h, ← hG']
          split <;> omega
      · rw [← hG']
        split
        · exact .inr ⟨l, by simp, rfl⟩
        · rcases p2 with h | ⟨k, h1, h2⟩
          · exact .inl h
          · exact .inr ⟨k, List.mem_append_left _ h1, h2⟩)
    (ρ := [some (.scr ns), some (.ref 1), some (.d (webN m es)), some (.d (nI p0.length)), some (.d (.int (-9))), none, none, none]) (s := s2) ⟨⟨-9, none, none, rfl, (fun _ z => nomatch z), .inl rfl⟩, w4⟩
  rw [← map_d lotD] at f1
  have fin : G = (m : Int) - 2 * (p0.length : Int) := by
    obtain ⟨l, l1, l2⟩ := spare_ge hes hM
    have q1 := f2 l l1
    rcases f3 with h | ⟨k, k1, k2⟩
    · omega
    · have q2 := spare_le hes hM k1
      omega
  refine ⟨s3, dDef_rt (ρ' := [some (.scr ns), some (.ref 1), some (.d (webN m es)), some (.d (nI p0.length)), some (.d (.int G)), x, y, none]) (to g1 (to g2 (to g3 (to (dFor_ok (dIter_ok (dCalP_ok (dCons1_ok (dBin_ok (dVar_ok rfl) rfl (vIx_tup (j := 0) rfl))) rfl rfl al) rfl) f1) (dRet_ok (dBin_ok (dVar_ok rfl) (dBin_ok (dBin_ok (dVar_ok rfl) rfl (vIx_tup (j := 0) rfl)) (dBin_ok rfl (dVar_ok rfl) (vMulR (by omega))) rfl) ?_))))))⟩
  rw [vEq_int, fin, decide_eq_true rfl]
end G

namespace G
open PySem PySem.Spec PyProof.Rows L2 Y
theorem all_mk {P : Program} {w : World} {K : PySem.W.Frag} {h : Heap} {mg : Str → Option Value} (X : K.In h) (G : h.Ns mainGlobals mg)
    {f0 : Addr} {od0 an0 : Option Addr} {sl0 : Array (Option Value)} {oc0 kV0 dc0 pm0 cd0 ct0 : Value}
    (a0 : PySem.W.nsIn K mainGlobals "rows_of" = some (some (.ref f0))) (l0 : K.lookup f0 = some ⟨oc0, od0, .func (PySem.W.fnOf "rows_of" "rows_of" (C8.fnArgs s_rows_of) (C8.fnBody s_rows_of) (C8.fnScope s_rows_of) .none kV0 dc0 pm0 an0 cd0 ct0), sl0⟩) (c0 : PySem.W.codeIn K cd0 "rows_of" = true) (k0 : PySem.W.keepIn K (.ref f0) = true)
    {f1 : Addr} {od1 an1 : Option Addr} {sl1 : Array (Option Value)} {oc1 kV1 dc1 pm1 cd1 ct1 : Value}
    (a1 : PySem.W.nsIn K mainGlobals "without" = some (some (.ref f1))) (l1 : K.lookup f1 = some ⟨oc1, od1, .func (PySem.W.fnOf "without" "without" (C8.fnArgs s_without) (C8.fnBody s_without) (C8.fnScope s_without) .none kV1 dc1 pm1 an1 cd1 ct1), sl1⟩) (c1 : PySem.W.codeIn K cd1 "without" = true) (k1 : PySem.W.keepIn K (.ref f1) = true)
    {f2 : Addr} {od2 an2 : Option Addr} {sl2 : Array (Option Value)} {oc2 kV2 dc2 pm2 cd2 ct2 : Value}
    (a2 : PySem.W.nsIn K mainGlobals "_part_of" = some (some (.ref f2))) (l2 : K.lookup f2 = some ⟨oc2, od2, .func (PySem.W.fnOf "_part_of" "_part_of" (C8.fnArgs s_part_of) (C8.fnBody s_part_of) (C8.fnScope s_part_of) .none kV2 dc2 pm2 an2 cd2 ct2), sl2⟩) (c2 : PySem.W.codeIn K cd2 "_part_of" = true) (k2 : PySem.W.keepIn K (.ref f2) = true)
    {f3 : Addr} {od3 an3 : Option Addr} {sl3 : Array (Option Value)} {oc3 kV3 dc3 pm3 cd3 ct3 : Value}
    (a3 : PySem.W.nsIn K mainGlobals "parts_left" = some (some (.ref f3))) (l3 : K.lookup f3 = some ⟨oc3, od3, .func (PySem.W.fnOf "parts_left" "parts_left" (C8.fnArgs s_parts_left) (C8.fnBody s_parts_left) (C8.fnScope s_parts_left) .none kV3 dc3 pm3 an3 cd3 ct3), sl3⟩) (c3 : PySem.W.codeIn K cd3 "parts_left" = true) (k3 : PySem.W.keepIn K (.ref f3) = true)
    {f4 : Addr} {od4 an4 : Option Addr} {sl4 : Array (Option Value)} {oc4 kV4 dc4 pm4 cd4 ct4 : Value}
    (a4 : PySem.W.nsIn K mainGlobals "odd_parts" = some (some (.ref f4))) (l4 : K.lookup f4 = some ⟨oc4, od4, .func (PySem.W.fnOf "odd_parts" "odd_parts" (C8.fnArgs s_odd_parts) (C8.fnBody s_odd_parts) (C8.fnScope s_odd_parts) .none kV4 dc4 pm4 an4 cd4 ct4), sl4⟩) (c4 : PySem.W.codeIn K cd4 "odd_parts" = true) (k4 : PySem.W.keepIn K (.ref f4) = true)
    {f5 : Addr} {od5 an5 : Option Addr} {sl5 : Array (Option Value)} {oc5 kV5 dc5 pm5 cd5 ct5 : Value}
    (a5 : PySem.W.nsIn K mainGlobals "spare_number" = some (some (.ref f5))) (l5 : K.lookup f5 = some ⟨oc5, od5, .func (PySem.W.fnOf "spare_number" "spare_number" (C8.fnArgs s_spare_number) (C8.fnBody s_spare_number) (C8.fnScope s_spare_number) .none kV5 dc5 pm5 an5 cd5 ct5), sl5⟩) (c5 : PySem.W.codeIn K cd5 "spare_number" = true) (k5 : PySem.W.keepIn K (.ref f5) = true)
    {f6 : Addr} {od6 an6 : Option Addr} {sl6 : Array (Option Value)} {oc6 kV6 dc6 pm6 cd6 ct6 : Value}
    (a6 : PySem.W.nsIn K mainGlobals "_law_draw" = some (some (.ref f6))) (l6 : K.lookup f6 = some ⟨oc6, od6, .func (PySem.W.fnOf "_law_draw" "_law_draw" (C8.fnArgs s_l_draw) (C8.fnBody s_l_draw) (C8.fnScope s_l_draw) .none kV6 dc6 pm6 an6 cd6 ct6), sl6⟩) (c6 : PySem.W.codeIn K cd6 "_law_draw" = true) (k6 : PySem.W.keepIn K (.ref f6) = true)
    {f7 : Addr} {od7 an7 : Option Addr} {sl7 : Array (Option Value)} {oc7 kV7 dc7 pm7 cd7 ct7 : Value}
    (a7 : PySem.W.nsIn K mainGlobals "_law_any" = some (some (.ref f7))) (l7 : K.lookup f7 = some ⟨oc7, od7, .func (PySem.W.fnOf "_law_any" "_law_any" (C8.fnArgs s_l_any) (C8.fnBody s_l_any) (C8.fnScope s_l_any) .none kV7 dc7 pm7 an7 cd7 ct7), sl7⟩) (c7 : PySem.W.codeIn K cd7 "_law_any" = true) (k7 : PySem.W.keepIn K (.ref f7) = true)
    {f8 : Addr} {od8 an8 : Option Addr} {sl8 : Array (Option Value)} {oc8 kV8 dc8 pm8 cd8 ct8 : Value}
    (a8 : PySem.W.nsIn K mainGlobals "_law_of" = some (some (.ref f8))) (l8 : K.lookup f8 = some ⟨oc8, od8, .func (PySem.W.fnOf "_law_of" "_law_of" (C8.fnArgs s_l_of) (C8.fnBody s_l_of) (C8.fnScope s_l_of) .none kV8 dc8 pm8 an8 cd8 ct8), sl8⟩) (c8 : PySem.W.codeIn K cd8 "_law_of" = true) (k8 : PySem.W.keepIn K (.ref f8) = true)
    {f9 : Addr} {od9 an9 : Option Addr} {sl9 : Array (Option Value)} {oc9 kV9 dc9 pm9 cd9 ct9 : Value}
    (a9 : PySem.W.nsIn K mainGlobals "_law_mixed" = some (some (.ref f9))) (l9 : K.lookup f9 = some ⟨oc9, od9, .func (PySem.W.fnOf "_law_mixed" "_law_mixed" (C8.fnArgs s_l_mixed) (C8.fnBody s_l_mixed) (C8.fnScope s_l_mixed) .none kV9 dc9 pm9 an9 cd9 ct9), sl9⟩) (c9 : PySem.W.codeIn K cd9 "_law_mixed" = true) (k9 : PySem.W.keepIn K (.ref f9) = true)
    {f10 : Addr} {od10 an10 : Option Addr} {sl10 : Array (Option Value)} {oc10 kV10 dc10 pm10 cd10 ct10 : Value}
    (a10 : PySem.W.nsIn K mainGlobals "_law_web" = some (some (.ref f10))) (l10 : K.lookup f10 = some ⟨oc10, od10, .func (PySem.W.fnOf "_law_web" "_law_web" (C8.fnArgs s_l_web) (C8.fnBody s_l_web) (C8.fnScope s_l_web) .none kV10 dc10 pm10 an10 cd10 ct10), sl10⟩) (c10 : PySem.W.codeIn K cd10 "_law_web" = true) (k10 : PySem.W.keepIn K (.ref f10) = true)
    {f11 : Addr} {od11 an11 : Option Addr} {sl11 : Array (Option Value)} {oc11 kV11 dc11 pm11 cd11 ct11 : Value}
    (a11 : PySem.W.nsIn K mainGlobals "_law_all_plans" = some (some (.ref f11))) (l11 : K.lookup f11 = some ⟨oc11, od11, .func (PySem.W.fnOf "_law_all_plans" "_law_all_plans" (C8.fnArgs s_l_all_plans) (C8.fnBody s_l_all_plans) (C8.fnScope s_l_all_plans) .none kV11 dc11 pm11 an11 cd11 ct11), sl11⟩) (c11 : PySem.W.codeIn K cd11 "_law_all_plans" = true) (k11 : PySem.W.keepIn K (.ref f11) = true)
    {f12 : Addr} {od12 an12 : Option Addr} {sl12 : Array (Option Value)} {oc12 kV12 dc12 pm12 cd12 ct12 : Value}
    (a12 : PySem.W.nsIn K mainGlobals "_law_parts" = some (some (.ref f12))) (l12 : K.lookup f12 = some ⟨oc12, od12, .func (PySem.W.fnOf "_law_parts" "_law_parts" (C8.fnArgs s_l_parts) (C8.fnBody s_l_parts) (C8.fnScope s_l_parts) .none kV12 dc12 pm12 an12 cd12 ct12), sl12⟩) (c12 : PySem.W.codeIn K cd12 "_law_parts" = true) (k12 : PySem.W.keepIn K (.ref f12) = true)
    {f13 : Addr} {od13 an13 : Option Addr} {sl13 : Array (Option Value)} {oc13 kV13 dc13 pm13 cd13 ct13 : Value}
    (a13 : PySem.W.nsIn K mainGlobals "_law_odd" = some (some (.ref f13))) (l13 : K.lookup f13 = some ⟨oc13, od13, .func (PySem.W.fnOf "_law_odd" "_law_odd" (C8.fnArgs s_l_odd) (C8.fnBody s_l_odd) (C8.fnScope s_l_odd) .none kV13 dc13 pm13 an13 cd13 ct13), sl13⟩) (c13 : PySem.W.codeIn K cd13 "_law_odd" = true) (k13 : PySem.W.keepIn K (.ref f13) = true)
    {f14 : Addr} {od14 an14 : Option Addr} {sl14 : Array (Option Value)} {oc14 kV14 dc14 pm14 cd14 ct14 : Value}
    (a14 : PySem.W.nsIn K mainGlobals "_law_all_lots" = some (some (.ref f14))) (l14 : K.lookup f14 = some ⟨oc14, od14, .func (PySem.W.fnOf "_law_all_lots" "_law_all_lots" (C8.fnArgs s_l_all_lots) (C8.fnBody s_l_all_lots) (C8.fnScope s_l_all_lots) .none kV14 dc14 pm14 an14 cd14 ct14), sl14⟩) (c14 : PySem.W.codeIn K cd14 "_law_all_lots" = true) (k14 : PySem.W.keepIn K (.ref f14) = true)
    {f15 : Addr} {od15 an15 : Option Addr} {sl15 : Array (Option Value)} {oc15 kV15 dc15 pm15 cd15 ct15 : Value}
    (a15 : PySem.W.nsIn K mainGlobals "law" = some (some (.ref f15))) (l15 : K.lookup f15 = some ⟨oc15, od15, .func (PySem.W.fnOf "law" "law" (C8.fnArgs s_law) (C8.fnBody s_law) (C8.fnScope s_law) .none kV15 dc15 pm15 an15 cd15 ct15), sl15⟩) (c15 : PySem.W.codeIn K cd15 "law" = true) (k15 : PySem.W.keepIn K (.ref f15) = true)
    (y_abs : PySem.W.nsIn K mainGlobals "abs" = some none)
    (y_int : PySem.W.nsIn K mainGlobals "int" = some none)
    (y_len : PySem.W.nsIn K mainGlobals "len" = some none)
    (y_list : PySem.W.nsIn K mainGlobals "list" = some none)
    (y_max : PySem.W.nsIn K mainGlobals "max" = some none)
    (y_min : PySem.W.nsIn K mainGlobals "min" = some none)
    (y_range : PySem.W.nsIn K mainGlobals "range" = some none)
    (y_repr : PySem.W.nsIn K mainGlobals "repr" = some none)
    (y_set : PySem.W.nsIn K mainGlobals "set" = some none)
    (y_sorted : PySem.W.nsIn K mainGlobals "sorted" = some none)
    (y_tuple : PySem.W.nsIn K mainGlobals "tuple" = some none)
    (base : Heap) : CalG P w K mg base 5 "law" s_law ["script"] 1 F_law := by
  have h_rows_of := ok_rows_of (P := P) (w := w) (K := K) (mg := mg) (base := base) ⟨⟨oc0, od0, .none, kV0, dc0, pm0, an0, cd0, ct0, sl0, rfl, l0, c0⟩, PySem.W.mg_of X G a0, k0⟩ rfl (PySem.W.mg_none_of X G y_range)
  have h_without := ok_without (P := P) (w := w) (K := K) (mg := mg) (base := base) ⟨⟨oc1, od1, .none, kV1, dc1, pm1, an1, cd1, ct1, sl1, rfl, l1, c1⟩, PySem.W.mg_of X G a1, k1⟩ rfl (PySem.W.mg_none_of X G y_tuple)
  have h_part_of := ok_part_of (P := P) (w := w) (K := K) (mg := mg) (base := base) ⟨⟨oc2, od2, .none, kV2, dc2, pm2, an2, cd2, ct2, sl2, rfl, l2, c2⟩, PySem.W.mg_of X G a2, k2⟩ rfl (PySem.W.mg_none_of X G y_sorted) (PySem.W.mg_none_of X G y_tuple)
  have h_parts_left := ok_parts_left (P := P) (w := w) (K := K) (mg := mg) (base := base) ⟨⟨oc3, od3, .none, kV3, dc3, pm3, an3, cd3, ct3, sl3, rfl, l3, c3⟩, PySem.W.mg_of X G a3, k3⟩ rfl (PySem.W.mg_none_of X G y_range) h_rows_of h_without h_part_of
  have h_odd_parts := ok_odd_parts (P := P) (w := w) (K := K) (mg := mg) (base := base) ⟨⟨oc4, od4, .none, kV4, dc4, pm4, an4, cd4, ct4, sl4, rfl, l4, c4⟩, PySem.W.mg_of X G a4, k4⟩ rfl (PySem.W.mg_none_of X G y_len) (PySem.W.mg_none_of X G y_tuple) h_parts_left
  have h_spare_number := ok_spare_number (P := P) (w := w) (K := K) (mg := mg) (base := base) ⟨⟨oc5, od5, .none, kV5, dc5, pm5, an5, cd5, ct5, sl5, rfl, l5, c5⟩, PySem.W.mg_of X G a5, k5⟩ rfl (PySem.W.mg_none_of X G y_len) h_odd_parts
  have h_l_draw := ok_l_draw (P := P) (w := w) (K := K) (mg := mg) (base := base) ⟨⟨oc6, od6, .none, kV6, dc6, pm6, an6, cd6, ct6, sl6, rfl, l6, c6⟩, PySem.W.mg_of X G a6, k6⟩ rfl (PySem.W.mg_none_of X G y_abs) (PySem.W.mg_none_of X G y_int)
  have h_l_any := ok_l_any (P := P) (w := w) (K := K) (mg := mg) (base := base) ⟨⟨oc7, od7, .none, kV7, dc7, pm7, an7, cd7, ct7, sl7, rfl, l7, c7⟩, PySem.W.mg_of X G a7, k7⟩ rfl (PySem.W.mg_none_of X G y_int)
  have h_l_of := ok_l_of (P := P) (w := w) (K := K) (mg := mg) (base := base) ⟨⟨oc8, od8, .none, kV8, dc8, pm8, an8, cd8, ct8, sl8, rfl, l8, c8⟩, PySem.W.mg_of X G a8, k8⟩ rfl (PySem.W.mg_none_of X G y_len) h_l_any
  have h_l_mixed := ok_l_mixed (P := P) (w := w) (K := K) (mg := mg) (base := base) ⟨⟨oc9, od9, .none, kV9, dc9, pm9, an9, cd9, ct9, sl9, rfl, l9, c9⟩, PySem.W.mg_of X G a9, k9⟩ rfl (PySem.W.mg_none_of X G y_len) (PySem.W.mg_none_of X G y_list) h_l_any
  have h_l_web := ok_l_web (P := P) (w := w) (K := K) (mg := mg) (base := base) ⟨⟨oc10, od10, .none, kV10, dc10, pm10, an10, cd10, ct10, sl10, rfl, l10, c10⟩, PySem.W.mg_of X G a10, k10⟩ rfl (PySem.W.mg_none_of X G y_list) (PySem.W.mg_none_of X G y_max) (PySem.W.mg_none_of X G y_min) (PySem.W.mg_none_of X G y_range) (PySem.W.mg_none_of X G y_set) (PySem.W.mg_none_of X G y_sorted) (PySem.W.mg_none_of X G y_tuple) h_l_any h_l_mixed h_l_of
  have h_l_all_plans := ok_l_all_plans (P := P) (w := w) (K := K) (mg := mg) (base := base) ⟨⟨oc11, od11, .none, kV11, dc11, pm11, an11, cd11, ct11, sl11, rfl, l11, c11⟩, PySem.W.mg_of X G a11, k11⟩ rfl
  have h_l_parts := ok_l_parts (P := P) (w := w) (K := K) (mg := mg) (base := base) ⟨⟨oc12, od12, .none, kV12, dc12, pm12, an12, cd12, ct12, sl12, rfl, l12, c12⟩, PySem.W.mg_of X G a12, k12⟩ rfl (PySem.W.mg_none_of X G y_min) (PySem.W.mg_none_of X G y_range) (PySem.W.mg_none_of X G y_set) (PySem.W.mg_none_of X G y_sorted) (PySem.W.mg_none_of X G y_tuple)
  have h_l_odd := ok_l_odd (P := P) (w := w) (K := K) (mg := mg) (base := base) ⟨⟨oc13, od13, .none, kV13, dc13, pm13, an13, cd13, ct13, sl13, rfl, l13, c13⟩, PySem.W.mg_of X G a13, k13⟩ rfl (PySem.W.mg_none_of X G y_int) (PySem.W.mg_none_of X G y_len) h_l_parts
  have h_l_all_lots := ok_l_all_lots (P := P) (w := w) (K := K) (mg := mg) (base := base) ⟨⟨oc14, od14, .none, kV14, dc14, pm14, an14, cd14, ct14, sl14, rfl, l14, c14⟩, PySem.W.mg_of X G a14, k14⟩ rfl (PySem.W.mg_none_of X G y_range)
  have h_law := ok_law (P := P) (w := w) (K := K) (mg := mg) (base := base) ⟨⟨oc15, od15, .none, kV15, dc15, pm15, an15, cd15, ct15, sl15, rfl, l15, c15⟩, PySem.W.mg_of X G a15, k15⟩ rfl (PySem.W.mg_none_of X G y_len) (PySem.W.mg_none_of X G y_max) (PySem.W.mg_none_of X G y_repr) (PySem.W.mg_none_of X G y_tuple) h_l_draw h_l_web h_l_all_plans h_l_all_lots h_l_odd h_odd_parts h_spare_number h_l_any
  exact h_law
end G
open PySem PySem.W PyProof.Rows
set_option maxHeartbeats 0 in
theorem PySem.Challenge.cw_givesifgets_k16_whole_barriers_holds : PySem.Challenge.rw_givesifgets_k16_whole_barriers.Holds := by
  w_on; o_law; k_head; (case hw => w_witness2)
  k_fill
  refine Y.walk_end (l := PySem.Challenge.rw_givesifgets_k16_whole_barriers) (k := 5) (st := G.s_law) (ps := ["script"]) (F := G.F_law) rfl rfl ⟨rfl, by decide, by decide⟩ (fun w h y => PySem.W.kIn_of y) ?cal (fun ns h => G.F_law_ok ns h)
  case cal =>
    intro w mg h KX GN base _ _
    refine' G.all_mk KX GN ?a0 ?l0 ?c0 ?k0 ?a1 ?l1 ?c1 ?k1 ?a2 ?l2 ?c2 ?k2 ?a3 ?l3 ?c3 ?k3 ?a4 ?l4 ?c4 ?k4 ?a5 ?l5 ?c5 ?k5 ?a6 ?l6 ?c6 ?k6 ?a7 ?l7 ?c7 ?k7 ?a8 ?l8 ?c8 ?k8 ?a9 ?l9 ?c9 ?k9 ?a10 ?l10 ?c10 ?k10 ?a11 ?l11 ?c11 ?k11 ?a12 ?l12 ?c12 ?k12 ?a13 ?l13 ?c13 ?k13 ?a14 ?l14 ?c14 ?k14 ?a15 ?l15 ?c15 ?k15 ?y_abs ?y_int ?y_len ?y_list ?y_max ?y_min ?y_range ?y_repr ?y_set ?y_sorted ?y_tuple base
    (case a0 => k_is); (case l0 => k_is); (case c0 => k_is); (case k0 => k_is); (case a1 => k_is); (case l1 => k_is); (case c1 => k_is); (case k1 => k_is); (case a2 => k_is); (case l2 => k_is); (case c2 => k_is); (case k2 => k_is); (case a3 => k_is); (case l3 => k_is); (case c3 => k_is); (case k3 => k_is); (case a4 => k_is); (case l4 => k_is); (case c4 => k_is); (case k4 => k_is); (case a5 => k_is); (case l5 => k_is); (case c5 => k_is); (case k5 => k_is); (case a6 => k_is); (case l6 => k_is); (case c6 => k_is); (case k6 => k_is); (case a7 => k_is); (case l7 => k_is); (case c7 => k_is); (case k7 => k_is); (case a8 => k_is); (case l8 => k_is); (case c8 => k_is); (case k8 => k_is); (case a9 => k_is); (case l9 => k_is); (case c9 => k_is); (case k9 => k_is); (case a10 => k_is); (case l10 => k_is); (case c10 => k_is); (case k10 => k_is); (case a11 => k_is); (case l11 => k_is); (case c11 => k_is); (case k11 => k_is); (case a12 => k_is); (case l12 => k_is); (case c12 => k_is); (case k12 => k_is); (case a13 => k_is); (case l13 => k_is); (case c13 => k_is); (case k13 => k_is); (case a14 => k_is); (case l14 => k_is); (case c14 => k_is); (case k14 => k_is); (case a15 => k_is); (case l15 => k_is); (case c15 => k_is); (case k15 => k_is); (case y_abs => k_is); (case y_int => k_is); (case y_len => k_is); (case y_list => k_is); (case y_max => k_is); (case y_min => k_is); (case y_range => k_is); (case y_repr => k_is); (case y_set => k_is); (case y_sorted => k_is); (case y_tuple => k_is)
