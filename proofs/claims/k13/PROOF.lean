import PyProof.Rows.All
import HandS.Base
import HandS.Call
import HandS.List
import HandS.Comp
import HandS.Exc
import HandS.ExcOwn
import HandS.TryOnly
import HandS.AnyAll
import HandS.HotCalls
import HandS.EndTab
import HandS.Words
import HandS.WordsList
import HandS.Conv
import HandS.More
import HandS.IsInst
import HandS.Style
import HandS.ExcCtx
import HandS.WordsExc
import HandS.ExcIs
import PyProof.StrBlock2
import HandS.Walk
import HandS.Text
import HandS.Replace
import PyProof.Rows.StrSplitJoin
import PyProof.Rows.StrSplitAre
import PyProof.StrLawsChain
import HandS.Dict
import HandS.GenOver
import PyProof.GenCompD
import HandS.Deep
import HandS.SetBool
import HandS.Strs
import HandS.Zip
import HandS.SetFor
import PyProof.Walks
import HandS.Iter
import KE.DataFind
import HandS.SortInts
import KE.SortData
import PySem.Challenge.RW_clothlayers_k13_whole_told_alike
set_option Elab.async false
set_option linter.all false
set_option maxRecDepth 100000
/-! # Cloths: readings by weakest wishes, over a stable part of the heap -/
namespace Cw
open PySem PySem.Spec PyProof.Rows L2
open GxR (TabG)

/-! ## heaps: what is known goes on to be known; tables of code may grow -/
def Ex (B H : Hp) : Prop := ∀ a o, B a = some o → H a = some o ∨ ∃ ps qs, o = HO.tbl ps ∧ H a = some (.tbl qs)
def notTbl : HO → Prop
  | .tbl _ => False
  | _ => True
theorem Ex.rfl {H : Hp} : Ex H H := fun _ _ h => .inl h
theorem Ex.trans {A B C : Hp} (h1 : Ex A B) (h2 : Ex B C) : Ex A C := by
  intro a o h
  rcases h1 a o h with h | ⟨ps, qs, e, h⟩
  · exact h2 a o h
  · rcases h2 a _ h with h | ⟨p2, q2, _, h⟩
    · exact .inr ⟨ps, qs, e, h⟩
    · exact .inr ⟨ps, q2, e, h⟩
theorem Ex.at {B H : Hp} {a : Addr} {o : HO} (e : Ex B H) (h : B a = some o) (n : notTbl o) : H a = some o := by
  rcases e a o h with h | ⟨ps, qs, e, _⟩
  · exact h
  · subst e
    exact n.elim
theorem Ex.there {B H : Hp} {a : Addr} (e : Ex B H) (h : B a ≠ none) : H a ≠ none := by
  cases q : B a with
  | none => exact absurd q h
  | some o =>
    rcases e a o q with z | ⟨_, _, _, z⟩ <;> (rw [z]; exact fun w => nomatch w)
theorem Ex.free {B H : Hp} {a : Addr} (e : Ex B H) (h : H a = none) : B a = none := by
  cases q : B a with
  | none => exact Eq.refl _
  | some o => exact absurd h (e.there (by rw [q]; exact fun w => nomatch w))
theorem Ex.lst {B H : Hp} {a : Addr} {xs : List V} (e : Ex B H) (h : B a = some (.lst xs)) : H a = some (.lst xs) := e.at h trivial
theorem Ex.tup {B H : Hp} {a : Addr} {xs : List V} (e : Ex B H) (h : B a = some (.tup xs)) : H a = some (.tup xs) := e.at h trivial
theorem Ex.new {H : Hp} {p : Addr} {o : HO} (h : H p = none) : Ex H (upd H p o) := fun a u e => by
  rw [upd_ne (ne_of_none e h)]
  exact .inl e
/-- what the base does not know may change -/
theorem Ex.mut {B H : Hp} {p : Addr} {o : HO} (e : Ex B H) (h : B p = none) : Ex B (upd H p o) := fun a u ha => by
  rw [upd_ne (ne_of_none ha h)]
  exact e a u ha
theorem Ex.upd2 {B H : Hp} {p : Addr} {o : HO} (e : Ex B H) : Ex (upd B p o) (upd H p o) := fun a u ha => by
  by_cases c : a = p
  · subst c
    rw [upd_same] at ha ⊢
    exact .inl ha
  · rw [upd_ne c] at ha ⊢
    exact e a u ha
theorem Ex.seq {K : PySem.W.Frag} {B H : Hp} {a : Addr} {xs : List V} (e : Ex B H) (h : SqL K B a xs) : SqL K H a xs := by
  rcases h with (h | ⟨o, h⟩) | h
  · exact .inl (.inl (e.at h trivial))
  · exact .inl (.inr ⟨o, e.at h trivial⟩)
  · exact .inr h
theorem Ex.seqT {K : PySem.W.Frag} {B H : Hp} {a : Addr} {xs : List V} (e : Ex B H) (h : SqT K B a xs) : SqT K H a xs := by
  rcases h with (h | ⟨o, h⟩) | h
  · exact .inl (.inl (e.at h trivial))
  · exact .inl (.inr ⟨o, e.at h trivial⟩)
  · exact .inr h
/-- two heaps together, the first one's word first -/
def un (B C : Hp) : Hp := fun a => match B a with
  | some o => some o
  | none => C a
theorem un_l {B C : Hp} {a : Addr} {o : HO} (h : B a = some o) : un B C a = some o := by
  unfold un
  rw [h]
theorem un_r {B C : Hp} {a : Addr} (h : B a = none) : un B C a = C a := by
  unfold un
  rw [h]

/-! ## worlds: a stable part B of the heap H, the tables T good; how they go on -/
def Gd (T : List Addr) (H : Hp) : Prop := ∀ P ∈ T, TabG H P
theorem Gd.upd {T : List Addr} {H : Hp} {p : Addr} {o : HO} (g : Gd T H) (h : ∀ ps, H p ≠ some (.tbl ps)) : Gd T (upd H p o) := fun P hP => by
  obtain ⟨ps, e, t⟩ := g P hP
  refine ⟨ps, ?_, t⟩
  rw [upd_ne (fun z => h ps (by rw [← z]; exact e))]
  exact e
structure Wd (T : List Addr) (B H : Hp) : Prop where
  ex : Ex B H
  gd : Gd T H
structure Go (T : List Addr) (B H B' H' : Hp) : Prop where
  wd : Wd T B' H'
  eb : Ex B B'
  eh : Ex H H'
  fr : ∀ a, B a = none → B' a ≠ none → H a = none
variable {T : List Addr} {A B C H H1 H2 B1 B2 : Hp}
theorem Go.rfl (w : Wd T B H) : Go T B H B H := ⟨w, Ex.rfl, Ex.rfl, fun _ h h' => absurd h h'⟩
theorem Go.trans (g : Go T B H B1 H1) (k : Go T B1 H1 B2 H2) : Go T B H B2 H2 := by
  refine ⟨k.wd, g.eb.trans k.eb, g.eh.trans k.eh, fun a h h2 => ?_⟩
  cases q : B1 a with
  | none => exact g.eh.free (k.fr a q h2)
  | some o => exact g.fr a h (by rw [q]; exact fun w => nomatch w)
/-- an address that the heap holds and the base does not stays out of the base -/
theorem Go.out (g : Go T B H B1 H1) {p : Addr} (h : B p = none) (h2 : H p ≠ none) : B1 p = none := by
  cases q : B1 p with
  | none => exact Eq.refl _
  | some o => exact absurd (g.fr p h (by rw [q]; exact fun w => nomatch w)) h2
/-- a new object into both -/
theorem Go.new {p : Addr} {o : HO} (w : Wd T B H) (h : H p = none) : Go T B H (upd B p o) (upd H p o) := by
  refine ⟨⟨w.ex.upd2, w.gd.upd (fun ps z => by rw [h] at z; cases z)⟩, Ex.new (w.ex.free h), Ex.new h, fun a h1 h2 => ?_⟩
  by_cases c : a = p
  · rw [c]
    exact h
  · rw [upd_ne c] at h2
    exact absurd h1 h2
/-- a new object that does not come into the base -/
theorem Go.newH {p : Addr} {o : HO} (w : Wd T B H) (h : H p = none) : Go T B H B (upd H p o) :=
  ⟨⟨w.ex.mut (w.ex.free h), w.gd.upd (fun ps z => by rw [h] at z; cases z)⟩, Ex.rfl, Ex.new h, fun _ h h' => absurd h h'⟩
/-- the base of a run that began at a part of it -/
theorem Go.widen (e : Ex B C) (w : Wd T C H) (g : Go T B H B1 H1) : Go T C H (un C B1) H1 ∧ Ex B1 (un C B1) := by
  have fresh : ∀ a, B1 a ≠ none → C a ≠ none → B a ≠ none := fun a h1 h2 h3 => (w.ex.there h2) (g.fr a h3 h1)
  refine ⟨⟨⟨fun a o h => ?_, g.wd.gd⟩, fun a o h => .inl (un_l h), g.eh, fun a h h2 => ?_⟩, fun a o h => ?_⟩
  · cases q : C a with
    | some u =>
      rw [un_l q] at h
      cases h
      exact (w.ex.trans g.eh) a _ q
    | none =>
      rw [un_r q] at h
      exact g.wd.ex a o h
  · rw [un_r h] at h2
    exact g.fr a (e.free h) h2
  · cases q : C a with
    | none => exact .inl (by rw [un_r q]; exact h)
    | some u =>
      have hB := fresh a (by rw [h]; exact fun w => nomatch w) (by rw [q]; exact fun w => nomatch w)
      cases z : B a with
      | none => exact absurd z hB
      | some v =>
        rcases g.eb a v z with h5 | ⟨ps, qs, e5, h5⟩
        · rw [h] at h5
          cases h5
          rcases e a o z with h6 | ⟨ps, qs, e6, h6⟩
          · exact .inl (un_l h6)
          · exact .inr ⟨ps, qs, e6, un_l h6⟩
        · rw [h] at h5
          cases h5
          rcases e a v z with h6 | ⟨p2, q2, e6, h6⟩
          · subst e5
            exact .inr ⟨qs, ps, Eq.refl _, un_l h6⟩
          · exact .inr ⟨qs, q2, Eq.refl _, un_l h6⟩

/-! ## readings by weakest wishes -/
section
variable (X : Cx)
@[irreducible] def we (e : Expr) : TE := fun σ H Q => ∀ (pins : List (Addr × Obj)) (s : Shared), Inv X pins σ H s → wpAny (model X.prog X.w) X.A (eval e X.env) (EP X pins σ Q) X.xe s
@[irreducible] def wt (e : Expr) : TT := fun σ H Q => ∀ (pins : List (Addr × Obj)) (s : Shared), Inv X pins σ H s → wpAny (model X.prog X.w) X.A (isTrue e X.env (eval e X.env)) (TP X pins σ Q) X.xe s
@[irreducible] def ww (e : Expr) : TT := fun σ H Q => ∀ (whole : Sem Value) (pins : List (Addr × Obj)) (s : Shared), Inv X pins σ H s → wpAny (model X.prog X.w) X.A (isTrue e X.env whole) (TP X pins σ Q) X.xe s
@[irreducible] def wa (es : List Expr) : TA := fun σ H Q => ∀ (pos : Pos) (pins : List (Addr × Obj)) (s : Shared), Inv X pins σ H s → wpAny (model X.prog X.w) X.A (spliced (backTo pos (starEach es X.env))) (AP X pins σ Q) X.xe s
@[irreducible] def ws (st : Stmt) : TS := fun D σ H => ∀ (pins : List (Addr × Obj)) (s : Shared), Inv X pins σ H s → wpAny (model X.prog X.w) X.A (exec st X.env) (SP X pins D) X.xe s
@[irreducible] def wss (st : List Stmt) : TS := fun D σ H => ∀ (pins : List (Addr × Obj)) (s : Shared), Inv X pins σ H s → wpAny (model X.prog X.w) X.A (execs st X.env) (SP X pins D) X.xe s
end
section
variable {X : Cx} {e : Expr} {es : List Expr} {st : Stmt} {sts : List Stmt}
theorem we_mk {σ : L2.St} {Q : VK} (h : ∀ (pins : List (Addr × Obj)) (s : Shared), Inv X pins σ H s → wpAny (model X.prog X.w) X.A (eval e X.env) (EP X pins σ Q) X.xe s) : we X e σ H Q := by unfold we; exact h
theorem wt_mk {σ : L2.St} {Q : Bool → Hp → Prop} (h : ∀ (pins : List (Addr × Obj)) (s : Shared), Inv X pins σ H s → wpAny (model X.prog X.w) X.A (isTrue e X.env (eval e X.env)) (TP X pins σ Q) X.xe s) : wt X e σ H Q := by unfold wt; exact h
theorem ww_mk {σ : L2.St} {Q : Bool → Hp → Prop} (h : ∀ (whole : Sem Value) (pins : List (Addr × Obj)) (s : Shared), Inv X pins σ H s → wpAny (model X.prog X.w) X.A (isTrue e X.env whole) (TP X pins σ Q) X.xe s) : ww X e σ H Q := by unfold ww; exact h
theorem wa_mk {σ : L2.St} {Q : List V → Hp → Prop} (h : ∀ (pos : Pos) (pins : List (Addr × Obj)) (s : Shared), Inv X pins σ H s → wpAny (model X.prog X.w) X.A (spliced (backTo pos (starEach es X.env))) (AP X pins σ Q) X.xe s) : wa X es σ H Q := by unfold wa; exact h
theorem ws_mk {σ : L2.St} {D : Ends} (h : ∀ (pins : List (Addr × Obj)) (s : Shared), Inv X pins σ H s → wpAny (model X.prog X.w) X.A (exec st X.env) (SP X pins D) X.xe s) : ws X st D σ H := by unfold ws; exact h
theorem wss_mk {σ : L2.St} {D : Ends} (h : ∀ (pins : List (Addr × Obj)) (s : Shared), Inv X pins σ H s → wpAny (model X.prog X.w) X.A (execs sts X.env) (SP X pins D) X.xe s) : wss X sts D σ H := by unfold wss; exact h
theorem we_run {σ : L2.St} {Q : VK} (h : we X e σ H Q) : ∀ (pins : List (Addr × Obj)) (s : Shared), Inv X pins σ H s → wpAny (model X.prog X.w) X.A (eval e X.env) (EP X pins σ Q) X.xe s := by unfold we at h; exact h
theorem wt_run {σ : L2.St} {Q : Bool → Hp → Prop} (h : wt X e σ H Q) : ∀ (pins : List (Addr × Obj)) (s : Shared), Inv X pins σ H s → wpAny (model X.prog X.w) X.A (isTrue e X.env (eval e X.env)) (TP X pins σ Q) X.xe s := by unfold wt at h; exact h
theorem ww_run {σ : L2.St} {Q : Bool → Hp → Prop} (h : ww X e σ H Q) : ∀ (whole : Sem Value) (pins : List (Addr × Obj)) (s : Shared), Inv X pins σ H s → wpAny (model X.prog X.w) X.A (isTrue e X.env whole) (TP X pins σ Q) X.xe s := by unfold ww at h; exact h
theorem wa_run {σ : L2.St} {Q : List V → Hp → Prop} (h : wa X es σ H Q) : ∀ (pos : Pos) (pins : List (Addr × Obj)) (s : Shared), Inv X pins σ H s → wpAny (model X.prog X.w) X.A (spliced (backTo pos (starEach es X.env))) (AP X pins σ Q) X.xe s := by unfold wa at h; exact h
theorem ws_run {σ : L2.St} {D : Ends} (h : ws X st D σ H) : ∀ (pins : List (Addr × Obj)) (s : Shared), Inv X pins σ H s → wpAny (model X.prog X.w) X.A (exec st X.env) (SP X pins D) X.xe s := by unfold ws at h; exact h
theorem wss_run {σ : L2.St} {D : Ends} (h : wss X sts D σ H) : ∀ (pins : List (Addr × Obj)) (s : Shared), Inv X pins σ H s → wpAny (model X.prog X.w) X.A (execs sts X.env) (SP X pins D) X.xe s := by unfold wss at h; exact h
theorem pwe : PE X e (we X e) := ⟨fun pins s _ _ _ I h => we_run h pins s I⟩
theorem pwt : PT X e (wt X e) := ⟨fun pins s _ _ _ I h => wt_run h pins s I⟩
theorem pww : PW X e (ww X e) := ⟨fun whole pins s _ _ _ I h => ww_run h whole pins s I⟩
theorem pwa : PA X es (wa X es) := ⟨fun pos pins s _ _ _ I h => wa_run h pos pins s I⟩
theorem pws : PS X st (ws X st) := ⟨fun pins s _ _ _ I h => ws_run h pins s I⟩
theorem pwss : PSs X sts (wss X sts) := ⟨fun pins s _ _ _ I h => wss_run h pins s I⟩
theorem we_of {t : TE} {σ : L2.St} {Q : VK} (p : PE X e t) (h : t σ H Q) : we X e σ H Q := we_mk fun pins s I => p.run pins s σ H Q I h
theorem wt_of {t : TT} {σ : L2.St} {Q : Bool → Hp → Prop} (p : PT X e t) (h : t σ H Q) : wt X e σ H Q := wt_mk fun pins s I => p.run pins s σ H Q I h
theorem ww_of {t : TT} {σ : L2.St} {Q : Bool → Hp → Prop} (p : PW X e t) (h : t σ H Q) : ww X e σ H Q := ww_mk fun whole pins s I => p.run whole pins s σ H Q I h
theorem wa_of {t : TA} {σ : L2.St} {Q : List V → Hp → Prop} (p : PA X es t) (h : t σ H Q) : wa X es σ H Q := wa_mk fun pos pins s I => p.run pos pins s σ H Q I h
theorem ws_of {t : TS} {σ : L2.St} {D : Ends} (p : PS X st t) (h : t D σ H) : ws X st D σ H := ws_mk fun pins s I => p.run pins s σ H D I h
theorem wss_of {t : TS} {σ : L2.St} {D : Ends} (p : PSs X sts t) (h : t D σ H) : wss X sts D σ H := wss_mk fun pins s I => p.run pins s σ H D I h
end

/-! ## what an expression gives, from a stable part on -/
abbrev RV := Hp → V → Prop
def Mono (R : RV) : Prop := ∀ B B' v, Ex B B' → R B v → R B' v
def EV (T : List Addr) (X : Cx) (e : Expr) (σ : L2.St) (B : Hp) (R : RV) : Prop :=
  ∀ H, Wd T B H → ∀ Q : VK, (∀ v B' H', Go T B H B' H' → R B' v → Q v H') → we X e σ H Q
def ET (T : List Addr) (X : Cx) (e : Expr) (σ : L2.St) (B : Hp) (b : Bool) : Prop :=
  ∀ H, Wd T B H → ∀ Q : Bool → Hp → Prop, (∀ B' H', Go T B H B' H' → Q b H') → wt X e σ H Q
def EWt (T : List Addr) (X : Cx) (e : Expr) (σ : L2.St) (B : Hp) (b : Bool) : Prop :=
  ∀ H, Wd T B H → ∀ Q : Bool → Hp → Prop, (∀ B' H', Go T B H B' H' → Q b H') → ww X e σ H Q
def EA (T : List Addr) (X : Cx) (es : List Expr) (σ : L2.St) (B : Hp) (R : Hp → List V → Prop) : Prop :=
  ∀ H, Wd T B H → ∀ Q : List V → Hp → Prop, (∀ vs B' H', Go T B H B' H' → R B' vs → Q vs H') → wa X es σ H Q
section
variable {X : Cx} {e a b : Expr} {σ : L2.St} {R R' Ra Rb : RV}
theorem EV.mono (h : EV T X e σ B R) (m : Mono R) (x : Ex B C) : EV T X e σ C R := fun H w Q q =>
  h H ⟨x.trans w.ex, w.gd⟩ Q fun v B' H' g r => let ⟨g2, e2⟩ := Go.widen x w g; q v _ H' g2 (m _ _ _ e2 r)
theorem EV.imp (h : EV T X e σ B R) (i : ∀ B' v, Ex B B' → R B' v → R' B' v) : EV T X e σ B R' := fun H w Q q =>
  h H w Q fun v B' H' g r => q v B' H' g (i B' v g.eb r)
theorem ET.mono {c : Bool} (h : ET T X e σ B c) (x : Ex B C) : ET T X e σ C c := fun H w Q q =>
  h H ⟨x.trans w.ex, w.gd⟩ Q fun B' H' g => q _ H' (Go.widen x w g).1
theorem EWt.mono {c : Bool} (h : EWt T X e σ B c) (x : Ex B C) : EWt T X e σ C c := fun H w Q q =>
  h H ⟨x.trans w.ex, w.gd⟩ Q fun B' H' g => q _ H' (Go.widen x w g).1
theorem EWt.et {c : Bool} (h : EWt T X e σ B c) : ET T X e σ B c := fun H w Q q => wt_of pww.pt (h H w Q q)
end
end Cw

namespace Cw
open PySem PySem.Spec PyProof.Rows L2
/-! ## data in a heap -/
mutual
inductive Dt (B : Hp) : V → PyData → Prop
  | non : Dt B .non .none
  | bl (b : Bool) : Dt B (.bl b) (.bool b)
  | int (i : Int) : Dt B (.int i) (.int i)
  | str (x : Str) : Dt B (.str x) (.str x)
  | lst {a : Addr} {xs : List V} {ds : List PyData} : B a = some (.lst xs) → Dts B xs ds → Dt B (.ref a) (.list ds)
  | tup {a : Addr} {xs : List V} {ds : List PyData} : B a = some (.tup xs) → Dts B xs ds → Dt B (.ref a) (.tuple ds)
  | dic {a : Addr} : B a = some (.dK []) → Dt B (.ref a) (.dict [])
inductive Dts (B : Hp) : List V → List PyData → Prop
  | nil : Dts B [] []
  | cons {v : V} {vs : List V} {d : PyData} {ds : List PyData} : Dt B v d → Dts B vs ds → Dts B (v :: vs) (d :: ds)
end
mutual
theorem Dt.mono {B C : Hp} (x : Ex B C) : ∀ {v : V} {d : PyData}, Dt B v d → Dt C v d
  | _, _, .non => .non
  | _, _, .bl b => .bl b
  | _, _, .int i => .int i
  | _, _, .str s => .str s
  | _, _, .lst h r => .lst (x.lst h) (Dts.mono x r)
  | _, _, .tup h r => .tup (x.tup h) (Dts.mono x r)
  | _, _, .dic h => .dic (x.at h trivial)
theorem Dts.mono {B C : Hp} (x : Ex B C) : ∀ {vs : List V} {ds : List PyData}, Dts B vs ds → Dts C vs ds
  | _, _, .nil => .nil
  | _, _, .cons h r => .cons (Dt.mono x h) (Dts.mono x r)
end
/-- no dict within -/
def flatP : PyData → Bool
  | .list xs => flatPs xs
  | .tuple xs => flatPs xs
  | .dict _ => false
  | _ => true
where flatPs : List PyData → Bool
  | [] => true
  | d :: ds => flatP d && flatPs ds
mutual
theorem Dt.dp {K : PySem.W.Frag} {B : Hp} : ∀ {v : V} {d : PyData}, Dt B v d → SeqAt.shaped d = true ∨ True → flatP d = true → Dp K B v d
  | _, _, .non, _, _ => .non
  | _, _, .bl b, _, _ => .bl b
  | _, _, .int i, _, _ => .int i
  | _, _, .str s, _, _ => .str s
  | _, _, .lst h r, _, f => .lst (.inl (.inl h)) (Dts.dp r f)
  | _, _, .tup h r, _, f => .tup (.inl (.inl h)) (Dts.dp r f)
  | _, _, .dic h, _, f => by cases f
theorem Dts.dp {K : PySem.W.Frag} {B : Hp} : ∀ {vs : List V} {ds : List PyData}, Dts B vs ds → flatP.flatPs ds = true → DpAll K B vs ds
  | _, _, .nil, _ => .nil
  | _, _, .cons h r, f => .cons (Dt.dp h (.inr trivial) (Bool.and_eq_true_iff.mp f).1) (Dts.dp r (Bool.and_eq_true_iff.mp f).2)
end
theorem Dt.toInt {B : Hp} {v : V} {i : Int} (h : Dt B v (.int i)) : v = .int i := by cases h; rfl
theorem Dt.toBool {B : Hp} {v : V} {b : Bool} (h : Dt B v (.bool b)) : v = .bl b := by cases h; rfl
theorem Dt.toStr {B : Hp} {v : V} {x : Str} (h : Dt B v (.str x)) : v = .str x := by cases h; rfl
theorem Dt.toList {B : Hp} {v : V} {ds : List PyData} (h : Dt B v (.list ds)) : ∃ a xs, v = .ref a ∧ B a = some (.lst xs) ∧ Dts B xs ds := by
  cases h with
  | lst h r => exact ⟨_, _, rfl, h, r⟩
theorem Dt.toTup {B : Hp} {v : V} {ds : List PyData} (h : Dt B v (.tuple ds)) : ∃ a xs, v = .ref a ∧ B a = some (.tup xs) ∧ Dts B xs ds := by
  cases h with
  | tup h r => exact ⟨_, _, rfl, h, r⟩
theorem Dts.length {B : Hp} : ∀ {xs : List V} {ds : List PyData}, Dts B xs ds → xs.length = ds.length
  | _, _, .nil => rfl
  | _, _, .cons _ r => congrArg (· + 1) (Dts.length r)
theorem Dts.get {B : Hp} : ∀ {xs : List V} {ds : List PyData} {i : Nat} {d : PyData}, Dts B xs ds → ds[i]? = some d → ∃ x, xs[i]? = some x ∧ Dt B x d
  | _, _, _, _, .nil, e => by simp at e
  | _, _, 0, _, .cons h _, e => by
    simp only [List.getElem?_cons_zero, Option.some.injEq] at e
    subst e
    exact ⟨_, rfl, h⟩
  | _, _, i + 1, d, .cons _ r, e => by
    obtain ⟨x, h1, h2⟩ := Dts.get (i := i) (d := d) r (by simpa using e)
    exact ⟨x, by simpa using h1, h2⟩
theorem Dts.getV {B : Hp} : ∀ {xs : List V} {ds : List PyData} {i : Nat} {x : V}, Dts B xs ds → xs[i]? = some x → ∃ d, ds[i]? = some d ∧ Dt B x d
  | _, _, _, _, .nil, e => by simp at e
  | _, _, 0, _, .cons h _, e => by
    simp only [List.getElem?_cons_zero, Option.some.injEq] at e
    subst e
    exact ⟨_, rfl, h⟩
  | _, _, i + 1, x, .cons _ r, e => by
    obtain ⟨d, h1, h2⟩ := Dts.getV (i := i) (x := x) r (by simpa using e)
    exact ⟨d, by simpa using h1, h2⟩
theorem Dts.append {B : Hp} : ∀ {xs ys : List V} {ds es : List PyData}, Dts B xs ds → Dts B ys es → Dts B (xs ++ ys) (ds ++ es)
  | _, _, _, _, .nil, s => s
  | _, _, _, _, .cons h r, s => .cons h (Dts.append r s)
theorem Dts.take {B : Hp} : ∀ {xs : List V} {ds : List PyData} (n : Nat), Dts B xs ds → Dts B (xs.take n) (ds.take n)
  | _, _, 0, _ => .nil
  | _, _, _ + 1, .nil => .nil
  | _, _, n + 1, .cons h r => .cons h (Dts.take n r)
theorem Dts.drop {B : Hp} : ∀ {xs : List V} {ds : List PyData} (n : Nat), Dts B xs ds → Dts B (xs.drop n) (ds.drop n)
  | _, _, 0, r => r
  | _, _, _ + 1, .nil => .nil
  | _, _, n + 1, .cons _ r => Dts.drop n r
theorem Dts.one {B : Hp} {v : V} {d : PyData} (h : Dt B v d) : Dts B [v] [d] := .cons h .nil
theorem Dts.rep {B : Hp} {xs : List V} {ds : List PyData} (h : Dts B xs ds) : ∀ n : Nat, Dts B (List.replicate n xs).flatten (List.replicate n ds).flatten
  | 0 => .nil
  | n + 1 => by
    rw [List.replicate_succ, List.replicate_succ, List.flatten_cons, List.flatten_cons]
    exact h.append (Dts.rep h n)
theorem Dts.rev {B : Hp} : ∀ {xs : List V} {ds : List PyData}, Dts B xs ds → Dts B xs.reverse ds.reverse
  | _, _, .nil => .nil
  | _, _, .cons h r => by
    rw [List.reverse_cons, List.reverse_cons]
    exact (Dts.rev r).append (.one h)
theorem Dts.ints {B : Hp} : ∀ {xs : List V} {ns : List Int}, Dts B xs (ns.map .int) → xs = ns.map V.int
  | [], [], _ => rfl
  | x :: xs, n :: ns, .cons h r => by
    rw [h.toInt, Dts.ints r]
    rfl
theorem Dts.ofInts {B : Hp} : ∀ (ns : List Int), Dts B (ns.map V.int) (ns.map .int)
  | [] => .nil
  | n :: ns => .cons (.int n) (Dts.ofInts ns)
theorem mono_dt {d : PyData} : Mono fun B v => Dt B v d := fun _ _ _ x h => h.mono x

def isNonD : PyData → Bool
  | .none => true
  | _ => false
/-! ## expressions that give data -/
abbrev ED (T : List Addr) (X : Cx) (e : Expr) (σ : L2.St) (B : Hp) (d : PyData) : Prop := EV T X e σ B fun B' v => Dt B' v d
section
variable {T : List Addr} {X : Cx} {e a b c : Expr} {es : List Expr} {σ : L2.St} {B C : Hp} {R Ra Rb : RV} {pos : Pos}
theorem ED.mono {d : PyData} (h : ED T X e σ B d) (x : Ex B C) : ED T X e σ C d := EV.mono h mono_dt x
theorem ev_ret {v : V} (h : ∀ H, Wd T B H → ∀ Q : VK, Q v H → we X e σ H Q) (r : R B v) : EV T X e σ B R := fun H w Q q => h H w Q (q v B H (Go.rfl w) r)
theorem ev_pe {t : TE} {v : V} (p : PE X e t) (h : ∀ H, Wd T B H → ∀ Q : VK, Q v H → t σ H Q) (r : R B v) : EV T X e σ B R := ev_ret (fun H w Q q => we_of p (h H w Q q)) r
theorem ev_var {x : Str} {v : V} (i : Nat) (h : σ[i]? = some (some v)) (r : R B v) (hN : X.N[i]? = some x := by rfl) (hv : Vis X.env.scope x := by first | exact Or.inl rfl | exact Or.inr (Or.inl rfl) | exact Or.inr (Or.inr rfl)) (hd : (x == ("__debug__" : Str)) = false := by decide)
    (hcd : (x == ("__classdict__" : Str)) = false := by decide) : EV T X (.Name x pos) σ B R := ev_pe (pe_var hN hv hd hcd) (fun H w Q q => ⟨v, h, q⟩) r
theorem ed_int {i : Int} {j : Nat} : ED T X (.Constant (.int i) j pos) σ B (.int i) := ev_pe pe_int (fun _ _ _ q => q) (.int i)
theorem ed_bl {k : Bool} {j : Nat} : ED T X (.Constant (.bool k) j pos) σ B (.bool k) := ev_pe pe_bl (fun _ _ _ q => q) (.bl k)
theorem ed_non {j : Nat} : ED T X (.Constant .none j pos) σ B .none := ev_pe pe_non (fun _ _ _ q => q) .non
theorem ed_dict0 : ED T X (.Dict [] [] pos) σ B (.dict []) := fun H w Q q => we_of pe_dnewK fun p hp => q _ _ _ (Go.new (o := .dK []) w hp) (.dic upd_same)
theorem ed_str {s : Str} {j : Nat} : ED T X (.Constant (.str s) j pos) σ B (.str s) := ev_pe pe_str (fun _ _ _ q => q) (.str s)
/-- a module's int -/
theorem ed_globI {x : Str} {i : Int} (hg : Gl X x) (hm : ∃ t, X.mg x = some (.int i t)) (hd : (x == ("__debug__" : Str)) = false := by decide) : ED T X (.Name x pos) σ B (.int i) := by
  obtain ⟨t, hm⟩ := hm
  exact ev_pe (pe_glob (v := .int i) hg hm ⟨t, rfl⟩ hd) (fun _ _ _ q => q) (.int i)

/-- two parts, then a rule by values -/
theorem ev_two {t : TE → TE → TE} {r : V → V → Hp → VK → Prop} {m : Expr → Expr → Expr} (p : ∀ {ta tb : TE}, PE X a ta → PE X b tb → PE X e (tOp r ta tb)) (ha : EV T X a σ B Ra) (ma : Mono Ra) (hb : EV T X b σ B Rb) (mb : Mono Rb)
    (hr : ∀ B1 H1 x y, Ex B B1 → Wd T B1 H1 → Ra B1 x → Rb B1 y → ∀ Q : VK, (∀ v B' H', Go T B1 H1 B' H' → R B' v → Q v H') → r x y H1 Q) : EV T X e σ B R := fun H w Q q =>
  we_of (p pwe pwe) (ha H w _ fun x B1 H1 g1 r1 => (hb.mono mb g1.eb) H1 g1.wd _ fun y B2 H2 g2 r2 =>
    hr B2 H2 x y (g1.eb.trans g2.eb) g2.wd (ma _ _ _ g2.eb r1) r2 Q fun v B3 H3 g3 r3 => q v B3 H3 ((g1.trans g2).trans g3) r3)
theorem ev_op {op : Operator} {r : R2} (ho : OpR X (binaryOp op) r) (ha : EV T X a σ B Ra) (ma : Mono Ra) (hb : EV T X b σ B Rb) (mb : Mono Rb)
    (hr : ∀ B1 H1 x y, Ex B B1 → Wd T B1 H1 → Ra B1 x → Rb B1 y → ∀ Q : VK, (∀ v B' H', Go T B1 H1 B' H' → R B' v → Q v H') → r x y H1 Q) : EV T X (.BinOp a op b pos) σ B R :=
  ev_two (t := fun _ x => x) (m := fun x _ => x) (fun p1 p2 => pe_op ho p1 p2) ha ma hb mb hr
theorem ev_cmp {op : CmpOp} {r : R2} (ho : OpR X (compareOp op) r) (hm : behindInMarks op b = false) (ha : EV T X a σ B Ra) (ma : Mono Ra) (hb : EV T X b σ B Rb) (mb : Mono Rb)
    (hr : ∀ B1 H1 x y, Ex B B1 → Wd T B1 H1 → Ra B1 x → Rb B1 y → ∀ Q : VK, (∀ v B' H', Go T B1 H1 B' H' → R B' v → Q v H') → r x y H1 Q) : EV T X (.Compare a [op] [b] pos) σ B R :=
  ev_two (t := fun _ x => x) (m := fun x _ => x) (fun p1 p2 => pe_cmpR ho p1 p2 hm) ha ma hb mb hr
theorem ev_ix {r : R2} (ho : IxR X r) (hs : PlainIx b) (ha : EV T X a σ B Ra) (ma : Mono Ra) (hb : EV T X b σ B Rb) (mb : Mono Rb)
    (hr : ∀ B1 H1 x y, Ex B B1 → Wd T B1 H1 → Ra B1 x → Rb B1 y → ∀ Q : VK, (∀ v B' H', Go T B1 H1 B' H' → R B' v → Q v H') → r x y H1 Q) : EV T X (.Subscript a b pos) σ B R :=
  ev_two (t := fun _ x => x) (m := fun x _ => x) (fun p1 p2 => pe_ix ho p1 p2 hs) ha ma hb mb hr
theorem ev_one {r : V → Hp → VK → Prop} (p : ∀ {ta : TE}, PE X a ta → PE X e (fun σ H Q => ta σ H fun x H1 => r x H1 Q)) (ha : EV T X a σ B Ra)
    (hr : ∀ B1 H1 x, Ex B B1 → Wd T B1 H1 → Ra B1 x → ∀ Q : VK, (∀ v B' H', Go T B1 H1 B' H' → R B' v → Q v H') → r x H1 Q) : EV T X e σ B R := fun H w Q q =>
  we_of (p pwe) (ha H w _ fun x B1 H1 g1 r1 => hr B1 H1 x g1.eb g1.wd r1 Q fun v B3 H3 g3 r3 => q v B3 H3 (g1.trans g3) r3)
/-- an int of two ints -/
theorem ed_op2 {op : Operator} {C : Int → Int → Prop} {g : Int → Int → Int} {i j : Int} (ho : OpR X (binaryOp op) (rI C fun i j => .int (g i j))) (hc : C i j) (ha : ED T X a σ B (.int i)) (hb : ED T X b σ B (.int j)) : ED T X (.BinOp a op b pos) σ B (.int (g i j)) :=
  ev_op ho ha mono_dt hb mono_dt fun B1 H1 x y _ w rx ry Q q => ⟨i, j, rx.toInt, ry.toInt, hc, q _ B1 H1 (Go.rfl w) (.int _)⟩
theorem ed_add {i j : Int} (ha : ED T X a σ B (.int i)) (hb : ED T X b σ B (.int j)) : ED T X (.BinOp a .Add b pos) σ B (.int (i + j)) :=
  ev_op op_add ha mono_dt hb mono_dt fun B1 H1 x y _ w rx ry Q q => ⟨i, j, rx.toInt, ry.toInt, q _ B1 H1 (Go.rfl w) (.int _)⟩
theorem ed_sub {i j : Int} (ha : ED T X a σ B (.int i)) (hb : ED T X b σ B (.int j)) : ED T X (.BinOp a .Sub b pos) σ B (.int (i - j)) :=
  ev_op op_sub ha mono_dt hb mono_dt fun B1 H1 x y _ w rx ry Q q => ⟨i, j, rx.toInt, ry.toInt, q _ B1 H1 (Go.rfl w) (.int _)⟩
theorem ed_mulR {i j : Int} (h : -(2 ^ 64) < j ∧ j < 2 ^ 64) (ha : ED T X a σ B (.int i)) (hb : ED T X b σ B (.int j)) : ED T X (.BinOp a .Mult b pos) σ B (.int (i * j)) := ed_op2 op_mul (.inr h) ha hb
theorem ed_mulL {i j : Int} (h : -(2 ^ 64) < i ∧ i < 2 ^ 64) (ha : ED T X a σ B (.int i)) (hb : ED T X b σ B (.int j)) : ED T X (.BinOp a .Mult b pos) σ B (.int (i * j)) := ed_op2 op_mul (.inl h) ha hb
theorem ed_div {i j : Int} (h : 0 < j ∧ j < 1073741824) (ha : ED T X a σ B (.int i)) (hb : ED T X b σ B (.int j)) : ED T X (.BinOp a .FloorDiv b pos) σ B (.int (i / j)) := ed_op2 op_fdiv ⟨h.1, h.2⟩ ha hb
theorem ed_mod {i j : Int} (h : 0 < j) (ha : ED T X a σ B (.int i)) (hb : ED T X b σ B (.int j)) : ED T X (.BinOp a .Mod b pos) σ B (.int (i % j)) := ed_op2 op_mod h ha hb
theorem ed_pow {i j : Int} (h : CPow i j) (ha : ED T X a σ B (.int i)) (hb : ED T X b σ B (.int j)) : ED T X (.BinOp a .Pow b pos) σ B (.int (i ^ j.toNat)) := ed_op2 op_pow h ha hb
theorem ed_neg {i : Int} (ha : ED T X a σ B (.int i)) : ED T X (.UnaryOp .USub a pos) σ B (.int (-i)) :=
  ev_one (r := rU fun i => .int (-i)) (fun p => pe_un un_neg p) ha fun B1 H1 x _ w rx Q q => ⟨i, rx.toInt, q _ B1 H1 (Go.rfl w) (.int _)⟩
/-- a comparison of data: a truth, as a value and as a test -/
structure EC (T : List Addr) (X : Cx) (a : Expr) (op : CmpOp) (b : Expr) (σ : L2.St) (B : Hp) (k : Bool) : Prop where
  ex : ∃ r : R2, OpR X (compareOp op) r ∧ behindInMarks op b = false ∧ ∀ H, Wd T B H → ∀ Q : VK, (∀ B' H', Go T B H B' H' → Q (.bl k) H') → we X a σ H fun x H1 => we X b σ H1 fun y H2 => r x y H2 Q
theorem EC.ed {op : CmpOp} {k : Bool} (h : EC T X a op b σ B k) : ED T X (.Compare a [op] [b] pos) σ B (.bool k) := fun H w Q q => by
  obtain ⟨r, ho, hm, run⟩ := h.ex
  exact we_of (pe_cmpR ho pwe pwe hm) (run H w Q fun B' H' g => q _ B' H' g (.bl _))
theorem EC.et {op : CmpOp} {k : Bool} (h : EC T X a op b σ B k) : ET T X (.Compare a [op] [b] pos) σ B k := fun H w Q q => by
  obtain ⟨r, ho, hm, run⟩ := h.ex
  exact wt_of (pt_cmpR ho pwe pwe hm) (run H w _ fun B' H' g => ⟨k, rfl, q B' H' g⟩)
theorem ec_of {op : CmpOp} {r : R2} {k : Bool} (ho : OpR X (compareOp op) r) (hm : behindInMarks op b = false) (ha : EV T X a σ B Ra) (ma : Mono Ra) (hb : EV T X b σ B Rb) (mb : Mono Rb)
    (hr : ∀ B1 H1 x y, Ex B B1 → Wd T B1 H1 → Ra B1 x → Rb B1 y → ∀ Q : VK, Q (.bl k) H1 → r x y H1 Q) : EC T X a op b σ B k :=
  ⟨r, ho, hm, fun H w Q q => ha H w _ fun x B1 H1 g1 r1 => (hb.mono mb g1.eb) H1 g1.wd _ fun y B2 H2 g2 r2 => hr B2 H2 x y (g1.eb.trans g2.eb) g2.wd (ma _ _ _ g2.eb r1) r2 Q (q B2 H2 (g1.trans g2))⟩
/-- comparisons of two ints -/
theorem ec_I {op : CmpOp} {g : Int → Int → Bool} {i j : Int} (ho : OpR X (compareOp op) (rI0 fun i j => .bl (g i j))) (hm : behindInMarks op b = false) (ha : ED T X a σ B (.int i)) (hb : ED T X b σ B (.int j)) : EC T X a op b σ B (g i j) :=
  ec_of ho hm ha mono_dt hb mono_dt fun B1 H1 x y _ w rx ry Q q => ⟨i, j, rx.toInt, ry.toInt, q⟩
theorem ec_lt {i j : Int} (ha : ED T X a σ B (.int i)) (hb : ED T X b σ B (.int j)) : EC T X a .Lt b σ B (decide (i < j)) := ec_I op_lt (nomark _) ha hb
theorem ec_le {i j : Int} (ha : ED T X a σ B (.int i)) (hb : ED T X b σ B (.int j)) : EC T X a .LtE b σ B (decide (i ≤ j)) := ec_I op_le (nomark _) ha hb
theorem ec_gt {i j : Int} (ha : ED T X a σ B (.int i)) (hb : ED T X b σ B (.int j)) : EC T X a .Gt b σ B (decide (j < i)) := ec_I op_gt (nomark _) ha hb
theorem ec_ge {i j : Int} (ha : ED T X a σ B (.int i)) (hb : ED T X b σ B (.int j)) : EC T X a .GtE b σ B (decide (j ≤ i)) := ec_I op_ge (nomark _) ha hb
/-- equality of data -/
theorem ec_eq {d f : PyData} (hu : X.A.units + 64 < cLine) (ha : ED T X a σ B d) (hb : ED T X b σ B f) (fa : flatP d = true) (fb : flatP f = true) (sa : SeqAt.shaped d = true) (sb : SeqAt.shaped f = true) : EC T X a .Eq b σ B (PyData.eqv d f) :=
  ec_of (op_eqD hu) (nomark _) ha mono_dt hb mono_dt fun B1 H1 x y _ w rx ry Q q => ⟨d, f, (rx.mono w.ex).dp (.inr trivial) fa, (ry.mono w.ex).dp (.inr trivial) fb, sa, sb, q⟩
theorem ec_ne {d f : PyData} (hu : X.A.units + 64 < cLine) (ha : ED T X a σ B d) (hb : ED T X b σ B f) (fa : flatP d = true) (fb : flatP f = true) (sa : SeqAt.shaped d = true) (sb : SeqAt.shaped f = true) : EC T X a .NotEq b σ B (!PyData.eqv d f) :=
  ec_of (op_neD hu) (nomark _) ha mono_dt hb mono_dt fun B1 H1 x y _ w rx ry Q q => ⟨d, f, (rx.mono w.ex).dp (.inr trivial) fa, (ry.mono w.ex).dp (.inr trivial) fb, sa, sb, q⟩
theorem dec_int (i j : Int) : decide (V.int i = V.int j) = decide (i = j) := by
  by_cases c : i = j
  · rw [c, decide_eq_true rfl, decide_eq_true rfl]
  · rw [decide_eq_false c, decide_eq_false fun z => c (V.int.inj z)]
theorem ec_eqI {i j : Int} (ha : ED T X a σ B (.int i)) (hb : ED T X b σ B (.int j)) : EC T X a .Eq b σ B (decide (i = j)) :=
  ec_of op_eq (nomark _) ha mono_dt hb mono_dt fun B1 H1 x y _ w rx ry Q q => by
    rw [rx.toInt, ry.toInt]
    exact ⟨rfl, by rw [dec_int]; exact q⟩
theorem ec_neI {i j : Int} (ha : ED T X a σ B (.int i)) (hb : ED T X b σ B (.int j)) : EC T X a .NotEq b σ B (!decide (i = j)) :=
  ec_of op_ne (nomark _) ha mono_dt hb mono_dt fun B1 H1 x y _ w rx ry Q q => by
    rw [rx.toInt, ry.toInt]
    exact ⟨rfl, by rw [dec_int]; exact q⟩
theorem ec_eqB {i j : Bool} (ha : ED T X a σ B (.bool i)) (hb : ED T X b σ B (.bool j)) : EC T X a .Eq b σ B (i == j) :=
  ec_of op_eq (nomark _) ha mono_dt hb mono_dt fun B1 H1 x y _ w rx ry Q q => by
    rw [rx.toBool, ry.toBool]
    have e : decide (V.bl i = V.bl j) = (i == j) := by cases i <;> cases j <;> rfl
    exact ⟨rfl, by rw [e]; exact q⟩
theorem ec_eqS {z y : Str} (ha : ED T X a σ B (.str z)) (hb : ED T X b σ B (.str y)) : EC T X a .Eq b σ B (decide (z = y)) :=
  ec_of op_eq (nomark _) ha mono_dt hb mono_dt fun B1 H1 x' y' _ w rx ry Q q => by
    rw [rx.toStr, ry.toStr]
    have e : decide (V.str z = V.str y) = decide (z = y) := by
      by_cases c : z = y
      · rw [c, decide_eq_true rfl, decide_eq_true rfl]
      · rw [decide_eq_false c, decide_eq_false fun z => c (V.str.inj z)]
    exact ⟨rfl, by rw [e]; exact q⟩
theorem ec_neS {z y : Str} (ha : ED T X a σ B (.str z)) (hb : ED T X b σ B (.str y)) : EC T X a .NotEq b σ B (!decide (z = y)) :=
  ec_of op_ne (nomark _) ha mono_dt hb mono_dt fun B1 H1 x' y' _ w rx ry Q q => by
    rw [rx.toStr, ry.toStr]
    have e : decide (V.str z = V.str y) = decide (z = y) := by
      by_cases c : z = y
      · rw [c, decide_eq_true rfl, decide_eq_true rfl]
      · rw [decide_eq_false c, decide_eq_false fun z => c (V.str.inj z)]
    exact ⟨rfl, by rw [e]; exact q⟩
theorem ec_isN {d : PyData} {j : Nat} {p : Pos} (ha : ED T X a σ B d) : EC T X a .Is (.Constant .none j p) σ B (isNonD d) :=
  ec_of op_isN (nomark _) ha mono_dt ed_non mono_dt fun B1 H1 x y _ w rx ry Q q => ⟨by cases ry; rfl, by
    have e : decide (x = V.non) = isNonD d := by cases rx <;> rfl
    rw [e]
    exact q⟩
theorem ec_notN {d : PyData} {j : Nat} {p : Pos} (ha : ED T X a σ B d) : EC T X a .IsNot (.Constant .none j p) σ B (!isNonD d) :=
  ec_of op_notN (nomark _) ha mono_dt ed_non mono_dt fun B1 H1 x y _ w rx ry Q q => ⟨by cases ry; rfl, by
    have e : decide (x = V.non) = isNonD d := by cases rx <;> rfl
    rw [e]
    exact q⟩
/-- a ≤ b < c and the like, of ints, as a value and as a test -/
structure ECh (T : List Addr) (X : Cx) (a : Expr) (op op' : CmpOp) (b c : Expr) (σ : L2.St) (B : Hp) (k : Bool) : Prop where
  ex : ∃ r r' : R2, OpR X (compareOp op) r ∧ OpR X (compareOp op') r' ∧ ∀ H, Wd T B H → ∀ Q : VK, (∀ B' H', Go T B H B' H' → Q (.bl k) H') → tChain r r' (we X a) (we X b) (we X c) σ H Q
theorem ECh.ed {op op' : CmpOp} {k : Bool} (h : ECh T X a op op' b c σ B k) (hm : lastMarks [op, op'] [b, c] = false := by with_unfolding_all rfl) : ED T X (.Compare a [op, op'] [b, c] pos) σ B (.bool k) := fun H w Q q => by
  obtain ⟨r, r', h1, h2, run⟩ := h.ex
  exact we_of (pe_chain h1 h2 pwe pwe pwe hm) (run H w Q fun B' H' g => q _ B' H' g (.bl _))
theorem ECh.et {op op' : CmpOp} {k : Bool} (h : ECh T X a op op' b c σ B k) (hm : lastMarks [op, op'] [b, c] = false := by with_unfolding_all rfl) : ET T X (.Compare a [op, op'] [b, c] pos) σ B k := fun H w Q q => by
  obtain ⟨r, r', h1, h2, run⟩ := h.ex
  exact wt_of (pt_chain h1 h2 pwe pwe pwe hm) (run H w _ fun B' H' g => ⟨k, rfl, q B' H' g⟩)
theorem ech_I {op op' : CmpOp} {g g' : Int → Int → Bool} {i j k : Int} (ho : OpR X (compareOp op) (rI0 fun i j => .bl (g i j))) (ho' : OpR X (compareOp op') (rI0 fun i j => .bl (g' i j))) (ha : ED T X a σ B (.int i)) (hb : ED T X b σ B (.int j)) (hc : ED T X c σ B (.int k)) : ECh T X a op op' b c σ B (g i j && g' j k) :=
  ⟨_, _, ho, ho', fun H w Q q => ha H w _ fun x B1 H1 g1 r1 => (hb.mono g1.eb) H1 g1.wd _ fun y B2 H2 g2 r2 => ⟨i, j, r1.toInt, r2.toInt, g i j, rfl, by
    cases e : g i j with
    | true =>
      refine (hc.mono (g1.eb.trans g2.eb)) H2 g2.wd _ fun z B3 H3 g3 r3 => ⟨j, k, r2.toInt, r3.toInt, ?_⟩
      have := q B3 H3 ((g1.trans g2).trans g3)
      rw [e] at this
      exact this
    | false =>
      have := q B2 H2 (g1.trans g2)
      rw [e] at this
      exact this⟩⟩
theorem ech_leLt {i j k : Int} (ha : ED T X a σ B (.int i)) (hb : ED T X b σ B (.int j)) (hc : ED T X c σ B (.int k)) : ECh T X a .LtE .Lt b c σ B (decide (i ≤ j) && decide (j < k)) := ech_I op_le op_lt ha hb hc
theorem ech_leLe {i j k : Int} (ha : ED T X a σ B (.int i)) (hb : ED T X b σ B (.int j)) (hc : ED T X c σ B (.int k)) : ECh T X a .LtE .LtE b c σ B (decide (i ≤ j) && decide (j ≤ k)) := ech_I op_le op_le ha hb hc
theorem ech_ltLt {i j k : Int} (ha : ED T X a σ B (.int i)) (hb : ED T X b σ B (.int j)) (hc : ED T X c σ B (.int k)) : ECh T X a .Lt .Lt b c σ B (decide (i < j) && decide (j < k)) := ech_I op_lt op_lt ha hb hc
end
end Cw

namespace Cw
open PySem PySem.Spec PyProof.Rows L2
section
variable {T : List Addr} {X : Cx} {e a b c : Expr} {es : List Expr} {σ : L2.St} {B C : Hp} {R Ra Rb : RV} {pos : Pos}
/-! ## tests -/
theorem et_val {k : Bool} (h : ED T X e σ B (.bool k)) (he : ∀ whole, isTrue e X.env whole = (do let v ← whole; standAt e.pos; holding [v] (truthy v)) := by intro _; rfl) : ET T X e σ B k := fun H w Q q =>
  wt_of (pt_val pwe he) (h H w _ fun v B' H' g r => ⟨k, r.toBool, q B' H' g⟩)
/-- truth of a list -/
theorem et_list {ds : List PyData} (h : ED T X e σ B (.list ds)) (he : ∀ whole, isTrue e X.env whole = (do let v ← whole; standAt e.pos; holding [v] (truthy v)) := by intro _; rfl) : ET T X e σ B (!ds.isEmpty) := fun H w Q q =>
  wt_of (pt_truth pwe he) (h H w _ fun v B' H' g r => by
    obtain ⟨p, xs, rfl, hp, hr⟩ := r.toList
    have e1 : xs.isEmpty = ds.isEmpty := by
      have := hr.length
      cases xs <;> cases ds <;> simp_all
    exact ⟨!ds.isEmpty, .inl ⟨xs, .inl (.inl (g.wd.ex.lst hp)), by rw [e1]⟩, q B' H' g⟩)
theorem et_not {k : Bool} (h : ET T X a σ B k) : ET T X (.UnaryOp .Not a pos) σ B (!k) := fun H w Q q => wt_of (pt_not pwt) (h H w _ fun B' H' g => q B' H' g)
theorem ew_and1 {k : Bool} (h : ET T X a σ B k) : EWt T X (.BoolOp .And [a] pos) σ B k := fun H w Q q => ww_of (pw_and1 pwt) (h H w _ q)
theorem ew_or1 {k : Bool} (h : ET T X a σ B k) : EWt T X (.BoolOp .Or [a] pos) σ B k := fun H w Q q => ww_of (pw_or1 pwt) (h H w _ q)
theorem ew_and {k m : Bool} (h : ET T X a σ B k) (h2 : k = true → EWt T X (.BoolOp .And (b :: es) pos) σ B m) : EWt T X (.BoolOp .And (a :: b :: es) pos) σ B (k && m) := fun H w Q q =>
  ww_of (pw_and pwt pww) (h H w _ fun B1 H1 g => by
    cases k with
    | true => exact (h2 rfl).mono g.eb H1 g.wd _ fun B2 H2 g2 => q B2 H2 (g.trans g2)
    | false => exact q B1 H1 g)
theorem ew_or {k m : Bool} (h : ET T X a σ B k) (h2 : k = false → EWt T X (.BoolOp .Or (b :: es) pos) σ B m) : EWt T X (.BoolOp .Or (a :: b :: es) pos) σ B (k || m) := fun H w Q q =>
  ww_of (pw_or pwt pww) (h H w _ fun B1 H1 g => by
    cases k with
    | false => exact (h2 rfl).mono g.eb H1 g.wd _ fun B2 H2 g2 => q B2 H2 (g.trans g2)
    | true => exact q B1 H1 g)
theorem et_is {k m : Bool} (h : ET T X e σ B k) (i : k = m) : ET T X e σ B m := i ▸ h
theorem ed_is {d f : PyData} (h : ED T X e σ B d) (i : d = f) : ED T X e σ B f := i ▸ h
/-- and, or, not as values -/
theorem ed_one {d : PyData} {op : BoolOp} (h : ED T X a σ B d) : ED T X (.BoolOp op [a] pos) σ B d := fun H w Q q => we_of (pe_one pwe) (h H w Q q)
theorem ed_and {k m : Bool} (h : ED T X a σ B (.bool k)) (h2 : k = true → ED T X (.BoolOp .And (b :: es) pos) σ B (.bool m)) : ED T X (.BoolOp .And (a :: b :: es) pos) σ B (.bool (k && m)) := fun H w Q q =>
  we_of (pe_and pwe pwe) (h H w _ fun v B1 H1 g r => ⟨k, r.toBool, by
    cases k with
    | true => exact (h2 rfl).mono g.eb H1 g.wd _ fun v B2 H2 g2 r2 => q v B2 H2 (g.trans g2) r2
    | false => exact q _ B1 H1 g (.bl _)⟩)
theorem ed_or {k m : Bool} (h : ED T X a σ B (.bool k)) (h2 : k = false → ED T X (.BoolOp .Or (b :: es) pos) σ B (.bool m)) : ED T X (.BoolOp .Or (a :: b :: es) pos) σ B (.bool (k || m)) := fun H w Q q =>
  we_of (pe_or pwe pwe) (h H w _ fun v B1 H1 g r => ⟨k, r.toBool, by
    cases k with
    | false => exact (h2 rfl).mono g.eb H1 g.wd _ fun v B2 H2 g2 r2 => q v B2 H2 (g.trans g2) r2
    | true => exact q _ B1 H1 g (.bl _)⟩)
theorem ed_not {k : Bool} (h : ED T X a σ B (.bool k)) : ED T X (.UnaryOp .Not a pos) σ B (.bool (!k)) := fun H w Q q =>
  we_of (pe_not pwe) (h H w _ fun v B1 H1 g r => ⟨k, r.toBool, q _ B1 H1 g (.bl _)⟩)
theorem ed_if {k : Bool} {d : PyData} (h : ET T X c σ B k) (h1 : k = true → ED T X a σ B d) (h2 : k = false → ED T X b σ B d) : ED T X (.IfExp c a b pos) σ B d := fun H w Q q =>
  we_of (pe_ifExp pwt pwe pwe) (h H w _ fun B1 H1 g => by
    cases k with
    | true => exact (h1 rfl).mono g.eb H1 g.wd _ fun v B2 H2 g2 r2 => q v B2 H2 (g.trans g2) r2
    | false => exact (h2 rfl).mono g.eb H1 g.wd _ fun v B2 H2 g2 r2 => q v B2 H2 (g.trans g2) r2)

/-! ## arguments -/
abbrev EAd (T : List Addr) (X : Cx) (es : List Expr) (σ : L2.St) (B : Hp) (ds : List PyData) : Prop := EA T X es σ B fun B' vs => Dts B' vs ds
theorem ea_nil : EAd T X [] σ B [] := fun H w Q q => wa_of pa_nil (q [] B H (Go.rfl w) .nil)
theorem ea_cons {d : PyData} {ds : List PyData} (h : ED T X a σ B d) (h2 : EAd T X es σ B ds) (hs : starEach (a :: es) X.env = (false, eval a X.env) :: starEach es X.env := by rfl) : EAd T X (a :: es) σ B (d :: ds) := fun H w Q q =>
  wa_of (pa_cons pwe pwa hs) (h H w _ fun v B1 H1 g r => by
    refine h2 H ⟨w.ex, w.gd⟩ (fun _ _ => True) (fun _ _ _ _ _ => trivial) |> fun _ => ?_
    have wide : wa X es σ H1 fun vs H2 => Q (v :: vs) H2 := h2 H1 ⟨g.eb.trans g.wd.ex, g.wd.gd⟩ _ fun vs B2 H2 g2 r2 => by
      obtain ⟨g3, e3⟩ := Go.widen g.eb g.wd g2
      exact q _ _ H2 (g.trans g3) (.cons (r.mono g3.eb) (r2.mono e3))
    exact wide)
/-- arguments of any kind: the first one by its word -/
theorem ea_consG {Rs : Hp → List V → Prop} (h : EV T X a σ B Ra) (ma : Mono Ra) (h2 : EA T X es σ B Rs) (ms : ∀ B B' vs, Ex B B' → Rs B vs → Rs B' vs) (hs : starEach (a :: es) X.env = (false, eval a X.env) :: starEach es X.env := by rfl) :
    EA T X (a :: es) σ B (fun B' vs => ∃ v r, vs = v :: r ∧ Ra B' v ∧ Rs B' r) := fun H w Q q =>
  wa_of (pa_cons pwe pwa hs) (h H w _ fun v B1 H1 g r => by
    have wide : wa X es σ H1 fun vs H2 => Q (v :: vs) H2 := h2 H1 ⟨g.eb.trans g.wd.ex, g.wd.gd⟩ _ fun vs B2 H2 g2 r2 => by
      obtain ⟨g3, e3⟩ := Go.widen g.eb g.wd g2
      exact q _ _ H2 (g.trans g3) ⟨v, vs, rfl, ma _ _ _ g3.eb r, ms _ _ _ e3 r2⟩
    exact wide)
theorem EA.imp {Rs Rs' : Hp → List V → Prop} (h : EA T X es σ B Rs) (i : ∀ B' vs, Ex B B' → Rs B' vs → Rs' B' vs) : EA T X es σ B Rs' := fun H w Q q => h H w Q fun v B' H' g r => q v B' H' g (i B' v g.eb r)

/-! ## displays, subscripts, slices -/
theorem sz100 {n : Nat} (h : n ≤ 100000) : n ≤ sizeLine := Nat.le_trans h (by decide)
theorem ed_list {ds : List PyData} (h : EAd T X es σ B ds) (hl : ds.length ≤ 100000) : ED T X (.List es pos) σ B (.list ds) := fun H w Q q =>
  we_of (pe_lst pwa) (h H w _ fun vs B1 H1 g r => ⟨sz100 (by rw [r.length]; exact hl), fun p hp => by
    have n := Go.new (o := .lst vs) g.wd hp
    exact q _ _ _ (g.trans n) (.lst upd_same (r.mono n.eb))⟩)
theorem ed_tuple {ds : List PyData} {x1 : Nat} (h : EAd T X es σ B ds) (hl : ds.length ≤ 100000) : ED T X (.Tuple es x1 pos) σ B (.tuple ds) := fun H w Q q =>
  we_of (pe_tup pwa) (h H w _ fun vs B1 H1 g r => ⟨sz100 (by rw [r.length]; exact hl), fun p hp => by
    have n := Go.new (o := .tup vs) g.wd hp
    exact q _ _ _ (g.trans n) (.tup upd_same (r.mono n.eb))⟩)
theorem atI_of {xs : List V} {ds : List PyData} {i : Int} {d : PyData} {B : Hp} (r : Dts B xs ds) (h : atI ds i = some d) : ∃ x, atI xs i = some x ∧ Dt B x d := by
  unfold atI at h ⊢
  rw [r.length]
  cases e : ixN ds.length i with
  | none =>
    rw [e] at h
    cases h
  | some j =>
    rw [e] at h
    exact r.get h
theorem ed_ix {ds : List PyData} {i : Int} {d : PyData} (ha : ED T X a σ B (.list ds)) (hb : ED T X b σ B (.int i)) (hd : atI ds i = some d) (hs : PlainIx b := by exact fun _ _ => rfl) : ED T X (.Subscript a b pos) σ B d :=
  ev_ix ix_list hs ha mono_dt hb mono_dt fun B1 H1 x y _ w rx ry Q q => by
    obtain ⟨p, xs, rfl, hp, hr⟩ := rx.toList
    obtain ⟨v, hv, hd'⟩ := atI_of hr hd
    exact ⟨p, xs, i, v, rfl, ry.toInt, .inl (.inl (w.ex.lst hp)), hv, q v B1 H1 (Go.rfl w) hd'⟩
theorem ed_ixT {ds : List PyData} {i : Int} {d : PyData} (ha : ED T X a σ B (.tuple ds)) (hb : ED T X b σ B (.int i)) (hd : atI ds i = some d) (hs : PlainIx b := by exact fun _ _ => rfl) : ED T X (.Subscript a b pos) σ B d :=
  ev_ix ix_tup hs ha mono_dt hb mono_dt fun B1 H1 x y _ w rx ry Q q => by
    obtain ⟨p, xs, rfl, hp, hr⟩ := rx.toTup
    obtain ⟨v, hv, hd'⟩ := atI_of hr hd
    exact ⟨p, xs, i, v, rfl, ry.toInt, .inl (.inl (w.ex.tup hp)), hv, q v B1 H1 (Go.rfl w) hd'⟩
/-- the part of a slice -/
def wo (X : Cx) : Option Expr → TO
  | none => tNoPart
  | some e => tPart (we X e)
theorem pwo : ∀ o : Option Expr, PO X o (wo X o)
  | none => po_none
  | some _ => po_some pwe
def EO (T : List Addr) (X : Cx) (e : Option Expr) (σ : L2.St) (B : Hp) (o : Option Int) : Prop := ∀ H, Wd T B H → ∀ Q : Option Int → Hp → Prop, (∀ B' H', Go T B H B' H' → Q o H') → wo X e σ H Q
theorem EO.mono {e : Option Expr} {o : Option Int} (h : EO T X e σ B o) (x : Ex B C) : EO T X e σ C o := fun H w Q q =>
  h H ⟨x.trans w.ex, w.gd⟩ Q fun B' H' g => q _ H' (Go.widen x w g).1
theorem eo_none : EO T X none σ B none := fun H w Q q => q B H (Go.rfl w)
theorem eo_some {i : Int} (h : ED T X a σ B (.int i)) : EO T X (some a) σ B (some i) := fun H w Q q => h H w _ fun v B' H' g r => ⟨i, r.toInt, q B' H' g⟩
def cutD (xs : List PyData) (lo hi : Option Int) : List PyData := (xs.drop (HT.sIx xs.length 0 lo)).take (HT.sIx xs.length xs.length hi - HT.sIx xs.length 0 lo)
theorem Dts.cut {xs : List V} {ds : List PyData} (r : Dts B xs ds) (lo hi : Option Int) : Dts B (cutV xs lo hi) (cutD ds lo hi) := by
  unfold cutV cutD
  rw [r.length]
  exact (r.drop _).take _
theorem ed_slice {ds : List PyData} {lo hi : Option Expr} {l h : Option Int} {p2 : Pos} (ha : ED T X a σ B (.list ds)) (hl : EO T X lo σ B l) (hh : EO T X hi σ B h) : ED T X (.Subscript a (.Slice lo hi none p2) pos) σ B (.list (cutD ds l h)) := fun H w Q q =>
  we_of (pe_slice sl_list pwe (pwo _) (pwo _)) (ha H w _ fun v B1 H1 g1 r1 => (hl.mono g1.eb) H1 g1.wd _ fun B2 H2 g2 => (hh.mono (g1.eb.trans g2.eb)) H2 g2.wd _ fun B3 H3 g3 => by
    obtain ⟨p, xs, rfl, hp, hr⟩ := r1.toList
    have e3 := (g2.eb.trans g3.eb)
    refine ⟨p, xs, rfl, .inl (.inl (g3.wd.ex.lst (e3.lst hp))), fun t ht => ?_⟩
    have n := Go.new (o := .lst (cutV xs l h)) g3.wd ht
    exact q _ _ _ (((g1.trans g2).trans g3).trans n) (.lst upd_same ((hr.mono (e3.trans n.eb)).cut l h)))

/-! ## operators on lists -/
theorem ed_cat {ds fs : List PyData} (ha : ED T X a σ B (.list ds)) (hb : ED T X b σ B (.list fs)) (hl : ds.length + fs.length ≤ 100000) : ED T X (.BinOp a .Add b pos) σ B (.list (ds ++ fs)) :=
  ev_op op_cat ha mono_dt hb mono_dt fun B1 H1 x y _ w rx ry Q q => by
    obtain ⟨p, xs, rfl, hp, hx⟩ := rx.toList
    obtain ⟨t, ys, rfl, ht, hy⟩ := ry.toList
    refine ⟨p, t, xs, ys, rfl, rfl, w.ex.lst hp, w.ex.lst ht, sz100 (by rw [hx.length, hy.length]; exact hl), fun u hu => ?_⟩
    have n := Go.new (o := .lst (xs ++ ys)) w hu
    exact q _ _ _ n (.lst upd_same ((hx.mono n.eb).append (hy.mono n.eb)))
theorem ed_rep {ds : List PyData} {k : Int} (ha : ED T X a σ B (.list ds)) (hb : ED T X b σ B (.int k)) (hk : 0 ≤ k ∧ k ≤ 1000) (hl : ds.length ≤ 100) : ED T X (.BinOp a .Mult b pos) σ B (.list (List.replicate k.toNat ds).flatten) :=
  ev_op op_rep ha mono_dt hb mono_dt fun B1 H1 x y _ w rx ry Q q => by
    obtain ⟨p, xs, rfl, hp, hx⟩ := rx.toList
    have z : xs.length * k.toNat ≤ 100 * 1000 := Nat.mul_le_mul (by rw [hx.length]; exact hl) (by omega)
    refine ⟨p, k, xs, rfl, ry.toInt, w.ex.lst hp, by omega, by omega, sz100 (by omega), fun u hu => ?_⟩
    have n := Go.new (o := .lst (List.replicate k.toNat xs).flatten) w hu
    exact q _ _ _ n (.lst upd_same ((hx.mono n.eb).rep _))
theorem ed_revL {ds : List PyData} {k : Nat} {p1 p2 p3 : Pos} (p : ∀ {te : TE}, PE X a te → PE X e (fun σ H Q => te σ H fun x H1 => ∃ a xs, x = .ref a ∧ SqL X.K H1 a xs ∧ ∀ p, H1 p = none → Q (.ref p) (upd H1 p (.lst xs.reverse)))) (ha : ED T X a σ B (.list ds)) : ED T X e σ B (.list ds.reverse) := fun H w Q q =>
  we_of (p pwe) (ha H w _ fun v B1 H1 g1 r1 => by
    obtain ⟨p, xs, rfl, hp, hr⟩ := r1.toList
    refine ⟨p, xs, rfl, .inl (.inl (g1.wd.ex.lst hp)), fun t ht => ?_⟩
    have n := Go.new (o := .lst xs.reverse) g1.wd ht
    exact q _ _ _ (g1.trans n) (.lst upd_same (hr.mono n.eb).rev))

/-! ## calls of built-ins -/
theorem ev_callB {Rs : Hp → List V → Prop} {x : Str} {p : Pos} {id : String} {r : List V → Hp → VK → Prop} (hc : CallR X (.builtin id) r) (hg : Gl X x) (hm : X.mg x = none) (hv : bootBuiltins x = some (.builtin id)) (ha : EA T X (a :: es) σ B Rs)
    (hr : ∀ B1 H1 vs, Ex B B1 → Wd T B1 H1 → Rs B1 vs → ∀ Q : VK, (∀ v B' H', Go T B1 H1 B' H' → R B' v → Q v H') → r vs H1 Q)
    (hn : x ≠ "__name__" := by decide) (hdb : (x == ("__debug__" : Str)) = false := by decide) (he : starEach (a :: es) X.env = (false, eval a X.env) :: starEach es X.env := by rfl) (hpl : (backTo pos (starEach es X.env)).any (·.1) = false := by rfl) : EV T X (.Call (.Name x p) (a :: es) [] pos) σ B R := fun H w Q q =>
  we_of (pe_callB hc hg hm hv pwa hn hdb he hpl) (ha H w _ fun vs B1 H1 g1 r1 => hr B1 H1 vs g1.eb g1.wd r1 Q fun v B2 H2 g2 r2 => q v B2 H2 (g1.trans g2) r2)
theorem ev_callTy {Rs : Hp → List V → Prop} {x : Str} {p : Pos} {id : String} {r : List V → Hp → VK → Prop} (hc : CallR X (.type id) r) (hg : Gl X x) (hm : X.mg x = none) (hv : bootBuiltins x = some (.type id)) (ha : EA T X (a :: es) σ B Rs)
    (hr : ∀ B1 H1 vs, Ex B B1 → Wd T B1 H1 → Rs B1 vs → ∀ Q : VK, (∀ v B' H', Go T B1 H1 B' H' → R B' v → Q v H') → r vs H1 Q)
    (hn : x ≠ "__name__" := by decide) (hdb : (x == ("__debug__" : Str)) = false := by decide) (he : starEach (a :: es) X.env = (false, eval a X.env) :: starEach es X.env := by rfl) (hpl : (backTo pos (starEach es X.env)).any (·.1) = false := by rfl) : EV T X (.Call (.Name x p) (a :: es) [] pos) σ B R := fun H w Q q =>
  we_of (pe_callTy hc hg hm hv pwa hn hdb he hpl) (ha H w _ fun vs B1 H1 g1 r1 => hr B1 H1 vs g1.eb g1.wd r1 Q fun v B2 H2 g2 r2 => q v B2 H2 (g1.trans g2) r2)
end
end Cw

namespace Cw
open PySem PySem.Spec PyProof.Rows L2
/-- the built-ins' names that the module leaves alone -/
structure Bi (mg : Str → Option Value) : Prop where
  len : mg "len" = none
  range : mg "range" = none
  list : mg "list" = none
  int : mg "int" = none
  type : mg "type" = none
  isi : mg "isinstance" = none
  bool : mg "bool" = none
  str : mg "str" = none
  tuple : mg "tuple" = none
  all : mg "all" = none
  ve : mg "ValueError" = none
  rev : mg "reversed" = none
  max : mg "max" = none
  min : mg "min" = none
  any : mg "any" = none
  sum : mg "sum" = none
  sorted : mg "sorted" = none
  set : mg "set" = none
  enum : mg "enumerate" = none
  zip : mg "zip" = none
def tyN : PyData → String
  | .none => "NoneType"
  | .bool _ => "bool"
  | .int _ => "int"
  | .str _ => "str"
  | .list _ => "list"
  | .tuple _ => "tuple"
  | .dict _ => "dict"
theorem Dt.tyB {K : PySem.W.Frag} {B : Hp} {v : V} {d : PyData} (h : Dt B v d) : TyB K B v (tyN d) := by
  cases h with
  | non => exact .non
  | bl b => exact .bl b
  | int i => exact .int i
  | str x => exact .str x
  | lst h r => exact .lst (.inl (.inl h))
  | tup h r => exact .tup (.inl (.inl h))
  | dic h => exact .dK h
theorem Dt.tyX {K : PySem.W.Frag} {B : Hp} {v : V} {d : PyData} (h : Dt B v d) : TyX K B v (.type (tyN d)) := by
  cases h with
  | non => exact .base .non
  | bl b => exact .base (.bl b)
  | int i => exact .base (.int i)
  | str x => exact .base (.str x)
  | lst h r => exact .base (.lst h)
  | tup h r => exact .base (.tup h)
  | dic h => exact .base (.dK h)
section
variable {T : List Addr} {X : Cx} {e a b c : Expr} {es : List Expr} {σ : L2.St} {B C : Hp} {R Ra Rb : RV} {pos p : Pos}
/-! ## built-ins on data -/
theorem ed_len {ds : List PyData} (h : ED T X a σ B (.list ds)) (hm : Bi X.mg) (hg : Gl X "len" := by rfl) (he : starEach [a] X.env = (false, eval a X.env) :: starEach [] X.env := by rfl) (hpl : (backTo pos (starEach [] X.env)).any (·.1) = false := by rfl) :
    ED T X (.Call (.Name "len" p) [a] [] pos) σ B (.int ds.length) :=
  ev_callB (Rs := fun B' vs => Dts B' vs [.list ds]) call_len_seq hg hm.len PySem.boot_len (ea_cons h ea_nil he) (fun B1 H1 vs _ w r Q q => by
    cases r with
    | cons h r =>
      cases r
      obtain ⟨t, xs, rfl, ht, hr⟩ := h.toList
      exact ⟨t, xs, rfl, .inl (.inl (.inl (w.ex.lst ht))), by rw [hr.length]; exact q _ B1 H1 (Go.rfl w) (.int _)⟩) (by decide) (by decide) he hpl
theorem ed_lenT {ds : List PyData} (h : ED T X a σ B (.tuple ds)) (hm : Bi X.mg) (hg : Gl X "len" := by rfl) (he : starEach [a] X.env = (false, eval a X.env) :: starEach [] X.env := by rfl) (hpl : (backTo pos (starEach [] X.env)).any (·.1) = false := by rfl) :
    ED T X (.Call (.Name "len" p) [a] [] pos) σ B (.int ds.length) :=
  ev_callB (Rs := fun B' vs => Dts B' vs [.tuple ds]) call_len_seq hg hm.len PySem.boot_len (ea_cons h ea_nil he) (fun B1 H1 vs _ w r Q q => by
    cases r with
    | cons h r =>
      cases r
      obtain ⟨t, xs, rfl, ht, hr⟩ := h.toTup
      exact ⟨t, xs, rfl, .inr (.inl (.inl (w.ex.tup ht))), by rw [hr.length]; exact q _ B1 H1 (Go.rfl w) (.int _)⟩) (by decide) (by decide) he hpl
/-- list(a list): a new one -/
theorem ed_listL {ds : List PyData} (h : ED T X a σ B (.list ds)) (hm : Bi X.mg) (hg : Gl X "list" := by rfl) (he : starEach [a] X.env = (false, eval a X.env) :: starEach [] X.env := by rfl) (hpl : (backTo pos (starEach [] X.env)).any (·.1) = false := by rfl) :
    ED T X (.Call (.Name "list" p) [a] [] pos) σ B (.list ds) :=
  ev_callTy (Rs := fun B' vs => Dts B' vs [.list ds]) call_list_of hg hm.list PyProof.Rows.boot_list (ea_cons h ea_nil he) (fun B1 H1 vs _ w r Q q => by
    cases r with
    | cons h r =>
      cases r
      obtain ⟨t, xs, rfl, ht, hr⟩ := h.toList
      refine ⟨t, xs, rfl, .inl (.inl (.inl (w.ex.lst ht))), fun u hu => ?_⟩
      have n := Go.new (o := .lst xs) w hu
      exact q _ _ _ n (.lst upd_same (hr.mono n.eb))) (by decide) (by decide) he hpl
theorem ed_tupleL {ds : List PyData} (h : ED T X a σ B (.list ds)) (hm : Bi X.mg) (hg : Gl X "tuple" := by rfl) (he : starEach [a] X.env = (false, eval a X.env) :: starEach [] X.env := by rfl) (hpl : (backTo pos (starEach [] X.env)).any (·.1) = false := by rfl) :
    ED T X (.Call (.Name "tuple" p) [a] [] pos) σ B (.tuple ds) :=
  ev_callTy (Rs := fun B' vs => Dts B' vs [.list ds]) call_tuple_of hg hm.tuple PyProof.Rows.boot_tuple (ea_cons h ea_nil he) (fun B1 H1 vs _ w r Q q => by
    cases r with
    | cons h r =>
      cases r
      obtain ⟨t, xs, rfl, ht, hr⟩ := h.toList
      refine ⟨t, xs, rfl, .inl ⟨.inl (.inl (w.ex.lst ht)), fun u hu => ?_⟩⟩
      have n := Go.new (o := .tup xs) w hu
      exact q _ _ _ n (.tup upd_same (hr.mono n.eb))) (by decide) (by decide) he hpl
/-- int(a truth) -/
def b2n (k : Bool) : Int := if k then 1 else 0
theorem ed_intB {k : Bool} (h : ED T X a σ B (.bool k)) (hm : Bi X.mg) (hg : Gl X "int" := by rfl) (he : starEach [a] X.env = (false, eval a X.env) :: starEach [] X.env := by rfl) (hpl : (backTo pos (starEach [] X.env)).any (·.1) = false := by rfl) :
    ED T X (.Call (.Name "int" p) [a] [] pos) σ B (.int (b2n k)) :=
  ev_callTy (Rs := fun B' vs => Dts B' vs [.bool k]) call_int1 hg hm.int PyProof.Rows.boot_int (ea_cons h ea_nil he) (fun B1 H1 vs _ w r Q q => by
    cases r with
    | cons h r =>
      cases r
      rw [h.toBool]
      exact .inr ⟨k, rfl, q _ B1 H1 (Go.rfl w) (.int _)⟩) (by decide) (by decide) he hpl
/-- a built-in class as a value -/
abbrev ETy (T : List Addr) (X : Cx) (e : Expr) (σ : L2.St) (B : Hp) (n : String) : Prop := EV T X e σ B fun _ v => v = .ty n
theorem ety {x : Str} {n : String} (hg : Gl X x) (hm : X.mg x = none) (hv : bootBuiltins x = some (.type n)) (hn : x ≠ "__name__" := by decide) (hd : (x == ("__debug__" : Str)) = false := by decide) : ETy T X (.Name x pos) σ B n :=
  ev_pe (v := .ty n) (pe_bltn hg hm hv (show L2.RelV (.ty n) (.type n) from rfl) hn hd) (fun _ _ _ q => q) rfl
theorem mono_c {P : V → Prop} : Mono fun _ v => P v := fun _ _ _ _ h => h
/-- type(x) -/
theorem ety_of {d : PyData} (h : ED T X a σ B d) (hm : Bi X.mg) (hg : Gl X "type" := by rfl) (he : starEach [a] X.env = (false, eval a X.env) :: starEach [] X.env := by rfl) (hpl : (backTo pos (starEach [] X.env)).any (·.1) = false := by rfl) :
    ETy T X (.Call (.Name "type" p) [a] [] pos) σ B (tyN d) :=
  ev_callTy (Rs := fun B' vs => Dts B' vs [d]) call_type1 hg hm.type PyProof.Rows.boot_type (ea_cons h ea_nil he) (fun B1 H1 vs _ w r Q q => by
    cases r with
    | cons h r =>
      cases r
      exact ⟨_, _, rfl, (h.mono w.ex).tyB, q _ B1 H1 (Go.rfl w) rfl⟩) (by decide) (by decide) he hpl
theorem ec_isTy {m n : String} (ha : ETy T X a σ B m) (hb : ETy T X b σ B n) : EC T X a .Is b σ B (decide (m = n)) :=
  ec_of op_isTy (nomark _) ha mono_c hb mono_c fun B1 H1 x y _ w rx ry Q q => ⟨m, n, rx, ry, q⟩
theorem ec_notTy {m n : String} (ha : ETy T X a σ B m) (hb : ETy T X b σ B n) : EC T X a .IsNot b σ B (!decide (m = n)) :=
  ec_of op_notTyB (nomark _) ha mono_c hb mono_c fun B1 H1 x y _ w rx ry Q q => ⟨m, n, rx, ry, q⟩
/-- isinstance(x, a built-in class) -/
theorem ed_isi {d : PyData} {n : String} {k : Bool} (ha : ED T X a σ B d) (hb : ETy T X b σ B n) (hk : kitB (tyN d) n = some k) (hm : Bi X.mg) (hg : Gl X "isinstance" := by rfl)
    (he : starEach [a, b] X.env = (false, eval a X.env) :: starEach [b] X.env := by rfl) (he2 : starEach [b] X.env = (false, eval b X.env) :: starEach [] X.env := by rfl) (hpl : (backTo pos (starEach [b] X.env)).any (·.1) = false := by rfl) :
    ED T X (.Call (.Name "isinstance" p) [a, b] [] pos) σ B (.bool k) :=
  ev_callB call_isi hg hm.isi PyProof.Rows.boot_isinstance (ea_consG ha mono_dt (ea_consG hb mono_c ea_nil (fun _ _ _ x h => h.mono x) he2) (fun B B' vs x h => by
      obtain ⟨v, r, e, h1, h2⟩ := h
      exact ⟨v, r, e, h1, h2.mono x⟩) he) (fun B1 H1 vs _ w r Q q => by
    obtain ⟨v, r, rfl, h1, u, r2, rfl, rfl, h3⟩ := r
    cases h3
    exact ⟨v, _, _, _, k, rfl, .ty n, (h1.mono w.ex).tyX, kit_ty hk, q _ B1 H1 (Go.rfl w) (.bl _)⟩) (by decide) (by decide) he hpl

/-! ## comprehensions -/
/-- the tests of one clause -/
def ETs (T : List Addr) (X : Cx) (ifs : List Expr) (σ : L2.St) (B : Hp) (k : Bool) : Prop := ∀ H, Wd T B H → ∀ Q : Bool → Hp → Prop, (∀ B' H', Go T B H B' H' → Q k H') → wts X ifs σ H Q
where wts (X : Cx) (ifs : List Expr) : TT := fun σ H Q => ∀ (pins : List (Addr × Obj)) (s : Shared), Inv X pins σ H s →
  wpAny (model X.prog X.w) X.A (forIn ifs true fun c r => if r = true then do let ok ← isTrue c X.env (eval c X.env); pure (ForInStep.yield ok) else pure (ForInStep.yield r)) (TP X pins σ Q) X.xe s
theorem ets_nil : ETs T X [] σ B true := fun H w Q q pins s I => pts_nil.run pins s σ H Q I (q B H (Go.rfl w))
theorem ets_one {k : Bool} (h : ET T X c σ B k) : ETs T X [c] σ B k := fun H w Q q pins s I => (pts_one pwt).run pins s σ H Q I (h H w Q q)
theorem ETs.mono {ifs : List Expr} {k : Bool} (h : ETs T X ifs σ B k) (x : Ex B C) : ETs T X ifs σ C k := fun H w Q q =>
  h H ⟨x.trans w.ex, w.gd⟩ Q fun B' H' g => q _ H' (Go.widen x w g).1
theorem wipe_set (σ : L2.St) (j : Nat) (v : V) : wipe ((wipe σ [j]).set j (some v)) [j] = wipe σ [j] := by
  show ((σ.set j none).set j (some v)).set j none = σ.set j none
  rw [List.set_set, List.set_set]
/-- the block of a comprehension -/
abbrev blkX (X : Cx) (scope : Scope) (s : Shared) (H : Hp) (A : Addr) (cl : List (Str × Addr)) (fp : List Addr) : Cx := X.blk s H scope (compEnvC scope cl A X.env) fp
/-- the list that a comprehension makes: what is made so far stands beside the base -/
def Mk (T : List Addr) (B1 H1 : Hp) (D : Addr) (ds : List PyData) (H' : Hp) : Prop := ∃ B' xs, Go T B1 H1 B' H' ∧ B' D = none ∧ H' D = some (.lst xs) ∧ Dts B' xs ds
theorem Mk.start {B1 H1 : Hp} {D : Addr} (w : Wd T B1 H1) (h : H1 D = none) : Mk T B1 H1 D [] (upd H1 D (.lst [])) :=
  ⟨B1, [], Go.newH w h, w.ex.free h, upd_same, .nil⟩
theorem Go.mutD {B1 H1 B' H' : Hp} {D : Addr} {xs ys : List V} (g : Go T B1 H1 B' H') (h1 : H1 D = none) (h2 : B' D = none) (h3 : H' D = some (.lst xs)) : Go T B1 H1 B' (upd H' D (.lst ys)) :=
  ⟨⟨g.wd.ex.mut h2, g.wd.gd.upd fun ps z => by rw [h3] at z; cases z⟩, g.eb, g.eh.mut h1, g.fr⟩
theorem Mk.push {B1 H1 B' H' B2 H2 : Hp} {D : Addr} {xs : List V} {ds : List PyData} {v : V} {d : PyData} (h1 : H1 D = none) (g : Go T B1 H1 B' H') (h2 : B' D = none) (h3 : H' D = some (.lst xs)) (r : Dts B' xs ds) (g2 : Go T B' H' B2 H2) (rv : Dt B2 v d) :
    H2 D = some (.lst xs) ∧ Mk T B1 H1 D (ds ++ [d]) (upd H2 D (.lst (xs ++ [v]))) := by
  have e3 := g2.eh.lst h3
  have f2 : B2 D = none := g2.out h2 (by rw [h3]; exact fun w => nomatch w)
  exact ⟨e3, B2, xs ++ [v], (g.trans g2).mutD h1 f2 e3, f2, upd_same, (r.mono g2.eb).append (.one rv)⟩
theorem Mk.done {B1 H1 H' : Hp} {D : Addr} {ds : List PyData} (h1 : H1 D = none) (m : Mk T B1 H1 D ds H') : ∃ B', Go T B1 H1 B' H' ∧ ∃ ws, B' D = some (.lst ws) ∧ Dts B' ws ds := by
  obtain ⟨B', xs, g, h2, h3, r⟩ := m
  refine ⟨upd B' D (.lst xs), ⟨⟨fun a o h => ?_, g.wd.gd⟩, g.eb.trans (Ex.new h2), g.eh, fun a ha hb => ?_⟩, xs, upd_same, r.mono (Ex.new h2)⟩
  · by_cases c : a = D
    · subst c
      rw [upd_same] at h
      cases h
      exact .inl h3
    · rw [upd_ne c] at h
      exact g.wd.ex a o h
  · by_cases c : a = D
    · rw [c]
      exact h1
    · rw [upd_ne c] at hb
      exact g.fr a ha hb
/-- what a comprehension over data gives -/
def made (p : PyData → Bool) (f : PyData → PyData) (ds : List PyData) : List PyData := (ds.filter p).map f
theorem made_more {p : PyData → Bool} {f : PyData → PyData} {ds : List PyData} {i : Nat} {d : PyData} (h : ds[i]? = some d) : made p f (ds.take (i + 1)) = if p d = true then made p f (ds.take i) ++ [f d] else made p f (ds.take i) := by
  unfold made
  rw [List.take_add_one, h, List.filter_append]
  by_cases c : p d = true
  · rw [if_pos c]
    simp [c]
  · rw [if_neg c]
    simp [c]
theorem made_len {p : PyData → Bool} {f : PyData → PyData} (ds : List PyData) : (made p f ds).length ≤ ds.length := by
  unfold made
  rw [List.length_map]
  exact List.length_filter_le _ _
/-- the block's tests and element, whatever block it is -/
def tts (X : Cx) (scope : Scope) (ifs : List Expr) : TT := fun σ H Q => ∀ (s : Shared) (H0 : Hp) (A : Addr) (cl : List (Str × Addr)) (fp : List Addr), ETs.wts (blkX X scope s H0 A cl fp) ifs σ H Q
def tes (X : Cx) (scope : Scope) (elt : Expr) : TE := fun σ H Q => ∀ (s : Shared) (H0 : Hp) (A : Addr) (cl : List (Str × Addr)) (fp : List Addr), we (blkX X scope s H0 A cl fp) elt σ H Q
/-- the block stands well: what a comprehension's rule asks of its scope, its one name x in slot j -/
structure Bk (X : Cx) (scope : Scope) (x : Str) (px : Pos) (j : Nat) : Prop where
  calm : X.calm = true
  nd : X.N.Nodup
  ok : BlkOk X.N X.env.scope scope [(x, j)]
  tg : ∀ (s : Shared) (H : Hp) (A : Addr) (cl : List (Str × Addr)) (fp : List Addr), PG (blkX X scope s H A cl fp) (.Name x px) (gName j)
/-- a new list of data: it does not stand in the base ahead -/
def NewD (B B' : Hp) (v : V) (ds : List PyData) : Prop := ∃ D ws, v = .ref D ∧ B D = none ∧ B' D = some (.lst ws) ∧ Dts B' ws ds
theorem NewD.dt {B B' : Hp} {v : V} {ds : List PyData} (n : NewD B B' v ds) : Dt B' v (.list ds) := by
  obtain ⟨D, ws, rfl, _, h, r⟩ := n
  exact .lst h r
/-- a comprehension gives a new list of data -/
structure LC (T : List Addr) (X : Cx) (elt iter : Expr) (ifs : List Expr) (scope : Scope) (x : Str) (px : Pos) (σ : L2.St) (B : Hp) (ds : List PyData) : Prop where
  ex : ∃ (j : Nat) (wi : TI), Bk X scope x px j ∧ PI X (.Name x px) iter wi ∧ ∀ H, Wd T B H → ∀ Q : VK, (∀ v B' H', Go T B H B' H' → NewD B B' v ds → Q v H') → tLc wi (gName j) (tts X scope ifs) (tes X scope elt) [j] σ H Q
theorem pts_tts {X : Cx} {scope : Scope} {ifs : List Expr} (s : Shared) (H0 : Hp) (A : Addr) (cl : List (Str × Addr)) (fp : List Addr) : PTs (X.blk s H0 scope (compEnvC scope cl A X.env) fp) ifs (tts X scope ifs) := ⟨fun pins s1 σ1 H1 Q1 I k => k s H0 A cl fp pins s1 I⟩
theorem pe_tes {X : Cx} {scope : Scope} {elt : Expr} (s : Shared) (H0 : Hp) (A : Addr) (cl : List (Str × Addr)) (fp : List Addr) : PE (X.blk s H0 scope (compEnvC scope cl A X.env) fp) elt (tes X scope elt) := ⟨fun pins s1 σ1 H1 Q1 I k => we_run (k s H0 A cl fp) pins s1 I⟩
theorem LC.ed {elt iter : Expr} {ifs : List Expr} {scope : Scope} {x : Str} {px : Pos} {ds : List PyData} (l : LC T X elt iter ifs scope x px σ B ds) (hs : ∀ x, foldedSetIterable iter X.env x = pure x := by intro _; rfl) :
    ED T X (.ListComp elt [⟨.Name x px, iter, ifs, 0⟩] scope pos) σ B (.list ds) := fun H w Q q => by
  obtain ⟨j, wi, k, hi, run⟩ := l.ex
  exact we_of (pe_lc (own := [(x, j)]) k.calm k.nd hi k.ok k.tg pts_tts pe_tes hs) (run H w Q fun v B' H' g r => q v B' H' g r.dt)
theorem LC.ev {elt iter : Expr} {ifs : List Expr} {scope : Scope} {x : Str} {px : Pos} {ds : List PyData} (l : LC T X elt iter ifs scope x px σ B ds) (hs : ∀ x, foldedSetIterable iter X.env x = pure x := by intro _; rfl) :
    EV T X (.ListComp elt [⟨.Name x px, iter, ifs, 0⟩] scope pos) σ B fun B' v => NewD B B' v ds := fun H w Q q => by
  obtain ⟨j, wi, k, hi, run⟩ := l.ex
  exact we_of (pe_lc (own := [(x, j)]) k.calm k.nd hi k.ok k.tg pts_tts pe_tes hs) (run H w Q q)
/-- one turn of a comprehension's block -/
theorem lc_turn {elt : Expr} {ifs : List Expr} {scope : Scope} {j : Nat} {B1 H1 H' B' : Hp} {D : Addr} {v : V} {ws : List V} {acc : List PyData} {k : Bool} {d : PyData} {P : Hp → Prop}
    (hD : H1 D = none) (g : Go T B1 H1 B' H') (h2 : B' D = none) (h3 : H' D = some (.lst ws)) (r : Dts B' ws acc) (hl : acc.length ≤ 10000) (hP : ∀ H2, Mk T B1 H1 D (if k = true then acc ++ [d] else acc) H2 → P H2)
    (ht : ∀ (s : Shared) (H : Hp) (A : Addr) (cl : List (Str × Addr)) (fp : List Addr), ETs T (blkX X scope s H A cl fp) ifs ((σ.set j none).set j (some v)) B' k)
    (he : k = true → ∀ (s : Shared) (H : Hp) (A : Addr) (cl : List (Str × Addr)) (fp : List Addr), ED T (blkX X scope s H A cl fp) elt ((σ.set j none).set j (some v)) B' d) :
    gName j v (wipe σ [j]) H' fun σ2 H2 => wipe σ2 [j] = wipe σ [j] ∧ tts X scope ifs σ2 H2 fun b H3 =>
      if b = true then tes X scope elt σ2 H3 fun y H4 => ∃ acc, H4 D = some (.lst acc) ∧ acc.length < sizeLine ∧ P (upd H4 D (.lst (acc ++ [y]))) else P H3 := by
  refine ⟨wipe_set σ j v, fun s H0 A cl fp => ?_⟩
  refine ht s H0 A cl fp H' g.wd _ fun B2 H2 g2 => ?_
  have f2 : B2 D = none := g2.out h2 (by rw [h3]; exact fun w => nomatch w)
  have h3' := g2.eh.lst h3
  cases k with
  | true =>
    intro s H0 A cl fp
    refine ((he rfl s H0 A cl fp).mono g2.eb) H2 g2.wd _ fun v B3 H3 g3 r3 => ?_
    obtain ⟨e4, m4⟩ := Mk.push hD (g.trans g2) f2 h3' (r.mono g2.eb) g3 r3
    exact ⟨ws, e4, Nat.lt_of_le_of_lt (show ws.length ≤ 10000 by rw [r.length]; exact hl) (by decide), hP _ m4⟩
  | false => exact hP H2 ⟨B2, ws, g.trans g2, f2, h3', r.mono g2.eb⟩
theorem lc_L {ds : List PyData} {elt iter : Expr} {ifs : List Expr} {scope : Scope} {x : Str} {px : Pos} {j : Nat} (p : PyData → Bool) (f : PyData → PyData) (k : Bk X scope x px j) (h : ED T X iter σ B (.list ds)) (hl : ds.length ≤ 10000)
    (ht : ∀ (s : Shared) (H : Hp) (A : Addr) (cl : List (Str × Addr)) (fp : List Addr) (d : PyData) (v : V) (B1 : Hp), d ∈ ds → Ex B B1 → Dt B1 v d → ETs T (blkX X scope s H A cl fp) ifs ((σ.set j none).set j (some v)) B1 (p d))
    (he : ∀ (s : Shared) (H : Hp) (A : Addr) (cl : List (Str × Addr)) (fp : List Addr) (d : PyData) (v : V) (B1 : Hp), d ∈ ds → p d = true → Ex B B1 → Dt B1 v d → ED T (blkX X scope s H A cl fp) elt ((σ.set j none).set j (some v)) B1 (f d)) :
    LC T X elt iter ifs scope x px σ B (made p f ds) := by
  refine ⟨j, _, k, pi_list pwe, fun H w Q q => ?_⟩
  refine h H w _ fun v B1 H1 g1 r1 => ?_
  obtain ⟨a, xs, rfl, ha, hr⟩ := r1.toList
  refine ⟨a, rfl, ⟨xs, .inl (.inl (g1.wd.ex.lst ha))⟩, fun D hD => lc_list (K := X.K) (a := a) (xs := xs) (g := gName j) (tt := tts X scope ifs) (te := tes X scope elt) (vs := [j]) (σ := σ) (D := D) (Qd := Q (.ref D)) (fun i H' => Mk T B1 H1 D (made p f (ds.take i)) H') (Mk.start g1.wd hD) (fun i H' _ m => ?_) (fun i y H' hy m => ?_) fun H' m => ?_⟩
  · obtain ⟨B', _, g, _⟩ := m
    exact .inl (.inl (g.wd.ex.lst (g.eb.lst ha)))
  · obtain ⟨B', ws, g, h2, h3, r⟩ := m
    obtain ⟨d, hd, ry⟩ := hr.getV hy
    have hm : d ∈ ds := List.mem_of_getElem? hd
    have e1 : Ex B B' := g1.eb.trans g.eb
    refine lc_turn (k := p d) (d := f d) hD g h2 h3 r ?_ (fun H2 m2 => by rw [made_more hd]; exact m2) (fun s H0 A cl fp => ht s H0 A cl fp d y B' hm e1 (ry.mono g.eb)) fun c s H0 A cl fp => he s H0 A cl fp d y B' hm c e1 (ry.mono g.eb)
    have := made_len (p := p) (f := f) (ds.take i)
    have l3 : (ds.take i).length ≤ 10000 := by rw [List.length_take]; omega
    omega
  · have e : ds.take xs.length = ds := by
      rw [hr.length]
      exact List.take_length
    rw [e] at m
    obtain ⟨B', g, ws, r1', r2'⟩ := m.done hD
    exact q _ B' H' (g1.trans g) ⟨D, ws, rfl, g1.eb.free (g1.wd.ex.free hD), r1', r2'⟩
/-- over a range: what is made of lo, lo + 1, .., n turns -/
def madeR (p : Int → Bool) (f : Int → PyData) (lo : Int) (n : Nat) : List PyData := (((List.range n).map fun (i : Nat) => lo + (i : Int)).filter p).map f
theorem madeR_more {p : Int → Bool} {f : Int → PyData} {lo : Int} {i : Nat} : madeR p f lo (i + 1) = if p (lo + (i : Int)) = true then madeR p f lo i ++ [f (lo + (i : Int))] else madeR p f lo i := by
  unfold madeR
  rw [List.range_succ, List.map_append, List.filter_append]
  by_cases c : p (lo + (i : Int)) = true
  · rw [if_pos c]
    simp [c]
  · rw [if_neg c]
    simp [c]
theorem madeR_len {p : Int → Bool} {f : Int → PyData} {lo : Int} (n : Nat) : (madeR p f lo n).length ≤ n := by
  unfold madeR
  rw [List.length_map]
  refine Nat.le_trans (List.length_filter_le _ _) ?_
  rw [List.length_map, List.length_range]
  exact Nat.le_refl _
theorem lc_rng {elt iter : Expr} {ifs : List Expr} {scope : Scope} {x : Str} {px : Pos} {j : Nat} {wi : TI} {lo : Int} {n : Nat} (p : Int → Bool) (f : Int → PyData) (k : Bk X scope x px j) (hi : PI X (.Name x px) iter wi) (hn : n ≤ 10000)
    (hw : ∀ H, Wd T B H → ∀ Rw : It → Hp → Prop, (∀ B1 H1, Go T B H B1 H1 → Rw (Itr lo n) H1) → wi σ H Rw)
    (ht : ∀ (s : Shared) (H : Hp) (A : Addr) (cl : List (Str × Addr)) (fp : List Addr) (i : Int) (B1 : Hp), lo ≤ i → i < lo + n → Ex B B1 → ETs T (blkX X scope s H A cl fp) ifs ((σ.set j none).set j (some (.int i))) B1 (p i))
    (he : ∀ (s : Shared) (H : Hp) (A : Addr) (cl : List (Str × Addr)) (fp : List Addr) (i : Int) (B1 : Hp), lo ≤ i → i < lo + n → p i = true → Ex B B1 → ED T (blkX X scope s H A cl fp) elt ((σ.set j none).set j (some (.int i))) B1 (f i)) :
    LC T X elt iter ifs scope x px σ B (madeR p f lo n) := by
  refine ⟨j, _, k, hi, fun H w Q q => ?_⟩
  refine hw H w _ fun B1 H1 g1 D hD => ?_
  refine lc_range (lo := lo) (n := n) (g := gName j) (tt := tts X scope ifs) (te := tes X scope elt) (vs := [j]) (σ := σ) (D := D) (Qd := Q (.ref D)) (fun i H' => Mk T B1 H1 D (madeR p f lo i) H') (Mk.start g1.wd hD) (fun i H' hi' m => ?_) fun H' m => ?_
  · obtain ⟨B', ws, g, h2, h3, r⟩ := m
    have e1 : Ex B B' := g1.eb.trans g.eb
    refine lc_turn (k := p (lo + i)) (d := f (lo + i)) hD g h2 h3 r ?_ (fun H2 m2 => by rw [madeR_more]; exact m2) (fun s H0 A cl fp => ht s H0 A cl fp _ B' (by omega) (by omega) e1) fun c s H0 A cl fp => he s H0 A cl fp _ B' (by omega) (by omega) c e1
    have := madeR_len (p := p) (f := f) (lo := lo) i
    omega
  · obtain ⟨B', g, ws, r1', r2'⟩ := m.done hD
    exact q _ B' H' (g1.trans g) ⟨D, ws, rfl, g1.eb.free (g1.wd.ex.free hD), r1', r2'⟩
/-- over range(a) -/
theorem lc_R1 {elt : Expr} {ifs : List Expr} {scope : Scope} {x : Str} {px pr : Pos} {j : Nat} {n : Int} (p : Int → Bool) (f : Int → PyData) (k : Bk X scope x px j) (h : ED T X a σ B (.int n)) (hn : 0 ≤ n ∧ n ≤ 10000) (hm : Bi X.mg)
    (ht : ∀ (s : Shared) (H : Hp) (A : Addr) (cl : List (Str × Addr)) (fp : List Addr) (i : Int) (B1 : Hp), 0 ≤ i → i < n → Ex B B1 → ETs T (blkX X scope s H A cl fp) ifs ((σ.set j none).set j (some (.int i))) B1 (p i))
    (he : ∀ (s : Shared) (H : Hp) (A : Addr) (cl : List (Str × Addr)) (fp : List Addr) (i : Int) (B1 : Hp), 0 ≤ i → i < n → p i = true → Ex B B1 → ED T (blkX X scope s H A cl fp) elt ((σ.set j none).set j (some (.int i))) B1 (f i))
    (hg : Gl X "range" := by rfl) (hs : starEach [a] X.env = [(false, eval a X.env)] := by rfl) :
    LC T X elt (.Call (.Name "range" pr) [a] [] pos) ifs scope x px σ B (madeR p f 0 n.toNat) :=
  lc_rng (lo := 0) (n := n.toNat) p f k (pi_range1 hg hm.range (pa_cons pwe pa_nil hs) hs) (by omega) (fun H w Rw q => h H w _ fun v B1 H1 g1 r1 => ⟨n, by rw [r1.toInt], by omega, by omega, q B1 H1 g1⟩)
    (fun s H A cl fp i B1 h1 h2 x => ht s H A cl fp i B1 h1 (by omega) x) (fun s H A cl fp i B1 h1 h2 c x => he s H A cl fp i B1 h1 (by omega) c x)
/-- over range(a, b) -/
theorem lc_R2 {elt : Expr} {ifs : List Expr} {scope : Scope} {x : Str} {px pr : Pos} {j : Nat} {m n : Int} (p : Int → Bool) (f : Int → PyData) (k : Bk X scope x px j) (h : ED T X a σ B (.int m)) (h2 : ED T X b σ B (.int n)) (hn : -10000 ≤ m ∧ m ≤ n ∧ n ≤ m + 10000 ∧ m ≤ 10000) (hm : Bi X.mg)
    (ht : ∀ (s : Shared) (H : Hp) (A : Addr) (cl : List (Str × Addr)) (fp : List Addr) (i : Int) (B1 : Hp), m ≤ i → i < n → Ex B B1 → ETs T (blkX X scope s H A cl fp) ifs ((σ.set j none).set j (some (.int i))) B1 (p i))
    (he : ∀ (s : Shared) (H : Hp) (A : Addr) (cl : List (Str × Addr)) (fp : List Addr) (i : Int) (B1 : Hp), m ≤ i → i < n → p i = true → Ex B B1 → ED T (blkX X scope s H A cl fp) elt ((σ.set j none).set j (some (.int i))) B1 (f i))
    (hg : Gl X "range" := by rfl) (hs : starEach [a, b] X.env = [(false, eval a X.env), (false, eval b X.env)] := by rfl) (hs2 : starEach [b] X.env = [(false, eval b X.env)] := by rfl) :
    LC T X elt (.Call (.Name "range" pr) [a, b] [] pos) ifs scope x px σ B (madeR p f m (n - m).toNat) :=
  lc_rng (lo := m) (n := (n - m).toNat) p f k (pi_range2 hg hm.range (pa_cons pwe (pa_cons pwe pa_nil hs2) (by rw [hs2]; exact hs)) hs hs2) (by omega)
    (fun H w Rw q => h H w _ fun v B1 H1 g1 r1 => (h2.mono g1.eb) H1 g1.wd _ fun v2 B2 H2 g2 r2 => ⟨m, n, by rw [r1.toInt, r2.toInt], by omega, q B2 H2 (g1.trans g2)⟩)
    (fun s H A cl fp i B1 h1 h2 x => ht s H A cl fp i B1 h1 (by omega) x) (fun s H A cl fp i B1 h1 h2 c x => he s H A cl fp i B1 h1 (by omega) c x)
end
end Cw

namespace Cw
open PySem PySem.Spec PyProof.Rows L2
section
variable {T : List Addr} {X : Cx} {e a b c : Expr} {es : List Expr} {rest : List Stmt} {σ : L2.St} {B C H : Hp} {R Ra Rb : RV} {pos p : Pos} {D : Ends}
/-! ## statements -/
theorem s_nil (h : D.nx σ H) : wss X [] D σ H := wss_of pss_nil h
theorem s_cons {st : Stmt} (h : ws X st { D with nx := fun σ' H' => wss X rest D σ' H' } σ H) : wss X (st :: rest) D σ H := wss_of (pss_cons pws pwss) h
theorem s_set {x : Str} {px : Pos} {i : Nat} (w : Wd T B H) (h : EV T X e σ B R) (hN : X.N.Nodup) (hi : X.N[i]? = some x) (hx : Loc X.env.scope x) (k : ∀ v B' H', Go T B H B' H' → R B' v → wss X rest D (σ.set i (some v)) H')
    (hs : swapsWith e (some (.Name x px)) pos.line X.env = pure false := by rfl) (hf : X.fn x = true ∨ X.env.scope.names.lookup x = some .local := by first | exact .inl rfl | exact .inr rfl | assumption) : wss X (.Assign [.Name x px] e pos :: rest) D σ H :=
  s_cons (ws_of (ps_set hN hi hx pwe hs hf) (h H w _ fun v B' H' g r => k v B' H' g r))
theorem s_setLc {x y : Str} {px py lpos : Pos} {i : Nat} {elt iter : Expr} {ifs : List Expr} {scope : Scope} {ds : List PyData} (w : Wd T B H) (l : LC T X elt iter ifs scope x px σ B ds) (hi : X.N[i]? = some y) (hyl : X.env.scope.names.lookup y = some .local)
    (hsw : swapsWith (.ListComp elt [⟨.Name x px, iter, ifs, 0⟩] scope lpos) (some (.Name y py)) pos.line X.env = pure true) (k : ∀ v B' H', Go T B H B' H' → Dt B' v (.list ds) → wss X rest D (σ.set i (some v)) H')
    (hs : ∀ x, foldedSetIterable iter X.env x = pure x := by intro _; rfl) : wss X (.Assign [.Name y py] (.ListComp elt [⟨.Name x px, iter, ifs, 0⟩] scope lpos) pos :: rest) D σ H := by
  obtain ⟨j, wi, b, h1, run⟩ := l.ex
  exact s_cons (ws_of (ps_setLc (own := [(x, j)]) b.calm b.nd hi hyl hsw h1 b.ok b.tg pts_tts pe_tes hs) (run H w _ fun v B' H' g r => k v B' H' g r.dt))
theorem s_ret (w : Wd T B H) (h : EV T X e σ B R) (k : ∀ v B' H', Go T B H B' H' → R B' v → D.rt v H') : wss X (.Return (some e) pos :: rest) D σ H :=
  s_cons (ws_of (ps_ret pwe) (h H w _ fun v B' H' g r => k v B' H' g r))
theorem s_drop (w : Wd T B H) (h : EV T X e σ B R) (k : ∀ v B' H', Go T B H B' H' → R B' v → wss X rest D σ H') (hs : swapsWith e none pos.line X.env = pure false := by rfl) : wss X (.Expr e pos :: rest) D σ H :=
  s_cons (ws_of (ps_expr pwe hs) (h H w _ fun v B' H' g r => k v B' H' g r))
theorem s_if {k : Bool} {s1 s2 : List Stmt} (w : Wd T B H) (h : ET T X c σ B k) (h1 : k = true → ∀ B' H', Go T B H B' H' → wss X s1 { D with nx := fun σ' H' => wss X rest D σ' H' } σ H')
    (h2 : k = false → ∀ B' H', Go T B H B' H' → wss X s2 { D with nx := fun σ' H' => wss X rest D σ' H' } σ H') : wss X (.If c s1 s2 pos :: rest) D σ H :=
  s_cons (ws_of (ps_if pwt pwss pwss) (h H w _ fun B' H' g => by
    cases k with
    | true => exact h1 rfl B' H' g
    | false => exact h2 rfl B' H' g))
/-- an if whose way is known -/
theorem s_ifT {s1 s2 : List Stmt} (w : Wd T B H) (h : ET T X c σ B true) (h1 : ∀ B' H', Go T B H B' H' → wss X s1 { D with nx := fun σ' H' => wss X rest D σ' H' } σ H') : wss X (.If c s1 s2 pos :: rest) D σ H :=
  s_if w h (fun _ => h1) fun z => Bool.noConfusion z
theorem s_ifF {s1 s2 : List Stmt} (w : Wd T B H) (h : ET T X c σ B false) (h2 : ∀ B' H', Go T B H B' H' → wss X s2 { D with nx := fun σ' H' => wss X rest D σ' H' } σ H') : wss X (.If c s1 s2 pos :: rest) D σ H :=
  s_if w h (fun z => Bool.noConfusion z) fun _ => h2
/-- an if without else that is not taken -/
theorem s_skip {s1 : List Stmt} (w : Wd T B H) (h : ET T X c σ B false) (h2 : ∀ B' H', Go T B H B' H' → wss X rest D σ H') : wss X (.If c s1 [] pos :: rest) D σ H :=
  s_ifF w h fun B' H' g => s_nil (h2 B' H' g)
/-- x.append(e): the list at A stands beside the base -/
theorem s_app {x : Str} {p1 p2 : Pos} {i : Nat} {A : Addr} {xs : List V} (w : Wd T B H) (hv : σ[i]? = some (some (.ref A))) (hA : H A = some (.lst xs)) (hB : B A = none) (hl : xs.length < 100000) (h : EV T X e σ B R)
    (k : ∀ v B' H', Go T B H B' H' → R B' v → Wd T B' (upd H' A (.lst (xs ++ [v]))) → H' A = some (.lst xs) → B' A = none → wss X rest D σ (upd H' A (.lst (xs ++ [v]))))
    (hN : X.N[i]? = some x := by rfl) (hvis : Vis X.env.scope x := by first | exact Or.inl rfl | exact Or.inr (Or.inl rfl) | exact Or.inr (Or.inr rfl)) (hd : (x == ("__debug__" : Str)) = false := by decide) (hcd : (x == ("__classdict__" : Str)) = false := by decide)
    (hs : starEach [e] X.env = (false, eval e X.env) :: starEach [] X.env := by rfl)
    (pm : ∀ {to : TE} {t : TA}, PE X (.Name x p1) to → PA X [e] t → PE X (.Call (.Attribute (.Name x p1) "append" p2) [e] [] p) (tBM X.K "list" rAppend to t) := by
      exact fun q1 q2 => pe_bm PySem.F.plainAttrs_list PySem.F.slot_list_append PySem.F.type_list_append mt_append q1 q2)
    (hsw : swapsWith (.Call (.Attribute (.Name x p1) "append" p2) [e] [] p) none pos.line X.env = pure false := by rfl) : wss X (.Expr (.Call (.Attribute (.Name x p1) "append" p2) [e] [] p) pos :: rest) D σ H := by
  refine s_cons (ws_of (ps_expr (pm (pe_var hN hvis hd hcd) (pa_cons pwe pa_nil hs)) hsw) ?_)
  refine ⟨.ref A, hv, .inl ⟨rfl, xs, .inl (.inl hA)⟩, h H w _ fun v B' H' g r => ?_⟩
  have hA' := g.eh.lst hA
  have hB' := g.out hB (by rw [hA]; exact fun w => nomatch w)
  exact ⟨A, xs, v, rfl, rfl, hA', Nat.lt_of_lt_of_le hl (by decide), k v B' H' g r ⟨g.wd.ex.mut hB', g.wd.gd.upd fun ps z => by rw [hA'] at z; cases z⟩ hA' hB'⟩
/-! ## loops -/
theorem s_forL {x : Str} {px : Pos} {i : Nat} {iter : Expr} {body : List Stmt} {ds : List PyData} (Pv : Nat → L2.St → Hp → Hp → Prop) (w : Wd T B H) (h : ED T X iter σ B (.list ds)) (hN : X.N.Nodup) (hi : X.N[i]? = some x) (hx : Loc X.env.scope x)
    (hp : PassesOwn (model X.prog X.w) X.A X.env X.xe) (hc : X.calm = true)
    (h0 : ∀ B1 H1, Go T B H B1 H1 → Pv 0 σ B1 H1 ∧ ∀ i σ' B' H', Pv i σ' B' H' → Wd T B' H' ∧ Ex B1 B')
    (hs : ∀ n d v σ' B' H', ds[n]? = some d → Wd T B' H' → Dt B' v d → Pv n σ' B' H' → wss X body { D with nx := fun σ'' H'' => ∃ B'', Pv (n + 1) σ'' B'' H'', ct := fun σ'' H'' => ∃ B'', Pv (n + 1) σ'' B'' H'', bk := fun σ' H' => wss X rest D σ' H' } (σ'.set i (some v)) H')
    (hd : ∀ σ' B' H', Wd T B' H' → Pv ds.length σ' B' H' → wss X rest D σ' H')
    (hf : X.fn x = true ∨ X.env.scope.names.lookup x = some .local := by first | exact .inl rfl | exact .inr rfl | assumption) (hss : ∀ x, foldedSetIterable iter X.env x = pure x := by intro _; rfl) : wss X (.For (.Name x px) iter body [] pos :: rest) D σ H := by
  refine s_cons (ws_of (ps_for hp hc (pi_list pwe) (pg_name hN hi hx hf) pwss hss) ?_)
  refine h H w _ fun v B1 H1 g1 r1 => ?_
  obtain ⟨l, xs, rfl, hl, hr⟩ := r1.toList
  obtain ⟨p0, pk⟩ := h0 B1 H1 g1
  refine ⟨l, rfl, ⟨xs, .inl (.inl (g1.wd.ex.lst hl))⟩, for_list (K := X.K) (a := l) (xs := xs) (fun n σ' H' => ∃ B', Pv n σ' B' H') ⟨B1, p0⟩ (fun n σ' H' _ ⟨B', q⟩ => ?_) (fun n y σ' H' hy ⟨B', q⟩ => ?_) fun σ' H' ⟨B', q⟩ => ?_⟩
  · obtain ⟨w', x'⟩ := pk _ _ _ _ q
    exact .inl (.inl (w'.ex.lst (x'.lst hl)))
  · obtain ⟨w', x'⟩ := pk _ _ _ _ q
    obtain ⟨d, hd', ry⟩ := hr.getV hy
    exact hs n d y σ' B' H' hd' w' (ry.mono x') q
  · rw [hr.length] at q
    exact hd σ' B' H' (pk _ _ _ _ q).1 q
theorem s_forRng {x : Str} {px : Pos} {i : Nat} {iter : Expr} {body : List Stmt} {wi : TI} {lo : Int} {m : Nat} (Pv : Nat → L2.St → Hp → Hp → Prop) (w : Wd T B H) (hit : PI X (.Name x px) iter wi) (hN : X.N.Nodup) (hi : X.N[i]? = some x) (hx : Loc X.env.scope x)
    (hp : PassesOwn (model X.prog X.w) X.A X.env X.xe) (hc : X.calm = true)
    (hw : ∀ H, Wd T B H → ∀ Rw : It → Hp → Prop, (∀ B1 H1, Go T B H B1 H1 → Rw (Itr lo m) H1) → wi σ H Rw)
    (h0 : ∀ B1 H1, Go T B H B1 H1 → Pv 0 σ B1 H1)
    (hs : ∀ n σ' B' H', n < m → Pv n σ' B' H' → wss X body { D with nx := fun σ'' H'' => ∃ B'', Pv (n + 1) σ'' B'' H'', ct := fun σ'' H'' => ∃ B'', Pv (n + 1) σ'' B'' H'', bk := fun σ' H' => wss X rest D σ' H' } (σ'.set i (some (.int (lo + (n : Int))))) H')
    (hd : ∀ σ' B' H', Pv m σ' B' H' → wss X rest D σ' H')
    (hf : X.fn x = true ∨ X.env.scope.names.lookup x = some .local := by first | exact .inl rfl | exact .inr rfl | assumption) (hss : ∀ x, foldedSetIterable iter X.env x = pure x := by intro _; rfl) : wss X (.For (.Name x px) iter body [] pos :: rest) D σ H := by
  refine s_cons (ws_of (ps_for hp hc hit (pg_name hN hi hx hf) pwss hss) ?_)
  refine hw H w _ fun B1 H1 g1 => ?_
  refine for_range (lo := lo) (n := m) (fun n σ' H' => ∃ B', Pv n σ' B' H') ⟨B1, h0 B1 H1 g1⟩ (fun n σ' H' hn ⟨B', q⟩ => hs n σ' B' H' hn q) fun σ' H' ⟨B', q⟩ => hd σ' B' H' q
theorem s_forR1 {x : Str} {px pr p2 : Pos} {i : Nat} {body : List Stmt} {m : Int} (Pv : Nat → L2.St → Hp → Hp → Prop) (w : Wd T B H) (h : ED T X a σ B (.int m)) (hm : m < 2 ^ 62 ∧ -(2 ^ 62) ≤ m) (bi : Bi X.mg) (hN : X.N.Nodup) (hi : X.N[i]? = some x) (hx : Loc X.env.scope x)
    (hp : PassesOwn (model X.prog X.w) X.A X.env X.xe) (hc : X.calm = true)
    (h0 : ∀ B1 H1, Go T B H B1 H1 → Pv 0 σ B1 H1)
    (hs : ∀ (n : Nat) σ' B' H', (n : Int) < m → Pv n σ' B' H' → wss X body { D with nx := fun σ'' H'' => ∃ B'', Pv (n + 1) σ'' B'' H'', ct := fun σ'' H'' => ∃ B'', Pv (n + 1) σ'' B'' H'', bk := fun σ' H' => wss X rest D σ' H' } (σ'.set i (some (.int (n : Int)))) H')
    (hd : ∀ σ' B' H', Pv m.toNat σ' B' H' → wss X rest D σ' H') (hg : Gl X "range" := by rfl) (hst : starEach [a] X.env = [(false, eval a X.env)] := by rfl)
    (hf : X.fn x = true ∨ X.env.scope.names.lookup x = some .local := by first | exact .inl rfl | exact .inr rfl | assumption) (hss : ∀ x, foldedSetIterable (.Call (.Name "range" pr) [a] [] p2) X.env x = pure x := by intro _; rfl) : wss X (.For (.Name x px) (.Call (.Name "range" pr) [a] [] p2) body [] pos :: rest) D σ H :=
  s_forRng (lo := 0) (m := m.toNat) Pv w (pi_range1 hg bi.range (pa_cons pwe pa_nil hst) hst) hN hi hx hp hc (fun H w Rw q => h H w _ fun v B1 H1 g1 r1 => ⟨m, by rw [r1.toInt], hm.2, hm.1, q B1 H1 g1⟩) h0
    (fun n σ' B' H' hn q => by
      have := hs n σ' B' H' (by omega) q
      rw [Int.zero_add]
      exact this) hd hf hss
theorem s_forR2 {x : Str} {px pr p2 : Pos} {i : Nat} {body : List Stmt} {lo m : Int} (Pv : Nat → L2.St → Hp → Hp → Prop) (w : Wd T B H) (h : ED T X a σ B (.int lo)) (h2 : ED T X b σ B (.int m)) (hm : m < 2 ^ 62 ∧ -(2 ^ 62) ≤ m ∧ lo < 2 ^ 62 ∧ -(2 ^ 62) ≤ lo) (bi : Bi X.mg) (hN : X.N.Nodup) (hi : X.N[i]? = some x) (hx : Loc X.env.scope x)
    (hp : PassesOwn (model X.prog X.w) X.A X.env X.xe) (hc : X.calm = true)
    (h0 : ∀ B1 H1, Go T B H B1 H1 → Pv 0 σ B1 H1)
    (hs : ∀ (n : Nat) σ' B' H', lo + (n : Int) < m → Pv n σ' B' H' → wss X body { D with nx := fun σ'' H'' => ∃ B'', Pv (n + 1) σ'' B'' H'', ct := fun σ'' H'' => ∃ B'', Pv (n + 1) σ'' B'' H'', bk := fun σ' H' => wss X rest D σ' H' } (σ'.set i (some (.int (lo + (n : Int))))) H')
    (hd : ∀ σ' B' H', Pv (m - lo).toNat σ' B' H' → wss X rest D σ' H') (hg : Gl X "range" := by rfl) (hst : starEach [a, b] X.env = [(false, eval a X.env), (false, eval b X.env)] := by rfl) (hst2 : starEach [b] X.env = [(false, eval b X.env)] := by rfl)
    (hf : X.fn x = true ∨ X.env.scope.names.lookup x = some .local := by first | exact .inl rfl | exact .inr rfl | assumption) (hss : ∀ x, foldedSetIterable (.Call (.Name "range" pr) [a, b] [] p2) X.env x = pure x := by intro _; rfl) : wss X (.For (.Name x px) (.Call (.Name "range" pr) [a, b] [] p2) body [] pos :: rest) D σ H :=
  s_forRng (lo := lo) (m := (m - lo).toNat) Pv w (pi_range2 hg bi.range (pa_cons pwe (pa_cons pwe pa_nil hst2) (by rw [hst2]; exact hst)) hst hst2) hN hi hx hp hc
    (fun H w Rw q => h H w _ fun v B1 H1 g1 r1 => (h2.mono g1.eb) H1 g1.wd _ fun v2 B2 H2 g2 r2 => ⟨lo, m, by rw [r1.toInt, r2.toInt], by omega, q B2 H2 (g1.trans g2)⟩) h0 (fun n σ' B' H' hn q => hs n σ' B' H' (by omega) q) hd hf hss
end

/-! ## defs: what they promise, how they are called -/
structure Pm where
  n : Nat
  /-- from a base, arguments: what is handed back -/
  pre : Hp → List V → RV → Prop
  /-- from a base, arguments: the class of the error -/
  exc : Hp → List V → Addr → Prop
def Pm.none : Hp → List V → Addr → Prop := fun _ _ _ => False
def spP (T : List Addr) (m : Pm) : Sp := fun vs H Q E => vs.length = m.n ∧ ∃ B, Wd T B H ∧ ((∃ R, m.pre B vs R ∧ ∀ v B' H', Go T B H B' H' → R B' v → Q v H') ∨ ∃ C, m.exc B vs C ∧ ∀ B' H', Go T B H B' H' → E (.ref C) Option.none H')
/-- a def of the module that keeps a promise, at level k -/
structure Fn (P : Program) (w : World) (K : PySem.W.Frag) (mg : Str → Option Value) (base : Heap) (T : List Addr) (x : Str) (k : Nat) (m : Pm) : Prop where
  ex : ∃ (f : Addr) (fd : FuncData) (ps : List Str), FnOk P w K mg base (L2N.CX P w) k f fd ps (spP T m) ∧ mg x = some (.ref f) ∧ PySem.W.keepIn K (.ref f) = true ∧ Binds K fd ps []
section
variable {P : Program} {w : World} {K : PySem.W.Frag} {mg : Str → Option Value} {base : Heap} {T : List Addr}
/-- a def's promise by its body -/
theorem fn_ok {x : Str} {st : Stmt} {f : Addr} {fd : FuncData} {N ps : List Str} {k : Nat} {m : Pm} (F : Fun K x x st f fd) (hmg : mg x = some (.ref f)) (S : FnScope N ps (defScope st)) (hn : m.n = ps.length) (bd : Binds K fd ps [])
    (hbody : ∀ (cdv : Value) (A : Around) (outer : List Env) (s : Shared) (H : Hp) (vs : List V) (Q : VK) (E : XK) (B : Hp), Room k (A.deeper (envOfC x (defScope st) s.heap.objs.size f cdv)) → vs.length = m.n → Wd T B H →
      ((∃ R, m.pre B vs R ∧ ∀ v B' H', Go T B H B' H' → R B' v → Q v H') ∨ ∃ C, m.exc B vs C ∧ ∀ B' H', Go T B H B' H' → E (.ref C) Option.none H') →
      wss (cxOf (L2N.CX P w) P w K mg base N x (defScope st) f cdv A outer s H E) (defBody st) { nx := fun _ H' => Q .non H', rt := Q } (start N vs) H) : Fn P w K mg base T x (k + 1) m := by
  refine ⟨f, fd, ps, ?_, hmg, F.kp, bd⟩
  obtain ⟨oc, od, kV, doc, pm, an, cdv, ct, osl, rfl, lk, hcd⟩ := F.ex
  exact fn_of lk hcd S (fun vs H Q E h => by rw [h.1, hn]) fun A outer s H vs Q E hr ⟨h1, B, w1, h2⟩ => ⟨_, pwss, hbody cdv A outer s H vs Q E B hr h1 w1 h2⟩
/-- the same for a def that raises nothing, of its result alone -/
theorem fn_pure {x : Str} {st : Stmt} {f : Addr} {fd : FuncData} {N ps : List Str} {k : Nat} {n : Nat} {pre : Hp → List V → RV → Prop} (F : Fun K x x st f fd) (hmg : mg x = some (.ref f)) (S : FnScope N ps (defScope st)) (hn : n = ps.length) (bd : Binds K fd ps [])
    (hbody : ∀ (cdv : Value) (A : Around) (outer : List Env) (s : Shared) (H : Hp) (vs : List V) (E : XK) (B : Hp) (R : RV), Room k (A.deeper (envOfC x (defScope st) s.heap.objs.size f cdv)) → vs.length = n → Wd T B H → pre B vs R →
      wss (cxOf (L2N.CX P w) P w K mg base N x (defScope st) f cdv A outer s H E) (defBody st) { nx := fun _ H' => ∃ B', Go T B H B' H' ∧ R B' .non, rt := fun v H' => ∃ B', Go T B H B' H' ∧ R B' v } (start N vs) H) : Fn P w K mg base T x (k + 1) ⟨n, pre, Pm.none⟩ := by
  refine fn_ok F hmg S hn bd fun cdv A outer s H vs Q E B hr hl w1 h => ?_
  rcases h with ⟨R, hp, q⟩ | ⟨_, z, _⟩
  · refine wss_mk ?_
    intro pins s1 I
    refine thn (wss_run (hbody cdv A outer s H vs E B R hr hl w1 hp) pins s1 I) fun f s2 h2 => ?_
    cases f with
    | next =>
      obtain ⟨σ', H', I', B', g, r⟩ := h2
      exact ⟨σ', H', I', q _ B' H' g r⟩
    | ret u =>
      obtain ⟨v, σ', H', I', rv, B', g, r⟩ := h2
      exact ⟨v, σ', H', I', rv, q _ B' H' g r⟩
    | brk => exact h2
    | cont => exact h2
  · exact z.elim
end
theorem passN {X : Cx} : Passes (L2N.CX X.prog X.w) X (fun _ _ _ => False) := fun _ _ _ _ _ _ _ h => by
  obtain ⟨_, _, _, _, _, _, _, _, _, _, _, _, z⟩ := h
  exact z.elim
section
variable {T : List Addr} {X : Cx} {e a b c : Expr} {es : List Expr} {rest : List Stmt} {σ : L2.St} {B C H : Hp} {R Ra Rb : RV} {pos p : Pos} {D : Ends}
theorem ev_fn {x : Str} {k : Nat} {m : Pm} {Rs : Hp → List V → Prop} (F : Fn X.prog X.w X.K X.mg X.base T x k m) (hr : Room k X.A) (ha : EA T X (e :: es) σ B Rs) (hp : ∀ B1 vs, Ex B B1 → Rs B1 vs → vs.length = m.n ∧ m.pre B1 vs R)
    (hg : Gl X x := by rfl) (hdb : (x == ("__debug__" : Str)) = false := by decide) (he : starEach (e :: es) X.env = (false, eval e X.env) :: starEach es X.env := by rfl) (hpl : (backTo pos (starEach es X.env)).any (·.1) = false := by rfl) : EV T X (.Call (.Name x p) (e :: es) [] pos) σ B R := fun H w Q q => by
  obtain ⟨f, fd, ps, G, h1, h2, h3⟩ := F.ex
  refine we_of (pe_call G hr hg h1 h2 h3 .nil passN pwa hdb he hpl) (ha H w _ fun vs B1 H1 g1 r1 => ?_)
  obtain ⟨l, pr⟩ := hp B1 vs g1.eb r1
  show spP T m (vs ++ []) H1 Q _
  rw [List.append_nil]
  exact ⟨l, B1, g1.wd, .inl ⟨R, pr, fun v B2 H2 g2 r2 => q v B2 H2 (g1.trans g2) r2⟩⟩
/-! ## what raises -/
/-- e raises an error of the class at C -/
def EX (T : List Addr) (X : Cx) (e : Expr) (σ : L2.St) (B : Hp) (A : Addr) : Prop := ∀ (W : WX), L2N.Takes X W → ∀ H, Wd T B H → (∀ B' H', Go T B H B' H' → W (.ref A) none σ H') → ∀ Q : VK, we X e σ H Q
theorem EX.mono {A : Addr} (h : EX T X e σ B A) (x : Ex B C) : EX T X e σ C A := fun W tk H w q Q => h W tk H ⟨x.trans w.ex, w.gd⟩ (fun B' H' g => q _ H' (Go.widen x w g).1) Q
theorem ex_fn {x : Str} {k : Nat} {m : Pm} {Rs : Hp → List V → Prop} {A : Addr} (F : Fn X.prog X.w X.K X.mg X.base T x k m) (hr : Room k X.A) (ha : EA T X (e :: es) σ B Rs) (hp : ∀ B1 vs, Ex B B1 → Rs B1 vs → vs.length = m.n ∧ m.exc B1 vs A)
    (hg : Gl X x := by rfl) (hdb : (x == ("__debug__" : Str)) = false := by decide) (he : starEach (e :: es) X.env = (false, eval e X.env) :: starEach es X.env := by rfl) (hpl : (backTo pos (starEach es X.env)).any (·.1) = false := by rfl) : EX T X (.Call (.Name x p) (e :: es) [] pos) σ B A := fun W tk H w q Q => by
  obtain ⟨f, fd, ps, G, h1, h2, h3⟩ := F.ex
  refine we_of (pe_callS (E := WE W) G hr hg h1 h2 h3 (fun σ => L2N.passAt tk σ) pwa hdb he hpl) (ha H w _ fun vs B1 H1 g1 r1 => ?_)
  obtain ⟨l, pr⟩ := hp B1 vs g1.eb r1
  exact ⟨l, B1, g1.wd, .inr ⟨A, pr, fun B2 H2 g2 => q B2 H2 (g1.trans g2)⟩⟩
theorem s_dropX {A : Addr} {W : WX} (w : Wd T B H) (h : EX T X e σ B A) (tk : L2N.Takes X W) (k : ∀ B' H', Go T B H B' H' → W (.ref A) none σ H') (hs : swapsWith e none pos.line X.env = pure false := by rfl) : wss X (.Expr e pos :: rest) D σ H :=
  s_cons (ws_of (ps_expr pwe hs) (h W tk H w k _))
theorem s_setX {A : Addr} {W : WX} {x : Str} {px : Pos} {i : Nat} (w : Wd T B H) (h : EX T X e σ B A) (tk : L2N.Takes X W) (hN : X.N.Nodup) (hi : X.N[i]? = some x) (hx : Loc X.env.scope x) (k : ∀ B' H', Go T B H B' H' → W (.ref A) none σ H')
    (hs : swapsWith e (some (.Name x px)) pos.line X.env = pure false := by rfl) (hf : X.fn x = true ∨ X.env.scope.names.lookup x = some .local := by first | exact .inl rfl | exact .inr rfl | assumption) : wss X (.Assign [.Name x px] e pos :: rest) D σ H :=
  s_cons (ws_of (ps_set hN hi hx pwe hs hf) (h W tk H w k _))
theorem s_retX {A : Addr} {W : WX} (w : Wd T B H) (h : EX T X e σ B A) (tk : L2N.Takes X W) (k : ∀ B' H', Go T B H B' H' → W (.ref A) none σ H') : wss X (.Return (some e) pos :: rest) D σ H :=
  s_cons (ws_of (ps_ret pwe) (h W tk H w k _))
/-- an own error class of the module, over ValueError -/
structure Xc (K : PySem.W.Frag) (mg : Str → Option Value) (x : Str) (A : Addr) : Prop where
  g : mg x = some (.ref A)
  q : PySem.W.excIn K A [.type "ValueError", .type "Exception", .type "BaseException", .type "object"] "ValueError.__new__" = true
  k : PySem.W.keepIn K (.ref A) = true
  b : PySem.W.subIn K (.ref A) (.type "BaseException") = some true
  t : PySem.W.typeIn K (.ref A) = some (.type "type")
theorem s_raise {A : Addr} {W : WX} {x m : Str} {j : Nat} {p1 p2 p3 : Pos} (Z : Xc X.K X.mg x A) (tk : L2N.Takes X W) (hc : X.calm = true) (k : W (.ref A) none σ H) (hg : Gl X x := by rfl) (hdb : (x == ("__debug__" : Str)) = false := by decide) :
    wss X (.Raise (some (.Call (.Name x p1) [.Constant (.str m) j p2] [] p3)) none pos :: rest) D σ H :=
  s_cons (ws_of (L2N.ps_raise hc tk (L2N.pmk_own PySem.F.excBase_ValueError Z.q Z.g Z.k (raises_own Z.b Z.t) hg hdb)) k)
end
end Cw

namespace Cw
open PySem PySem.Spec PyProof.Rows L2
open GxR (TabG TabB GenS)
/-! ## all(.. for x in a list): the items tested by a def of the module and by two bounds -/
theorem typeIs_keep {s s' : Shared} {u : Value} {n : String} (h : s.TypeIs u n) (k : ∀ b o, s.heap.get? b = some o → s'.heap.get? b = some o) : s'.TypeIs u n := by
  cases u with
  | ref a =>
    obtain ⟨o, e, c⟩ := h
    exact ⟨o, k a o e, c⟩
  | _ => exact h
/-- what stands around every call: the module and the built-ins -/
structure Gr (K : PySem.W.Frag) (mg : Str → Option Value) (h : Heap) : Prop where
  kin : K.In h
  glob : h.Ns mainGlobals mg
  blt : ∃ mb, h.Ns builtinsNs mb ∧ ∀ x : Str, x ≠ "__name__" → mb x = bootBuiltins x
  lim : h.NoLimit
theorem Gr.keep {K : PySem.W.Frag} {mg : Str → Option Value} {h h' : Heap} (g : Gr K mg h) (k : ∀ b o, h.get? b = some o → h'.get? b = some o) : Gr K mg h' :=
  ⟨g.kin.keeps k, g.glob.keeps k, let ⟨mb, h1, h2⟩ := g.blt; ⟨mb, h1.keeps k, h2⟩, g.lim.keeps k⟩
theorem raw_load {M : Model} {A : Around} {E : Value → Shared → Prop} {s : Shared} {env : Env} {K : PySem.W.Frag} {mg : Str → Option Value} {x : Str} {u : Value} {p : Pos} {Q : Value → Shared → Prop} (g : Gr K mg s.heap) (hk : env.scope.kind = .function)
    (hx : env.kindOf x = some .globalImplicit) (eg : env.globals = mainGlobals) (eb : env.builtins = builtinsNs) (hm : mg x = none) (hv : bootBuiltins x = some u) (hn : x ≠ "__name__") (hd : (x == ("__debug__" : Str)) = false) (h : Q u s) : wpAny M A (eval (.Name x p) env) Q E s := by
  obtain ⟨mb, h1, h2⟩ := g.blt
  exact Calls.Name_function_global hk hx (Calls.loadGlobal_builtin (by rw [eg]; exact g.glob) hm (by rw [eb]; exact h1) ((h2 x hn).trans hv) h) hd
/-- «return type(y) is n» as a whole body, called with u of the type tu -/
theorem raw_isTy {P : Program} {w : World} {K : PySem.W.Frag} {mg : Str → Option Value} {fn y n : Str} {tn tu : String} {st : Stmt} {f : Addr} {fd : FuncData} {p1 p2 p3 p4 p5 p6 : Pos} (F : Fun K fn fn st f fd) (S : FnScope [y] [y] (defScope st)) (bd : Binds K fd [y] [])
    (hst : defBody st = [.Return (some (.Compare (.Call (.Name "type" p1) [.Name y p2] [] p3) [.Is] [.Name n p4] p5)) p6]) (h1 : mg "type" = none) (h2 : mg n = none) (hv : bootBuiltins n = some (.type tn)) (hn : n ≠ "__name__") (hd : (n == ("__debug__" : Str)) = false)
    (ly : (defScope st).names.lookup y = some .local) (lt : (defScope st).names.lookup ("type" : Str) = some .globalImplicit) (ln : (defScope st).names.lookup n = some .globalImplicit) (hdy : (y == ("__debug__" : Str)) = false)
    {A : Around} {s : Shared} {u : Value} {E : Value → Shared → Prop} (hA : A.depth < recursionLimit) (g : Gr K mg s.heap) (hu : s.TypeIs u tu) (hb : (Value.type tu == Value.type "builtin_function_or_method") = false) :
    wpAny (model P w) A (call (.ref f) [u]) (fun v s' => v = .bool (decide (tu = tn)) ∧ Keeps s s') E s := by
  obtain ⟨oc, od, kV, doc, pm, an, cdv, ct, osl, rfl, lk, hcd⟩ := F.ex
  refine wpAny_call (Att.call_fn (binds := [y].zip [u]) g.kin g.lim lk hcd hA ?_ ?_ (fun s1 x => ?_) S.co S.gen S.kind)
  · have b := bd s [u] g.kin rfl
    rw [List.append_nil] at b
    exact b
  · show (((defScope st).names.lookup y == some .local || (defScope st).names.lookup y == some .cell) && true) = true
    rw [ly]
    rfl
  · obtain ⟨h', tk, rfl, hk⟩ := x.done
    have g1 : Gr K mg h' := g.keep hk
    rw [hst]
    refine wpAny_execs_cons (wpAny_Return_some (wpAny_Compare1 (wpAny_Call_Name_kw ?_)))
    refine raw_load (u := .type "type") g1 S.kind lt rfl rfl h1 PyProof.Rows.boot_type (by decide) (by decide) ?_
    refine PyProof.Rows.callWith_type1 (Calls.spliced_cons ?_) rfl rfl
    refine wpAny_Name (wpAny_loadName_local S.kind ly x.toInCall.ns (v := u) ?_ ?_) hdy
    · show bindL (envOfC fn (defScope st) s.heap.objs.size f cdv).kindOf [(y, u)] (fun _ => none) y = some u
      unfold bindL bindL
      rw [if_pos (show (envOfC fn (defScope st) s.heap.objs.size f cdv).kindOf y = some .local from ly)]
      exact if_pos rfl
    · refine Calls.spliced_nil (call_type_of (Tx := tu) (typeIs_keep hu hk) hb ?_)
      refine raw_load (u := .type tn) g1 S.kind ln rfl rfl h2 hv hn hd ?_
      by_cases c : tu = tn
      · subst c
        exact wpAny_is_self rfl ⟨by rw [decide_eq_true rfl], h', tk, rfl, hk⟩
      · exact wpAny_is_other rfl (fun z => c (Value.type.inj z)) ⟨by rw [decide_eq_false c], h', tk, rfl, hk⟩
end Cw

namespace Cw
open PySem PySem.Spec PyProof.Rows L2
open GxR (TabG TabB GenS)
theorem keeps_self (s : Shared) : Keeps s s := ⟨s.heap, s.toks, rfl, fun _ _ e => e⟩
theorem keeps_then {s s1 s2 : Shared} (a : Keeps s s1) (b : Keeps s1 s2) : Keeps s s2 := by
  obtain ⟨h1, k1, rfl, q1⟩ := a
  obtain ⟨h2, k2, rfl, q2⟩ := b
  exact ⟨h2, k2, rfl, fun c o e => q2 c o (q1 c o e)⟩
/-- the element of a generator over data: of an item of the data d it gives pb d, and leaves what stands -/
def EltD (X : Cx) (scope : Scope) (x : Str) (elt : Expr) (ds : List PyData) (pb : PyData → Bool) : Prop :=
  ∀ (cenv : Env) (A' : Around) (E' : Value → Shared → Prop) (d : PyData) (u : Value) (s2 : Shared) (m2 : Str → Option Value), cenv.scope = scope → cenv.globals = mainGlobals → cenv.builtins = builtinsNs → A'.depth ≤ X.A.depth + 1 → A'.units ≤ X.A.units + 8 → d ∈ ds →
    Gr X.K X.mg s2.heap → s2.TypeIs u (tyN d) → (∀ i, d = .int i → ∃ t, u = .int i t) → s2.heap.Ns cenv.locals m2 → m2 x = some u →
    wpAny (model X.prog X.w) A' (eval elt cenv) (fun y s3 => y = .bool (pb d) ∧ Keeps s2 s3) E' s2
def betw (lo hi : Int) : PyData → Bool
  | .int i => decide (lo ≤ i) && decide (i ≤ hi)
  | _ => false
/-- «f(x) and lo <= x <= hi», f a test by type -/
theorem elt_isBetween {X : Cx} {scope : Scope} {x fn y n : Str} {tn : String} {st : Stmt} {f : Addr} {fd : FuncData} {ds : List PyData} {lo hi : Int} {k : Nat} {p1 p2 p3 p4 p5 p6 q1 q2 q3 q4 q5 q6 q7 q8 : Pos} {j1 j2 : Nat} (hr : Room k X.A)
    (F : Fun X.K fn fn st f fd) (hmg : X.mg fn = some (.ref f)) (S : FnScope [y] [y] (defScope st)) (bd : Binds X.K fd [y] [])
    (hst : defBody st = [.Return (some (.Compare (.Call (.Name "type" p1) [.Name y p2] [] p3) [.Is] [.Name "int" p4] p5)) p6]) (bi : Bi X.mg)
    (ly : (defScope st).names.lookup y = some .local) (lt : (defScope st).names.lookup ("type" : Str) = some .globalImplicit) (ln : (defScope st).names.lookup ("int" : Str) = some .globalImplicit) (hdy : (y == ("__debug__" : Str)) = false)
    (hk : scope.kind = .function) (hl : scope.names.lookup x = some .local) (hf : scope.names.lookup fn = some .globalImplicit) (hdx : (x == ("__debug__" : Str)) = false) (hdf : (fn == ("__debug__" : Str)) = false) :
    EltD X scope x (.BoolOp .And [.Call (.Name fn q1) [.Name x q2] [] q3, .Compare (.Constant (.int lo) j1 q4) [.LtE, .LtE] [.Name x q5, .Constant (.int hi) j2 q6] q7] q8) ds (betw lo hi) := by
  intro cenv A' E' d u s2 m2 hs hg hb hD hU hd g hu hi2 hn hm
  have hk' : cenv.scope.kind = .function := by rw [hs]; exact hk
  have hl' : cenv.scope.names.lookup x = some .local := by rw [hs]; exact hl
  have hf' : cenv.kindOf fn = some .globalImplicit := by
    show cenv.scope.names.lookup fn = _
    rw [hs]
    exact hf
  have room : A'.depth < recursionLimit := by
    have := hr.dp
    omega
  have nb : (Value.type (tyN d) == Value.type "builtin_function_or_method") = false := by cases d <;> (simp only [tyN]; decide)
  refine BoolOp_and ?_
  refine wpAny_Call_Name_kw (Calls.Name_function_global hk' hf' (Calls.loadGlobal_global (by rw [hg]; exact g.glob) hmg ?_) hdf)
  refine PySem.W.callWith_K (h₀ := s2.heap) g.kin F.kp (Calls.spliced_cons (wpAny_Name (wpAny_loadName_local hk' hl' hn hm (Calls.spliced_nil ⟨g.kin, ?_⟩)) hdx)) rfl rfl
  refine wpAny_mono (raw_isTy (E := E') F S bd hst bi.type bi.int PyProof.Rows.boot_int (by decide) (by decide) ly lt ln hdy room g hu nb) (fun v s3 hv => ?_) fun _ _ z => z
  obtain ⟨rfl, kp⟩ := hv
  refine wpAny_truthy_bool ?_
  cases d with
  | int i =>
    obtain ⟨t, rfl⟩ := hi2 i rfl
    have hn3 : s3.heap.Ns cenv.locals m2 := by
      obtain ⟨h3, k3, rfl, q⟩ := id kp
      exact hn.keeps q
    rw [show decide (tyN (.int i) = "int") = true from decide_eq_true rfl]
    show wpAny (model X.prog X.w) A' (eval (.BoolOp .And [_] q8) cenv) _ E' s3
    refine BoolOp_one (Compare_chain (wpAny_Constant_int (chain_link (wpAny_Name (wpAny_loadName_local hk' hl' hn3 hm (le_int (wpAny_truthy_bool ?_))) hdx))))
    by_cases c : lo ≤ i
    · rw [decide_eq_true c]
      refine ite_tt (chain_last (wpAny_Constant_int (le_int ⟨?_, ?_⟩)))
      · show Value.bool (decide (i ≤ hi)) = .bool (decide (lo ≤ i) && decide (i ≤ hi))
        rw [decide_eq_true c]
        rfl
      · obtain ⟨h3, k3, rfl, q⟩ := kp
        exact ⟨h3, _, rfl, q⟩
    · rw [decide_eq_false c]
      refine ite_ff ⟨?_, ?_⟩
      · show Value.bool false = .bool (decide (lo ≤ i) && decide (i ≤ hi))
        rw [decide_eq_false c]
        rfl
      · obtain ⟨h3, k3, rfl, q⟩ := kp
        exact ⟨h3, _, rfl, q⟩
  | none => exact ⟨rfl, kp⟩
  | bool b => exact ⟨rfl, kp⟩
  | str b => exact ⟨rfl, kp⟩
  | list b => exact ⟨rfl, kp⟩
  | tuple b => exact ⟨rfl, kp⟩
  | dict b => exact ⟨rfl, kp⟩
section
variable {X : Cx} {pins : List (Addr × Obj)} {σ : L2.St} {H : Hp} {s : Shared}
/-- the generator g over the data ds, ready to be walked -/
def RdyD (X : Cx) (pins : List (Addr × Obj)) (σ : L2.St) (H1 : Hp) (P : Addr) (ds : List PyData) (pb : PyData → Bool) (g : Addr) (s5 : Shared) : Prop :=
  ∃ (fp wr : List Addr) (G : Array GenState → Array GenState → Prop) (F : Nat → Value → Prop) (S : Nat → Shared → Prop),
    WalksS X.prog X.w X.A.in1 g fp wr G ds.length F S ∧ S 0 s5 ∧ (∀ j v, F j v → ∃ d, ds[j]? = some d ∧ v = .bool (pb d)) ∧ ∀ s', Moved wr G s5 s' → ∃ H2, GxR.Tabbed P H1 H2 ∧ Inv X pins σ H2 s'
theorem gen_data {c P : Addr} {elt iter : Expr} {x : Str} {px gpos : Pos} {scope : Scope} {ds : List PyData} {pb : PyData → Bool} {te : TE} {k : Nat} {Q' : Value → Shared → Prop} {Rw : Hp → Prop}
    (hr : Room k X.A) (TB : TabB X.base X.mg c P) (hcode : X.env.code = .ref c) (S : GenS X.env scope x) (hi : PE X iter te) (hel : EltD X scope x elt ds pb)
    (hs : ∀ v, genFold iter X.env v = pure v) (I : Inv X pins σ H s) (h : te σ H fun v H1 => Dt H1 v (.list ds) ∧ TabG H1 P ∧ Rw H1) (hQ : ∀ H1 g s5, Rw H1 → RdyD X pins σ H1 P ds pb g s5 → Q' (.ref g) s5) :
    wpAny (model X.prog X.w) X.A (eval (.GeneratorExp elt [⟨.Name x px, iter, [], 0⟩] scope gpos) X.env) Q' X.xe s := by
  refine wpAny_GeneratorExp_walksQD hr.hd S.co (closure_ok S.free) S.cell S.dot S.loc S.kind (by have := hr.dp; omega) ?_ hs
  refine thn (hi.run pins s σ H _ I h) fun xv s1 hx1 => ?_
  obtain ⟨v, H1, I1, r1, rd, ⟨ps, hP, ht⟩, q1⟩ := hx1
  obtain ⟨yl, xs, rfl, hyl, hds⟩ := rd.toList
  obtain rfl : xv = Value.ref yl := r1
  obtain ⟨its, rv, hl, hz⟩ := I1.list (.inl (.inl hyl))
  have hIL := hl.isList
  have hlen : its.length = ds.length := by rw [← rv.length, hds.length]
  refine wpAny_pyIter_list hIL ?_
  generalize ho : ({ cls := .type "list_iterator", data := .fields #[.ref yl, .int 0 0] } : Obj) = o
  have hitr : (s1.heap.push o).IsListIter s1.heap.objs.size yl 0 := by
    subst ho
    exact ⟨_, Heap.get?_push_size _ rfl, rfl, rfl⟩
  have hylt : yl < s1.heap.objs.size := by
    obtain ⟨_, e, _⟩ := id hIL
    exact Heap.lt_size e
  have hPs : s1.heap.get? P = some { cls := .none, data := .fields ps } := I1.hok P _ hP
  have hPlt : P < s1.heap.objs.size := Heap.lt_size hPs
  have hP2 : (s1.heap.push o).get? P = some { cls := .none, data := .fields ps } := Heap.get?_push_of_some _ hPs
  have cd : PySem.W.CodeHd (s1.heap.push o) c P := TB.code.keeps fun b u e => Heap.get?_push_of_some _ (I1.bk b u e)
  have lim2 : (s1.heap.push o).NoLimit := I1.nolimit.push o
  -- what each item is, where all but the table stands as in s1
  have item : ∀ (i : Nat) (u : Value), its.toArray[i]? = some u → ∃ d, ds[i]? = some d ∧ d ∈ ds ∧ s1.TypeIs u (tyN d) ∧ (∀ a, u = .ref a → ∃ ob, s1.heap.get? a = some ob ∧ a ≠ P) ∧ ∀ n, d = .int n → ∃ t, u = Value.int n t := fun i u hu => by
    have hu2 : its[i]? = some u := by simpa using hu
    have hi2 : i < its.length := (List.getElem?_eq_some_iff.mp hu2).1
    obtain ⟨y, hy⟩ : ∃ y, xs[i]? = some y := ⟨xs[i]'(by rw [rv.length]; exact hi2), List.getElem?_eq_getElem _⟩
    obtain ⟨d, hd, ry⟩ := hds.getV hy
    obtain ⟨u', hu', ru⟩ := rv.get hy
    rw [hu2] at hu'
    cases hu'
    have ty := (ry.tyB (K := X.K)).is I1 ru
    refine ⟨d, hd, List.mem_of_getElem? hd, ty, fun a ea => ?_, fun n en => ?_⟩
    · subst ea
      obtain ⟨ob, e, cc⟩ := id ty
      refine ⟨ob, e, fun z => ?_⟩
      rw [z, hPs] at e
      cases e
      cases cc
    · subst en
      have := ry.toInt
      subst this
      exact ru
  have cont : ∀ (code : Value) (h3 : Heap) (tk : Nat) (ps' : Array Value), Heap.ExtBut P (s1.heap.push o) h3 → (s1.heap.push o).objs.size ≤ h3.objs.size → h3.get? P = some { cls := .none, data := .fields ps' } → (∃ more, ps' = ps ++ more) → TriplesOk ps'.toList →
      wpAny (model X.prog X.w) X.A (builtinsFor X.env.globals X.env.builtins) (fun bi s₄ =>
        ∃ Ia fp wr n₀ Pf S₀ pz F, Value.ref s1.heap.objs.size = .ref Ia ∧ (∀ A' : Around, A'.handled = none → Walks X.prog X.w A' Ia fp wr n₀ Pf S₀) ∧ S₀ 0 s₄.heap ∧ (∀ b ∈ fp, b < s₄.heap.objs.size) ∧ s₄.heap.NoLimit ∧ cStatics ∉ wr ∧
          (∀ href : Heap, (∀ b o, s₄.heap.get? b = some o → href.get? b = some o) →
            QuietGenD X.prog X.w (genEnv scope (cloFrom X.env.cells scope.names []) s₄.heap.objs.size code bi X.env) x [] elt (List.range s₄.heap.objs.size) wr Pf pz F href (X.A.depth + 1) (X.A.units + 8)) ∧
          (∀ a h₅ tk gs, gs.bare = true → s₄.heap.objs.size < a → h₅.objs.size = a + 1 → (∀ b o, s₄.heap.get? b = some o → h₅.get? b = some o) →
            WalksS X.prog X.w X.A.in4 a (a :: s₄.heap.objs.size :: List.range s₄.heap.objs.size) (s₄.heap.objs.size :: wr) (GenOnlyQ s₄.gens.size) (passing pz n₀ 0).length
              (fun j y => ∃ i, (passing pz n₀ 0)[j]? = some i ∧ F i y) (GenAt X.prog X.w X.A.in4 a s₄.gens.size s₄.heap.objs.size (List.range s₄.heap.objs.size) wr pz n₀ F) →
            GenAt X.prog X.w X.A.in4 a s₄.gens.size s₄.heap.objs.size (List.range s₄.heap.objs.size) wr pz n₀ F 0 { s₄ with gens := s₄.gens.push gs, toks := tk, heap := h₅ } →
            Q' (.ref a) { s₄ with gens := s₄.gens.push gs, toks := tk, heap := h₅ })) X.xe { s1 with heap := h3, toks := tk } := by
    intro code h3 tk ps' hx hsz hP3 hmore ht3
    obtain ⟨bm, ob, e1, e2, e3, e4, e5, e6, e7, e8⟩ := TB.bm
    have hcP : cStatics ≠ P := fun e => by
      obtain ⟨_, hns, _⟩ := I1.nolimit
      obtain ⟨o', es, ep, ho, hd, _⟩ := hns
      rw [e, hPs] at ho
      cases ho
      cases hd
    have hcl : cStatics < s1.heap.objs.size := let ⟨_, hns, _⟩ := I1.nolimit; hns.lt
    have sz2 : (s1.heap.push o).objs.size = s1.heap.objs.size + 1 := Heap.size_push ..
    have keep3 : ∀ b u, b ≠ P → s1.heap.get? b = some u → h3.get? b = some u := fun b u hb e => hx b u hb (Heap.get?_push_of_some _ e)
    have nBase : ∀ b u, X.base.get? b = some u → b ≠ P := fun b u e z => by
      have n := (I1.bs b u e).2
      rw [z, hP] at n
      cases n
    refine wpAny_builtinsFor (m := X.mg) (by rw [I1.ok.glob]; exact ((I1.mod.glob.keeps I1.bk).push o).extBut hx TB.gP) e1 e2 (keep3 _ _ e4 (I1.bk _ _ e5)) e6 e7 e8 ?_
    have hylP : yl ≠ P := fun z => by
      obtain ⟨_, e, hc1, _, hd1⟩ := id hIL
      rw [z, hPs] at e
      cases e
      cases hd1
    have hIL3 : h3.IsList yl its.toArray := by
      obtain ⟨ob, e, r⟩ := id hIL
      exact ⟨ob, keep3 _ _ hylP e, r⟩
    have hItr3 : h3.IsListIter s1.heap.objs.size yl 0 := hitr.at fun u e => hx _ u (Nat.ne_of_gt hPlt) e
    refine ⟨s1.heap.objs.size, [s1.heap.objs.size, yl], [s1.heap.objs.size], its.toArray.size, (fun i v => its.toArray[i]? = some v), (fun i h => h.IsListIter s1.heap.objs.size yl i ∧ h.IsList yl its.toArray), (fun _ => true),
      (fun i y => ∃ d, ds[i]? = some d ∧ y = .bool (pb d)), rfl, (fun A' hA => Walks.list hA _ _ (Nat.ne_of_lt hylt) _), ⟨hItr3, hIL3⟩, ?_, lim2.extBut hx hcP, ?_, ?_, ?_⟩
    · intro b hb
      have hb2 : b = s1.heap.objs.size ∨ b = yl := by simpa using hb
      show b < h3.objs.size
      have l9 : s1.heap.objs.size < h3.objs.size := by omega
      rcases hb2 with z | z
      · rw [z]
        exact l9
      · rw [z]
        exact Nat.lt_trans hylt l9
    · intro z
      have z2 : cStatics = s1.heap.objs.size := by simpa using z
      exact Nat.ne_of_lt hcl z2
    · intro href hhref
      refine ⟨fun A' E' i v s₂ m₂ hA hD hU hPv hn hm hk => ?_, fun A' E' i v s₂ m₂ hA hD hU hPv hp hn hm hk => ?_⟩
      · simp only [List.forIn_nil]
        exact wpAny_pure ⟨rfl, keeps_self _⟩
      · obtain ⟨d, hd, hmem, ty, hre, hin⟩ := item i v hPv
        -- all of s1 but the table stands in s₂
        have stay : ∀ b u, b ≠ P → s1.heap.get? b = some u → s₂.heap.get? b = some u := fun b u nb e => by
          have l1 := Heap.lt_size e
          refine hk b (List.mem_range.mpr (Nat.lt_trans l1 (show s1.heap.objs.size < h3.objs.size by omega))) (fun z => ?_) u (hhref b u (keep3 b u nb e))
          have z2 : b = s1.heap.objs.size := by simpa using z
          rw [z2] at l1
          exact Nat.lt_irrefl _ l1
        have stayB : ∀ b u, X.base.get? b = some u → s₂.heap.get? b = some u := fun b u e => stay b u (nBase b u e) (I1.bk b u e)
        have gr : Gr X.K X.mg s₂.heap := ⟨I1.mod.kin.keeps stayB, I1.mod.glob.keeps stayB, let ⟨mb, y1, y2⟩ := I1.mod.blt; ⟨mb, y1.keeps stayB, y2⟩, I1.mod.nolimit.keeps stayB⟩
        refine wpAny_mono (hel _ A' E' d v s₂ m₂ rfl I1.ok.glob rfl hD hU hmem gr ?_ hin hn hm) (fun y s3 r => ⟨⟨d, hd, r.1⟩, r.2⟩) fun _ _ e => e
        cases v with
        | ref a =>
          obtain ⟨ob, e, na⟩ := hre a rfl
          obtain ⟨ob', e', cc⟩ := ty
          exact ⟨ob', stay a ob' na e', cc⟩
        | _ => exact ty
    · intro g h5 tk5 gs hgb hag hsz5 hk5 W5 hgat
      simp only [GxR.passing_true, List.length_range] at W5
      have hn5 : its.toArray.size = ds.length := by rw [List.size_toArray, hlen]
      rw [hn5] at W5 hgat
      refine hQ H1 g _ q1 ⟨_, _, _, _, _, W5.in4_1, hgat, ?_, fun s' hm => ?_⟩
      · intro j v hv
        obtain ⟨i, hij, d, hd, e⟩ := hv
        obtain ⟨hj, ej⟩ := List.getElem?_eq_some_iff.mp hij
        rw [List.getElem_range] at ej
        subst ej
        exact ⟨d, hd, e⟩
      · obtain ⟨more, em⟩ := hmore
        have nwr : ∀ b u, s1.heap.get? b = some u → b ∉ h3.objs.size :: [s1.heap.objs.size] := fun b u e hb => by
          have hl := Heap.lt_size e
          have hb2 : b = h3.objs.size ∨ b = s1.heap.objs.size := by simpa using hb
          have l9 : s1.heap.objs.size < h3.objs.size := by omega
          rcases hb2 with z | z
          · rw [z] at hl
            exact Nat.lt_irrefl _ (Nat.lt_trans hl l9)
          · rw [z] at hl
            exact Nat.lt_irrefl _ hl
        have J := GxR.inv_tab (more := more) (h' := s'.heap) (g' := s'.gens) (d' := s'.drawn) (t' := s'.toks) I1 hP (fun b u hb e => hm.heap b u (nwr b u e) (hk5 b u (keep3 b u hb e)))
          (by rw [← em]; exact hm.heap P _ (nwr P _ hPs) (hk5 P _ hP3)) (AllBare.movedS (I1.bare.push hgb) hm)
        rw [GxR.sh_eta s1 s' hm.os] at J
        exact ⟨upd H1 P (.tbl (ps ++ more)), ⟨⟨ps ++ more, upd_same, by rw [← em]; exact ht3⟩, fun b hb => upd_ne hb⟩, J⟩
  refine ⟨lim2, ?_⟩
  cases hf : codeAmong gpos ps.toList with
  | none =>
    refine wpAny_genexprCodeX hcode (cd.code hP2 ht) (cd.tab hP2) hf fun c' h' tk hx hge hlt hco' _ htab' _ => ?_
    obtain ⟨o1, vs, f1, tf, fl, tg, inF, tx, tt, op, _, _, _, _, _, _, _, _, _, htr, _⟩ := hco'
    exact cont _ h' tk _ hx (Nat.le_trans hge (Nat.le_of_lt hlt)) htab'.2 ⟨_, rfl⟩ htr
  | some cv =>
    refine wpAny_genexprCode_hit hcode (cd.code hP2 ht) hf ?_
    exact cont cv (s1.heap.push o) s1.toks ps (Heap.ExtBut.refl _ _) (Nat.le_refl _) hP2 ⟨#[], by simp⟩ ht
end
def tAllD (P : Addr) (ds : List PyData) (pb : PyData → Bool) (te : TE) : TE := fun σ H Q => te σ H fun v H1 => Dt H1 v (.list ds) ∧ TabG H1 P ∧ ∀ H2, GxR.Tabbed P H1 H2 → Q (.bl (ds.all pb)) H2
def trD (pb : PyData → Bool) (ds : List PyData) (j : Nat) : Bool := match ds[j]? with
  | some d => pb d
  | none => false
theorem trD_some {pb : PyData → Bool} {ds : List PyData} {j : Nat} {d : PyData} (h : ds[j]? = some d) : trD pb ds j = pb d := by
  unfold trD
  rw [h]
theorem all_trD (ds : List PyData) (pb : PyData → Bool) : (List.range ds.length).all (trD pb ds) = ds.all pb := by
  rw [Bool.eq_iff_iff, List.all_eq_true, List.all_eq_true]
  constructor
  · intro h d hd
    obtain ⟨j, hj, e⟩ := List.getElem_of_mem hd
    have q := h j (List.mem_range.mpr hj)
    rw [trD_some (List.getElem?_eq_getElem hj), e] at q
    exact q
  · intro h j hj
    have hj' := List.mem_range.mp hj
    rw [trD_some (List.getElem?_eq_getElem hj')]
    exact h _ (List.getElem_mem hj')
theorem pe_allD {X : Cx} {c P : Addr} {elt iter : Expr} {x : Str} {px p pos gpos : Pos} {scope : Scope} {ds : List PyData} {pb : PyData → Bool} {te : TE} {k : Nat}
    (hr : Room k X.A) (hg : Gl X "all") (hm : X.mg "all" = none) (TB : TabB X.base X.mg c P) (hcode : X.env.code = .ref c) (S : GenS X.env scope x) (hi : PE X iter te) (hel : EltD X scope x elt ds pb)
    (hs : ∀ v, genFold iter X.env v = pure v)
    (he : starEach [.GeneratorExp elt [⟨.Name x px, iter, [], 0⟩] scope gpos] X.env = (false, eval (.GeneratorExp elt [⟨.Name x px, iter, [], 0⟩] scope gpos) X.env) :: starEach [] X.env := by rfl) :
    PE X (.Call (.Name "all" p) [.GeneratorExp elt [⟨.Name x px, iter, [], 0⟩] scope gpos] [] pos) (tAllD P ds pb te) := by
  refine ⟨fun pins s σ H Q I h => wpAny_Call_Name_kw (ld_blt I hg hm PyProof.Rows.boot_all (PyProof.Rows.callWith_builtin1 ?_ he (by rfl)))⟩
  rw [he]
  show wpAny _ _ (spliced ((false, eval (.GeneratorExp elt [⟨.Name x px, iter, [], 0⟩] scope gpos) X.env) :: backTo pos (starEach [] X.env))) _ _ s
  refine Calls.spliced_cons (gen_data (Rw := fun H1 => ∀ H2, GxR.Tabbed P H1 H2 → Q (.bl (ds.all pb)) H2) hr TB hcode S hi hel hs I h fun H1 g s5 hR hG => ?_)
  obtain ⟨fp, wr, G, F, Sx, W, hst, hF, hI⟩ := hG
  have htr : TruthOf X.prog X.w X.A.in1 F (trD pb ds) := fun j y sj Qj Ej hy hQj => by
    obtain ⟨d, hd, rfl⟩ := hF j y hy
    have hQ2 : Qj (trD pb ds j) sj := hQj
    rw [trD_some hd] at hQ2
    exact wpAny_truthy_bool hQ2
  refine Calls.spliced_nil (call_all_walkS (W.self 0 _ _ _ hst ⟨g, fp, wr, G, _, F, Sx, _, rfl, W, hst, htr, fun s' hmv => ?_⟩))
  obtain ⟨H2, hT, J⟩ := hI s' hmv
  refine ⟨.bl _, H2, J, rfl, ?_⟩
  rw [all_trD ds pb]
  exact hR H2 hT
/-- .. over a base: the table is one of the tables T -/
theorem ed_all {T : List Addr} {X : Cx} {σ : L2.St} {B : Hp} {c P : Addr} {elt iter : Expr} {x : Str} {px p pos gpos : Pos} {scope : Scope} {ds : List PyData} {pb : PyData → Bool} {k : Nat}
    (hr : Room k X.A) (bi : Bi X.mg) (hP : P ∈ T) (TB : TabB X.base X.mg c P) (hcode : X.env.code = .ref c) (S : GenS X.env scope x) (h : ED T X iter σ B (.list ds)) (hel : EltD X scope x elt ds pb)
    (hg : Gl X "all" := by rfl) (hs : ∀ v, genFold iter X.env v = pure v := by intro _; rfl)
    (he : starEach [.GeneratorExp elt [⟨.Name x px, iter, [], 0⟩] scope gpos] X.env = (false, eval (.GeneratorExp elt [⟨.Name x px, iter, [], 0⟩] scope gpos) X.env) :: starEach [] X.env := by rfl) :
    ED T X (.Call (.Name "all" p) [.GeneratorExp elt [⟨.Name x px, iter, [], 0⟩] scope gpos] [] pos) σ B (.bool (ds.all pb)) := fun H w Q q =>
  we_of (pe_allD hr hg bi.all TB hcode S pwe hel hs he) (h H w _ fun v B1 H1 g1 r1 => ⟨r1.mono g1.wd.ex, g1.wd.gd P hP, fun H2 t => by
    obtain ⟨ps, hp, _⟩ := g1.wd.gd P hP
    obtain ⟨⟨qs, hq, ok⟩, rest⟩ := t
    refine q _ B1 H2 (g1.trans ⟨⟨fun a o e => ?_, fun P' hP' => ?_⟩, Ex.rfl, fun a o e => ?_, fun a z z' => absurd z z'⟩) (.bl _)
    · by_cases ca : a = P
      · subst ca
        rcases g1.wd.ex a o e with e | ⟨p1, p2, rfl, e⟩
        · rw [hp] at e
          cases e
          exact .inr ⟨_, _, rfl, hq⟩
        · exact .inr ⟨_, _, rfl, hq⟩
      · rw [rest a ca]
        exact g1.wd.ex a o e
    · by_cases ca : P' = P
      · subst ca
        exact ⟨qs, hq, ok⟩
      · obtain ⟨p1, e1, o1⟩ := g1.wd.gd P' hP'
        exact ⟨p1, by rw [rest P' ca]; exact e1, o1⟩
    · by_cases ca : a = P
      · subst ca
        rw [hp] at e
        cases e
        exact .inr ⟨_, _, rfl, hq⟩
      · rw [rest a ca]
        exact .inl e⟩)
end Cw

namespace Cw
open PySem PySem.Spec PyProof.Rows L2 L2H
/-! ## texts: s * n, s + t -/
theorem op_strMul {X : Cx} : OpR X (binaryOp .Mult) (fun x y H Q => ∃ (z : Str) (k : Int), x = .str z ∧ y = .int k ∧ MulOk z k ∧ Q (.str (Txt.mul z k)) H) := by
  intro pins s σ H x y v u Q I rx ry h
  obtain ⟨z, k, rfl, rfl, hk, q⟩ := h
  obtain ⟨t, rfl⟩ := (show ∃ t, v = Value.str z t from rx)
  obtain ⟨t', rfl⟩ := (show ∃ t, u = Value.int k t from ry)
  exact PySem.SB.mul hk fun t2 k2 => ⟨.str _, H, I.tok k2, ⟨t2, rfl⟩, q⟩
section
variable {T : List Addr} {X : Cx} {e a b c : Expr} {es : List Expr} {σ : L2.St} {B C H : Hp} {R Ra Rb : RV} {pos p : Pos}
theorem ed_strMul {z : Str} {k : Int} (hk : MulOk z k) (ha : ED T X a σ B (.str z)) (hb : ED T X b σ B (.int k)) : ED T X (.BinOp a .Mult b pos) σ B (.str (Txt.mul z k)) :=
  ev_op op_strMul ha mono_dt hb mono_dt fun B1 H1 x y _ w rx ry Q q => ⟨z, k, rx.toStr, ry.toInt, hk, q _ B1 H1 (Go.rfl w) (.str _)⟩
theorem ed_strAdd {z y : Str} (ha : ED T X a σ B (.str z)) (hb : ED T X b σ B (.str y)) (hl : z.length + y.length ≤ 100000) : ED T X (.BinOp a .Add b pos) σ B (.str (z ++ y)) :=
  ev_op op_add_str ha mono_dt hb mono_dt fun B1 H1 x y _ w rx ry Q q => ⟨_, _, rx.toStr, ry.toStr, sz100 hl, q _ B1 H1 (Go.rfl w) (.str _)⟩
/-! ## the error that is handled -/
theorem call_isP {A D : Addr} {oe : Obj} (C : ExcC X.K D) (hz : Zc (.ref D) none oe) (hf : ∃ vs, oe.data = .fields vs) (hp : (A, oe) ∈ X.pn) : CallR X (.builtin "isinstance") (rIsE X.K D A) := by
  intro pins s σ H xs us Q I r h
  obtain ⟨c, cv, b, rfl, hcv, e, q⟩ := h
  match us, r with
  | [_, u2], .cons rx (.cons rt .nil) =>
    cases rx
    obtain rfl := hcv _ rt
    obtain ⟨hget, _⟩ := I.pin (A, oe) (List.mem_append.mpr (.inl hp))
    obtain ⟨vs, hv⟩ := hf
    have J : PySem.W.InstAt s.heap A oe D none := by
      obtain ⟨oc, od, oda, osl⟩ := oe
      obtain ⟨h1, h2⟩ := hz
      dsimp only at h1 h2 hv
      subst h1 h2 hv
      exact ⟨hget, rfl, rfl, trivial⟩
    exact PySem.W.kia_one (PySem.W.handS_kitx_exc C.hg C.hk C.hs C.hd C.ha C.hn C.ht C.hm) I.kIn J e (fun z => nomatch z) fun tk => ⟨.bl b, H, I.kept (t' := tk) fun _ _ z => z, rfl, q⟩
/-- isinstance(the error, a class) -/
theorem ed_isE {A D : Addr} {oe : Obj} {cv : Value} {k : Bool} (Ce : ExcC X.K D) (hz : Zc (.ref D) none oe) (hf : ∃ vs, oe.data = .fields vs) (hp : (A, oe) ∈ X.pn) (ha : EV T X a σ B fun _ v => v = .ref A) (hb : EV T X b σ B fun _ v => ∀ u, RelV v u → u = cv)
    (hk : PySem.W.kitOne X.K (.ref D) cv = some k) (hm : Bi X.mg) (hg : Gl X "isinstance" := by rfl)
    (he : starEach [a, b] X.env = (false, eval a X.env) :: starEach [b] X.env := by rfl) (he2 : starEach [b] X.env = (false, eval b X.env) :: starEach [] X.env := by rfl) (hpl : (backTo pos (starEach [b] X.env)).any (·.1) = false := by rfl) :
    ED T X (.Call (.Name "isinstance" p) [a, b] [] pos) σ B (.bool k) :=
  ev_callB (call_isP Ce hz hf hp) hg hm.isi PyProof.Rows.boot_isinstance (ea_consG ha mono_c (ea_consG hb mono_c ea_nil (fun _ _ _ x h => h.mono x) he2) (fun B B' vs x h => by
      obtain ⟨v, r, e, h1, h2⟩ := h
      exact ⟨v, r, e, h1, h2.mono x⟩) he) (fun B1 H1 vs _ w r Q q => by
    obtain ⟨v, r, rfl, rfl, u, r2, rfl, h2, h3⟩ := r
    cases h3
    exact ⟨u, cv, k, rfl, h2, hk, q _ B1 H1 (Go.rfl w) (.bl _)⟩) (by decide) (by decide) he hpl
/-- a class of the module, a built-in class, as the second argument -/
theorem ev_cls {x : Str} {A : Addr} (hm : X.mg x = some (.ref A)) (hg : Gl X x := by rfl) (hd : (x == ("__debug__" : Str)) = false := by decide) : EV T X (.Name x pos) σ B fun _ v => ∀ u, RelV v u → u = .ref A :=
  ev_pe (v := .ref A) (pe_glob hg hm (show L2.RelV (.ref A) (.ref A) from rfl) hd) (fun _ _ _ q => q) fun _ h => h
theorem ev_clsT {x : Str} {n : String} (hm : X.mg x = none) (hv : bootBuiltins x = some (.type n)) (hn : x ≠ "__name__" := by decide) (hg : Gl X x := by rfl) (hd : (x == ("__debug__" : Str)) = false := by decide) : EV T X (.Name x pos) σ B fun _ v => ∀ u, RelV v u → u = .type n :=
  ev_pe (v := .ty n) (pe_bltn hg hm hv (show L2.RelV (.ty n) (.type n) from rfl) hn hd) (fun _ _ _ q => q) fun _ h => h
end
/-! ## a def called while an error is handled -/
theorem hot_call {X : Cx} {x : Str} {st : Stmt} {f : Addr} {fd : FuncData} {N ps : List Str} {k : Nat} {pins : List (Addr × Obj)} {σ : L2.St} {H : Hp} {s : Shared} {us : List Value} {vs : List V} {Q : VK} {p : Addr × Obj} (F : Fun X.K x x st f fd) (S : FnScope N ps (defScope st)) (bd : Binds X.K fd ps []) (hr : RoomH (k + 1) X.A) (hot : Hot1 X.A p) (hp : p ∈ X.pn)
    (I : Inv X pins σ H s) (r : Vals vs us) (hl : vs.length = ps.length)
    (hbody : ∀ (cdv : Value) (oc : Value), RoomH k (X.A.deeper (envOfC x (defScope st) s.heap.objs.size f cdv)) → wss (cxH (fun _ _ _ _ _ _ => False) X.prog X.w X.K X.mg X.base N x (defScope st) f cdv X.A X.stack s H (fun _ _ _ => False) p) (defBody st) { nx := fun _ H' => Q .non H', rt := Q } (start N vs) H) :
    wpAny (model X.prog X.w) X.A (call (.ref f) us) (EP X pins σ Q) X.xe s := by
  obtain ⟨oc, od, kV, doc, pm, an, cdv, ct, osl, rfl, lk, hcd⟩ := F.ex
  have P1 := I.pin p (List.mem_append_left _ hp)
  have hpin : PinOk X.stack H s p := ⟨P1.1, P1.2.1, fun hm => (List.mem_cons.mp (I.stkSub p.1 hm)).elim P1.2.2.1 P1.2.2.2.1, P1.2.2.2.2⟩
  have e0 := I.env0
  have lim : s.heap.NoLimit := I.nolimit
  have hlu : us.length = ps.length := by rw [← r.length]; exact hl
  have b := bd s us I.kIn (by rw [List.append_nil]; exact hlu)
  rw [List.append_nil] at b
  have hkind : ∀ y ∈ ps.zip us, (defScope st).names.lookup y.1 = some .local ∨ ((defScope st).names.lookup y.1 = some .cell ∧ ((cellsFrom (s.heap.objs.size + 1) (defScope st).names []).lookup y.1).isSome = true) := fun ⟨n, v⟩ hy => by
    rcases S.par n (List.of_mem_zip hy).1 with q | q
    · exact .inl q
    · exact .inr ⟨q, PySem.W.cellsFrom_some _ _ _ (.inl q)⟩
  refine wpAny_call (codeAny_call_function hr.depth (I.kIn _ _ lk) rfl S.co S.gen rfl (PySem.W.codeRec_of I.kIn hcd) (b _ _ _ _ ?_))
  refine wpAny_newFunctionEnv_cells S.kind hkind fun env he s1 x1 => ?_
  subst he
  refine ⟨lim.keeps x1.toInCall.keep, codeAny_func ?_⟩
  have J := inv_startH (CX := fun _ _ _ _ _ _ => False) (E := fun _ _ _ => False) (qual := x) (f := f) (cd := cdv) S hpin e0 hl r x1
  refine wpAny_mono (wss_run (hbody cdv oc (hr.deeper _)) [] s1 J) (fun fl s' hs => ?_) fun e s' hs => ?_
  · have fin : ∀ {σ' : L2.St} {H' : Hp} {v : V} {u : Value}, Inv (cxH (fun _ _ _ _ _ _ => False) X.prog X.w X.K X.mg X.base N x (defScope st) f cdv X.A X.stack s H (fun _ _ _ => False) p) [] σ' H' s' → RelV v u → Q v H' → CE X.stack X.prog X.w H s Q u s' :=
      fun {σ' H' v u} J rv q => ⟨v, H', J.os, J.bare, J.base, J.hok, rv, q⟩
    cases fl with
    | ret u =>
      obtain ⟨v, σ', H', J, rv, q⟩ := hs
      exact I.after (fin J rv q)
    | next =>
      obtain ⟨σ', H', J, q⟩ := hs
      exact I.after (fin (v := V.non) (u := Value.none) J rfl q)
    | brk =>
      obtain ⟨_, _, _, q⟩ := hs
      exact False.elim q
    | cont =>
      obtain ⟨_, _, _, q⟩ := hs
      exact False.elim q
  · exact wpAny_mono hs (fun _ _ z => False.elim z) fun _ _ z => False.elim z
end Cw

namespace Cw
open PySem PySem.Spec PyProof.Rows L2
/-! ## the slots, told by data -/
inductive Sv where
  | no | dat (x : PyData) | val (v : V)
def Sv.ok (B : Hp) (o : Option V) : Sv → Prop
  | .no => True
  | .dat x => ∃ v, o = some v ∧ Dt B v x
  | .val v => o = some v
def Sl (B : Hp) : L2.St → List Sv → Prop
  | [], [] => True
  | o :: σ, s :: ss => Sv.ok B o s ∧ Sl B σ ss
  | _, _ => False
theorem Sv.ok.mono {B C : Hp} (x : Ex B C) {o : Option V} : ∀ {s : Sv}, Sv.ok B o s → Sv.ok C o s
  | .no, _ => trivial
  | .dat _, ⟨v, e, h⟩ => ⟨v, e, h.mono x⟩
  | .val _, h => h
theorem Sl.mono {B C : Hp} (x : Ex B C) : ∀ {σ : L2.St} {ss : List Sv}, Sl B σ ss → Sl C σ ss
  | [], [], _ => trivial
  | _ :: _, _ :: _, h => ⟨h.1.mono x, Sl.mono x h.2⟩
  | [], _ :: _, h => h.elim
  | _ :: _, [], h => h.elim
theorem Sl.get {B : Hp} : ∀ {σ : L2.St} {ss : List Sv} {i : Nat} {s : Sv}, Sl B σ ss → ss[i]? = some s → ∃ o, σ[i]? = some o ∧ Sv.ok B o s
  | [], [], _, _, _, e => by simp at e
  | o :: σ, s :: ss, 0, t, h, e => by
    simp only [List.getElem?_cons_zero, Option.some.injEq] at e
    subst e
    exact ⟨o, rfl, h.1⟩
  | o :: σ, s :: ss, i + 1, t, h, e => by
    obtain ⟨o', h1, h2⟩ := Sl.get (i := i) (s := t) h.2 (by simpa using e)
    exact ⟨o', by simpa using h1, h2⟩
  | [], _ :: _, _, _, h, _ => h.elim
  | _ :: _, [], _, _, h, _ => h.elim
theorem Sl.set {B : Hp} {o : Option V} {s : Sv} (k : Sv.ok B o s) : ∀ {σ : L2.St} {ss : List Sv} (i : Nat), Sl B σ ss → Sl B (σ.set i o) (ss.set i s)
  | [], [], _, _ => trivial
  | _ :: _, _ :: _, 0, h => ⟨k, h.2⟩
  | _ :: _, _ :: _, i + 1, h => ⟨h.1, Sl.set k i h.2⟩
  | [], _ :: _, _, h => h.elim
  | _ :: _, [], _, h => h.elim
theorem Sl.dat {B : Hp} {σ : L2.St} {ss : List Sv} {i : Nat} {d : PyData} (h : Sl B σ ss) (e : ss[i]? = some (.dat d)) : ∃ v, σ[i]? = some (some v) ∧ Dt B v d := by
  obtain ⟨o, h1, v, rfl, h2⟩ := h.get e
  exact ⟨v, h1, h2⟩
theorem Sl.val {B : Hp} {σ : L2.St} {ss : List Sv} {i : Nat} {v : V} (h : Sl B σ ss) (e : ss[i]? = some (.val v)) : σ[i]? = some (some v) := by
  obtain ⟨o, h1, h2⟩ := h.get e
  rw [h1]
  exact congrArg some h2
/-- some slots forgotten -/
def SLe : List Sv → List Sv → Prop
  | [], [] => True
  | s :: ss, t :: ts => (t = .no ∨ t = s) ∧ SLe ss ts
  | _, _ => False
theorem Sl.weak {B : Hp} : ∀ {σ : L2.St} {ss ts : List Sv}, Sl B σ ss → SLe ss ts → Sl B σ ts
  | [], [], [], _, _ => trivial
  | _ :: _, _ :: _, _ :: _, h, e => ⟨by
      rcases e.1 with z | z
      · rw [z]
        exact trivial
      · rw [z]
        exact h.1, Sl.weak h.2 e.2⟩
  | [], [], _ :: _, _, e => e.elim
  | [], _ :: _, _, h, _ => h.elim
  | _ :: _, [], _, h, _ => h.elim
  | _ :: _, _ :: _, [], _, e => e.elim
/-- arguments told so -/
def Ags (B : Hp) : List V → List Sv → Prop
  | [], [] => True
  | v :: vs, s :: ss => Sv.ok B (some v) s ∧ Ags B vs ss
  | _, _ => False
theorem Ags.mono {B C : Hp} (x : Ex B C) : ∀ {vs : List V} {ss : List Sv}, Ags B vs ss → Ags C vs ss
  | [], [], _ => trivial
  | _ :: _, _ :: _, h => ⟨h.1.mono x, Ags.mono x h.2⟩
  | [], _ :: _, h => h.elim
  | _ :: _, [], h => h.elim
theorem Ags.len {B : Hp} : ∀ {vs : List V} {ss : List Sv}, Ags B vs ss → vs.length = ss.length
  | [], [], _ => rfl
  | _ :: _, _ :: _, h => congrArg (· + 1) (Ags.len h.2)
  | [], _ :: _, h => h.elim
  | _ :: _, [], h => h.elim
theorem Sl.no {B : Hp} : ∀ n : Nat, Sl B (List.replicate n none) (List.replicate n .no)
  | 0 => trivial
  | n + 1 => ⟨trivial, Sl.no n⟩
theorem Ags.sl {B : Hp} {τ : L2.St} {ts : List Sv} (k : Sl B τ ts) : ∀ {vs : List V} {ss : List Sv}, Ags B vs ss → Sl B (vs.map some ++ τ) (ss ++ ts)
  | [], [], _ => k
  | _ :: _, _ :: _, h => ⟨h.1, Ags.sl k h.2⟩
  | [], _ :: _, h => h.elim
  | _ :: _, [], h => h.elim
theorem Ags.start {B : Hp} {N : List Str} {vs : List V} {ss : List Sv} (h : Ags B vs ss) : Sl B (L2.start N vs) (ss ++ List.replicate (N.length - ss.length) .no) := by
  unfold L2.start
  rw [← h.len]
  exact Ags.sl (Sl.no _) h
section
variable {T : List Addr} {X : Cx} {e a b c : Expr} {es : List Expr} {rest : List Stmt} {σ : L2.St} {B0 H0 B C H : Hp} {R Ra Rb : RV} {pos p : Pos} {D : Ends} {ss : List Sv}
/-! ## names by the slots -/
theorem ed_v {x : Str} {d : PyData} (i : Nat) (h : Sl B σ ss) (e : ss[i]? = some (.dat d)) (hN : X.N[i]? = some x := by rfl) (hv : Vis X.env.scope x := by first | exact Or.inl rfl | exact Or.inr (Or.inl rfl) | exact Or.inr (Or.inr rfl)) (hd : (x == ("__debug__" : Str)) = false := by decide)
    (hcd : (x == ("__classdict__" : Str)) = false := by decide) : ED T X (.Name x pos) σ B d := by
  obtain ⟨v, h1, h2⟩ := h.dat e
  exact ev_var i h1 h2 hN hv hd hcd
theorem ev_v {x : Str} {v : V} (i : Nat) (h : Sl B σ ss) (e : ss[i]? = some (.val v)) (hN : X.N[i]? = some x := by rfl) (hv : Vis X.env.scope x := by first | exact Or.inl rfl | exact Or.inr (Or.inl rfl) | exact Or.inr (Or.inr rfl)) (hd : (x == ("__debug__" : Str)) = false := by decide)
    (hcd : (x == ("__classdict__" : Str)) = false := by decide) : EV T X (.Name x pos) σ B fun _ u => u = v := ev_var (v := v) i (h.val e) rfl hN hv hd hcd
/-! ## arguments by the slots' words -/
abbrev EG (T : List Addr) (X : Cx) (es : List Expr) (σ : L2.St) (B : Hp) (ss : List Sv) : Prop := EA T X es σ B fun B' vs => Ags B' vs ss
theorem eg_nil : EG T X [] σ B [] := fun H w Q q => wa_of pa_nil (q [] B H (Go.rfl w) trivial)
theorem eg_cons {s : Sv} {ts : List Sv} (h : EV T X a σ B fun B' v => Sv.ok B' (some v) s) (h2 : EG T X es σ B ts) (hs : starEach (a :: es) X.env = (false, eval a X.env) :: starEach es X.env := by rfl) : EG T X (a :: es) σ B (s :: ts) :=
  (ea_consG h (fun _ _ _ x k => k.mono x) h2 (fun _ _ _ x k => k.mono x) hs).imp fun B' vs _ ⟨v, r, e, k1, k2⟩ => by
    subst e
    exact ⟨k1, k2⟩
/-- an argument that is data, one that is a value -/
theorem eg_d {d : PyData} {ts : List Sv} (h : ED T X a σ B d) (h2 : EG T X es σ B ts) (hs : starEach (a :: es) X.env = (false, eval a X.env) :: starEach es X.env := by rfl) : EG T X (a :: es) σ B (.dat d :: ts) :=
  eg_cons (h.imp fun B' v _ k => ⟨v, rfl, k⟩) h2 hs
theorem eg_v {u : V} {ts : List Sv} (h : EV T X a σ B fun _ v => v = u) (h2 : EG T X es σ B ts) (hs : starEach (a :: es) X.env = (false, eval a X.env) :: starEach es X.env := by rfl) : EG T X (a :: es) σ B (.val u :: ts) :=
  eg_cons (h.imp fun B' v _ k => congrArg some k) h2 hs
/-! ## statements, the run from B0, H0 on -/
theorem t_set {x : Str} {px : Pos} {d : PyData} (i : Nat) (g : Go T B0 H0 B H) (hs : Sl B σ ss) (hN : X.N.Nodup) (h : ED T X e σ B d) (k : ∀ σ' B' H', Go T B0 H0 B' H' → Sl B' σ' (ss.set i (.dat d)) → wss X rest D σ' H')
    (hi : X.N[i]? = some x := by rfl) (hx : Loc X.env.scope x := by first | exact Or.inl rfl | exact Or.inr rfl)
    (hsw : swapsWith e (some (.Name x px)) pos.line X.env = pure false := by rfl) (hf : X.fn x = true ∨ X.env.scope.names.lookup x = some .local := by first | exact .inl rfl | exact .inr rfl | assumption) : wss X (.Assign [.Name x px] e pos :: rest) D σ H :=
  s_set g.wd h hN hi hx (fun v B' H' g2 r => k _ B' H' (g.trans g2) ((hs.mono g2.eb).set (o := some v) (s := .dat _) ⟨v, rfl, r⟩ i)) hsw hf
/-- with a word of any kind -/
theorem t_setR {x : Str} {px : Pos} (i : Nat) (g : Go T B0 H0 B H) (hs : Sl B σ ss) (hN : X.N.Nodup) (h : EV T X e σ B R) (k : ∀ v σ' B' H', Go T B0 H0 B' H' → Go T B H B' H' → R B' v → Sl B' σ' (ss.set i (.val v)) → wss X rest D σ' H')
    (hi : X.N[i]? = some x := by rfl) (hx : Loc X.env.scope x := by first | exact Or.inl rfl | exact Or.inr rfl)
    (hsw : swapsWith e (some (.Name x px)) pos.line X.env = pure false := by rfl) (hf : X.fn x = true ∨ X.env.scope.names.lookup x = some .local := by first | exact .inl rfl | exact .inr rfl | assumption) : wss X (.Assign [.Name x px] e pos :: rest) D σ H :=
  s_set g.wd h hN hi hx (fun v B' H' g2 r => k v _ B' H' (g.trans g2) g2 r ((hs.mono g2.eb).set (o := some v) (s := .val v) rfl i)) hsw hf
theorem t_setLc {x y : Str} {px py lpos : Pos} {elt iter : Expr} {ifs : List Expr} {scope : Scope} {ds : List PyData} (i : Nat) (g : Go T B0 H0 B H) (hs : Sl B σ ss) (l : LC T X elt iter ifs scope x px σ B ds) (k : ∀ σ' B' H', Go T B0 H0 B' H' → Sl B' σ' (ss.set i (.dat (.list ds))) → wss X rest D σ' H')
    (hi : X.N[i]? = some y := by rfl) (hyl : X.env.scope.names.lookup y = some .local := by rfl)
    (hsw : swapsWith (.ListComp elt [⟨.Name x px, iter, ifs, 0⟩] scope lpos) (some (.Name y py)) pos.line X.env = pure true := by exact sw_true rfl rfl rfl (by decide +kernel))
    (hfs : ∀ x, foldedSetIterable iter X.env x = pure x := by intro _; rfl) : wss X (.Assign [.Name y py] (.ListComp elt [⟨.Name x px, iter, ifs, 0⟩] scope lpos) pos :: rest) D σ H :=
  s_setLc g.wd l hi hyl hsw (fun v B' H' g2 r => k _ B' H' (g.trans g2) ((hs.mono g2.eb).set (o := some v) (s := .dat _) ⟨v, rfl, r⟩ i)) hfs
/-- x = []: a list that stands beside the base -/
theorem t_newL {x : Str} {px p2 : Pos} (i : Nat) (g : Go T B0 H0 B H) (hs : Sl B σ ss) (hN : X.N.Nodup) (k : ∀ A σ' H', H A = none → H0 A = none → Go T B0 H0 B H' → B A = none → H' A = some (.lst []) → Sl B σ' (ss.set i (.val (.ref A))) → wss X rest D σ' H')
    (hi : X.N[i]? = some x := by rfl) (hx : Loc X.env.scope x := by first | exact Or.inl rfl | exact Or.inr rfl)
    (hsw : swapsWith (.List [] p2) (some (.Name x px)) pos.line X.env = pure false := by rfl) (hf : X.fn x = true ∨ X.env.scope.names.lookup x = some .local := by first | exact .inl rfl | exact .inr rfl | assumption) : wss X (.Assign [.Name x px] (.List [] p2) pos :: rest) D σ H :=
  s_cons (ws_of (ps_set hN hi hx (pe_lst pa_nil) hsw hf) ⟨Nat.zero_le _, fun A hA => k A _ _ hA (g.eh.free hA) (g.trans (Go.newH g.wd hA)) (g.wd.ex.free hA) upd_same (hs.set (o := some (.ref A)) (s := .val (.ref A)) rfl i)⟩)
theorem t_ret {d : PyData} (g : Go T B0 H0 B H) (h : ED T X e σ B d) (k : ∀ v B' H', Go T B0 H0 B' H' → Dt B' v d → D.rt v H') : wss X (.Return (some e) pos :: rest) D σ H :=
  s_ret g.wd h fun v B' H' g2 r => k v B' H' (g.trans g2) r
theorem t_retR (g : Go T B0 H0 B H) (h : EV T X e σ B R) (k : ∀ v B' H', Go T B0 H0 B' H' → Go T B H B' H' → R B' v → D.rt v H') : wss X (.Return (some e) pos :: rest) D σ H :=
  s_ret g.wd h fun v B' H' g2 r => k v B' H' (g.trans g2) g2 r
theorem t_drop {d : PyData} (g : Go T B0 H0 B H) (hs : Sl B σ ss) (h : ED T X e σ B d) (k : ∀ B' H', Go T B0 H0 B' H' → Sl B' σ ss → wss X rest D σ H') (hsw : swapsWith e none pos.line X.env = pure false := by rfl) : wss X (.Expr e pos :: rest) D σ H :=
  s_drop g.wd h (fun v B' H' g2 r => k B' H' (g.trans g2) (hs.mono g2.eb)) hsw
theorem t_if {k : Bool} {s1 s2 : List Stmt} (g : Go T B0 H0 B H) (hs : Sl B σ ss) (h : ET T X c σ B k) (h1 : k = true → ∀ B' H', Go T B0 H0 B' H' → Sl B' σ ss → wss X s1 { D with nx := fun σ' H' => wss X rest D σ' H' } σ H')
    (h2 : k = false → ∀ B' H', Go T B0 H0 B' H' → Sl B' σ ss → wss X s2 { D with nx := fun σ' H' => wss X rest D σ' H' } σ H') : wss X (.If c s1 s2 pos :: rest) D σ H :=
  s_if g.wd h (fun z B' H' g2 => h1 z B' H' (g.trans g2) (hs.mono g2.eb)) fun z B' H' g2 => h2 z B' H' (g.trans g2) (hs.mono g2.eb)
/-- an if without else -/
theorem t_when {k : Bool} {s1 : List Stmt} (g : Go T B0 H0 B H) (hs : Sl B σ ss) (h : ET T X c σ B k) (h1 : k = true → ∀ B' H', Go T B0 H0 B' H' → Sl B' σ ss → wss X s1 { D with nx := fun σ' H' => wss X rest D σ' H' } σ H')
    (h2 : k = false → ∀ B' H', Go T B0 H0 B' H' → Sl B' σ ss → wss X rest D σ H') : wss X (.If c s1 [] pos :: rest) D σ H :=
  t_if g hs h h1 fun z B' H' g2 hs2 => s_nil (h2 z B' H' g2 hs2)
/-- not taken -/
theorem t_skip {s1 : List Stmt} (g : Go T B0 H0 B H) (hs : Sl B σ ss) (h : ET T X c σ B false) (h2 : ∀ B' H', Go T B0 H0 B' H' → Sl B' σ ss → wss X rest D σ H') : wss X (.If c s1 [] pos :: rest) D σ H :=
  t_when g hs h (fun z => Bool.noConfusion z) fun _ => h2
theorem t_take {s1 s2 : List Stmt} (g : Go T B0 H0 B H) (hs : Sl B σ ss) (h : ET T X c σ B true) (h1 : ∀ B' H', Go T B0 H0 B' H' → Sl B' σ ss → wss X s1 { D with nx := fun σ' H' => wss X rest D σ' H' } σ H') : wss X (.If c s1 s2 pos :: rest) D σ H :=
  t_if g hs h (fun _ => h1) fun z => Bool.noConfusion z
/-- x.append(e) to a list beside the base -/
theorem t_app {x : Str} {p1 p2 : Pos} {d : PyData} {A : Addr} {xs : List V} {ds : List PyData} (i : Nat) (g : Go T B0 H0 B H) (hs : Sl B σ ss) (hv : ss[i]? = some (.val (.ref A))) (h0 : H0 A = none) (hB : B A = none) (hA : H A = some (.lst xs)) (r : Dts B xs ds) (hl : ds.length < 100000) (h : ED T X e σ B d)
    (k : ∀ B' H' ys, Go T B0 H0 B' H' → Sl B' σ ss → B' A = none → H' A = some (.lst ys) → Dts B' ys (ds ++ [d]) → wss X rest D σ H')
    (hN : X.N[i]? = some x := by rfl) (hvis : Vis X.env.scope x := by first | exact Or.inl rfl | exact Or.inr (Or.inl rfl) | exact Or.inr (Or.inr rfl)) (hd : (x == ("__debug__" : Str)) = false := by decide) (hcd : (x == ("__classdict__" : Str)) = false := by decide)
    (hst : starEach [e] X.env = (false, eval e X.env) :: starEach [] X.env := by rfl)
    (pm : ∀ {to : TE} {t : TA}, PE X (.Name x p1) to → PA X [e] t → PE X (.Call (.Attribute (.Name x p1) "append" p2) [e] [] p) (tBM X.K "list" rAppend to t) := by
      exact fun q1 q2 => pe_bm PySem.F.plainAttrs_list PySem.F.slot_list_append PySem.F.type_list_append mt_append q1 q2)
    (hsw : swapsWith (.Call (.Attribute (.Name x p1) "append" p2) [e] [] p) none pos.line X.env = pure false := by rfl) : wss X (.Expr (.Call (.Attribute (.Name x p1) "append" p2) [e] [] p) pos :: rest) D σ H :=
  s_app g.wd (hs.val hv) hA hB (by rw [r.length]; exact hl) h (fun v B' H' g2 rv w2 hA2 hB2 => k B' _ (xs ++ [v]) ((g.trans g2).mutD h0 hB2 hA2) (hs.mono g2.eb) hB2 upd_same ((r.mono g2.eb).append (.one rv))) hN hvis hd hcd hst pm hsw
/-! ## loops, the run from B0, H0 on -/
theorem Go.rebase (g : Go T B0 H0 B H) : Go T B H0 B H := ⟨g.wd, Ex.rfl, g.eh, fun _ h h' => absurd h h'⟩
theorem Go.rejoin {B1 H1 : Hp} (g : Go T B0 H0 B H) (k : Go T B H0 B1 H1) : Go T B0 H0 B1 H1 := ⟨k.wd, g.eb.trans k.eb, k.eh, fun a h h2 => by
  cases q : B a with
  | none => exact k.fr a q h2
  | some o => exact g.fr a h (by rw [q]; exact fun w => nomatch w)⟩
theorem t_forL {x : Str} {px : Pos} {iter : Expr} {body : List Stmt} {ds : List PyData} (i : Nat) (Pv : Nat → L2.St → Hp → Hp → Prop) (g : Go T B0 H0 B H) (h : ED T X iter σ B (.list ds)) (hN : X.N.Nodup)
    (hp : PassesOwn (model X.prog X.w) X.A X.env X.xe) (hc : X.calm = true)
    (h0 : ∀ B1 H1, Go T B0 H0 B1 H1 → Go T B H B1 H1 → Pv 0 σ B1 H1)
    (hs : ∀ n d v σ' B' H', ds[n]? = some d → Go T B0 H0 B' H' → Go T B' H0 B' H' → Ex B B' → Dt B' v d → Pv n σ' B' H' → wss X body { D with nx := fun σ'' H'' => ∃ B'', Go T B' H0 B'' H'' ∧ Pv (n + 1) σ'' B'' H'', ct := fun σ'' H'' => ∃ B'', Go T B' H0 B'' H'' ∧ Pv (n + 1) σ'' B'' H'', bk := fun σ' H' => wss X rest D σ' H' } (σ'.set i (some v)) H')
    (hd : ∀ σ' B' H', Go T B0 H0 B' H' → Ex B B' → Pv ds.length σ' B' H' → wss X rest D σ' H')
    (hi : X.N[i]? = some x := by rfl) (hx : Loc X.env.scope x := by first | exact Or.inl rfl | exact Or.inr rfl)
    (hf : X.fn x = true ∨ X.env.scope.names.lookup x = some .local := by first | exact .inl rfl | exact .inr rfl | assumption) (hss : ∀ x, foldedSetIterable iter X.env x = pure x := by intro _; rfl) : wss X (.For (.Name x px) iter body [] pos :: rest) D σ H := by
  refine s_cons (ws_of (ps_for hp hc (pi_list pwe) (pg_name hN hi hx hf) pwss hss) ?_)
  refine h H g.wd _ fun v B1 H1 g1 r1 => ?_
  obtain ⟨l, xs, rfl, hl, hr⟩ := r1.toList
  refine ⟨l, rfl, ⟨xs, .inl (.inl (g1.wd.ex.lst hl))⟩, for_list (K := X.K) (a := l) (xs := xs) (fun n σ' H' => ∃ B', (Go T B0 H0 B' H' ∧ Ex B1 B') ∧ Pv n σ' B' H') ⟨B1, ⟨g.trans g1, Ex.rfl⟩, h0 B1 H1 (g.trans g1) g1⟩ (fun n σ' H' _ ⟨B', ⟨g', x'⟩, q⟩ => .inl (.inl (g'.wd.ex.lst (x'.lst hl)))) (fun n y σ' H' hy ⟨B', ⟨g', x'⟩, q⟩ => ?_) fun σ' H' ⟨B', ⟨g', x'⟩, q⟩ => ?_⟩
  · obtain ⟨d, hd', ry⟩ := hr.getV hy
    refine wss_mk ?_
    intro pins s1 I
    refine thn (wss_run (hs n d y σ' B' H' hd' g' g'.rebase (g1.eb.trans x') (ry.mono x') q) pins s1 I) fun f s2 k => ?_
    cases f with
    | next =>
      obtain ⟨σ2, H2, I2, B2, k1, k2⟩ := k
      exact ⟨σ2, H2, I2, B2, ⟨g'.rejoin k1, x'.trans k1.eb⟩, k2⟩
    | cont =>
      obtain ⟨σ2, H2, I2, B2, k1, k2⟩ := k
      exact ⟨σ2, H2, I2, B2, ⟨g'.rejoin k1, x'.trans k1.eb⟩, k2⟩
    | brk => exact k
    | ret u => exact k
  · rw [hr.length] at q
    exact hd σ' B' H' g' (g1.eb.trans x') q
theorem t_forRng {x : Str} {px : Pos} {iter : Expr} {body : List Stmt} {wi : TI} {lo : Int} {m : Nat} (i : Nat) (Pv : Nat → L2.St → Hp → Hp → Prop) (g : Go T B0 H0 B H) (hit : PI X (.Name x px) iter wi) (hN : X.N.Nodup)
    (hp : PassesOwn (model X.prog X.w) X.A X.env X.xe) (hc : X.calm = true)
    (hw : ∀ H, Wd T B H → ∀ Rw : It → Hp → Prop, (∀ B1 H1, Go T B H B1 H1 → Rw (Itr lo m) H1) → wi σ H Rw)
    (h0 : ∀ B1 H1, Go T B0 H0 B1 H1 → Go T B H B1 H1 → Pv 0 σ B1 H1)
    (hs : ∀ n σ' B' H', n < m → Go T B0 H0 B' H' → Go T B' H0 B' H' → Ex B B' → Pv n σ' B' H' → wss X body { D with nx := fun σ'' H'' => ∃ B'', Go T B' H0 B'' H'' ∧ Pv (n + 1) σ'' B'' H'', ct := fun σ'' H'' => ∃ B'', Go T B' H0 B'' H'' ∧ Pv (n + 1) σ'' B'' H'', bk := fun σ' H' => wss X rest D σ' H' } (σ'.set i (some (.int (lo + (n : Int))))) H')
    (hd : ∀ σ' B' H', Go T B0 H0 B' H' → Ex B B' → Pv m σ' B' H' → wss X rest D σ' H')
    (hi : X.N[i]? = some x := by rfl) (hx : Loc X.env.scope x := by first | exact Or.inl rfl | exact Or.inr rfl)
    (hf : X.fn x = true ∨ X.env.scope.names.lookup x = some .local := by first | exact .inl rfl | exact .inr rfl | assumption) (hss : ∀ x, foldedSetIterable iter X.env x = pure x := by intro _; rfl) : wss X (.For (.Name x px) iter body [] pos :: rest) D σ H := by
  refine s_cons (ws_of (ps_for hp hc hit (pg_name hN hi hx hf) pwss hss) ?_)
  refine hw H g.wd _ fun B1 H1 g1 => ?_
  refine for_range (lo := lo) (n := m) (fun n σ' H' => ∃ B', (Go T B0 H0 B' H' ∧ Ex B1 B') ∧ Pv n σ' B' H') ⟨B1, ⟨g.trans g1, Ex.rfl⟩, h0 B1 H1 (g.trans g1) g1⟩ (fun n σ' H' hn ⟨B', ⟨g', x'⟩, q⟩ => ?_) fun σ' H' ⟨B', ⟨g', x'⟩, q⟩ => hd σ' B' H' g' (g1.eb.trans x') q
  refine wss_mk ?_
  intro pins s1 I
  refine thn (wss_run (hs n σ' B' H' hn g' g'.rebase (g1.eb.trans x') q) pins s1 I) fun f s2 k => ?_
  cases f with
  | next =>
    obtain ⟨σ2, H2, I2, B2, k1, k2⟩ := k
    exact ⟨σ2, H2, I2, B2, ⟨g'.rejoin k1, x'.trans k1.eb⟩, k2⟩
  | cont =>
    obtain ⟨σ2, H2, I2, B2, k1, k2⟩ := k
    exact ⟨σ2, H2, I2, B2, ⟨g'.rejoin k1, x'.trans k1.eb⟩, k2⟩
  | brk => exact k
  | ret u => exact k
theorem t_forR1 {x : Str} {px pr p2 : Pos} {body : List Stmt} {m : Int} (i : Nat) (Pv : Nat → L2.St → Hp → Hp → Prop) (g : Go T B0 H0 B H) (h : ED T X a σ B (.int m)) (hm : m < 2 ^ 62 ∧ -(2 ^ 62) ≤ m) (bi : Bi X.mg) (hN : X.N.Nodup)
    (hp : PassesOwn (model X.prog X.w) X.A X.env X.xe) (hc : X.calm = true)
    (h0 : ∀ B1 H1, Go T B0 H0 B1 H1 → Go T B H B1 H1 → Pv 0 σ B1 H1)
    (hs : ∀ (n : Nat) σ' B' H', (n : Int) < m → Go T B0 H0 B' H' → Go T B' H0 B' H' → Ex B B' → Pv n σ' B' H' → wss X body { D with nx := fun σ'' H'' => ∃ B'', Go T B' H0 B'' H'' ∧ Pv (n + 1) σ'' B'' H'', ct := fun σ'' H'' => ∃ B'', Go T B' H0 B'' H'' ∧ Pv (n + 1) σ'' B'' H'', bk := fun σ' H' => wss X rest D σ' H' } (σ'.set i (some (.int (n : Int)))) H')
    (hd : ∀ σ' B' H', Go T B0 H0 B' H' → Ex B B' → Pv m.toNat σ' B' H' → wss X rest D σ' H') (hg : Gl X "range" := by rfl) (hst : starEach [a] X.env = [(false, eval a X.env)] := by rfl)
    (hi : X.N[i]? = some x := by rfl) (hx : Loc X.env.scope x := by first | exact Or.inl rfl | exact Or.inr rfl)
    (hf : X.fn x = true ∨ X.env.scope.names.lookup x = some .local := by first | exact .inl rfl | exact .inr rfl | assumption) (hss : ∀ x, foldedSetIterable (.Call (.Name "range" pr) [a] [] p2) X.env x = pure x := by intro _; rfl) : wss X (.For (.Name x px) (.Call (.Name "range" pr) [a] [] p2) body [] pos :: rest) D σ H :=
  t_forRng (lo := 0) (m := m.toNat) i Pv g (pi_range1 hg bi.range (pa_cons pwe pa_nil hst) hst) hN hp hc (fun H w Rw q => h H w _ fun v B1 H1 g1 r1 => ⟨m, by rw [r1.toInt], hm.2, hm.1, q B1 H1 g1⟩) h0
    (fun n σ' B' H' hn g' g2 x' q => by
      have := hs n σ' B' H' (by omega) g' g2 x' q
      rw [Int.zero_add]
      exact this) hd hi hx hf hss
theorem t_forR2 {x : Str} {px pr p2 : Pos} {body : List Stmt} {lo m : Int} (i : Nat) (Pv : Nat → L2.St → Hp → Hp → Prop) (g : Go T B0 H0 B H) (h : ED T X a σ B (.int lo)) (h2 : ED T X b σ B (.int m)) (hm : m < 2 ^ 62 ∧ -(2 ^ 62) ≤ m ∧ lo < 2 ^ 62 ∧ -(2 ^ 62) ≤ lo) (bi : Bi X.mg) (hN : X.N.Nodup)
    (hp : PassesOwn (model X.prog X.w) X.A X.env X.xe) (hc : X.calm = true)
    (h0 : ∀ B1 H1, Go T B0 H0 B1 H1 → Go T B H B1 H1 → Pv 0 σ B1 H1)
    (hs : ∀ (n : Nat) σ' B' H', lo + (n : Int) < m → Go T B0 H0 B' H' → Go T B' H0 B' H' → Ex B B' → Pv n σ' B' H' → wss X body { D with nx := fun σ'' H'' => ∃ B'', Go T B' H0 B'' H'' ∧ Pv (n + 1) σ'' B'' H'', ct := fun σ'' H'' => ∃ B'', Go T B' H0 B'' H'' ∧ Pv (n + 1) σ'' B'' H'', bk := fun σ' H' => wss X rest D σ' H' } (σ'.set i (some (.int (lo + (n : Int))))) H')
    (hd : ∀ σ' B' H', Go T B0 H0 B' H' → Ex B B' → Pv (m - lo).toNat σ' B' H' → wss X rest D σ' H') (hg : Gl X "range" := by rfl) (hst : starEach [a, b] X.env = [(false, eval a X.env), (false, eval b X.env)] := by rfl) (hst2 : starEach [b] X.env = [(false, eval b X.env)] := by rfl)
    (hi : X.N[i]? = some x := by rfl) (hx : Loc X.env.scope x := by first | exact Or.inl rfl | exact Or.inr rfl)
    (hf : X.fn x = true ∨ X.env.scope.names.lookup x = some .local := by first | exact .inl rfl | exact .inr rfl | assumption) (hss : ∀ x, foldedSetIterable (.Call (.Name "range" pr) [a, b] [] p2) X.env x = pure x := by intro _; rfl) : wss X (.For (.Name x px) (.Call (.Name "range" pr) [a, b] [] p2) body [] pos :: rest) D σ H :=
  t_forRng (lo := lo) (m := (m - lo).toNat) i Pv g (pi_range2 hg bi.range (pa_cons pwe (pa_cons pwe pa_nil hst2) (by rw [hst2]; exact hst)) hst hst2) hN hp hc
    (fun H w Rw q => h H w _ fun v B1 H1 g1 r1 => (h2.mono g1.eb) H1 g1.wd _ fun v2 B2 H2 g2 r2 => ⟨lo, m, by rw [r1.toInt, r2.toInt], by omega, q B2 H2 (g1.trans g2)⟩) h0 (fun n σ' B' H' hn g' g2 x' q => hs n σ' B' H' (by omega) g' g2 x' q) hd hi hx hf hss
/-- a body's end by a return, told from the def's start -/
abbrev Rt (T : List Addr) (B0 H0 : Hp) (R : RV) : VK := fun v H' => ∃ B', Go T B0 H0 B' H' ∧ R B' v
end
end Cw

namespace Cw
open PySem PySem.Spec PyProof.Rows L2
/-! ## defs told by their slots' words -/
structure Df (K : PySem.W.Frag) (mg : Str → Option Value) (x : Str) (st : Stmt) (ps : List Str) : Prop where
  ex : ∃ (f : Addr) (fd : FuncData), Fun K x x st f fd ∧ mg x = some (.ref f) ∧ Binds K fd ps []
/-- Pre: from a base and the arguments' words the result's word (of the base ahead and the one behind); Prx: the error's class -/
structure Sg where
  n : Nat
  Pre : Hp → List Sv → (Hp → RV) → Prop
  Prx : Hp → List Sv → Addr → Prop
def Sg.pm (S : Sg) : Pm := ⟨S.n, fun B vs R => ∃ as P, S.Pre B as P ∧ Ags B vs as ∧ R = P B, fun B vs C => ∃ as, S.Prx B as C ∧ Ags B vs as⟩
abbrev isd (d : PyData) : Hp → RV := fun _ B' v => Dt B' v d
abbrev FnS (P : Program) (w : World) (K : PySem.W.Frag) (mg : Str → Option Value) (base : Heap) (T : List Addr) (x : Str) (k : Nat) (S : Sg) : Prop := Fn P w K mg base T x k S.pm
def nox : Hp → List Sv → Addr → Prop := fun _ _ _ => False
section
variable {P : Program} {w : World} {K : PySem.W.Frag} {mg : Str → Option Value} {base : Heap} {T : List Addr}
/-- a def that may raise -/
theorem fn_X {x : Str} {st : Stmt} {N ps : List Str} {k : Nat} {S : Sg} (F : Df K mg x st ps) (c : FnScope N ps (defScope st)) (hn : S.n = ps.length)
    (hbody : ∀ (f : Addr) (cdv : Value) (A : Around) (outer : List Env) (s : Shared) (H : Hp) (vs : List V) (Q : VK) (E : XK) (B : Hp) (as : List Sv), Room k (A.deeper (envOfC x (defScope st) s.heap.objs.size f cdv)) → Go T B H B H → Sl B (L2.start N vs) (as ++ List.replicate (N.length - as.length) .no) →
      ((∃ R, S.Pre B as R ∧ ∀ v H', Rt T B H (R B) v H' → Q v H') ∨ ∃ C, S.Prx B as C ∧ ∀ B' H', Go T B H B' H' → E (.ref C) none H') →
      wss (cxOf (L2N.CX P w) P w K mg base N x (defScope st) f cdv A outer s H E) (defBody st) { nx := fun _ H' => Q .non H', rt := Q } (start N vs) H) : FnS P w K mg base T x (k + 1) S := by
  obtain ⟨f, fd, F1, hm, bd⟩ := F.ex
  refine fn_ok F1 hm c hn bd fun cdv A outer s H vs Q E B hr hl w1 h => ?_
  rcases h with ⟨R, ⟨as, Pr, h1, h2, rfl⟩, q⟩ | ⟨C, ⟨as, h1, h2⟩, q⟩
  · exact hbody f cdv A outer s H vs Q E B as hr (Go.rfl w1) h2.start (.inl ⟨Pr, h1, fun v H' ⟨B', g, r⟩ => q v B' H' g r⟩)
  · exact hbody f cdv A outer s H vs Q E B as hr (Go.rfl w1) h2.start (.inr ⟨C, h1, q⟩)
/-- a def that raises nothing -/
theorem fn_D {x : Str} {st : Stmt} {N ps : List Str} {k n : Nat} {Pre : Hp → List Sv → (Hp → RV) → Prop} (F : Df K mg x st ps) (c : FnScope N ps (defScope st)) (hn : n = ps.length)
    (hbody : ∀ (f : Addr) (cdv : Value) (A : Around) (outer : List Env) (s : Shared) (H : Hp) (vs : List V) (E : XK) (B : Hp) (as : List Sv) (R : Hp → RV), Room k (A.deeper (envOfC x (defScope st) s.heap.objs.size f cdv)) → Go T B H B H → Sl B (L2.start N vs) (as ++ List.replicate (N.length - as.length) .no) → Pre B as R →
      wss (cxOf (L2N.CX P w) P w K mg base N x (defScope st) f cdv A outer s H E) (defBody st) { nx := fun _ H' => Rt T B H (R B) .non H', rt := Rt T B H (R B) } (start N vs) H) : FnS P w K mg base T x (k + 1) ⟨n, Pre, nox⟩ := by
  refine fn_X F c hn fun f cdv A outer s H vs Q E B as hr g sl h => ?_
  rcases h with ⟨R, hp, q⟩ | ⟨C, z, _⟩
  · refine wss_mk ?_
    intro pins s1 I
    refine thn (wss_run (hbody f cdv A outer s H vs E B as R hr g sl hp) pins s1 I) fun fl s2 h2 => ?_
    cases fl with
    | next =>
      obtain ⟨σ', H', I', r⟩ := h2
      exact ⟨σ', H', I', q _ H' r⟩
    | ret u =>
      obtain ⟨v, σ', H', I', rv, r⟩ := h2
      exact ⟨v, σ', H', I', rv, q _ H' r⟩
    | brk => exact h2
    | cont => exact h2
  · exact z.elim
end
section
variable {T : List Addr} {X : Cx} {e a b c : Expr} {es : List Expr} {rest : List Stmt} {σ : L2.St} {B0 H0 B C H : Hp} {R Ra Rb : RV} {pos p : Pos} {D : Ends} {ss : List Sv}
theorem ev_fnS {x : Str} {k : Nat} {S : Sg} {as : List Sv} {P : Hp → RV} (F : FnS X.prog X.w X.K X.mg X.base T x k S) (hr : Room k X.A) (ha : EG T X (e :: es) σ B as) (hn : as.length = S.n) (hp : ∀ B1, Ex B B1 → S.Pre B1 as P) (hP : ∀ B1 B2 v, Ex B B1 → P B1 B2 v → P B B2 v)
    (hg : Gl X x := by rfl) (hdb : (x == ("__debug__" : Str)) = false := by decide) (he : starEach (e :: es) X.env = (false, eval e X.env) :: starEach es X.env := by rfl) (hpl : (backTo pos (starEach es X.env)).any (·.1) = false := by rfl) : EV T X (.Call (.Name x p) (e :: es) [] pos) σ B (P B) := fun H w Q q => by
  obtain ⟨f, fd, ps, G, h1, h2, h3⟩ := F.ex
  refine we_of (pe_call G hr hg h1 h2 h3 .nil passN pwa hdb he hpl) (ha H w _ fun vs B1 H1 g1 r1 => ?_)
  show spP T S.pm (vs ++ []) H1 Q _
  rw [List.append_nil]
  exact ⟨r1.len.trans hn, B1, g1.wd, .inl ⟨P B1, ⟨as, P, hp B1 g1.eb, r1, rfl⟩, fun v B2 H2 g2 r2 => q v B2 H2 (g1.trans g2) (hP B1 B2 v g1.eb r2)⟩⟩
theorem ed_fn {x : Str} {k : Nat} {S : Sg} {as : List Sv} {d : PyData} (F : FnS X.prog X.w X.K X.mg X.base T x k S) (hr : Room k X.A) (ha : EG T X (e :: es) σ B as) (hn : as.length = S.n) (hp : ∀ B1, Ex B B1 → S.Pre B1 as (isd d))
    (hg : Gl X x := by rfl) (hdb : (x == ("__debug__" : Str)) = false := by decide) (he : starEach (e :: es) X.env = (false, eval e X.env) :: starEach es X.env := by rfl) (hpl : (backTo pos (starEach es X.env)).any (·.1) = false := by rfl) : ED T X (.Call (.Name x p) (e :: es) [] pos) σ B d :=
  ev_fnS (P := isd d) F hr ha hn hp (fun _ _ _ _ h => h) hg hdb he hpl
theorem ex_fnS {x : Str} {k : Nat} {S : Sg} {as : List Sv} {A : Addr} (F : FnS X.prog X.w X.K X.mg X.base T x k S) (hr : Room k X.A) (ha : EG T X (e :: es) σ B as) (hn : as.length = S.n) (hp : ∀ B1, Ex B B1 → S.Prx B1 as A)
    (hg : Gl X x := by rfl) (hdb : (x == ("__debug__" : Str)) = false := by decide) (he : starEach (e :: es) X.env = (false, eval e X.env) :: starEach es X.env := by rfl) (hpl : (backTo pos (starEach es X.env)).any (·.1) = false := by rfl) : EX T X (.Call (.Name x p) (e :: es) [] pos) σ B A := fun W tk H w q Q => by
  obtain ⟨f, fd, ps, G, h1, h2, h3⟩ := F.ex
  refine we_of (pe_callS (E := WE W) G hr hg h1 h2 h3 (fun σ => L2N.passAt tk σ) pwa hdb he hpl) (ha H w _ fun vs B1 H1 g1 r1 => ?_)
  exact ⟨r1.len.trans hn, B1, g1.wd, .inr ⟨A, ⟨as, hp B1 g1.eb, r1⟩, fun B2 H2 g2 => q B2 H2 (g1.trans g2)⟩⟩
/-! ## the script -/
theorem mono_at {K : PySem.W.Frag} {A : Addr} {xs : List V} : Mono fun B v => v = .ref A ∧ SqL K B A xs := fun _ _ _ x h => ⟨h.1, x.seq h.2⟩
theorem ed_lenQ {A : Addr} {xs : List V} (h : EV T X a σ B fun _ v => v = .ref A) (hA : SqL X.K B A xs) (hm : Bi X.mg) (hg : Gl X "len" := by rfl) (he : starEach [a] X.env = (false, eval a X.env) :: starEach [] X.env := by rfl) (hpl : (backTo pos (starEach [] X.env)).any (·.1) = false := by rfl) :
    ED T X (.Call (.Name "len" p) [a] [] pos) σ B (.int xs.length) :=
  ev_callB call_len_seq hg hm.len PySem.boot_len (eg_v h eg_nil he) (fun B1 H1 vs x w r Q q => by
    match vs, r with
    | [v], ⟨hv, _⟩ =>
      have ev : v = .ref A := Option.some.inj hv
      subst ev
      exact ⟨A, xs, rfl, .inl (w.ex.seq (x.seq hA)), q _ B1 H1 (Go.rfl w) (.int _)⟩) (by decide) (by decide) he hpl
theorem ed_ixQ {A : Addr} {xs : List V} {i : Int} {v : V} {d : PyData} (ha : EV T X a σ B fun _ v => v = .ref A) (hA : SqL X.K B A xs) (hb : ED T X b σ B (.int i)) (hv : atI xs i = some v) (hd : ∀ B', Dt B' v d) (hs : PlainIx b := by exact fun _ _ => rfl) : ED T X (.Subscript a b pos) σ B d :=
  ev_ix ix_list hs ha mono_c hb mono_dt fun B1 H1 x y xx w rx ry Q q => by
    subst rx
    exact ⟨A, xs, i, v, rfl, ry.toInt, w.ex.seq (xx.seq hA), hv, q v B1 H1 (Go.rfl w) (hd B1)⟩
end
end Cw

/-! # The laws' own draws, as plain functions -/
namespace Cz
def cellZ (ns : List Int) (k : Int) : Int := ns.getD k.toNat 0
def drawnZ (s k : Int) : Int := (((s + 101 * k + 7) * 48271 % 2147483647) / 7 + k) * 16807 % 2147483647 / 64
def sizeZ (c : Int) : Int := if c / 5 % 9 = 1 then 6 + c / 45 % 7 else 1 + c % 5
def kindZ (s k few : Int) : Int := if few > 11 then k else drawnZ s (300 + k) % few
structure Prm where
  wefts : Int
  warps : Int
  seed : Int
  more : Int
def stairy (m : Int) : Bool := decide (m / 80 % 8 = 2) || decide (m / 80 % 8 = 3)
def prmZ (ns : List Int) (a : Int) : Prm :=
  let c := cellZ ns a
  let s := cellZ ns (a + 1)
  let m := cellZ ns (a + 2)
  if stairy m = true then ⟨4 + drawnZ s 700 % 6, 4 + drawnZ s 700 % 6, s, m⟩ else ⟨sizeZ c, sizeZ (c / 320), s, m⟩
def floorsZ (m : Int) : Int := [1, 2, 3, 5].getD (m % 4).toNat 0
def fewD (m : Int) : Int := [12, 1, 2, 3, 12].getD (m / 4 % 5).toNat 0
def fewR (m : Int) : Int := [12, 2, 3, 12].getD (m / 20 % 4).toNat 0
def downZ (p : Prm) (k : Int) : Int := kindZ p.seed k (fewD p.more)
def rightZ (p : Prm) (j : Int) : Int := kindZ (p.seed + 1) j (fewR p.more)
def bz (b : Bool) : Int := if b then 1 else 0
def oneZ (p : Prm) (k : Int) : Int := drawnZ (p.more / 640) (downZ p k) % floorsZ p.more
def otherZ (p : Prm) (j : Int) : Int := drawnZ (p.more / 640) (50 + rightZ p j) % floorsZ p.more
def sign0 (p : Prm) (k j : Int) : Int := if oneZ p k = otherZ p j then drawnZ p.seed (20 * downZ p k + rightZ p j) % 2 else bz (decide (otherZ p j < oneZ p k))
def stairs (p : Prm) : Bool := decide (0 < p.more / 80 % 8) && decide (p.more / 80 % 8 < 4)
def stairZ (p : Prm) (k j : Int) : Int := [k + j, bz (decide (k - 1 ≤ j) && !decide (j = k)), bz (decide (k ≤ j))].getD (p.more / 80 % 8 - 1).toNat 0
def signZ (p : Prm) (k j : Int) : Int := if stairs p = true then (stairZ p k j + p.more / 640) % 2 else sign0 p k j
def rowZ (p : Prm) (k : Int) (n : Nat) : List Int := (List.range n).map fun (j : Nat) => signZ p k (j : Int)
def rowsZ (p : Prm) (n : Nat) : List (List Int) := (List.range n).map fun (k : Nat) => rowZ p (k : Int) p.warps.toNat
def clothZ (ns : List Int) (a : Int) : List (List Int) := rowsZ (prmZ ns a) (prmZ ns a).wefts.toNat
/-- a cloth: 1 to 12 rows of as many signs 0 or 1 -/
structure IsCloth (g : List (List Int)) (m : Nat) : Prop where
  rows : 1 ≤ g.length ∧ g.length ≤ 12
  warps : 1 ≤ m ∧ m ≤ 12
  len : ∀ r ∈ g, r.length = m
  sign : ∀ r ∈ g, ∀ x ∈ r, x = 0 ∨ x = 1
theorem sizeZ_le (c : Int) : 1 ≤ sizeZ c ∧ sizeZ c ≤ 12 := by
  unfold sizeZ
  split <;> omega
theorem prmZ_le (ns : List Int) (a : Int) : (1 ≤ (prmZ ns a).wefts ∧ (prmZ ns a).wefts ≤ 12) ∧ 1 ≤ (prmZ ns a).warps ∧ (prmZ ns a).warps ≤ 12 := by
  unfold prmZ
  dsimp only
  split
  · dsimp only
    omega
  · exact ⟨sizeZ_le _, sizeZ_le _⟩
theorem bz_01 (b : Bool) : bz b = 0 ∨ bz b = 1 := by cases b <;> simp [bz]
theorem sign_01 (p : Prm) (k j : Int) : signZ p k j = 0 ∨ signZ p k j = 1 := by
  unfold signZ sign0
  split
  · omega
  · split
    · omega
    · exact bz_01 _
theorem clothZ_is (ns : List Int) (a : Int) : IsCloth (clothZ ns a) (prmZ ns a).warps.toNat := by
  obtain ⟨h1, h2⟩ := prmZ_le ns a
  refine ⟨?_, by omega, fun r hr => ?_, fun r hr x hx => ?_⟩
  · unfold clothZ rowsZ
    rw [List.length_map, List.length_range]
    omega
  · unfold clothZ rowsZ at hr
    obtain ⟨k, _, rfl⟩ := List.mem_map.mp hr
    unfold rowZ
    rw [List.length_map, List.length_range]
  · unfold clothZ rowsZ at hr
    obtain ⟨k, _, rfl⟩ := List.mem_map.mp hr
    unfold rowZ at hx
    obtain ⟨j, _, rfl⟩ := List.mem_map.mp hx
    exact sign_01 _ _ _
theorem getD_pos {l : List Int} {i : Nat} (h : ∀ x ∈ l, 0 < x) (hi : i < l.length) : 0 < l.getD i 0 := by
  rw [List.getD_eq_getElem?_getD, List.getElem?_eq_getElem hi]
  exact h _ (List.getElem_mem hi)
theorem floors_pos (m : Int) : 0 < floorsZ m := getD_pos (by decide) (by show (m % 4).toNat < 4; omega)
theorem fewD_pos (m : Int) : 0 < fewD m := getD_pos (by decide) (by show (m / 4 % 5).toNat < 5; omega)
theorem fewR_pos (m : Int) : 0 < fewR m := getD_pos (by decide) (by show (m / 20 % 4).toNat < 4; omega)
/-- seen from behind -/
def turnedZ (g : List (List Int)) : List (List Int) := g.map fun r => r.reverse.map fun x => 1 - x
/-- begun so many further -/
def roll {α : Type} (l : List α) (i : Int) : List α := l.drop (i % (l.length : Int)).toNat ++ l.take (i % (l.length : Int)).toNat
def movedZ (g : List (List Int)) (i j : Int) : List (List Int) := (roll g i).map fun r => roll r j
theorem roll_mem {α : Type} {l : List α} {i : Int} {x : α} (h : x ∈ roll l i) : x ∈ l := by
  unfold roll at h
  rcases List.mem_append.mp h with h | h
  · exact List.mem_of_mem_drop h
  · exact List.mem_of_mem_take h
theorem roll_len {α : Type} (l : List α) (i : Int) : (roll l i).length = l.length := by
  unfold roll
  rw [List.length_append, List.length_drop, List.length_take]
  by_cases c : l.length = 0
  · omega
  · have := Int.emod_nonneg i (show (l.length : Int) ≠ 0 by omega)
    have := Int.emod_lt_of_pos i (show (0 : Int) < l.length by omega)
    omega
theorem turned_is {g : List (List Int)} {m : Nat} (c : IsCloth g m) : IsCloth (turnedZ g) m := by
  unfold turnedZ
  refine ⟨by rw [List.length_map]; exact c.rows, c.warps, fun r hr => ?_, fun r hr x hx => ?_⟩
  · obtain ⟨t, ht, rfl⟩ := List.mem_map.mp hr
    rw [List.length_map, List.length_reverse, c.len t ht]
  · obtain ⟨t, ht, rfl⟩ := List.mem_map.mp hr
    obtain ⟨y, hy, rfl⟩ := List.mem_map.mp hx
    have := c.sign t ht y (List.mem_reverse.mp hy)
    omega
theorem moved_is {g : List (List Int)} {m : Nat} (c : IsCloth g m) (i j : Int) : IsCloth (movedZ g i j) m := by
  unfold movedZ
  refine ⟨by rw [List.length_map, roll_len]; exact c.rows, c.warps, fun r hr => ?_, fun r hr x hx => ?_⟩
  · obtain ⟨t, ht, rfl⟩ := List.mem_map.mp hr
    rw [roll_len, c.len t (roll_mem ht)]
  · obtain ⟨t, ht, rfl⟩ := List.mem_map.mp hr
    exact c.sign t (roll_mem ht) x (roll_mem hx)
end Cz

namespace Cw
open PySem PySem.Spec PyProof.Rows L2
/-! ## rows and cloths as data -/
def encR (r : List Int) : PyData := .list (r.map .int)
def encG (g : List (List Int)) : PyData := .list (g.map encR)
theorem atI_int {l : List Int} {i : Int} (h0 : 0 ≤ i) (h : i < l.length) : atI (l.map PyData.int) i = some (.int (l.getD i.toNat 0)) := by
  have ei : i = ((i.toNat : Nat) : Int) := by omega
  have hi : i.toNat < l.length := by omega
  rw [ei]
  refine atI_nat ?_
  rw [Int.toNat_natCast, List.getElem?_map, List.getElem?_eq_getElem hi, List.getD_eq_getElem?_getD, List.getElem?_eq_getElem hi]
  rfl
theorem atI_of_get {l : List PyData} {i : Int} {d : PyData} (h0 : 0 ≤ i) (h : l[i.toNat]? = some d) : atI l i = some d := by
  have ei : i = ((i.toNat : Nat) : Int) := by omega
  rw [ei]
  exact atI_nat h
theorem madeR_all (f : Int → PyData) (lo : Int) (n : Nat) : madeR (fun _ => true) f lo n = (List.range n).map fun (i : Nat) => f (lo + (i : Int)) := by
  unfold madeR
  rw [List.filter_eq_self.mpr (fun _ _ => rfl), List.map_map]
  rfl
theorem made_all (f : PyData → PyData) (ds : List PyData) : made (fun _ => true) f ds = ds.map f := by
  unfold made
  rw [List.filter_eq_self.mpr (fun _ _ => rfl)]
/-! ## blocks -/
/-- a block's scope within a function's scope -/
def relab (scope : Scope) (sc : Scope) : Scope := relabel scope { (default : Env) with scope := sc }
theorem relabel_eq (scope : Scope) (env : Env) : relabel scope env = relab scope env.scope := rfl
theorem bk_fn {CX : CXT} {P : Program} {w : World} {K : PySem.W.Frag} {mg : Str → Option Value} {base : Heap} {N ps : List Str} {qual : Str} {sc scope : Scope} {f : Addr} {cd : Value} {A : Around} {outer : List Env} {s : Shared} {H : Hp} {E : XK} {x : Str} {px : Pos} {j : Nat}
    (c : FnScope N ps sc) (h : blkC N sc scope [(x, j)] = true) (hi : N[j]? = some x := by rfl) (hl : scope.names.lookup x = some .local := by rfl) : Bk (cxOf CX P w K mg base N qual sc f cd A outer s H E) scope x px j :=
  ⟨rfl, c.nd, blkOk_by h, fun _ _ _ _ _ => pg_name (i := j) c.nd hi (.inl (lookup_relabel_local hl)) (.inr (lookup_relabel_local hl))⟩
theorem bk_in {CX : CXT} {P : Program} {w : World} {K : PySem.W.Frag} {mg : Str → Option Value} {base : Heap} {N ps : List Str} {qual : Str} {sc0 sc scope : Scope} {f : Addr} {cd : Value} {A : Around} {outer : List Env} {s : Shared} {H : Hp} {E : XK} {s1 : Shared} {H1 : Hp} {A1 : Addr} {cl : List (Str × Addr)} {fp : List Addr} {x : Str} {px : Pos} {j : Nat}
    (c : FnScope N ps sc0) (h : blkC N (relab sc sc0) scope [(x, j)] = true) (hi : N[j]? = some x := by rfl) (hl : scope.names.lookup x = some .local := by rfl) : Bk (blkX (cxOf CX P w K mg base N qual sc0 f cd A outer s H E) sc s1 H1 A1 cl fp) scope x px j :=
  ⟨rfl, c.nd, blkOk_by h, fun _ _ _ _ _ => pg_name (i := j) c.nd hi (.inl (lookup_relabel_local hl)) (.inr (lookup_relabel_local hl))⟩
/-- the slots in a block: the one name's slot is the item -/
theorem Sl.blk {B C : Hp} {σ : L2.St} {ss : List Sv} {v : V} {d : PyData} (h : Sl B σ ss) (x : Ex B C) (j : Nat) (r : Dt C v d) : Sl C ((σ.set j none).set j (some v)) ((ss.set j .no).set j (.dat d)) :=
  ((h.mono x).set (o := none) (s := .no) trivial j).set (o := some v) (s := .dat d) ⟨v, rfl, r⟩ j
theorem Sl.blkI {B C : Hp} {σ : L2.St} {ss : List Sv} {i : Int} (h : Sl B σ ss) (x : Ex B C) (j : Nat) : Sl C ((σ.set j none).set j (some (.int i))) ((ss.set j .no).set j (.dat (.int i))) := h.blk x j (.int i)
/-! ## a list beside the base comes into it -/
theorem Go.settle {T : List Addr} {B0 H0 B H : Hp} {A : Addr} {xs : List V} (g : Go T B0 H0 B H) (h0 : H0 A = none) (hB : B A = none) (hH : H A = some (.lst xs)) : Go T B0 H0 (upd B A (.lst xs)) H := by
  refine ⟨⟨fun b o e => ?_, g.wd.gd⟩, g.eb.trans (Ex.new hB), g.eh, fun b h1 h2 => ?_⟩
  · by_cases cb : b = A
    · subst cb
      rw [upd_same] at e
      cases e
      exact .inl hH
    · rw [upd_ne cb] at e
      exact g.wd.ex b o e
  · by_cases cb : b = A
    · rw [cb]
      exact h0
    · rw [upd_ne cb] at h2
      exact g.fr b h1 h2
theorem Sl.retell {B : Hp} {s : Sv} : ∀ {σ : L2.St} {ss : List Sv} (i : Nat), Sl B σ ss → (∀ o, σ[i]? = some o → Sv.ok B o s) → Sl B σ (ss.set i s)
  | [], [], _, _, _ => trivial
  | o :: _, _ :: _, 0, h, k => ⟨k o rfl, h.2⟩
  | _ :: _, _ :: _, i + 1, h, k => ⟨h.1, Sl.retell i h.2 fun o e => k o (by simpa using e)⟩
  | [], _ :: _, _, h, _ => h.elim
  | _ :: _, [], _, h, _ => h.elim
theorem Sl.settle {B : Hp} {σ : L2.St} {ss : List Sv} {A : Addr} {xs : List V} {ds : List PyData} (i : Nat) (h : Sl B σ ss) (e : ss[i]? = some (.val (.ref A))) (hB : B A = none) (r : Dts B xs ds) : Sl (upd B A (.lst xs)) σ (ss.set i (.dat (.list ds))) :=
  (h.mono (Ex.new hB)).retell i fun o ho => ⟨.ref A, by
    have := h.val e
    rw [ho] at this
    exact Option.some.inj this, .lst upd_same (r.mono (Ex.new hB))⟩
theorem few {n : Nat} (h : Nat.ble n 100000 = true) : n ≤ 100000 := Nat.le_of_ble_eq_true h
/-! ## an if whose ways meet -/
section
variable {T : List Addr} {X : Cx} {e a b c : Expr} {es : List Expr} {rest : List Stmt} {σ : L2.St} {B0 H0 B C H : Hp} {R Ra Rb : RV} {pos p : Pos} {D : Ends} {ss : List Sv}
/-- the state told by slots -/
def At (T : List Addr) (B0 H0 : Hp) (ss : List Sv) (σ : L2.St) (H : Hp) : Prop := ∃ B, Go T B0 H0 B H ∧ Sl B σ ss
theorem t_join {k : Bool} {s1 s2 : List Stmt} (ss' : List Sv) (g : Go T B0 H0 B H) (hs : Sl B σ ss) (h : ET T X c σ B k) (h1 : k = true → ∀ B' H', Go T B H B' H' → Sl B' σ ss → wss X s1 { D with nx := At T B H ss' } σ H')
    (h2 : k = false → ∀ B' H', Go T B H B' H' → Sl B' σ ss → wss X s2 { D with nx := At T B H ss' } σ H') (h3 : ∀ σ' B' H', Go T B0 H0 B' H' → Go T B H B' H' → Sl B' σ' ss' → wss X rest D σ' H') : wss X (.If c s1 s2 pos :: rest) D σ H := by
  refine s_if g.wd h (fun z B' H' g2 => ?_) fun z B' H' g2 => ?_
  · refine wss_mk ?_
    intro pins s I
    refine thn (wss_run (h1 z B' H' g2 (hs.mono g2.eb)) pins s I) fun f s2 q => ?_
    cases f with
    | next =>
      obtain ⟨σ', H', I', B', g3, sl⟩ := q
      exact ⟨σ', H', I', h3 σ' B' H' (g.trans g3) g3 sl⟩
    | ret u => exact q
    | brk => exact q
    | cont => exact q
  · refine wss_mk ?_
    intro pins s I
    refine thn (wss_run (h2 z B' H' g2 (hs.mono g2.eb)) pins s I) fun f s2 q => ?_
    cases f with
    | next =>
      obtain ⟨σ', H', I', B', g3, sl⟩ := q
      exact ⟨σ', H', I', h3 σ' B' H' (g.trans g3) g3 sl⟩
    | ret u => exact q
    | brk => exact q
    | cont => exact q
/-- at an if's way's end -/
theorem t_end {D : Ends} {ss' : List Sv} (hD : D.nx = At T B0 H0 ss') (g : Go T B0 H0 B H) (hs : Sl B σ ss) (l : SLe ss ss') : wss X [] D σ H := s_nil (by rw [hD]; exact ⟨B, g, hs.weak l⟩)
end
end Cw

namespace Cw
open PySem PySem.Spec PyProof.Rows L2
/-! ## lists of new lists -/
/-- the rows stand at rs, none of them in the base B -/
def Rws (B B' : Hp) : List Addr → List (List PyData) → Prop
  | [], [] => True
  | r :: rs, g :: gs => (B r = none ∧ ∃ ws, B' r = some (.lst ws) ∧ Dts B' ws g) ∧ Rws B B' rs gs
  | _, _ => False
theorem Rws.mono {B B' C : Hp} (x : Ex B' C) : ∀ {rs : List Addr} {gs : List (List PyData)}, Rws B B' rs gs → Rws B C rs gs
  | [], [], _ => trivial
  | _ :: _, _ :: _, ⟨⟨h, ws, h1, h2⟩, r⟩ => ⟨⟨h, ws, x.lst h1, h2.mono x⟩, Rws.mono x r⟩
  | [], _ :: _, h => h.elim
  | _ :: _, [], h => h.elim
theorem Rws.back {A B B' : Hp} (x : Ex A B) : ∀ {rs : List Addr} {gs : List (List PyData)}, Rws B B' rs gs → Rws A B' rs gs
  | [], [], _ => trivial
  | _ :: _, _ :: _, ⟨⟨h, k⟩, r⟩ => ⟨⟨x.free h, k⟩, Rws.back x r⟩
  | [], _ :: _, h => h.elim
  | _ :: _, [], h => h.elim
theorem Rws.dts {B B' : Hp} : ∀ {rs : List Addr} {gs : List (List PyData)}, Rws B B' rs gs → Dts B' (rs.map V.ref) (gs.map PyData.list)
  | [], [], _ => .nil
  | _ :: _, _ :: _, ⟨⟨_, _, h1, h2⟩, r⟩ => .cons (.lst h1 h2) r.dts
  | [], _ :: _, h => h.elim
  | _ :: _, [], h => h.elim
theorem Rws.mem {B B' : Hp} : ∀ {rs : List Addr} {gs : List (List PyData)} {r : Addr}, Rws B B' rs gs → r ∈ rs → B' r ≠ none
  | _ :: _, _ :: _, r, ⟨⟨_, _, h1, _⟩, k⟩, h => by
    rcases List.mem_cons.mp h with e | h
    · rw [e, h1]
      exact fun w => nomatch w
    · exact k.mem h
  | [], [], _, _, h => nomatch h
  | [], _ :: _, _, h, _ => h.elim
  | _ :: _, [], _, h, _ => h.elim
theorem Rws.get {B B' : Hp} : ∀ {rs : List Addr} {gs : List (List PyData)} {i : Nat} {r : Addr}, Rws B B' rs gs → rs[i]? = some r → ∃ g, gs[i]? = some g ∧ B r = none ∧ ∃ ws, B' r = some (.lst ws) ∧ Dts B' ws g
  | [], [], _, _, _, e => by simp at e
  | r :: rs, g :: gs, 0, t, h, e => by
    simp only [List.getElem?_cons_zero, Option.some.injEq] at e
    subst e
    exact ⟨g, rfl, h.1⟩
  | r :: rs, g :: gs, i + 1, t, h, e => by
    obtain ⟨o', h1, h2⟩ := Rws.get (i := i) (r := t) h.2 (by simpa using e)
    exact ⟨o', by simpa using h1, h2⟩
  | [], _ :: _, _, _, h, _ => h.elim
  | _ :: _, [], _, _, h, _ => h.elim
theorem Rws.length {B B' : Hp} : ∀ {rs : List Addr} {gs : List (List PyData)}, Rws B B' rs gs → rs.length = gs.length
  | [], [], _ => rfl
  | _ :: _, _ :: _, h => congrArg (· + 1) (Rws.length h.2)
  | [], _ :: _, h => h.elim
  | _ :: _, [], h => h.elim
theorem Rws.append {B B' : Hp} {r : Addr} {g : List PyData} (k : B r = none ∧ ∃ ws, B' r = some (.lst ws) ∧ Dts B' ws g) : ∀ {rs : List Addr} {gs : List (List PyData)}, Rws B B' rs gs → Rws B B' (rs ++ [r]) (gs ++ [g])
  | [], [], _ => ⟨k, trivial⟩
  | _ :: _, _ :: _, ⟨h, r⟩ => ⟨h, Rws.append k r⟩
  | [], _ :: _, h => h.elim
  | _ :: _, [], h => h.elim
/-- a new list of new lists -/
def NewG (B B' : Hp) (v : V) (gs : List (List PyData)) : Prop := ∃ D rs, v = .ref D ∧ B D = none ∧ B' D = some (.lst (rs.map V.ref)) ∧ D ∉ rs ∧ rs.Nodup ∧ Rws B B' rs gs
def encL (gs : List (List PyData)) : PyData := .list (gs.map .list)
theorem NewG.dt {B B' : Hp} {v : V} {gs : List (List PyData)} (n : NewG B B' v gs) : Dt B' v (encL gs) := by
  obtain ⟨D, rs, rfl, _, h, _, _, r⟩ := n
  exact .lst h r.dts
theorem NewG.mono {B B' C : Hp} {v : V} {gs : List (List PyData)} (x : Ex B' C) (n : NewG B B' v gs) : NewG B C v gs := by
  obtain ⟨D, rs, e, h0, h, h1, h2, r⟩ := n
  exact ⟨D, rs, e, h0, x.lst h, h1, h2, r.mono x⟩
theorem NewG.back {A B B' : Hp} {v : V} {gs : List (List PyData)} (x : Ex A B) (n : NewG B B' v gs) : NewG A B' v gs := by
  obtain ⟨D, rs, e, h0, h, h1, h2, r⟩ := n
  exact ⟨D, rs, e, x.free h0, h, h1, h2, r.back x⟩
theorem NewD.mono {B B' C : Hp} {v : V} {ds : List PyData} (x : Ex B' C) (n : NewD B B' v ds) : NewD B C v ds := by
  obtain ⟨D, ws, e, h0, h, r⟩ := n
  exact ⟨D, ws, e, h0, x.lst h, r.mono x⟩
theorem NewD.back {A B B' : Hp} {v : V} {ds : List PyData} (x : Ex A B) (n : NewD B B' v ds) : NewD A B' v ds := by
  obtain ⟨D, ws, e, h0, h, r⟩ := n
  exact ⟨D, ws, e, x.free h0, h, r⟩
theorem encG_encL (g : List (List Int)) : encG g = encL (g.map fun r => r.map .int) := by
  unfold encG encL
  rw [List.map_map]
  rfl
section
variable {T : List Addr} {X : Cx} {e a b c : Expr} {es : List Expr} {σ : L2.St} {B C H : Hp} {R Ra Rb : RV} {pos p : Pos}
/-! ## new lists by calls and operators -/
theorem en_listL {ds : List PyData} (h : ED T X a σ B (.list ds)) (hm : Bi X.mg) (hg : Gl X "list" := by rfl) (he : starEach [a] X.env = (false, eval a X.env) :: starEach [] X.env := by rfl) (hpl : (backTo pos (starEach [] X.env)).any (·.1) = false := by rfl) :
    EV T X (.Call (.Name "list" p) [a] [] pos) σ B fun B' v => NewD B B' v ds :=
  ev_callTy (Rs := fun B' vs => Dts B' vs [.list ds]) call_list_of hg hm.list PyProof.Rows.boot_list (ea_cons h ea_nil he) (fun B1 H1 vs x w r Q q => by
    cases r with
    | cons h r =>
      cases r
      obtain ⟨t, xs, rfl, ht, hr⟩ := h.toList
      refine ⟨t, xs, rfl, .inl (.inl (.inl (w.ex.lst ht))), fun u hu => ?_⟩
      have n := Go.new (o := .lst xs) w hu
      exact q _ _ _ n ⟨u, xs, rfl, x.free (w.ex.free hu), upd_same, hr.mono n.eb⟩) (by decide) (by decide) he hpl
theorem en_cat {ds fs : List PyData} (ha : ED T X a σ B (.list ds)) (hb : ED T X b σ B (.list fs)) (hl : ds.length + fs.length ≤ 100000) : EV T X (.BinOp a .Add b pos) σ B fun B' v => NewD B B' v (ds ++ fs) :=
  ev_op op_cat ha mono_dt hb mono_dt fun B1 H1 x y xx w rx ry Q q => by
    obtain ⟨p, xs, rfl, hp, hx⟩ := rx.toList
    obtain ⟨t, ys, rfl, ht, hy⟩ := ry.toList
    refine ⟨p, t, xs, ys, rfl, rfl, w.ex.lst hp, w.ex.lst ht, sz100 (by rw [hx.length, hy.length]; exact hl), fun u hu => ?_⟩
    have n := Go.new (o := .lst (xs ++ ys)) w hu
    exact q _ _ _ n ⟨u, _, rfl, xx.free (w.ex.free hu), upd_same, (hx.mono n.eb).append (hy.mono n.eb)⟩
theorem en_rep {ds : List PyData} {k : Int} (ha : ED T X a σ B (.list ds)) (hb : ED T X b σ B (.int k)) (hk : 0 ≤ k ∧ k ≤ 1000) (hl : ds.length ≤ 100) : EV T X (.BinOp a .Mult b pos) σ B fun B' v => NewD B B' v (List.replicate k.toNat ds).flatten :=
  ev_op op_rep ha mono_dt hb mono_dt fun B1 H1 x y xx w rx ry Q q => by
    obtain ⟨p, xs, rfl, hp, hx⟩ := rx.toList
    have z : xs.length * k.toNat ≤ 100 * 1000 := Nat.mul_le_mul (by rw [hx.length]; exact hl) (by omega)
    refine ⟨p, k, xs, rfl, ry.toInt, w.ex.lst hp, by omega, by omega, sz100 (by omega), fun u hu => ?_⟩
    have n := Go.new (o := .lst (List.replicate k.toNat xs).flatten) w hu
    exact q _ _ _ n ⟨u, _, rfl, xx.free (w.ex.free hu), upd_same, (hx.mono n.eb).rep _⟩
theorem en_slice {ds : List PyData} {lo hi : Option Expr} {l h : Option Int} {p2 : Pos} (ha : ED T X a σ B (.list ds)) (hl : EO T X lo σ B l) (hh : EO T X hi σ B h) : EV T X (.Subscript a (.Slice lo hi none p2) pos) σ B fun B' v => NewD B B' v (cutD ds l h) := fun H w Q q =>
  we_of (pe_slice sl_list pwe (pwo _) (pwo _)) (ha H w _ fun v B1 H1 g1 r1 => (hl.mono g1.eb) H1 g1.wd _ fun B2 H2 g2 => (hh.mono (g1.eb.trans g2.eb)) H2 g2.wd _ fun B3 H3 g3 => by
    obtain ⟨p, xs, rfl, hp, hr⟩ := r1.toList
    have e3 := (g2.eb.trans g3.eb)
    refine ⟨p, xs, rfl, .inl (.inl (g3.wd.ex.lst (e3.lst hp))), fun t ht => ?_⟩
    have n := Go.new (o := .lst (cutV xs l h)) g3.wd ht
    exact q _ _ _ (((g1.trans g2).trans g3).trans n) ⟨t, _, rfl, (g1.eb.trans e3).free (g3.wd.ex.free ht), upd_same, (hr.mono (e3.trans n.eb)).cut l h⟩)
/-! ## a comprehension over reversed(list) -/
theorem lc_rev {ds : List PyData} {elt : Expr} {ifs : List Expr} {scope : Scope} {x : Str} {px pr : Pos} {j : Nat} (p : PyData → Bool) (f : PyData → PyData) (k : Bk X scope x px j) (h : ED T X a σ B (.list ds)) (hl : ds.length ≤ 10000) (hm : Bi X.mg)
    (ht : ∀ (s : Shared) (H : Hp) (A : Addr) (cl : List (Str × Addr)) (fp : List Addr) (d : PyData) (v : V) (B1 : Hp), d ∈ ds → Ex B B1 → Dt B1 v d → ETs T (blkX X scope s H A cl fp) ifs ((σ.set j none).set j (some v)) B1 (p d))
    (he : ∀ (s : Shared) (H : Hp) (A : Addr) (cl : List (Str × Addr)) (fp : List Addr) (d : PyData) (v : V) (B1 : Hp), d ∈ ds → p d = true → Ex B B1 → Dt B1 v d → ED T (blkX X scope s H A cl fp) elt ((σ.set j none).set j (some v)) B1 (f d))
    (hg : Gl X "reversed" := by rfl) (hs : starEach [a] X.env = [(false, eval a X.env)] := by rfl) :
    LC T X elt (.Call (.Name "reversed" pr) [a] [] pos) ifs scope x px σ B (made p f ds.reverse) := by
  refine ⟨j, _, k, pi_reversed hg hm.rev (pa_cons pwe pa_nil hs) hs, fun H w Q q => ?_⟩
  refine h H w _ fun v B1 H1 g1 r1 => ?_
  obtain ⟨a, xs, rfl, ha, hr⟩ := r1.toList
  refine ⟨a, xs, rfl, .inl (.inl (g1.wd.ex.lst ha)), fun D hD => lc_it walk_rev (g := gName j) (tt := tts X scope ifs) (te := tes X scope elt) (vs := [j]) (σ := σ) (D := D) (Qd := Q (.ref D)) (fun i H' => Mk T B1 H1 D (made p f (ds.reverse.take i)) H') (Mk.start g1.wd hD) (fun i H' _ m => ?_) (fun i y H' H2 hi m hy => ?_) fun H' m => ?_⟩
  · obtain ⟨B', _, g, _⟩ := m
    exact .inl (.inl (g.wd.ex.lst (g.eb.lst ha)))
  · obtain ⟨rfl, hy⟩ := hy
    obtain ⟨B', ws, g, h2, h3, r⟩ := m
    have hy' : xs.reverse[i]? = some y := by rw [List.getElem?_reverse hi]; exact hy
    obtain ⟨d, hd, ry⟩ := hr.rev.getV hy'
    have hm : d ∈ ds := List.mem_reverse.mp (List.mem_of_getElem? hd)
    have e1 : Ex B B' := g1.eb.trans g.eb
    refine lc_turn (k := p d) (d := f d) hD g h2 h3 r ?_ (fun H2 m2 => by rw [made_more hd]; exact m2) (fun s H0 A cl fp => ht s H0 A cl fp d y B' hm e1 (ry.mono g.eb)) fun c s H0 A cl fp => he s H0 A cl fp d y B' hm c e1 (ry.mono g.eb)
    have := made_len (p := p) (f := f) (ds.reverse.take i)
    have l3 : (ds.reverse.take i).length ≤ 10000 := by rw [List.length_take, List.length_reverse]; omega
    omega
  · have e : ds.reverse.take xs.length = ds.reverse := by
      rw [hr.length, ← List.length_reverse]
      exact List.take_length
    rw [e] at m
    obtain ⟨B', g, ws, r1', r2'⟩ := m.done hD
    exact q _ B' H' (g1.trans g) ⟨D, ws, rfl, g1.eb.free (g1.wd.ex.free hD), r1', r2'⟩
/-! ## a comprehension of new lists -/
structure LG (T : List Addr) (X : Cx) (elt iter : Expr) (scope : Scope) (x : Str) (px : Pos) (σ : L2.St) (B : Hp) (gs : List (List PyData)) : Prop where
  ex : ∃ (j : Nat) (wi : TI), Bk X scope x px j ∧ PI X (.Name x px) iter wi ∧ ∀ H, Wd T B H → ∀ Q : VK, (∀ v B' H', Go T B H B' H' → NewG B B' v gs → Q v H') → tLc wi (gName j) (tts X scope []) (tes X scope elt) [j] σ H Q
theorem LG.ev {elt iter : Expr} {scope : Scope} {x : Str} {px : Pos} {gs : List (List PyData)} (l : LG T X elt iter scope x px σ B gs) (hs : ∀ x, foldedSetIterable iter X.env x = pure x := by intro _; rfl) :
    EV T X (.ListComp elt [⟨.Name x px, iter, [], 0⟩] scope pos) σ B fun B' v => NewG B B' v gs := fun H w Q q => by
  obtain ⟨j, wi, k, hi, run⟩ := l.ex
  exact we_of (pe_lc (own := [(x, j)]) k.calm k.nd hi k.ok k.tg pts_tts pe_tes hs) (run H w Q q)
/-- what is made so far -/
def MkG (T : List Addr) (B1 H1 : Hp) (D : Addr) (gs : List (List PyData)) (H' : Hp) : Prop := ∃ B' rs, Go T B1 H1 B' H' ∧ B' D = none ∧ H' D = some (.lst (rs.map V.ref)) ∧ rs.Nodup ∧ Rws B1 B' rs gs
theorem MkG.start {B1 H1 : Hp} {D : Addr} (w : Wd T B1 H1) (h : H1 D = none) : MkG T B1 H1 D [] (upd H1 D (.lst [])) :=
  ⟨B1, [], Go.newH w h, w.ex.free h, upd_same, .nil, trivial⟩
theorem MkG.push {B1 H1 B' H' B2 H2 : Hp} {D : Addr} {rs : List Addr} {gs : List (List PyData)} {v : V} {g : List PyData} (h1 : H1 D = none) (g1 : Go T B1 H1 B' H') (h2 : B' D = none) (h3 : H' D = some (.lst (rs.map V.ref))) (nd : rs.Nodup) (r : Rws B1 B' rs gs) (g2 : Go T B' H' B2 H2) (rv : NewD B' B2 v g) :
    H2 D = some (.lst (rs.map V.ref)) ∧ MkG T B1 H1 D (gs ++ [g]) (upd H2 D (.lst (rs.map V.ref ++ [v]))) := by
  obtain ⟨A, ws, rfl, hA, hA2, rw⟩ := rv
  have e3 := g2.eh.lst h3
  have f2 : B2 D = none := g2.out h2 (by rw [h3]; exact fun w => nomatch w)
  refine ⟨e3, B2, rs ++ [A], (g1.trans g2).mutD h1 f2 e3, f2, ?_, ?_, ?_⟩
  · rw [upd_same, List.map_append]
    rfl
  · refine List.nodup_append.mpr ⟨nd, List.nodup_cons.mpr ⟨List.not_mem_nil, List.nodup_nil⟩, fun z hz y hy => ?_⟩
    rw [List.mem_singleton] at hy
    subst hy
    intro z2
    subst z2
    exact r.mem hz hA
  · exact (r.mono g2.eb).append ⟨g1.eb.free hA, ws, hA2, rw⟩
theorem lg_turn {elt : Expr} {scope : Scope} {j : Nat} {B1 H1 H' B' : Hp} {D : Addr} {v : V} {rs : List Addr} {acc : List (List PyData)} {d : List PyData} {P : Hp → Prop}
    (hD : H1 D = none) (g : Go T B1 H1 B' H') (h2 : B' D = none) (h3 : H' D = some (.lst (rs.map V.ref))) (nd : rs.Nodup) (r : Rws B1 B' rs acc) (hl : acc.length ≤ 10000) (hP : ∀ H2, MkG T B1 H1 D (acc ++ [d]) H2 → P H2)
    (he : ∀ (s : Shared) (H : Hp) (A : Addr) (cl : List (Str × Addr)) (fp : List Addr) (C : Hp), Ex B' C → EV T (blkX X scope s H A cl fp) elt ((σ.set j none).set j (some v)) C fun B2 u => NewD C B2 u d) :
    gName j v (wipe σ [j]) H' fun σ2 H2 => wipe σ2 [j] = wipe σ [j] ∧ tts X scope [] σ2 H2 fun b H3 =>
      if b = true then tes X scope elt σ2 H3 fun y H4 => ∃ acc, H4 D = some (.lst acc) ∧ acc.length < sizeLine ∧ P (upd H4 D (.lst (acc ++ [y]))) else P H3 := by
  refine ⟨wipe_set σ j v, fun s H0 A cl fp => ?_⟩
  refine ets_nil H' g.wd _ fun B2 H2 g2 => ?_
  have f2 : B2 D = none := g2.out h2 (by rw [h3]; exact fun w => nomatch w)
  have h3' := g2.eh.lst h3
  intro s H0 A cl fp
  refine (he s H0 A cl fp B2 g2.eb) H2 g2.wd _ fun v B3 H3 g3 r3 => ?_
  obtain ⟨e4, m4⟩ := MkG.push hD (g.trans g2) f2 h3' nd (r.mono g2.eb) g3 r3
  exact ⟨rs.map V.ref, e4, Nat.lt_of_le_of_lt (show (rs.map V.ref).length ≤ 10000 by rw [List.length_map, r.length]; exact hl) (by decide), hP _ m4⟩
theorem MkG.done {B1 H1 H' : Hp} {D : Addr} {gs : List (List PyData)} (h1 : H1 D = none) (hB : B1 D = none) (m : MkG T B1 H1 D gs H') : ∃ B', Go T B1 H1 B' H' ∧ NewG B1 B' (.ref D) gs := by
  obtain ⟨B', rs, g, h2, h3, nd, r⟩ := m
  refine ⟨_, g.settle h1 h2 h3, D, rs, rfl, hB, upd_same, fun z => absurd h2 (r.mem z), nd, r.mono (Ex.new h2)⟩
/-- over a list -/
theorem lg_L {ds : List PyData} {elt iter : Expr} {scope : Scope} {x : Str} {px : Pos} {j : Nat} (f : PyData → List PyData) (k : Bk X scope x px j) (h : ED T X iter σ B (.list ds)) (hl : ds.length ≤ 10000)
    (he : ∀ (s : Shared) (H : Hp) (A : Addr) (cl : List (Str × Addr)) (fp : List Addr) (d : PyData) (v : V) (B1 : Hp), d ∈ ds → Ex B B1 → Dt B1 v d → EV T (blkX X scope s H A cl fp) elt ((σ.set j none).set j (some v)) B1 fun B2 u => NewD B1 B2 u (f d)) :
    LG T X elt iter scope x px σ B (ds.map f) := by
  refine ⟨j, _, k, pi_list pwe, fun H w Q q => ?_⟩
  refine h H w _ fun v B1 H1 g1 r1 => ?_
  obtain ⟨a, xs, rfl, ha, hr⟩ := r1.toList
  refine ⟨a, rfl, ⟨xs, .inl (.inl (g1.wd.ex.lst ha))⟩, fun D hD => lc_list (K := X.K) (a := a) (xs := xs) (g := gName j) (tt := tts X scope []) (te := tes X scope elt) (vs := [j]) (σ := σ) (D := D) (Qd := Q (.ref D)) (fun i H' => MkG T B1 H1 D ((ds.take i).map f) H') (MkG.start g1.wd hD) (fun i H' _ m => ?_) (fun i y H' hy m => ?_) fun H' m => ?_⟩
  · obtain ⟨B', _, g, _⟩ := m
    exact .inl (.inl (g.wd.ex.lst (g.eb.lst ha)))
  · obtain ⟨B', rs, g, h2, h3, nd, r⟩ := m
    obtain ⟨d, hd, ry⟩ := hr.getV hy
    have hm : d ∈ ds := List.mem_of_getElem? hd
    have e1 : Ex B B' := g1.eb.trans g.eb
    refine lg_turn (d := f d) hD g h2 h3 nd r ?_ (fun H2 m2 => by
      rw [List.take_add_one, hd, List.map_append]
      exact m2) fun s H0 A cl fp C x => he s H0 A cl fp d y C hm (e1.trans x) ((ry.mono g.eb).mono x)
    rw [List.length_map, List.length_take]
    omega
  · have e : ds.take xs.length = ds := by
      rw [hr.length]
      exact List.take_length
    rw [e] at m
    obtain ⟨B', g, n⟩ := m.done hD (g1.wd.ex.free hD)
    exact q _ B' H' (g1.trans g) (n.back g1.eb)
end
end Cw

namespace Cw
open PySem PySem.Spec PyProof.Rows L2 L2H
open GxR (TabB)
/-! ## a def whose code object has a table (a generator expression within) -/
structure DfC (K : PySem.W.Frag) (mg : Str → Option Value) (base : Heap) (T : List Addr) (x : Str) (st : Stmt) (ps : List Str) : Prop where
  ex : ∃ (f c P : Addr) (oc : Value) (od : Option Addr) (kV doc pm : Value) (an : Option Addr) (ct : Value) (osl : Array (Option Value)),
    K.lookup f = some ⟨oc, od, .func (PySem.W.fnOf x x (defArgs st) (defBody st) (defScope st) .none kV doc pm an (.ref c) ct), osl⟩ ∧ PySem.W.codeIn K (.ref c) x = true ∧ mg x = some (.ref f) ∧ PySem.W.keepIn K (.ref f) = true ∧
    Binds K (PySem.W.fnOf x x (defArgs st) (defBody st) (defScope st) .none kV doc pm an (.ref c) ct) ps [] ∧ P ∈ T ∧ TabB base mg c P
section
variable {P : Program} {w : World} {K : PySem.W.Frag} {mg : Str → Option Value} {base : Heap} {T : List Addr}
theorem fn_DC {x : Str} {st : Stmt} {N ps : List Str} {k n : Nat} {Pre : Hp → List Sv → (Hp → RV) → Prop} (F : DfC K mg base T x st ps) (c : FnScope N ps (defScope st)) (hn : n = ps.length)
    (hbody : ∀ (f cd Pt : Addr) (A : Around) (outer : List Env) (s : Shared) (H : Hp) (vs : List V) (E : XK) (B : Hp) (as : List Sv) (R : Hp → RV), Pt ∈ T → TabB base mg cd Pt → Room k (A.deeper (envOfC x (defScope st) s.heap.objs.size f (.ref cd))) → Go T B H B H → Sl B (L2.start N vs) (as ++ List.replicate (N.length - as.length) .no) → Pre B as R →
      wss (cxOf (L2N.CX P w) P w K mg base N x (defScope st) f (.ref cd) A outer s H E) (defBody st) { nx := fun _ H' => Rt T B H (R B) .non H', rt := Rt T B H (R B) } (start N vs) H) : FnS P w K mg base T x (k + 1) ⟨n, Pre, nox⟩ := by
  obtain ⟨f, cd, Pt, oc, od, kV, doc, pm, an, ct, osl, lk, hcd, hm, kp, bd, hP, TB⟩ := F.ex
  refine ⟨f, _, ps, ?_, hm, kp, bd⟩
  refine fn_of lk hcd c (fun vs H Q E h => by rw [h.1]; exact hn) fun A outer s H vs Q E hr ⟨h1, B, w1, h2⟩ => ⟨_, pwss, ?_⟩
  rcases h2 with ⟨R, ⟨as, Pr, h1, h2, rfl⟩, q⟩ | ⟨C, ⟨as, z, _⟩, _⟩
  · refine wss_mk ?_
    intro pins s1 I
    refine thn (wss_run (hbody f cd Pt A outer s H vs E B as Pr hP TB hr (Go.rfl w1) h2.start h1) pins s1 I) fun fl s2 h2 => ?_
    cases fl with
    | next =>
      obtain ⟨σ', H', I', B', g, r⟩ := h2
      exact ⟨σ', H', I', q _ B' H' g r⟩
    | ret u =>
      obtain ⟨v, σ', H', I', rv, B', g, r⟩ := h2
      exact ⟨v, σ', H', I', rv, q _ B' H' g r⟩
    | brk => exact h2
    | cont => exact h2
  · exact z.elim
theorem genS_by {env : Env} {scope : Scope} {x : Str} (h1 : scope.kind = .function) (h2 : scope.isCoroutine = false) (h3 : ∀ y ∈ scope.names, y.2 ≠ .cell) (h4 : scope.names.lookup (".0" : Str) = some NameKind.local) (h5 : scope.names.lookup x = some .local) (h6 : ∀ y ∈ scope.names, y.2 ≠ .free) : GxR.GenS env scope x :=
  ⟨h1, h2, h3, h4, h5, fun y hy z => absurd z (h6 y hy)⟩
/-! ## a def by a promise of any form -/
structure FnP (P : Program) (w : World) (K : PySem.W.Frag) (mg : Str → Option Value) (base : Heap) (x : Str) (k : Nat) (sp : Sp) : Prop where
  ex : ∃ (f : Addr) (fd : FuncData) (ps : List Str), FnOk P w K mg base (L2N.CX P w) k f fd ps sp ∧ mg x = some (.ref f) ∧ PySem.W.keepIn K (.ref f) = true ∧ Binds K fd ps []
theorem fn_P {x : Str} {st : Stmt} {N ps : List Str} {k : Nat} {sp : Sp} (F : Df K mg x st ps) (c : FnScope N ps (defScope st)) (hn : ∀ vs H Q E, sp vs H Q E → vs.length = ps.length)
    (hbody : ∀ (f : Addr) (cdv : Value) (A : Around) (outer : List Env) (s : Shared) (H : Hp) (vs : List V) (Q : VK) (E : XK), Room k (A.deeper (envOfC x (defScope st) s.heap.objs.size f cdv)) → sp vs H Q E →
      wss (cxOf (L2N.CX P w) P w K mg base N x (defScope st) f cdv A outer s H E) (defBody st) { nx := fun _ H' => Q .non H', rt := Q } (start N vs) H) : FnP P w K mg base x (k + 1) sp := by
  obtain ⟨f, fd, F1, hm, bd⟩ := F.ex
  refine ⟨f, fd, ps, ?_, hm, F1.kp, bd⟩
  obtain ⟨oc, od, kV, doc, pm, an, cdv, ct, osl, rfl, lk, hcd⟩ := F1.ex
  exact fn_of lk hcd c hn fun A outer s H vs Q E hr h => ⟨_, pwss, hbody f cdv A outer s H vs Q E hr h⟩
end
section
variable {T : List Addr} {X : Cx} {e a b c : Expr} {es : List Expr} {rest : List Stmt} {σ : L2.St} {B0 H0 B C H : Hp} {R Ra Rb : RV} {pos p : Pos} {D : Ends} {ss : List Sv}
theorem ev_fnP {x : Str} {k : Nat} {sp : Sp} {Rs : Hp → List V → Prop} (F : FnP X.prog X.w X.K X.mg X.base x k sp) (hr : Room k X.A) (ha : EA T X (e :: es) σ B Rs)
    (hsp : ∀ H B1 H1 vs, Go T B H B1 H1 → Rs B1 vs → ∀ Q : VK, (∀ v B' H', Go T B H B' H' → R B' v → Q v H') → sp vs H1 Q fun _ _ _ => False)
    (hg : Gl X x := by rfl) (hdb : (x == ("__debug__" : Str)) = false := by decide) (he : starEach (e :: es) X.env = (false, eval e X.env) :: starEach es X.env := by rfl) (hpl : (backTo pos (starEach es X.env)).any (·.1) = false := by rfl) : EV T X (.Call (.Name x p) (e :: es) [] pos) σ B R := fun H w Q q => by
  obtain ⟨f, fd, ps, G, h1, h2, h3⟩ := F.ex
  refine we_of (pe_call G hr hg h1 h2 h3 .nil passN pwa hdb he hpl) (ha H w _ fun vs B1 H1 g1 r1 => ?_)
  show sp (vs ++ []) H1 Q _
  rw [List.append_nil]
  exact hsp H B1 H1 vs g1 r1 Q q
/-! ## what leaves the base -/
def del (B : Hp) (r : Addr) : Hp := fun a => if a = r then none else B a
theorem del_same {r : Addr} : del B r r = none := if_pos rfl
theorem del_ne {r a : Addr} (h : a ≠ r) : del B r a = B a := if_neg h
theorem Go.drop {r : Addr} (g : Go T B0 H0 B H) (h : B0 r = none) : Go T B0 H0 (del B r) H := by
  refine ⟨⟨fun a o e => ?_, g.wd.gd⟩, fun a o e => ?_, g.eh, fun a h1 h2 => ?_⟩
  · by_cases c : a = r
    · rw [c, del_same] at e
      cases e
    · rw [del_ne c] at e
      exact g.wd.ex a o e
  · by_cases c : a = r
    · rw [c, h] at e
      cases e
    · rw [del_ne c]
      exact g.eb a o e
  · by_cases c : a = r
    · rw [c, del_same] at h2
      exact (h2 (Eq.refl _)).elim
    · rw [del_ne c] at h2
      exact g.fr a h1 h2
/-- slots told without the heap -/
def VOnly : List Sv → Prop
  | [] => True
  | s :: ss => (match s with | .dat _ => False | _ => True) ∧ VOnly ss
theorem Sl.vals : ∀ {σ : L2.St} {ss : List Sv}, VOnly ss → Sl B σ ss → Sl C σ ss
  | [], [], _, _ => trivial
  | o :: σ, s :: ss, v, h => ⟨by
      cases s with
      | no => trivial
      | dat x => exact v.1.elim
      | val u => exact h.1, Sl.vals v.2 h.2⟩
  | [], _ :: _, _, h => h.elim
  | _ :: _, [], _, h => h.elim
/-- a for over a list that stands in the heap -/
theorem t_forH {x : Str} {px : Pos} {iter : Expr} {body : List Stmt} {l : Addr} {xs : List V} (i : Nat) (Pv : Nat → L2.St → Hp → Prop) (w : Wd T B H) (h : EV T X iter σ B fun _ v => v = .ref l) (hN : X.N.Nodup)
    (hp : PassesOwn (model X.prog X.w) X.A X.env X.xe) (hc : X.calm = true)
    (hl : ∀ n σ' H', Pv n σ' H' → H' l = some (.lst xs))
    (h0 : ∀ B1 H1, Go T B H B1 H1 → Pv 0 σ H1)
    (hs : ∀ n y σ' H', xs[n]? = some y → Pv n σ' H' → wss X body { D with nx := Pv (n + 1), ct := Pv (n + 1), bk := fun σ' H' => wss X rest D σ' H' } (σ'.set i (some y)) H')
    (hd : ∀ σ' H', Pv xs.length σ' H' → wss X rest D σ' H')
    (hi : X.N[i]? = some x := by rfl) (hx : Loc X.env.scope x := by first | exact Or.inl rfl | exact Or.inr rfl)
    (hf : X.fn x = true ∨ X.env.scope.names.lookup x = some .local := by first | exact .inl rfl | exact .inr rfl | assumption) (hss : ∀ x, foldedSetIterable iter X.env x = pure x := by intro _; rfl) : wss X (.For (.Name x px) iter body [] pos :: rest) D σ H := by
  refine s_cons (ws_of (ps_for hp hc (pi_list pwe) (pg_name hN hi hx hf) pwss hss) ?_)
  refine h H w _ fun v B1 H1 g1 r1 => ?_
  have p0 := h0 B1 H1 g1
  exact ⟨l, r1, ⟨xs, .inl (.inl (hl _ _ _ p0))⟩, for_list (K := X.K) (a := l) (xs := xs) Pv p0 (fun n σ' H' _ q => .inl (.inl (hl _ _ _ q))) (fun n y σ' H' hy q => hs n y σ' H' hy q) fun σ' H' q => hd σ' H' q⟩
/-! ## a def called while an error is handled -/
theorem ev_hot {x : Str} {st : Stmt} {N ps : List Str} {k : Nat} {q : Addr × Obj} {Rs : Hp → List V → Prop} (F : Df X.K X.mg x st ps) (S : FnScope N ps (defScope st)) (hr : RoomH (k + 1) X.A) (hot : Hot1 X.A q) (hq : q ∈ X.pn) (ha : EA T X (e :: es) σ B Rs) (hl : ∀ B1 vs, Rs B1 vs → vs.length = ps.length)
    (hbody : ∀ (f : Addr) (cdv : Value) (s : Shared) (B1 H1 : Hp) (vs : List V) (D : Ends), Ex B B1 → Wd T B1 H1 → Rs B1 vs → RoomH k (X.A.deeper (envOfC x (defScope st) s.heap.objs.size f cdv)) → (∀ v B' H', Go T B1 H1 B' H' → R B' v → D.rt v H') →
      wss (cxH (fun _ _ _ _ _ _ => False) X.prog X.w X.K X.mg X.base N x (defScope st) f cdv X.A X.stack s H1 (fun _ _ _ => False) q) (defBody st) D (start N vs) H1)
    (hg : Gl X x := by rfl) (hdb : (x == ("__debug__" : Str)) = false := by decide) (he : starEach (e :: es) X.env = (false, eval e X.env) :: starEach es X.env := by rfl) (hpl : (backTo pos (starEach es X.env)).any (·.1) = false := by rfl) : EV T X (.Call (.Name x p) (e :: es) [] pos) σ B R := fun H w Q q1 => by
  obtain ⟨f, fd, F1, hm, bd⟩ := F.ex
  refine we_mk ?_
  intro pins s I
  refine wpAny_Call_Name_kw (ld_glob I hg hm ?_ hdb)
  refine PySem.W.callWith_K (h₀ := X.base) I.ok.mod.kin F1.kp (thn (pwa.run pos pins s σ H _ I (ha H w (fun vs H1 => ∃ B1, Go T B H B1 H1 ∧ Rs B1 vs) fun vs B1 H1 g r => ⟨B1, g, r⟩)) fun us s1 ⟨vs, H1, I1, r, B1, g, r1⟩ => ⟨I1.kIn, ?_⟩) he hpl
  exact hot_call F1 S bd hr hot hq I1 r (hl B1 vs r1) fun cdv oc hr' => hbody f cdv s1 B1 H1 vs _ g.eb g.wd r1 hr' fun v B' H' g2 r2 => q1 v B' H' (g.trans g2) r2
/-! ## try: body, except C as n: suite, the body raising an error that C takes -/
theorem t_try {x n : Str} {i : Nat} {A : Addr} {c : Value} {body suite : List Stmt} {b₀ : Stmt} {np pos' : Pos} (g : Go T B0 H0 B H) (hst : X.stack = X.env :: X.outer) (hfr : X.env.frame = some X.env.locals) (hN : X.N.Nodup) (hc : L2.Names X x c) (hA : PySem.W.exmOne X.K (.ref A) c = some true)
    (hb : ∀ (W : WX) (pn : List (Addr × Obj)) (xe : Value → Shared → Prop), L2N.Takes (X.tr pn xe) W → (∀ B' H', Go T B0 H0 B' H' → Go T B H B' H' → W (.ref A) none σ H') → wss (X.tr pn xe) body { D with nx := fun σ' H' => wss X rest D σ' H' } σ H)
    (hs : ∀ (a : Addr) (oe : Obj) (pn : List (Addr × Obj)) (B' H' : Hp), Go T B0 H0 B' H' → Go T B H B' H' → L2N.Zn (.ref A) none oe → (∃ vs, oe.data = .fields vs) → H' a = none → wss (X.suite a ((a, oe) :: pn)) (b₀ :: suite) { nx := fun σ' H' => wss X rest D (σ'.set i none) H', rt := D.rt, bk := fun σ' H' => D.bk (σ'.set i none) H', ct := fun σ' H' => D.ct (σ'.set i none) H' } (σ.set i (some (.ref a))) H')
    (hi : X.N[i]? = some n := by rfl) (hln : X.env.kindOf n = some .local := by rfl) :
    wss X (.Try body [.ExceptHandler (some (.Name x np)) (some n) (b₀ :: suite) pos'] [] [] pos :: rest) D σ H := by
  refine s_cons (ws_of (L2N.ps_try_as (Wout := fun _ _ _ _ => False) (tb := fun W D σ H => ∀ (pn : List (Addr × Obj)) (xe : Value → Shared → Prop), L2N.Takes (X.tr pn xe) W → wss (X.tr pn xe) body D σ H)
    (ts := fun a cls d D σ H => ∀ (oe : Obj) (pn : List (Addr × Obj)), L2N.Zn cls d oe → (∃ vs, oe.data = .fields vs) → wss (X.suite a ((a, oe) :: pn)) (b₀ :: suite) D σ H) hst hfr hN hi hln hc (fun u s' ⟨_, _, _, _, _, _, _, _, _, _, _, _, _, _, _, _, z⟩ => z.elim)
    (fun W pn xe tk po => ⟨fun pins s σ H D I h => wss_run (h pn xe tk) pins s I⟩) fun a oe cls d pn hz hf => ⟨fun pins s σ H D I h => wss_run (h oe pn hz hf) pins s I⟩) ?_)
  intro pn xe tk
  exact hb _ pn xe tk fun B' H' g1 g2 => ⟨true, hA, fun _ a ha oe pn hz hf => hs a oe pn B' H' g1 g2 hz hf ha, fun z => nomatch z⟩
end
end Cw

namespace Cw
open PySem PySem.Spec PyProof.Rows L2 L2H
/-! ## a block whose name is a cell (an inner block reads it) -/
theorem bk_fnC {CX : CXT} {P : Program} {w : World} {K : PySem.W.Frag} {mg : Str → Option Value} {base : Heap} {N ps : List Str} {qual : Str} {sc scope : Scope} {f : Addr} {cd : Value} {A : Around} {outer : List Env} {s : Shared} {H : Hp} {E : XK} {x : Str} {px : Pos} {j : Nat}
    (c : FnScope N ps sc) (h : blkC N sc scope [(x, j)] = true) (h2 : ((relab scope sc).names.lookup x == some .cell) = true) (hi : N[j]? = some x := by rfl) (hl : scope.names.lookup x = some .cell := by rfl) : Bk (cxOf CX P w K mg base N qual sc f cd A outer s H E) scope x px j :=
  ⟨rfl, c.nd, blkOk_by h, fun _ _ _ _ _ => pg_name (i := j) c.nd hi (.inr (eq_of_beq h2)) (.inl (by show (scope.names.lookup x == some .cell) = true; rw [hl]; rfl))⟩
/-! ## what a raised class of the module is -/
def errs : List Str := ["BadCloth", "BadThread", "BadCount", "BadLoom", "BadText"]
structure Er (K : PySem.W.Frag) (mg : Str → Option Value) (x : Str) (A : Addr) : Prop where
  xc : Xc K mg x A
  ec : ExcC K A
  er : ∃ E, mg "ClothError" = some (.ref E) ∧ PySem.W.exmOne K (.ref A) (.ref E) = some true
  kt : ∀ y ∈ errs, ∃ C, mg y = some (.ref C) ∧ PySem.W.kitOne K (.ref A) (.ref C) = some (decide (y = x))
  kv : PySem.W.kitOne K (.ref A) (.type "ValueError") = some true
/-- what is said of a list beside a part of the base, whose rows may be written: the wish of a def that writes into a new list of new lists -/
def spOwn (T : List Addr) : Sp := fun vs H Q _ => ∃ (B0 H0 B1 : Hp) (v u : V) (gs : List (List Int)), vs = [v, u] ∧ Go T B0 H0 B1 H ∧ NewG B0 B1 v (gs.map fun r => r.map .int) ∧ Dt B1 u (encG gs) ∧ gs.length ≤ 100 ∧ (∀ r ∈ gs, r.length ≤ 100) ∧ ∀ B' H', Go T B0 H0 B' H' → Q (.bl true) H'
/-! ## cloths as data, compared -/
theorem lay_row : ∀ r : List Int, PyData.canLayAll0 (r.map .int) = true ∧ PyData.depthAll (r.map .int) = 0 ∧ flatP.flatPs (r.map .int) = true
  | [] => ⟨by simp [PyData.canLayAll0], by simp [PyData.depthAll], rfl⟩
  | i :: r => by
    obtain ⟨h1, h2, h3⟩ := lay_row r
    refine ⟨?_, ?_, ?_⟩
    · simp [PyData.canLayAll0, PyData.canLay0, h1]
    · simp [PyData.depthAll, PyData.depth, h2]
    · simp [flatP.flatPs, flatP, h3]
theorem lay_rows : ∀ g : List (List Int), PyData.canLayAll0 (g.map encR) = true ∧ PyData.depthAll (g.map encR) ≤ 1 ∧ flatP.flatPs (g.map encR) = true
  | [] => ⟨by simp [PyData.canLayAll0], by simp [PyData.depthAll], rfl⟩
  | r :: g => by
    obtain ⟨h1, h2, h3⟩ := lay_rows g
    obtain ⟨k1, k2, k3⟩ := lay_row r
    refine ⟨?_, ?_, ?_⟩
    · simp [PyData.canLayAll0, PyData.canLay0, encR, h1, k1]
    · simp only [List.map_cons, PyData.depthAll, PyData.depth, encR, k2]
      omega
    · simp [flatP.flatPs, flatP, encR, h3, k3]
theorem shaped_G (g : List (List Int)) : SeqAt.shaped (encG g) = true := by
  obtain ⟨h1, h2, _⟩ := lay_rows g
  unfold SeqAt.shaped
  rw [Bool.and_eq_true]
  refine ⟨?_, decide_eq_true ?_⟩
  · simp [encG, PyData.canLay0, h1]
  · simp only [encG, PyData.depth]
    omega
theorem flat_G (g : List (List Int)) : flatP (encG g) = true := (lay_rows g).2.2
theorem shaped_R (r : List Int) : SeqAt.shaped (encR r) = true := by
  obtain ⟨h1, h2, _⟩ := lay_row r
  unfold SeqAt.shaped
  rw [Bool.and_eq_true]
  refine ⟨?_, decide_eq_true ?_⟩
  · simp [encR, PyData.canLay0, h1]
  · simp only [encR, PyData.depth]
    omega
theorem flat_R (r : List Int) : flatP (encR r) = true := (lay_row r).2.2
theorem eqv_row : ∀ r s : List Int, PyData.eqvAll (r.map .int) (s.map .int) = decide (r = s)
  | [], [] => by simp [PyData.eqvAll]
  | [], _ :: _ => by simp [PyData.eqvAll]
  | _ :: _, [] => by simp [PyData.eqvAll]
  | i :: r, j :: s => by
    simp only [List.map_cons, PyData.eqvAll, PyData.eqv, eqv_row r s]
    rw [Bool.eq_iff_iff]
    simp
theorem eqv_rows : ∀ g h : List (List Int), PyData.eqvAll (g.map encR) (h.map encR) = decide (g = h)
  | [], [] => by simp [PyData.eqvAll]
  | [], _ :: _ => by simp [PyData.eqvAll]
  | _ :: _, [] => by simp [PyData.eqvAll]
  | r :: g, s :: h => by
    simp only [List.map_cons, PyData.eqvAll, encR, PyData.eqv, eqv_row r s]
    have := eqv_rows g h
    rw [Bool.eq_iff_iff]
    simp [this]
theorem eqv_G (g h : List (List Int)) : PyData.eqv (encG g) (encG h) = decide (g = h) := by
  simp only [encG, PyData.eqv]
  exact eqv_rows g h
theorem eqv_R (r s : List Int) : PyData.eqv (encR r) (encR s) = decide (r = s) := by
  simp only [encR, PyData.eqv]
  exact eqv_row r s
theorem room_units {k : Nat} {A : Around} (h : Room k A) : A.units + 64 < cLine := by
  have := h.un
  omega
section
variable {T : List Addr} {X : Cx} {e a b c : Expr} {es : List Expr} {rest : List Stmt} {σ : L2.St} {B0 H0 B C H : Hp} {R Ra Rb : RV} {pos p : Pos} {D : Ends} {ss : List Sv}
theorem ec_eqG {g h : List (List Int)} {k : Nat} (hr : Room k X.A) (ha : ED T X a σ B (encG g)) (hb : ED T X b σ B (encG h)) : EC T X a .Eq b σ B (decide (g = h)) := by
  rw [← eqv_G]
  exact ec_eq (room_units hr) ha hb (flat_G _) (flat_G _) (shaped_G _) (shaped_G _)
theorem ec_neG {g h : List (List Int)} {k : Nat} (hr : Room k X.A) (ha : ED T X a σ B (encG g)) (hb : ED T X b σ B (encG h)) : EC T X a .NotEq b σ B (!decide (g = h)) := by
  rw [← eqv_G]
  exact ec_ne (room_units hr) ha hb (flat_G _) (flat_G _) (shaped_G _) (shaped_G _)
/-- x.append(e), with the base's growth told -/
theorem t_appX {x : Str} {p1 p2 : Pos} {d : PyData} {A : Addr} {xs : List V} {ds : List PyData} (i : Nat) (g : Go T B0 H0 B H) (hs : Sl B σ ss) (hv : ss[i]? = some (.val (.ref A))) (h0 : H0 A = none) (hB : B A = none) (hA : H A = some (.lst xs)) (r : Dts B xs ds) (hl : ds.length < 100000) (h : ED T X e σ B d)
    (k : ∀ B' H' ys, Go T B0 H0 B' H' → Ex B B' → Sl B' σ ss → B' A = none → H' A = some (.lst ys) → Dts B' ys (ds ++ [d]) → wss X rest D σ H')
    (hN : X.N[i]? = some x := by rfl) (hvis : Vis X.env.scope x := by first | exact Or.inl rfl | exact Or.inr (Or.inl rfl) | exact Or.inr (Or.inr rfl)) (hd : (x == ("__debug__" : Str)) = false := by decide) (hcd : (x == ("__classdict__" : Str)) = false := by decide)
    (hst : starEach [e] X.env = (false, eval e X.env) :: starEach [] X.env := by rfl)
    (pm : ∀ {to : TE} {t : TA}, PE X (.Name x p1) to → PA X [e] t → PE X (.Call (.Attribute (.Name x p1) "append" p2) [e] [] p) (tBM X.K "list" rAppend to t) := by
      exact fun q1 q2 => pe_bm PySem.F.plainAttrs_list PySem.F.slot_list_append PySem.F.type_list_append mt_append q1 q2)
    (hsw : swapsWith (.Call (.Attribute (.Name x p1) "append" p2) [e] [] p) none pos.line X.env = pure false := by rfl) : wss X (.Expr (.Call (.Attribute (.Name x p1) "append" p2) [e] [] p) pos :: rest) D σ H :=
  s_app g.wd (hs.val hv) hA hB (by rw [r.length]; exact hl) h (fun v B' H' g2 rv w2 hA2 hB2 => k B' _ (xs ++ [v]) ((g.trans g2).mutD h0 hB2 hA2) g2.eb (hs.mono g2.eb) hB2 upd_same ((r.mono g2.eb).append (.one rv))) hN hvis hd hcd hst pm hsw
end
end Cw

/-! # Turned and moved cloths, as plain functions -/
namespace Cz
variable {α β : Type}
theorem roll_getElem (l : List α) (i : Int) (k : Nat) (hk : k < (roll l i).length) (h : (((k : Int) + i) % (l.length : Int)).toNat < l.length) : (roll l i)[k] = l[(((k : Int) + i) % (l.length : Int)).toNat] := by
  have hl := roll_len l i
  have h0 : l.length ≠ 0 := by omega
  have n1 := Int.emod_nonneg i (show (l.length : Int) ≠ 0 by omega)
  have n2 := Int.emod_lt_of_pos i (show (0 : Int) < l.length by omega)
  obtain ⟨a, ha⟩ := Int.eq_ofNat_of_zero_le n1
  have e : ((k : Int) + i) % (l.length : Int) = ((k + a) % l.length : Nat) := by
    rw [Int.add_emod, ha]
    have : (k : Int) % (l.length : Int) = (k % l.length : Nat) := by norm_cast
    rw [this, ← Int.natCast_add, ← Int.natCast_emod]
    refine congrArg Int.ofNat ?_
    rw [Nat.mod_eq_of_lt (show k < l.length by omega)]
  simp only [e, Int.toNat_natCast]
  unfold roll
  simp only [ha, Int.toNat_natCast]
  by_cases c : k < l.length - a
  · rw [List.getElem_append_left (by rw [List.length_drop]; exact c), List.getElem_drop]
    congr 1
    rw [Nat.mod_eq_of_lt (by omega)]
    omega
  · rw [List.getElem_append_right (by rw [List.length_drop]; omega), List.getElem_take]
    congr 1
    rw [List.length_drop, Nat.mod_eq_sub_mod (by omega), Nat.mod_eq_of_lt (by omega)]
    omega
theorem at_lt (l : List α) (i : Int) (k : Int) (h : 0 < l.length) : ((k + i) % (l.length : Int)).toNat < l.length := by
  have := Int.emod_nonneg (k + i) (show (l.length : Int) ≠ 0 by omega)
  have := Int.emod_lt_of_pos (k + i) (show (0 : Int) < l.length by omega)
  omega
theorem roll_at_eq (l : List α) (i : Int) (d : α) : ((List.range l.length).map fun (k : Nat) => l.getD (((k : Int) + i) % (l.length : Int)).toNat d) = roll l i := by
  refine List.ext_getElem (by rw [List.length_map, List.length_range, roll_len]) fun k h1 h2 => ?_
  have h3 : k < l.length := by rw [roll_len] at h2; exact h2
  have h4 := at_lt l i k (by omega)
  rw [List.getElem_map, List.getElem_range, roll_getElem l i k h2 h4, List.getD_eq_getElem?_getD, List.getElem?_eq_getElem h4]
  rfl
theorem roll_roll (l : List α) (i : Int) : roll (roll l i) (-i) = l := by
  refine List.ext_getElem (by rw [roll_len, roll_len]) fun k h1 h2 => ?_
  have h4 := at_lt (roll l i) (-i) k (by rw [roll_len]; omega)
  rw [roll_getElem (roll l i) (-i) k h1 h4]
  have h5 := at_lt l i ((((k : Int) + -i) % ((roll l i).length : Int)).toNat : Nat) (by omega)
  rw [roll_getElem l i _ h4 h5]
  have e : ((((((k : Int) + -i) % ((roll l i).length : Int)).toNat : Nat) : Int) + i) % (l.length : Int) = (k : Int) := by
    rw [roll_len, Int.toNat_of_nonneg (Int.emod_nonneg _ (by omega)), Int.emod_add_emod]
    rw [show (k : Int) + -i + i = k by omega]
    exact Int.emod_eq_of_lt (by omega) (by omega)
  simp only [e, Int.toNat_natCast]
theorem roll_mapZ (f : α → β) (l : List α) (i : Int) : roll (l.map f) i = (roll l i).map f := by
  unfold roll
  rw [List.length_map, List.map_append, List.map_drop, List.map_take]
theorem moved_back (g : List (List Int)) (i j : Int) : movedZ (movedZ g i j) (0 - i) (0 - j) = g := by
  unfold movedZ
  have e : roll ((roll g i).map fun r => roll r j) (0 - i) = (roll (roll g i) (-i)).map fun r => roll r j := by
    rw [show (0 : Int) - i = -i by omega]
    exact roll_mapZ _ _ _
  rw [e, roll_roll, List.map_map]
  conv => rhs; rw [← List.map_id g]
  refine List.map_congr_left fun r _ => ?_
  show roll (roll r j) (0 - j) = r
  rw [show (0 : Int) - j = -j by omega]
  exact roll_roll r j
theorem turned_back (g : List (List Int)) : turnedZ (turnedZ g) = g := by
  unfold turnedZ
  rw [List.map_map]
  conv => rhs; rw [← List.map_id g]
  refine List.map_congr_left fun r _ => ?_
  show ((r.reverse.map fun x => 1 - x).reverse.map fun x => 1 - x) = r
  rw [← List.map_reverse, List.reverse_reverse, List.map_map]
  conv => rhs; rw [← List.map_id r]
  refine List.map_congr_left fun x _ => ?_
  show (1 : Int) - (1 - x) = x
  omega
/-- the sign at a place -/
def sgn (g : List (List Int)) (k j : Int) : Int := (g.getD k.toNat []).getD j.toNat 0
theorem row_at {g : List (List Int)} {m : Nat} (c : IsCloth g m) {k : Nat} (h : k < g.length) : (g.getD k []).length = m ∧ g.getD k [] = g[k] ∧ g[k] ∈ g := by
  rw [List.getD_eq_getElem?_getD, List.getElem?_eq_getElem h]
  exact ⟨c.len _ (List.getElem_mem h), rfl, List.getElem_mem h⟩
theorem turned_due {g : List (List Int)} {m : Nat} (c : IsCloth g m) : ((List.range g.length).map fun (k : Nat) => (List.range m).map fun (j : Nat) => 1 - sgn g k ((m : Int) - 1 - j)) = turnedZ g := by
  unfold turnedZ
  refine List.ext_getElem (by rw [List.length_map, List.length_range, List.length_map]) fun k h1 h2 => ?_
  have h3 : k < g.length := by rw [List.length_map, List.length_range] at h1; exact h1
  obtain ⟨r1, r2, r3⟩ := row_at c h3
  rw [List.getElem_map, List.getElem_range, List.getElem_map]
  refine List.ext_getElem (by rw [List.length_map, List.length_range, List.length_map, List.length_reverse, ← r2, r1]) fun j k1 k2 => ?_
  have k3 : j < m := by rw [List.length_map, List.length_range] at k1; exact k1
  have hm : g[k].length = m := c.len _ r3
  rw [List.getElem_map, List.getElem_range, List.getElem_map, List.getElem_reverse]
  unfold sgn
  rw [Int.toNat_natCast, r2, List.getD_eq_getElem?_getD, List.getElem?_eq_getElem (show ((m : Int) - 1 - j).toNat < g[k].length by omega)]
  show (1 : Int) - g[k][((m : Int) - 1 - j).toNat] = _
  congr 1
  congr 1
  omega
theorem moved_due {g : List (List Int)} {m : Nat} (c : IsCloth g m) (i j : Int) : ((List.range g.length).map fun (k : Nat) => (List.range m).map fun (x : Nat) => sgn g (((k : Int) + i) % (g.length : Int)) (((x : Int) + j) % (m : Int))) = movedZ g i j := by
  unfold movedZ
  rw [← roll_at_eq g i [], List.map_map]
  refine List.map_congr_left fun k hk => ?_
  have hg := c.rows
  have h4 := at_lt g i k (by omega)
  obtain ⟨r1, _, _⟩ := row_at c h4
  show _ = roll (g.getD (((k : Int) + i) % (g.length : Int)).toNat []) j
  rw [← roll_at_eq _ j 0, r1]
  rfl
end Cz

namespace Cw
open PySem PySem.Spec PyProof.Rows L2
/-! ## the law's own def, its function given -/
theorem fok_D {P : Program} {w : World} {K : PySem.W.Frag} {mg : Str → Option Value} {base : Heap} {T : List Addr} {x : Str} {st : Stmt} {f : Addr} {fd : FuncData} {N ps : List Str} {k n : Nat} {Pre : Hp → List Sv → (Hp → RV) → Prop} (F : Fun K x x st f fd) (c : FnScope N ps (defScope st)) (hn : n = ps.length)
    (hbody : ∀ (cdv : Value) (A : Around) (outer : List Env) (s : Shared) (H : Hp) (vs : List V) (E : XK) (B : Hp) (as : List Sv) (R : Hp → RV), Room k (A.deeper (envOfC x (defScope st) s.heap.objs.size f cdv)) → Go T B H B H → Sl B (L2.start N vs) (as ++ List.replicate (N.length - as.length) .no) → Pre B as R →
      wss (cxOf (L2N.CX P w) P w K mg base N x (defScope st) f cdv A outer s H E) (defBody st) { nx := fun _ H' => Rt T B H (R B) .non H', rt := Rt T B H (R B) } (start N vs) H) : FnOk P w K mg base (L2N.CX P w) (k + 1) f fd ps (spP T (Sg.pm ⟨n, Pre, nox⟩)) := by
  obtain ⟨oc, od, kV, doc, pm, an, cdv, ct, osl, rfl, lk, hcd⟩ := F.ex
  refine fn_of lk hcd c (fun vs H Q E h => by rw [h.1]; exact hn) fun A outer s H vs Q E hr ⟨h1, B, w1, h2⟩ => ⟨_, pwss, ?_⟩
  rcases h2 with ⟨R, ⟨as, Pr, h1, h2, rfl⟩, q⟩ | ⟨C, ⟨as, z, _⟩, _⟩
  · refine wss_mk ?_
    intro pins s1 I
    refine thn (wss_run (hbody cdv A outer s H vs E B as Pr hr (Go.rfl w1) h2.start h1) pins s1 I) fun fl s2 h2 => ?_
    cases fl with
    | next =>
      obtain ⟨σ', H', I', B', g, r⟩ := h2
      exact ⟨σ', H', I', q _ B' H' g r⟩
    | ret u =>
      obtain ⟨v, σ', H', I', rv, B', g, r⟩ := h2
      exact ⟨v, σ', H', I', rv, q _ B' H' g r⟩
    | brk => exact h2
    | cont => exact h2
  · exact z.elim
/-! ## the end: the tables of some defs -/
/-- the def that stands at f: its code object and its empty table -/
def TabAt (K : PySem.W.Frag) (f : Addr) (h : Heap) : Prop := ∀ (c P : Addr) (o : Obj) (fd : FuncData) (e : Value) (dd : Option Addr) (vs : Array Value) (sl : Array (Option Value)), K.lookup f = some o → o.data = .func fd → fd.code = .ref c → K.lookup c = some ⟨e, dd, .fields vs, sl⟩ → vs[11]? = some (.ref P) →
  h.get? P = some { cls := .none, data := .fields #[] } ∧ PySem.W.CodeHd h c P
theorem walk_tabs {l : PySem.W.OpenLaw} {n k : Nat} {q : Program} {loose : List Str} {XP : (Str → Option Value) → Heap → Prop} {YP : World → Heap → Prop} {d : DefRec} {K : Params → PySem.W.Frag} {CX : World → CXT} {x : Str}
    (hn : l.most = some n) (hn2 : n ≤ sizeLine) (hdf : d.params.defaults = []) (hr : Room k callerA) (hY : ∀ (w : World) (h : Heap), YP w h → (K w.params).In h)
    (F : ∀ (w : World) (mg : Str → Option Value) (fa : Addr) (h : Heap), YP w h → (K w.params).In h → h.Ns mainGlobals mg → mg d.name = some (.ref fa) → (∀ (y : Str) (f : Addr), ((recsOf q).any fun e => e.name == y) = true → mg y = some (.ref f) → TabAt (K w.params) f h) → LamX.LawAtS l w (K w.params) (CX w) k n x mg fa h)
    (hCX : ∀ (w : World) (H : Hp) (s : Shared) (e : Value) (s' : Shared), CX w [] H s (fun _ _ _ => False) e s' → False) :
    PySem.W.WalkO q loose XP YP l.row.toRowW d [] (fun f vs => PySem.call f vs) := by
  refine Att.attach_callB hn hdf fun w s₀ s₁ mg mb fa o pm cd doc a vs ns G Y ho hd hcd hmg hobj hints hlen hbits hg => ?_
  have KX := hY w _ Y
  have own : ∀ (y : Str) (f : Addr), ((recsOf q).any fun e => e.name == y) = true → mg y = some (.ref f) → TabAt (K w.params) f s₁.heap := fun y f hrec hy c P o1 fd1 e dd vs1 sl k1 k2 k3 k4 k5 => by
    obtain ⟨dL, hm, hn1⟩ := List.any_eq_true.mp hrec
    have hn2 : dL.name = y := beq_iff_eq.mp hn1
    obtain ⟨a', o', fd', c', P', h1, h2, h3, h4, h5, h6⟩ := G.T.tab dL hm
    rw [hn2, hy] at h1
    cases h1
    have g1 := KX _ _ k1
    rw [g1] at h2
    cases h2
    rw [k2] at h3
    cases h3
    rw [k3] at h4
    cases h4
    have hd := PySem.W.CodeHd.of h5 h6
    obtain ⟨⟨oc, vc, e1, _, e3, e4⟩, hP⟩ := h6
    have g2 := KX _ _ k4
    rw [g2] at e1
    cases e1
    cases e3
    rw [k5] at e4
    cases e4
    exact ⟨hP, hd⟩
  obtain ⟨fd, cs, sp, hT, nT, C, hb, hsp, hF⟩ := F w mg fa _ Y KX G.T.g hmg own
  exact LamX.law_callTs KX G.T.g G.T.b G.T.builtins G.T.nolimit hg hT nT C G.T.bmain hobj hints (Nat.le_trans hlen hn2) hr hF hb (fun H hH hS => hsp H a ns hlen hbits hH hS) fun H e s' => hCX w H s₁ e s'
end Cw

namespace Cw
open PySem PySem.Spec PyProof.Rows L2
/-! ## classes, told by the kernel's words -/
theorem kit_of {K : PySem.W.Frag} {D C : Addr} {k : Bool} (i : PySem.W.isClsIn K C = true) (t : PySem.W.typeIn K (.ref C) = some (.type "type")) (s : PySem.W.subIn K (.ref D) (.ref C) = some k) (self : PySem.W.subIn K (.ref D) (.ref D) = some true) : PySem.W.kitOne K (.ref D) (.ref C) = some k := by
  have e2 : ((PySem.W.clsIn K C).isSome && PySem.W.typeIn K (.ref C) == some (.type "type")) = true := by
    have h2' : (PySem.W.clsIn K C).isSome = true := i
    rw [h2', t] <;> rfl
  unfold PySem.W.kitOne
  by_cases c : (Value.ref D == Value.ref C) = true
  · rw [if_pos c]
    have e : Value.ref D = Value.ref C := eq_of_beq c
    rw [← e, self] at s
    exact s
  · rw [if_neg c]
    show (if ((PySem.W.clsIn K C).isSome && PySem.W.typeIn K (.ref C) == some (.type "type")) = true then PySem.W.subIn K (.ref D) (.ref C) else none) = some k
    rw [if_pos e2]
    exact s
theorem exm_of {K : PySem.W.Frag} {D C : Addr} (i : PySem.W.isClsIn K C = true) (t : PySem.W.typeIn K (.ref C) = some (.type "type")) (s : PySem.W.subIn K (.ref D) (.ref C) = some true) (b : PySem.W.subIn K (.ref C) (.type "BaseException") = some true) : PySem.W.exmOne K (.ref D) (.ref C) = some true := by
  have e1 : (PySem.W.subIn K (.ref C) (.type "BaseException") == some true) = true := by rw [b] <;> rfl
  have e2 : ((PySem.W.clsIn K C).isSome && PySem.W.typeIn K (.ref C) == some (.type "type")) = true := by
    have h2' : (PySem.W.clsIn K C).isSome = true := i
    rw [h2', t] <;> rfl
  show (if (PySem.W.subIn K (.ref C) (.type "BaseException") == some true) = true then (if ((PySem.W.clsIn K C).isSome && PySem.W.typeIn K (.ref C) == some (.type "type")) = true then PySem.W.subIn K (.ref D) (.ref C) else none) else none) = some true
  rw [if_pos e1, if_pos e2]
  exact s
theorem kitT_of {K : PySem.W.Frag} {D : Addr} {n : String} (s : PySem.W.subIn K (.ref D) (.type n) = some true) (m : PySem.W.kitMeta n = true) : PySem.W.kitOne K (.ref D) (.type n) = some true := by
  unfold PySem.W.kitOne
  rw [if_neg (by intro z; exact Value.noConfusion (eq_of_beq z))]
  show (if PySem.W.kitMeta n = true then PySem.W.subIn K (.ref D) (.type n) else none) = some true
  rw [if_pos m]
  exact s
/-! ## a try whose body raises nothing -/
theorem t_tryN {X : Cx} {rest : List Stmt} {σ : L2.St} {H : Hp} {pos : Pos} {D : Ends} {x n : Str} {i : Nat} {c : Value} {body suite : List Stmt} {b₀ : Stmt} {np pos' : Pos} (hst : X.stack = X.env :: X.outer) (hfr : X.env.frame = some X.env.locals) (hN : X.N.Nodup) (hc : L2.Names X x c)
    (hb : ∀ (pn : List (Addr × Obj)) (xe : Value → Shared → Prop), wss (X.tr pn xe) body { D with nx := fun σ' H' => wss X rest D σ' H' } σ H)
    (hi : X.N[i]? = some n := by rfl) (hln : X.env.kindOf n = some .local := by rfl) :
    wss X (.Try body [.ExceptHandler (some (.Name x np)) (some n) (b₀ :: suite) pos'] [] [] pos :: rest) D σ H := by
  refine s_cons (ws_of (L2N.ps_try_as (i := i) (Wout := fun _ _ _ _ => False) (tb := fun W D σ H => ∀ (pn : List (Addr × Obj)) (xe : Value → Shared → Prop), L2N.Takes (X.tr pn xe) W → wss (X.tr pn xe) body D σ H)
    (ts := fun a cls d D σ H => ∀ (oe : Obj) (pn : List (Addr × Obj)), wss (X.suite a ((a, oe) :: pn)) (b₀ :: suite) D σ H) hst hfr hN hi hln hc (fun u s' ⟨_, _, _, _, _, _, _, _, _, _, _, _, _, _, _, _, z⟩ => z.elim)
    (fun W pn xe tk po => ⟨fun pins s σ H D I h => wss_run (h pn xe tk) pins s I⟩) fun a oe cls d pn hz hf => ⟨fun pins s σ H D I h => wss_run (h oe pn) pins s I⟩) ?_)
  intro pn xe tk
  exact hb pn xe
/-- [e], e raising -/
theorem ex_one {T : List Addr} {X : Cx} {a : Expr} {σ : L2.St} {B : Hp} {A : Addr} {pos : Pos} (h : EX T X a σ B A) (hs : starEach [a] X.env = (false, eval a X.env) :: starEach [] X.env := by rfl) : EX T X (.List [a] pos) σ B A := fun W tk H w q Q =>
  we_of (pe_lst (pa_cons pwe pa_nil hs)) (h W tk H w q _)
end Cw

namespace Cw
open PySem PySem.Spec PyProof.Rows L2
/-! ## xs[a::k] -/
/-- the items at the places of a slice with a step -/
def pickL {α : Type} (xs : List α) (lo hi st : Option Int) : List α := (sliceRange (sliceBounds lo hi st xs.length).1 (sliceBounds lo hi st xs.length).2.1 (sliceBounds lo hi st xs.length).2.2).filterMap (xs[·]?)
theorem pickL_mem {α : Type} {xs : List α} {lo hi st : Option Int} {x : α} (h : x ∈ pickL xs lo hi st) : x ∈ xs := by
  obtain ⟨i, _, h⟩ := List.mem_filterMap.mp h
  exact List.mem_of_getElem? h
theorem vals_pick {xs : List V} {us : List Value} (r : Vals xs us) : ∀ ix : List Nat, Vals (ix.filterMap (xs[·]?)) (ix.filterMap (us[·]?))
  | [] => .nil
  | i :: ix => by
    have ih := vals_pick r ix
    cases h : xs[i]? with
    | none =>
      have h2 : us[i]? = none := by
        rw [List.getElem?_eq_none_iff] at h ⊢
        rw [← r.length]
        exact h
      rw [List.filterMap_cons_none h, List.filterMap_cons_none h2]
      exact ih
    | some x =>
      obtain ⟨u, hu, ru⟩ := r.get h
      rw [List.filterMap_cons_some h, List.filterMap_cons_some hu]
      exact .cons ru ih
theorem dts_pick {B : Hp} {xs : List V} {ds : List PyData} (r : Dts B xs ds) : ∀ ix : List Nat, Dts B (ix.filterMap (xs[·]?)) (ix.filterMap (ds[·]?))
  | [] => .nil
  | i :: ix => by
    have ih := dts_pick r ix
    cases h : ds[i]? with
    | none =>
      have h2 : xs[i]? = none := by
        rw [List.getElem?_eq_none_iff] at h ⊢
        rw [r.length]
        exact h
      rw [List.filterMap_cons_none h, List.filterMap_cons_none h2]
      exact ih
    | some x =>
      obtain ⟨u, hu, ru⟩ := r.get h
      rw [List.filterMap_cons_some h, List.filterMap_cons_some hu]
      exact .cons ru ih
def tStepL (K : PySem.W.Frag) (k : Int) (te : TE) (tl : TO) : TE := fun σ H Q => te σ H fun x H1 => tl σ H1 fun l H2 => ∃ a xs, x = .ref a ∧ SqL K H2 a xs ∧ (pickL xs l none (some k)).length ≤ sizeLine ∧ ∀ p, H2 p = none → Q (.ref p) (upd H2 p (.lst (pickL xs l none (some k))))
theorem pe_stepL {X : Cx} {e lo : Expr} {te : TE} {tl : TO} {k : Int} {j : Nat} {p1 p3 pos : Pos} (hk : (some k : Option Int) ≠ some 0) (he : PE X e te) (hl : PO X (some lo) tl) : PE X (.Subscript e (.Slice (some lo) none (some (.Constant (.int k) j p1)) p3) pos) (tStepL X.K k te tl) := by
  refine ⟨fun pins s σ H Q I h => ?_⟩
  refine Subscript_ (thn (he.run pins s σ H _ I h) fun v s1 ⟨x, H1, I1, r1, q1⟩ => ?_)
  have hst : PO X (some (.Constant (.int k) j p1)) (tPart (tC (.int k))) := po_some pe_int
  refine wpAny_Slice (thn (hl.run pins s1 σ H1 _ I1 q1) fun vl s2 ⟨l, H2, I2, pl, q2⟩ => ?_)
  refine thn (po_none.run pins s2 σ H2 (fun o H3 => o = none ∧ H3 = H2) I2 ⟨rfl, rfl⟩) fun vu s3 ⟨u, H3, I3, pu, eu, e3⟩ => ?_
  subst eu e3
  refine thn (hst.run pins s3 σ H3 (fun o H4 => o = some k ∧ H4 = H3) I3 ⟨k, rfl, rfl, rfl⟩) fun vs s4 ⟨o, H4, I4, ps, eo, e4⟩ => ?_
  subst eo e4
  obtain ⟨a, xs, ex, hx, hz, q⟩ := q2
  subst ex
  cases r1
  have I5 : Inv X pins σ H4 { s4 with heap := s4.heap.push { cls := .type "slice", data := .fields #[vl, vu, vs] } } := I4.kept (t' := s4.toks) fun b ob q => Heap.get?_push_of_some _ q
  obtain ⟨its, r, ht, hz2⟩ := I5.list hx
  have hlen := r.length
  show wpAny (model X.prog X.w) X.A (subscriptTail e (.Slice (some lo) none (some (.Constant (.int k) j p1)) p3) (.ref a) (.ref s4.heap.objs.size)) (EP X pins σ Q) X.xe { s4 with heap := s4.heap.push { cls := .type "slice", data := .fields #[vl, vu, vs] } }
  refine tail_any (ops := [.ref a, .ref s4.heap.objs.size]) ht.isList.typeIs (PySem.slot_list_getitem.lookup) ?_ (by with_unfolding_all rfl)
  refine wpAny_getItem_list_slice ht.isList (Heap.IsSliceOf.new _ vl vu vs) pl pu ps hk ?_ (by rw [List.size_toArray]; omega)
  have e : slicePick its.toArray l none (some k) = (pickL its l none (some k)).toArray := by
    unfold slicePick pickL
    simp only [List.size_toArray, List.getElem?_toArray]
  have rp : Vals (pickL xs l none (some k)) (pickL its l none (some k)) := by
    unfold pickL
    rw [hlen]
    exact vals_pick r _
  rw [e]
  refine ⟨.ref _, _, I5.laid (t' := s4.toks) (o := .lst (pickL xs l none (some k))) (fun b ob q => Heap.get?_push_of_some _ q) (Nat.le_refl _) ?_, rfl, q _ (I5.hok.fresh (Nat.le_refl _))⟩
  exact ⟨hz, _, 0, rp, Heap.get?_push_size _ rfl⟩
section
variable {T : List Addr} {X : Cx} {e a b c : Expr} {es : List Expr} {σ : L2.St} {B C H : Hp} {R Ra Rb : RV} {pos p : Pos}
theorem ed_step {ds : List PyData} {i k : Int} {j : Nat} {p1 p3 : Pos} (hk : (some k : Option Int) ≠ some 0) (ha : ED T X a σ B (.list ds)) (hl : ED T X b σ B (.int i)) (hz : (pickL ds (some i) none (some k)).length ≤ 100000) : ED T X (.Subscript a (.Slice (some b) none (some (.Constant (.int k) j p1)) p3) pos) σ B (.list (pickL ds (some i) none (some k))) := fun H w Q q =>
  we_of (pe_stepL hk pwe (pwo (some b))) (ha H w _ fun v B1 H1 g1 r1 => ((eo_some hl).mono g1.eb) H1 g1.wd _ fun B2 H2 g2 => by
    obtain ⟨p, xs, rfl, hp, hr⟩ := r1.toList
    have hr2 : Dts B2 (pickL xs (some i) none (some k)) (pickL ds (some i) none (some k)) := by
      unfold pickL
      rw [hr.length]
      exact dts_pick (hr.mono g2.eb) _
    refine ⟨p, xs, rfl, .inl (.inl (g2.wd.ex.lst (g2.eb.lst hp))), sz100 (by rw [hr2.length]; exact hz), fun t ht => ?_⟩
    have n := Go.new (o := .lst (pickL xs (some i) none (some k))) g2.wd ht
    exact q _ _ _ ((g1.trans g2).trans n) (.lst upd_same (hr2.mono n.eb)))
/-! ## list(range(..)) -/
def rngD (i j : Int) : List PyData := (List.range (j - i).toNat).map fun (k : Nat) => PyData.int (i + (k : Int))
theorem dts_rg {B : Hp} (i j : Int) : Dts B (rgV i j) (rngD i j) := by
  have h := Dts.ofInts (B := B) ((List.range (j - i).toNat).map fun (k : Nat) => i + (k : Int))
  rw [List.map_map, List.map_map] at h
  exact h
theorem en_rng2 {i j : Int} {p2 p3 : Pos} (ha : ED T X a σ B (.int i)) (hb : ED T X b σ B (.int j)) (h : 0 ≤ i ∧ i ≤ 10000 ∧ 0 ≤ j ∧ j ≤ 10000) (hm : Bi X.mg) (hc : X.calm = true := by rfl) (hg : Gl X "list" := by rfl) (hg2 : Gl X "range" := by rfl)
    (na : starEach [.Call (.Name "range" p2) [a, b] [] p3] X.env = (false, eval (.Call (.Name "range" p2) [a, b] [] p3) X.env) :: starEach [] X.env := by rfl) (n1 : starEach [a, b] X.env = (false, eval a X.env) :: starEach [b] X.env := by rfl) (n2 : starEach [b] X.env = (false, eval b X.env) :: starEach [] X.env := by rfl)
    (n3 : (backTo p3 (starEach [b] X.env)).any (·.1) = false := by rfl) : EV T X (.Call (.Name "list" p) [.Call (.Name "range" p2) [a, b] [] p3] [] pos) σ B fun B' v => NewD B B' v (rngD i j) := fun H w Q q =>
  we_of (pe_listRg hc hg hm.list (prg_2 hg2 hm.range pwe pwe n1 n2 n3) na) (ha H w _ fun v B1 H1 g1 r1 => (hb.mono g1.eb) H1 g1.wd _ fun u B2 H2 g2 r2 => ⟨i, j, r1.toInt, r2.toInt, RgOk.of_le h.1 (by omega) (by omega) h.2.2.1, fun t ht => by
    have n := Go.new (o := .lst (rgV i j)) g2.wd ht
    exact q _ _ _ ((g1.trans g2).trans n) ⟨t, _, rfl, (g1.eb.trans g2.eb).free (g2.wd.ex.free ht), upd_same, dts_rg i j⟩⟩)
theorem en_rng1 {j : Int} {p2 p3 : Pos} (ha : ED T X a σ B (.int j)) (h : 0 ≤ j ∧ j ≤ 10000) (hm : Bi X.mg) (hc : X.calm = true := by rfl) (hg : Gl X "list" := by rfl) (hg2 : Gl X "range" := by rfl)
    (na : starEach [.Call (.Name "range" p2) [a] [] p3] X.env = (false, eval (.Call (.Name "range" p2) [a] [] p3) X.env) :: starEach [] X.env := by rfl) (n1 : starEach [a] X.env = (false, eval a X.env) :: starEach [] X.env := by rfl) : EV T X (.Call (.Name "list" p) [.Call (.Name "range" p2) [a] [] p3] [] pos) σ B fun B' v => NewD B B' v (rngD 0 j) := fun H w Q q =>
  we_of (pe_listRg hc hg hm.list (prg_1 hg2 hm.range pwe n1) na) (ha H w _ fun v B1 H1 g1 r1 => ⟨j, r1.toInt, RgOk.of_le (by omega) (by omega) (by omega) h.1, fun t ht => by
    have n := Go.new (o := .lst (rgV 0 j)) g1.wd ht
    exact q _ _ _ (g1.trans n) ⟨t, _, rfl, g1.eb.free (g1.wd.ex.free ht), upd_same, dts_rg 0 j⟩⟩)
end
end Cw

/-! # Threads, as plain functions -/
namespace Cz
def overB (g : List (List Int)) (i j : Int) : Bool := if i < (g.length : Int) then decide (sgn g i (j - (g.length : Int)) = 0) else decide (sgn g j (i - (g.length : Int)) = 1)
def weftB (g : List (List Int)) (i : Int) : Bool := decide (i < (g.length : Int))
def crossB (g : List (List Int)) (i j : Int) : Bool := weftB g i != weftB g j
end Cz

namespace Cw
open PySem PySem.Spec PyProof.Rows L2
theorem ex_del {B C : Hp} {r : Addr} (x : Ex B C) (h : B r = none) : Ex B (del C r) := fun a o e => by
  by_cases c : a = r
  · rw [c, h] at e
    cases e
  · rw [del_ne c]
    exact x a o e
section
variable {T : List Addr} {X : Cx} {e a b c : Expr} {σ : L2.St} {B C H : Hp}
theorem ec_eqR {g h : List Int} {k : Nat} (hr : Room k X.A) (ha : ED T X a σ B (encR g)) (hb : ED T X b σ B (encR h)) : EC T X a .Eq b σ B (decide (g = h)) := by
  rw [← eqv_R]
  exact ec_eq (room_units hr) ha hb (flat_R _) (flat_R _) (shaped_R _) (shaped_R _)
theorem ec_neR {g h : List Int} {k : Nat} (hr : Room k X.A) (ha : ED T X a σ B (encR g)) (hb : ED T X b σ B (encR h)) : EC T X a .NotEq b σ B (!decide (g = h)) := by
  rw [← eqv_R]
  exact ec_ne (room_units hr) ha hb (flat_R _) (flat_R _) (shaped_R _) (shaped_R _)
end
end Cw
namespace Cz
/-- of the first n threads those that i crosses and lies over -/
def dueI (g : List (List Int)) (i : Int) (n : Nat) : List Int := ((List.range n).map fun (k : Nat) => (k : Int)).filter fun o => crossB g i o && overB g i o
theorem dueI_more (g : List (List Int)) (i : Int) (n : Nat) : dueI g i (n + 1) = if (crossB g i n && overB g i n) = true then dueI g i n ++ [(n : Int)] else dueI g i n := by
  unfold dueI
  rw [List.range_succ, List.map_append, List.filter_append]
  by_cases c : (crossB g i n && overB g i n) = true
  · rw [if_pos c]
    simp [c]
  · rw [if_neg c]
    simp [c]
theorem dueI_len (g : List (List Int)) (i : Int) (n : Nat) : (dueI g i n).length ≤ n := by
  unfold dueI
  refine Nat.le_trans (List.length_filter_le _ _) ?_
  rw [List.length_map, List.length_range]
  exact Nat.le_refl _
end Cz

namespace Cw
open PySem PySem.Spec PyProof.Rows L2
variable {T : List Addr} {X : Cx} {c : Expr} {rest : List Stmt} {σ : L2.St} {B0 H0 B C H : Hp} {pos : Pos} {D : Ends} {ss : List Sv}
/-! ## some addresses out of the base, into it -/
def dels (B : Hp) (F : List Addr) : Hp := fun a => if a ∈ F then none else B a
theorem dels_in {F : List Addr} {a : Addr} (h : a ∈ F) : dels B F a = none := if_pos h
theorem dels_out {F : List Addr} {a : Addr} (h : a ∉ F) : dels B F a = B a := if_neg h
theorem Go.drops {F : List Addr} (g : Go T B0 H0 B H) (h : ∀ a ∈ F, B0 a = none) : Go T B0 H0 (dels B F) H := by
  refine ⟨⟨fun a o e => ?_, g.wd.gd⟩, fun a o e => ?_, g.eh, fun a h1 h2 => ?_⟩
  · by_cases c : a ∈ F
    · rw [dels_in c] at e
      cases e
    · rw [dels_out c] at e
      exact g.wd.ex a o e
  · by_cases c : a ∈ F
    · rw [h a c] at e
      cases e
    · rw [dels_out c]
      exact g.eb a o e
  · by_cases c : a ∈ F
    · rw [dels_in c] at h2
      exact (h2 (Eq.refl _)).elim
    · rw [dels_out c] at h2
      exact g.fr a h1 h2
theorem ex_dels {F : List Addr} (x : Ex B C) (h : ∀ a ∈ F, B a = none) : Ex B (dels C F) := fun a o e => by
  by_cases c : a ∈ F
  · rw [h a c] at e
    cases e
  · rw [dels_out c]
    exact x a o e
/-- what stands in the heap, new since the run began, comes into the base -/
theorem Go.settles {Bf : Hp} (g : Go T B0 H0 B H) (h : ∀ a o, Bf a = some o → H0 a = none ∧ H a = some o) : Go T B0 H0 (un B Bf) H := by
  refine ⟨⟨fun a o e => ?_, g.wd.gd⟩, g.eb.trans fun a o e => .inl (un_l e), g.eh, fun a h1 h2 => ?_⟩
  · cases q : B a with
    | some u =>
      rw [un_l q] at e
      cases e
      exact g.wd.ex a _ q
    | none =>
      rw [un_r q] at e
      exact .inl (h a o e).2
  · cases q : B a with
    | some u => exact g.fr a h1 (by rw [q]; exact fun w => nomatch w)
    | none =>
      rw [un_r q] at h2
      cases z : Bf a with
      | none => exact absurd z h2
      | some o => exact (h a o z).1
/-- the words of some addresses in a heap -/
def only (H : Hp) (F : List Addr) : Hp := fun a => if a ∈ F then H a else none
theorem only_in {F : List Addr} {a : Addr} (h : a ∈ F) : only H F a = H a := if_pos h
theorem only_mem {F : List Addr} {a : Addr} {o : HO} (h : only H F a = some o) : a ∈ F ∧ H a = some o := by
  unfold only at h
  split at h
  · exact ⟨by assumption, h⟩
  · cases h
/-! ## an if whose ways meet, the meeting told by a thing -/
theorem t_joinE {α : Type} {k : Bool} {s1 s2 : List Stmt} (ss' : α → List Sv) (Pa : α → Prop) (g : Go T B0 H0 B H) (hs : Sl B σ ss) (h : ET T X c σ B k) (h1 : k = true → ∀ B' H', Go T B H B' H' → Sl B' σ ss → wss X s1 { D with nx := fun σ' H' => ∃ a, Pa a ∧ At T B H (ss' a) σ' H' } σ H')
    (h2 : k = false → ∀ B' H', Go T B H B' H' → Sl B' σ ss → wss X s2 { D with nx := fun σ' H' => ∃ a, Pa a ∧ At T B H (ss' a) σ' H' } σ H') (h3 : ∀ a σ' B' H', Pa a → Go T B0 H0 B' H' → Go T B H B' H' → Sl B' σ' (ss' a) → wss X rest D σ' H') : wss X (.If c s1 s2 pos :: rest) D σ H := by
  refine s_if g.wd h (fun z B' H' g2 => ?_) fun z B' H' g2 => ?_
  · refine wss_mk ?_
    intro pins s I
    refine thn (wss_run (h1 z B' H' g2 (hs.mono g2.eb)) pins s I) fun f s2 q => ?_
    cases f with
    | next =>
      obtain ⟨σ', H', I', a, pa, B', g3, sl⟩ := q
      exact ⟨σ', H', I', h3 a σ' B' H' pa (g.trans g3) g3 sl⟩
    | ret u => exact q
    | brk => exact q
    | cont => exact q
  · refine wss_mk ?_
    intro pins s I
    refine thn (wss_run (h2 z B' H' g2 (hs.mono g2.eb)) pins s I) fun f s2 q => ?_
    cases f with
    | next =>
      obtain ⟨σ', H', I', a, pa, B', g3, sl⟩ := q
      exact ⟨σ', H', I', h3 a σ' B' H' pa (g.trans g3) g3 sl⟩
    | ret u => exact q
    | brk => exact q
    | cont => exact q
end Cw

namespace Cz
variable {α : Type} [DecidableEq α]
/-- l is its first p, again and again -/
def againB (l : List α) (p : Nat) : Bool := decide (l.length % p = 0) && decide ((List.replicate (l.length / p) (l.take p)).flatten = l)
/-- after how many the things come again, the fewest -/
def lpZ (l : List α) : Nat := (((List.range l.length).filter fun p => decide (1 ≤ p) && againB l p).head?).getD l.length
theorem lpZ_none {l : List α} (h : ∀ p, 1 ≤ p → p < l.length → againB l p = false) : lpZ l = l.length := by
  unfold lpZ
  rw [show (List.range l.length).filter (fun p => decide (1 ≤ p) && againB l p) = [] from List.filter_eq_nil_iff.mpr fun p hp z => by
    have hp := List.mem_range.mp hp
    rw [Bool.and_eq_true, decide_eq_true_eq] at z
    rw [h p z.1 hp] at z
    exact absurd z.2 (by decide)]
  rfl
theorem lpZ_some {l : List α} {p : Nat} (h1 : 1 ≤ p) (h2 : p < l.length) (h3 : againB l p = true) (h : ∀ q, 1 ≤ q → q < p → againB l q = false) : lpZ l = p := by
  unfold lpZ
  obtain ⟨r, hr⟩ : ∃ r, l.length = p + (r + 1) := ⟨l.length - p - 1, by omega⟩
  have e : List.range l.length = List.range p ++ (p :: ((List.range r).map Nat.succ).map fun k => p + k) := by
    rw [hr, List.range_add, List.range_succ_eq_map, List.map_cons]
    rfl
  rw [e, List.filter_append, show (List.range p).filter (fun p => decide (1 ≤ p) && againB l p) = [] from List.filter_eq_nil_iff.mpr fun q hq z => by
    have hq := List.mem_range.mp hq
    rw [Bool.and_eq_true, decide_eq_true_eq] at z
    rw [h q z.1 hq] at z
    exact absurd z.2 (by decide), List.nil_append, List.filter_cons, if_pos (by rw [decide_eq_true h1, h3]; rfl)]
  rfl
theorem lpZ_le (l : List α) : lpZ l ≤ l.length := by
  unfold lpZ
  cases e : (List.range l.length).filter (fun p => decide (1 ≤ p) && againB l p) with
  | nil => exact Nat.le_refl _
  | cons p r =>
    have : p ∈ List.range l.length := (List.mem_filter.mp (by rw [e]; exact List.mem_cons_self ..)).1
    exact Nat.le_of_lt (List.mem_range.mp this)
theorem lpZ_pos {l : List α} (h : 1 ≤ l.length) : 1 ≤ lpZ l := by
  unfold lpZ
  cases e : (List.range l.length).filter (fun p => decide (1 ≤ p) && againB l p) with
  | nil => exact h
  | cons p r =>
    have := (List.mem_filter.mp (by rw [e]; exact List.mem_cons_self .. : p ∈ (List.range l.length).filter _)).2
    rw [Bool.and_eq_true, decide_eq_true_eq] at this
    exact this.1
end Cz

namespace Cw
open PySem PySem.Spec PyProof.Rows L2
section
variable {T : List Addr} {X : Cx} {a : Expr} {σ : L2.St} {B C H : Hp} {pos p2 pr : Pos}
/-- the inner source, whatever block it is -/
def wi1s (X : Cx) (scope : Scope) (iter : Expr) : TI := fun σ H R => ∀ (s : Shared) (H0 : Hp) (A : Addr) (cl : List (Str × Addr)) (fp : List Addr), iList X.K (we (blkX X scope s H0 A cl fp) iter) σ H R
theorem flat_more {α : Type} (l : List α) (n : Nat) : (List.replicate (n + 1) l).flatten = (List.replicate n l).flatten ++ l := by
  rw [List.replicate_succ', List.flatten_append]
  simp
theorem flat_len {α : Type} (l : List α) (n : Nat) : (List.replicate n l).flatten.length = n * l.length := by
  induction n with
  | zero => simp
  | succ n ih => rw [flat_more, List.length_append, ih, Nat.succ_mul]
/-- [elt for x in range(a) for y in iter1], each element a new list -/
theorem en_lc2 {ds : List PyData} {elt iter1 : Expr} {scope : Scope} {x y : Str} {px py : Pos} {jx jy : Nat} {n : Int} (f : PyData → List PyData) (hj : jx ≠ jy) (hc : X.calm = true) (nd : X.N.Nodup) (ok : BlkOk X.N X.env.scope scope [(x, jx), (y, jy)])
    (tx : ∀ (s : Shared) (H : Hp) (A : Addr) (cl : List (Str × Addr)) (fp : List Addr), PG (blkX X scope s H A cl fp) (.Name x px) (gName jx)) (ty : ∀ (s : Shared) (H : Hp) (A : Addr) (cl : List (Str × Addr)) (fp : List Addr), PG (blkX X scope s H A cl fp) (.Name y py) (gName jy))
    (ha : ED T X a σ B (.int n)) (hn : 0 ≤ n ∧ n ≤ 50) (hl : ds.length ≤ 50) (hm : Bi X.mg)
    (hit : ∀ (s : Shared) (H : Hp) (A : Addr) (cl : List (Str × Addr)) (fp : List Addr) (i : Int) (B1 : Hp), Ex B B1 → ED T (blkX X scope s H A cl fp) iter1 ((wipe σ [jx, jy]).set jx (some (.int i))) B1 (.list ds))
    (he : ∀ (s : Shared) (H : Hp) (A : Addr) (cl : List (Str × Addr)) (fp : List Addr) (i : Int) (d : PyData) (v : V) (B1 : Hp), d ∈ ds → Ex B B1 → Dt B1 v d → EV T (blkX X scope s H A cl fp) elt ((wipe ((wipe σ [jx, jy]).set jx (some (.int i))) [jy]).set jy (some v)) B1 fun B2 u => NewD B1 B2 u (f d))
    (hg : Gl X "range" := by rfl) (hs : starEach [a] X.env = [(false, eval a X.env)] := by rfl) (hs1 : ∀ env x, foldedSetIterable iter1 env x = pure x := by intro _ _; rfl) :
    EV T X (.ListComp elt [⟨.Name x px, .Call (.Name "range" pr) [a] [] p2, [], 0⟩, ⟨.Name y py, iter1, [], 0⟩] scope pos) σ B fun B' v => NewG B B' v (List.replicate n.toNat (ds.map f)).flatten := fun H w Q q => by
  refine we_of (pe_lc2 (own := [(x, jx), (y, jy)]) (vs1 := [jy]) (g := gName jx) (tt := tts X scope []) (wi1 := wi1s X scope iter1) (g1 := gName jy) (tt1 := tts X scope []) (te := tes X scope elt) hc nd (pi_range1 hg hm.range (pa_cons pwe pa_nil hs) hs) ok (fun i hi => by
    rw [List.mem_singleton] at hi
    rw [hi]
    exact List.mem_cons_of_mem _ (List.mem_cons_self ..)) tx pts_tts (fun s H0 A cl fp => ⟨fun pins s1 σ1 H1 R I h => (pi_list pwe).run pins s1 σ1 H1 R I (h s H0 A cl fp)⟩) ty pts_tts pe_tes (by intro _; rfl) hs1) ?_
  refine ha H w _ fun v B1 H1 g1 r1 => ⟨n, by rw [r1.toInt], by omega, by omega, fun D hD => ?_⟩
  have hB1 : B1 D = none := g1.wd.ex.free hD
  refine ⟨fun i m H' => m = n.toNat - i ∧ i ≤ n.toNat ∧ MkG T B1 H1 D (List.replicate i (ds.map f)).flatten H', ⟨n.toNat, by simp, Nat.zero_le _, MkG.start g1.wd hD⟩, ?_⟩
  rintro i m H' ⟨rfl, hi, p⟩
  by_cases hlt : i < n.toNat
  · refine .inr ⟨hlt, fun H2 => MkG T B1 H1 D (List.replicate (i + 1) (ds.map f)).flatten H2, fun H2 p2 => ⟨n.toNat - (i + 1), by omega, rfl, hlt, p2⟩, fun xv H2 yv => ?_⟩
    obtain ⟨e1, e2⟩ := yv
    rw [e1, e2]
    obtain ⟨B', rs, g, h2, h3, ndr, r⟩ := p
    refine ⟨by
      show (((((σ.set jy none).set jx none).set jx (some (V.int (0 + (i : Int))))).set jy none).set jx none) = (σ.set jy none).set jx none
      rw [List.set_set, List.set_comm _ _ hj, List.set_set, List.set_set], fun s H0 A cl fp => ?_⟩
    refine ets_nil H' g.wd _ fun B2 H2 g2 => ?_
    intro s H0 A cl fp
    refine (hit s H0 A cl fp _ B2 ((g1.eb.trans g.eb).trans g2.eb)) H2 g2.wd _ fun v B3 H3 g3 r3 => ?_
    obtain ⟨l, xs, rfl, hxa, hr⟩ := r3.toList
    have g123 := (g.trans g2).trans g3
    have g23 := g2.trans g3
    refine ⟨l, rfl, ⟨xs, .inl (.inl (g3.wd.ex.lst hxa))⟩, fun j k H' => k = xs.length - j ∧ j ≤ xs.length ∧ ∃ B' rs, Ex B3 B' ∧ Go T B1 H1 B' H' ∧ B' D = none ∧ H' D = some (.lst (rs.map V.ref)) ∧ rs.Nodup ∧ Rws B1 B' rs ((List.replicate i (ds.map f)).flatten ++ (ds.take j).map f),
      ⟨xs.length, by simp, Nat.zero_le _, B3, rs, Ex.rfl, g123, g23.out h2 (by rw [h3]; exact fun w => nomatch w), g23.eh.lst h3, ndr, by
        rw [List.take_zero, List.map_nil, List.append_nil]
        exact r.mono g23.eb⟩, ?_⟩
    rintro j k H5 ⟨rfl, hj2, B5, rs5, x5, g5, h52, h53, nd5, r5⟩
    have q5 : SqL X.K H5 l xs := .inl (.inl (g5.wd.ex.lst (x5.lst hxa)))
    by_cases hlt2 : j < xs.length
    · refine .inr ⟨⟨xs, xs[j], q5, by simp [hlt2]⟩, fun H' => ∃ B' rs, Ex B3 B' ∧ Go T B1 H1 B' H' ∧ B' D = none ∧ H' D = some (.lst (rs.map V.ref)) ∧ rs.Nodup ∧ Rws B1 B' rs ((List.replicate i (ds.map f)).flatten ++ (ds.take (j + 1)).map f), fun H' p => ⟨xs.length - (j + 1), by omega, rfl, hlt2, p⟩, fun yv H6 hy => ?_⟩
      obtain ⟨e, hy⟩ := hy
      subst e
      have hy := hy xs q5
      obtain ⟨d, hd, ry⟩ := hr.getV hy
      have hm : d ∈ ds := List.mem_of_getElem? hd
      refine ⟨wipe_set _ jy yv, fun s H0 A cl fp => ?_⟩
      refine ets_nil H6 g5.wd _ fun B6 H6 g6 => ?_
      intro s H0 A cl fp
      refine he s H0 A cl fp _ d yv B6 hm ((g1.eb.trans g5.eb).trans g6.eb) ((ry.mono x5).mono g6.eb) H6 g6.wd _ fun u B7 H7 g7 nD => ?_
      obtain ⟨A2, ws, rfl, hA, hA2, rw2⟩ := nD
      have g67 := g6.trans g7
      have f7 : B7 D = none := g67.out h52 (by rw [h53]; exact fun w => nomatch w)
      have e7 := g67.eh.lst h53
      refine ⟨rs5.map V.ref, e7, ?_, B7, rs5 ++ [A2], x5.trans g67.eb, (g5.trans g67).mutD hD f7 e7, f7, ?_, ?_, ?_⟩
      · refine Nat.lt_of_le_of_lt (show (rs5.map V.ref).length ≤ 10000 from ?_) (by decide)
        rw [List.length_map, r5.length, List.length_append, flat_len, List.length_map, List.length_map, List.length_take]
        have : i * ds.length ≤ 50 * 50 := Nat.mul_le_mul (by omega) hl
        omega
      · rw [upd_same, List.map_append]
        rfl
      · refine List.nodup_append.mpr ⟨nd5, List.nodup_cons.mpr ⟨List.not_mem_nil, List.nodup_nil⟩, fun z hz y hy => ?_⟩
        rw [List.mem_singleton] at hy
        subst hy
        intro z2
        subst z2
        exact (r5.mono g6.eb).mem hz hA
      · rw [List.take_add_one, hd, List.map_append, ← List.append_assoc]
        exact (r5.mono g67.eb).append ⟨(g5.eb.trans g6.eb).free hA, ws, hA2, rw2⟩
    · have e : j = xs.length := by omega
      subst e
      refine .inl ⟨⟨xs, q5, Nat.le_refl _⟩, B5, rs5, g5, h52, h53, nd5, ?_⟩
      rw [flat_more]
      rw [hr.length, List.take_length] at r5
      exact r5
  · have e : i = n.toNat := by omega
    subst e
    refine .inl ⟨Nat.le_refl _, ?_⟩
    obtain ⟨B', g, nG⟩ := p.done hD hB1
    exact q _ B' H' (g1.trans g) (nG.back g1.eb)
end
theorem ok_fn {CX : CXT} {P : Program} {w : World} {K : PySem.W.Frag} {mg : Str → Option Value} {base : Heap} {N ps : List Str} {qual : Str} {sc scope : Scope} {f : Addr} {cd : Value} {A : Around} {outer : List Env} {s : Shared} {H : Hp} {E : XK} {own : List (Str × Nat)}
    (c : FnScope N ps sc) (h : blkC N sc scope own = true) : BlkOk (cxOf CX P w K mg base N qual sc f cd A outer s H E).N (cxOf CX P w K mg base N qual sc f cd A outer s H E).env.scope scope own := blkOk_by h
end Cw

namespace Cz
variable {α : Type} [DecidableEq α]
theorem flat_get (l : List α) : ∀ (c k : Nat), k < c * l.length → (List.replicate c l).flatten[k]? = l[k % l.length]?
  | 0, k, h => by
    rw [Nat.zero_mul] at h
    exact absurd h (Nat.not_lt_zero k)
  | c + 1, k, h => by
    rw [List.replicate_succ, List.flatten_cons, List.getElem?_append]
    split
    · rename_i c1
      rw [Nat.mod_eq_of_lt c1]
    · rename_i c1
      rw [flat_get l c (k - l.length) (by rw [Nat.succ_mul] at h; omega), Nat.mod_eq_sub_mod (a := k) (by omega)]
theorem flat_size (l : List α) : ∀ c : Nat, (List.replicate c l).flatten.length = c * l.length
  | 0 => by simp
  | c + 1 => by rw [List.replicate_succ, List.flatten_cons, List.length_append, flat_size l c, Nat.succ_mul, Nat.add_comm]
/-- to come again is to be told by the rest -/
theorem again_iff {l : List α} {p : Nat} (hp : 1 ≤ p) (h : p ≤ l.length) (hd : l.length % p = 0) : (List.replicate (l.length / p) (l.take p)).flatten = l ↔ ∀ k, k < l.length → l[k]? = l[k % p]? := by
  have ht : (l.take p).length = p := by rw [List.length_take]; omega
  have hm : l.length / p * p = l.length := Nat.div_mul_cancel (Nat.dvd_of_mod_eq_zero hd)
  have get : ∀ k, k < l.length → (List.replicate (l.length / p) (l.take p)).flatten[k]? = l[k % p]? := fun k hk => by
    rw [flat_get _ _ _ (by rw [ht, hm]; exact hk), ht, List.getElem?_take, if_pos (Nat.mod_lt _ (by omega))]
  constructor
  · intro e k hk
    have := get k hk
    rw [e] at this
    exact this
  · intro e
    refine List.ext_getElem? fun k => ?_
    by_cases hk : k < l.length
    · rw [get k hk, e k hk]
    · rw [List.getElem?_eq_none (by rw [flat_size, ht, hm]; omega), List.getElem?_eq_none (by omega)]
end Cz

namespace Cw
open PySem PySem.Spec PyProof.Rows L2
section
variable {T : List Addr} {X : Cx} {a b e o : Expr} {es : List Expr} {σ : L2.St} {B : Hp} {p pos apos : Pos}
/-! ## texts: a sign at a place, join -/
theorem ed_ixS {z : Str} {i : Int} {c : Nat} (ha : ED T X a σ B (.str z)) (hb : ED T X b σ B (.int i)) (hz : z.length ≤ 100000) (hd : atI z.cps.toList i = some c) (hs : PlainIx b := by exact fun _ _ => rfl) : ED T X (.Subscript a b pos) σ B (.str ⟨#[c]⟩) :=
  ev_ix ix_str hs ha mono_dt hb mono_dt fun B1 H1 x y _ w r1 r2 Q q => by
    rw [r1.toStr, r2.toInt]
    exact ⟨z, i, c, rfl, rfl, sz100 hz, hd, q _ B1 H1 (Go.rfl w) (.str _)⟩
theorem Dts.strs {B : Hp} : ∀ {xs : List V} {ys : List Str}, Dts B xs (ys.map .str) → xs = ys.map V.str
  | [], [], _ => rfl
  | [], _ :: _, h => nomatch h
  | _ :: _, [], h => nomatch h
  | x :: xs, y :: ys, .cons h r => by
    rw [h.toStr, Dts.strs r]
    rfl
theorem ed_join {a : Str} {ys : List Str} (ho : ED T X o σ B (.str a)) (he : ED T X e σ B (.list (ys.map .str))) (hz : (ys.map (·.length)).sum + ys.length * a.length ≤ 16777216)
    (hs : starEach [e] X.env = [(false, eval e X.env)] := by rfl) (hbase : attributeBase o "join" X.env (eval o X.env) = eval o X.env := by rfl) (hline : (apos.endLine == pos.line) = true := by rfl) :
    ED T X (.Call (.Attribute o "join" apos) [e] [] pos) σ B (.str (Txt.join a ys)) := fun H w Q q =>
  we_of (pe_join pwe pwe hs hbase hline) (ho H w _ fun x B1 H1 g1 r1 => ⟨⟨a, r1.toStr⟩, (he.mono g1.eb) H1 g1.wd _ fun y B2 H2 g2 r2 => by
    obtain ⟨p, xs, rfl, hp, hr⟩ := r2.toList
    rw [r1.toStr]
    refine ⟨a, p, ys, rfl, rfl, .inl (.inl (.inl (g2.wd.ex.lst ?_))), hz, q _ B2 H2 (g1.trans g2) (.str _)⟩
    rw [hp, hr.strs]⟩)
/-! ## what raises within a comparison, within a built-in's call -/
theorem ex_cmpL {op : CmpOp} {r : R2} {A : Addr} (ho : OpR X (compareOp op) r) (hm : behindInMarks op b = false) (h : EX T X a σ B A) : EX T X (.Compare a [op] [b] pos) σ B A := fun W tk H w q Q =>
  we_of (pe_cmpR ho pwe pwe hm) (h W tk H w q _)
theorem ex_cmpR {op : CmpOp} {r : R2} {A : Addr} {Ra : RV} (ho : OpR X (compareOp op) r) (hm : behindInMarks op b = false) (ha : EV T X a σ B Ra) (h : EX T X b σ B A) : EX T X (.Compare a [op] [b] pos) σ B A := fun W tk H w q Q =>
  we_of (pe_cmpR ho pwe pwe hm) (ha H w _ fun x B1 H1 g1 r1 => (h.mono g1.eb) W tk H1 g1.wd (fun B' H' g => q B' H' (g1.trans g)) _)
theorem ex_callB {x : Str} {id : String} {r : List V → Hp → VK → Prop} {A : Addr} (hc : CallR X (.builtin id) r) (hg : Gl X x) (hm : X.mg x = none) (hv : bootBuiltins x = some (.builtin id)) (h : EX T X a σ B A)
    (hn : x ≠ "__name__" := by decide) (hdb : (x == ("__debug__" : Str)) = false := by decide) (he : starEach [a] X.env = (false, eval a X.env) :: starEach [] X.env := by rfl) (hpl : (backTo pos (starEach [] X.env)).any (·.1) = false := by rfl) : EX T X (.Call (.Name x p) [a] [] pos) σ B A := fun W tk H w q Q =>
  we_of (pe_callB hc hg hm hv (pa_cons pwe pa_nil he) hn hdb he hpl) (h W tk H w q _)
/-! ## an item of a list of mixed data -/
theorem at_some {l : List PyData} {i : Int} (h0 : 0 ≤ i) (h : i < l.length) : ∃ d, atI l i = some d ∧ d ∈ l := by
  obtain ⟨k, rfl⟩ := Int.eq_ofNat_of_zero_le h0
  have hk : k < l.length := by omega
  exact ⟨_, atI_nat (List.getElem?_eq_getElem hk), List.getElem_mem hk⟩
/-- an item, which one is not asked -/
theorem ev_ixAny {ds : List PyData} {i : Int} (ha : ED T X a σ B (.list ds)) (hb : ED T X b σ B (.int i)) (h0 : 0 ≤ i) (h : i < ds.length) (hs : PlainIx b := by exact fun _ _ => rfl) : EV T X (.Subscript a b pos) σ B fun B' v => ∃ d, d ∈ ds ∧ Dt B' v d := by
  obtain ⟨d, hd, hm⟩ := at_some h0 h
  exact (ed_ix ha hb hd hs).imp fun _ v _ r => ⟨d, hm, r⟩
end
section
variable {T : List Addr} {X : Cx} {e : Expr} {σ : L2.St} {B H B0 H0 : Hp} {pos : Pos} {ss : List Sv} {D : Ends} {rest : List Stmt}
/-- x = e, some data told by a word -/
theorem t_setE {x : Str} {px : Pos} {Pd : PyData → Prop} (i : Nat) (g : Go T B0 H0 B H) (hs : Sl B σ ss) (hN : X.N.Nodup) (h : EV T X e σ B fun B' v => ∃ d, Pd d ∧ Dt B' v d) (k : ∀ d σ' B' H', Pd d → Go T B0 H0 B' H' → Sl B' σ' (ss.set i (.dat d)) → wss X rest D σ' H')
    (hi : X.N[i]? = some x := by rfl) (hx : Loc X.env.scope x := by first | exact Or.inl rfl | exact Or.inr rfl)
    (hsw : swapsWith e (some (.Name x px)) pos.line X.env = pure false := by rfl) (hf : X.fn x = true ∨ X.env.scope.names.lookup x = some .local := by first | exact .inl rfl | exact .inr rfl | assumption) : wss X (.Assign [.Name x px] e pos :: rest) D σ H :=
  s_set g.wd h hN hi hx (fun v B' H' g2 ⟨d, hd, r⟩ => k d _ B' H' hd (g.trans g2) ((hs.mono g2.eb).set (o := some v) (s := .dat d) ⟨v, rfl, r⟩ i)) hsw hf
end
end Cw

namespace Cw
open PySem PySem.Spec PyProof.Rows L2
section
variable {T : List Addr} {X : Cx} {c e iter : Expr} {σ : L2.St} {B0 H0 Bc Bs H : Hp} {pos p1 p2 p3 p4 p5 : Pos} {ss : List Sv} {D : Ends} {rest s1 : List Stmt}
theorem SLe.self : ∀ l : List Sv, SLe l l
  | [] => trivial
  | _ :: l => ⟨.inr rfl, SLe.self l⟩
theorem SLe.set_no : ∀ (l : List Sv) (i : Nat), SLe l (l.set i .no)
  | [], _ => trivial
  | _ :: l, 0 => ⟨.inl rfl, SLe.self l⟩
  | _ :: l, i + 1 => ⟨.inr rfl, SLe.set_no l i⟩
/-- for row in found: if c: ..; row.append(e), found a new list of new rows beside Bc -/
theorem t_rows {x : Str} {px : Pos} {Dl : Addr} {rs : List Addr} {d : PyData} (i : Nat) (g : Go T B0 H0 Bs H) (xs : Ex Bc Bs) (sl : Sl Bc σ ss) (hj : EV T X iter σ Bs fun _ v => v = .ref Dl)
    (hD : Bs Dl = some (.lst (rs.map V.ref))) (hr : ∀ (k : Nat) (r : Addr), rs[k]? = some r → ∃ t : List Int, t.length ≤ 1000 ∧ Bs r = some (.lst (t.map V.int))) (hF : ∀ a ∈ Dl :: rs, Bc a = none ∧ B0 a = none ∧ H0 a = none) (hDr : Dl ∉ rs) (hnd : rs.Nodup)
    (hN : X.N.Nodup) (hp : PassesOwn (model X.prog X.w) X.A X.env X.xe) (hc : X.calm = true)
    (ht : ∀ (t : List Int), t.length ≤ 1000 → ∀ (σ' : L2.St) (B' : Hp), Ex Bc B' → Sl B' σ' (ss.set i (.dat (encR t))) → ET T X c σ' B' false)
    (he : ∀ (σ' : L2.St) (B' : Hp) (r : Addr), Ex Bc B' → Sl B' σ' (ss.set i (.val (.ref r))) → ED T X e σ' B' d)
    (hd : ∀ σ' B' H', Go T B0 H0 B' H' → Ex Bc B' → Sl Bc σ' (ss.set i .no) → B' Dl = some (.lst (rs.map V.ref)) → wss X rest D σ' H')
    (hi : X.N[i]? = some x := by rfl) (hx : Loc X.env.scope x := by first | exact Or.inl rfl | exact Or.inr rfl)
    (hf : X.fn x = true ∨ X.env.scope.names.lookup x = some .local := by first | exact .inl rfl | exact .inr rfl | assumption) (hss : ∀ x, foldedSetIterable iter X.env x = pure x := by intro _; rfl) (hil : i < ss.length := by exact Nat.le_of_ble_eq_true rfl)
    (hvis : Vis X.env.scope x := by first | exact Or.inl rfl | exact Or.inr (Or.inl rfl) | exact Or.inr (Or.inr rfl)) (hdb : (x == ("__debug__" : Str)) = false := by decide) (hcd : (x == ("__classdict__" : Str)) = false := by decide)
    (hst : starEach [e] X.env = (false, eval e X.env) :: starEach [] X.env := by rfl)
    (pm : ∀ {to : TE} {t : TA}, PE X (.Name x p2) to → PA X [e] t → PE X (.Call (.Attribute (.Name x p2) "append" p3) [e] [] p4) (tBM X.K "list" rAppend to t) := by
      exact fun q1 q2 => pe_bm PySem.F.plainAttrs_list PySem.F.slot_list_append PySem.F.type_list_append mt_append q1 q2)
    (hsw : swapsWith (.Call (.Attribute (.Name x p2) "append" p3) [e] [] p4) none p5.line X.env = pure false := by rfl) :
    wss X (.For (.Name x px) iter [.If c s1 [] p1, .Expr (.Call (.Attribute (.Name x p2) "append" p3) [e] [] p4) p5] [] pos :: rest) D σ H := by
  have hw := Go.rfl g.wd
  have sets : ∀ (a b : Sv), (ss.set i a).set i b = ss.set i b := fun a b => List.set_set ..
  have w0 : Sl Bc σ (ss.set i .no) := sl.weak (SLe.set_no ss i)
  refine t_forH (l := Dl) (xs := rs.map V.ref) i (fun n σ2 H2 => ∃ B2, Go T B0 H0 B2 H2 ∧ Ex Bc B2 ∧ Sl Bc σ2 (ss.set i .no) ∧ B2 Dl = some (.lst (rs.map V.ref)) ∧ ∀ (k : Nat) (r : Addr), n ≤ k → rs[k]? = some r → ∃ t : List Int, t.length ≤ 1000 ∧ B2 r = some (.lst (t.map V.int))) g.wd hj hN hp hc
    (fun n σ2 H2 ⟨B2, g2, _, _, h, _⟩ => g2.wd.ex.lst h) (fun B3 H3 g3 => ⟨B3, g.trans g3, xs.trans g3.eb, w0, g3.eb.lst hD, fun k r _ hk => ?_⟩) (fun n y σ2 H2 hy ⟨B2, g2, x2, sl2, hD2, hrs⟩ => ?_) (fun σ2 H2 ⟨B2, g2, x2, sl2, hD2, _⟩ => hd σ2 B2 H2 g2 x2 sl2 hD2) hi hx hf hss
  · obtain ⟨t, ht, hB⟩ := hr k r hk
    exact ⟨t, ht, g3.eb.lst hB⟩
  · rw [List.getElem?_map] at hy
    obtain ⟨r, hk, rfl⟩ := Option.map_eq_some_iff.mp hy
    have hm : r ∈ Dl :: rs := List.mem_cons_of_mem _ (List.mem_of_getElem? hk)
    obtain ⟨t, htl, hB⟩ := hrs n r (Nat.le_refl _) hk
    have slV2 := sl2.set (o := some (.ref r)) (s := .val (.ref r)) rfl i
    have slD2 := (sl2.mono x2).set (o := some (.ref r)) (s := .dat (encR t)) ⟨_, rfl, .lst hB (Dts.ofInts t)⟩ i
    rw [sets] at slV2 slD2
    refine t_skip (Go.rfl g2.wd) slD2 (ht t htl _ _ x2 slD2) fun B3 H3 g3 _ => ?_
    have g4 := g2.trans g3
    have xd : Ex Bc (del B3 r) := ex_del (x2.trans g3.eb) (hF r hm).1
    refine t_appX i (g4.drop (hF r hm).2.1) (slV2.mono xd) (List.getElem?_set_self hil) (hF r hm).2.2 del_same (g4.wd.ex.lst (g3.eb.lst hB)) (Dts.ofInts t) (by rw [List.length_map]; omega) (he _ _ r xd (slV2.mono xd)) (fun B6 H6 ys g6 x6 _ _ _ _ => ?_) hi hvis hdb hcd hst pm hsw
    have keep : ∀ (a : Addr) (zs : List V), a ≠ r → B2 a = some (.lst zs) → B6 a = some (.lst zs) := fun a zs hne h => x6.lst (by rw [del_ne hne]; exact g3.eb.lst h)
    have slN := slV2.weak (SLe.set_no (ss.set i (.val (.ref r))) i)
    rw [sets] at slN
    refine s_nil ⟨B6, g6, xd.trans x6, slN, keep Dl _ (fun z => hDr (by rw [z]; exact List.mem_of_getElem? hk)) hD2, fun k r2 hnk hk2 => ?_⟩
    obtain ⟨t2, ht2, hB2⟩ := hrs k r2 (by omega) hk2
    refine ⟨t2, ht2, keep r2 _ (fun z => ?_) hB2⟩
    subst z
    have := (List.getElem?_inj (List.getElem?_eq_some_iff.mp hk).1 hnd).mp (hk.trans hk2.symm)
    omega
/-- x.append(e), what stands in x is not asked -/
theorem t_appV {x : Str} {R : RV} {A : Addr} {xs : List V} {p : Pos} (i : Nat) (g : Go T B0 H0 Bs H) (hs : Sl Bs σ ss) (hv : ss[i]? = some (.val (.ref A))) (h0 : H0 A = none) (hB : Bs A = none) (hA : H A = some (.lst xs)) (hl : xs.length < 100000) (h : EV T X e σ Bs R)
    (k : ∀ B' H' v, Go T B0 H0 B' H' → Ex Bs B' → Sl B' σ ss → B' A = none → R B' v → H' A = some (.lst (xs ++ [v])) → wss X rest D σ H')
    (hN : X.N[i]? = some x := by rfl) (hvis : Vis X.env.scope x := by first | exact Or.inl rfl | exact Or.inr (Or.inl rfl) | exact Or.inr (Or.inr rfl)) (hd : (x == ("__debug__" : Str)) = false := by decide) (hcd : (x == ("__classdict__" : Str)) = false := by decide)
    (hst : starEach [e] X.env = (false, eval e X.env) :: starEach [] X.env := by rfl)
    (pm : ∀ {to : TE} {t : TA}, PE X (.Name x p1) to → PA X [e] t → PE X (.Call (.Attribute (.Name x p1) "append" p2) [e] [] p) (tBM X.K "list" rAppend to t) := by
      exact fun q1 q2 => pe_bm PySem.F.plainAttrs_list PySem.F.slot_list_append PySem.F.type_list_append mt_append q1 q2)
    (hsw : swapsWith (.Call (.Attribute (.Name x p1) "append" p2) [e] [] p) none pos.line X.env = pure false := by rfl) : wss X (.Expr (.Call (.Attribute (.Name x p1) "append" p2) [e] [] p) pos :: rest) D σ H :=
  s_app g.wd (hs.val hv) hA hB hl h (fun v B' H' g2 rv w2 hA2 hB2 => k B' _ v ((g.trans g2).mutD h0 hB2 hA2) g2.eb (hs.mono g2.eb) hB2 rv upd_same) hN hvis hd hcd hst pm hsw
end
section
variable {T : List Addr} {B0 H0 B1 H1 B2 H2 : Hp}
/-- a new list of new rows of numbers: it stands beside what was before -/
theorem NewG.apart {v : V} {gs : List (List Int)} (g : Go T B0 H0 B1 H1) (k : Go T B1 H1 B2 H2) (n : NewG B1 B2 v (gs.map fun r => r.map PyData.int)) (hl : ∀ r ∈ gs, r.length ≤ 1000) :
    ∃ Dl rs, v = .ref Dl ∧ B2 Dl = some (.lst (rs.map V.ref)) ∧ (∀ (k : Nat) (r : Addr), rs[k]? = some r → ∃ t : List Int, t.length ≤ 1000 ∧ B2 r = some (.lst (t.map V.int))) ∧ (∀ a ∈ Dl :: rs, B1 a = none ∧ B0 a = none ∧ H0 a = none) ∧ Dl ∉ rs ∧ rs.Nodup ∧ rs.length = gs.length := by
  obtain ⟨Dl, rs, rfl, hD0, hD, hDr, hnd, rows⟩ := n
  have at' : ∀ (k : Nat) (r : Addr), rs[k]? = some r → B1 r = none ∧ ∃ t : List Int, t.length ≤ 1000 ∧ B2 r = some (.lst (t.map V.int)) := fun k r hk => by
    obtain ⟨e, he, h1, ws, h2, h3⟩ := rows.get hk
    rw [List.getElem?_map] at he
    obtain ⟨q, hq, rfl⟩ := Option.map_eq_some_iff.mp he
    exact ⟨h1, q, hl q (List.mem_of_getElem? hq), by rw [← h3.ints]; exact h2⟩
  have len : ∀ (rs : List Addr) (gs : List (List PyData)), Rws B1 B2 rs gs → rs.length = gs.length := by
    intro rs
    induction rs with
    | nil =>
      intro gs h
      cases gs with
      | nil => rfl
      | cons _ _ => exact h.elim
    | cons r rs ih =>
      intro gs h
      cases gs with
      | nil => exact h.elim
      | cons _ gs => exact congrArg (· + 1) (ih gs h.2)
  refine ⟨Dl, rs, rfl, hD, fun k r hk => (at' k r hk).2, fun a ha => ?_, hDr, hnd, by rw [len _ _ rows, List.length_map]⟩
  have hB1 : B1 a = none ∧ B2 a ≠ none := by
    rcases List.mem_cons.mp ha with e | h
    · rw [e]
      exact ⟨hD0, by rw [hD]; exact fun w => nomatch w⟩
    · obtain ⟨k, hk1, hk2⟩ := List.getElem_of_mem h
      obtain ⟨h1, t, _, h2⟩ := at' k a (by rw [List.getElem?_eq_getElem hk1, hk2])
      exact ⟨h1, by rw [h2]; exact fun w => nomatch w⟩
  have hB0 := g.eb.free hB1.1
  exact ⟨hB1.1, hB0, (g.trans k).fr a hB0 hB1.2⟩
end
end Cw

namespace Cw
open PySem PySem.Spec PyProof.Rows L2
section
variable {T : List Addr} {X : Cx} {a b c e o iter : Expr} {es : List Expr} {σ : L2.St} {B0 H0 B H : Hp} {pos p1 p2 p3 p4 p5 : Pos} {ss : List Sv} {D : Ends} {rest s1 : List Stmt}
/-! ## a list lent: it leaves base and heap, is written, and comes back as it was -/
theorem Go.lend {r : Addr} (w : Wd T B H) : Go T (del B r) (del H r) (del B r) H := by
  refine ⟨⟨fun x o h => ?_, w.gd⟩, Ex.rfl, fun x o h => ?_, fun x h h2 => absurd h h2⟩
  · unfold del at h
    split at h
    · cases h
    · exact w.ex x o h
  · unfold del at h
    split at h
    · cases h
    · exact .inl h
theorem Go.back {r : Addr} {xs : List V} {B' H' : Hp} (hB : B r = some (.lst xs)) (hH : H r = some (.lst xs)) (g : Go T (del B r) (del H r) B' H') (h0 : B' r = none) (h1 : H' r = some (.lst xs)) : Go T B H (upd B' r (.lst xs)) H' := by
  refine ⟨⟨fun x o h => ?_, g.wd.gd⟩, fun x o h => ?_, fun x o h => ?_, fun x h h2 => ?_⟩
  · by_cases e : x = r
    · subst e
      rw [upd_same] at h
      cases h
      exact .inl h1
    · rw [upd_ne e] at h
      exact g.wd.ex x o h
  · by_cases e : x = r
    · subst e
      rw [hB] at h
      cases h
      exact .inl upd_same
    · rw [upd_ne e]
      exact g.eb x o (by rw [del_ne e]; exact h)
  · by_cases e : x = r
    · subst e
      rw [hH] at h
      cases h
      exact .inl h1
    · exact g.eh x o (by rw [del_ne e]; exact h)
  · by_cases e : x = r
    · subst e
      rw [hB] at h
      cases h
    · rw [upd_ne e] at h2
      have := g.fr x (by rw [del_ne e]; exact h) h2
      rw [del_ne e] at this
      exact this
/-! ## an item of a list that stands at an address, as a value -/
theorem ev_ixV {A : Addr} {xs : List V} {i : Int} {v : V} (ha : EV T X a σ B fun _ v => v = .ref A) (hA : B A = some (.lst xs)) (hb : ED T X b σ B (.int i)) (hv : atI xs i = some v) (hs : PlainIx b := by exact fun _ _ => rfl) : EV T X (.Subscript a b pos) σ B fun _ u => u = v :=
  ev_ix (Ra := fun _ v => v = .ref A) ix_list hs ha mono_c hb mono_dt fun B1 H1 x y x1 w r1 r2 Q q => by
    rw [r1, r2.toInt]
    exact ⟨A, xs, i, v, rfl, rfl, .inl (.inl (w.ex.lst (x1.lst hA))), hv, q _ B1 H1 (Go.rfl w) rfl⟩
/-! ## o.append(e), o.pop(), o[i] = e: the list that o names stands beside the base -/
theorem t_appR {R : RV} {A : Addr} {xs : List V} (g : Go T B0 H0 B H) (hs : Sl B σ ss) (ho : EV T X o σ B fun _ v => v = .ref A) (h0 : H0 A = none) (hB : B A = none) (hA : H A = some (.lst xs)) (hl : xs.length < 100000) (h : EV T X e σ B R) (mR : Mono R)
    (k : ∀ B' H' v, Go T B0 H0 B' H' → Ex B B' → Sl B' σ ss → B' A = none → R B' v → H' A = some (.lst (xs ++ [v])) → wss X rest D σ H')
    (hst : starEach [e] X.env = (false, eval e X.env) :: starEach [] X.env := by rfl)
    (pm : ∀ {to : TE} {t : TA}, PE X o to → PA X [e] t → PE X (.Call (.Attribute o "append" p2) [e] [] p3) (tBM X.K "list" rAppend to t) := by
      exact fun q1 q2 => pe_bm PySem.F.plainAttrs_list PySem.F.slot_list_append PySem.F.type_list_append mt_append q1 q2)
    (hsw : swapsWith (.Call (.Attribute o "append" p2) [e] [] p3) none pos.line X.env = pure false := by rfl) : wss X (.Expr (.Call (.Attribute o "append" p2) [e] [] p3) pos :: rest) D σ H := by
  refine s_cons (ws_of (ps_expr (pm pwe (pa_cons pwe pa_nil hst)) hsw) ?_)
  refine ho H g.wd _ fun v B1 H1 g1 r1 => ?_
  subst r1
  refine ⟨.inl ⟨rfl, xs, .inl (.inl (g1.eh.lst hA))⟩, (h.mono mR g1.eb) H1 g1.wd _ fun v B2 H2 g2 r2 => ?_⟩
  have g3 := g1.trans g2
  have hA' := g3.eh.lst hA
  have hB' := g3.out hB (by rw [hA]; exact fun w => nomatch w)
  exact ⟨A, xs, v, rfl, rfl, hA', Nat.lt_of_lt_of_le hl (by decide), k B2 _ v ((g.trans g3).mutD h0 hB' hA') g3.eb (hs.mono g3.eb) hB' r2 upd_same⟩
theorem t_popR {A : Addr} {xs : List V} {y : V} (g : Go T B0 H0 B H) (hs : Sl B σ ss) (ho : EV T X o σ B fun _ v => v = .ref A) (h0 : H0 A = none) (hB : B A = none) (hA : H A = some (.lst xs)) (hy : xs[xs.length - 1]? = some y)
    (k : ∀ B' H', Go T B0 H0 B' H' → Ex B B' → Sl B' σ ss → B' A = none → H' A = some (.lst xs.dropLast) → wss X rest D σ H')
    (pm : ∀ {to : TE}, PE X o to → PE X (.Call (.Attribute o "pop" p2) [] [] p3) (tBM0 X.K "list" rPop to) := by
      exact fun q1 => pe_bm0 PySem.F.plainAttrs_list PySem.F.slot_list_pop PySem.F.type_list_pop mt_pop q1)
    (hsw : swapsWith (.Call (.Attribute o "pop" p2) [] [] p3) none pos.line X.env = pure false := by rfl) : wss X (.Expr (.Call (.Attribute o "pop" p2) [] [] p3) pos :: rest) D σ H := by
  refine s_cons (ws_of (ps_expr (pm pwe) hsw) ?_)
  refine ho H g.wd _ fun v B1 H1 g1 r1 => ?_
  subst r1
  have hA' := g1.eh.lst hA
  have hB' := g1.out hB (by rw [hA]; exact fun w => nomatch w)
  exact ⟨.inl ⟨rfl, xs, .inl (.inl hA')⟩, A, xs, y, rfl, rfl, hA', hy, k B1 _ ((g.trans g1).mutD h0 hB' hA') g1.eb (hs.mono g1.eb) hB' upd_same⟩
theorem Go.stay {B' H' : Hp} (g : Go T B H B' H') : Go T B H B H' := ⟨⟨(g.eb.trans g.wd.ex), g.wd.gd⟩, Ex.rfl, g.eh, fun _ h h2 => absurd h h2⟩
/-- o[i] = e, e a value that is told over a greater base -/
theorem t_putV {Bb : Hp} {A : Addr} {xs : List V} {i : Int} {j : Nat} {y : V} (g : Go T B0 H0 B H) (hs : Sl B σ ss) (ho : EV T X o σ B fun _ v => v = .ref A) (h0 : H0 A = none) (hB : B A = none) (hA : H A = some (.lst xs)) (hi : ED T X b σ B (.int i)) (hj : ixN xs.length i = some j) (wb : Wd T Bb H) (h : EV T X e σ Bb fun _ v => v = y)
    (k : ∀ B' H', Go T B0 H0 B' H' → Ex B B' → Sl B' σ ss → B' A = none → H' A = some (.lst (xs.set j y)) → wss X rest D σ H')
    (pg : ∀ {to ti : TE} {t : TSet}, PE X o to → PE X b ti → PSet X t → PG X (.Subscript o b p2) (gSub to ti t) := by exact fun q1 q2 q3 => pg_sub q1 q2 q3)
    (hsw : swapsWithSole [.Subscript o b p2] e pos.line X.env = pure false := by rfl) (hw : swappedStores [.Subscript o b p2] e X.env = pure none := by rfl)
    (h1 : (assignEach [.Subscript o b p2] X.env).map (·.2) = [assign (.Subscript o b p2) X.env] := by rfl) : wss X (.Assign [.Subscript o b p2] e pos :: rest) D σ H := by
  refine s_cons (ws_of (ps_asg pwe (pg pwe pwe set_list) hsw hw h1) ?_)
  refine h H wb _ fun v B1 H1 gb r1 => ?_
  subst r1
  have g1 : Go T B H B H1 := ⟨⟨g.wd.ex.trans gb.eh, gb.wd.gd⟩, Ex.rfl, gb.eh, fun _ h h2 => absurd h h2⟩
  refine ho H1 g1.wd _ fun u B2 H2 g2 r2 => ?_
  subst r2
  refine (hi.mono g2.eb) H2 g2.wd _ fun y B3 H3 g3 r3 => ?_
  have g4 := (g1.trans g2).trans g3
  have hA' := g4.eh.lst hA
  have hB' := g4.out hB (by rw [hA]; exact fun w => nomatch w)
  rw [r3.toInt]
  exact ⟨A, xs, i, j, rfl, rfl, hA', hj, k B3 _ ((g.trans g4).mutD h0 hB' hA') g4.eb (hs.mono g4.eb) hB' upd_same⟩
theorem t_putR {R : RV} {A : Addr} {xs : List V} {i : Int} {j : Nat} (g : Go T B0 H0 B H) (hs : Sl B σ ss) (ho : EV T X o σ B fun _ v => v = .ref A) (h0 : H0 A = none) (hB : B A = none) (hA : H A = some (.lst xs)) (hi : ED T X b σ B (.int i)) (hj : ixN xs.length i = some j) (h : EV T X e σ B R) (mR : Mono R)
    (k : ∀ B' H' v, Go T B0 H0 B' H' → Ex B B' → Sl B' σ ss → B' A = none → R B' v → H' A = some (.lst (xs.set j v)) → wss X rest D σ H')
    (pg : ∀ {to ti : TE} {t : TSet}, PE X o to → PE X b ti → PSet X t → PG X (.Subscript o b p2) (gSub to ti t) := by exact fun q1 q2 q3 => pg_sub q1 q2 q3)
    (hsw : swapsWithSole [.Subscript o b p2] e pos.line X.env = pure false := by rfl) (hw : swappedStores [.Subscript o b p2] e X.env = pure none := by rfl)
    (h1 : (assignEach [.Subscript o b p2] X.env).map (·.2) = [assign (.Subscript o b p2) X.env] := by rfl) : wss X (.Assign [.Subscript o b p2] e pos :: rest) D σ H := by
  refine s_cons (ws_of (ps_asg pwe (pg pwe pwe set_list) hsw hw h1) ?_)
  refine h H g.wd _ fun v B1 H1 g1 r1 => ?_
  refine (ho.mono mono_c g1.eb) H1 g1.wd _ fun u B2 H2 g2 r2 => ?_
  subst r2
  refine (hi.mono (g1.eb.trans g2.eb)) H2 g2.wd _ fun y B3 H3 g3 r3 => ?_
  have g4 := (g1.trans g2).trans g3
  have hA' := g4.eh.lst hA
  have hB' := g4.out hB (by rw [hA]; exact fun w => nomatch w)
  rw [r3.toInt]
  exact ⟨A, xs, i, j, rfl, rfl, hA', hj, k B3 _ v ((g.trans g4).mutD h0 hB' hA') g4.eb (hs.mono g4.eb) hB' (mR _ _ _ (g2.trans g3).eb r1) upd_same⟩
theorem ec_neB {i j : Bool} (ha : ED T X a σ B (.bool i)) (hb : ED T X b σ B (.bool j)) : EC T X a .NotEq b σ B (!(i == j)) :=
  ec_of op_ne (nomark _) ha mono_dt hb mono_dt fun B1 H1 x y _ w rx ry Q q => by
    rw [rx.toBool, ry.toBool]
    refine ⟨rfl, ?_⟩
    have e : (!decide (V.bl i = V.bl j)) = !(i == j) := by cases i <;> cases j <;> decide
    rw [e]
    exact q
/-! ## a for over a tuple of data -/
theorem t_forT {x : Str} {px : Pos} {iter : Expr} {body : List Stmt} {ds : List PyData} (i : Nat) (Pv : Nat → L2.St → Hp → Hp → Prop) (g : Go T B0 H0 B H) (h : ED T X iter σ B (.tuple ds)) (hN : X.N.Nodup)
    (hp : PassesOwn (model X.prog X.w) X.A X.env X.xe) (hc : X.calm = true)
    (h0 : ∀ B1 H1, Go T B0 H0 B1 H1 → Go T B H B1 H1 → Pv 0 σ B1 H1)
    (hs : ∀ n d v σ' B' H', ds[n]? = some d → Go T B0 H0 B' H' → Go T B' H0 B' H' → Ex B B' → Dt B' v d → Pv n σ' B' H' → wss X body { D with nx := fun σ'' H'' => ∃ B'', Go T B' H0 B'' H'' ∧ Pv (n + 1) σ'' B'' H'', ct := fun σ'' H'' => ∃ B'', Go T B' H0 B'' H'' ∧ Pv (n + 1) σ'' B'' H'', bk := fun σ' H' => wss X rest D σ' H' } (σ'.set i (some v)) H')
    (hd : ∀ σ' B' H', Go T B0 H0 B' H' → Ex B B' → Pv ds.length σ' B' H' → wss X rest D σ' H')
    (hi : X.N[i]? = some x := by rfl) (hx : Loc X.env.scope x := by first | exact Or.inl rfl | exact Or.inr rfl)
    (hf : X.fn x = true ∨ X.env.scope.names.lookup x = some .local := by first | exact .inl rfl | exact .inr rfl | assumption) (hss : ∀ x, foldedSetIterable iter X.env x = pure x := by intro _; rfl) : wss X (.For (.Name x px) iter body [] pos :: rest) D σ H := by
  refine s_cons (ws_of (ps_for hp hc (pi_tup pwe) (pg_name hN hi hx hf) pwss hss) ?_)
  refine h H g.wd _ fun v B1 H1 g1 r1 => ?_
  obtain ⟨l, xs, rfl, hl, hr⟩ := r1.toTup
  refine ⟨l, rfl, ⟨xs, .inl (.inl (g1.wd.ex.tup hl))⟩, for_tup (K := X.K) (a := l) (xs := xs) (fun n σ' H' => ∃ B', (Go T B0 H0 B' H' ∧ Ex B1 B') ∧ Pv n σ' B' H') ⟨B1, ⟨g.trans g1, Ex.rfl⟩, h0 B1 H1 (g.trans g1) g1⟩ (fun n σ' H' _ ⟨B', ⟨g', x'⟩, q⟩ => .inl (.inl (g'.wd.ex.tup (x'.tup hl)))) (fun n y σ' H' hy ⟨B', ⟨g', x'⟩, q⟩ => ?_) fun σ' H' ⟨B', ⟨g', x'⟩, q⟩ => ?_⟩
  · obtain ⟨d, hd', ry⟩ := hr.getV hy
    refine wss_mk ?_
    intro pins s1 I
    refine thn (wss_run (hs n d y σ' B' H' hd' g' g'.rebase (g1.eb.trans x') (ry.mono x') q) pins s1 I) fun f s2 k => ?_
    cases f with
    | next =>
      obtain ⟨σ2, H2, I2, B2, k1, k2⟩ := k
      exact ⟨σ2, H2, I2, B2, ⟨g'.rejoin k1, x'.trans k1.eb⟩, k2⟩
    | cont =>
      obtain ⟨σ2, H2, I2, B2, k1, k2⟩ := k
      exact ⟨σ2, H2, I2, B2, ⟨g'.rejoin k1, x'.trans k1.eb⟩, k2⟩
    | brk => exact k
    | ret u => exact k
  · rw [hr.length] at q
    exact hd σ' B' H' g' (g1.eb.trans x') q
end
section
variable {T : List Addr} {B B1 B2 C : Hp}
/-! ## rows that stand at addresses -/
def RowsAt (B : Hp) (rs : List Addr) (gs : List (List Int)) : Prop := rs.length = gs.length ∧ ∀ (k : Nat) (r : Addr) (t : List Int), rs[k]? = some r → gs[k]? = some t → B r = some (.lst (t.map V.int))
theorem RowsAt.dts : ∀ {rs : List Addr} {gs : List (List Int)}, RowsAt B rs gs → Dts B (rs.map V.ref) (gs.map encR)
  | [], [], _ => .nil
  | [], _ :: _, h => nomatch h.1
  | _ :: _, [], h => nomatch h.1
  | r :: rs, t :: gs, h => .cons (.lst (h.2 0 r t rfl rfl) (Dts.ofInts t)) (RowsAt.dts ⟨Nat.succ.inj h.1, fun k r t h1 h2 => h.2 (k + 1) r t h1 h2⟩)
theorem RowsAt.dt {Dl : Addr} {rs : List Addr} {gs : List (List Int)} (r : RowsAt B rs gs) (h : B Dl = some (.lst (rs.map V.ref))) : Dt B (.ref Dl) (encG gs) := .lst h r.dts
theorem RowsAt.imp {rs : List Addr} {gs : List (List Int)} (r : RowsAt B rs gs) (h : ∀ a ∈ rs, ∀ ws, B a = some (.lst ws) → C a = some (.lst ws)) : RowsAt C rs gs :=
  ⟨r.1, fun k a t h1 h2 => h a (List.mem_of_getElem? h1) _ (r.2 k a t h1 h2)⟩
theorem Rws.at : ∀ {rs : List Addr} {gs : List (List Int)}, Rws B1 B2 rs (gs.map fun r => r.map PyData.int) → RowsAt B2 rs gs
  | [], [], _ => ⟨rfl, fun k r t h => by simp at h⟩
  | [], _ :: _, h => h.elim
  | _ :: _, [], h => h.elim
  | r :: rs, t :: gs, ⟨⟨_, ws, h1, h2⟩, h3⟩ => by
    have ih := Rws.at h3
    refine ⟨congrArg (· + 1) ih.1, fun k a u e1 e2 => ?_⟩
    cases k with
    | zero =>
      simp only [List.getElem?_cons_zero, Option.some.injEq] at e1 e2
      subst e1 e2
      rw [← h2.ints]
      exact h1
    | succ k => exact ih.2 k a u (by simpa using e1) (by simpa using e2)
/-- .. its rows told by their numbers -/
theorem NewG.apartR {B0 H0 H1 H2 : Hp} {v : V} {gs : List (List Int)} (g : Go T B0 H0 B1 H1) (k : Go T B1 H1 B2 H2) (n : NewG B1 B2 v (gs.map fun r => r.map PyData.int)) :
    ∃ Dl rs, v = .ref Dl ∧ B2 Dl = some (.lst (rs.map V.ref)) ∧ RowsAt B2 rs gs ∧ (∀ a ∈ Dl :: rs, B1 a = none ∧ B0 a = none ∧ H0 a = none) ∧ Dl ∉ rs ∧ rs.Nodup := by
  obtain ⟨Dl, rs, rfl, hD0, hD, hDr, hnd, rows⟩ := n
  have ra := Rws.at rows
  refine ⟨Dl, rs, rfl, hD, ra, fun a ha => ?_, hDr, hnd⟩
  have hB1 : B1 a = none ∧ B2 a ≠ none := by
    rcases List.mem_cons.mp ha with e | h
    · rw [e]
      exact ⟨hD0, by rw [hD]; exact fun w => nomatch w⟩
    · obtain ⟨k, hk1, hk2⟩ := List.getElem_of_mem h
      obtain ⟨_, _, h1, ws, h2, _⟩ := rows.get (by rw [List.getElem?_eq_getElem hk1, hk2] : rs[k]? = some a)
      exact ⟨h1, by rw [h2]; exact fun w => nomatch w⟩
  have hB0 := g.eb.free hB1.1
  exact ⟨hB1.1, hB0, (g.trans k).fr a hB0 hB1.2⟩
end
end Cw

/-! # Least periods of what is repeated -/
namespace Cz
variable {α β : Type}
theorem rep_len (l : List α) : ∀ n : Nat, (List.replicate n l).flatten.length = n * l.length
  | 0 => by simp
  | n + 1 => by
    rw [List.replicate_succ, List.flatten_cons, List.length_append, rep_len l n, Nat.succ_mul, Nat.add_comm]
theorem rep_get (l : List α) : ∀ (n k : Nat), k < n * l.length → (List.replicate n l).flatten[k]? = l[k % l.length]?
  | 0, k, h => by simp at h
  | n + 1, k, h => by
    rw [List.replicate_succ, List.flatten_cons]
    by_cases c : k < l.length
    · rw [List.getElem?_append_left c, Nat.mod_eq_of_lt c]
    · rw [List.getElem?_append_right (by omega), rep_get l n (k - l.length) (by rw [Nat.succ_mul] at h; omega)]
      congr 1
      conv => rhs; rw [show k = k - l.length + l.length by omega]
      rw [Nat.add_mod_right]
theorem rep_eq (l : List α) (d : α) (n : Nat) : (List.replicate n l).flatten = (List.range (n * l.length)).map fun k => l.getD (k % l.length) d := by
  refine List.ext_getElem? fun k => ?_
  by_cases c : k < n * l.length
  · have hl : 0 < l.length := by
      by_cases z : l.length = 0
      · rw [z] at c; simp at c
      · omega
    rw [rep_get l n k c, List.getElem?_map, List.getElem?_range c]
    show _ = some (l.getD (k % l.length) d)
    rw [List.getD_eq_getElem?_getD, List.getElem?_eq_getElem (Nat.mod_lt _ hl)]
    rfl
  · rw [List.getElem?_eq_none (by rw [rep_len]; omega), List.getElem?_eq_none (by rw [List.length_map, List.length_range]; omega)]
theorem rep_inj {n : Nat} (hn : 1 ≤ n) {r s : List α} (hl : r.length = s.length) (h : (List.replicate n r).flatten = (List.replicate n s).flatten) : r = s := by
  obtain ⟨k, rfl⟩ : ∃ k, n = k + 1 := ⟨n - 1, by omega⟩
  rw [List.replicate_succ, List.replicate_succ, List.flatten_cons, List.flatten_cons] at h
  exact (List.append_inj h hl).1
theorem rep_take {n p : Nat} (hn : 1 ≤ n) {r : List α} (hp : p ≤ r.length) : ((List.replicate n r).flatten).take p = r.take p := by
  obtain ⟨k, rfl⟩ : ∃ k, n = k + 1 := ⟨n - 1, by omega⟩
  rw [List.replicate_succ, List.flatten_cons, List.take_append_of_le_length hp]
theorem rep_map (f : α → β) (l : List α) (n : Nat) : ((List.replicate n l).flatten).map f = (List.replicate n (l.map f)).flatten := by
  rw [List.map_flatten, List.map_replicate]
/-- the things stand alike q further on, taken round -/
def Per (l : List α) (q : Nat) : Prop := 1 ≤ q ∧ ∀ k, l[(k + q) % l.length]? = l[k % l.length]?
theorem Per.many {l : List α} {q : Nat} (h : Per l q) (k : Nat) : ∀ i, l[(k + q * i) % l.length]? = l[k % l.length]?
  | 0 => by rw [Nat.mul_zero, Nat.add_zero]
  | i + 1 => by
    rw [Nat.mul_succ, ← Nat.add_assoc, h.2 (k + q * i), Per.many h k i]
theorem Per.all {l : List α} (h : 1 ≤ l.length) : Per l l.length := ⟨h, fun k => by rw [Nat.add_mod_right]⟩
variable [DecidableEq α] [DecidableEq β]
theorem again_per {l : List α} {p : Nat} (hp : 1 ≤ p) (h : p ≤ l.length) : againB l p = true ↔ l.length % p = 0 ∧ Per l p := by
  unfold againB
  rw [Bool.and_eq_true, decide_eq_true_eq, decide_eq_true_eq]
  refine ⟨fun ⟨a, b⟩ => ⟨a, hp, fun k => ?_⟩, fun ⟨a, b⟩ => ⟨a, (again_iff hp h a).mpr fun k hk => ?_⟩⟩
  · have c := (again_iff hp h a).mp b
    have d : p ∣ l.length := Nat.dvd_of_mod_eq_zero a
    rw [c _ (Nat.mod_lt _ (by omega)), c (k % l.length) (Nat.mod_lt _ (by omega)), Nat.mod_mod_of_dvd _ d, Nat.mod_mod_of_dvd _ d, Nat.add_mod_right]
  · have m := b.many (k % p) (k / p)
    rw [Nat.mod_add_div, Nat.mod_eq_of_lt hk, Nat.mod_eq_of_lt (Nat.lt_of_lt_of_le (Nat.mod_lt _ hp) h)] at m
    exact m
theorem first_or (l : List α) : ∀ n : Nat, (∀ q, 1 ≤ q → q < n → againB l q = false) ∨ ∃ q, (1 ≤ q ∧ q < n) ∧ againB l q = true ∧ ∀ r, 1 ≤ r → r < q → againB l r = false
  | 0 => .inl fun q h1 h2 => by omega
  | n + 1 => by
    rcases first_or l n with h | ⟨q, h1, h2, h3⟩
    · by_cases c : 1 ≤ n ∧ againB l n = true
      · exact .inr ⟨n, ⟨c.1, by omega⟩, c.2, h⟩
      · refine .inl fun q h1 h2 => ?_
        by_cases e : q = n
        · subst e
          exact Bool.eq_false_iff.mpr fun z => c ⟨h1, z⟩
        · exact h q h1 (by omega)
    · exact .inr ⟨q, ⟨h1.1, by omega⟩, h2, h3⟩
theorem lpZ_per {l : List α} (h : 1 ≤ l.length) : Per l (lpZ l) := by
  rcases first_or l l.length with c | ⟨q, ⟨h1, h2⟩, h3, h4⟩
  · rw [lpZ_none c]
    exact Per.all h
  · rw [lpZ_some h1 h2 h3 h4]
    exact ((again_per h1 (by omega)).mp h3).2
theorem lpZ_least {l : List α} (h : 1 ≤ l.length) : ∀ q, Per l q → lpZ l ≤ q := by
  intro q
  induction q using Nat.strongRecOn with
  | ind q ih =>
    intro p
    by_cases c : l.length % q = 0
    · have hd : q ≤ l.length := Nat.le_of_dvd h (Nat.dvd_of_mod_eq_zero c)
      by_cases e : q = l.length
      · rw [e]
        exact lpZ_le l
      · have ha := (again_per p.1 hd).mpr ⟨c, p⟩
        rcases first_or l l.length with n | ⟨r, ⟨h1, h2⟩, h3, h4⟩
        · rw [n q p.1 (by omega)] at ha
          cases ha
        · rw [lpZ_some h1 h2 h3 h4]
          by_cases z : q < r
          · rw [h4 q p.1 z] at ha
            cases ha
          · omega
    · have hr : l.length % q < q := Nat.mod_lt _ p.1
      have := ih (l.length % q) hr ⟨by omega, fun k => by
        have m := p.many (k + l.length % q) (l.length / q)
        rw [Nat.add_assoc, Nat.mod_add_div, Nat.add_mod_right] at m
        exact m.symm⟩
      omega
theorem lpZ_of {l : List α} {m : List β} (h : 1 ≤ l.length) (h2 : 1 ≤ m.length) (e : ∀ q, Per l q ↔ Per m q) : lpZ l = lpZ m :=
  Nat.le_antisymm (lpZ_least h _ ((e _).mpr (lpZ_per h2))) (lpZ_least h2 _ ((e _).mp (lpZ_per h)))
theorem lpZ_rep {l : List α} {n : Nat} (hn : 1 ≤ n) (h : 1 ≤ l.length) : lpZ (List.replicate n l).flatten = lpZ l := by
  have hl := rep_len l n
  have h1 : 1 ≤ (List.replicate n l).flatten.length := by
    rw [hl]
    exact Nat.mul_pos hn h
  have at' : ∀ k, (List.replicate n l).flatten[k % (List.replicate n l).flatten.length]? = l[k % l.length]? := fun k => by
    rw [rep_get l n _ (by rw [← hl]; exact Nat.mod_lt _ h1), hl, Nat.mod_mod_of_dvd _ (Nat.dvd_mul_left ..)]
  refine lpZ_of h1 h fun q => ⟨fun p => ⟨p.1, fun k => ?_⟩, fun p => ⟨p.1, fun k => ?_⟩⟩
  · have := p.2 k
    rw [at', at'] at this
    exact this
  · rw [at', at']
    exact p.2 k
theorem lpZ_map {l : List α} {f : α → β} (h : 1 ≤ l.length) (hf : ∀ a ∈ l, ∀ b ∈ l, f a = f b → a = b) : lpZ (l.map f) = lpZ l := by
  refine lpZ_of (by rw [List.length_map]; exact h) h fun q => ⟨fun p => ⟨p.1, fun k => ?_⟩, fun p => ⟨p.1, fun k => ?_⟩⟩
  · have := p.2 k
    rw [List.length_map, List.getElem?_map, List.getElem?_map, List.getElem?_eq_getElem (Nat.mod_lt _ h), List.getElem?_eq_getElem (Nat.mod_lt _ h)] at this
    rw [List.getElem?_eq_getElem (Nat.mod_lt _ h), List.getElem?_eq_getElem (Nat.mod_lt _ h)]
    exact congrArg some (hf _ (List.getElem_mem _) _ (List.getElem_mem _) (Option.some.inj this))
  · rw [List.length_map, List.getElem?_map, List.getElem?_map, p.2 k]
end Cz

namespace Cw
open PySem PySem.Spec PyProof.Rows L2
open GxR (TabG TabB GenS)
/-! ## all(.. for x in anything that is walked), the element quiet, told by the place; it may read names of the def around -/
section
variable {X : Cx} {pins : List (Addr × Obj)} {σ : L2.St} {H : Hp} {s : Shared}
/-- to iterate xv in s1: one new object, n items, the i-th told by IT; what it reads is not P -/
def IterAt (X : Cx) (P : Addr) (n : Nat) (IT : Nat → Value → Prop) (s1 : Shared) (xv : Value) : Prop :=
  ∀ (E : Value → Shared → Prop) (R : Value → Shared → Prop), (∀ (o : Obj) (fp : List Addr) (Pf : Nat → Value → Prop) (St : Nat → Heap → Prop),
    (∀ A' : Around, A'.handled = none → Walks X.prog X.w A' s1.heap.objs.size fp [s1.heap.objs.size] n Pf St) → St 0 (s1.heap.push o) → (∀ b ∈ fp, b < s1.heap.objs.size + 1 ∧ b ≠ P) → (∀ i u, Pf i u → IT i u) →
    R (.ref s1.heap.objs.size) { s1 with heap := s1.heap.push o }) → wpAny (model X.prog X.w) X.A (pyIter xv) R E s1
/-- the element, in a frame of its own, all but P as in s1 -/
def EltQ (X : Cx) (scope : Scope) (x : Str) (elt : Expr) (P : Addr) (s1 : Shared) (IT : Nat → Value → Prop) (pb : Nat → Bool) : Prop :=
  ∀ (cenv : Env) (A' : Around) (E' : Value → Shared → Prop) (i : Nat) (u : Value) (s2 : Shared) (m2 : Str → Option Value), cenv.scope = scope → cenv.globals = mainGlobals → cenv.builtins = builtinsNs → cenv.cells = cloFrom X.env.cells scope.names [] →
    A'.handled = none → A'.depth ≤ X.A.depth + 1 → A'.units ≤ X.A.units + 8 → IT i u → Gr X.K X.mg s2.heap → (∀ b o, b ≠ P → s1.heap.get? b = some o → s2.heap.get? b = some o) → s2.heap.Ns cenv.locals m2 → m2 x = some u →
    wpAny (model X.prog X.w) A' (eval elt cenv) (fun y s3 => y = .bool (pb i) ∧ Keeps s2 s3) E' s2
/-- ready to be walked -/
def RdyQ (X : Cx) (pins : List (Addr × Obj)) (σ : L2.St) (H1 : Hp) (P : Addr) (n : Nat) (pb : Nat → Bool) (g : Addr) (s5 : Shared) : Prop :=
  ∃ (fp wr : List Addr) (G : Array GenState → Array GenState → Prop) (F : Nat → Value → Prop) (S : Nat → Shared → Prop),
    WalksS X.prog X.w X.A.in1 g fp wr G n F S ∧ S 0 s5 ∧ (∀ j v, F j v → v = .bool (pb j)) ∧ ∀ s', Moved wr G s5 s' → ∃ H2, GxR.Tabbed P H1 H2 ∧ Inv X pins σ H2 s'
theorem gen_any {c P : Addr} {elt iter : Expr} {x : Str} {px gpos : Pos} {scope : Scope} {n : Nat} {pb : Nat → Bool} {te : TE} {k : Nat} {Q' : Value → Shared → Prop} {Rw : Hp → Prop} {Rv : V → Hp → Prop}
    (hr : Room k X.A) (TB : TabB X.base X.mg c P) (hcode : X.env.code = .ref c) (S : GenS X.env scope x) (hi : PE X iter te)
    (hit : ∀ s1 H1 v xv ps, Inv X pins σ H1 s1 → RelV v xv → Rv v H1 → H1 P = some (.tbl ps) → ∃ IT, IterAt X P n IT s1 xv ∧ EltQ X scope x elt P s1 IT pb)
    (hs : ∀ v, genFold iter X.env v = pure v) (I : Inv X pins σ H s) (h : te σ H fun v H1 => Rv v H1 ∧ TabG H1 P ∧ Rw H1) (hQ : ∀ H1 g s5, Rw H1 → RdyQ X pins σ H1 P n pb g s5 → Q' (.ref g) s5) :
    wpAny (model X.prog X.w) X.A (eval (.GeneratorExp elt [⟨.Name x px, iter, [], 0⟩] scope gpos) X.env) Q' X.xe s := by
  refine wpAny_GeneratorExp_walksQD hr.hd S.co (closure_ok S.free) S.cell S.dot S.loc S.kind (by have := hr.dp; omega) ?_ hs
  refine thn (hi.run pins s σ H _ I h) fun xv s1 hx1 => ?_
  obtain ⟨v, H1, I1, r1, rd, ⟨ps, hP, ht⟩, q1⟩ := hx1
  obtain ⟨IT, it1, el1⟩ := hit s1 H1 v xv ps I1 r1 rd hP
  refine it1 _ _ fun o fp Pf St W hst hfp hIT => ?_
  have pAt : s1.heap.get? P = some { cls := .none, data := .fields ps } := I1.hok P _ hP
  have pLt : P < s1.heap.objs.size := Heap.lt_size pAt
  have pAt2 : (s1.heap.push o).get? P = some { cls := .none, data := .fields ps } := Heap.get?_push_of_some _ pAt
  have code0 : PySem.W.CodeHd (s1.heap.push o) c P := TB.code.keeps fun b u e => Heap.get?_push_of_some _ (I1.bk b u e)
  have limo : (s1.heap.push o).NoLimit := I1.nolimit.push o
  have szo : (s1.heap.push o).objs.size = s1.heap.objs.size + 1 := Heap.size_push ..
  have baseP : ∀ b u, X.base.get? b = some u → b ≠ P := fun b u e z => by
    have q := (I1.bs b u e).2
    rw [z, hP] at q
    cases q
  have statP : cStatics ≠ P ∧ cStatics < s1.heap.objs.size := by
    obtain ⟨_, hns, _⟩ := I1.nolimit
    refine ⟨fun e => ?_, hns.lt⟩
    obtain ⟨o', es, ep, ho, hd, _⟩ := hns
    rw [e, pAt] at ho
    cases ho
    cases hd
  -- behind the code object, found or made
  have rest : ∀ (code : Value) (h3 : Heap) (tk : Nat) (qs : Array Value), Heap.ExtBut P (s1.heap.push o) h3 → s1.heap.objs.size + 1 ≤ h3.objs.size → h3.get? P = some { cls := .none, data := .fields qs } → (∃ more, qs = ps ++ more) → TriplesOk qs.toList →
      wpAny (model X.prog X.w) X.A (builtinsFor X.env.globals X.env.builtins) (fun bi s₄ =>
        ∃ Ia fpa wr n₀ Pg S₀ pz F, Value.ref s1.heap.objs.size = .ref Ia ∧ (∀ A' : Around, A'.handled = none → Walks X.prog X.w A' Ia fpa wr n₀ Pg S₀) ∧ S₀ 0 s₄.heap ∧ (∀ b ∈ fpa, b < s₄.heap.objs.size) ∧ s₄.heap.NoLimit ∧ cStatics ∉ wr ∧
          (∀ hz : Heap, (∀ b o, s₄.heap.get? b = some o → hz.get? b = some o) →
            QuietGenD X.prog X.w (genEnv scope (cloFrom X.env.cells scope.names []) s₄.heap.objs.size code bi X.env) x [] elt (List.range s₄.heap.objs.size) wr Pg pz F hz (X.A.depth + 1) (X.A.units + 8)) ∧
          (∀ a h₅ tk gs, gs.bare = true → s₄.heap.objs.size < a → h₅.objs.size = a + 1 → (∀ b o, s₄.heap.get? b = some o → h₅.get? b = some o) →
            WalksS X.prog X.w X.A.in4 a (a :: s₄.heap.objs.size :: List.range s₄.heap.objs.size) (s₄.heap.objs.size :: wr) (GenOnlyQ s₄.gens.size) (passing pz n₀ 0).length
              (fun j y => ∃ i, (passing pz n₀ 0)[j]? = some i ∧ F i y) (GenAt X.prog X.w X.A.in4 a s₄.gens.size s₄.heap.objs.size (List.range s₄.heap.objs.size) wr pz n₀ F) →
            GenAt X.prog X.w X.A.in4 a s₄.gens.size s₄.heap.objs.size (List.range s₄.heap.objs.size) wr pz n₀ F 0 { s₄ with gens := s₄.gens.push gs, toks := tk, heap := h₅ } →
            Q' (.ref a) { s₄ with gens := s₄.gens.push gs, toks := tk, heap := h₅ })) X.xe { s1 with heap := h3, toks := tk } := by
    intro code h3 tk qs hx3 hsz pAt3 hmore ht3
    obtain ⟨bm, ob, e1, e2, e3, e4, e5, e6, e7, e8⟩ := TB.bm
    have up3 : ∀ b u, b ≠ P → s1.heap.get? b = some u → h3.get? b = some u := fun b u hb e => hx3 b u hb (Heap.get?_push_of_some _ e)
    refine wpAny_builtinsFor (m := X.mg) (by rw [I1.ok.glob]; exact ((I1.mod.glob.keeps I1.bk).push o).extBut hx3 TB.gP) e1 e2 (up3 _ _ e4 (I1.bk _ _ e5)) e6 e7 e8 ?_
    refine ⟨s1.heap.objs.size, fp, [s1.heap.objs.size], n, Pf, St, (fun _ => true), (fun i y => y = .bool (pb i)), rfl, W, (W X.A hr.hd).frame _ _ _ hst fun b hb u e => hx3 b u (hfp b hb).2 e, fun b hb => Nat.lt_of_lt_of_le (hfp b hb).1 hsz, limo.extBut hx3 statP.1, ?_, ?_, ?_⟩
    · intro z
      have z2 : cStatics = s1.heap.objs.size := by simpa using z
      exact Nat.ne_of_lt statP.2 z2
    · intro hz hhz
      refine ⟨fun A' E' i v s₂ m₂ _ _ _ _ _ _ _ => ?_, fun A' E' i v s₂ m₂ hA hD hU hPv hp hn hm hk => ?_⟩
      · simp only [List.forIn_nil]
        exact wpAny_pure ⟨rfl, keeps_self _⟩
      · have stay : ∀ b u, b ≠ P → s1.heap.get? b = some u → s₂.heap.get? b = some u := fun b u nb e => by
          have l1 := Heap.lt_size e
          have l3 : s1.heap.objs.size + 1 ≤ h3.objs.size := hsz
          refine hk b (List.mem_range.mpr (Nat.lt_of_lt_of_le (Nat.lt_succ_of_lt l1) l3)) (fun z => ?_) u (hhz b u (up3 b u nb e))
          have z2 : b = s1.heap.objs.size := by simpa using z
          rw [z2] at l1
          exact absurd l1 (Nat.lt_irrefl _)
        have stayB : ∀ b u, X.base.get? b = some u → s₂.heap.get? b = some u := fun b u e => stay b u (baseP b u e) (I1.bk b u e)
        have gr : Gr X.K X.mg s₂.heap := ⟨I1.mod.kin.keeps stayB, I1.mod.glob.keeps stayB, let ⟨mb, y1, y2⟩ := I1.mod.blt; ⟨mb, y1.keeps stayB, y2⟩, I1.mod.nolimit.keeps stayB⟩
        exact el1 _ A' E' i v s₂ m₂ rfl I1.ok.glob rfl rfl hA hD hU (hIT i v hPv) gr stay hn hm
    · intro g h5 tk5 gs hgb hag hsz5 hk5 W5 hgat
      simp only [GxR.passing_true, List.length_range] at W5
      refine hQ H1 g _ q1 ⟨_, _, _, _, _, W5.in4_1, hgat, fun j v hv => ?_, fun s' hm => ?_⟩
      · obtain ⟨i, hij, e⟩ := hv
        obtain ⟨hj, ej⟩ := List.getElem?_eq_some_iff.mp hij
        rw [List.getElem_range] at ej
        subst ej
        exact e
      · obtain ⟨more, em⟩ := hmore
        have nwr : ∀ b u, s1.heap.get? b = some u → b ∉ h3.objs.size :: [s1.heap.objs.size] := fun b u e hb => by
          have hl := Heap.lt_size e
          have l3 : s1.heap.objs.size + 1 ≤ h3.objs.size := hsz
          rcases (show b = h3.objs.size ∨ b = s1.heap.objs.size by simpa using hb) with z | z
          · rw [z] at hl
            exact Nat.lt_irrefl _ (Nat.lt_of_lt_of_le hl (Nat.le_of_succ_le l3))
          · rw [z] at hl
            exact Nat.lt_irrefl _ hl
        have J := GxR.inv_tab (more := more) (h' := s'.heap) (g' := s'.gens) (d' := s'.drawn) (t' := s'.toks) I1 hP (fun b u hb e => hm.heap b u (nwr b u e) (hk5 b u (up3 b u hb e)))
          (by rw [← em]; exact hm.heap P _ (nwr P _ pAt) (hk5 P _ pAt3)) (AllBare.movedS (I1.bare.push hgb) hm)
        rw [GxR.sh_eta s1 s' hm.os] at J
        exact ⟨upd H1 P (.tbl (ps ++ more)), ⟨⟨ps ++ more, upd_same, by rw [← em]; exact ht3⟩, fun b hb => upd_ne hb⟩, J⟩
  refine ⟨limo, ?_⟩
  cases hf : codeAmong gpos ps.toList with
  | none =>
    refine wpAny_genexprCodeX hcode (code0.code pAt2 ht) (code0.tab pAt2) hf fun c' h' tk hx hge hlt hco' _ htab' _ => ?_
    obtain ⟨o1, vs, f1, tf, fl, tg, inF, tx, tt, op, _, _, _, _, _, _, _, _, _, htr, _⟩ := hco'
    exact rest _ h' tk _ hx (by rw [← szo]; exact Nat.le_trans hge (Nat.le_of_lt hlt)) htab'.2 ⟨_, rfl⟩ htr
  | some cv =>
    refine wpAny_genexprCode_hit hcode (code0.code pAt2 ht) hf ?_
    exact rest cv (s1.heap.push o) s1.toks ps (Heap.ExtBut.refl _ _) (by rw [szo]; exact Nat.le_refl _) pAt2 ⟨#[], by simp⟩ ht
/-- all(elt for x in iter) -/
def tAllQ (P : Addr) (n : Nat) (pb : Nat → Bool) (Rv : V → Hp → Prop) (te : TE) : TE := fun σ H Q => te σ H fun v H1 => Rv v H1 ∧ TabG H1 P ∧ ∀ H2, GxR.Tabbed P H1 H2 → Q (.bl ((List.range n).all pb)) H2
theorem pe_allQ {c P : Addr} {elt iter : Expr} {x : Str} {px p pos gpos : Pos} {scope : Scope} {n : Nat} {pb : Nat → Bool} {Rv : L2.St → V → Hp → Prop} {te : TE} {k : Nat}
    (hr : Room k X.A) (hg : Gl X "all") (hm : X.mg "all" = none) (TB : TabB X.base X.mg c P) (hcode : X.env.code = .ref c) (S : GenS X.env scope x) (hi : PE X iter te)
    (hit : ∀ pins σ s1 H1 v xv ps, Inv X pins σ H1 s1 → RelV v xv → Rv σ v H1 → H1 P = some (.tbl ps) → ∃ IT, IterAt X P n IT s1 xv ∧ EltQ X scope x elt P s1 IT pb)
    (hs : ∀ v, genFold iter X.env v = pure v)
    (he : starEach [.GeneratorExp elt [⟨.Name x px, iter, [], 0⟩] scope gpos] X.env = (false, eval (.GeneratorExp elt [⟨.Name x px, iter, [], 0⟩] scope gpos) X.env) :: starEach [] X.env := by rfl) :
    PE X (.Call (.Name "all" p) [.GeneratorExp elt [⟨.Name x px, iter, [], 0⟩] scope gpos] [] pos) (fun σ => tAllQ P n pb (Rv σ) te σ) := by
  refine ⟨fun pins s σ H Q I h => wpAny_Call_Name_kw (ld_blt I hg hm PyProof.Rows.boot_all (PyProof.Rows.callWith_builtin1 ?_ he (by rfl)))⟩
  rw [he]
  show wpAny _ _ (spliced ((false, eval (.GeneratorExp elt [⟨.Name x px, iter, [], 0⟩] scope gpos) X.env) :: backTo pos (starEach [] X.env))) _ _ s
  refine Calls.spliced_cons (gen_any (Rv := Rv σ) (Rw := fun H1 => ∀ H2, GxR.Tabbed P H1 H2 → Q (.bl ((List.range n).all pb)) H2) hr TB hcode S hi (hit pins σ) hs I h fun H1 g s5 hR hG => ?_)
  obtain ⟨fp, wr, G, F, Sx, W, hst, hF, hI⟩ := hG
  have htr : TruthOf X.prog X.w X.A.in1 F pb := fun j y sj Qj Ej hy hQj => by
    rw [hF j y hy]
    exact wpAny_truthy_bool hQj
  refine Calls.spliced_nil (call_all_walkS (W.self 0 _ _ _ hst ⟨g, fp, wr, G, _, F, Sx, _, rfl, W, hst, htr, fun s' hmv => ?_⟩))
  obtain ⟨H2, hT, J⟩ := hI s' hmv
  exact ⟨.bl _, H2, J, rfl, hR H2 hT⟩
/-- .. over a base: Rv is told of the slots' values and the base -/
theorem ed_allQ {T : List Addr} {B : Hp} {c P : Addr} {elt iter : Expr} {x : Str} {px p pos gpos : Pos} {scope : Scope} {n : Nat} {pb : Nat → Bool} {R : RV} {k : Nat}
    (hr : Room k X.A) (bi : Bi X.mg) (hP : P ∈ T) (TB : TabB X.base X.mg c P) (hcode : X.env.code = .ref c) (S : GenS X.env scope x) (h : EV T X iter σ B R) (mR : Mono R)
    (hit : ∀ pins s1 H1 v xv ps, Inv X pins σ H1 s1 → RelV v xv → R H1 v → Ex B H1 → H1 P = some (.tbl ps) → ∃ IT, IterAt X P n IT s1 xv ∧ EltQ X scope x elt P s1 IT pb)
    (hg : Gl X "all" := by rfl) (hs : ∀ v, genFold iter X.env v = pure v := by intro _; rfl)
    (he : starEach [.GeneratorExp elt [⟨.Name x px, iter, [], 0⟩] scope gpos] X.env = (false, eval (.GeneratorExp elt [⟨.Name x px, iter, [], 0⟩] scope gpos) X.env) :: starEach [] X.env := by rfl) :
    ED T X (.Call (.Name "all" p) [.GeneratorExp elt [⟨.Name x px, iter, [], 0⟩] scope gpos] [] pos) σ B (.bool ((List.range n).all pb)) := fun H w Q q =>
  we_of (pe_allQ (Rv := fun σ' v H1 => σ' = σ ∧ R H1 v ∧ Ex B H1) hr hg bi.all TB hcode S pwe (fun pins σ' s1 H1 v xv ps I rv ⟨e, r, x⟩ hp => hit pins s1 H1 v xv ps (e ▸ I) rv r x hp) hs he)
    (h H w _ fun v B1 H1 g1 r1 => ⟨⟨rfl, mR _ _ _ g1.wd.ex r1, w.ex.trans g1.eh⟩, g1.wd.gd P hP, fun H2 t => by
    obtain ⟨ps, hp, _⟩ := g1.wd.gd P hP
    obtain ⟨⟨qs, hq, ok⟩, rest⟩ := t
    refine q _ B1 H2 (g1.trans ⟨⟨fun a o e => ?_, fun P' hP' => ?_⟩, Ex.rfl, fun a o e => ?_, fun a z z' => absurd z z'⟩) (.bl _)
    · by_cases ca : a = P
      · subst ca
        rcases g1.wd.ex a o e with e | ⟨p1, p2, rfl, e⟩
        · rw [hp] at e
          cases e
          exact .inr ⟨_, _, rfl, hq⟩
        · exact .inr ⟨_, _, rfl, hq⟩
      · rw [rest a ca]
        exact g1.wd.ex a o e
    · by_cases ca : P' = P
      · subst ca
        exact ⟨qs, hq, ok⟩
      · obtain ⟨p1, e1, o1⟩ := g1.wd.gd P' hP'
        exact ⟨p1, by rw [rest P' ca]; exact e1, o1⟩
    · by_cases ca : a = P
      · subst ca
        rw [hp] at e
        cases e
        exact .inr ⟨_, _, rfl, hq⟩
      · rw [rest a ca]
        exact .inl e⟩)
end
end Cw

namespace Cw
open PySem PySem.Spec PyProof.Rows L2
open GxR (TabG TabB GenS)
section
variable {T : List Addr} {X : Cx} {a b e o iter : Expr} {es : List Expr} {σ : L2.St} {B : Hp} {p pos apos : Pos}
/-! ## texts -/
theorem ed_globS {x z : Str} (hg : Gl X x) (hm : ∃ t, X.mg x = some (.str z t)) (hd : (x == ("__debug__" : Str)) = false := by decide) : ED T X (.Name x pos) σ B (.str z) := by
  obtain ⟨t, hm⟩ := hm
  exact ev_pe (pe_glob (v := .str z) hg hm ⟨t, rfl⟩ hd) (fun _ _ _ q => q) (.str z)
theorem ed_lenS {z : Str} (h : ED T X a σ B (.str z)) (hz : z.length ≤ 100000) (hm : Bi X.mg) (hg : Gl X "len" := by rfl) (he : starEach [a] X.env = (false, eval a X.env) :: starEach [] X.env := by rfl) (hpl : (backTo pos (starEach [] X.env)).any (·.1) = false := by rfl) :
    ED T X (.Call (.Name "len" p) [a] [] pos) σ B (.int z.length) :=
  ev_callB (Rs := fun B' vs => Dts B' vs [.str z]) call_len hg hm.len PySem.boot_len (ea_cons h ea_nil he) (fun B1 H1 vs _ w r Q q => by
    cases r with
    | cons h1 r =>
      cases r
      rw [h1.toStr]
      exact ⟨_, _, rfl, ⟨sz100 hz, rfl⟩, q _ B1 H1 (Go.rfl w) (.int _)⟩) (by decide) (by decide) he hpl
theorem Dts.ofStrs {B : Hp} : ∀ ys : List Str, Dts B (ys.map V.str) (ys.map .str)
  | [] => .nil
  | y :: ys => .cons (.str y) (Dts.ofStrs ys)
theorem en_split {z c : Str} (ho : ED T X o σ B (.str z)) (he : ED T X e σ B (.str c)) (hc : (c.length == 0) = false) (hz : z.length ≤ 100000)
    (hs : starEach [e] X.env = [(false, eval e X.env)] := by rfl) (hbase : attributeBase o "split" X.env (eval o X.env) = eval o X.env := by rfl) (hline : (apos.endLine == pos.line) = true := by rfl) :
    EV T X (.Call (.Attribute o "split" apos) [e] [] pos) σ B fun B' v => NewD B B' v ((Txt.split z c).map .str) := fun H w Q q =>
  we_of (pe_split pwe pwe hs hbase hline) (ho H w _ fun x B1 H1 g1 r1 => ⟨⟨z, r1.toStr⟩, (he.mono g1.eb) H1 g1.wd _ fun y B2 H2 g2 r2 => by
    rw [r1.toStr, r2.toStr]
    refine ⟨z, c, rfl, rfl, hc, Nat.le_trans (show z.length + 2 ≤ 100002 by omega) (by decide), fun q0 hq => ?_⟩
    have g3 := Go.new (o := .lst ((Txt.split z c).map V.str)) g2.wd hq
    exact q _ _ _ ((g1.trans g2).trans g3) ⟨q0, _, rfl, (g1.eb.trans g2.eb).free (g2.wd.ex.free hq), upd_same, Dts.ofStrs _⟩⟩)
theorem ed_of {d : PyData} {ds : List PyData} (h : EV T X e σ B fun B' v => NewD B B' v ds) (i : d = .list ds) : ED T X e σ B d := h.imp fun _ _ _ n => by rw [i]; exact n.dt
theorem ed_sliceS {z : Str} {lo hi : Option Expr} {l h : Option Int} {p2 : Pos} (ha : ED T X a σ B (.str z)) (hl : EO T X lo σ B l) (hh : EO T X hi σ B h) (hz : z.length ≤ 100000) : ED T X (.Subscript a (.Slice lo hi none p2) pos) σ B (.str (cutS z l h)) := fun H w Q q => by
  refine we_of (pe_slice sl_str pwe (pwo _) (pwo _)) (ha H w _ fun x B1 H1 g1 r1 => (hl.mono g1.eb) H1 g1.wd _ fun B2 H2 g2 => (hh.mono (g1.eb.trans g2.eb)) H2 g2.wd _ fun B3 H3 g3 => ?_)
  rw [r1.toStr]
  exact ⟨z, rfl, sz100 hz, q _ B3 H3 ((g1.trans g2).trans g3) (.str _)⟩
/-- the signs of a text -/
def signsD (z : Str) : List PyData := z.cps.toList.map fun c => .str ⟨#[c]⟩
theorem signsD_len (z : Str) : (signsD z).length = z.length := by
  unfold signsD
  rw [List.length_map, Array.length_toList]
  rfl
theorem signsD_at {z : Str} {i c : Nat} (h : z.cps[i]? = some c) : (signsD z)[i]? = some (.str ⟨#[c]⟩) := by
  unfold signsD
  rw [List.getElem?_map, Array.getElem?_toList, h]
  rfl
theorem ed_index {z c : Str} {i : Nat} {rest : List Nat} (ho : ED T X o σ B (.str z)) (he : ED T X e σ B (.str c)) (hi : Builtin.Str.occurrences z c 0 z.length 1 = i :: rest)
    (hs : starEach [e] X.env = [(false, eval e X.env)] := by rfl) (hbase : attributeBase o "index" X.env (eval o X.env) = eval o X.env := by rfl) (hline : (apos.endLine == pos.line) = true := by rfl) :
    ED T X (.Call (.Attribute o "index" apos) [e] [] pos) σ B (.int (i : Nat)) := fun H w Q q =>
  we_of (pe_m1 F.slot_str_index F.type_str_index mt_sindex pwe pwe hs hbase hline) (ho H w _ fun x B1 H1 g1 r1 => ⟨⟨z, r1.toStr⟩, (he.mono g1.eb) H1 g1.wd _ fun y B2 H2 g2 r2 => by
    rw [r1.toStr, r2.toStr]
    exact ⟨z, c, i, rest, rfl, rfl, hi, q _ B2 H2 (g1.trans g2) (.int _)⟩⟩)
/-- a comprehension over a text -/
theorem lc_S {z : Str} {elt : Expr} {ifs : List Expr} {scope : Scope} {x : Str} {px : Pos} {j : Nat} (p : PyData → Bool) (f : PyData → PyData) (k : Bk X scope x px j) (h : ED T X iter σ B (.str z)) (hl : z.length ≤ 10000)
    (ht : ∀ (s : Shared) (H : Hp) (A : Addr) (cl : List (Str × Addr)) (fp : List Addr) (c : Nat) (B1 : Hp), c ∈ z.cps.toList → Ex B B1 → ETs T (blkX X scope s H A cl fp) ifs ((σ.set j none).set j (some (.str ⟨#[c]⟩))) B1 (p (.str ⟨#[c]⟩)))
    (he : ∀ (s : Shared) (H : Hp) (A : Addr) (cl : List (Str × Addr)) (fp : List Addr) (c : Nat) (B1 : Hp), c ∈ z.cps.toList → p (.str ⟨#[c]⟩) = true → Ex B B1 → ED T (blkX X scope s H A cl fp) elt ((σ.set j none).set j (some (.str ⟨#[c]⟩))) B1 (f (.str ⟨#[c]⟩))) :
    LC T X elt iter ifs scope x px σ B (made p f (signsD z)) := by
  refine ⟨j, _, k, pi_str pwe, fun H w Q q => ?_⟩
  refine h H w _ fun v B1 H1 g1 r1 => ?_
  refine ⟨z, r1.toStr, fun D hD => lc_it walk_str (g := gName j) (tt := tts X scope ifs) (te := tes X scope elt) (vs := [j]) (σ := σ) (D := D) (Qd := Q (.ref D)) (fun i H' => Mk T B1 H1 D (made p f ((signsD z).take i)) H') (Mk.start g1.wd hD) (fun _ _ _ _ => trivial) (fun i y H' H'' hi m hy => ?_) fun H' m => ?_⟩
  · obtain ⟨rfl, c, hc, rfl⟩ := hy
    obtain ⟨B', ws, g, h2, h3, r⟩ := m
    have hm : c ∈ z.cps.toList := List.mem_of_getElem? (by rw [Array.getElem?_toList]; exact hc)
    have e1 : Ex B B' := g1.eb.trans g.eb
    refine lc_turn (k := p (.str ⟨#[c]⟩)) (d := f (.str ⟨#[c]⟩)) hD g h2 h3 r ?_ (fun H2 m2 => by rw [made_more (signsD_at hc)]; exact m2) (fun s H0 A cl fp => ht s H0 A cl fp c B' hm e1) fun c2 s H0 A cl fp => he s H0 A cl fp c B' hm c2 e1
    have h5 := made_len (p := p) (f := f) ((signsD z).take i)
    have h6 : ((signsD z).take i).length ≤ 10000 := by rw [List.length_take, signsD_len]; omega
    omega
  · have e : (signsD z).take z.cps.size = signsD z := List.take_of_length_le (by rw [signsD_len]; exact Nat.le_refl _)
    rw [e] at m
    obtain ⟨B', g, ws, r1', r2'⟩ := m.done hD
    exact q _ B' H' (g1.trans g) ⟨D, ws, rfl, g1.eb.free (g1.wd.ex.free hD), r1', r2'⟩
end
section
variable {T : List Addr} {X : Cx} {iter : Expr} {σ : L2.St} {B H B0 H0 : Hp} {pos : Pos} {ss : List Sv} {D : Ends} {rest : List Stmt}
/-- a for over a text -/
theorem t_forS {x : Str} {px : Pos} {body : List Stmt} {z : Str} (i : Nat) (Pv : Nat → L2.St → Hp → Hp → Prop) (g : Go T B0 H0 B H) (h : ED T X iter σ B (.str z)) (hN : X.N.Nodup)
    (hp : PassesOwn (model X.prog X.w) X.A X.env X.xe) (hc : X.calm = true)
    (h0 : ∀ B1 H1, Go T B0 H0 B1 H1 → Go T B H B1 H1 → Pv 0 σ B1 H1)
    (hs : ∀ n c σ' B' H', z.cps[n]? = some c → Go T B0 H0 B' H' → Go T B' H0 B' H' → Ex B B' → Pv n σ' B' H' → wss X body { D with nx := fun σ'' H'' => ∃ B'', Go T B' H0 B'' H'' ∧ Pv (n + 1) σ'' B'' H'', ct := fun σ'' H'' => ∃ B'', Go T B' H0 B'' H'' ∧ Pv (n + 1) σ'' B'' H'', bk := fun σ' H' => wss X rest D σ' H' } (σ'.set i (some (.str ⟨#[c]⟩))) H')
    (hd : ∀ σ' B' H', Go T B0 H0 B' H' → Ex B B' → Pv z.cps.size σ' B' H' → wss X rest D σ' H')
    (hi : X.N[i]? = some x := by rfl) (hx : Loc X.env.scope x := by first | exact Or.inl rfl | exact Or.inr rfl)
    (hf : X.fn x = true ∨ X.env.scope.names.lookup x = some .local := by first | exact .inl rfl | exact .inr rfl | assumption) (hss : ∀ x, foldedSetIterable iter X.env x = pure x := by intro _; rfl) : wss X (.For (.Name x px) iter body [] pos :: rest) D σ H := by
  refine s_cons (ws_of (ps_for hp hc (pi_str pwe) (pg_name hN hi hx hf) pwss hss) ?_)
  refine h H g.wd _ fun v B1 H1 g1 r1 => ?_
  refine ⟨z, r1.toStr, for_it walk_str (fun n σ' H' => ∃ B', (Go T B0 H0 B' H' ∧ Ex B1 B') ∧ Pv n σ' B' H') ⟨B1, ⟨g.trans g1, Ex.rfl⟩, h0 B1 H1 (g.trans g1) g1⟩ (fun _ _ _ _ _ => trivial) (fun n y σ' H' H'' hn ⟨B', ⟨g', x'⟩, q⟩ hy => ?_) fun σ' H' ⟨B', ⟨g', x'⟩, q⟩ => hd σ' B' H' g' (g1.eb.trans x') q⟩
  obtain ⟨rfl, c, hc2, rfl⟩ := hy
  refine wss_mk ?_
  intro pins s1 I
  refine thn (wss_run (hs n c σ' B' H'' hc2 g' g'.rebase (g1.eb.trans x') q) pins s1 I) fun f s2 k => ?_
  cases f with
  | next =>
    obtain ⟨σ2, H2, I2, B2, k1, k2⟩ := k
    exact ⟨σ2, H2, I2, B2, ⟨g'.rejoin k1, x'.trans k1.eb⟩, k2⟩
  | brk => exact k
  | cont =>
    obtain ⟨σ2, H2, I2, B2, k1, k2⟩ := k
    exact ⟨σ2, H2, I2, B2, ⟨g'.rejoin k1, x'.trans k1.eb⟩, k2⟩
  | ret v => exact k
end
end Cw

namespace Cw
open PySem PySem.Spec PyProof.Rows L2
open GxR (TabG TabB GenS)
section
variable {T : List Addr} {X : Cx} {iter : Expr} {σ : L2.St} {B : Hp} {p pos : Pos}
/-! ## all(x in G for x in a text), G a text of the module -/
def inAt (z zs : Str) (i : Nat) : Bool := match z.cps[i]? with
  | some c => decide (c ∈ zs.cps.toList)
  | none => false
theorem inAt_all (z zs : Str) : (List.range z.cps.size).all (inAt z zs) = z.cps.toList.all fun c => decide (c ∈ zs.cps.toList) := by
  rw [Bool.eq_iff_iff, List.all_eq_true, List.all_eq_true]
  refine ⟨fun h c hc => ?_, fun h i hi => ?_⟩
  · obtain ⟨i, hi, e⟩ := List.getElem_of_mem hc
    have hi2 : i < z.cps.size := by rw [← Array.length_toList]; exact hi
    have q := h i (List.mem_range.mpr hi2)
    unfold inAt at q
    rw [Array.getElem?_eq_getElem hi2] at q
    rw [← e, Array.getElem_toList]
    exact q
  · have hi2 := List.mem_range.mp hi
    unfold inAt
    rw [Array.getElem?_eq_getElem hi2]
    exact h _ (by rw [← Array.getElem_toList (h := hi2)]; exact List.getElem_mem _)
theorem ed_allIn {c P : Addr} {x G : Str} {px p1 p2 p3 gpos : Pos} {scope : Scope} {z zs : Str} {k : Nat} (hr : Room k X.A) (bi : Bi X.mg) (hP : P ∈ T) (TB : TabB X.base X.mg c P) (hcode : X.env.code = .ref c) (S : GenS X.env scope x) (h : ED T X iter σ B (.str z))
    (hG : ∃ t, X.mg G = some (.str zs t)) (hGk : scope.names.lookup G = some .globalImplicit) (hdx : (x == ("__debug__" : Str)) = false := by decide) (hdG : (G == ("__debug__" : Str)) = false := by decide)
    (hg : Gl X "all" := by rfl) (hs : ∀ v, genFold iter X.env v = pure v := by intro _; rfl)
    (he : starEach [.GeneratorExp (.Compare (.Name x p1) [.In] [.Name G p2] p3) [⟨.Name x px, iter, [], 0⟩] scope gpos] X.env = (false, eval (.GeneratorExp (.Compare (.Name x p1) [.In] [.Name G p2] p3) [⟨.Name x px, iter, [], 0⟩] scope gpos) X.env) :: starEach [] X.env := by rfl) :
    ED T X (.Call (.Name "all" p) [.GeneratorExp (.Compare (.Name x p1) [.In] [.Name G p2] p3) [⟨.Name x px, iter, [], 0⟩] scope gpos] [] pos) σ B (.bool (z.cps.toList.all fun c => decide (c ∈ zs.cps.toList))) := by
  rw [← inAt_all]
  obtain ⟨tg, hm⟩ := hG
  refine ed_allQ (R := fun _ v => v = .str z) hr bi hP TB hcode S (h.imp fun _ _ _ r => r.toStr) mono_c (fun pins s1 H1 v xv ps I rv hv _ hp => ⟨SignAt z, fun E R q => ?_, fun cenv A' E' i u s2 m2 hs hgl hb hcl hA hD hU hu g stay hn hm2 => ?_⟩) hg hs he
  · subst hv
    obtain ⟨t, rfl⟩ := rv
    have pLt : P < s1.heap.objs.size := Heap.lt_size (I.hok P _ hp)
    refine wpAny_pyIter_str fun o St W hst => q o _ _ St W hst (fun b hb => ?_) fun i u h => h
    have eb := List.mem_singleton.mp hb
    rw [eb]
    exact ⟨Nat.lt_succ_self _, Nat.ne_of_gt pLt⟩
  · obtain ⟨cc, t, hc, rfl⟩ := hu
    have hk' : cenv.scope.kind = .function := by rw [hs]; exact S.kind
    have hl' : cenv.scope.names.lookup x = some .local := by rw [hs]; exact S.loc
    have hG' : cenv.kindOf G = some .globalImplicit := by
      show cenv.scope.names.lookup G = _
      rw [hs]
      exact hGk
    refine wpAny_Compare1 (wpAny_Name (wpAny_loadName_local hk' hl' hn hm2 ?_) hdx)
    refine Calls.Name_function_global hk' hG' (Calls.loadGlobal_global (by rw [hgl]; exact g.glob) hm ?_) hdG
    refine PyProof.Rows.in_str ⟨?_, keeps_self _⟩
    unfold inAt
    rw [hc]
    exact congrArg Value.bool (PySem.StrLaws.found_one zs cc)
end
end Cw

namespace Cw
open PySem PySem.Spec PyProof.Rows L2
open GxR (TabG TabB GenS)
section
variable {P : Program} {w : World} {K : PySem.W.Frag} {mg : Str → Option Value} {base : Heap} {T : List Addr}
/-- a def with a code table that may raise -/
theorem fn_XC {x : Str} {st : Stmt} {N ps : List Str} {k : Nat} {S : Sg} (F : DfC K mg base T x st ps) (c : FnScope N ps (defScope st)) (hn : S.n = ps.length)
    (hbody : ∀ (f cd Pt : Addr) (A : Around) (outer : List Env) (s : Shared) (H : Hp) (vs : List V) (Q : VK) (E : XK) (B : Hp) (as : List Sv), Pt ∈ T → TabB base mg cd Pt → Room k (A.deeper (envOfC x (defScope st) s.heap.objs.size f (.ref cd))) → Go T B H B H → Sl B (L2.start N vs) (as ++ List.replicate (N.length - as.length) .no) →
      ((∃ R, S.Pre B as R ∧ ∀ v H', Rt T B H (R B) v H' → Q v H') ∨ ∃ C, S.Prx B as C ∧ ∀ B' H', Go T B H B' H' → E (.ref C) none H') →
      wss (cxOf (L2N.CX P w) P w K mg base N x (defScope st) f (.ref cd) A outer s H E) (defBody st) { nx := fun _ H' => Q .non H', rt := Q } (start N vs) H) : FnS P w K mg base T x (k + 1) S := by
  obtain ⟨f, cd, Pt, oc, od, kV, doc, pm, an, ct, osl, lk, hcd, hm, kp, bd, hP, TB⟩ := F.ex
  refine ⟨f, _, ps, ?_, hm, kp, bd⟩
  refine fn_of lk hcd c (fun vs H Q E h => by rw [h.1]; exact hn) fun A outer s H vs Q E hr ⟨h1, B, w1, h2⟩ => ⟨_, pwss, ?_⟩
  rcases h2 with ⟨R, ⟨as, Pr, h1, h2, rfl⟩, q⟩ | ⟨C, ⟨as, h1, h2⟩, q⟩
  · exact hbody f cd Pt A outer s H vs Q E B as hP TB hr (Go.rfl w1) h2.start (.inl ⟨Pr, h1, fun v H' ⟨B', g, r⟩ => q v B' H' g r⟩)
  · exact hbody f cd Pt A outer s H vs Q E B as hP TB hr (Go.rfl w1) h2.start (.inr ⟨C, h1, q⟩)
end
/-! ## texts that show rows, as plain functions -/
theorem str_len (z : Str) : z.length = z.cps.toList.length := by
  rw [Array.length_toList]
  rfl
theorem str_ext {a b : Str} (h : a.cps.toList = b.cps.toList) : a = b := by
  cases a
  cases b
  exact congrArg Str.mk (Array.toList_inj.mp h)
theorem app_list (a b : Str) : (a ++ b).cps.toList = a.cps.toList ++ b.cps.toList := Array.toList_append ..
theorem join_is (sep : Str) (l : List Str) : Txt.join sep l = Str.join sep l := StrLaws.glued_eq_join sep l
theorem join_more (sep x : Str) : ∀ l : List Str, l ≠ [] → Str.join sep (l ++ [x]) = Str.join sep l ++ (sep ++ x)
  | [], h => absurd rfl h
  | [y], _ => by
    show y ++ sep ++ x = y ++ (sep ++ x)
    refine str_ext ?_
    rw [app_list, app_list, app_list, app_list, List.append_assoc]
  | y :: z :: r, _ => by
    have ih := join_more sep x (z :: r) (fun h => nomatch h)
    show y ++ sep ++ Str.join sep ((z :: r) ++ [x]) = y ++ sep ++ Str.join sep (z :: r) ++ (sep ++ x)
    rw [ih]
    refine str_ext ?_
    simp only [app_list, List.append_assoc]
/-- the text of one sign -/
def s1 (c : Nat) : Str := ⟨#[c]⟩
theorem join_ones : ∀ cs : List Nat, Str.join Str.empty (cs.map s1) = ⟨cs.toArray⟩
  | [] => rfl
  | [c] => rfl
  | c :: d :: r => by
    have ih := join_ones (d :: r)
    show s1 c ++ Str.empty ++ Str.join Str.empty ((d :: r).map s1) = _
    rw [ih]
    refine str_ext ?_
    rw [app_list, app_list]
    simp [s1, Str.empty]
def sgC (i : Int) : Nat := if i = 1 then 35 else 46
/-- a row's text, a cloth's text -/
def rowT (r : List Int) : Str := ⟨(r.map sgC).toArray⟩
def textT (g : List (List Int)) : Str := Str.join ⟨#[10]⟩ (g.map rowT)
theorem rowT_len (r : List Int) : (rowT r).length = r.length := by
  rw [str_len]
  show (r.map sgC).toArray.toList.length = _
  simp
theorem row_join (r : List Int) : Txt.join Str.empty (r.map fun i => s1 (sgC i)) = rowT r := by
  rw [join_is]
  have := join_ones (r.map sgC)
  rw [List.map_map] at this
  exact this
/-- what a text's lines tell -/
def unC (c : Nat) : Int := if c = 35 then 1 else 0
def linesT (z : Str) : List Str := Txt.split z ⟨#[10]⟩
def parseT (z : Str) : List (List Int) := (linesT z).map fun l => l.cps.toList.map unC
def lineOk (l : Str) : Bool := l.cps.toList.all fun c => decide (c = 46) || decide (c = 35)
def widthT (z : Str) : Nat := ((linesT z).getD 0 Str.empty).length
def textOk (z : Str) : Bool := (decide ((linesT z).length ≤ 12) && (decide (1 ≤ widthT z) && decide (widthT z ≤ 12))) && (linesT z).all fun l => decide (l.length = widthT z) && lineOk l
theorem linesT_pos (z : Str) : 1 ≤ (linesT z).length := split_pos z _
theorem linesT_le (z : Str) : (linesT z).length ≤ z.length + 2 := split_le z _
theorem line_le {z l : Str} (h : l ∈ linesT z) : l.length ≤ z.length := part_short h
theorem line_back {l : Str} (h : lineOk l = true) : rowT (l.cps.toList.map unC) = l := by
  refine str_ext ?_
  show ((l.cps.toList.map unC).map sgC).toArray.toList = _
  rw [List.map_map]
  conv => rhs; rw [← List.map_id l.cps.toList]
  show List.map _ _ = _
  refine List.map_congr_left fun c hc => ?_
  have := List.all_eq_true.mp h c hc
  rcases Bool.or_eq_true_iff.mp this with e | e
  · have e := of_decide_eq_true e
    subst e
    rfl
  · have e := of_decide_eq_true e
    subst e
    rfl
theorem text_back {z : Str} (h : textOk z = true) : textT (parseT z) = z := by
  have h2 := (Bool.and_eq_true_iff.mp h).2
  unfold textT parseT
  rw [List.map_map]
  have e : (linesT z).map (rowT ∘ fun l => l.cps.toList.map unC) = linesT z := by
    conv => rhs; rw [← List.map_id (linesT z)]
    refine List.map_congr_left fun l hl => line_back (Bool.and_eq_true_iff.mp (List.all_eq_true.mp h2 l hl)).2
  rw [e]
  exact StrLaws.join_split z _
theorem parse_is {z : Str} (h : textOk z = true) : Cz.IsCloth (parseT z) (widthT z) := by
  obtain ⟨h1, h2⟩ := Bool.and_eq_true_iff.mp h
  obtain ⟨a, b⟩ := Bool.and_eq_true_iff.mp h1
  obtain ⟨b, c⟩ := Bool.and_eq_true_iff.mp b
  refine ⟨?_, ⟨of_decide_eq_true b, of_decide_eq_true c⟩, fun r hr => ?_, fun r hr x hx => ?_⟩
  · unfold parseT
    rw [List.length_map]
    exact ⟨linesT_pos z, of_decide_eq_true a⟩
  · obtain ⟨l, hl, rfl⟩ := List.mem_map.mp hr
    rw [List.length_map, ← str_len]
    exact of_decide_eq_true (Bool.and_eq_true_iff.mp (List.all_eq_true.mp h2 l hl)).1
  · obtain ⟨l, _, rfl⟩ := List.mem_map.mp hr
    obtain ⟨c, _, rfl⟩ := List.mem_map.mp hx
    unfold unC
    split
    · exact .inr rfl
    · exact .inl rfl
/-- the text of the first n rows -/
theorem text_more {g : List (List Int)} {m n : Nat} (c : Cz.IsCloth g m) (h : n < g.length) : textT (g.take (n + 1)) = textT (g.take n) ++ (if n = 0 then Str.empty else ⟨#[10]⟩) ++ rowT g[n] := by
  unfold textT
  rw [List.take_add_one, List.getElem?_eq_getElem h, List.map_append]
  show Str.join _ (_ ++ [rowT g[n]]) = _
  by_cases e : n = 0
  · subst e
    refine str_ext ?_
    simp [app_list, Str.join, Str.empty]
  · rw [join_more _ _ _ (by
      intro z
      have := congrArg List.length z
      rw [List.length_map, List.length_take] at this
      have : ([] : List Str).length = 0 := rfl
      omega), if_neg e]
    refine str_ext ?_
    rw [app_list, app_list, app_list, app_list, List.append_assoc]
theorem text_len {g : List (List Int)} {m : Nat} (c : Cz.IsCloth g m) (n : Nat) : (textT (g.take n)).length ≤ 13 * n := by
  induction n with
  | zero => exact Nat.le_refl _
  | succ n ih =>
    by_cases h : n < g.length
    · rw [text_more c h]
      have w := c.warps
      have l1 : (rowT g[n]).length ≤ 12 := by rw [rowT_len, c.len _ (List.getElem_mem h)]; exact w.2
      have l2 : (if n = 0 then Str.empty else (⟨#[10]⟩ : Str)).length ≤ 1 := by split <;> decide
      rw [Str.length_append, Str.length_append]
      omega
    · rw [List.take_of_length_le (by omega)]
      rw [List.take_of_length_le (by omega)] at ih
      omega
theorem text_ne {g : List (List Int)} {m n : Nat} (c : Cz.IsCloth g m) (h : n ≤ g.length) : textT (g.take n) = Str.empty ↔ n = 0 := by
  refine ⟨fun e => ?_, fun e => by subst e; rfl⟩
  by_cases z : n = 0
  · exact z
  · obtain ⟨k, rfl⟩ : ∃ k, n = k + 1 := ⟨n - 1, by omega⟩
    have l := congrArg Str.length e
    rw [text_more c (by omega), Str.length_append, rowT_len, c.len _ (List.getElem_mem _)] at l
    have w := c.warps
    have : Str.empty.length = 0 := rfl
    omega
end Cw

namespace Cw
open PySem PySem.Spec PyProof.Rows L2
open GxR (TabG TabB GenS)
/-! ## all(.. for x in range(a, b)), the element quiet, it may read names of the def around -/
section
variable {X : Cx} {pins : List (Addr × Obj)} {σ : L2.St} {H : Hp} {s : Shared}
theorem gen_run {c P : Addr} {elt iter : Expr} {x : Str} {px gpos : Pos} {scope : Scope} {n : Nat} {pb : Nat → Bool} {k : Nat} {Q' : Value → Shared → Prop} {Rw : Hp → Prop}
    (hr : Room k X.A) (TB : TabB X.base X.mg c P) (hcode : X.env.code = .ref c) (S : GenS X.env scope x)
    (hrun : wpAny (model X.prog X.w) X.A (eval iter X.env) (fun xv s1 => ∃ H1, Inv X pins σ H1 s1 ∧ TabG H1 P ∧ Rw H1 ∧ ∀ ps, H1 P = some (.tbl ps) → ∃ IT, IterAt X P n IT s1 xv ∧ EltQ X scope x elt P s1 IT pb) X.xe s)
    (hs : ∀ v, genFold iter X.env v = pure v) (hQ : ∀ H1 g s5, Rw H1 → RdyQ X pins σ H1 P n pb g s5 → Q' (.ref g) s5) :
    wpAny (model X.prog X.w) X.A (eval (.GeneratorExp elt [⟨.Name x px, iter, [], 0⟩] scope gpos) X.env) Q' X.xe s := by
  refine wpAny_GeneratorExp_walksQD hr.hd S.co (closure_ok S.free) S.cell S.dot S.loc S.kind (by have := hr.dp; omega) ?_ hs
  refine thn hrun fun xv s1 hx1 => ?_
  obtain ⟨H1, I1, ⟨ps, hP, ht⟩, q1, hit⟩ := hx1
  obtain ⟨IT, it1, el1⟩ := hit ps hP
  refine it1 _ _ fun o fp Pf St W hst hfp hIT => ?_
  have pAt : s1.heap.get? P = some { cls := .none, data := .fields ps } := I1.hok P _ hP
  have pLt : P < s1.heap.objs.size := Heap.lt_size pAt
  have pAt2 : (s1.heap.push o).get? P = some { cls := .none, data := .fields ps } := Heap.get?_push_of_some _ pAt
  have code0 : PySem.W.CodeHd (s1.heap.push o) c P := TB.code.keeps fun b u e => Heap.get?_push_of_some _ (I1.bk b u e)
  have limo : (s1.heap.push o).NoLimit := I1.nolimit.push o
  have szo : (s1.heap.push o).objs.size = s1.heap.objs.size + 1 := Heap.size_push ..
  have baseP : ∀ b u, X.base.get? b = some u → b ≠ P := fun b u e z => by
    have q := (I1.bs b u e).2
    rw [z, hP] at q
    cases q
  have statP : cStatics ≠ P ∧ cStatics < s1.heap.objs.size := by
    obtain ⟨_, hns, _⟩ := I1.nolimit
    refine ⟨fun e => ?_, hns.lt⟩
    obtain ⟨o', es, ep, ho, hd, _⟩ := hns
    rw [e, pAt] at ho
    cases ho
    cases hd
  -- behind the code object, found or made
  have rest : ∀ (code : Value) (h3 : Heap) (tk : Nat) (qs : Array Value), Heap.ExtBut P (s1.heap.push o) h3 → s1.heap.objs.size + 1 ≤ h3.objs.size → h3.get? P = some { cls := .none, data := .fields qs } → (∃ more, qs = ps ++ more) → TriplesOk qs.toList →
      wpAny (model X.prog X.w) X.A (builtinsFor X.env.globals X.env.builtins) (fun bi s₄ =>
        ∃ Ia fpa wr n₀ Pg S₀ pz F, Value.ref s1.heap.objs.size = .ref Ia ∧ (∀ A' : Around, A'.handled = none → Walks X.prog X.w A' Ia fpa wr n₀ Pg S₀) ∧ S₀ 0 s₄.heap ∧ (∀ b ∈ fpa, b < s₄.heap.objs.size) ∧ s₄.heap.NoLimit ∧ cStatics ∉ wr ∧
          (∀ hz : Heap, (∀ b o, s₄.heap.get? b = some o → hz.get? b = some o) →
            QuietGenD X.prog X.w (genEnv scope (cloFrom X.env.cells scope.names []) s₄.heap.objs.size code bi X.env) x [] elt (List.range s₄.heap.objs.size) wr Pg pz F hz (X.A.depth + 1) (X.A.units + 8)) ∧
          (∀ a h₅ tk gs, gs.bare = true → s₄.heap.objs.size < a → h₅.objs.size = a + 1 → (∀ b o, s₄.heap.get? b = some o → h₅.get? b = some o) →
            WalksS X.prog X.w X.A.in4 a (a :: s₄.heap.objs.size :: List.range s₄.heap.objs.size) (s₄.heap.objs.size :: wr) (GenOnlyQ s₄.gens.size) (passing pz n₀ 0).length
              (fun j y => ∃ i, (passing pz n₀ 0)[j]? = some i ∧ F i y) (GenAt X.prog X.w X.A.in4 a s₄.gens.size s₄.heap.objs.size (List.range s₄.heap.objs.size) wr pz n₀ F) →
            GenAt X.prog X.w X.A.in4 a s₄.gens.size s₄.heap.objs.size (List.range s₄.heap.objs.size) wr pz n₀ F 0 { s₄ with gens := s₄.gens.push gs, toks := tk, heap := h₅ } →
            Q' (.ref a) { s₄ with gens := s₄.gens.push gs, toks := tk, heap := h₅ })) X.xe { s1 with heap := h3, toks := tk } := by
    intro code h3 tk qs hx3 hsz pAt3 hmore ht3
    obtain ⟨bm, ob, e1, e2, e3, e4, e5, e6, e7, e8⟩ := TB.bm
    have up3 : ∀ b u, b ≠ P → s1.heap.get? b = some u → h3.get? b = some u := fun b u hb e => hx3 b u hb (Heap.get?_push_of_some _ e)
    refine wpAny_builtinsFor (m := X.mg) (by rw [I1.ok.glob]; exact ((I1.mod.glob.keeps I1.bk).push o).extBut hx3 TB.gP) e1 e2 (up3 _ _ e4 (I1.bk _ _ e5)) e6 e7 e8 ?_
    refine ⟨s1.heap.objs.size, fp, [s1.heap.objs.size], n, Pf, St, (fun _ => true), (fun i y => y = .bool (pb i)), rfl, W, (W X.A hr.hd).frame _ _ _ hst fun b hb u e => hx3 b u (hfp b hb).2 e, fun b hb => Nat.lt_of_lt_of_le (hfp b hb).1 hsz, limo.extBut hx3 statP.1, ?_, ?_, ?_⟩
    · intro z
      have z2 : cStatics = s1.heap.objs.size := by simpa using z
      exact Nat.ne_of_lt statP.2 z2
    · intro hz hhz
      refine ⟨fun A' E' i v s₂ m₂ _ _ _ _ _ _ _ => ?_, fun A' E' i v s₂ m₂ hA hD hU hPv hp hn hm hk => ?_⟩
      · simp only [List.forIn_nil]
        exact wpAny_pure ⟨rfl, keeps_self _⟩
      · have stay : ∀ b u, b ≠ P → s1.heap.get? b = some u → s₂.heap.get? b = some u := fun b u nb e => by
          have l1 := Heap.lt_size e
          have l3 : s1.heap.objs.size + 1 ≤ h3.objs.size := hsz
          refine hk b (List.mem_range.mpr (Nat.lt_of_lt_of_le (Nat.lt_succ_of_lt l1) l3)) (fun z => ?_) u (hhz b u (up3 b u nb e))
          have z2 : b = s1.heap.objs.size := by simpa using z
          rw [z2] at l1
          exact absurd l1 (Nat.lt_irrefl _)
        have stayB : ∀ b u, X.base.get? b = some u → s₂.heap.get? b = some u := fun b u e => stay b u (baseP b u e) (I1.bk b u e)
        have gr : Gr X.K X.mg s₂.heap := ⟨I1.mod.kin.keeps stayB, I1.mod.glob.keeps stayB, let ⟨mb, y1, y2⟩ := I1.mod.blt; ⟨mb, y1.keeps stayB, y2⟩, I1.mod.nolimit.keeps stayB⟩
        exact el1 _ A' E' i v s₂ m₂ rfl I1.ok.glob rfl rfl hA hD hU (hIT i v hPv) gr stay hn hm
    · intro g h5 tk5 gs hgb hag hsz5 hk5 W5 hgat
      simp only [GxR.passing_true, List.length_range] at W5
      refine hQ H1 g _ q1 ⟨_, _, _, _, _, W5.in4_1, hgat, fun j v hv => ?_, fun s' hm => ?_⟩
      · obtain ⟨i, hij, e⟩ := hv
        obtain ⟨hj, ej⟩ := List.getElem?_eq_some_iff.mp hij
        rw [List.getElem_range] at ej
        subst ej
        exact e
      · obtain ⟨more, em⟩ := hmore
        have nwr : ∀ b u, s1.heap.get? b = some u → b ∉ h3.objs.size :: [s1.heap.objs.size] := fun b u e hb => by
          have hl := Heap.lt_size e
          have l3 : s1.heap.objs.size + 1 ≤ h3.objs.size := hsz
          rcases (show b = h3.objs.size ∨ b = s1.heap.objs.size by simpa using hb) with z | z
          · rw [z] at hl
            exact Nat.lt_irrefl _ (Nat.lt_of_lt_of_le hl (Nat.le_of_succ_le l3))
          · rw [z] at hl
            exact Nat.lt_irrefl _ hl
        have J := GxR.inv_tab (more := more) (h' := s'.heap) (g' := s'.gens) (d' := s'.drawn) (t' := s'.toks) I1 hP (fun b u hb e => hm.heap b u (nwr b u e) (hk5 b u (up3 b u hb e)))
          (by rw [← em]; exact hm.heap P _ (nwr P _ pAt) (hk5 P _ pAt3)) (AllBare.movedS (I1.bare.push hgb) hm)
        rw [GxR.sh_eta s1 s' hm.os] at J
        exact ⟨upd H1 P (.tbl (ps ++ more)), ⟨⟨ps ++ more, upd_same, by rw [← em]; exact ht3⟩, fun b hb => upd_ne hb⟩, J⟩
  refine ⟨limo, ?_⟩
  cases hf : codeAmong gpos ps.toList with
  | none =>
    refine wpAny_genexprCodeX hcode (code0.code pAt2 ht) (code0.tab pAt2) hf fun c' h' tk hx hge hlt hco' _ htab' _ => ?_
    obtain ⟨o1, vs, f1, tf, fl, tg, inF, tx, tt, op, _, _, _, _, _, _, _, _, _, htr, _⟩ := hco'
    exact rest _ h' tk _ hx (by rw [← szo]; exact Nat.le_trans hge (Nat.le_of_lt hlt)) htab'.2 ⟨_, rfl⟩ htr
  | some cv =>
    refine wpAny_genexprCode_hit hcode (code0.code pAt2 ht) hf ?_
    exact rest cv (s1.heap.push o) s1.toks ps (Heap.ExtBut.refl _ _) (by rw [szo]; exact Nat.le_refl _) pAt2 ⟨#[], by simp⟩ ht
theorem rg_fits {x : Int} (h : -4611686018427387904 ≤ x) (h2 : x < 4611686018427387905) : Builtin.Range.rangeFitsLong x = true := by
  unfold Builtin.Range.rangeFitsLong
  simp only [Bool.and_eq_true, decide_eq_true_eq]
  omega
theorem rg_size {i j : Int} : Builtin.Range.rangeSize i j 1 = ((j - i).toNat : Int) := by
  unfold Builtin.Range.rangeSize
  by_cases c : i < j
  · rw [if_pos (by decide), if_pos c, Int.ediv_one]
    omega
  · rw [if_pos (by decide), if_neg c]
    omega
theorem rg_small {i j : Int} (ok : RgOk i j) : Builtin.Range.small i j 1 = true := by
  obtain ⟨h1, h2, h3, h4, h5⟩ := ok
  unfold Builtin.Range.small
  rw [rg_size]
  simp only [Bool.and_eq_true, Bool.or_eq_true]
  refine ⟨⟨⟨⟨rg_fits (by omega) (by omega), rg_fits (by omega) (by omega)⟩, rg_fits (by omega) (by omega)⟩, rg_fits (by omega) (by omega)⟩, .inr ?_⟩
  rw [if_pos (by decide)]
  exact rg_fits (by omega) (by omega)
theorem walk_lt {P : Program} {w : World} {A : Around} {I : Addr} {fp wr : List Addr} {n : Nat} {Pf : Nat → Value → Prop} {St : Nat → Heap → Prop} (W : Walks P w A I fp wr n Pf St) : Walks P w A I fp wr n (fun i v => Pf i v ∧ i < n) St :=
  ⟨W.sub, W.frame, fun i s Q E hi st q => W.item i s Q E hi st fun v h' tk hp hs hf => q v h' tk ⟨hp, hi⟩ hs hf, W.done, W.self⟩
theorem iter_rg {P r : Addr} {i j : Int} {t u v : Tok} {xs : Array Value} {cl : Value} (hr : IsRange s.heap r i j 1 t u v) (ok : RgOk i j) (hP : P < s.heap.objs.size) : IterAt X P (j - i).toNat (fun k u => ∃ t, u = Value.int (i + (k : Int)) t ∧ k < (j - i).toNat) s (.ref r) := by
  intro E R q
  refine wpAny_pyIter_range hr (rg_small ok) (q _ [s.heap.objs.size] _ _ (fun A' h => walk_lt (Walks.range h s.heap.objs.size i 1 (j - i).toNat)) ?_ (fun b hb => ?_) fun k u ⟨⟨t, e⟩, hk⟩ => ⟨t, by rw [e, Int.mul_one], hk⟩)
  · show Heap.get? _ _ = _
    rw [Heap.get?_push_size _ rfl, rg_size]
    simp
  · have eb := List.mem_singleton.mp hb
    rw [eb]
    exact ⟨Nat.lt_succ_self _, Nat.ne_of_gt hP⟩
/-- .. over a base -/
theorem ed_allRg {T : List Addr} {B : Hp} {c P : Addr} {elt a b : Expr} {x : Str} {px p p2 p3 pos gpos : Pos} {scope : Scope} {i j : Int} {pb : Nat → Bool} {k : Nat}
    (hr : Room k X.A) (bi : Bi X.mg) (hP : P ∈ T) (TB : TabB X.base X.mg c P) (hcode : X.env.code = .ref c) (S : GenS X.env scope x) (ha : ED T X a σ B (.int i)) (hb : ED T X b σ B (.int j)) (ok : RgOk i j)
    (hit : ∀ pins s1 H1 ps, Inv X pins σ H1 s1 → Ex B H1 → H1 P = some (.tbl ps) → EltQ X scope x elt P s1 (fun k u => ∃ t, u = Value.int (i + (k : Int)) t ∧ k < (j - i).toNat) pb)
    (hg : Gl X "all" := by rfl) (hg2 : Gl X "range" := by rfl) (hs : ∀ v, genFold (.Call (.Name "range" p2) [a, b] [] p3) X.env v = pure v := by intro _; rfl)
    (n1 : starEach [a, b] X.env = (false, eval a X.env) :: starEach [b] X.env := by rfl) (n2 : starEach [b] X.env = (false, eval b X.env) :: starEach [] X.env := by rfl) (n3 : (backTo p3 (starEach [b] X.env)).any (·.1) = false := by rfl)
    (he : starEach [.GeneratorExp elt [⟨.Name x px, (.Call (.Name "range" p2) [a, b] [] p3), [], 0⟩] scope gpos] X.env = (false, eval (.GeneratorExp elt [⟨.Name x px, (.Call (.Name "range" p2) [a, b] [] p3), [], 0⟩] scope gpos) X.env) :: starEach [] X.env := by rfl) :
    ED T X (.Call (.Name "all" p) [.GeneratorExp elt [⟨.Name x px, (.Call (.Name "range" p2) [a, b] [] p3), [], 0⟩] scope gpos] [] pos) σ B (.bool ((List.range (j - i).toNat).all pb)) := fun H w Q q => by
  have hpe : PE X (.Call (.Name "all" p) [.GeneratorExp elt [⟨.Name x px, (.Call (.Name "range" p2) [a, b] [] p3), [], 0⟩] scope gpos] [] pos) (fun σ' H' Q' => σ' = σ ∧ tRg2 (we X a) (we X b) σ' H' fun i' j' H1 => i' = i ∧ j' = j ∧ Ex B H1 ∧ TabG H1 P ∧ ∀ H2, GxR.Tabbed P H1 H2 → Q' (.bl ((List.range (j - i).toNat).all pb)) H2) := by
    refine ⟨fun pins s σ' H' Q' I ⟨es, h⟩ => wpAny_Call_Name_kw (ld_blt I hg bi.all PyProof.Rows.boot_all (PyProof.Rows.callWith_builtin1 ?_ he (by rfl)))⟩
    subst es
    rw [he]
    show wpAny _ _ (spliced ((false, eval (.GeneratorExp elt [⟨.Name x px, (.Call (.Name "range" p2) [a, b] [] p3), [], 0⟩] scope gpos) X.env) :: backTo pos (starEach [] X.env))) _ _ s
    refine Calls.spliced_cons (gen_run (pins := pins) (σ := σ') (P := P) (n := (j - i).toNat) (pb := pb) (Rw := fun H1 => ∀ H2, GxR.Tabbed P H1 H2 → Q' (.bl ((List.range (j - i).toNat).all pb)) H2) hr TB hcode S (thn (prg_2 hg2 bi.range pwe pwe n1 n2 n3 pins s σ' H' _ I h) fun xv s1 ⟨r, i', j', t, u, v, H1, e1, e2, I1, e3, e4, e5, e6, e7⟩ => ?_) hs fun H1 g s5 hR hG => ?_)
    · subst e1 e3 e4
      exact ⟨H1, I1, e6, e7, fun ps hp => ⟨_, iter_rg (xs := #[]) (cl := .none) e2 ok (Heap.lt_size (I1.hok P _ hp)), hit pins s1 H1 ps I1 e5 hp⟩⟩
    · obtain ⟨fp, wr, G, F, Sx, W, hst, hF, hI⟩ := hG
      have htr : TruthOf X.prog X.w X.A.in1 F pb := fun j y sj Qj Ej hy hQj => by
        rw [hF j y hy]
        exact wpAny_truthy_bool hQj
      refine Calls.spliced_nil (call_all_walkS (W.self 0 _ _ _ hst ⟨g, fp, wr, G, _, F, Sx, _, rfl, W, hst, htr, fun s' hmv => ?_⟩))
      obtain ⟨H2, hT, J⟩ := hI s' hmv
      exact ⟨.bl _, H2, J, rfl, hR H2 hT⟩
  refine we_of hpe ⟨rfl, ha H w _ fun v B1 H1 g1 r1 => (hb.mono g1.eb) H1 g1.wd _ fun u B2 H2 g2 r2 => ?_⟩
  have g3 := g1.trans g2
  refine ⟨i, j, r1.toInt, r2.toInt, rfl, rfl, w.ex.trans g3.eh, g3.wd.gd P hP, fun H3 t => ?_⟩
  obtain ⟨ps, hp, _⟩ := g3.wd.gd P hP
  obtain ⟨⟨qs, hq, okq⟩, rest⟩ := t
  refine q _ B2 H3 (g3.trans ⟨⟨fun a o e => ?_, fun P' hP' => ?_⟩, Ex.rfl, fun a o e => ?_, fun a z z' => absurd z z'⟩) (.bl _)
  · by_cases ca : a = P
    · subst ca
      rcases g3.wd.ex a o e with e | ⟨p1, p2, rfl, e⟩
      · rw [hp] at e
        cases e
        exact .inr ⟨_, _, rfl, hq⟩
      · exact .inr ⟨_, _, rfl, hq⟩
    · rw [rest a ca]
      exact g3.wd.ex a o e
  · by_cases ca : P' = P
    · subst ca
      exact ⟨qs, hq, okq⟩
    · obtain ⟨p1, e1, o1⟩ := g3.wd.gd P' hP'
      exact ⟨p1, by rw [rest P' ca]; exact e1, o1⟩
  · by_cases ca : a = P
    · subst ca
      rw [hp] at e
      cases e
      exact .inr ⟨_, _, rfl, hq⟩
    · rw [rest a ca]
      exact .inl e
theorem free_ints {B H1 : Hp} {s1 : Shared} {P : Addr} {x : Str} {i : Nat} {l : List Int} {v : V} {ps : Array Value} (I : Inv X pins σ H1 s1) (hx : Ex B H1) (hN : X.N[i]? = some x) (hv : σ[i]? = some (some v)) (d : Dt B v (.list (l.map .int))) (hk : X.env.scope.names.lookup x = some .cell) (hP : H1 P = some (.tbl ps)) :
    ∃ c a its, X.env.cells.lookup x = some c ∧ (∀ h2 : Heap, (∀ b o, b ≠ P → s1.heap.get? b = some o → h2.get? b = some o) → h2.IsCell c (some (.ref a)) ∧ h2.IsList a its) ∧ ∀ k : Nat, k < l.length → ∃ t, its[k]? = some (Value.int (l.getD k 0) t) := by
  obtain ⟨m, hm, hl⟩ := I.loc
  obtain ⟨u, ru, look⟩ := hl i x v hN hv (.inr (.inl hk))
  obtain ⟨a, xs, rfl, ha, hr⟩ := d.toList
  cases ru
  have pAt := I.hok P _ hP
  rcases look with ⟨z, _⟩ | ⟨_, c, hc, o, ho, hd⟩
  · have z2 : X.env.scope.names.lookup x = some .local := z
    rw [hk] at z2
    cases z2
  · obtain ⟨its, r, ht, _⟩ := I.list (.inl (.inl (hx.lst ha)))
    obtain ⟨oL, hL, hL2⟩ := ht.isList
    refine ⟨c, a, its.toArray, hc, fun h2 st => ⟨⟨o, st c o (fun z => ?_) ho, hd⟩, ⟨oL, st a oL (fun z => ?_) hL, hL2⟩⟩, fun k hk => ?_⟩
    · subst z
      have e : s1.heap.get? c = some { cls := .none, data := .fields ps } := pAt
      rw [ho] at e
      cases e
      cases hd
    · subst z
      have e := hx.lst ha
      rw [hP] at e
      cases e
    · obtain ⟨y, hy, dy⟩ := hr.get (i := k) (d := .int (l.getD k 0)) (by rw [List.getElem?_map, List.getD_eq_getElem?_getD, List.getElem?_eq_getElem hk]; rfl)
      obtain ⟨u, hu, ru⟩ := r.get hy
      cases dy
      obtain ⟨t, rfl⟩ := ru
      exact ⟨t, by rw [List.getElem?_toArray]; exact hu⟩
/-- x[at - 1] < x[at], x a list of ints of the def around -/
theorem el_rise {P : Addr} {scope : Scope} {s1 : Shared} {B H1 : Hp} {x y : Str} {i : Nat} {l : List Int} {v : V} {ps : Array Value} {p1 p2 p3 p4 p5 p6 p7 p8 p9 : Pos} {j : Nat} (I : Inv X pins σ H1 s1) (hx : Ex B H1) (hN : X.N[i]? = some x) (hv : σ[i]? = some (some v)) (d : Dt B v (.list (l.map .int))) (hk : X.env.scope.names.lookup x = some .cell) (hP : H1 P = some (.tbl ps))
    (hsk : scope.kind = .function) (hf : scope.names.lookup x = some .free) (hl : scope.names.lookup y = some .local) (hclo : ∀ c, X.env.cells.lookup x = some c → (cloFrom X.env.cells scope.names []).lookup x = some c) (hlen : l.length < 2 ^ 60)
    (hdx : (x == ("__debug__" : Str)) = false := by decide) (hdy : (y == ("__debug__" : Str)) = false := by decide) (hcx : (x == ("__classdict__" : Str)) = false := by decide) :
    EltQ X scope y (.Compare (.Subscript (.Name x p1) (.BinOp (.Name y p2) .Sub (.Constant (.int 1) j p3) p4) p5) [.Lt] [.Subscript (.Name x p6) (.Name y p7) p8] p9) P s1 (fun k u => ∃ t, u = Value.int (1 + (k : Int)) t ∧ k < ((l.length : Int) - 1).toNat) (fun k => decide (l.getD k 0 < l.getD (k + 1) 0)) := by
  intro cenv A' E' k u s2 m2 hs hgl hb hcl hA hD hU hu gr stay hn hm2
  obtain ⟨t, rfl, hk2⟩ := hu
  obtain ⟨c, a, its, hc, hh, hi⟩ := free_ints I hx hN hv d hk hP
  obtain ⟨hcell, hlist⟩ := hh s2.heap stay
  have hk' : cenv.scope.kind = .function := by rw [hs]; exact hsk
  have hf' : cenv.kindOf x = some .free := by
    show cenv.scope.names.lookup x = _
    rw [hs]; exact hf
  have hl' : cenv.kindOf y = some .local := by
    show cenv.scope.names.lookup y = _
    rw [hs]; exact hl
  have hc' : cenv.cells.lookup x = some c := by rw [hcl]; exact hclo c hc
  obtain ⟨t1, e1⟩ := hi k (by omega)
  obtain ⟨t2, e2⟩ := hi (k + 1) (by omega)
  refine wpAny_Compare1 (wpAny_Subscript_BinOp_late (wpAny_Name (wpAny_loadName_free hk' hf' hc' hcell ?_ hcx) hdx))
  refine wpAny_BinOp (wpAny_Name (wpAny_loadName_local hk' hl' hn hm2 (wpAny_Constant_int (PyProof.Rows.sub_int ?_))) hdy)
  refine ⟨"list", "list.__getitem__", PySem.slot_list_getitem.lookup, Heap.IsList.typeIs hlist, wpAny_getItem_list hlist (by omega) (by omega) (by rw [show (1 + (k : Int) - 1).toNat = k by omega]; exact e1) ?_⟩
  refine wpAny_Subscript_Name_late (wpAny_Name (wpAny_loadName_free hk' hf' hc' hcell ?_ hcx) hdx)
  refine wpAny_Name (wpAny_loadName_local hk' hl' hn hm2 ?_) hdy
  refine ⟨"list", "list.__getitem__", PySem.slot_list_getitem.lookup, Heap.IsList.typeIs hlist, wpAny_getItem_list hlist (by omega) (by omega) (by rw [show (1 + (k : Int)).toNat = k + 1 by omega]; exact e2) (PyProof.Rows.lt_int ⟨rfl, ⟨_, _, rfl, fun b o h => h⟩⟩)⟩
end
end Cw

namespace Cw
open PySem PySem.Spec PyProof.Rows L2
/-! ## dicts of lists of numbers, keys numbers; they stand beside the base, or in it -/
/-- what a dict at a holds, its items in the base -/
def Dic (Bs H B : Hp) (a : Addr) (n : Nat) (f : Int → Option (List Int)) : Prop := ∃ kvs : List (Key × V), H a = some (.dK kvs) ∧ kvs.length ≤ n ∧ ∀ k, match f k with
  | none => valV kvs (.inl k) = none
  | some p => ∃ v, valV kvs (.inl k) = some v ∧ NewD Bs B v (p.map .int)
theorem Dic.mono {Bs H B C : Hp} {a : Addr} {n : Nat} {f : Int → Option (List Int)} (d : Dic Bs H B a n f) (x : Ex B C) : Dic Bs H C a n f := by
  obtain ⟨kvs, h1, h2, h3⟩ := d
  refine ⟨kvs, h1, h2, fun k => ?_⟩
  have := h3 k
  revert this
  cases f k with
  | none => exact fun h => h
  | some p => exact fun ⟨v, h, r⟩ => ⟨v, h, r.mono x⟩
theorem Dic.up {Bs H H' B : Hp} {a : Addr} {n : Nat} {f : Int → Option (List Int)} (d : Dic Bs H B a n f) (x : Ex H H') : Dic Bs H' B a n f := by
  obtain ⟨kvs, h1, h2, h3⟩ := d
  exact ⟨kvs, x.at h1 trivial, h2, h3⟩
theorem Dic.ne {Bs H B : Hp} {a x : Addr} {n : Nat} {f : Int → Option (List Int)} {o : HO} (d : Dic Bs H B a n f) (h : a ≠ x) : Dic Bs (upd H x o) B a n f := by
  obtain ⟨kvs, h1, h2, h3⟩ := d
  exact ⟨kvs, by rw [upd_ne h]; exact h1, h2, h3⟩
theorem Dic.there {Bs H B : Hp} {a : Addr} {n : Nat} {f : Int → Option (List Int)} (d : Dic Bs H B a n f) : H a ≠ none := by
  obtain ⟨kvs, h1, _⟩ := d
  rw [h1]
  exact fun z => nomatch z
theorem Dic.not_lst {Bs H B : Hp} {a x : Addr} {n : Nat} {f : Int → Option (List Int)} {xs : List V} (d : Dic Bs H B a n f) (h : H x = some (.lst xs)) : a ≠ x := fun e => by
  obtain ⟨kvs, h1, _⟩ := d
  rw [e, h] at h1
  cases h1
theorem Dic.get {Bs H B : Hp} {a : Addr} {n : Nat} {f : Int → Option (List Int)} {k : Int} {p : List Int} (d : Dic Bs H B a n f) (h : f k = some p) : ∃ kvs v, H a = some (.dK kvs) ∧ valV kvs (.inl k) = some v ∧ NewD Bs B v (p.map .int) := by
  obtain ⟨kvs, h1, h2, h3⟩ := d
  have := h3 k
  rw [h] at this
  obtain ⟨v, h4, h5⟩ := this
  exact ⟨kvs, v, h1, h4, h5⟩
theorem Dic.has {Bs H B : Hp} {a : Addr} {n : Nat} {f : Int → Option (List Int)} (d : Dic Bs H B a n f) (k : Int) : ∃ kvs, H a = some (.dK kvs) ∧ (valV kvs (.inl k)).isSome = (f k).isSome := by
  obtain ⟨kvs, h1, h2, h3⟩ := d
  refine ⟨kvs, h1, ?_⟩
  have := h3 k
  revert this
  cases f k with
  | none => intro h; exact congrArg Option.isSome h
  | some p => intro ⟨v, h, _⟩; rw [h]; rfl
def putF (f : Int → Option (List Int)) (k : Int) (p : List Int) : Int → Option (List Int) := fun j => if j = k then some p else f j
theorem Dic.put {Bs H B : Hp} {a : Addr} {n : Nat} {f : Int → Option (List Int)} {k : Int} {p : List Int} {kvs : List (Key × V)} {v : V} {H' : Hp} (d : Dic Bs H B a n f) (e : H a = some (.dK kvs)) (r : NewD Bs B v (p.map .int)) (h : H' a = some (.dK (putK kvs (.inl k) v))) : Dic Bs H' B a (n + 1) (putF f k p) := by
  obtain ⟨kvs2, h1, h2, h3⟩ := d
  rw [e] at h1
  cases h1
  refine ⟨_, h, ?_, fun j => ?_⟩
  · have : (putK kvs (.inl k) v).length ≤ kvs.length + 1 := by
      unfold putK
      split
      · rw [List.length_map]; omega
      · rw [List.length_append]; exact Nat.le_refl _
    omega
  · unfold putF
    by_cases c : j = k
    · subst c
      rw [if_pos rfl]
      exact ⟨v, by rw [valV_put, if_pos rfl], r⟩
    · rw [if_neg c]
      have hk : valV (putK kvs (.inl k) v) (.inl j) = valV kvs (.inl j) := by rw [valV_put, if_neg (fun z => c (Sum.inl.inj z))]
      have := h3 j
      revert this
      cases f j with
      | none => intro h; rw [hk]; exact h
      | some p => intro ⟨v, h, r⟩; exact ⟨v, by rw [hk]; exact h, r⟩
section
variable {T : List Addr} {X : Cx} {a b c e o : Expr} {σ : L2.St} {Bs B0 H0 B H : Hp} {pos p1 p2 p3 : Pos} {ss : List Sv} {D : Ends} {rest : List Stmt}
theorem Go.mutA {B' H' : Hp} {A : Addr} {o2 o3 : HO} (g : Go T B0 H0 B' H') (h1 : H0 A = none) (h2 : B' A = none) (h3 : H' A = some o2) (nt : notTbl o2) : Go T B0 H0 B' (upd H' A o3) :=
  ⟨⟨g.wd.ex.mut h2, g.wd.gd.upd fun ps z => by rw [h3] at z; cases z; exact nt⟩, g.eb, g.eh.mut h1, g.fr⟩
/-- x = {k: v} -/
theorem t_dic1 {x : Str} {px : Pos} {k : Int} {p : List Int} (i : Nat) (g : Go T B0 H0 B H) (hs : Sl B σ ss) (hN : X.N.Nodup) (ha : ED T X a σ B (.int k)) (hb : ∀ C, Ex B C → EV T X b σ C fun B' v => NewD C B' v (p.map .int))
    (q : ∀ A σ' B' H', H0 A = none → Go T B0 H0 B' H' → Ex B B' → B' A = none → Dic B H' B' A 1 (putF (fun _ => none) k p) → Sl B' σ' (ss.set i (.val (.ref A))) → wss X rest D σ' H')
    (hi : X.N[i]? = some x := by rfl) (hx : Loc X.env.scope x := by first | exact Or.inl rfl | exact Or.inr rfl)
    (hsw : swapsWith (.Dict [some a] [b] p2) (some (.Name x px)) pos.line X.env = pure false := by rfl) (hf : X.fn x = true ∨ X.env.scope.names.lookup x = some .local := by first | exact .inl rfl | exact .inr rfl | assumption) : wss X (.Assign [.Name x px] (.Dict [some a] [b] p2) pos :: rest) D σ H := by
  refine s_cons (ws_of (ps_set hN hi hx (pe_disp (pps_cons pwe pwe pps_nil) rfl rfl (fun z => nomatch z) (Nat.le_of_ble_eq_true rfl)) hsw hf) ?_)
  intro A hA
  have gA := Go.newH (o := .dK []) g.wd hA
  refine ha _ gA.wd _ fun v1 B1 H1 g1 r1 => (hb _ (gA.trans g1).eb) H1 g1.wd _ fun v2 B2 H2 g2 r2w => ?_
  have g3 := (gA.trans g1).trans g2
  have r2 := r2w.back (gA.trans g1).eb
  have hA2 : H2 A = some (.dK []) := (g1.trans g2).eh.at upd_same trivial
  have hB2 : B2 A = none := (g1.trans g2).out (g.wd.ex.free hA) (by rw [upd_same]; exact fun z => nomatch z)
  have h0 : H0 A = none := by
    cases q0 : H0 A with
    | none => rfl
    | some o => exact absurd hA (g.eh.there (by rw [q0]; exact fun z => nomatch z))
  rw [r1.toInt]
  refine ⟨hA2, [(.inl k, v2)], rfl, Nat.le_of_ble_eq_true rfl, ?_⟩
  have gf := (g.trans g3).mutA (o3 := .dK (mergeK [] [(.inl k, v2)])) h0 hB2 hA2 trivial
  refine q A _ B2 _ h0 gf g3.eb hB2 ⟨_, upd_same, Nat.le_refl 1, fun j => ?_⟩ ((hs.mono g3.eb).set (o := some (.ref A)) (s := .val (.ref A)) rfl i)
  unfold putF
  by_cases c : j = k
  · subst c
    rw [if_pos rfl]
    exact ⟨v2, by show valV (putK [] _ _) _ = _; rw [valV_put, if_pos rfl], r2⟩
  · rw [if_neg c]
    show valV (putK [] _ _) _ = none
    rw [valV_put, if_neg (fun z => c (Sum.inl.inj z))]
    rfl
/-- a while: Pv holds ahead of each turn, m falls -/
theorem t_while {c : Expr} {body : List Stmt} (Pv : Nat → L2.St → Hp → Hp → Prop) (m : Nat) (hp : PassesOwn (model X.prog X.w) X.A X.env X.xe) (h0 : Pv m σ B H)
    (ht : ∀ m σ' B' H', Pv m σ' B' H' → ∃ k, Wd T B' H' ∧ ET T X c σ' B' k ∧ ∀ B2 H2, Go T B' H' B2 H2 →
      (k = true → wss X body { D with nx := fun σ'' H'' => ∃ m' B'', m' < m ∧ Pv m' σ'' B'' H'', ct := fun σ'' H'' => ∃ m' B'', m' < m ∧ Pv m' σ'' B'' H'', bk := fun σ' H' => wss X rest D σ' H' } σ' H2) ∧ (k = false → wss X rest D σ' H2)) :
    wss X (.While c body [] pos :: rest) D σ H := by
  refine s_cons (ws_of (ps_while hp pwt pwss) ⟨fun m σ' H' => ∃ B', Pv m σ' B' H', ⟨m, B, h0⟩, fun m σ' H' ⟨B', hP⟩ => ?_⟩)
  obtain ⟨k, w, hc, hk⟩ := ht m σ' B' H' hP
  refine hc H' w _ fun B2 H2 g => ?_
  obtain ⟨h1, h2⟩ := hk B2 H2 g
  cases k with
  | true =>
    rw [if_pos rfl]
    refine ⟨fun σ'' H'' => ∃ m' B'', m' < m ∧ Pv m' σ'' B'' H'', fun σ'' H'' ⟨m', B'', h, p⟩ => ⟨m', h, B'', p⟩, ?_⟩
    exact h1 rfl
  | false =>
    rw [if_neg (fun z => Bool.noConfusion z)]
    exact h2 rfl
/-- what stands beside the base comes into it -/
theorem Go.settleO {A : Addr} {o : HO} (g : Go T B0 H0 B H) (h0 : H0 A = none) (hB : B A = none) (hH : H A = some o) : Go T B0 H0 (upd B A o) H := by
  refine ⟨⟨fun a u h => ?_, g.wd.gd⟩, g.eb.trans (Ex.new hB), g.eh, fun a ha hb => ?_⟩
  · by_cases c : a = A
    · subst c
      rw [upd_same] at h
      cases h
      exact .inl hH
    · rw [upd_ne c] at h
      exact g.wd.ex a u h
  · by_cases c : a = A
    · rw [c]
      exact h0
    · rw [upd_ne c] at hb
      exact g.fr a ha hb
theorem Dic.into {A : Addr} {n : Nat} {f : Int → Option (List Int)} (d : Dic Bs H B A n f) (g : Go T B0 H0 B H) (h0 : H0 A = none) (hB : B A = none) : ∃ Bb, Go T B0 H0 Bb H ∧ Ex B Bb ∧ Dic Bs Bb Bb A n f ∧ Bb A ≠ none ∧ ∀ x, x ≠ A → Bb x = B x := by
  obtain ⟨kvs, h1, h2, h3⟩ := d
  refine ⟨upd B A (.dK kvs), g.settleO h0 hB h1, Ex.new hB, Dic.mono ⟨kvs, upd_same, h2, h3⟩ (Ex.new hB), by rw [upd_same]; exact (fun z => nomatch z), fun x hx => upd_ne hx⟩
/-- d[k], d in the base -/
theorem ed_dget {A : Addr} {k : Int} {p : List Int} {n : Nat} {f : Int → Option (List Int)} (hu : X.A.units + 1 < cLine) (d : Dic Bs B B A n f) (ha : EV T X a σ B fun _ v => v = .ref A) (hb : ED T X b σ B (.int k)) (h : f k = some p) (hs : NoSl b := by exact fun _ _ => rfl) : ED T X (.Subscript a b pos) σ B (encR p) := fun H w Q q => by
  obtain ⟨kvs, v, h1, h2, h3⟩ := d.get h
  refine we_of (pe_dget hu pwe pwe hs) (ha H w _ fun x B1 H1 g1 r1 => (hb.mono g1.eb) H1 g1.wd _ fun y B2 H2 g2 r2 => ?_)
  subst r1
  rw [r2.toInt]
  have g3 := g1.trans g2
  refine ⟨A, v, rfl, ?_, q v B2 H2 g3 (h3.mono g3.eb).dt⟩
  have := DGet.k (k := .inl k) (g3.wd.ex.at (g3.eb.at h1 trivial) trivial)
  rw [h2] at this
  exact this
/-- k in d, k not in d -/
theorem et_din {A : Addr} {k : Int} {n : Nat} {f : Int → Option (List Int)} (hu : X.A.units + 1 < cLine) (d : Dic Bs B B A n f) (ha : ED T X a σ B (.int k)) (hb : EV T X b σ B fun _ v => v = .ref A) (hm : behindInMarks .In b = false := by rfl) : ET T X (.Compare a [.In] [b] pos) σ B (f k).isSome := fun H w Q q => by
  obtain ⟨kvs, h1, h2⟩ := d.has k
  refine wt_of (pt_cmp (pc_din hu pwe pwe) hm) (ha H w _ fun x B1 H1 g1 r1 => (hb.mono mono_c g1.eb) H1 g1.wd _ fun y B2 H2 g2 r2 => ?_)
  subst r2
  rw [r1.toInt]
  have g3 := g1.trans g2
  exact ⟨A, _, rfl, DGet.k (k := .inl k) (g3.wd.ex.at (g3.eb.at h1 trivial) trivial), _, rfl, by rw [h2]; exact q B2 H2 g3⟩
theorem et_dnotin {A : Addr} {k : Int} {n : Nat} {f : Int → Option (List Int)} (hu : X.A.units + 1 < cLine) (d : Dic Bs B B A n f) (ha : ED T X a σ B (.int k)) (hb : EV T X b σ B fun _ v => v = .ref A) (hm : behindInMarks .NotIn b = false := by rfl) : ET T X (.Compare a [.NotIn] [b] pos) σ B (!(f k).isSome) := fun H w Q q => by
  obtain ⟨kvs, h1, h2⟩ := d.has k
  refine wt_of (pt_cmp (pc_dnotin hu pwe pwe) hm) (ha H w _ fun x B1 H1 g1 r1 => (hb.mono mono_c g1.eb) H1 g1.wd _ fun y B2 H2 g2 r2 => ?_)
  subst r2
  rw [r1.toInt]
  have g3 := g1.trans g2
  exact ⟨A, _, rfl, DGet.k (k := .inl k) (g3.wd.ex.at (g3.eb.at h1 trivial) trivial), _, rfl, by rw [h2]; exact q B2 H2 g3⟩
/-- d.get(k) -/
def optR : Option (List Int) → PyData
  | none => .none
  | some p => encR p
theorem ed_dget1 {A : Addr} {k : Int} {n : Nat} {f : Int → Option (List Int)} (hu : X.A.units + 1 < cLine) (d : Dic Bs B B A n f) (ha : EV T X o σ B fun _ v => v = .ref A) (hb : ED T X e σ B (.int k)) (m : M1 X o "get" p1 e pos := by exact ⟨rfl, rfl, rfl, rfl⟩) : ED T X (.Call (.Attribute o "get" p1) [e] [] pos) σ B (optR (f k)) := fun H w Q q => by
  refine we_of (pe_dget1 hu pwe pwe m) (ha H w _ fun x B1 H1 g1 r1 => ?_)
  subst r1
  obtain ⟨kvs, h1, h2, h3⟩ := d
  refine ⟨A, rfl, .inl ⟨kvs, .inl (g1.wd.ex.at (g1.eb.at h1 trivial) trivial)⟩, (hb.mono g1.eb) H1 g1.wd _ fun y B2 H2 g2 r2 => ?_⟩
  rw [r2.toInt]
  have g3 := g1.trans g2
  refine ⟨_, DGet.k (k := .inl k) (g3.wd.ex.at (g3.eb.at h1 trivial) trivial), q _ B2 H2 g3 ?_⟩
  have := h3 k
  revert this
  cases f k with
  | none =>
    intro h
    rw [h]
    exact .non
  | some p =>
    intro ⟨v, h, r⟩
    rw [h]
    exact (r.mono g3.eb).dt
/-- .. with the word that it is new -/
theorem ev_dget1 {A : Addr} {k : Int} {n : Nat} {f : Int → Option (List Int)} (hu : X.A.units + 1 < cLine) (d : Dic Bs B B A n f) (ha : EV T X o σ B fun _ v => v = .ref A) (hb : ED T X e σ B (.int k)) (m : M1 X o "get" p1 e pos := by exact ⟨rfl, rfl, rfl, rfl⟩) : EV T X (.Call (.Attribute o "get" p1) [e] [] pos) σ B fun B' v => (f k = none ∧ v = .non) ∨ ∃ p, f k = some p ∧ NewD Bs B' v (p.map .int) := fun H w Q q => by
  refine we_of (pe_dget1 hu pwe pwe m) (ha H w _ fun x B1 H1 g1 r1 => ?_)
  subst r1
  obtain ⟨kvs, h1, h2, h3⟩ := d
  refine ⟨A, rfl, .inl ⟨kvs, .inl (g1.wd.ex.at (g1.eb.at h1 trivial) trivial)⟩, (hb.mono g1.eb) H1 g1.wd _ fun y B2 H2 g2 r2 => ?_⟩
  rw [r2.toInt]
  have g3 := g1.trans g2
  refine ⟨_, DGet.k (k := .inl k) (g3.wd.ex.at (g3.eb.at h1 trivial) trivial), q _ B2 H2 g3 ?_⟩
  have := h3 k
  revert this
  cases f k with
  | none =>
    intro h
    rw [h]
    exact .inl ⟨rfl, rfl⟩
  | some p =>
    intro ⟨v, h, r⟩
    rw [h]
    exact .inr ⟨p, rfl, r.mono g3.eb⟩
/-- a display, new -/
theorem en_lst {ds : List PyData} {es : List Expr} (h : EAd T X es σ B ds) (hl : ds.length ≤ 100000) : EV T X (.List es pos) σ B fun B' v => NewD B B' v ds := fun H w Q q =>
  we_of (pe_lst pwa) (h H w _ fun vs B1 H1 g1 r1 => ⟨sz100 (by rw [r1.length]; exact hl), fun D hD => by
    have n := Go.new (o := .lst vs) g1.wd hD
    exact q _ _ _ (g1.trans n) ⟨D, vs, rfl, g1.eb.free (g1.wd.ex.free hD), upd_same, r1.mono n.eb⟩⟩)
/-- d[k] = a new list of numbers -/
theorem t_dput {A : Addr} {k : Int} {p : List Int} {n : Nat} {f : Int → Option (List Int)} (hu : X.A.units + 1 < cLine) (g : Go T B0 H0 B H) (hs : Sl B σ ss) (h0 : H0 A = none) (hB0 : B0 A = none) (hB : B A = none) (xs : Ex Bs B) (d : Dic Bs H B A n f) (hn : n < 100000)
    (ho : EV T X o σ B fun _ v => v = .ref A) (hi : ED T X b σ B (.int k)) (he : ∀ C, Ex B C → Dic Bs C C A n f → EV T X e σ C fun B' v => NewD C B' v (p.map .int))
    (q : ∀ B' H', Go T B0 H0 B' H' → Ex B B' → Sl B' σ ss → B' A = none → Dic Bs H' B' A (n + 1) (putF f k p) → (∀ x, x ≠ A → ∀ xs, H x = some (.lst xs) → H' x = some (.lst xs)) → (∀ x, x ≠ A → B x = none → H x ≠ none → B' x = none) → wss X rest D σ H')
    (hsw : swapsWith e (some (.Subscript o b p2)) pos.line X.env = pure false := by rfl) : wss X (.Assign [.Subscript o b p2] e pos :: rest) D σ H := by
  refine s_cons (ws_of (ps_dput hu pwe pwe pwe hsw) ?_)
  obtain ⟨Bb, gS, xS, dS, nA, nX⟩ := d.into g h0 hB
  refine he Bb xS dS H gS.wd _ fun v B1 H1 g1 r1 => ?_
  obtain ⟨L, ws, rfl, hL0, hL, hws⟩ := r1
  have hLA : L ≠ A := fun z => nA (by rw [← z]; exact hL0)
  have g2 := (gS.trans g1).drop hB0
  have x2 : Ex B (del B1 A) := ex_del (xS.trans g1.eb) hB
  refine (ho.mono mono_c x2) H1 g2.wd _ fun u B3 H3 g3 r3 => ?_
  subst r3
  refine (hi.mono (x2.trans g3.eb)) H3 g3.wd _ fun y B4 H4 g4 r4 => ?_
  rw [r4.toInt]
  have g5 := (g2.trans g3).trans g4
  have g34 := g3.trans g4
  obtain ⟨kvs, e1, e2, e3⟩ := id d
  have e4 : H4 A = some (.dK kvs) := ((g1.eh.trans g34.eh)).at e1 trivial
  have hB4 : B4 A = none := g34.out del_same (by rw [g1.eh.at e1 trivial]; exact fun z => nomatch z)
  have x4 := x2.trans g34.eb
  refine ⟨A, _, rfl, DPut.k (k := .inl k) e4 (Nat.lt_of_le_of_lt e2 (Nat.lt_of_lt_of_le hn (by decide))), ?_⟩
  have rv : NewD Bs B4 (.ref L) (p.map .int) := ⟨L, ws, rfl, (xs.trans xS).free hL0, g34.eb.lst (by rw [del_ne hLA]; exact hL), by rw [hws.ints]; exact Dts.ofInts p⟩
  exact q B4 _ (g5.mutA h0 hB4 e4 trivial) x4 (hs.mono x4) hB4 ((d.mono x4).put e1 rv upd_same) (fun x hx xs h => by rw [upd_ne hx]; exact (g1.eh.trans g34.eh).lst h)
    fun x hx h1 h2 => g34.out (by rw [del_ne hx]; exact g1.out (by rw [nX x hx]; exact h1) h2) (g1.eh.there h2)
end
end Cw

/-! # Ways: walks, the first ones as lists stand, level by level -/
namespace Cz
/-- as lists stand -/
def lle : List Int → List Int → Prop
  | [], _ => True
  | _ :: _, [] => False
  | a :: p, b :: q => a < b ∨ (a = b ∧ lle p q)
theorem lle_refl : ∀ p, lle p p
  | [] => trivial
  | _ :: p => .inr ⟨rfl, lle_refl p⟩
theorem lle_trans : ∀ {p q r}, lle p q → lle q r → lle p r
  | [], _, _, _, _ => trivial
  | _ :: _, [], _, h, _ => h.elim
  | _ :: _, _ :: _, [], _, h => h.elim
  | a :: p, b :: q, c :: r, h, k => by
    rcases h with h | ⟨rfl, h⟩
    · rcases k with k | ⟨rfl, _⟩
      · exact .inl (by omega)
      · exact .inl h
    · rcases k with k | ⟨rfl, k⟩
      · exact .inl k
      · exact .inr ⟨rfl, lle_trans h k⟩
theorem lle_anti : ∀ {p q}, lle p q → lle q p → p = q
  | [], [], _, _ => rfl
  | [], _ :: _, _, h => h.elim
  | _ :: _, [], h, _ => h.elim
  | a :: p, b :: q, h, k => by
    rcases h with h | ⟨rfl, h⟩
    · rcases k with k | ⟨e, _⟩ <;> omega
    · rcases k with k | ⟨_, k⟩
      · omega
      · rw [lle_anti h k]
/-- of one length, and not the same: whatever stands behind -/
theorem lle_end : ∀ {p q : List Int} (x y : List Int), p.length = q.length → p ≠ q → lle p q → lle (p ++ x) (q ++ y)
  | [], [], _, _, _, n, _ => absurd rfl n
  | [], _ :: _, _, _, h, _, _ => nomatch h
  | _ :: _, [], _, _, h, _, _ => nomatch h
  | a :: p, b :: q, x, y, h, n, k => by
    rcases k with k | ⟨rfl, k⟩
    · exact .inl k
    · exact .inr ⟨rfl, lle_end x y (Nat.succ.inj h) (fun z => n (by rw [z])) k⟩
theorem lle_same : ∀ {p : List Int} {x y : List Int}, lle x y → lle (p ++ x) (p ++ y)
  | [], _, _, h => h
  | _ :: p, _, _, h => .inr ⟨rfl, lle_same (p := p) h⟩
theorem lle_snoc {p q : List Int} {x y : Int} (h : p.length = q.length) (k : lle p q) (e : p = q → x ≤ y) : lle (p ++ [x]) (q ++ [y]) := by
  by_cases c : p = q
  · subst c
    have := e rfl
    by_cases z : x = y
    · exact lle_same (.inr ⟨z, trivial⟩)
    · exact lle_same (.inl (by omega))
  · exact lle_end _ _ h c k
section
variable {adj : Int → List Int} {a b c : Int} {n k : Nat}
/-- n steps from a to b along p -/
inductive Wlk (adj : Int → List Int) (a : Int) : Nat → Int → List Int → Prop
  | here : Wlk adj a 0 a [a]
  | on {n : Nat} {b c : Int} {p : List Int} : Wlk adj a n b p → c ∈ adj b → Wlk adj a (n + 1) c (p ++ [c])
theorem Wlk.len {p : List Int} (h : Wlk adj a n b p) : p.length = n + 1 := by
  induction h with
  | here => rfl
  | on _ _ ih => rw [List.length_append, ih]; rfl
theorem Wlk.last {p : List Int} (h : Wlk adj a n b p) : ∃ q, p = q ++ [b] := by
  cases h with
  | here => exact ⟨[], rfl⟩
  | on h _ => exact ⟨_, rfl⟩
theorem Wlk.same {p : List Int} (h : Wlk adj a n b p) (k : Wlk adj a n c p) : b = c := by
  obtain ⟨q, rfl⟩ := h.last
  obtain ⟨r, e⟩ := k.last
  have := (List.append_inj' e rfl).2
  exact (List.cons.inj this).1
/-- told from its first step -/
theorem Wlk.front : ∀ {n : Nat} {b c : Int} {q : List Int}, b ∈ adj a → Wlk adj b n c q → Wlk adj a (n + 1) c (a :: q)
  | _, _, _, _, h, .here => .on .here h
  | _, _, _, _, h, .on w hc => .on (Wlk.front h w) hc
theorem Wlk.first : ∀ {n : Nat} {c : Int} {q : List Int}, Wlk adj a (n + 1) c q → ∃ b r, b ∈ adj a ∧ Wlk adj b n c r ∧ q = a :: r
  | 0, c, _, .on .here h => ⟨c, [c], h, .here, rfl⟩
  | n + 1, _, _, .on w h => by
    obtain ⟨b, r, h1, h2, e⟩ := w.first
    subst e
    exact ⟨b, _, h1, .on h2 h, rfl⟩
/-- n steps and no fewer -/
def Far (adj : Int → List Int) (a b : Int) (n : Nat) : Prop := (∃ p, Wlk adj a n b p) ∧ ∀ k, k < n → ∀ p, ¬ Wlk adj a k b p
theorem Far.uniq (h : Far adj a b n) (k : Far adj a b m) : n = m := by
  obtain ⟨p, hp⟩ := h.1
  obtain ⟨q, hq⟩ := k.1
  by_cases c : n < m
  · exact absurd hp (k.2 n c p)
  · by_cases c2 : m < n
    · exact absurd hq (h.2 m c2 q)
    · omega
theorem far_of : ∀ {n : Nat} {b : Int} {p : List Int}, Wlk adj a n b p → ∃ k, k ≤ n ∧ Far adj a b k := by
  intro n
  induction n using Nat.strongRecOn with
  | ind n ih =>
    intro b p h
    by_cases c : ∃ k, k < n ∧ ∃ q, Wlk adj a k b q
    · obtain ⟨k, hk, q, hq⟩ := c
      obtain ⟨j, hj, f⟩ := ih k hk hq
      exact ⟨j, by omega, f⟩
    · exact ⟨n, Nat.le_refl n, ⟨p, h⟩, fun k hk q hq => c ⟨k, hk, q, hq⟩⟩
/-- of the walks with so many steps the first one as lists stand -/
def Least (adj : Int → List Int) (n : Nat) (a b : Int) (p : List Int) : Prop := Wlk adj a n b p ∧ ∀ q, Wlk adj a n b q → lle p q
theorem Least.uniq {p q : List Int} (h : Least adj n a b p) (k : Least adj n a b q) : p = q := lle_anti (h.2 q k.1) (k.2 p h.1)
end
/-! ## one level -/
abbrev Bst := (Int → Option (List Int)) × List Int
def visit (t : Int) (s : Bst) (o : Int) : Bst := if (s.1 o).isSome = true then s else (Cw.putF s.1 o ((s.1 t).getD [] ++ [o]), s.2 ++ [o])
def visitAll (adj : Int → List Int) (s : Bst) (t : Int) : Bst := (adj t).foldl (visit t) s
def level (adj : Int → List Int) (f : Int → Option (List Int)) (newest : List Int) : Bst := newest.foldl (visitAll adj) (f, [])
/-- all that holds while a level is worked: pre is done; of t's own those of ap -/
structure Lin (adj : Int → List Int) (f : Int → Option (List Int)) (newest pre : List Int) (cur : Option (Int × List Int)) (s : Bst) : Prop where
  i1 : ∀ v p, f v = some p → s.1 v = some p
  i2 : ∀ o p, f o = none → s.1 o = some p → ∃ t P, t ∈ newest ∧ o ∈ adj t ∧ f t = some P ∧ p = P ++ [o] ∧ ∀ t' P', t' ∈ newest → o ∈ adj t' → f t' = some P' → lle P P'
  i3 : ∀ t ∈ pre, ∀ o ∈ adj t, s.1 o ≠ none
  i3' : ∀ t ap, cur = some (t, ap) → ∀ o ∈ ap, s.1 o ≠ none
  i4 : ∀ o, o ∈ s.2 ↔ f o = none ∧ s.1 o ≠ none
  i5 : s.2.Pairwise fun u v => ∀ p q, s.1 u = some p → s.1 v = some q → lle p q
  i6 : ∀ u ∈ s.2, ∀ p, s.1 u = some p → (∃ t P, t ∈ pre ∧ f t = some P ∧ p = P ++ [u]) ∨ ∃ t ap P, cur = some (t, ap) ∧ u ∈ ap ∧ f t = some P ∧ p = P ++ [u]
section
variable {adj : Int → List Int} {f : Int → Option (List Int)} {a : Int} {n : Nat}
/-- what a level starts from -/
structure Lv (adj : Int → List Int) (a : Int) (n : Nat) (f : Int → Option (List Int)) (newest : List Int) : Prop where
  l1 : ∀ v p, f v = some p → ∃ k, k ≤ n ∧ Far adj a v k ∧ Least adj k a v p
  l2 : ∀ v k p, k ≤ n → Wlk adj a k v p → f v ≠ none
  l3 : ∀ v, v ∈ newest ↔ ∃ p, f v = some p ∧ Far adj a v n
  l4 : newest.Pairwise fun u v => ∀ p q, f u = some p → f v = some q → lle p q
theorem Lv.start : Lv adj a 0 (Cw.putF (fun _ => none) a [a]) [a] := by
  have h0 : ∀ v p, Cw.putF (fun _ => none) a [a] v = some p → v = a ∧ p = [a] := fun v p h => by
    unfold Cw.putF at h
    by_cases c : v = a
    · rw [if_pos c] at h
      exact ⟨c, (Option.some.inj h).symm⟩
    · rw [if_neg c] at h
      cases h
  have ha : Cw.putF (fun _ => none) a [a] a = some [a] := if_pos rfl
  have far : Far adj a a 0 := ⟨⟨_, .here⟩, fun k hk => absurd hk (Nat.not_lt_zero k)⟩
  refine ⟨fun v p h => ?_, fun v k p hk w => ?_, fun v => ⟨fun h => ?_, fun ⟨p, h, _⟩ => ?_⟩, List.pairwise_singleton ..⟩
  · obtain ⟨rfl, rfl⟩ := h0 v p h
    exact ⟨0, Nat.le_refl 0, far, .here, fun q hq => by cases hq; exact lle_refl _⟩
  · obtain rfl : k = 0 := by omega
    cases w
    rw [ha]
    exact fun z => nomatch z
  · rw [List.mem_singleton.mp h]
    exact ⟨_, ha, far⟩
  · exact List.mem_singleton.mpr (h0 v p h).1
/-- the paths of newest threads have one length -/
theorem Lv.path {newest : List Int} (L : Lv adj a n f newest) {t : Int} {P : List Int} (h : t ∈ newest) (hP : f t = some P) : Least adj n a t P := by
  obtain ⟨p, h1, h2⟩ := (L.l3 t).mp h
  rw [hP] at h1
  cases h1
  obtain ⟨k, _, h3, h4⟩ := L.l1 t P hP
  rw [h3.uniq h2] at h4
  exact h4
theorem Lin.visit {newest pre post ap : List Int} {t o : Int} {rest : List Int} {s : Bst} (L : Lv adj a n f newest) (hn : newest = pre ++ t :: post) (ha : adj t = ap ++ o :: rest) (rise : (adj t).Pairwise (· < ·))
    (I : Lin adj f newest pre (some (t, ap)) s) : Lin adj f newest pre (some (t, ap ++ [o])) (visit t s o) := by
  have ht : t ∈ newest := by rw [hn]; simp
  have ho : o ∈ adj t := by rw [ha]; simp
  obtain ⟨P, hP, _⟩ := (L.l3 t).mp ht
  have sP : s.1 t = some P := I.i1 t P hP
  unfold Cz.visit
  by_cases c : (s.1 o).isSome = true
  · rw [if_pos c]
    have cne : s.1 o ≠ none := fun z => by rw [z] at c; cases c
    refine ⟨I.i1, I.i2, I.i3, fun t' ap' e x hx => ?_, I.i4, I.i5, fun u hu p hp => ?_⟩
    · cases e
      rcases List.mem_append.mp hx with h | h
      · exact I.i3' t ap rfl x h
      · rw [List.mem_singleton.mp h]
        exact cne
    · rcases I.i6 u hu p hp with h | ⟨t', ap', P', e, h1, h2⟩
      · exact .inl h
      · cases e
        exact .inr ⟨t, _, P', rfl, List.mem_append_left _ h1, h2⟩
  · rw [if_neg c, sP]
    have cn : s.1 o = none := by
      cases e : s.1 o with
      | none => rfl
      | some x => rw [e] at c; exact absurd rfl c
    have fo : f o = none := by
      cases e : f o with
      | none => rfl
      | some x => rw [I.i1 o x e] at cn; cases cn
    have put : ∀ v, v ≠ o → Cw.putF s.1 o (P ++ [o]) v = s.1 v := fun v h => if_neg h
    have puto : Cw.putF s.1 o (P ++ [o]) o = some (P ++ [o]) := if_pos rfl
    have nepre : ∀ t' ∈ pre, o ∉ adj t' := fun t' h1 h2 => I.i3 t' h1 o h2 cn
    have keepn : ∀ v, s.1 v ≠ none → Cw.putF s.1 o (P ++ [o]) v ≠ none := fun v h => by
      by_cases e : v = o
      · rw [e, puto]
        exact fun z => nomatch z
      · rw [put v e]
        exact h
    have sorted := L.l4
    rw [hn, List.pairwise_append] at sorted
    refine ⟨fun v p h => ?_, fun v p h1 h2 => ?_, fun t' h1 x hx => keepn x (I.i3 t' h1 x hx), fun t' ap' e x hx => ?_, fun v => ?_, ?_, fun u hu p hp => ?_⟩
    · show Cw.putF s.1 o (P ++ [o]) v = some p
      rw [put v (fun e => by rw [e, fo] at h; cases h)]
      exact I.i1 v p h
    · replace h2 : Cw.putF s.1 o (P ++ [o]) v = some p := h2
      by_cases e : v = o
      · subst e
        rw [puto] at h2
        cases h2
        refine ⟨t, P, ht, ho, hP, rfl, fun t' P' h3 h4 h5 => ?_⟩
        rw [hn] at h3
        rcases List.mem_append.mp h3 with h | h
        · exact absurd h4 (nepre t' h)
        · rcases List.mem_cons.mp h with rfl | h
          · rw [hP] at h5
            cases h5
            exact lle_refl _
          · exact (List.pairwise_cons.mp sorted.2.1).1 t' h P P' hP h5
      · rw [put v e] at h2
        exact I.i2 v p h1 h2
    · cases e
      rcases List.mem_append.mp hx with h | h
      · exact keepn x (I.i3' t ap rfl x h)
      · rw [List.mem_singleton.mp h]
        show Cw.putF s.1 o (P ++ [o]) o ≠ none
        rw [puto]
        exact fun z => nomatch z
    · show v ∈ s.2 ++ [o] ↔ f v = none ∧ Cw.putF s.1 o (P ++ [o]) v ≠ none
      by_cases e : v = o
      · subst e
        refine ⟨fun _ => ⟨fo, by rw [puto]; exact fun z => nomatch z⟩, fun _ => by simp⟩
      · rw [put v e, ← I.i4 v, List.mem_append, List.mem_singleton]
        exact ⟨fun h => h.resolve_right e, .inl⟩
    · show (s.2 ++ [o]).Pairwise fun u v => ∀ p q, Cw.putF s.1 o (P ++ [o]) u = some p → Cw.putF s.1 o (P ++ [o]) v = some q → lle p q
      have nemem : ∀ u ∈ s.2, u ≠ o := fun u hu e => by
        rw [e] at hu
        exact ((I.i4 o).mp hu).2 cn
      rw [List.pairwise_append]
      refine ⟨?_, List.pairwise_singleton .., fun u hu v hv p q hp hq => ?_⟩
      · refine List.Pairwise.imp_of_mem (fun {u v} hu hv h p q hp hq => ?_) I.i5
        rw [put u (nemem u hu)] at hp
        rw [put v (nemem v hv)] at hq
        exact h p q hp hq
      · rw [List.mem_singleton.mp hv, puto] at hq
        cases hq
        rw [put u (nemem u hu)] at hp
        have lP := (L.path ht hP).1
        rcases I.i6 u hu p hp with ⟨t', P', h1, h2, rfl⟩ | ⟨t', ap', P', e, h1, h2, rfl⟩
        · have ht' : t' ∈ newest := by rw [hn]; exact List.mem_append_left _ h1
          have lP' := (L.path ht' h2).1
          refine lle_snoc (by rw [lP.len, lP'.len]) (sorted.2.2 t' h1 t (List.mem_cons_self ..) P' P h2 hP) fun e => ?_
          subst e
          have := lP'.same lP
          subst this
          exact absurd ho (nepre t' h1)
        · cases e
          rw [hP] at h2
          cases h2
          refine lle_snoc rfl (lle_refl _) fun _ => ?_
          rw [ha, List.pairwise_append] at rise
          exact Int.le_of_lt (rise.2.2 u h1 o (List.mem_cons_self ..))
    · replace hp : Cw.putF s.1 o (P ++ [o]) u = some p := hp
      by_cases e : u = o
      · subst e
        rw [puto] at hp
        cases hp
        exact .inr ⟨t, _, P, rfl, by simp, hP, rfl⟩
      · rw [put u e] at hp
        have hu2 : u ∈ s.2 := by
          rcases List.mem_append.mp hu with h | h
          · exact h
          · exact absurd (List.mem_singleton.mp h) e
        rcases I.i6 u hu2 p hp with h | ⟨t', ap', P', e2, h1, h2⟩
        · exact .inl h
        · cases e2
          exact .inr ⟨t, _, P', rfl, List.mem_append_left _ h1, h2⟩
theorem Lin.all {newest pre post : List Int} {t : Int} (L : Lv adj a n f newest) (hn : newest = pre ++ t :: post) (rise : (adj t).Pairwise (· < ·)) : ∀ (rest ap : List Int) (s : Bst), adj t = ap ++ rest → Lin adj f newest pre (some (t, ap)) s → Lin adj f newest pre (some (t, adj t)) (rest.foldl (Cz.visit t) s)
  | [], ap, s, h, I => by
    rw [List.append_nil] at h
    rw [h]
    exact I
  | o :: rest, ap, s, h, I => by
    have := Lin.all L hn rise rest (ap ++ [o]) (Cz.visit t s o) (by rw [h, List.append_assoc]; rfl) (I.visit L hn h rise)
    exact this
theorem Lin.next {newest pre : List Int} {t : Int} {s : Bst} (I : Lin adj f newest pre (some (t, adj t)) s) : Lin adj f newest (pre ++ [t]) none s := by
  refine ⟨I.i1, I.i2, fun t' h x hx => ?_, fun _ _ e => (nomatch e), I.i4, I.i5, fun u hu p hp => ?_⟩
  · rcases List.mem_append.mp h with h | h
    · exact I.i3 t' h x hx
    · rw [List.mem_singleton.mp h] at hx
      exact I.i3' t _ rfl x hx
  · rcases I.i6 u hu p hp with ⟨t', P, h1, h2⟩ | ⟨t', ap', P', e, h1, h2⟩
    · exact .inl ⟨t', P, List.mem_append_left _ h1, h2⟩
    · cases e
      exact .inl ⟨t, P', by simp, h2⟩
theorem Lin.cur {newest pre : List Int} {t : Int} {s : Bst} (I : Lin adj f newest pre none s) : Lin adj f newest pre (some (t, [])) s := by
  refine ⟨I.i1, I.i2, I.i3, fun _ _ e x hx => ?_, I.i4, I.i5, fun u hu p hp => ?_⟩
  · cases e
    cases hx
  · rcases I.i6 u hu p hp with h | ⟨_, _, _, e, _⟩
    · exact .inl h
    · cases e
theorem Lin.through {newest : List Int} (L : Lv adj a n f newest) (rise : ∀ t ∈ newest, (adj t).Pairwise (· < ·)) : ∀ (post pre : List Int) (s : Bst), newest = pre ++ post → Lin adj f newest pre none s → Lin adj f newest newest none (post.foldl (visitAll adj) s)
  | [], pre, s, h, I => by
    rw [List.append_nil] at h
    rw [← h] at I
    exact I
  | t :: post, pre, s, h, I => by
    have ht : t ∈ newest := by rw [h]; simp
    have := Lin.all L h (rise t ht) (adj t) [] s rfl I.cur
    exact Lin.through L rise post (pre ++ [t]) _ (by rw [h, List.append_assoc]; rfl) this.next
theorem Lin.start {newest : List Int} : Lin adj f newest [] none (f, []) :=
  ⟨fun _ _ h => h, fun o p h1 h2 => absurd (h1.symm.trans h2) (fun z => nomatch z), fun t h => (nomatch h), fun _ _ e => (nomatch e), fun o => ⟨fun h => (nomatch h), fun ⟨h1, h2⟩ => absurd h1 h2⟩, .nil, fun u h => (nomatch h)⟩
/-- a level on -/
theorem Lv.next {newest : List Int} (L : Lv adj a n f newest) (rise : ∀ t ∈ newest, (adj t).Pairwise (· < ·)) : Lv adj a (n + 1) (level adj f newest).1 (level adj f newest).2 := by
  have I : Lin adj f newest newest none (level adj f newest) := Lin.through L rise newest [] (f, []) rfl Lin.start
  generalize level adj f newest = s at I
  have pred : ∀ {v : Int} {q : List Int}, f v = none → Wlk adj a (n + 1) v q → ∃ u q', u ∈ newest ∧ v ∈ adj u ∧ Wlk adj a n u q' ∧ q = q' ++ [v] := fun {v q} hv w => by
    cases w with
    | on w h =>
      rename_i u q'
      refine ⟨u, q', ?_, h, w, rfl⟩
      obtain ⟨k, hk, hf⟩ := far_of w
      have e : k = n := by
        by_cases c : k < n
        · obtain ⟨r, hr⟩ := hf.1
          exact absurd hv (L.l2 v (k + 1) _ (by omega) (.on hr h))
        · omega
      subst e
      cases e2 : f u with
      | none => exact absurd e2 (L.l2 u k q' (Nat.le_refl k) w)
      | some P => exact (L.l3 u).mpr ⟨P, e2, hf⟩
  have new : ∀ v p, f v = none → s.1 v = some p → Far adj a v (n + 1) ∧ Least adj (n + 1) a v p := fun v p h1 h2 => by
    obtain ⟨t, P, ht, hv, hP, rfl, hmin⟩ := I.i2 v p h1 h2
    have lP := L.path ht hP
    refine ⟨⟨⟨_, .on lP.1 hv⟩, fun k hk q w => L.l2 v k q (by omega) w h1⟩, .on lP.1 hv, fun q w => ?_⟩
    obtain ⟨u, q', hu, huv, hw, rfl⟩ := pred h1 w
    obtain ⟨Pu, hPu, _⟩ := (L.l3 u).mp hu
    have l1 := hmin u Pu hu huv hPu
    have l2 := (L.path hu hPu).2 q' hw
    exact lle_snoc (by rw [lP.1.len, hw.len]) (lle_trans l1 l2) fun _ => Int.le_refl v
  refine ⟨fun v p h => ?_, fun v k p hk w => ?_, fun v => ⟨fun h => ?_, fun ⟨p, h, hf⟩ => ?_⟩, I.i5⟩
  · cases e : f v with
    | none =>
      obtain ⟨h1, h2⟩ := new v p e h
      exact ⟨n + 1, Nat.le_refl _, h1, h2⟩
    | some q =>
      have e2 := I.i1 v q e
      rw [h] at e2
      cases e2
      obtain ⟨k, hk, h1, h2⟩ := L.l1 v p e
      exact ⟨k, by omega, h1, h2⟩
  · cases e : f v with
    | some q =>
      rw [I.i1 v q e]
      exact fun z => nomatch z
    | none =>
      by_cases c : k ≤ n
      · exact absurd e (L.l2 v k p c w)
      · obtain rfl : k = n + 1 := by omega
        obtain ⟨u, q', hu, huv, _, _⟩ := pred e w
        exact I.i3 u hu v huv
  · obtain ⟨h1, h2⟩ := (I.i4 v).mp h
    cases e : s.1 v with
    | none => exact absurd e h2
    | some p => exact ⟨p, rfl, (new v p h1 e).1⟩
  · refine (I.i4 v).mpr ⟨?_, by rw [h]; exact fun z => nomatch z⟩
    cases e : f v with
    | none => rfl
    | some q =>
      obtain ⟨k, hk, h1, _⟩ := L.l1 v q e
      have := h1.uniq hf
      omega
/-- all is found where nothing new is -/
theorem Lv.done (L : Lv adj a n f []) : ∀ v, (∀ p, f v = some p → ∃ k, Far adj a v k ∧ Least adj k a v p) ∧ (f v = none → ∀ k p, ¬ Wlk adj a k v p) := by
  have none_at : ∀ j v, ¬ Far adj a v (n + j) := fun j => by
    induction j with
    | zero =>
      intro v hf
      obtain ⟨p, hp⟩ := hf.1
      cases e : f v with
      | none => exact L.l2 v n p (Nat.le_refl n) hp e
      | some q => exact nomatch (L.l3 v).mpr ⟨q, e, hf⟩
    | succ j ih =>
      intro v hf
      obtain ⟨p, hp⟩ := hf.1
      cases hp with
      | on w h =>
        rename_i u q
        obtain ⟨k, hk, hfu⟩ := far_of w
        by_cases c : k = n + j
        · subst c
          exact ih u hfu
        · obtain ⟨r, hr⟩ := hfu.1
          have hk2 : k ≤ n + j := hk
          exact hf.2 (k + 1) (by omega) _ (.on hr h)
  refine fun v => ⟨fun p h => ?_, fun h k p w => ?_⟩
  · obtain ⟨k, _, h1, h2⟩ := L.l1 v p h
    exact ⟨k, h1, h2⟩
  · obtain ⟨j, hj, hf⟩ := far_of w
    by_cases c : j < n
    · obtain ⟨q, hq⟩ := hf.1
      exact L.l2 v j q (by omega) hq h
    · obtain ⟨i, rfl⟩ : ∃ i, j = n + i := ⟨j - n, by omega⟩
      exact none_at i v hf
end
end Cz

namespace Cz
/-! ## how far each is, level by level; the least way, greedily -/
section
variable {adj : Int → List Int} {goal : Int} {N t j : Nat} {L M : List Int}
theorem getD_set0 {M : List Int} {j v : Nat} {x : Int} (h : j < M.length) : (M.set j x).getD v 0 = if v = j then x else M.getD v 0 := by
  rw [List.getD_eq_getElem?_getD, List.getElem?_set, List.getD_eq_getElem?_getD]
  by_cases c : j = v
  · subst c
    rw [if_pos rfl, if_pos h, if_pos rfl]
    rfl
  · rw [if_neg c, if_neg fun z => c z.symm]
def FarOk (adj : Int → List Int) (goal : Int) (N t : Nat) (L : List Int) : Prop := L.length = N ∧ ∀ v : Nat, v < N → (∃ k : Nat, k ≤ t ∧ Far adj v goal k ∧ L.getD v 0 = k) ∨ (L.getD v 0 = 2 * (N : Int) ∧ ∀ k, k ≤ t → ∀ p, ¬ Wlk adj v k goal p)
def PassOk (adj : Int → List Int) (goal : Int) (N t j : Nat) (M : List Int) : Prop := M.length = N ∧ ∀ v : Nat, v < N → (∃ k : Nat, k ≤ t ∧ Far adj v goal k ∧ M.getD v 0 = k) ∨ (v < j ∧ Far adj v goal (t + 1) ∧ M.getD v 0 = ((t + 1 : Nat) : Int)) ∨ (M.getD v 0 = 2 * (N : Int) ∧ (∀ k, k ≤ t → ∀ p, ¬ Wlk adj v k goal p) ∧ (v < j → ∀ p, ¬ Wlk adj v (t + 1) goal p))
theorem PassOk.start (h : FarOk adj goal N t L) : PassOk adj goal N t 0 L := ⟨h.1, fun v hv => (h.2 v hv).elim .inl fun z => .inr (.inr ⟨z.1, z.2, fun z => absurd z (Nat.not_lt_zero _)⟩)⟩
theorem PassOk.done (h : PassOk adj goal N t N M) : FarOk adj goal N (t + 1) M := ⟨h.1, fun v hv => by
  rcases h.2 v hv with ⟨k, a, b, c⟩ | ⟨_, b, c⟩ | ⟨a, b, c⟩
  · exact .inl ⟨k, by omega, b, c⟩
  · exact .inl ⟨t + 1, Nat.le_refl _, b, c⟩
  · refine .inr ⟨a, fun k hk => ?_⟩
    by_cases e : k = t + 1
    · rw [e]
      exact c hv
    · exact b k (by omega)⟩
/-- is one reached from the front of the level? -/
theorem PassOk.put (cl : ∀ v u, u ∈ adj v → ∃ w : Nat, u = w ∧ w < N) (h : PassOk adj goal N t j M) (hj : j < N) (ht : t + 1 < 2 * N) (c1 : M.getD j 0 > (t : Int) + 1) {u : Int} (hu : u ∈ adj j) (c2 : M.getD u.toNat 0 = (t : Int)) : PassOk adj goal N t (j + 1) (M.set j ((t + 1 : Nat) : Int)) ∧ Far adj j goal (t + 1) ∧ M.getD j 0 = 2 * (N : Int) := by
  have hl := h.1
  obtain ⟨w, rfl, hw⟩ := cl _ _ hu
  rw [Int.toNat_natCast] at c2
  have z : M.getD j 0 = 2 * (N : Int) ∧ (∀ k, k ≤ t → ∀ p, ¬ Wlk adj j k goal p) := by
    rcases h.2 j hj with ⟨k, a, b, c⟩ | ⟨a, _⟩ | ⟨a, b, c⟩
    · omega
    · omega
    · exact ⟨a, b⟩
  have fw : ∃ p, Wlk adj w t goal p := by
    rcases h.2 w hw with ⟨k, a, b, c⟩ | ⟨_, b, c⟩ | ⟨a, b, c⟩
    · rw [c2] at c
      have : k = t := by omega
      rw [← this]
      exact b.1
    · omega
    · omega
  obtain ⟨p, hp⟩ := fw
  have far : Far adj j goal (t + 1) := ⟨⟨_, hp.front hu⟩, fun k hk => z.2 k (by omega)⟩
  refine ⟨⟨by rw [List.length_set]; exact hl, fun v hv => ?_⟩, far, z.1⟩
  rw [getD_set0 (by omega)]
  by_cases e : v = j
  · subst e
    rw [if_pos rfl]
    exact .inr (.inl ⟨Nat.lt_succ_self _, far, rfl⟩)
  · rw [if_neg e]
    rcases h.2 v hv with a | ⟨a, b, c⟩ | ⟨a, b, c⟩
    · exact .inl a
    · exact .inr (.inl ⟨by omega, b, c⟩)
    · exact .inr (.inr ⟨a, b, fun z => c (by omega)⟩)
theorem PassOk.skip (cl : ∀ v u, u ∈ adj v → ∃ w : Nat, u = w ∧ w < N) (h : PassOk adj goal N t j M) (hj : j < N) (ht : t + 1 < 2 * N) (c : ¬ (M.getD j 0 > (t : Int) + 1 ∧ ∃ u ∈ adj j, M.getD u.toNat 0 = (t : Int))) : PassOk adj goal N t (j + 1) M ∧ ¬ Far adj j goal (t + 1) := by
  have key : ∀ p, M.getD j 0 = 2 * (N : Int) → (∀ k, k ≤ t → ∀ p, ¬ Wlk adj j k goal p) → ¬ Wlk adj j (t + 1) goal p := fun p a b hp => by
    refine c ⟨by omega, ?_⟩
    obtain ⟨u, r, hu, hr, _⟩ := hp.first
    obtain ⟨w, rfl, hw⟩ := cl _ _ hu
    refine ⟨_, hu, ?_⟩
    rw [Int.toNat_natCast]
    rcases h.2 w hw with ⟨k, a2, b2, c2⟩ | ⟨_, b2, c2⟩ | ⟨a2, b2, c2⟩
    · by_cases e : k = t
      · rw [c2, e]
      · obtain ⟨q, hq⟩ := b2.1
        exact absurd (hq.front hu) (b (k + 1) (by omega) _)
    · exact absurd hr (b2.2 t (by omega) r)
    · exact absurd hr (b2 t (Nat.le_refl _) r)
  refine ⟨⟨h.1, fun v hv => ?_⟩, fun far => ?_⟩
  · by_cases e : v = j
    · subst e
      rcases h.2 v hv with a | ⟨a, b, c⟩ | ⟨a, b, c⟩
      · exact .inl a
      · exact .inr (.inl ⟨by omega, b, c⟩)
      · exact .inr (.inr ⟨a, b, fun z p => key p a b⟩)
    · rcases h.2 v hv with a | ⟨a, b, c⟩ | ⟨a, b, c⟩
      · exact .inl a
      · exact .inr (.inl ⟨by omega, b, c⟩)
      · exact .inr (.inr ⟨a, b, fun z => c (by omega)⟩)
  · rcases h.2 j hj with ⟨k, a, b, c⟩ | ⟨a, b, c⟩ | ⟨a, b, c⟩
    · have := b.uniq far
      omega
    · omega
    · obtain ⟨p, hp⟩ := far.1
      exact key p a b hp
theorem FarOk.all (cl : ∀ v u, u ∈ adj v → ∃ w : Nat, u = w ∧ w < N) (h : FarOk adj goal N t L) (hn : ∀ v : Nat, v < N → ¬ Far adj v goal t) : ∀ v : Nat, v < N → (∃ k : Nat, k ≤ t ∧ Far adj v goal k ∧ L.getD v 0 = k) ∨ (L.getD v 0 = 2 * (N : Int) ∧ ∀ k p, ¬ Wlk adj v k goal p) := by
  have none_far : ∀ (d : Nat) (v : Nat), v < N → ¬ Far adj v goal (t + d) := fun d => by
    induction d with
    | zero => exact hn
    | succ d ih =>
      intro v hv far
      obtain ⟨p, hp⟩ := far.1
      obtain ⟨u, r, hu, hr, _⟩ := Wlk.first (n := t + d) hp
      obtain ⟨w, rfl, hw⟩ := cl _ _ hu
      refine ih w hw ⟨⟨r, hr⟩, fun k hk q hq => far.2 (k + 1) (by omega) _ (hq.front hu)⟩
  intro v hv
  refine (h.2 v hv).elim .inl fun ⟨a, b⟩ => .inr ⟨a, fun k p hp => ?_⟩
  obtain ⟨k', _, far⟩ := far_of hp
  by_cases e : k' ≤ t
  · obtain ⟨q, hq⟩ := far.1
    exact b k' e q hq
  · have := none_far (k' - t) v hv
    rw [show t + (k' - t) = k' by omega] at this
    exact this far
/-- how many are not found -/
def unf (N : Nat) (L : List Int) : Nat := L.count (2 * (N : Int))
theorem unf_put (h : j < M.length) (e : M.getD j 0 = 2 * (N : Int)) {x : Int} (hx : x ≠ 2 * (N : Int)) : unf N (M.set j x) + 1 = unf N M := by
  unfold unf
  rw [List.getD_eq_getElem?_getD, List.getElem?_eq_getElem h] at e
  have e : M[j] = 2 * (N : Int) := e
  rw [List.count_set h, e]
  have hm : 0 < List.count (2 * (N : Int)) M := List.count_pos_iff.mpr (by rw [← e]; exact List.getElem_mem h)
  have h1 : ((2 * (N : Int)) == 2 * (N : Int)) = true := beq_self_eq_true _
  have h2 : (x == 2 * (N : Int)) = false := beq_eq_false_iff_ne.mpr hx
  rw [if_pos h1, if_neg (by rw [h2]; decide)]
  omega
theorem FarOk.start (hg : j < N) : FarOk adj (j : Int) N 0 ((List.replicate N (2 * (N : Int))).set j 0) := by
  refine ⟨by rw [List.length_set, List.length_replicate], fun v hv => ?_⟩
  rw [getD_set0 (by rw [List.length_replicate]; exact hg)]
  by_cases e : v = j
  · subst e
    rw [if_pos rfl]
    exact .inl ⟨0, Nat.le_refl _, ⟨⟨_, .here⟩, fun k hk => absurd hk (Nat.not_lt_zero _)⟩, rfl⟩
  · rw [if_neg e]
    refine .inr ⟨by rw [List.getD_eq_getElem?_getD, List.getElem?_replicate, if_pos hv]; rfl, fun k hk p hp => ?_⟩
    have : k = 0 := by omega
    subst this
    cases hp
    exact e (by omega)
theorem unf_start (hg : j < N) : unf N ((List.replicate N (2 * (N : Int))).set j 0) + 1 = N := by
  rw [unf_put (by rw [List.length_replicate]; exact hg) (by rw [List.getD_eq_getElem?_getD, List.getElem?_replicate, if_pos hg]; rfl) (by omega)]
  unfold unf
  rw [List.count_replicate_self]
/-! greedily -/
theorem lle_cons {x : Int} {p q : List Int} (h : lle p q) : lle (x :: p) (x :: q) := lle_same (p := [x]) h
theorem Least.front {a b c : Int} {r : Nat} {p : List Int} (hb : b ∈ adj a) (hmin : ∀ u ∈ adj a, (∃ q, Wlk adj u r c q) → b ≤ u) (h : Least adj r b c p) : Least adj (r + 1) a c (a :: p) := by
  refine ⟨h.1.front hb, fun q hq => ?_⟩
  obtain ⟨u, r2, hu, hr, rfl⟩ := hq.first
  refine lle_cons ?_
  have hbu := hmin u hu ⟨_, hr⟩
  by_cases e : b = u
  · subst e
    exact h.2 _ hr
  · have w1 : ∃ x, p = b :: x := by
      cases r with
      | zero =>
        have := h.1
        cases this
        exact ⟨[], rfl⟩
      | succ r =>
        obtain ⟨_, x, _, _, z⟩ := h.1.first
        exact ⟨x, z⟩
    have w2 : ∃ y, r2 = u :: y := by
      cases r with
      | zero =>
        cases hr
        exact ⟨[], rfl⟩
      | succ r =>
        obtain ⟨_, x, _, _, z⟩ := hr.first
        exact ⟨x, z⟩
    obtain ⟨x, rfl⟩ := w1
    obtain ⟨y, rfl⟩ := w2
    exact lle_end (p := [b]) (q := [u]) x y rfl (fun z => e (by cases z; rfl)) (.inl (by omega))
theorem Least.zero {a : Int} : Least adj 0 a a [a] := ⟨.here, fun q hq => by cases hq; exact lle_refl _⟩
end
end Cz

namespace Cw
open PySem PySem.Spec PyProof.Rows L2
section
variable {T : List Addr} {X : Cx} {a b : Expr} {σ : L2.St} {B : Hp} {p pos : Pos}
/-- the least of numbers -/
theorem ed_min {l : List Int} {m : Int} (hm : m ∈ l) (hle : ∀ y ∈ l, m ≤ y) (bi : Bi X.mg) (h : ED T X a σ B (.list (l.map .int))) (hc : X.calm = true := by rfl) (hg : Gl X "min" := by rfl)
    (he : starEach [a] X.env = (false, eval a X.env) :: starEach [] X.env := by rfl) (hpl : (backTo pos (starEach [] X.env)).any (·.1) = false := by rfl) : ED T X (.Call (.Name "min" p) [a] [] pos) σ B (.int m) :=
  ev_callB (Rs := fun B' vs => Dts B' vs [.list (l.map .int)]) (cr_min hc) hg bi.min (by decide +kernel) (ea_cons h ea_nil he) (fun B1 H1 vs _ w r Q q => by
    cases r with
    | cons r1 r2 =>
      cases r2
      obtain ⟨p, xs, rfl, hp, hr⟩ := r1.toList
      rw [hr.ints] at hp
      refine ⟨p, l, rfl, SqL.of (w.ex.lst hp), List.length_pos_of_mem hm, fun m' hm' hle' => ?_⟩
      have e : m' = m := Int.le_antisymm (hle' m hm) (hle m' hm')
      rw [e]
      exact q _ B1 H1 (Go.rfl w) (.int _)) (by decide) (by decide) he hpl
theorem inV_ints (t : Int) (l : List Int) : inV (.int t) (l.map .int) = decide (t ∈ l) := by
  unfold inV
  rw [List.any_map, Bool.eq_iff_iff, List.any_eq_true, decide_eq_true_eq]
  refine ⟨fun ⟨x, hx, e⟩ => ?_, fun h => ⟨t, h, ?_⟩⟩
  · have e : (x == t) = true := e
    rw [← eq_of_beq e]
    exact hx
  · show (t == t) = true
    exact beq_self_eq_true t
theorem ec_inI {t : Int} {l : List Int} (ha : ED T X a σ B (.int t)) (hb : ED T X b σ B (.list (l.map .int))) (hm : behindInMarks .In b = false := by rfl) : EC T X a .In b σ B (decide (t ∈ l)) :=
  ec_of op_in_seq hm ha mono_dt hb mono_dt fun B1 H1 x y _ w rx ry Q q => by
    rw [rx.toInt]
    obtain ⟨p, xs, rfl, hp, hr⟩ := ry.toList
    rw [hr.ints] at hp
    refine ⟨p, _, rfl, .inl (SqL.of (w.ex.lst hp)), rfl, ?_, ?_⟩
    · rw [List.all_eq_true]
      intro v hv
      obtain ⟨i, _, rfl⟩ := List.mem_map.mp hv
      rfl
    · rw [if_neg (fun z => Bool.noConfusion z), inV_ints]
      exact q
end
end Cw

namespace Cw
open PySem PySem.Spec PyProof.Rows L2
section
variable {T : List Addr} {X : Cx} {a b : Expr} {σ : L2.St} {B B0 H0 H : Hp} {p pos : Pos} {D : Ends} {rest : List Stmt}
/-- all(a list of bools) -/
theorem Dts.bools {B : Hp} : ∀ {bs : List Bool} {xs : List V}, Dts B xs (bs.map .bool) → xs = bs.map V.bl
  | [], _, h => by cases h; rfl
  | b :: bs, _, h => by
    cases h with
    | cons h1 h2 =>
      rw [h1.toBool, Dts.bools h2]
      rfl
theorem ed_allB {bs : List Bool} (bi : Bi X.mg) (h : ED T X a σ B (.list (bs.map .bool))) (hc : X.calm = true := by rfl) (hg : Gl X "all" := by rfl)
    (he : starEach [a] X.env = (false, eval a X.env) :: starEach [] X.env := by rfl) (hpl : (backTo pos (starEach [] X.env)).any (·.1) = false := by rfl) : ED T X (.Call (.Name "all" p) [a] [] pos) σ B (.bool (bs.all id)) :=
  ev_callB (Rs := fun B' vs => Dts B' vs [.list (bs.map .bool)]) (cr_all hc) hg bi.all PyProof.Rows.boot_all (ea_cons h ea_nil he) (fun B1 H1 vs _ w r Q q => by
    cases r with
    | cons r1 r2 =>
      cases r2
      obtain ⟨p, xs, rfl, hp, hr⟩ := r1.toList
      rw [hr.bools] at hp
      exact ⟨p, bs, rfl, SqL.of (w.ex.lst hp), q _ B1 H1 (Go.rfl w) (.bl _)⟩) (by decide) (by decide) he hpl
/-- a for over a list of pairs -/
theorem t_forL2 {x y : Str} {px py ptu : Pos} {kt : Nat} {iter : Expr} {body : List Stmt} {ds : List (PyData × PyData)} (i j : Nat) (Pv : Nat → L2.St → Hp → Hp → Prop) (g : Go T B0 H0 B H) (h : ED T X iter σ B (.list (ds.map fun d => .tuple [d.1, d.2]))) (hN : X.N.Nodup)
    (hp : PassesOwn (model X.prog X.w) X.A X.env X.xe) (hc : X.calm = true)
    (h0 : ∀ B1 H1, Go T B0 H0 B1 H1 → Go T B H B1 H1 → Pv 0 σ B1 H1)
    (hs : ∀ n d v u σ' B' H', ds[n]? = some d → Go T B0 H0 B' H' → Go T B' H0 B' H' → Ex B B' → Dt B' v d.1 → Dt B' u d.2 → Pv n σ' B' H' → wss X body { D with nx := fun σ'' H'' => ∃ B'', Go T B' H0 B'' H'' ∧ Pv (n + 1) σ'' B'' H'', ct := fun σ'' H'' => ∃ B'', Go T B' H0 B'' H'' ∧ Pv (n + 1) σ'' B'' H'', bk := fun σ' H' => wss X rest D σ' H' } ((σ'.set i (some v)).set j (some u)) H')
    (hd : ∀ σ' B' H', Go T B0 H0 B' H' → Ex B B' → Pv ds.length σ' B' H' → wss X rest D σ' H')
    (hi : X.N[i]? = some x := by rfl) (hx : Loc X.env.scope x := by first | exact Or.inl rfl | exact Or.inr rfl) (hj : X.N[j]? = some y := by rfl) (hy : Loc X.env.scope y := by first | exact Or.inl rfl | exact Or.inr rfl)
    (hf : X.fn x = true ∨ X.env.scope.names.lookup x = some .local := by first | exact .inl rfl | exact .inr rfl | assumption) (hf2 : X.fn y = true ∨ X.env.scope.names.lookup y = some .local := by first | exact .inl rfl | exact .inr rfl | assumption) (hss : ∀ x, foldedSetIterable iter X.env x = pure x := by intro _; rfl)
    (n1 : (assignEach [.Name x px, .Name y py] X.env).length = 2 := by rfl) (n2 : List.findIdx? (fun x => x.1) (assignEach [.Name x px, .Name y py] X.env) = none := by rfl)
    (n3 : (assignEach [.Name x px, .Name y py] X.env).map (·.2) = assign (.Name x px) X.env :: (assignEach [.Name y py] X.env).map (·.2) := by rfl) (n4 : (assignEach [.Name y py] X.env).map (·.2) = assign (.Name y py) X.env :: (assignEach [] X.env).map (·.2) := by rfl) :
    wss X (.For (.Tuple [.Name x px, .Name y py] kt ptu) iter body [] pos :: rest) D σ H := by
  refine s_cons (ws_of (ps_for hp hc (pi_list pwe) (pg_tup hc (pgs_cons (pg_name hN hi hx hf) (pgs_cons (pg_name hN hj hy hf2) pgs_nil n4) n3) n1 n2) pwss hss) ?_)
  refine h H g.wd _ fun v B1 H1 g1 r1 => ?_
  obtain ⟨l, xs, rfl, hl, hr⟩ := r1.toList
  refine ⟨l, rfl, ⟨xs, .inl (.inl (g1.wd.ex.lst hl))⟩, for_list (K := X.K) (a := l) (xs := xs) (fun n σ' H' => ∃ B', (Go T B0 H0 B' H' ∧ Ex B1 B') ∧ Pv n σ' B' H') ⟨B1, ⟨g.trans g1, Ex.rfl⟩, h0 B1 H1 (g.trans g1) g1⟩ (fun n σ' H' _ ⟨B', ⟨g', x'⟩, q⟩ => .inl (.inl (g'.wd.ex.lst (x'.lst hl)))) (fun n y σ' H' hy ⟨B', ⟨g', x'⟩, q⟩ => ?_) fun σ' H' ⟨B', ⟨g', x'⟩, q⟩ => ?_⟩
  · obtain ⟨d, hd', ry⟩ := hr.getV hy
    rw [List.getElem?_map] at hd'
    obtain ⟨d2, hd2, rfl⟩ := Option.map_eq_some_iff.mp hd'
    obtain ⟨t, ys, rfl, ht, hys⟩ := (ry.mono x').toTup
    cases hys with
    | cons q1 q2 =>
      cases q2 with
      | cons q2 q3 =>
        cases q3
        refine ⟨t, _, rfl, .inl (.inl (g'.wd.ex.tup ht)), rfl, _, _, rfl, _, _, rfl, rfl, ?_⟩
        refine wss_mk ?_
        intro pins s1 I
        refine thn (wss_run (hs n d2 _ _ σ' B' H' hd2 g' g'.rebase (g1.eb.trans x') q1 q2 q) pins s1 I) fun f s2 k => ?_
        cases f with
        | next =>
          obtain ⟨σ2, H2, I2, B2, k1, k2⟩ := k
          exact ⟨σ2, H2, I2, B2, ⟨g'.rejoin k1, x'.trans k1.eb⟩, k2⟩
        | cont =>
          obtain ⟨σ2, H2, I2, B2, k1, k2⟩ := k
          exact ⟨σ2, H2, I2, B2, ⟨g'.rejoin k1, x'.trans k1.eb⟩, k2⟩
        | brk => exact k
        | ret u => exact k
  · rw [← List.length_map (f := fun d : PyData × PyData => PyData.tuple [d.1, d.2]) (as := ds), ← hr.length] at hd
    exact hd σ' B' H' g' (g1.eb.trans x') q
end
end Cw

/-! # all(.. for x in ..), the element of any kind: it may call defs that walk generators of their own -/
namespace Cw
open PySem PySem.Spec PyProof.Rows L2
open GxR (TabG TabB GenS)
/-- the generator expression's frame -/
def gnX (X : Cx) (scope : Scope) (s : Shared) (H : Hp) (C : Addr) (code : Value) (A' : Around) (fp : List Addr) (N : List Str) : Cx :=
  { prog := X.prog, w := X.w, K := X.K, mg := X.mg, base := X.base, A := A', N := N, s_0 := s, H_0 := H, env := genEnv scope (cloFrom X.env.cells scope.names []) C code builtinsNs X.env, outer := X.stack,
    stack := genEnv scope (cloFrom X.env.cells scope.names []) C code builtinsNs X.env :: X.stack, ex := fp, fn := fun _ => false, calm := true, pn := [], xe := fun _ _ => False }
theorem Inv.gens {X : Cx} {pins : List (Addr × Obj)} {σ : L2.St} {H : Hp} {s : Shared} {g : Array GenState} (I : Inv X pins σ H s) (hg : AllBare g) : Inv X pins σ H { s with gens := g } :=
  ⟨I.ok, I.os, hg, I.base, I.loc, I.cell, I.free, I.freeC, I.pin, I.hok, I.len⟩
theorem bare_set {s : Shared} {g : Nat} {x : GenState} (h : AllBare s.gens) (hx : x.bare = true) : AllBare (s.setGen g x).gens := fun y hy => by
  have hy : y ∈ s.gens.setIfInBounds g x := hy
  obtain ⟨i, hi, rfl⟩ := Array.mem_iff_getElem.mp hy
  rw [Array.size_setIfInBounds] at hi
  rw [Array.getElem_setIfInBounds hi]
  split
  · exact hx
  · exact h _ (Array.getElem_mem hi)
theorem Inv.setGen {X : Cx} {pins : List (Addr × Obj)} {σ : L2.St} {H : Hp} {s : Shared} {g : Nat} {x : GenState} (I : Inv X pins σ H s) (hx : x.bare = true) : Inv X pins σ H (s.setGen g x) := Inv.gens I (bare_set (s := s) (g := g) I.bare hx)
/-- the free names of the frame, by the slots of the def around -/
structure Frs (X : Cx) (scope : Scope) (x : Str) (fr : List (Str × Nat)) : Prop where
  nd : (x :: fr.map (·.1)).Nodup
  at_ : ∀ p ∈ fr, X.N[p.2]? = some p.1 ∧ scope.names.lookup p.1 = some .free ∧ (X.env.scope.names.lookup p.1 = some .cell ∨ X.env.scope.names.lookup p.1 = some .free)
def frN (x : Str) (fr : List (Str × Nat)) : List Str := x :: fr.map (·.1)
def frS (fr : List (Str × Nat)) (σ : L2.St) : L2.St := none :: fr.map fun p => (σ[p.2]?).join
theorem frs_nil {X : Cx} {scope : Scope} {x : Str} : Frs X scope x [] := ⟨by simp, fun _ h => nomatch h⟩
section
variable {X : Cx} {pins : List (Addr × Obj)} {σ : L2.St} {H : Hp} {s s5 : Shared}
theorem gen_start {scope : Scope} {x : Str} {fr : List (Str × Nat)} {code : Value} {A' : Around} {fp : List Addr} {a : Addr} {go : Obj} (I : Inv X pins σ H s) (S : GenS X.env scope x) (F : Frs X scope x fr) (hfp : ∀ b ∈ fp, FpOk X pins H b ∧ b < s.heap.objs.size)
    (hA : A'.handled = none) (hf : A'.frames = some (genEnv scope (cloFrom X.env.cells scope.names []) s.heap.objs.size code builtinsNs X.env :: X.stack)) (k : ∀ b o, s.heap.get? b = some o → s5.heap.get? b = some o) {m : Str → Option Value} (hm : s5.heap.Ns s.heap.objs.size m)
    (hos : s5.os = s.os) (hg : AllBare s5.gens) (ha : s5.heap.get? a = some go) (hlt : s.heap.objs.size < a) (hgo : ∀ v, go.data ≠ .cell v) :
    Inv (gnX X scope s H s.heap.objs.size code A' fp (frN x fr)) [(a, go)] (frS fr σ) H s5 := by
  have cm : ∀ {y c}, (y, c) ∈ cloFrom X.env.cells scope.names [] → X.env.cells.lookup y = some c ∧ c < s.heap.objs.size := fun {y c} hm => by
    rcases cloFrom_mem hm with hm | ⟨h1, rfl⟩
    · cases hm
    · obtain ⟨c, hc⟩ := S.free _ h1 rfl
      rw [hc]
      obtain ⟨w, z⟩ := I.cell _ _ hc
      exact ⟨rfl, z.lt⟩
  have has : ∀ {y}, (y, NameKind.free) ∈ scope.names → ∃ c, (cloFrom X.env.cells scope.names []).lookup y = some c ∧ X.env.cells.lookup y = some c := fun {y} hy => by
    obtain ⟨c', e'⟩ := mem_lookup (cloFrom_has (cells := X.env.cells) (acc := []) hy)
    exact ⟨c', e', (cm (PySem.mem_of_lookup e')).1⟩
  have hC : H s.heap.objs.size = none := I.hok.fresh (Nat.le_refl _)
  have hHa : H a = none := I.hok.fresh (Nat.le_of_lt hlt)
  refine ⟨⟨I.ok.mod, S.kind, I.ok.glob, rfl, Nat.le_refl _, fun y z c e1 e2 => I.ok.inj y z c (cm (PySem.mem_of_lookup e1)).1 (cm (PySem.mem_of_lookup e2)).1, fun y hy => ?_, fun y c z _ => (nomatch z), fun _ => hA, hf, .inr ⟨rfl, rfl⟩, fun b hb => ⟨?_, fun y c e z => ?_⟩,
    I.bs, Nat.le_trans I.ok.bsz I.sz, fun b o e hb => ?_, fun b hb z => ?_, I.stack, I.stkFree⟩, hos, hg, Un.kept k, ⟨m, hm, fun i y v h1 h2 h3 => ?_⟩, fun y c e => ?_, hC, fun y c e => ?_, fun p hp => ?_, I.hok.kept k, ?_⟩
  · rcases hy with hy | hy
    · exact absurd rfl (S.cell _ (PySem.mem_of_lookup hy))
    · obtain ⟨c, h1, _⟩ := has (PySem.mem_of_lookup hy)
      exact ⟨c, h1⟩
  · exact Nat.ne_of_lt (hfp b hb).2
  · exact (hfp b hb).1.2.2.2.2.1 y c (cm (PySem.mem_of_lookup e)).1 z
  · have := (hfp b hb).1.1
    have hbs := I.bs b o e
    obtain ⟨_, _, _, h4, _⟩ := (hfp b hb).1
    rcases h4 with h4 | h4
    · exact I.ok.noex b o e h4
    · have := I.ok.bs b o e
      exact absurd (Nat.lt_of_lt_of_le (Heap.lt_size this.1) h4) (Nat.lt_irrefl _)
  · rcases List.mem_cons.mp (I.stkSub b z) with e | e
    · exact (hfp b hb).1.2.1 e
    · exact (hfp b hb).1.2.2.1 e
  · cases i with
    | zero => cases h2
    | succ i =>
      have h1' : (fr.map (·.1))[i]? = some y := h1
      have h2' : (fr.map fun p => (σ[p.2]?).join)[i]? = some (some v) := h2
      rw [List.getElem?_map] at h1' h2'
      obtain ⟨p, hp, rfl⟩ := Option.map_eq_some_iff.mp h1'
      rw [hp] at h2'
      have e2 : (σ[p.2]?).join = some v := Option.some.inj h2'
      have e3 : σ[p.2]? = some (some v) := by
        cases q : σ[p.2]? with
        | none => rw [q] at e2; cases e2
        | some o => rw [q] at e2; exact congrArg some e2
      obtain ⟨f1, f2, f3⟩ := F.at_ p (List.mem_of_getElem? hp)
      obtain ⟨mm, _, hl⟩ := I.loc
      obtain ⟨u, ru, lk⟩ := hl p.2 p.1 v f1 e3 (.inr f3)
      refine ⟨u, ru, .inr ⟨.inr f2, ?_⟩⟩
      rcases lk with ⟨e, _⟩ | ⟨_, c, e, z⟩
      · rcases f3 with f3 | f3
        · rw [show X.env.kindOf p.1 = some .cell from f3] at e; cases e
        · rw [show X.env.kindOf p.1 = some .free from f3] at e; cases e
      · obtain ⟨c2, g1, g2⟩ := has (PySem.mem_of_lookup f2)
        rw [e] at g2
        cases g2
        obtain ⟨o, ho, hd⟩ := z
        exact ⟨c, g1, o, k c o ho, hd⟩
  · obtain ⟨v, o, ho, hd⟩ := I.cell y c (cm (PySem.mem_of_lookup e)).1
    exact ⟨v, o, k c o ho, hd⟩
  · exact I.freeC y c (cm (PySem.mem_of_lookup e)).1
  · have e : p = (a, go) := by simpa [gnX] using hp
    subst e
    refine ⟨ha, hHa, (Nat.ne_of_lt hlt).symm, fun z => ?_, hgo⟩
    obtain ⟨_, o, ho, _⟩ := I.stack.mem z
    exact absurd (Nat.lt_trans hlt (Heap.lt_size ho)) (Nat.lt_irrefl _)
  · show (none :: fr.map _).length = (x :: fr.map _).length
    simp
end

/-! ## the frame's turns -/
/-- at a pause: i items are walked -/
def Pse (Xg : Cx) (pins : List (Addr × Obj)) (σ0 : L2.St) (tn : Nat → Heap → Prop) (fp : List Addr) (G : Nat) (R : Hp → Prop) (i : Nat) (s : Shared) : Prop :=
  G < s.gens.size ∧ ∃ H, Inv Xg pins σ0 H s ∧ tn i s.heap ∧ (∀ b ∈ fp, H b = none) ∧ R H
def gnR (Xg : Cx) (pins : List (Addr × Obj)) (σ0 : L2.St) (fp : List Addr) (G : Nat) (Z : Bool → Hp → Prop) : Nat → Shared → Shared → Prop := fun m _ s₁ => m = 0 ∧ G < s₁.gens.size ∧ ∃ H, Inv Xg pins σ0 H s₁ ∧ (∀ b ∈ fp, H b = none) ∧ Z true H
def gnW (W : Nat → Hp → Prop) (Z : Bool → Hp → Prop) (i : Nat) (b : Bool) : Hp → Prop := fun H => if b = true then W (i + 1) H else Z false H
def gnY (Xg : Cx) (pins : List (Addr × Obj)) (σ0 : L2.St) (tn : Nat → Heap → Prop) (fp : List Addr) (G n : Nat) (W : Nat → Hp → Prop) (Z : Bool → Hp → Prop) : Protocol := fun m _ v s₁ kap =>
  ∃ i b, i + m + 1 = n ∧ v = Value.bool b ∧ Pse Xg pins σ0 tn fp G (gnW W Z i b) (i + 1) s₁ ∧ ∀ s'', Pse Xg pins σ0 tn fp G (W (i + 1)) (i + 1) s'' → kap (.send .none) s''
abbrev geX (elt iter : Expr) (x : Str) (px : Pos) (scope : Scope) (pos : Pos) : Expr := .GeneratorExp elt [⟨.Name x px, iter, [], 0⟩] scope pos
section
variable {Xg : Cx} {A : Around} {pins : List (Addr × Obj)} {σ0 : L2.St} {fp : List Addr} {tn : Nat → Heap → Prop} {J : It} {it : Addr} {elt iter : Expr} {x : Str} {px pos : Pos} {scope : Scope} {te : TE} {n G : Nat} {W : Nat → Hp → Prop} {Z : Bool → Hp → Prop}
/-- what the walk asks -/
structure GnOk (Xg : Cx) (A : Around) (pins : List (Addr × Obj)) (σ0 : L2.St) (fp : List Addr) (tn : Nat → Heap → Prop) (J : It) (it : Addr) (elt iter : Expr) (x : Str) (px pos : Pos) (scope : Scope) (te : TE) (n : Nat) (W : Nat → Hp → Prop) (Z : Bool → Hp → Prop) : Prop where
  hA : Xg.A = A.over (.compLoop (geX elt iter x px scope pos) 0 (.ref it) .none Xg.env) []
  hT : Turn Xg.prog Xg.w Xg.K (.Name x px) J fp it tn
  calm : Xg.calm = true
  xe : Xg.xe = fun _ _ => False
  stat : ∀ {H : Hp}, (∀ b ∈ fp, H b = none) → ∀ b ∈ fp, FpOk Xg pins H b
  pg : PG Xg (.Name x px) (gName 0)
  pe : PE Xg elt te
  co : Xg.env.scope.isCoroutine = false
  hσ : ∃ r, σ0 = none :: r
  hW : ∀ i H, i < n → W i H → J.go i H ∧ ∀ x H', J.yld i H x H' → te (σ0.set 0 (some x)) H' fun v H3 => ∃ b, v = .bl b ∧ gnW W Z i b H3
  hE : ∀ H, W n H → J.stop n H ∧ Z true H
theorem seg_gl (K : GnOk Xg A pins σ0 fp tn J it elt iter x px pos scope te n W Z) : ∀ (k i : Nat) (s₀ s : Shared), n - i = k → i ≤ n → Pse Xg pins σ0 tn fp G (W i) i s →
    Seg (model Xg.prog Xg.w) A (fun m s₀ r s₁ => r = .ok .next ∧ gnR Xg pins σ0 fp G Z m s₀ s₁) (gnY Xg pins σ0 tn fp G n W Z) (n - i) s₀ (.compLoop (geX elt iter x px scope pos) 0 (.ref it) .none Xg.env)
      ((model Xg.prog Xg.w).den (.compLoop (geX elt iter x px scope pos) 0 (.ref it) .none Xg.env)) [] s := by
  have hxe : ∀ {α : Type} {t : Sem α} {Q Q' : α → Shared → Prop} {E : Value → Shared → Prop} {s : Shared}, wpAny (model Xg.prog Xg.w) Xg.A t Q Xg.xe s → (∀ a s, Q a s → Q' a s) → wpAny (model Xg.prog Xg.w) Xg.A t Q' E s := fun {α t Q Q' E s} h hq => by
    rw [K.xe] at h
    exact thnF h hq
  intro k
  induction k with
  | zero =>
    intro i s₀ s hk hi hP
    have hin : i = n := by omega
    subst hin
    obtain ⟨hG, H, I, st, nf, w⟩ := hP
    show Seg _ A _ _ _ s₀ _ ((compTurn (geX elt iter x px scope pos) 0 (.ref it) .none Xg.env).onRaise (leaving Xg.env)) [] s
    rw [compTurn_gen, Sem.onRaise_eq_wrap]
    refine seg_bind_wrap (wpAny_standAt ?_)
    refine seg_bind_wrap ?_
    rw [← K.hA]
    obtain ⟨stop, z⟩ := K.hE H w
    refine GenW.wpAny_gsz (n := G + 1) hG (thnF (K.hT.done Xg rfl rfl rfl K.calm i pins s σ0 H (fun _ _ => False) I (K.stat nf) st stop) fun r s6 ⟨hr, I6⟩ => ?_)
    subst hr
    intro hG6
    exact seg_end (.ok .next) ⟨rfl, Nat.sub_self _, hG6, H, I6, nf, z⟩
  | succ k ih =>
    intro i s₀ s hk hi hP
    have hlt : i < n := by omega
    obtain ⟨hG, H, I, st, nf, w⟩ := hP
    show Seg _ A _ _ _ s₀ _ ((compTurn (geX elt iter x px scope pos) 0 (.ref it) .none Xg.env).onRaise (leaving Xg.env)) [] s
    rw [compTurn_gen, Sem.onRaise_eq_wrap]
    refine seg_bind_wrap (wpAny_standAt ?_)
    refine seg_bind_wrap ?_
    rw [← K.hA]
    obtain ⟨go, step⟩ := K.hW i H hlt w
    refine GenW.wpAny_gsz (n := G + 1) hG (thnF (K.hT.item Xg rfl rfl rfl K.calm i pins s σ0 H (fun _ _ => False) I (K.stat nf) st go) fun r s6 ⟨u, hr, h6⟩ => ?_)
    subst hr
    intro hG6
    refine seg_bind_wrap ?_
    rw [← K.hA]
    refine GenW.wpAny_gsz (n := G + 1) hG6 (thnF h6 fun _ s7 ⟨v, H7, I7, r7, y7, st7, n7⟩ => ?_)
    intro hG7
    have I7' := I7.pinned (K.stat n7) (K.hT.obj _ _ st7)
    refine seg_bind_wrap ?_
    rw [← K.hA]
    refine GenW.wpAny_gsz (n := G + 1) hG7 (hxe (K.pg.run (pins ++ pinsAt fp s7.heap) s7 σ0 H7 v u (fun σ2 H2 => σ2 = σ0.set 0 (some v) ∧ te σ2 H2 fun v H3 => ∃ b, v = .bl b ∧ gnW W Z i b H3) I7' r7 ⟨rfl, step v H7 y7⟩) fun _ s8 ⟨σ8, H8, I8, e8, q8⟩ => ?_)
    subst e8
    intro hG8
    obtain ⟨rr, hσ⟩ := K.hσ
    have hy : ∀ v, yieldOut Xg.env v = yieldValue v := fun v => by simp only [yieldOut, K.co, Bool.false_eq_true, if_false]
    simp only [List.forIn_nil, hy]
    refine seg_bind_wrap (wpAny_pure ?_)
    simp only [if_true]
    rw [Sem.bind_eq_wrap', Sem.bind_eq_wrap', Sem.wrap_wrap, Sem.wrap_wrap]
    refine seg_wrap ?_
    rw [← K.hA]
    refine GenW.wpAny_gsz (n := G + 1) hG8 (hxe (K.pe.run _ s8 _ H8 _ I8 q8) fun y s9 ⟨z, H9, I9, r9, bb, e9, q9⟩ => ?_)
    subst e9
    cases r9
    intro hG9
    have pin' : ∀ b ∈ fp, ∀ o, s7.heap.get? b = some o → s9.heap.get? b = some o ∧ H9 b = none := fun b hb o e =>
      let z := I9.pin (b, o) (List.mem_append_right _ (List.mem_append_right _ (mem_pinsAt hb e)))
      ⟨z.1, z.2.1⟩
    have I10 : Inv Xg pins σ0 H9 s9 := (I9.unpinned (pins := pins)).weak (by simp) fun j w e => by
      rw [hσ] at e ⊢
      cases j with
      | zero => cases e
      | succ j => exact e
    have hm : n - i = n - (i + 1) + 1 := by omega
    rw [hm]
    refine seg_at (seg_yield rfl rfl rfl ⟨i, bb, by omega, rfl, ⟨hG9, H9, I10, K.hT.keep _ _ _ st7 fun b hb o e => (pin' b hb o e).1, fun b hb => ?_, q9⟩, fun s'' hP => ?_⟩)
    · obtain ⟨o, e, _⟩ := K.hT.obj _ _ st7 b hb
      exact (pin' b hb o e).2
    · exact seg_again rfl (ih (i + 1) s'' s'' (by omega) hlt hP)
/-- from its start -/
theorem seg_gs (K : GnOk Xg A pins σ0 fp tn J it elt iter x px pos scope te n W Z) (s₀ s : Shared) (hP : Pse Xg pins σ0 tn fp G (W 0) 0 s) :
    Seg (model Xg.prog Xg.w) A (fun m s₀ r s₁ => r = .ok .next ∧ gnR Xg pins σ0 fp G Z m s₀ s₁) (gnY Xg pins σ0 tn fp G n W Z) n s₀ (.compStart (geX elt iter x px scope pos) 0 (.ref it) .none Xg.env)
      ((model Xg.prog Xg.w).den (.compStart (geX elt iter x px scope pos) 0 (.ref it) .none Xg.env)) [] s := by
  have loop := seg_gl K n 0 s₀ s (Nat.sub_zero _) (Nat.zero_le _) hP
  rw [Nat.sub_zero] at loop
  show Seg _ A _ _ _ s₀ _ ((compStart (geX elt iter x px scope pos) 0 (.ref it) .none Xg.env).onRaise (leaving Xg.env)) [] s
  unfold compStart
  rw [Sem.onRaise_eq_wrap]
  show Seg _ A _ _ _ s₀ _ ((ask >>= _).wrap _ _ _ _) [] s
  refine seg_bind_wrap (wpAny_askSetting ?_)
  obtain ⟨_, H, I, st, _⟩ := hP
  split
  · exact seg_again rfl loop
  · first
      | exact seg_bind_wrap (wpAny_rule (seg_bind_wrap (wpAny_standAt (seg_bind_wrap (K.hT.self _ 0 s _ _ st (seg_again rfl loop))))))
      | (refine seg_bind_wrap (wpAny_rule ?_); show Seg _ A _ _ _ s₀ _ ((standAt iter.pos >>= _).wrap _ _ _ _) [] s; exact seg_bind_wrap (wpAny_standAt (seg_bind_wrap (K.hT.self _ 0 s _ _ st (seg_again rfl loop)))))

/-! ## all over it -/
def GnAt (Xg : Cx) (A : Around) (pins : List (Addr × Obj)) (σ0 : L2.St) (fp : List Addr) (tn : Nat → Heap → Prop) (n : Nat) (W : Nat → Hp → Prop) (Z : Bool → Hp → Prop) (g i : Nat) (s : Shared) : Prop :=
  ∃ gs, s.gens[g]? = some gs ∧ Pse Xg pins σ0 tn fp g (W i) i s ∧ ∀ s'', Pse Xg pins σ0 tn fp g (W i) i s'' →
    gs.Goes (model Xg.prog Xg.w) A (fun m s₀ r s₁ => r = .ok .next ∧ gnR Xg pins σ0 fp g Z m s₀ s₁) (gnY Xg pins σ0 tn fp g n W Z) (n - i) (.send .none) s''
theorem Pse.setGen {R : Hp → Prop} {i g : Nat} {s : Shared} {y : GenState} (p : Pse Xg pins σ0 tn fp G R i s) (hy : y.bare = true) : Pse Xg pins σ0 tn fp G R i (s.setGen g y) := by
  obtain ⟨h1, H, I, h2⟩ := p
  exact ⟨by rw [GenW.setGen_size]; exact h1, H, Inv.setGen I hy, h2⟩
theorem gens_some {g : Nat} {s : Shared} (h : g < s.gens.size) : ∃ gs, s.gens[g]? = some gs := ⟨_, Array.getElem?_eq_getElem h⟩
theorem all_loopG {Ab : Around} {a : Addr} {g : Nat} {go : Obj} {nm qn : Value} {Rr : Result → Shared → Prop} (K : GnOk Xg Ab.in1.in1 pins σ0 fp tn J it elt iter x px pos scope te n W Z) (hh : Ab.handled = none) (hroom : Ab.depth < recursionLimit)
    (hp : (a, go) ∈ pins) (hgo : go.cls = .type "generator" ∧ go.data = .fields #[.int g 0, nm, qn] ∧ go.slots = #[])
    (hR : ∀ b s' H', Inv Xg pins σ0 H' s' → (∀ b ∈ fp, H' b = none) → Z b H' → Rr (.ok (.ret (.bool b))) s') : ∀ (k i : Nat) (s : Shared), n - i = k → i ≤ n → GnAt Xg Ab.in1.in1 pins σ0 fp tn n W Z g i s →
    codeAny (model Xg.prog Xg.w) Ab (.builtin "all.loop" ⟨[.ref a], []⟩) Rr s := by
  have isg : ∀ {σ : L2.St} {H : Hp} {s : Shared}, Inv Xg pins σ H s → s.heap.IsGen a g := fun {σ H s} I => ⟨go, nm, qn, (I.pin (a, go) (List.mem_append_right _ hp)).1, hgo⟩
  intro k
  induction k with
  | zero =>
    intro i s hk hi hat
    have hin : i = n := by omega
    subst hin
    obtain ⟨gs, hgs, P, hgo2⟩ := hat
    obtain ⟨hG, H, I, st, nf, w⟩ := id P
    refine codeAny_builtin F.entry_all_loop ?_
    rw [Around.under_plainId F.plain_all_loop _]
    show wpAny _ Ab.in1 (pyNext (.ref a) >>= _) _ _ s
    rw [Nat.sub_self] at hgo2
    refine wpAny_bind (wpAny_pyNext_genexpQ (P := fun m s₀ s₁ => gnR Xg pins σ0 fp g Z m s₀ s₁) hh I.nolimit hroom (isg I) hgs (hgo2 _ (P.setGen rfl)) (fun v s₁ gs' hb hv => ?_) fun s₁ hp1 h' hk' => ?_)
    · obtain ⟨i', b, e, rfl, P1, kk⟩ := hv
      obtain ⟨hG1, H1, I1, st1, nf1, w1⟩ := id P1
      refine wpAny_bind (wpAny_holding (wpAny_truthy_bool ?_))
      refine wpAny_bind (wpAny_letGo ?_)
      cases b with
      | true => exact (kk s₁ P1).elim
      | false =>
        unfold gnW at w1
        simp only [Bool.false_eq_true, if_false] at w1 ⊢
        refine wpAny_bind (wpAny_rule (wpAny_pure ?_))
        exact hR false _ H1 (Inv.setGen I1 hb) nf1 w1
    · obtain ⟨_, hG1, H1, I1, nf1, z1⟩ := hp1
      refine wpAny_bind (wpAny_rule (wpAny_pure ?_))
      exact hR true _ H1 ((Inv.setGen I1 (x := .finished) rfl).kept (t' := s₁.toks) hk') nf1 z1
  | succ k ih =>
    intro i s hk hi hat
    have hlt : i < n := by omega
    obtain ⟨gs, hgs, P, hgo2⟩ := hat
    obtain ⟨hG, H, I, st, nf, w⟩ := id P
    refine codeAny_builtin F.entry_all_loop ?_
    rw [Around.under_plainId F.plain_all_loop _]
    show wpAny _ Ab.in1 (pyNext (.ref a) >>= _) _ _ s
    have hm : n - i = n - (i + 1) + 1 := by omega
    rw [hm] at hgo2
    refine wpAny_bind (wpAny_pyNext_genexpQ (P := fun m s₀ s₁ => gnR Xg pins σ0 fp g Z m s₀ s₁) hh I.nolimit hroom (isg I) hgs (hgo2 _ (P.setGen rfl)) (fun v s₁ gs' hb hv => ?_) fun s₁ hp1 h' hk' => ?_)
    · obtain ⟨i', b, e, rfl, P1, kk⟩ := hv
      have ei : i' = i := by omega
      subst ei
      obtain ⟨hG1, H1, I1, st1, nf1, w1⟩ := id P1
      refine wpAny_bind (wpAny_holding (wpAny_truthy_bool ?_))
      refine wpAny_bind (wpAny_letGo ?_)
      unfold gnW at w1
      cases b with
      | true =>
        simp only [if_true] at w1 ⊢
        obtain ⟨gs0, hgs0⟩ := gens_some hG1
        refine wpAny_pure ⟨plainId_quiet F.plain_all_loop _, ih (i' + 1) _ (by omega) hlt ⟨gs', setGen_self hgs0, Pse.setGen ⟨hG1, H1, I1, st1, nf1, w1⟩ hb, fun s'' hP => ?_⟩⟩
        exact kk s'' hP
      | false =>
        simp only [Bool.false_eq_true, if_false] at w1 ⊢
        refine wpAny_bind (wpAny_rule (wpAny_pure ?_))
        exact hR false _ H1 (Inv.setGen I1 hb) nf1 w1
    · obtain ⟨h0, _⟩ := hp1
      omega
end

/-! ## all(elt for x in iter) -/
def gnT (X : Cx) (scope : Scope) (x : Str) (fr : List (Str × Nat)) (k : Nat) (elt : Expr) : TE := fun σ' H' Q => ∀ (s : Shared) (H0 : Hp) (C : Addr) (code : Value) (A' : Around) (fp : List Addr), Room k A' → we (gnX X scope s H0 C code A' fp (frN x fr)) elt σ' H' Q
def tAllG (P : Addr) (wi : TI) (te : TE) (σ0 : L2.St) : TE := fun σ H Q => wi σ H fun J H1 => TabG H1 P ∧ ∀ H2, GxR.Tabbed P H1 H2 → ∃ (n : Nat) (W : Nat → Hp → Prop), W 0 H2 ∧
  (∀ i H3, i < n → W i H3 → J.go i H3 ∧ ∀ x H4, J.yld i H3 x H4 → te (σ0.set 0 (some x)) H4 fun v H5 => ∃ b, v = .bl b ∧ gnW W (fun b H => Q (.bl b) H) i b H5) ∧ ∀ H3, W n H3 → J.stop n H3 ∧ Q (.bl true) H3
theorem room_gen {X : Cx} {k : Nat} {ge : Expr} {it : Addr} {env : Env} {elt iter : Expr} {x : Str} {px pos : Pos} {scope : Scope} (h : Room (k + 1) X.A) (e : ge = geX elt iter x px scope pos) : Room k (X.A.in1.in1.over (.compLoop ge 0 (.ref it) .none env) []) := by
  subst e
  have hd : (X.A.in1.in1.over (.compLoop (geX elt iter x px scope pos) 0 (.ref it) .none env) []).depth = X.A.depth + 1 := rfl
  have hu : (X.A.in1.in1.over (.compLoop (geX elt iter x px scope pos) 0 (.ref it) .none env) []).units = X.A.units + 1 + 1 + 3 := rfl
  exact ⟨h.hd, by rw [hd]; have := h.dp; omega, by rw [hu]; have := h.un; omega⟩
theorem pe_allG {X : Cx} {c P : Addr} {elt iter : Expr} {x : Str} {px p pos gpos : Pos} {scope : Scope} {wi : TI} {fr : List (Str × Nat)} {k : Nat}
    (hr : Room (k + 1) X.A) (hg : Gl X "all") (hm : X.mg "all" = none) (TB : TabB X.base X.mg c P) (hcode : X.env.code = .ref c) (S : GenS X.env scope x) (hF : Frs X scope x fr) (hi : PI X (.Name x px) iter wi)
    (hs : ∀ v, genFold iter X.env v = pure v)
    (he : starEach [.GeneratorExp elt [⟨.Name x px, iter, [], 0⟩] scope gpos] X.env = (false, eval (.GeneratorExp elt [⟨.Name x px, iter, [], 0⟩] scope gpos) X.env) :: starEach [] X.env := by rfl) :
    PE X (.Call (.Name "all" p) [.GeneratorExp elt [⟨.Name x px, iter, [], 0⟩] scope gpos] [] pos) (fun σ => tAllG P wi (gnT X scope x fr k elt) (frS fr σ) σ) := by
  refine ⟨fun pins s σ H Q I h => wpAny_Call_Name_kw (ld_blt I hg hm PyProof.Rows.boot_all (PyProof.Rows.callWith_builtin1 ?_ he (by rfl)))⟩
  rw [he]
  show wpAny _ _ (spliced ((false, eval (.GeneratorExp elt [⟨.Name x px, iter, [], 0⟩] scope gpos) X.env) :: backTo pos (starEach [] X.env))) _ _ s
  have hroom : X.A.depth < recursionLimit := by have := hr.dp; omega
  refine Calls.spliced_cons (wpAny_GeneratorExp_make S.co (closure_ok S.free) S.cell S.dot S.kind hroom ?_ hs)
  refine thn (hi.run pins s σ H _ I h) fun xv s1 hx => thn hx fun itv s2 h2 => ?_
  obtain ⟨it, fp, tn, J, H2, e, I2, T, st2, f2, ⟨ps, hP, ht⟩, q⟩ := h2
  subst e
  refine ⟨I2.nolimit, ?_⟩
  have pAt : s2.heap.get? P = some { cls := .none, data := .fields ps } := I2.hok P _ hP
  have pLt : P < s2.heap.objs.size := Heap.lt_size pAt
  have code0 : PySem.W.CodeHd s2.heap c P := TB.code.keeps I2.bk
  have baseP : ∀ b u, X.base.get? b = some u → b ≠ P := fun b u e z => by
    have q := (I2.bs b u e).2
    rw [z, hP] at q
    cases q
  -- behind the code object, found or made
  have rest : ∀ (code : Value) (h3 : Heap) (tk : Nat) (qs : Array Value), Heap.ExtBut P s2.heap h3 → s2.heap.objs.size ≤ h3.objs.size → h3.get? P = some { cls := .none, data := .fields qs } → (∃ more, qs = ps ++ more) → TriplesOk qs.toList →
      wpAny (model X.prog X.w) X.A (builtinsFor X.env.globals X.env.builtins) (fun bi s₄ => ∀ h', h'.Ns s₄.heap.objs.size (fun y => if y = ".0" then some (.ref it) else none) → Heap.SameBut s₄.heap.objs.size (s₄.heap.push { cls := .type "frame", data := .dict #[] }) h' →
          wpAny (model X.prog X.w) X.A (spliced (backTo pos (starEach [] X.env))) (fun us s' => wpAny (model X.prog X.w) X.A (call (.builtin "all") (.ref h'.objs.size :: us)) (EP X pins σ Q) X.xe s') X.xe { s₄ with
            gens := s₄.gens.push (.fresh (.compStart (.GeneratorExp elt [⟨.Name x px, iter, [], 0⟩] scope gpos) 0 (.ref it) .none (genEnv scope (cloFrom X.env.cells scope.names []) s₄.heap.objs.size code bi X.env))),
            toks := s₄.toks + 1 + 1 + 1,
            heap := h'.push { cls := .type "generator", data := .fields #[.int s₄.gens.size 0, .str "<genexpr>" (s₄.toks + 1), .str (X.env.qual ++ "<genexpr>") (s₄.toks + 1 + 1)] } }) X.xe { s2 with heap := h3, toks := tk } := by
    intro code h3 tk qs hx3 hsz pAt3 ⟨more, em⟩ ht3
    obtain ⟨bm, ob, e1, e2, e3, e4, e5, e6, e7, e8⟩ := TB.bm
    have up3 : ∀ b u, b ≠ P → s2.heap.get? b = some u → h3.get? b = some u := fun b u hb e => hx3 b u hb e
    refine wpAny_builtinsFor (m := X.mg) (by rw [I2.ok.glob]; exact (I2.mod.glob.keeps I2.bk).extBut hx3 TB.gP) e1 e2 (up3 _ _ e4 (I2.bk _ _ e5)) e6 e7 e8 ?_
    intro h' hn' hs'
    have I4 : Inv X pins σ (upd H2 P (.tbl (ps ++ more))) { s2 with heap := h3, toks := tk } :=
      GxR.inv_tab (more := more) (h' := h3) (g' := s2.gens) (d' := s2.drawn) (t' := tk) I2 hP up3 (by rw [← em]; exact pAt3) I2.bare
    have f4 : ∀ b ∈ fp, FpOk X pins (upd H2 P (.tbl (ps ++ more))) b ∧ b < h3.objs.size := fun b hb => by
      have f := f2 b hb
      have hne : b ≠ P := fun z => by
        have := f.1
        rw [z, hP] at this
        cases this
      obtain ⟨o, eo, _⟩ := T.obj _ _ st2 b hb
      exact ⟨⟨by rw [upd_ne hne]; exact f.1, f.2⟩, Nat.lt_of_lt_of_le (Heap.lt_size eo) hsz⟩
    have tb : GxR.Tabbed P H2 (upd H2 P (.tbl (ps ++ more))) := ⟨⟨ps ++ more, upd_same, by rw [← em]; exact ht3⟩, fun b hb => upd_ne hb⟩
    obtain ⟨n, W, w0, hW, hE⟩ := q _ tb
    generalize hH4 : upd H2 P (.tbl (ps ++ more)) = H4 at I4 f4 w0
    have hsz' : h'.objs.size = h3.objs.size + 1 := by rw [hs'.1, Heap.size_push]
    have keep' : ∀ b o, h3.get? b = some o → h'.get? b = some o := fun b o e => hs'.extBut b o (Nat.ne_of_lt (Heap.lt_size e)) (Heap.get?_push_of_some _ e)
    have keep5 : ∀ b o, h3.get? b = some o → (h'.push { cls := .type "generator", data := .fields #[.int s2.gens.size 0, .str "<genexpr>" (tk + 1), .str (X.env.qual ++ "<genexpr>") (tk + 1 + 1)] }).get? b = some o := fun b o e => Heap.get?_push_of_some _ (keep' b o e)
    show wpAny (model X.prog X.w) X.A (spliced (backTo pos (starEach [] X.env))) (fun us s' => wpAny (model X.prog X.w) X.A (call (.builtin "all") (.ref h'.objs.size :: us)) (EP X pins σ Q) X.xe s') X.xe { s2 with
            gens := s2.gens.push (.fresh (.compStart (.GeneratorExp elt [⟨.Name x px, iter, [], 0⟩] scope gpos) 0 (.ref it) .none (genEnv scope (cloFrom X.env.cells scope.names []) h3.objs.size code builtinsNs X.env))),
            toks := tk + 1 + 1 + 1,
            heap := h'.push { cls := .type "generator", data := .fields #[.int s2.gens.size 0, .str "<genexpr>" (tk + 1), .str (X.env.qual ++ "<genexpr>") (tk + 1 + 1)] } }
    generalize hgo : ({ cls := .type "generator", data := .fields #[.int s2.gens.size 0, .str "<genexpr>" (tk + 1), .str (X.env.qual ++ "<genexpr>") (tk + 1 + 1)] } : Obj) = go at keep5
    generalize hs5 : ({ s2 with
            gens := s2.gens.push (.fresh (.compStart (.GeneratorExp elt [⟨.Name x px, iter, [], 0⟩] scope gpos) 0 (.ref it) .none (genEnv scope (cloFrom X.env.cells scope.names []) h3.objs.size code builtinsNs X.env))),
            toks := tk + 1 + 1 + 1,
            heap := h'.push go } : Shared) = s5
    have g5 : s5.gens = s2.gens.push (.fresh (.compStart (.GeneratorExp elt [⟨.Name x px, iter, [], 0⟩] scope gpos) 0 (.ref it) .none (genEnv scope (cloFrom X.env.cells scope.names []) h3.objs.size code builtinsNs X.env))) := by rw [← hs5]
    have h5 : s5.heap = h'.push go := by rw [← hs5]
    have o5 : s5.os = s2.os := by rw [← hs5]
    have ha : s5.heap.get? h'.objs.size = some go := by rw [h5]; exact Heap.get?_push_size _ (by rw [← hgo]; rfl)
    -- the frame
    have fr5 := gen_start (s5 := s5) (code := code) (a := h'.objs.size) (go := go) (A' := X.A.in1.in1.over (.compLoop (geX elt iter x px scope gpos) 0 (.ref it) .none (genEnv scope (cloFrom X.env.cells scope.names []) h3.objs.size code builtinsNs X.env)) [])
      I4 S hF f4 hr.hd (by
        show pushEnvs [genEnv scope (cloFrom X.env.cells scope.names []) h3.objs.size code builtinsNs X.env] (pushEnvs [] X.A.frames) = _
        rw [I2.ok.frames]
        rfl) (fun b o e => by rw [h5]; exact keep5 b o e) (by rw [h5]; exact hn'.push _) o5 (by rw [g5]; exact I2.bare.push rfl) ha (by rw [hsz']; exact Nat.lt_succ_self _) (fun v z => by rw [← hgo] at z; cases z)
    have ex5 := fr5.ok
    have K : GnOk (gnX X scope { s2 with heap := h3, toks := tk } H4 h3.objs.size code (X.A.in1.in1.over (.compLoop (geX elt iter x px scope gpos) 0 (.ref it) .none (genEnv scope (cloFrom X.env.cells scope.names []) h3.objs.size code builtinsNs X.env)) []) fp (frN x fr))
        X.A.in1.in1 [(h'.objs.size, go)] (frS fr σ) fp tn J it elt iter x px gpos scope (gnT X scope x fr k elt) n W (fun b H => Q (.bl b) H) := {
      hA := rfl
      hT := T
      calm := rfl
      xe := rfl
      stat := fun {H} hn b hb => ⟨hn b hb, (ex5.exf b hb).1, ex5.exfs b hb, .inl hb, fun y c e => (ex5.exf b hb).2 y c e, fun p hp z => by
        have e : p = (h'.objs.size, go) := by simpa [gnX] using hp
        rw [e] at z
        have z : h'.objs.size = b := z
        have h9 : b < h3.objs.size := (f4 b hb).2
        rw [← z] at h9
        have h7 : h3.objs.size + 1 < h3.objs.size := by
          have h8 : h'.objs.size < h3.objs.size := h9
          rw [hsz'] at h8
          exact h8
        exact Nat.lt_irrefl _ (Nat.lt_trans h7 (Nat.lt_succ_self _))⟩
      pg := pg_name hF.nd rfl (.inl S.loc) (.inr S.loc)
      pe := ⟨fun pins s σ H Q I h => we_run (h _ _ _ _ _ _ (room_gen hr rfl)) pins s I⟩
      co := S.co
      hσ := ⟨_, rfl⟩
      hW := hW
      hE := hE }
    refine Calls.spliced_nil (call_function_tree F.kind_all F.plain_all F.entry_all (F.args_all1 _) ?_)
    unfold Builtin.«all»
    refine wpAny_bind (m := oneArg "all" _) (wpAny_pure ?_)
    have isg : s5.heap.IsGen h'.objs.size s2.gens.size := ⟨go, _, _, ha, by rw [← hgo], by rw [← hgo], by rw [← hgo]⟩
    refine wpAny_bind (wpAny_pyIter_gen isg ?_)
    have hlt : s2.gens.size < s5.gens.size := by rw [g5, Array.size_push]; exact Nat.lt_succ_self _
    refine wpAny_pure ⟨plainId_quiet F.plain_all_loop _, all_loopG (g := s2.gens.size) (go := go) (nm := .str "<genexpr>" (tk + 1)) (qn := .str (X.env.qual ++ "<genexpr>") (tk + 1 + 1)) K hr.hd hroom (List.mem_singleton.mpr rfl) (by rw [← hgo]; exact ⟨rfl, rfl, rfl⟩)
      (fun b s' H' I' nf z => ?_) n 0 s5 (Nat.sub_zero _) (Nat.zero_le _) ⟨_, by rw [g5]; exact Array.getElem?_push_size .., ⟨hlt, H4, fr5, T.keep _ _ _ st2 fun b hb o e => ?_, fun b hb => (f4 b hb).1.1, w0⟩, fun s'' hP => ?_⟩⟩
    · exact ⟨.bl b, H', I4.call' (ch := fp) I'.os I'.base I'.hok I'.bare fun b hb => ⟨(f4 b hb).1.2.2.2.1, (f4 b hb).1.2.1, (f4 b hb).1.2.2.2.2.1, (f4 b hb).1.2.2.2.2.2⟩, rfl, z⟩
    · rw [h5]
      refine keep5 b o (up3 b o (fun z => ?_) e)
      have := (f2 b hb).1
      rw [z, hP] at this
      cases this
    · exact ⟨rfl, seg_gs K s'' s'' hP⟩
  cases hf : codeAmong gpos ps.toList with
  | none =>
    refine wpAny_genexprCodeX hcode (code0.code pAt ht) (code0.tab pAt) hf fun c' h' tk hx hge hlt hco' _ htab' _ => ?_
    obtain ⟨o1, vs, f1, tf, fl, tg, inF, tx, tt, op, _, _, _, _, _, _, _, _, _, htr, _⟩ := hco'
    exact rest _ h' tk _ hx (Nat.le_trans hge (Nat.le_of_lt hlt)) htab'.2 ⟨_, rfl⟩ htr
  | some cv =>
    refine wpAny_genexprCode_hit hcode (code0.code pAt ht) hf ?_
    exact rest cv s2.heap s2.toks ps (Heap.ExtBut.refl _ _) (Nat.le_refl _) pAt ⟨#[], by simp⟩ ht
end Cw

namespace Cw
open PySem PySem.Spec PyProof.Rows L2
open GxR (TabG TabB GenS)
theorem go_tab {T : List Addr} {B H H' : Hp} {P : Addr} (w : Wd T B H) (hP : P ∈ T) (t : GxR.Tabbed P H H') : Go T B H B H' := by
  obtain ⟨ps, hp, _⟩ := w.gd P hP
  obtain ⟨⟨qs, hq, ok⟩, rest⟩ := t
  refine ⟨⟨fun a o e => ?_, fun P' hP' => ?_⟩, Ex.rfl, fun a o e => ?_, fun a z z' => absurd z z'⟩
  · by_cases ca : a = P
    · subst ca
      rcases w.ex a o e with e | ⟨p1, p2, rfl, e⟩
      · rw [hp] at e
        cases e
        exact .inr ⟨_, _, rfl, hq⟩
      · exact .inr ⟨_, _, rfl, hq⟩
    · rw [rest a ca]
      exact w.ex a o e
  · by_cases ca : P' = P
    · subst ca
      exact ⟨qs, hq, ok⟩
    · obtain ⟨p1, e1, o1⟩ := w.gd P' hP'
      exact ⟨p1, by rw [rest P' ca]; exact e1, o1⟩
  · by_cases ca : a = P
    · subst ca
      rw [hp] at e
      cases e
      exact .inr ⟨_, _, rfl, hq⟩
    · rw [rest a ca]
      exact .inl e
theorem take_all_succ {ds : List PyData} {pb : PyData → Bool} {i : Nat} {d : PyData} (h : ds[i]? = some d) : (ds.take (i + 1)).all pb = ((ds.take i).all pb && pb d) := by
  rw [List.take_add_one, h, List.all_append]
  simp
/-- all(elt for x in a list of data), the element of any kind -/
theorem ed_allG {T : List Addr} {X : Cx} {σ : L2.St} {B : Hp} {c P : Addr} {elt iter : Expr} {x : Str} {px p pos gpos : Pos} {scope : Scope} {ds : List PyData} {pb : PyData → Bool} {fr : List (Str × Nat)} {k : Nat}
    (hr : Room (k + 1) X.A) (bi : Bi X.mg) (hP : P ∈ T) (TB : TabB X.base X.mg c P) (hcode : X.env.code = .ref c) (S : GenS X.env scope x) (hF : Frs X scope x fr) (h : ED T X iter σ B (.list ds))
    (hel : ∀ (s : Shared) (H0 : Hp) (C : Addr) (code : Value) (A' : Around) (fp : List Addr) (d : PyData) (v : V) (B1 : Hp), Room k A' → d ∈ ds → Ex B B1 → Dt B1 v d →
      ED T (gnX X scope s H0 C code A' fp (frN x fr)) elt (some v :: fr.map fun p => (σ[p.2]?).join) B1 (.bool (pb d)))
    (hg : Gl X "all" := by rfl) (hs : ∀ v, genFold iter X.env v = pure v := by intro _; rfl)
    (he : starEach [.GeneratorExp elt [⟨.Name x px, iter, [], 0⟩] scope gpos] X.env = (false, eval (.GeneratorExp elt [⟨.Name x px, iter, [], 0⟩] scope gpos) X.env) :: starEach [] X.env := by rfl) :
    ED T X (.Call (.Name "all" p) [.GeneratorExp elt [⟨.Name x px, iter, [], 0⟩] scope gpos] [] pos) σ B (.bool (ds.all pb)) := fun H w Q q =>
  we_of (pe_allG (k := k) hr hg bi.all TB hcode S hF (pi_list pwe) hs he) (h H w _ fun v B1 H1 g1 r1 => by
    obtain ⟨a, xs, rfl, ha, hds⟩ := r1.toList
    refine ⟨a, rfl, ⟨xs, .inl (.inl (g1.wd.ex.lst ha))⟩, g1.wd.gd P hP, fun H2 t => ⟨ds.length, fun i H => (ds.take i).all pb = true ∧ ∃ B', Go T B1 H1 B' H, ⟨by simp, B1, go_tab g1.wd hP t⟩, fun i H3 hi ⟨cc, B', g⟩ => ?_, fun H3 ⟨cc, B', g⟩ => ?_⟩⟩
    · obtain ⟨y, hy, ry⟩ := hds.get (List.getElem?_eq_getElem hi)
      have hq : SqL X.K H3 a xs := .inl (.inl (g.wd.ex.lst (g.eb.lst ha)))
      refine ⟨⟨xs, y, hq, hy⟩, fun x H4 ⟨e4, y4⟩ => ?_⟩
      subst e4
      have ex := y4 xs hq
      rw [hy] at ex
      cases ex
      refine fun s H0 C code A' fp hrm => hel s H0 C code A' fp ds[i] y B' hrm (List.getElem_mem hi) (g1.eb.trans g.eb) (ry.mono g.eb) _ g.wd _ fun v B5 H5 g5 r5 => ⟨pb ds[i], r5.toBool, ?_⟩
      unfold gnW
      cases e : pb ds[i] with
      | true =>
        rw [if_pos rfl]
        exact ⟨by rw [take_all_succ (List.getElem?_eq_getElem hi), cc, e]; rfl, B5, g.trans g5⟩
      | false =>
        rw [if_neg (by decide)]
        refine q _ B5 H5 ((g1.trans g).trans g5) ?_
        have : ds.all pb = false := by
          rw [List.all_eq_false]
          exact ⟨ds[i], List.getElem_mem hi, by rw [e]; decide⟩
        rw [this]
        exact .bl _
    · rw [List.take_length] at cc
      refine ⟨⟨xs, .inl (.inl (g.wd.ex.lst (g.eb.lst ha))), by rw [hds.length]; exact Nat.le_refl _⟩, q _ B' H3 (g1.trans g) ?_⟩
      rw [cc]
      exact .bl _)
end Cw

namespace Cw
open PySem PySem.Spec PyProof.Rows L2
/-! ## looms as data: a tuple of a row, rows, a row -/
def encLm (a : List Int) (b : List (List Int)) (c : List Int) : PyData := .tuple [encR a, encG b, encR c]
theorem flat_Lm (a b c) : flatP (encLm a b c) = true := by
  show (flatP (encR a) && (flatP (encG b) && (flatP (encR c) && true))) = true
  rw [flat_R, flat_G, flat_R]
  rfl
theorem depth_R (r : List Int) : PyData.depth (encR r) ≤ 1 := by
  obtain ⟨_, h2, _⟩ := lay_row r
  simp only [encR, PyData.depth]
  omega
theorem depth_G (g : List (List Int)) : PyData.depth (encG g) ≤ 2 := by
  obtain ⟨_, h2, _⟩ := lay_rows g
  simp only [encG, PyData.depth]
  omega
theorem lay_R (r : List Int) : PyData.canLay0 (encR r) = true := by
  obtain ⟨h1, _, _⟩ := lay_row r
  simp [encR, PyData.canLay0, h1]
theorem lay_G (g : List (List Int)) : PyData.canLay0 (encG g) = true := by
  obtain ⟨h1, _, _⟩ := lay_rows g
  simp [encG, PyData.canLay0, h1]
theorem shaped_Lm (a b c) : SeqAt.shaped (encLm a b c) = true := by
  unfold SeqAt.shaped
  rw [Bool.and_eq_true]
  refine ⟨?_, decide_eq_true ?_⟩
  · simp [encLm, PyData.canLay0, PyData.canLayAll0, lay_R, lay_G]
  · have h1 := depth_R a
    have h2 := depth_G b
    have h3 := depth_R c
    simp only [encLm, PyData.depth, PyData.depthAll]
    omega
theorem eqv_self {d : PyData} (h : SeqAt.shaped d = true) : PyData.eqv d d = true := SeqAt.eqv_refl d (SeqAt.canLay_of_shaped h)
section
variable {T : List Addr} {X : Cx} {a b c e o iter : Expr} {es : List Expr} {σ : L2.St} {B0 H0 B H : Hp} {pos p1 p2 p3 p4 p5 : Pos} {ss : List Sv} {D : Ends} {rest s1 : List Stmt}
theorem ec_eqD {d : PyData} {k : Nat} (hr : Room k X.A) (f : flatP d = true) (s : SeqAt.shaped d = true) (ha : ED T X a σ B d) (hb : ED T X b σ B d) : EC T X a .Eq b σ B true := by
  have := ec_eq (room_units hr) ha hb f f s s
  rw [eqv_self s] at this
  exact this
theorem ec_neD {d : PyData} {k : Nat} (hr : Room k X.A) (f : flatP d = true) (s : SeqAt.shaped d = true) (ha : ED T X a σ B d) (hb : ED T X b σ B d) : EC T X a .NotEq b σ B false := by
  have := ec_ne (room_units hr) ha hb f f s s
  rw [eqv_self s] at this
  exact this
/-! ## a tuple of a new row, new rows, a new row -/
def NewLm (B B' : Hp) (v : V) (x : List Int) (y : List (List Int)) (z : List Int) : Prop := ∃ p A1 A2 A3 rs, v = .ref p ∧ B p = none ∧ B' p = some (.tup [.ref A1, .ref A2, .ref A3]) ∧ B' A1 = some (.lst (x.map V.int)) ∧ B' A2 = some (.lst (rs.map V.ref)) ∧ B' A3 = some (.lst (z.map V.int)) ∧ RowsAt B' rs y ∧
  (∀ a ∈ A1 :: A2 :: A3 :: rs, B a = none) ∧ (p :: A1 :: A2 :: A3 :: rs).Nodup
theorem NewLm.dt {B' : Hp} {v : V} {x : List Int} {y : List (List Int)} {z : List Int} (n : NewLm B B' v x y z) : Dt B' v (encLm x y z) := by
  obtain ⟨p, A1, A2, A3, rs, rfl, _, hp, h1, h2, h3, hr, _⟩ := n
  exact .tup hp (.cons (.lst h1 (Dts.ofInts x)) (.cons (.lst h2 hr.dts) (.cons (.lst h3 (Dts.ofInts z)) .nil)))
theorem NewLm.back {A B' : Hp} {v : V} {x : List Int} {y : List (List Int)} {z : List Int} (xx : Ex A B) (n : NewLm B B' v x y z) : NewLm A B' v x y z := by
  obtain ⟨p, A1, A2, A3, rs, e, hp0, hp, h1, h2, h3, hr, hn, nd⟩ := n
  exact ⟨p, A1, A2, A3, rs, e, xx.free hp0, hp, h1, h2, h3, hr, fun a h => xx.free (hn a h), nd⟩
/-- (e1, e2, e3), each new -/
theorem en_tup3 {x : List Int} {y : List (List Int)} {z : List Int} {x1 : Nat} (ha : EV T X a σ B fun B' v => NewD B B' v (x.map .int)) (hb : ∀ C, Ex B C → EV T X b σ C fun B' v => NewG C B' v (y.map fun r => r.map .int)) (hc : ∀ C, Ex B C → EV T X c σ C fun B' v => NewD C B' v (z.map .int))
    (hs1 : starEach [a, b, c] X.env = (false, eval a X.env) :: starEach [b, c] X.env := by rfl) (hs2 : starEach [b, c] X.env = (false, eval b X.env) :: starEach [c] X.env := by rfl) (hs3 : starEach [c] X.env = (false, eval c X.env) :: starEach [] X.env := by rfl) :
    EV T X (.Tuple [a, b, c] x1 pos) σ B fun B' v => NewLm B B' v x y z := fun H w Q q => by
  refine we_of (pe_tup (pa_cons pwe (pa_cons pwe (pa_cons pwe pa_nil hs3) hs2) hs1)) (ha H w _ fun v1 B1 H1 g1 r1 => (hb B1 g1.eb) H1 g1.wd _ fun v2 B2 H2 g2 r2 => (hc B2 (g1.eb.trans g2.eb)) H2 g2.wd _ fun v3 B3 H3 g3 r3 => ?_)
  show [v1, v2, v3].length ≤ sizeLine ∧ ∀ p, H3 p = none → Q (.ref p) (upd H3 p (.tup [v1, v2, v3]))
  refine ⟨Nat.le_of_ble_eq_true rfl, fun p hp => ?_⟩
  have g := (g1.trans g2).trans g3
  have n := Go.new (o := .tup [v1, v2, v3]) g.wd hp
  have pB3 : B3 p = none := g.wd.ex.free hp
  obtain ⟨A1, ws1, rfl, hA1, hB1, d1⟩ := r1
  obtain ⟨A2, rs, rfl, hA2, hB2, hnr, hnd, rows⟩ := r2
  obtain ⟨A3, ws3, rfl, hA3, hB3, d3⟩ := r3
  rw [d1.ints] at hB1
  rw [d3.ints] at hB3
  have ra := Rws.at rows
  have up := n.eb
  have some1 : B1 A1 ≠ none := by rw [hB1]; exact fun w => nomatch w
  have some2 : B2 A2 ≠ none := by rw [hB2]; exact fun w => nomatch w
  have rsn : ∀ r ∈ rs, B1 r = none ∧ B2 r ≠ none := fun r hr => by
    obtain ⟨k, hk1, hk2⟩ := List.getElem_of_mem hr
    obtain ⟨_, _, h1, ws, h2, _⟩ := rows.get (by rw [List.getElem?_eq_getElem hk1, hk2] : rs[k]? = some r)
    exact ⟨h1, by rw [h2]; exact fun w => nomatch w⟩
  have pne : ∀ a, B3 a ≠ none → p ≠ a := fun a h e => h (e ▸ pB3)
  have to3 : ∀ a, B2 a ≠ none → B3 a ≠ none := fun a h => g3.eb.there h
  have to2 : ∀ a, B1 a ≠ none → B2 a ≠ none := fun a h => g2.eb.there h
  refine q _ _ _ (g.trans n) ⟨p, A1, A2, A3, rs, rfl, g.eb.free pB3, upd_same, up.lst (g3.eb.lst (g2.eb.lst hB1)), up.lst (g3.eb.lst hB2), up.lst hB3, ra.imp fun a _ ws h => up.lst (g3.eb.lst h), fun a ha => ?_, ?_⟩
  · rcases List.mem_cons.mp ha with rfl | ha
    · exact hA1
    rcases List.mem_cons.mp ha with rfl | ha
    · exact g1.eb.free hA2
    rcases List.mem_cons.mp ha with rfl | ha
    · exact (g1.trans g2).eb.free hA3
    · exact g1.eb.free (rsn a ha).1
  · have n12 : A1 ≠ A2 := fun e => some1 (e ▸ hA2)
    have n13 : A1 ≠ A3 := fun e => to2 _ some1 (e ▸ hA3)
    have n23 : A2 ≠ A3 := fun e => some2 (e ▸ hA3)
    have n1r : A1 ∉ rs := fun h => some1 (rsn _ h).1
    have n3r : A3 ∉ rs := fun h => (rsn _ h).2 hA3
    have b3 : B3 A3 ≠ none := by rw [hB3]; exact fun w => nomatch w
    refine List.nodup_cons.mpr ⟨fun h => ?_, List.nodup_cons.mpr ⟨fun h => ?_, List.nodup_cons.mpr ⟨fun h => ?_, List.nodup_cons.mpr ⟨n3r, hnd⟩⟩⟩⟩
    · rcases List.mem_cons.mp h with e | h
      · exact pne A1 (to3 _ (to2 _ some1)) e
      rcases List.mem_cons.mp h with e | h
      · exact pne A2 (to3 _ some2) e
      rcases List.mem_cons.mp h with e | h
      · exact pne A3 b3 e
      · exact pne p (to3 _ (rsn p h).2) rfl
    · rcases List.mem_cons.mp h with e | h
      · exact n12 e
      rcases List.mem_cons.mp h with e | h
      · exact n13 e
      · exact n1r h
    · rcases List.mem_cons.mp h with e | h
      · exact n23 e
      · exact hnr h
/-- an item of a tuple at an address -/
theorem ev_ixTV {A : Addr} {xs : List V} {i : Int} {v : V} (ha : EV T X a σ B fun _ v => v = .ref A) (hA : B A = some (.tup xs)) (hb : ED T X b σ B (.int i)) (hv : atI xs i = some v) (hs : PlainIx b := by exact fun _ _ => rfl) : EV T X (.Subscript a b pos) σ B fun _ u => u = v :=
  ev_ix (Ra := fun _ v => v = .ref A) ix_tup hs ha mono_c hb mono_dt fun B1 H1 x y x1 w r1 r2 Q q => by
    rw [r1, r2.toInt]
    exact ⟨A, xs, i, v, rfl, rfl, .inl (.inl (w.ex.tup (x1.tup hA))), hv, q _ B1 H1 (Go.rfl w) rfl⟩
/-- o.clear(): the list that o names stands beside the base -/
theorem t_clearR {A : Addr} {xs : List V} (g : Go T B0 H0 B H) (hs : Sl B σ ss) (ho : EV T X o σ B fun _ v => v = .ref A) (h0 : H0 A = none) (hB : B A = none) (hA : H A = some (.lst xs))
    (k : ∀ B' H', Go T B0 H0 B' H' → Ex B B' → Sl B' σ ss → B' A = none → H' A = some (.lst []) → wss X rest D σ H')
    (pm : ∀ {to : TE}, PE X o to → PE X (.Call (.Attribute o "clear" p2) [] [] p3) (tBM0 X.K "list" rClear to) := by
      exact fun q1 => pe_bm0 PySem.F.plainAttrs_list PySem.F.slot_list_clear PySem.F.type_list_clear mt_clear q1)
    (hsw : swapsWith (.Call (.Attribute o "clear" p2) [] [] p3) none pos.line X.env = pure false := by rfl) : wss X (.Expr (.Call (.Attribute o "clear" p2) [] [] p3) pos :: rest) D σ H := by
  refine s_cons (ws_of (ps_expr (pm pwe) hsw) ?_)
  refine ho H g.wd _ fun v B1 H1 g1 r1 => ?_
  subst r1
  have hA' := g1.eh.lst hA
  have hB' := g1.out hB (by rw [hA]; exact fun w => nomatch w)
  exact ⟨.inl ⟨rfl, xs, .inl (.inl hA')⟩, A, xs, rfl, rfl, hA', k B1 _ ((g.trans g1).mutD h0 hB' hA') g1.eb (hs.mono g1.eb) hB' upd_same⟩
/-- x, y, z = e: a tuple of three -/
theorem t_unp3 {x y z : Str} {px py pz ptu : Pos} {kt : Nat} {d1 d2 d3 : PyData} (i j l : Nat) (g : Go T B0 H0 B H) (hs : Sl B σ ss) (h : ED T X e σ B (.tuple [d1, d2, d3])) (hN : X.N.Nodup) (hc : X.calm = true)
    (k : ∀ v1 v2 v3 B' H', Go T B0 H0 B' H' → Ex B B' → Sl B' (((σ.set i (some v1)).set j (some v2)).set l (some v3)) (((ss.set i (.dat d1)).set j (.dat d2)).set l (.dat d3)) → wss X rest D (((σ.set i (some v1)).set j (some v2)).set l (some v3)) H')
    (hi : X.N[i]? = some x := by rfl) (hx : Loc X.env.scope x := by first | exact Or.inl rfl | exact Or.inr rfl) (hj : X.N[j]? = some y := by rfl) (hy : Loc X.env.scope y := by first | exact Or.inl rfl | exact Or.inr rfl) (hl : X.N[l]? = some z := by rfl) (hz : Loc X.env.scope z := by first | exact Or.inl rfl | exact Or.inr rfl)
    (hf : X.fn x = true ∨ X.env.scope.names.lookup x = some .local := by first | exact .inl rfl | exact .inr rfl | assumption) (hf2 : X.fn y = true ∨ X.env.scope.names.lookup y = some .local := by first | exact .inl rfl | exact .inr rfl | assumption) (hf3 : X.fn z = true ∨ X.env.scope.names.lookup z = some .local := by first | exact .inl rfl | exact .inr rfl | assumption)
    (n1 : (assignEach [.Name x px, .Name y py, .Name z pz] X.env).length = 3 := by rfl) (n2 : List.findIdx? (fun x => x.1) (assignEach [.Name x px, .Name y py, .Name z pz] X.env) = none := by rfl)
    (n3 : (assignEach [.Name x px, .Name y py, .Name z pz] X.env).map (·.2) = assign (.Name x px) X.env :: (assignEach [.Name y py, .Name z pz] X.env).map (·.2) := by rfl) (n4 : (assignEach [.Name y py, .Name z pz] X.env).map (·.2) = assign (.Name y py) X.env :: (assignEach [.Name z pz] X.env).map (·.2) := by rfl)
    (n5 : (assignEach [.Name z pz] X.env).map (·.2) = assign (.Name z pz) X.env :: (assignEach [] X.env).map (·.2) := by rfl)
    (hsw : swapsWithSole [.Tuple [.Name x px, .Name y py, .Name z pz] kt ptu] e pos.line X.env = pure false := by rfl) (hw : swappedStores [.Tuple [.Name x px, .Name y py, .Name z pz] kt ptu] e X.env = pure none := by rfl)
    (h1 : (assignEach [.Tuple [.Name x px, .Name y py, .Name z pz] kt ptu] X.env).map (·.2) = [assign (.Tuple [.Name x px, .Name y py, .Name z pz] kt ptu) X.env] := by rfl) :
    wss X (.Assign [.Tuple [.Name x px, .Name y py, .Name z pz] kt ptu] e pos :: rest) D σ H := by
  refine s_cons (ws_of (ps_asg pwe (pg_tup hc (pgs_cons (pg_name hN hi hx hf) (pgs_cons (pg_name hN hj hy hf2) (pgs_cons (pg_name hN hl hz hf3) pgs_nil n5) n4) n3) n1 n2) hsw hw h1) ?_)
  refine h H g.wd _ fun v B1 H1 g1 r1 => ?_
  obtain ⟨p, xs, rfl, hp, hr⟩ := r1.toTup
  cases hr with
  | cons q1 r2 =>
    cases r2 with
    | cons q2 r3 =>
      cases r3 with
      | cons q3 r4 =>
        cases r4
        refine ⟨p, _, rfl, .inl (.inl (g1.wd.ex.tup hp)), rfl, _, _, rfl, _, _, rfl, _, _, rfl, rfl, ?_⟩
        exact k _ _ _ B1 H1 (g.trans g1) g1.eb ((((hs.mono g1.eb).set (o := some _) (s := .dat d1) ⟨_, rfl, q1⟩ i).set (o := some _) (s := .dat d2) ⟨_, rfl, q2⟩ j).set (o := some _) (s := .dat d3) ⟨_, rfl, q3⟩ l)
/-- .. where e raises -/
theorem t_unp3X {x y z : Str} {px py pz ptu : Pos} {kt : Nat} {A : Addr} {W : WX} (w : Wd T B H) (h : EX T X e σ B A) (tk : L2N.Takes X W) (hc : X.calm = true) (hN : X.N.Nodup) (i j l : Nat) (k : ∀ B' H', Go T B H B' H' → W (.ref A) none σ H')
    (hi : X.N[i]? = some x := by rfl) (hx : Loc X.env.scope x := by first | exact Or.inl rfl | exact Or.inr rfl) (hj : X.N[j]? = some y := by rfl) (hy : Loc X.env.scope y := by first | exact Or.inl rfl | exact Or.inr rfl) (hl : X.N[l]? = some z := by rfl) (hz : Loc X.env.scope z := by first | exact Or.inl rfl | exact Or.inr rfl)
    (hf : X.fn x = true ∨ X.env.scope.names.lookup x = some .local := by first | exact .inl rfl | exact .inr rfl | assumption) (hf2 : X.fn y = true ∨ X.env.scope.names.lookup y = some .local := by first | exact .inl rfl | exact .inr rfl | assumption) (hf3 : X.fn z = true ∨ X.env.scope.names.lookup z = some .local := by first | exact .inl rfl | exact .inr rfl | assumption)
    (n1 : (assignEach [.Name x px, .Name y py, .Name z pz] X.env).length = 3 := by rfl) (n2 : List.findIdx? (fun x => x.1) (assignEach [.Name x px, .Name y py, .Name z pz] X.env) = none := by rfl)
    (n3 : (assignEach [.Name x px, .Name y py, .Name z pz] X.env).map (·.2) = assign (.Name x px) X.env :: (assignEach [.Name y py, .Name z pz] X.env).map (·.2) := by rfl) (n4 : (assignEach [.Name y py, .Name z pz] X.env).map (·.2) = assign (.Name y py) X.env :: (assignEach [.Name z pz] X.env).map (·.2) := by rfl)
    (n5 : (assignEach [.Name z pz] X.env).map (·.2) = assign (.Name z pz) X.env :: (assignEach [] X.env).map (·.2) := by rfl)
    (hsw : swapsWithSole [.Tuple [.Name x px, .Name y py, .Name z pz] kt ptu] e pos.line X.env = pure false := by rfl) (hw : swappedStores [.Tuple [.Name x px, .Name y py, .Name z pz] kt ptu] e X.env = pure none := by rfl)
    (h1 : (assignEach [.Tuple [.Name x px, .Name y py, .Name z pz] kt ptu] X.env).map (·.2) = [assign (.Tuple [.Name x px, .Name y py, .Name z pz] kt ptu) X.env] := by rfl) :
    wss X (.Assign [.Tuple [.Name x px, .Name y py, .Name z pz] kt ptu] e pos :: rest) D σ H :=
  s_cons (ws_of (ps_asg pwe (pg_tup hc (pgs_cons (pg_name hN hi hx hf) (pgs_cons (pg_name hN hj hy hf2) (pgs_cons (pg_name hN hl hz hf3) pgs_nil n5) n4) n3) n1 n2) hsw hw h1) (h W tk H w k _))
end
end Cw

namespace Cw
open PySem PySem.Spec PyProof.Rows L2
/-! ## copies: lists and tuples new or not, all else the same; they compare equal -/
def seqB : PyData → Bool
  | .list _ => true
  | .tuple _ => true
  | _ => false
mutual
inductive Cp (B : Hp) : Nat → V → V → PyData → Prop
  | sc {n : Nat} {v : V} {d : PyData} : seqB d = false → Dt B v d → Cp B n v v d
  | lst {n : Nat} {a b : Addr} {xs ys : List V} {ds : List PyData} : B a = some (.lst xs) → B b = some (.lst ys) → Cps B n xs ys ds → Cp B (n + 1) (.ref a) (.ref b) (.list ds)
  | tup {n : Nat} {a b : Addr} {xs ys : List V} {ds : List PyData} : B a = some (.tup xs) → B b = some (.tup ys) → Cps B n xs ys ds → Cp B (n + 1) (.ref a) (.ref b) (.tuple ds)
inductive Cps (B : Hp) : Nat → List V → List V → List PyData → Prop
  | nil {n : Nat} : Cps B n [] [] []
  | cons {n : Nat} {v u : V} {vs us : List V} {d : PyData} {ds : List PyData} : Cp B n v u d → Cps B n vs us ds → Cps B n (v :: vs) (u :: us) (d :: ds)
end
mutual
theorem Cp.mono {B C : Hp} (x : Ex B C) : ∀ {n : Nat} {v u : V} {d : PyData}, Cp B n v u d → Cp C n v u d
  | _, _, _, _, .sc h r => .sc h (r.mono x)
  | _, _, _, _, .lst h1 h2 r => .lst (x.lst h1) (x.lst h2) (Cps.mono x r)
  | _, _, _, _, .tup h1 h2 r => .tup (x.tup h1) (x.tup h2) (Cps.mono x r)
theorem Cps.mono {B C : Hp} (x : Ex B C) : ∀ {n : Nat} {vs us : List V} {ds : List PyData}, Cps B n vs us ds → Cps C n vs us ds
  | _, _, _, _, .nil => .nil
  | _, _, _, _, .cons h r => .cons (Cp.mono x h) (Cps.mono x r)
end
mutual
theorem Cp.dt {B : Hp} : ∀ {n : Nat} {v u : V} {d : PyData}, Cp B n v u d → Dt B u d
  | _, _, _, _, .sc _ r => r
  | _, _, _, _, .lst _ h2 r => .lst h2 (Cps.dts r)
  | _, _, _, _, .tup _ h2 r => .tup h2 (Cps.dts r)
theorem Cps.dts {B : Hp} : ∀ {n : Nat} {vs us : List V} {ds : List PyData}, Cps B n vs us ds → Dts B us ds
  | _, _, _, _, .nil => .nil
  | _, _, _, _, .cons h r => .cons (Cp.dt h) (Cps.dts r)
end
mutual
theorem Dt.uniq {B : Hp} : ∀ {v : V} {d e : PyData}, Dt B v d → Dt B v e → d = e
  | _, _, _, .non, .non => rfl
  | _, _, _, .bl _, .bl _ => rfl
  | _, _, _, .int _, .int _ => rfl
  | _, _, _, .str _, .str _ => rfl
  | _, _, _, .lst h r, .lst h2 r2 => by
    rw [h] at h2
    cases h2
    rw [Dts.uniq r r2]
  | _, _, _, .tup h r, .tup h2 r2 => by
    rw [h] at h2
    cases h2
    rw [Dts.uniq r r2]
  | _, _, _, .dic _, .dic _ => rfl
  | _, _, _, .lst h _, .tup h2 _ => by rw [h] at h2; cases h2
  | _, _, _, .lst h _, .dic h2 => by rw [h] at h2; cases h2
  | _, _, _, .tup h _, .lst h2 _ => by rw [h] at h2; cases h2
  | _, _, _, .tup h _, .dic h2 => by rw [h] at h2; cases h2
  | _, _, _, .dic h, .lst h2 _ => by rw [h] at h2; cases h2
  | _, _, _, .dic h, .tup h2 _ => by rw [h] at h2; cases h2
theorem Dts.uniq {B : Hp} : ∀ {vs : List V} {ds es : List PyData}, Dts B vs ds → Dts B vs es → ds = es
  | _, _, _, .nil, .nil => rfl
  | _, _, _, .cons h r, .cons h2 r2 => by rw [Dt.uniq h h2, Dts.uniq r r2]
end
theorem Cps.len {B : Hp} : ∀ {n : Nat} {vs us : List V} {ds : List PyData}, Cps B n vs us ds → vs.length = us.length
  | _, _, _, _, .nil => rfl
  | _, _, _, _, .cons _ r => congrArg (· + 1) (Cps.len r)
section
variable {X : Cx} {pins : List (Addr × Obj)} {σ : L2.St} {H : Hp} {s : Shared}
mutual
theorem cp_eqAt (I : Inv X pins σ H s) : ∀ {n : Nat} {v u : V} {d : PyData} {a b : Value} {A : Around}, Cp H n v u d → RelV v a → RelV u b → A.units + n < cLine → SeqAt.EqAt A s a b true
  | _, _, _, d, a, b, A, .sc h r, ra, rb, hu => by
    cases r with
    | non => cases ra; cases rb; exact SeqAt.EqAt.same _
    | bl k => cases ra; cases rb; exact SeqAt.EqAt.same _
    | int i =>
      obtain ⟨t, rfl⟩ := ra
      obtain ⟨t', rfl⟩ := rb
      have := SeqAt.EqAt.int_int (A := A) (s := s) i t i t'
      simpa using this
    | str x =>
      obtain ⟨t, rfl⟩ := ra
      obtain ⟨t', rfl⟩ := rb
      have := SeqAt.EqAt.str_str (A := A) (s := s) x t x t'
      simpa using this
    | lst _ _ => cases h
    | tup _ _ => cases h
    | dic h2 => cases ra; cases rb; exact SeqAt.EqAt.same _
  | n + 1, .ref p, .ref q, _, a, b, A, .lst (xs := xs) (ys := ys) h1 h2 r, ra, rb, hu => by
    cases ra
    cases rb
    by_cases e : p = q
    · subst e
      exact SeqAt.EqAt.same _
    · obtain ⟨i1, v1, l1, _⟩ := I.list (.inl (.inl h1))
      obtain ⟨i2, v2, l2, _⟩ := I.list (.inl (.inl h2))
      have hsz : i1.toArray.size = i2.toArray.size := by
        rw [List.size_toArray, List.size_toArray, ← v1.length, ← v2.length]
        exact r.len
      have := SeqAt.RcAt.lists (A := A) (e := fun _ => true) l1.isList l2.isList hsz (by omega) fun j h1 h2 => by
        have := cps_eqAt I (A := A.in1) r v1 v2 (by show A.units + 1 + n < cLine; omega) j (by simpa using h1) (by simpa using h2)
        simpa using this
      have e2 : (List.range i1.toArray.size).all (fun _ => true) = true := by simp
      rw [e2] at this
      exact SeqAt.EqAt.of_refs e this
  | n + 1, .ref p, .ref q, _, a, b, A, .tup (xs := xs) (ys := ys) h1 h2 r, ra, rb, hu => by
    cases ra
    cases rb
    by_cases e : p = q
    · subst e
      exact SeqAt.EqAt.same _
    · obtain ⟨i1, v1, l1, _⟩ := I.tuple (.inl (.inl h1))
      obtain ⟨i2, v2, l2, _⟩ := I.tuple (.inl (.inl h2))
      have hsz : i1.toArray.size = i2.toArray.size := by
        rw [List.size_toArray, List.size_toArray, ← v1.length, ← v2.length]
        exact r.len
      have := SeqAt.RcAt.tuples (A := A) (e := fun _ => true) l1 l2 (by omega) fun j h1 h2 => by
        have := cps_eqAt I (A := A.in1) r v1 v2 (by show A.units + 1 + n < cLine; omega) j (by simpa using h1) (by simpa using h2)
        simpa using this
      have e2 : ((List.range (min i1.toArray.size i2.toArray.size)).all (fun _ => true) && i1.toArray.size == i2.toArray.size) = true := by simp [hsz]
      rw [e2] at this
      exact SeqAt.EqAt.of_refs e this
theorem cps_eqAt (I : Inv X pins σ H s) : ∀ {n : Nat} {vs us : List V} {ds : List PyData} {as bs : List Value} {A : Around}, Cps H n vs us ds → Vals vs as → Vals us bs → A.units + n < cLine → ∀ j (h1 : j < as.length) (h2 : j < bs.length), SeqAt.EqAt A s as[j] bs[j] true
  | _, _, _, _, _, _, _, .nil, va, vb, _, j, h1, _ => by cases va; exact absurd h1 (Nat.not_lt_zero _)
  | n, _, _, _, _, _, A, .cons h r, va, vb, hu, j, h1, h2 => by
    cases va with
    | cons r1 va =>
      cases vb with
      | cons r2 vb =>
        cases j with
        | zero => exact cp_eqAt I h r1 r2 hu
        | succ j => exact cps_eqAt I r va vb hu j (Nat.lt_of_succ_lt_succ h1) (Nat.lt_of_succ_lt_succ h2)
end
end
section
variable {T : List Addr} {X : Cx} {a b c e o iter : Expr} {es : List Expr} {σ : L2.St} {B B0 H0 H : Hp} {p pos : Pos}
/-- what is no dict is equal to its copy -/
theorem op_eqCp (hu : X.A.units + 65 < cLine) : OpR X (compareOp .Eq) (fun x y H Q => (∃ n d, n ≤ 64 ∧ Cp H n x y d ∧ tyN d ≠ "dict") ∧ Q (.bl true) H) := by
  intro pins s σ H x y v u Q I rx ry ⟨⟨n, d, hn, cp, nd⟩, q⟩
  cases cp with
  | sc h r =>
    have sc : scal x x = true := by
      cases r with
      | non => rfl
      | bl k => rfl
      | int i => rfl
      | str z => rfl
      | lst _ _ => cases h
      | tup _ _ => cases h
      | dic _ => exact absurd rfl nd
    exact op_eq pins s σ H x x v u Q I rx ry ⟨sc, by rw [decide_eq_true rfl]; exact q⟩
  | @lst n a b xs ys ds h1 h2 r =>
    cases rx
    cases ry
    obtain ⟨i1, v1, l1, _⟩ := I.list (.inl (.inl h1))
    obtain ⟨i2, v2, l2, _⟩ := I.list (.inl (.inl h2))
    have hsz : i1.toArray.size = i2.toArray.size := by
      rw [List.size_toArray, List.size_toArray, ← v1.length, ← v2.length]
      exact r.len
    refine SeqAt.eq_listAt (e := fun _ => true) l1.isList l2.isList hsz (by omega) (fun j h1 h2 => ?_) ⟨.bl true, H, I, by show Value.bool _ = Value.bool true; simp, q⟩
    have := cps_eqAt I (A := X.A.in1) r v1 v2 (by show X.A.units + 1 + n < cLine; omega) j (by simpa using h1) (by simpa using h2)
    simpa using this
  | @tup n a b xs ys ds h1 h2 r =>
    cases rx
    cases ry
    obtain ⟨i1, v1, l1, _⟩ := I.tuple (.inl (.inl h1))
    obtain ⟨i2, v2, l2, _⟩ := I.tuple (.inl (.inl h2))
    have hsz : i1.toArray.size = i2.toArray.size := by
      rw [List.size_toArray, List.size_toArray, ← v1.length, ← v2.length]
      exact r.len
    refine SeqAt.eq_tupleAt (e := fun _ => true) l1 l2 (by omega) (fun j h1 h2 => ?_) ⟨.bl true, H, I, by show Value.bool _ = Value.bool true; simp [hsz], q⟩
    have := cps_eqAt I (A := X.A.in1) r v1 v2 (by show X.A.units + 1 + n < cLine; omega) j (by simpa using h1) (by simpa using h2)
    simpa using this
theorem ec_eqCp {n : Nat} {v u : V} {d : PyData} (hu : X.A.units + 65 < cLine) (hn : n ≤ 64) (hd : tyN d ≠ "dict") (hc : Cp B n v u d) (ha : EV T X a σ B fun _ x => x = v) (hb : EV T X b σ B fun _ x => x = u) : EC T X a .Eq b σ B true :=
  ec_of (Ra := fun _ x => x = v) (Rb := fun _ x => x = u) (op_eqCp hu) (nomark _) ha mono_c hb mono_c fun B1 H1 x y x1 w rx ry Q q => by
    rw [rx, ry]
    exact ⟨⟨n, d, hn, (hc.mono x1).mono w.ex, hd⟩, q⟩
/-! ## a comprehension over a list or a tuple at an address, its items told one by one -/
def All2 (S : V → V → Prop) : List V → List V → Prop
  | [], [] => True
  | v :: vs, u :: us => S v u ∧ All2 S vs us
  | _, _ => False
theorem All2.imp {S S' : V → V → Prop} (h : ∀ v u, S v u → S' v u) : ∀ {vs us : List V}, All2 S vs us → All2 S' vs us
  | [], [], _ => trivial
  | _ :: _, _ :: _, r => ⟨h _ _ r.1, All2.imp h r.2⟩
  | [], _ :: _, r => r.elim
  | _ :: _, [], r => r.elim
theorem All2.snoc {S : V → V → Prop} {v u : V} (h : S v u) : ∀ {vs us : List V}, All2 S vs us → All2 S (vs ++ [v]) (us ++ [u])
  | [], [], _ => ⟨h, trivial⟩
  | _ :: _, _ :: _, r => ⟨r.1, All2.snoc h r.2⟩
  | [], _ :: _, r => r.elim
  | _ :: _, [], r => r.elim
theorem All2.len {S : V → V → Prop} : ∀ {vs us : List V}, All2 S vs us → vs.length = us.length
  | [], [], _ => rfl
  | _ :: _, _ :: _, r => congrArg (· + 1) (All2.len r.2)
  | [], _ :: _, r => r.elim
  | _ :: _, [], r => r.elim
def MkV (T : List Addr) (B1 H1 : Hp) (D : Addr) (S : Hp → V → V → Prop) (vs : List V) (H' : Hp) : Prop := ∃ B' ws, Go T B1 H1 B' H' ∧ B' D = none ∧ H' D = some (.lst ws) ∧ All2 (S B') vs ws
/-- one turn -/
theorem lcv_turn {elt : Expr} {scope : Scope} {j : Nat} {S : Hp → V → V → Prop} (mS : ∀ B C v u, Ex B C → S B v u → S C v u) {B1 H1 H' B' : Hp} {D : Addr} {v : V} {vs ws : List V} {P : Hp → Prop} (hD : H1 D = none) (g : Go T B1 H1 B' H') (h2 : B' D = none) (h3 : H' D = some (.lst ws)) (r : All2 (S B') vs ws) (hl : vs.length ≤ 10000)
    (hP : ∀ H2, MkV T B1 H1 D S (vs ++ [v]) H2 → P H2)
    (he : ∀ (s : Shared) (H : Hp) (A : Addr) (cl : List (Str × Addr)) (fp : List Addr), EV T (blkX X scope s H A cl fp) elt ((σ.set j none).set j (some v)) B' fun B2 u => S B2 v u) :
    gName j v (wipe σ [j]) H' fun σ2 H2 => wipe σ2 [j] = wipe σ [j] ∧ tts X scope [] σ2 H2 fun b H3 =>
      if b = true then tes X scope elt σ2 H3 fun y H4 => ∃ acc, H4 D = some (.lst acc) ∧ acc.length < sizeLine ∧ P (upd H4 D (.lst (acc ++ [y]))) else P H3 := by
  refine ⟨wipe_set σ j v, fun s H0 A cl fp => ?_⟩
  refine (ets_nil (T := T)) H' g.wd _ fun B2 H2 g2 => ?_
  intro s H0 A cl fp
  have f2 : B2 D = none := g2.out h2 (by rw [h3]; exact fun w => nomatch w)
  refine ((he s H0 A cl fp).mono (fun B C u x r => mS B C v u x r) g2.eb) H2 g2.wd _ fun u B3 H3 g3 r3 => ?_
  have e3 := (g2.trans g3).eh.lst h3
  have f3 : B3 D = none := (g2.trans g3).out h2 (by rw [h3]; exact fun w => nomatch w)
  have gg := (g.trans g2).trans g3
  refine ⟨ws, e3, Nat.lt_of_le_of_lt (show ws.length ≤ 10000 by rw [← r.len]; exact hl) (by decide), hP _ ⟨B3, ws ++ [u], gg.mutD hD f3 e3, f3, upd_same, ?_⟩⟩
  exact All2.snoc r3 (r.imp fun a b h => mS _ _ a b (g2.eb.trans g3.eb) h)
theorem MkV.done {B1 H1 H' : Hp} {D : Addr} {S : Hp → V → V → Prop} {vs : List V} (mS : ∀ B C v u, Ex B C → S B v u → S C v u) (h1 : H1 D = none) (m : MkV T B1 H1 D S vs H') : ∃ B', Go T B1 H1 B' H' ∧ ∃ ws, B' D = some (.lst ws) ∧ All2 (S B') vs ws := by
  obtain ⟨B', ws, g, h2, h3, r⟩ := m
  exact ⟨upd B' D (.lst ws), g.settle h1 h2 h3, ws, upd_same, r.imp fun a b h => mS _ _ a b (Ex.new h2) h⟩
/-- over a list -/
theorem en_compL {elt iter : Expr} {scope : Scope} {x : Str} {px : Pos} {j : Nat} {S : Hp → V → V → Prop} {l : Addr} {xs : List V} (mS : ∀ B C v u, Ex B C → S B v u → S C v u) (k : Bk X scope x px j) (h : EV T X iter σ B fun _ v => v = .ref l) (hx : B l = some (.lst xs)) (hl : xs.length ≤ 10000)
    (he : ∀ (s : Shared) (H : Hp) (A : Addr) (cl : List (Str × Addr)) (fp : List Addr) (v : V) (B1 : Hp), v ∈ xs → Ex B B1 → EV T (blkX X scope s H A cl fp) elt ((σ.set j none).set j (some v)) B1 fun B2 u => S B2 v u) (hs : ∀ x, foldedSetIterable iter X.env x = pure x := by intro _; rfl) :
    EV T X (.ListComp elt [⟨.Name x px, iter, [], 0⟩] scope pos) σ B fun B' v => ∃ D ws, v = .ref D ∧ B D = none ∧ B' D = some (.lst ws) ∧ All2 (S B') xs ws := fun H w Q q => by
  refine we_of (pe_lc (own := [(x, j)]) k.calm k.nd (pi_list pwe) k.ok k.tg pts_tts pe_tes hs) (h H w _ fun v B1 H1 g1 r1 => ?_)
  subst r1
  have ha := g1.eb.lst hx
  refine ⟨l, rfl, ⟨xs, .inl (.inl (g1.wd.ex.lst ha))⟩, fun D hD => lc_list (K := X.K) (a := l) (xs := xs) (g := gName j) (tt := tts X scope []) (te := tes X scope elt) (vs := [j]) (σ := σ) (D := D) (Qd := Q (.ref D)) (fun i H' => MkV T B1 H1 D S (xs.take i) H') ⟨B1, [], Go.newH g1.wd hD, g1.wd.ex.free hD, upd_same, trivial⟩ (fun i H' _ m => ?_) (fun i y H' hy m => ?_) fun H' m => ?_⟩
  · obtain ⟨B', _, g, _⟩ := m
    exact .inl (.inl (g.wd.ex.lst (g.eb.lst ha)))
  · obtain ⟨B', ws, g, h2, h3, r⟩ := m
    refine lcv_turn mS hD g h2 h3 r (by rw [List.length_take]; omega) (fun H2 m2 => by
      rw [List.take_add_one, hy]
      exact m2) fun s H0 A cl fp => he s H0 A cl fp y B' (List.mem_of_getElem? hy) (g1.eb.trans g.eb)
  · rw [List.take_length] at m
    obtain ⟨B', g, ws, e, r⟩ := m.done mS hD
    exact q _ B' H' (g1.trans g) ⟨D, ws, rfl, g1.eb.free (g1.wd.ex.free hD), e, r⟩
/-- over a tuple -/
theorem en_compT {elt iter : Expr} {scope : Scope} {x : Str} {px : Pos} {j : Nat} {S : Hp → V → V → Prop} {l : Addr} {xs : List V} (mS : ∀ B C v u, Ex B C → S B v u → S C v u) (k : Bk X scope x px j) (h : EV T X iter σ B fun _ v => v = .ref l) (hx : B l = some (.tup xs)) (hl : xs.length ≤ 10000)
    (he : ∀ (s : Shared) (H : Hp) (A : Addr) (cl : List (Str × Addr)) (fp : List Addr) (v : V) (B1 : Hp), v ∈ xs → Ex B B1 → EV T (blkX X scope s H A cl fp) elt ((σ.set j none).set j (some v)) B1 fun B2 u => S B2 v u) (hs : ∀ x, foldedSetIterable iter X.env x = pure x := by intro _; rfl) :
    EV T X (.ListComp elt [⟨.Name x px, iter, [], 0⟩] scope pos) σ B fun B' v => ∃ D ws, v = .ref D ∧ B D = none ∧ B' D = some (.lst ws) ∧ All2 (S B') xs ws := fun H w Q q => by
  refine we_of (pe_lc (own := [(x, j)]) k.calm k.nd (pi_tup pwe) k.ok k.tg pts_tts pe_tes hs) (h H w _ fun v B1 H1 g1 r1 => ?_)
  subst r1
  have ha := g1.eb.tup hx
  refine ⟨l, rfl, ⟨xs, .inl (.inl (g1.wd.ex.tup ha))⟩, fun D hD => lc_tup (K := X.K) (a := l) (xs := xs) (g := gName j) (tt := tts X scope []) (te := tes X scope elt) (vs := [j]) (σ := σ) (D := D) (Qd := Q (.ref D)) (fun i H' => MkV T B1 H1 D S (xs.take i) H') ⟨B1, [], Go.newH g1.wd hD, g1.wd.ex.free hD, upd_same, trivial⟩ (fun i H' _ m => ?_) (fun i y H' hy m => ?_) fun H' m => ?_⟩
  · obtain ⟨B', _, g, _⟩ := m
    exact .inl (.inl (g.wd.ex.tup (g.eb.tup ha)))
  · obtain ⟨B', ws, g, h2, h3, r⟩ := m
    refine lcv_turn mS hD g h2 h3 r (by rw [List.length_take]; omega) (fun H2 m2 => by
      rw [List.take_add_one, hy]
      exact m2) fun s H0 A cl fp => he s H0 A cl fp y B' (List.mem_of_getElem? hy) (g1.eb.trans g.eb)
  · rw [List.take_length] at m
    obtain ⟨B', g, ws, e, r⟩ := m.done mS hD
    exact q _ B' H' (g1.trans g) ⟨D, ws, rfl, g1.eb.free (g1.wd.ex.free hD), e, r⟩
/-- tuple(a list), its items the same ones -/
theorem ev_tupV {R : Hp → List V → Prop} (mR : ∀ B C vs, Ex B C → R B vs → R C vs) (h : EV T X a σ B fun B' v => ∃ D ws, v = .ref D ∧ B' D = some (.lst ws) ∧ R B' ws) (hm : Bi X.mg) (hg : Gl X "tuple" := by rfl) (he : starEach [a] X.env = (false, eval a X.env) :: starEach [] X.env := by rfl) (hpl : (backTo pos (starEach [] X.env)).any (·.1) = false := by rfl) :
    EV T X (.Call (.Name "tuple" p) [a] [] pos) σ B fun B' v => ∃ D ws, v = .ref D ∧ B' D = some (.tup ws) ∧ R B' ws :=
  ev_callTy (Rs := fun B' vs => ∃ v, vs = [v] ∧ ∃ D ws, v = .ref D ∧ B' D = some (.lst ws) ∧ R B' ws) call_tuple_of hg hm.tuple PyProof.Rows.boot_tuple ((ea_consG h (fun B C v x ⟨D, ws, e, h, r⟩ => ⟨D, ws, e, x.lst h, mR _ _ _ x r⟩) ea_nil (fun _ _ _ x h => h.mono x) he).imp fun B' vs _ ⟨v, r, e1, e2, e3⟩ => by
      subst e1
      cases e3
      exact ⟨v, rfl, e2⟩) (fun B1 H1 vs _ w ⟨v, e, D, ws, e2, hD, r⟩ Q q => by
    subst e e2
    refine ⟨D, ws, rfl, .inl ⟨.inl (.inl (w.ex.lst hD)), fun u hu => ?_⟩⟩
    have n := Go.new (o := .tup ws) w hu
    exact q _ _ _ n ⟨u, ws, rfl, upd_same, mR _ _ _ n.eb r⟩) (by decide) (by decide) he hpl
end
end Cw

namespace Cw
open PySem PySem.Spec PyProof.Rows L2
section
variable {T : List Addr} {X : Cx} {a b o e : Expr} {σ : L2.St} {B : Hp} {p pos apos : Pos}
theorem room65 {k : Nat} {A : Around} (h : Room k A) : A.units + 65 < cLine := by
  have := h.un
  omega
theorem any_eqR (g : List (List Int)) (r : List Int) : (g.map encR).any (fun z => z.eqv (encR r)) = decide (r ∈ g) := by
  rw [List.any_map, Bool.eq_iff_iff, List.any_eq_true, decide_eq_true_eq]
  refine ⟨fun ⟨x, hx, e⟩ => ?_, fun h => ⟨r, h, ?_⟩⟩
  · have e : PyData.eqv (encR x) (encR r) = true := e
    rw [eqv_R] at e
    rw [← of_decide_eq_true e]
    exact hx
  · show PyData.eqv (encR r) (encR r) = true
    rw [eqv_R]
    exact decide_eq_true rfl
/-- row not in rows -/
theorem ec_notInR {r : List Int} {g : List (List Int)} (hu : X.A.units + 65 < cLine) (ha : ED T X a σ B (encR r)) (hb : ED T X b σ B (encG g)) (hm : behindInMarks .NotIn b = false := by rfl) : EC T X a .NotIn b σ B (!decide (r ∈ g)) :=
  ec_of (op_notInD hu) hm ha mono_dt hb mono_dt fun B1 H1 x y _ w rx ry Q q => by
    refine ⟨encR r, g.map encR, (rx.mono w.ex).dp (.inr trivial) (flat_R _), (ry.mono w.ex).dp (.inr trivial) (flat_G _), shaped_R _, shaped_G _, ?_⟩
    rw [any_eqR]
    exact q
/-- rows.index(row) -/
theorem ed_indexR {r : List Int} {g : List (List Int)} (hu : X.A.units + 65 < cLine) (hm : r ∈ g) (ho : ED T X o σ B (encG g)) (he : ED T X e σ B (encR r))
    (pm : ∀ {to : TE} {t : TA}, PE X o to → PA X [e] t → PE X (.Call (.Attribute o "index" apos) [e] [] pos) (tBM X.K "list" (rIndexD X.K) to t))
    (hst : starEach [e] X.env = (false, eval e X.env) :: starEach [] X.env := by rfl) : ED T X (.Call (.Attribute o "index" apos) [e] [] pos) σ B (.int (g.idxOf r : Nat)) := fun H w Q q =>
  we_of (pm pwe (pa_cons pwe pa_nil hst)) (ho H w _ fun x B1 H1 g1 r1 => by
    obtain ⟨p1, xs, rfl, hp, hr⟩ := r1.toList
    refine ⟨.inl ⟨rfl, xs, SqL.of (g1.wd.ex.lst hp)⟩, (he.mono g1.eb) H1 g1.wd _ fun y B2 H2 g2 r2 => ?_⟩
    have hi : g.idxOf r < g.length := List.idxOf_lt_length_iff.mpr hm
    refine ⟨p1, y, encR r, g.map encR, g.idxOf r, encR r, rfl, rfl, ((r1.mono g2.eb).mono g2.wd.ex).dp (.inr trivial) (flat_G _), (r2.mono g2.wd.ex).dp (.inr trivial) (flat_R _), shaped_G _, shaped_R _, ?_, ?_, fun m z hm2 hz => ?_, q _ B2 H2 (g1.trans g2) (.int _)⟩
    · rw [List.getElem?_map, List.getElem?_eq_getElem hi, List.getElem_idxOf]
      rfl
    · rw [eqv_R]
      exact decide_eq_true rfl
    · rw [List.getElem?_map] at hz
      obtain ⟨t, ht, rfl⟩ := Option.map_eq_some_iff.mp hz
      rw [eqv_R]
      refine decide_eq_false fun e => ?_
      subst e
      have hml : m < g.length := by omega
      rw [List.getElem?_eq_getElem hml] at ht
      have := List.not_of_lt_findIdx (p := fun x => x == t) (xs := g) hm2
      rw [Option.some.inj ht] at this
      simp at this)
/-- min(a, b), max(a, b) -/
theorem ed_min2 {i j : Int} (bi : Bi X.mg) (ha : ED T X a σ B (.int i)) (hb : ED T X b σ B (.int j)) (hc : X.calm = true := by rfl) (hg : Gl X "min" := by rfl)
    (he : starEach [a, b] X.env = (false, eval a X.env) :: starEach [b] X.env := by rfl) (he2 : starEach [b] X.env = (false, eval b X.env) :: starEach [] X.env := by rfl) (hpl : (backTo pos (starEach [b] X.env)).any (·.1) = false := by rfl) : ED T X (.Call (.Name "min" p) [a, b] [] pos) σ B (.int (if j < i then j else i)) :=
  ev_callB (Rs := fun B' vs => Dts B' vs [.int i, .int j]) (call_min2 hc) hg bi.min (by decide +kernel) (ea_cons ha (ea_cons hb ea_nil he2) he) (fun B1 H1 vs _ w r Q q => by
    cases r with
    | cons r1 r2 =>
      cases r2 with
      | cons r2 r3 =>
        cases r3
        exact ⟨i, j, by rw [r1.toInt, r2.toInt], q _ B1 H1 (Go.rfl w) (.int _)⟩) (by decide) (by decide) he hpl
theorem ed_max2 {i j : Int} (bi : Bi X.mg) (ha : ED T X a σ B (.int i)) (hb : ED T X b σ B (.int j)) (hc : X.calm = true := by rfl) (hg : Gl X "max" := by rfl)
    (he : starEach [a, b] X.env = (false, eval a X.env) :: starEach [b] X.env := by rfl) (he2 : starEach [b] X.env = (false, eval b X.env) :: starEach [] X.env := by rfl) (hpl : (backTo pos (starEach [b] X.env)).any (·.1) = false := by rfl) : ED T X (.Call (.Name "max" p) [a, b] [] pos) σ B (.int (if j > i then j else i)) :=
  ev_callB (Rs := fun B' vs => Dts B' vs [.int i, .int j]) (call_max2 hc) hg bi.max (by decide +kernel) (ea_cons ha (ea_cons hb ea_nil he2) he) (fun B1 H1 vs _ w r Q q => by
    cases r with
    | cons r1 r2 =>
      cases r2 with
      | cons r2 r3 =>
        cases r3
        exact ⟨i, j, by rw [r1.toInt, r2.toInt], q _ B1 H1 (Go.rfl w) (.int _)⟩) (by decide) (by decide) he hpl
/-- [e]: e raises; e is told by a word -/
theorem ex_list1 {A : Addr} (h : EX T X e σ B A) (hst : starEach [e] X.env = (false, eval e X.env) :: starEach [] X.env := by rfl) : EX T X (.List [e] pos) σ B A := fun W tk H w q Q =>
  we_of (pe_lst (pa_cons pwe pa_nil hst)) (h W tk H w q _)
theorem ev_list1 {α : Type} {Po : α → Prop} {f : α → PyData} (h : EV T X e σ B fun B' v => ∃ o, Po o ∧ Dt B' v (f o)) (hst : starEach [e] X.env = (false, eval e X.env) :: starEach [] X.env := by rfl) : EV T X (.List [e] pos) σ B fun B' v => ∃ o, Po o ∧ Dt B' v (.list [f o]) := fun H w Q q =>
  we_of (pe_lst (pa_cons pwe pa_nil hst)) (h H w _ fun v B1 H1 g1 ⟨o, ho, r⟩ => ⟨sz100 (by show 1 ≤ 100000; omega), fun D hD => by
    have n := Go.new (o := .lst [v]) g1.wd hD
    exact q _ _ _ (g1.trans n) ⟨o, ho, .lst upd_same (.one (r.mono n.eb))⟩⟩)
end
end Cw

namespace Cw
open PySem PySem.Spec PyProof.Rows L2
/-! ## a set comprehension of numbers -/
def tSetI (w : World) (wi : TI) (g : TG) (tt : TT) (te : TE) (vs : List Nat) : TE := fun σ H Q => wi σ H fun J H1 => ∀ D, H1 D = none → ∃ W : Nat → Nat → Hp → Prop, (∃ m, W 0 m (upd H1 D (SetO w D (fun _ => false) 0))) ∧ ∀ i m H, W i m H → (J.stop i H ∧ Q (.ref D) H) ∨ (J.go i H ∧ ∃ Nx : Hp → Prop, (∀ H', Nx H' → ∃ m', m' < m ∧ W (i + 1) m' H') ∧ ∀ x H', J.yld i H x H' → g x (wipe σ vs) H' fun σ2 H2 => wipe σ2 vs = wipe σ vs ∧ tt σ2 H2 fun b H3 => if b = true then te σ2 H3 fun y H4 => ∃ c S n, y = .int c ∧ H4 D = some (SetO w D S n) ∧ n + 1 < scanBound ∧ Nx (upd H4 D (SetO w D (fun j => S j || decide (j = c)) (if S c = true then n else n + 1))) else Nx H3)
section
variable {X : Cx} {elt tg iter : Expr} {ifs : List Expr} {scope : Scope} {own : List (Str × Nat)} {pos : Pos} {wi : TI} {g : TG} {tt : TT} {te : TE}
theorem setO_ok {P : Program} {w : World} {H : Hp} {h : Heap} {a : Addr} {S : Int → Bool} {n : Nat} (r : SetR w h a S n) : ObjOk P w H h a (SetO w a S n) := by
  unfold SetO
  rw [ObjOk.eq_def]
  exact ⟨r, r.imp fun o ⟨_, _, _, e, _⟩ => e, fun h1 h2 r1 k => r1.at k⟩
theorem setO_of {P : Program} {w : World} {H : Hp} {h : Heap} {a : Addr} {S : Int → Bool} {n : Nat} (r : ObjOk P w H h a (SetO w a S n)) : SetR w h a S n := by
  unfold SetO at r
  rw [ObjOk.eq_def] at r
  exact r.1
theorem pe_setI (hc : X.calm = true) (hN : X.N.Nodup) (hi : PI X tg iter wi) (ok : BlkOk X.N X.env.scope scope own)
    (hg : ∀ s H C cl fp, PG (X.blk s H scope (compEnvC scope cl C X.env) fp) tg g) (ht : ∀ s H C cl fp, PTs (X.blk s H scope (compEnvC scope cl C X.env) fp) ifs tt) (he : ∀ s H C cl fp, PE (X.blk s H scope (compEnvC scope cl C X.env) fp) elt te)
    (hs : ∀ x, foldedSetIterable iter X.env x = pure x := by intro _; rfl) : PE X (.SetComp elt [⟨tg, iter, ifs, 0⟩] scope pos) (tSetI X.w wi g tt te (own.map (·.2))) := by
  refine ⟨fun pins s σ H Q I h => ?_⟩
  rw [PpSet.eval_SetComp]
  have hfree : ∀ y : Str × NameKind, y ∈ scope.names → y.2 = .free → ∃ c, X.env.cells.lookup y.1 = some c := fun y hy e => (ok.free y hy e).elim (fun k => I.ok.has y.1 (.inl k)) fun k => I.ok.has y.1 (.inr k)
  refine wpAny_comprehension_free rfl hs (closure_ok hfree) ok.kind (fun y hy e => by rw [ok.uniq y hy, e]) ?_
  refine thn (hi.run pins s σ H _ I h) fun xv s1 h1 => thn h1 fun itv s2 h2 => ?_
  obtain ⟨it, fp, tn, J, H2, rfl, I2, T, st2, f2, q⟩ := h2
  refine PpSet.newSet_ok (newEnv_comp ?_)
  obtain ⟨W, ⟨m0, w0⟩, turn⟩ := q _ I2.fresh
  have I3 := I2.laid (t' := s2.toks) (a := s2.heap.objs.size) (o := SetO X.w s2.heap.objs.size (fun _ => false) 0) (h' := s2.heap.push { cls := .type "set", data := .set #[] 0 (SetTable.fresh 0 0 !X.w.params.followText "set-order") }) (fun b o e => Heap.get?_push_of_some _ e) (Nat.le_refl _) (setO_ok (setR_fresh X.w))
  have k3 : ∀ b o, s2.heap.get? b = some o → (s2.heap.push { cls := .type "set", data := .set #[] 0 (SetTable.fresh 0 0 !X.w.params.followText "set-order") }).get? b = some o := fun b o e => Heap.get?_push_of_some _ e
  have lt2 : ∀ b ∈ fp, b < s2.heap.objs.size := fun b hb => by
    obtain ⟨o, e, _⟩ := T.obj 0 _ st2 b hb
    exact Heap.lt_size e
  have sz3 : (s2.heap.push { cls := .type "set", data := .set #[] 0 (SetTable.fresh 0 0 !X.w.params.followText "set-order") }).objs.size = s2.heap.objs.size + 1 := Heap.size_push ..
  generalize hh3 : s2.heap.push { cls := .type "set", data := .set #[] 0 (SetTable.fresh 0 0 !X.w.params.followText "set-order") } = h3 at I3 k3 sz3 ⊢
  generalize hD : s2.heap.objs.size = D at *
  have nfp : ∀ b ∈ fp, upd H2 D (SetO X.w D (fun _ => false) 0) b = none := fun b hb => by
    rw [upd_ne (Nat.ne_of_lt (lt2 b hb))]
    exact (f2 b hb).1
  have f3 : ∀ b ∈ fp, FpOk X pins (upd H2 D (SetO X.w D (fun _ => false) 0)) b ∧ b < h3.objs.size := fun b hb => ⟨⟨nfp b hb, (f2 b hb).2⟩, by rw [sz3]; exact Nat.lt_succ_of_lt (lt2 b hb)⟩
  have I4 := block_start I3 ok hN f3
  have pg := hg { heap := h3, gens := s2.gens, drawn := s2.drawn, toks := s2.toks, os := s2.os } (upd H2 D (SetO X.w D (fun _ => false) 0)) h3.objs.size (cellsFrom (h3.objs.size + 1) scope.names (cloFrom X.env.cells scope.names [])) fp
  have pt := ht { heap := h3, gens := s2.gens, drawn := s2.drawn, toks := s2.toks, os := s2.os } (upd H2 D (SetO X.w D (fun _ => false) 0)) h3.objs.size (cellsFrom (h3.objs.size + 1) scope.names (cloFrom X.env.cells scope.names [])) fp
  have pe := he { heap := h3, gens := s2.gens, drawn := s2.drawn, toks := s2.toks, os := s2.os } (upd H2 D (SetO X.w D (fun _ => false) 0)) h3.objs.size (cellsFrom (h3.objs.size + 1) scope.names (cloFrom X.env.cells scope.names [])) fp
  have k4 : ∀ b o, h3.get? b = some o → (pushCells (h3.push { cls := .type "dict", data := .dict #[] }) scope.names).get? b = some o := fun b o e => pushCells_keeps scope.names _ b o (Heap.get?_push_of_some _ e)
  have st4 := T.keep 0 s2.heap (pushCells (h3.push { cls := .type "dict", data := .dict #[] }) scope.names) st2 fun b hb o e => k4 b o (k3 b o e)
  show codeAny (model X.prog X.w) X.A (Code.compStart (.SetComp elt [⟨tg, iter, ifs, 0⟩] scope pos) 0 (.ref it) (.ref D) (compEnvC scope (cellsFrom (h3.objs.size + 1) scope.names (cloFrom X.env.cells scope.names [])) h3.objs.size X.env)) _ { heap := pushCells (h3.push { cls := .type "dict", data := .dict #[] }) scope.names, gens := s2.gens, drawn := s2.drawn, toks := s2.toks, os := s2.os }
  have fC : ∀ H5 : Hp, H5 h3.objs.size = none → FpOk X pins H5 h3.objs.size := fun H5 h => I3.fpOk (H' := H5) (Nat.le_refl _) h
  have hloc : (compEnvC scope (cellsFrom (h3.objs.size + 1) scope.names (cloFrom X.env.cells scope.names [])) h3.objs.size X.env).locals = h3.objs.size := rfl
  generalize compEnvC scope (cellsFrom (h3.objs.size + 1) scope.names (cloFrom X.env.cells scope.names [])) h3.objs.size X.env = ce at I4 pg pt pe hloc ⊢
  generalize hXb : X.blk { heap := h3, gens := s2.gens, drawn := s2.drawn, toks := s2.toks, os := s2.os } (upd H2 D (SetO X.w D (fun _ => false) 0)) scope ce fp = Xb at I4 pg pt pe
  have q1 : Xb.prog = X.prog := by rw [← hXb]
  have q2 : Xb.w = X.w := by rw [← hXb]
  have q3 : Xb.K = X.K := by rw [← hXb]
  have q4 : Xb.calm = true := by rw [← hXb]; exact hc
  have q5 : Xb.A = X.A := by rw [← hXb]
  have q6 : Xb.env = ce := by rw [← hXb]
  have q7 : Xb.pn = [] := by rw [← hXb]
  have q8 : Xb.ex = fp := by rw [← hXb]
  have q9 : Xb.xe = fun _ _ => False := by rw [← hXb]
  have stat : ∀ {σ' : L2.St} {H' : Hp} {s' : Shared}, Inv Xb [] σ' H' s' → (∀ b ∈ fp, H' b = none) → ∀ b ∈ fp, FpOk Xb [] H' b := fun I' hn b hb => by
    have hb8 : b ∈ Xb.ex := by rw [q8]; exact hb
    exact ⟨hn b hb, (I'.ok.exf b hb8).1, I'.ok.exfs b hb8, .inl hb8, fun x c e => (I'.ok.exf b hb8).2 x c e, fun p hp => by rw [q7] at hp; cases hp⟩
  refine (fun loop => PpSet.codeAny_compStart_set loop (T.self X.A 0 _ _ _ st4 loop)) ?_
  refine PpSet.compLoopS_any (fun n s' => ∃ i H', Inv Xb [] (wipe σ (own.map (·.2))) H' s' ∧ tn i s'.heap ∧ (∀ b ∈ fp, H' b = none) ∧ W i n H') (fun n s5 ⟨i, H5, I5, st5, n5, w5⟩ => ?_) m0 ⟨0, _, I4, st4, nfp, w0⟩
  rcases turn i n H5 w5 with ⟨stop, qq⟩ | ⟨go, Nx, hNx, stp⟩
  · have td := T.done Xb q1 q2 q3 q4 i [] s5 _ H5 (fun _ _ => False) I5 (stat I5 n5) st5 stop
    rw [q5] at td
    refine thnF td fun r s6 ⟨hr, I6⟩ => ?_
    subst hr
    obtain ⟨m, hn, _⟩ := I6.loc
    rw [q6, hloc] at hn
    refine ⟨m, hn, fun h' sb => ?_⟩
    subst hXb
    have I7 : Inv X pins σ H5 s6 := I3.call' (ch := fp) I6.os I6.base I6.hok I6.bare fun b hb => ⟨(f3 b hb).1.2.2.2.1, (f3 b hb).1.2.1, (f3 b hb).1.2.2.2.2.1, (f3 b hb).1.2.2.2.2.2⟩
    have c := fC H5 (by rw [← hloc]; exact I6.free)
    exact ⟨.ref D, H5, I7.turned (t' := s6.toks) (it := h3.objs.size) (fun b o hb e => by rw [sb.2 b hb]; exact e) c.1 c.2.1 c.2.2.2.1 c.2.2.2.2.1 c.2.2.2.2.2, rfl, qq⟩
  · have ti := T.item Xb q1 q2 q3 q4 i [] s5 _ H5 (fun _ _ => False) I5 (stat I5 n5) st5 go
    rw [q5] at ti
    refine thnF ti fun r s6 ⟨u, hr, h6⟩ => ?_
    subst hr
    refine thnF h6 fun _ s7 ⟨x, H7, I7, rv, hy, st7, n7⟩ => ?_
    have I8 := I7.pinned (stat I7 n7) (T.obj (i + 1) _ st7)
    -- back in the loop, with the same slots
    have back : ∀ {σ8 : L2.St} {H11 : Hp} {s11 : Shared}, Inv Xb ([] ++ pinsAt fp s7.heap) σ8 H11 s11 → wipe σ8 (own.map (·.2)) = wipe σ (own.map (·.2)) → Inv Xb [] (wipe σ (own.map (·.2))) H11 s11 ∧ tn (i + 1) s11.heap ∧ ∀ b ∈ fp, H11 b = none := fun {σ8 H11 s11} I11 hw => by
      have pin : ∀ b ∈ fp, ∀ o, s7.heap.get? b = some o → s11.heap.get? b = some o ∧ H11 b = none := fun b hb o e => by
        have hm : (b, o) ∈ Xb.pn ++ ([] ++ pinsAt fp s7.heap) := List.mem_append_right _ (by
          rw [List.nil_append]
          exact List.mem_filterMap.mpr ⟨b, hb, by rw [e]; rfl⟩)
        exact ⟨(I11.pin _ hm).1, (I11.pin _ hm).2.1⟩
      refine ⟨(I11.unpinned).weak ?_ fun k v e => ?_, T.keep (i + 1) _ _ st7 fun b hb o e => (pin b hb o e).1, fun b hb => ?_⟩
      · rw [← hw, wipe_length]
      · rw [← hw] at e
        exact (wipe_some e).1
      · obtain ⟨o, e, _⟩ := T.obj (i + 1) _ st7 b hb
        exact (pin b hb o e).2
    have pgr := pg.run _ s7 _ H7 x u _ I8 rv (stp x H7 hy)
    rw [q1, q2, q5, q6, q9] at pgr
    refine thnF pgr fun _ s8 ⟨σ8, H8, I9, hw, h8⟩ => ?_
    have ptr := pt.run _ s8 σ8 H8 _ I9 h8
    rw [q1, q2, q5, q6, q9] at ptr
    refine thnF ptr fun okb s9 ⟨H9, I10, h9⟩ => ?_
    cases okb with
    | false =>
      rw [if_neg (fun z => Bool.noConfusion z)] at h9 ⊢
      obtain ⟨m', lt, w'⟩ := hNx _ h9
      obtain ⟨b1, b2, b3⟩ := back I10 hw
      exact ⟨m', lt, i + 1, H9, b1, b2, b3, w'⟩
    | true =>
      rw [if_pos rfl] at h9 ⊢
      have per := pe.run _ s9 σ8 H9 _ I10 h9
      rw [q1, q2, q5, q6, q9] at per
      refine thnF per fun yv s10 ⟨y, H10, I11, ry, c, S, k, ey, hset, hk, hn⟩ => ?_
      subst ey
      obtain ⟨t, rfl⟩ := ry
      have so := I11.hok D _ hset
      rw [q1, q2] at so
      refine setR_add (setO_of so) hk fun h' sb r' => ?_
      obtain ⟨m', lt, w'⟩ := hNx _ hn
      have I12 := I11.write (t' := s10.toks + 1) (x := D) (e := D) (o := SetO X.w D (fun j => S j || decide (j = c)) (if S c = true then k else k + 1)) (h' := h') (by rw [hset]; trivial) (.inl rfl) (fun b u hb e => by rw [sb.2 b hb]; exact e) (r'.imp fun o ⟨_, _, _, e, _⟩ => e) (by rw [q1, q2]; exact setO_ok r')
      obtain ⟨b1, b2, b3⟩ := back I12 hw
      exact ⟨m', lt, i + 1, _, b1, b2, b3, w'⟩
end
end Cw

namespace Cw
open PySem PySem.Spec PyProof.Rows L2
/-- in order, each once: those are the same -/
theorem asc_same : ∀ {p q : List Int}, p.Pairwise (· < ·) → q.Pairwise (· < ·) → (∀ k, k ∈ p ↔ k ∈ q) → p = q
  | [], [], _, _, _ => rfl
  | [], b :: q, _, _, h => absurd ((h b).mpr (List.mem_cons_self ..)) (fun z => nomatch z)
  | a :: p, [], _, _, h => absurd ((h a).mp (List.mem_cons_self ..)) (fun z => nomatch z)
  | a :: p, b :: q, hp, hq, h => by
    obtain ⟨a1, a2⟩ := List.pairwise_cons.mp hp
    obtain ⟨b1, b2⟩ := List.pairwise_cons.mp hq
    have e : a = b := by
      rcases List.mem_cons.mp ((h a).mp (List.mem_cons_self ..)) with e | e
      · exact e
      · rcases List.mem_cons.mp ((h b).mpr (List.mem_cons_self ..)) with e2 | e2
        · exact e2.symm
        · have := b1 a e
          have := a1 b e2
          omega
    subst e
    rw [asc_same a2 b2 fun k => ?_]
    have hk := h k
    refine ⟨fun m => ?_, fun m => ?_⟩
    · rcases List.mem_cons.mp (hk.mp (List.mem_cons_of_mem _ m)) with e | e
      · have := a1 k m
        omega
      · exact e
    · rcases List.mem_cons.mp (hk.mpr (List.mem_cons_of_mem _ m)) with e | e
      · have := b1 k m
        omega
      · exact e
/-- the firsts of those pairs whose second is 1, among the first i -/
def hasZ (th row : List Int) (i : Nat) (k : Int) : Bool := ((th.zip row).take i).any fun p => decide (p.1 = k) && decide (p.2 = 1)
section
variable {T : List Addr} {X : Cx} {a b : Expr} {σ : L2.St} {B : Hp} {p p2 p3 p4 p5 pos : Pos}
theorem en_sortedZip {th row : List Int} {x y : Str} {px py ptu pe2 : Pos} {kt jx jy : Nat} {ifs : List Expr} {scope : Scope} {out : List Int} (hc : X.calm = true) (nd : X.N.Nodup) (bi : Bi X.mg) (ok : BlkOk X.N X.env.scope scope [(x, jx), (y, jy)])
    (tx : ∀ (s : Shared) (H : Hp) (A : Addr) (cl : List (Str × Addr)) (fp : List Addr), PG (blkX X scope s H A cl fp) (.Tuple [.Name x px, .Name y py] kt ptu) (gTup X.K 2 (gCons (gName jx) (gCons (gName jy) gNil))))
    (ha : ED T X a σ B (encR th)) (hb : ED T X b σ B (encR row)) (hl : th.length = row.length) (hn : th.length ≤ 12)
    (ht : ∀ (s : Shared) (H : Hp) (A : Addr) (cl : List (Str × Addr)) (fp : List Addr) (k l : Int) (B1 : Hp), Ex B B1 → ETs T (blkX X scope s H A cl fp) ifs (((wipe σ [jx, jy]).set jx (some (.int k))).set jy (some (.int l))) B1 (decide (l = 1)))
    (he : ∀ (s : Shared) (H : Hp) (A : Addr) (cl : List (Str × Addr)) (fp : List Addr) (k l : Int) (B1 : Hp), Ex B B1 → ED T (blkX X scope s H A cl fp) (.Name x pe2) (((wipe σ [jx, jy]).set jx (some (.int k))).set jy (some (.int l))) B1 (.int k))
    (hw : ∀ v u : V, wipe (((wipe σ [jx, jy]).set jx (some v)).set jy (some u)) [jx, jy] = wipe σ [jx, jy])
    (ho : out.Pairwise (· < ·)) (ho2 : ∀ k, k ∈ out ↔ hasZ th row th.length k = true)
    (hg : Gl X "sorted" := by rfl) (hg2 : Gl X "zip" := by rfl)
    (n1 : starEach [a, b] X.env = (false, eval a X.env) :: starEach [b] X.env := by rfl) (n2 : starEach [b] X.env = (false, eval b X.env) :: starEach [] X.env := by rfl) (n3 : (backTo p3 (starEach [b] X.env)).any (·.1) = false := by rfl)
    (hs : ∀ x, foldedSetIterable (.Call (.Name "zip" p2) [a, b] [] p3) X.env x = pure x := by intro _; rfl)
    (e1 : starEach [.SetComp (.Name x pe2) [⟨.Tuple [.Name x px, .Name y py] kt ptu, .Call (.Name "zip" p2) [a, b] [] p3, ifs, 0⟩] scope p4] X.env = (false, eval (.SetComp (.Name x pe2) [⟨.Tuple [.Name x px, .Name y py] kt ptu, .Call (.Name "zip" p2) [a, b] [] p3, ifs, 0⟩] scope p4) X.env) :: starEach [] X.env := by rfl) (e2 : (backTo pos (starEach [] X.env)).any (·.1) = false := by rfl) :
    EV T X (.Call (.Name "sorted" p) [.SetComp (.Name x pe2) [⟨.Tuple [.Name x px, .Name y py] kt ptu, .Call (.Name "zip" p2) [a, b] [] p3, ifs, 0⟩] scope p4] [] pos) σ B fun B' v => NewD B B' v (out.map .int) := fun H w Q q => by
  refine we_of (pe_callB (cr_sortedSet hc) hg bi.sorted (by decide +kernel) (pa_cons (pe_setI (own := [(x, jx), (y, jy)]) (tt := tts X scope ifs) (te := tes X scope (.Name x pe2)) hc nd (pi_zip hg2 bi.zip (pa_cons pwe (pa_cons pwe pa_nil n2) n1) n1 n3) ok tx pts_tts pe_tes hs) pa_nil e1) (by decide) (by decide) e1 e2) ?_
  refine ha H w _ fun v B1 H1 g1 r1 => (hb.mono g1.eb) H1 g1.wd _ fun u B2 H2 g2 r2 => ?_
  obtain ⟨A1, xs, rfl, hA1, rx⟩ := (r1.mono g2.eb).toList
  obtain ⟨A2, ys, rfl, hA2, ry⟩ := r2.toList
  have ex := rx.ints
  have ey := ry.ints
  subst ex ey
  have g12 := g1.trans g2
  refine ⟨A1, A2, _, _, rfl, SqL.of (g2.wd.ex.lst hA1), SqL.of (g2.wd.ex.lst hA2), fun D hD => ?_⟩
  have hB2 : B2 D = none := g2.wd.ex.free hD
  refine ⟨fun i m H' => m = th.length - i ∧ i ≤ th.length ∧ ∃ B' n, Go T B2 H2 B' H' ∧ B' D = none ∧ H' D = some (SetO X.w D (hasZ th row i) n) ∧ n ≤ i, ⟨th.length, rfl, Nat.zero_le _, B2, 0, Go.newH g2.wd hD, hB2, ?_, Nat.le_refl _⟩, ?_⟩
  · exact upd_same
  rintro i m H' ⟨rfl, hi, B', n, g3, hB', hD', hni⟩
  have s1 := SqL.of (K := X.K) (g3.wd.ex.lst (g3.eb.lst hA1))
  have s2 := SqL.of (K := X.K) (g3.wd.ex.lst (g3.eb.lst hA2))
  by_cases c : i < th.length
  · refine .inr ⟨?_, fun H3 => ∃ B' n, Go T B2 H2 B' H3 ∧ B' D = none ∧ H3 D = some (SetO X.w D (hasZ th row (i + 1)) n) ∧ n ≤ i + 1, fun H3 ⟨B', n, h⟩ => ⟨th.length - (i + 1), by omega, rfl, c, B', n, h⟩, fun t H3 hy => ?_⟩
    · exact ⟨_, _, .int th[i], .int (row[i]'(by omega)), s1, s2, by rw [List.getElem?_map, List.getElem?_eq_getElem c]; rfl, by rw [List.getElem?_map, List.getElem?_eq_getElem (by omega : i < row.length)]; rfl⟩
    · obtain ⟨Tt, x', y', rfl, hT, rfl, hx, hyy⟩ := hy
      have cr : i < row.length := by omega
      have hx := hx _ s1
      have hyy := hyy _ s2
      rw [List.getElem?_map, List.getElem?_eq_getElem c] at hx
      rw [List.getElem?_map, List.getElem?_eq_getElem cr] at hyy
      cases hx
      cases hyy
      have gT := g3.trans (Go.new (o := .tup [.int th[i], .int row[i]]) g3.wd hT)
      have hne : D ≠ Tt := fun e => by rw [← e, hD'] at hT; cases hT
      have bD : upd B' Tt (.tup [.int th[i], .int row[i]]) D = none := by rw [upd_ne hne]; exact hB'
      have hDt : upd H' Tt (.tup [.int th[i], .int row[i]]) D = some (SetO X.w D (hasZ th row i) n) := by rw [upd_ne hne]; exact hD'
      have more : ∀ k, hasZ th row (i + 1) k = (hasZ th row i k || (decide (th[i] = k) && decide (row[i] = 1))) := fun k => by
        unfold hasZ
        have hz : (th.zip row)[i]? = some (th[i], row[i]) := by
          rw [List.getElem?_zip_eq_some]
          exact ⟨List.getElem?_eq_getElem c, List.getElem?_eq_getElem cr⟩
        rw [List.take_add_one, hz, List.any_append]
        simp
      have ext0 : Ex B (upd B' Tt (.tup [.int th[i], .int row[i]])) := g12.eb.trans gT.eb
      refine ⟨Tt, _, rfl, .inl (.inl upd_same), rfl, _, _, rfl, _, _, rfl, ?_⟩
      refine ⟨rfl, hw _ _, fun s H0 A cl fp => ?_⟩
      refine ht s H0 A cl fp _ _ _ ext0 _ gT.wd _ fun B5 H5 g5 => ?_
      have b5 : B5 D = none := g5.out bD (by rw [hDt]; exact fun z => nomatch z)
      have h5 : H5 D = some (SetO X.w D (hasZ th row i) n) := g5.eh.at hDt trivial
      by_cases l1 : row[i] = 1
      · rw [decide_eq_true l1, if_pos rfl]
        intro s H0 A cl fp
        refine (he s H0 A cl fp _ _ B5 (ext0.trans g5.eb)) H5 g5.wd _ fun v B6 H6 g6 r6 => ?_
        have ev := r6.toInt
        have b6 : B6 D = none := g6.out b5 (by rw [h5]; exact fun z => nomatch z)
        have h6 : H6 D = some (SetO X.w D (hasZ th row i) n) := g6.eh.at h5 trivial
        refine ⟨th[i], _, n, ev, h6, Nat.lt_of_le_of_lt (show n + 1 ≤ 13 by omega) (by decide), B6, if hasZ th row i th[i] = true then n else n + 1, ((gT.trans g5).trans g6).mutA hD b6 h6 trivial, b6, ?_, ?_⟩
        · rw [upd_same]
          refine congrArg some (congrArg (fun S => SetO X.w D S _) (funext fun k => ?_))
          rw [more, decide_eq_true l1, Bool.and_true]
          congr 1
          exact decide_eq_decide.mpr ⟨fun e => e.symm, fun e => e.symm⟩
        · split <;> omega
      · rw [decide_eq_false l1, if_neg (fun z => Bool.noConfusion z)]
        refine ⟨B5, n, gT.trans g5, b5, ?_, by omega⟩
        rw [h5]
        refine congrArg some (congrArg (fun S => SetO X.w D S n) (funext fun k => ?_))
        rw [more, decide_eq_false l1, Bool.and_false, Bool.or_false]
  · have hi2 : i = th.length := by omega
    subst hi2
    refine .inl ⟨⟨_, _, s1, s2, .inl (by rw [List.length_map]; exact Nat.le_refl _)⟩, D, _, n, rfl, hD', by omega, fun ns p hns hm hlen hp => ?_⟩
    have e : ns = out := asc_same hns ho fun k => (hm k).trans (ho2 k).symm
    subst e
    have gn := Go.new (o := .lst (ns.map V.int)) g3.wd hp
    exact q _ _ _ (g12.trans (g3.trans gn)) ⟨p, _, rfl, g12.eb.free (g3.eb.free (g3.wd.ex.free hp)), upd_same, Dts.ofInts ns⟩
theorem ed_sortedZip {th row : List Int} {x y : Str} {px py ptu pe2 : Pos} {kt jx jy : Nat} {ifs : List Expr} {scope : Scope} {out : List Int} (hc : X.calm = true) (nd : X.N.Nodup) (bi : Bi X.mg) (ok : BlkOk X.N X.env.scope scope [(x, jx), (y, jy)])
    (tx : ∀ (s : Shared) (H : Hp) (A : Addr) (cl : List (Str × Addr)) (fp : List Addr), PG (blkX X scope s H A cl fp) (.Tuple [.Name x px, .Name y py] kt ptu) (gTup X.K 2 (gCons (gName jx) (gCons (gName jy) gNil))))
    (ha : ED T X a σ B (encR th)) (hb : ED T X b σ B (encR row)) (hl : th.length = row.length) (hn : th.length ≤ 12)
    (ht : ∀ (s : Shared) (H : Hp) (A : Addr) (cl : List (Str × Addr)) (fp : List Addr) (k l : Int) (B1 : Hp), Ex B B1 → ETs T (blkX X scope s H A cl fp) ifs (((wipe σ [jx, jy]).set jx (some (.int k))).set jy (some (.int l))) B1 (decide (l = 1)))
    (he : ∀ (s : Shared) (H : Hp) (A : Addr) (cl : List (Str × Addr)) (fp : List Addr) (k l : Int) (B1 : Hp), Ex B B1 → ED T (blkX X scope s H A cl fp) (.Name x pe2) (((wipe σ [jx, jy]).set jx (some (.int k))).set jy (some (.int l))) B1 (.int k))
    (hw : ∀ v u : V, wipe (((wipe σ [jx, jy]).set jx (some v)).set jy (some u)) [jx, jy] = wipe σ [jx, jy])
    (ho : out.Pairwise (· < ·)) (ho2 : ∀ k, k ∈ out ↔ hasZ th row th.length k = true)
    (hg : Gl X "sorted" := by rfl) (hg2 : Gl X "zip" := by rfl)
    (n1 : starEach [a, b] X.env = (false, eval a X.env) :: starEach [b] X.env := by rfl) (n2 : starEach [b] X.env = (false, eval b X.env) :: starEach [] X.env := by rfl) (n3 : (backTo p3 (starEach [b] X.env)).any (·.1) = false := by rfl)
    (hs : ∀ x, foldedSetIterable (.Call (.Name "zip" p2) [a, b] [] p3) X.env x = pure x := by intro _; rfl)
    (e1 : starEach [.SetComp (.Name x pe2) [⟨.Tuple [.Name x px, .Name y py] kt ptu, .Call (.Name "zip" p2) [a, b] [] p3, ifs, 0⟩] scope p4] X.env = (false, eval (.SetComp (.Name x pe2) [⟨.Tuple [.Name x px, .Name y py] kt ptu, .Call (.Name "zip" p2) [a, b] [] p3, ifs, 0⟩] scope p4) X.env) :: starEach [] X.env := by rfl) (e2 : (backTo pos (starEach [] X.env)).any (·.1) = false := by rfl) :
    ED T X (.Call (.Name "sorted" p) [.SetComp (.Name x pe2) [⟨.Tuple [.Name x px, .Name y py] kt ptu, .Call (.Name "zip" p2) [a, b] [] p3, ifs, 0⟩] scope p4] [] pos) σ B (encR out) :=
  (en_sortedZip hc nd bi ok tx ha hb hl hn ht he hw ho ho2 hg hg2 n1 n2 n3 hs e1 e2).imp fun _ _ _ n => n.dt
end
end Cw

namespace Cw
open PySem PySem.Spec PyProof.Rows L2
/-! ## a loom made of lists that were made before -/
section
variable {T : List Addr} {X : Cx} {a b c e o iter : Expr} {es : List Expr} {σ : L2.St} {B0 H0 B H : Hp} {pos p1 p2 p3 p4 p5 : Pos} {ss : List Sv} {D : Ends} {rest s1 : List Stmt}
/-- x = e, a new list of ints, its address told -/
theorem t_setN {x : Str} {px : Pos} {l : List Int} (i : Nat) (g : Go T B0 H0 B H) (hs : Sl B σ ss) (hN : X.N.Nodup) (h : EV T X e σ B fun B' v => NewD B B' v (l.map .int))
    (k : ∀ A B' H', Go T B0 H0 B' H' → Go T B H B' H' → B A = none → B' A = some (.lst (l.map V.int)) → Sl B' (σ.set i (some (.ref A))) (ss.set i (.dat (encR l))) → wss X rest D (σ.set i (some (.ref A))) H')
    (hi : X.N[i]? = some x := by rfl) (hx : Loc X.env.scope x := by first | exact Or.inl rfl | exact Or.inr rfl)
    (hsw : swapsWith e (some (.Name x px)) pos.line X.env = pure false := by rfl) (hf : X.fn x = true ∨ X.env.scope.names.lookup x = some .local := by first | exact .inl rfl | exact .inr rfl | assumption) : wss X (.Assign [.Name x px] e pos :: rest) D σ H :=
  s_set g.wd h hN hi hx (fun v B' H' g2 r => by
    obtain ⟨A, ws, rfl, h1, h2, h3⟩ := r
    rw [h3.ints] at h2
    exact k A B' H' (g.trans g2) g2 h1 h2 ((hs.mono g2.eb).set (o := some (.ref A)) (s := .dat _) ⟨_, rfl, .lst h2 (Dts.ofInts l)⟩ i)) hsw hf
/-- y = [e for x in ..], a new list of new lists, the addresses told -/
theorem t_setLG {x y : Str} {px py lpos : Pos} {elt iter : Expr} {scope : Scope} {gs : List (List Int)} (i : Nat) (g : Go T B0 H0 B H) (hs : Sl B σ ss) (l : LG T X elt iter scope x px σ B (gs.map fun r => r.map .int))
    (k : ∀ A rs B' H', Go T B0 H0 B' H' → Go T B H B' H' → B A = none → B' A = some (.lst (rs.map V.ref)) → A ∉ rs → rs.Nodup → RowsAt B' rs gs → (∀ r ∈ rs, B r = none) → Sl B' (σ.set i (some (.ref A))) (ss.set i (.dat (encG gs))) → wss X rest D (σ.set i (some (.ref A))) H')
    (hi : X.N[i]? = some y := by rfl) (hyl : X.env.scope.names.lookup y = some .local := by rfl)
    (hsw : swapsWith (.ListComp elt [⟨.Name x px, iter, [], 0⟩] scope lpos) (some (.Name y py)) pos.line X.env = pure true := by exact sw_true rfl rfl rfl (by decide +kernel))
    (hfs : ∀ x, foldedSetIterable iter X.env x = pure x := by intro _; rfl) : wss X (.Assign [.Name y py] (.ListComp elt [⟨.Name x px, iter, [], 0⟩] scope lpos) pos :: rest) D σ H := by
  obtain ⟨j, wi, b, h1, run⟩ := l
  refine s_cons (ws_of (ps_setLc (own := [(x, j)]) b.calm b.nd hi hyl hsw h1 b.ok b.tg pts_tts pe_tes hfs) (run H g.wd _ fun v B' H' g2 r => ?_))
  obtain ⟨A, rs, rfl, n1, hA, nr, nd, rows⟩ := r
  have ra := Rws.at rows
  exact k A rs B' H' (g.trans g2) g2 n1 hA nr nd ra (fun r hr => by
    obtain ⟨q, hq1, hq2⟩ := List.getElem_of_mem hr
    obtain ⟨_, _, h1, _⟩ := rows.get (by rw [List.getElem?_eq_getElem hq1, hq2] : rs[q]? = some r)
    exact h1) ((hs.mono g2.eb).set (o := some (.ref A)) (s := .dat _) ⟨_, rfl, .lst hA ra.dts⟩ i)
/-- (e1, e2, e3): two lists that were made since Bz, and a new one -/
theorem en_tupLm {Bz : Hp} {A1 A2 : Addr} {rs : List Addr} {x : List Int} {y : List (List Int)} {z : List Int} {x1 : Nat} (xz : Ex Bz B) (ha : EV T X a σ B fun _ v => v = .ref A1) (hb : EV T X b σ B fun _ v => v = .ref A2) (hc : EV T X c σ B fun B' v => NewD B B' v (z.map .int))
    (m1 : Bz A1 = none) (k1 : B A1 = some (.lst (x.map V.int))) (m2 : Bz A2 = none) (k2 : B A2 = some (.lst (rs.map V.ref))) (hr : RowsAt B rs y) (hrn : ∀ r ∈ rs, Bz r = none) (nd : (A1 :: A2 :: rs).Nodup)
    (hs1 : starEach [a, b, c] X.env = (false, eval a X.env) :: starEach [b, c] X.env := by rfl) (hs2 : starEach [b, c] X.env = (false, eval b X.env) :: starEach [c] X.env := by rfl) (hs3 : starEach [c] X.env = (false, eval c X.env) :: starEach [] X.env := by rfl) :
    EV T X (.Tuple [a, b, c] x1 pos) σ B fun B' v => NewLm Bz B' v x y z := fun H w Q q => by
  refine we_of (pe_tup (pa_cons pwe (pa_cons pwe (pa_cons pwe pa_nil hs3) hs2) hs1)) (ha H w _ fun v1 B1 H1 g1 r1 => (hb.mono mono_c g1.eb) H1 g1.wd _ fun v2 B2 H2 g2 r2 => (hc.mono (fun _ _ _ x n => n.mono x) (g1.eb.trans g2.eb)) H2 g2.wd _ fun v3 B3 H3 g3 r3 => ?_)
  show [v1, v2, v3].length ≤ sizeLine ∧ ∀ p, H3 p = none → Q (.ref p) (upd H3 p (.tup [v1, v2, v3]))
  refine ⟨Nat.le_of_ble_eq_true rfl, fun p hp => ?_⟩
  subst r1 r2
  have g := (g1.trans g2).trans g3
  have n := Go.new (o := .tup [.ref A1, .ref A2, v3]) g.wd hp
  have pB3 : B3 p = none := g.wd.ex.free hp
  obtain ⟨A3, ws3, rfl, hA3, hB3, d3⟩ := r3
  rw [d3.ints] at hB3
  have up := n.eb
  have b1 : B A1 ≠ none := by rw [k1]; exact fun w => nomatch w
  have b2 : B A2 ≠ none := by rw [k2]; exact fun w => nomatch w
  have br : ∀ r ∈ rs, B r ≠ none := fun r hr1 => by
    obtain ⟨q, hq1, hq2⟩ := List.getElem_of_mem hr1
    have hl := hr.1
    rw [hr.2 q r (y[q]'(by omega)) (by rw [List.getElem?_eq_getElem hq1, hq2]) (List.getElem?_eq_getElem (by omega))]
    exact fun w => nomatch w
  have pb : ∀ a, B3 a ≠ none → p ≠ a := fun a h e => h (e ▸ pB3)
  have e3 : B3 A3 ≠ none := by rw [hB3]; exact fun w => nomatch w
  have ebz := xz.trans g.eb
  have nd1 := List.nodup_cons.mp nd
  have nd2 := List.nodup_cons.mp nd1.2
  refine q _ _ _ (g.trans n) ⟨p, A1, A2, A3, rs, rfl, ebz.free pB3, upd_same, up.lst (g.eb.lst k1), up.lst (g.eb.lst k2), up.lst hB3, hr.imp fun a _ ws h => up.lst (g.eb.lst h), fun a ha => ?_, ?_⟩
  · rcases List.mem_cons.mp ha with rfl | ha
    · exact m1
    rcases List.mem_cons.mp ha with rfl | ha
    · exact m2
    rcases List.mem_cons.mp ha with rfl | ha
    · exact xz.free hA3
    · exact hrn a ha
  · refine List.nodup_cons.mpr ⟨fun h => ?_, List.nodup_cons.mpr ⟨fun h => ?_, List.nodup_cons.mpr ⟨fun h => ?_, List.nodup_cons.mpr ⟨fun h => br _ h hA3, nd2.2⟩⟩⟩⟩
    · rcases List.mem_cons.mp h with e | h
      · exact pb A1 (g.eb.there b1) e
      rcases List.mem_cons.mp h with e | h
      · exact pb A2 (g.eb.there b2) e
      rcases List.mem_cons.mp h with e | h
      · exact pb A3 e3 e
      · exact pb p (g.eb.there (br p h)) rfl
    · rcases List.mem_cons.mp h with e | h
      · exact nd1.1 (e ▸ List.mem_cons_self ..)
      rcases List.mem_cons.mp h with e | h
      · exact b1 (e ▸ hA3)
      · exact nd1.1 (List.mem_cons_of_mem _ h)
    · rcases List.mem_cons.mp h with e | h
      · exact b2 (e ▸ hA3)
      · exact nd2.1 h
end
end Cw

namespace Cw
open PySem PySem.Spec PyProof.Rows L2
section
variable {T : List Addr} {X : Cx} {a b : Expr} {σ : L2.St} {B : Hp} {p pos : Pos}
/-- max(l) of ints -/
theorem ed_maxL {ns : List Int} {mx : Int} (bi : Bi X.mg) (ha : ED T X a σ B (.list (ns.map .int))) (hm : mx ∈ ns) (hle : ∀ y, y ∈ ns → y ≤ mx) (hc : X.calm = true := by rfl) (hg : Gl X "max" := by rfl)
    (he : starEach [a] X.env = (false, eval a X.env) :: starEach [] X.env := by rfl) (hpl : (backTo pos (starEach [] X.env)).any (·.1) = false := by rfl) : ED T X (.Call (.Name "max" p) [a] [] pos) σ B (.int mx) :=
  ev_callB (Rs := fun B' vs => Dts B' vs [.list (ns.map .int)]) (cr_max hc) hg bi.max (by decide +kernel) (ea_cons ha ea_nil he) (fun B1 H1 vs _ w r Q q => by
    cases r with
    | cons r1 r2 =>
      cases r2
      obtain ⟨A, xs, rfl, hp, hr⟩ := r1.toList
      rw [hr.ints] at hp
      refine ⟨A, ns, rfl, SqL.of (w.ex.lst hp), List.length_pos_of_mem hm, fun m h1 h2 => ?_⟩
      rw [show m = mx from Int.le_antisymm (hle m h1) (h2 mx hm)]
      exact q _ B1 H1 (Go.rfl w) (.int _)) (by decide) (by decide) he hpl
/-- d in l, of data -/
theorem ec_inD {d : PyData} {ds : List PyData} (hu : X.A.units + 65 < cLine) (ha : ED T X a σ B d) (hb : ED T X b σ B (.list ds)) (fa : flatP d = true) (fb : flatP (.list ds) = true) (sa : SeqAt.shaped d = true) (sb : SeqAt.shaped (.list ds) = true) (hm : behindInMarks .In b = false := by rfl) : EC T X a .In b σ B (ds.any fun e => PyData.eqv e d) :=
  ec_of (op_inD hu) hm ha mono_dt hb mono_dt fun B1 H1 x y _ w rx ry Q q => by
    refine ⟨d, ds, (rx.mono w.ex).dp (.inr trivial) fa, (ry.mono w.ex).dp (.inr trivial) fb, sa, sb, ?_⟩
    exact q
end
end Cw

namespace Cw
open PySem PySem.Spec PyProof.Rows L2
/-! ## set(l): the numbers of a list -/
abbrev freshS (w : World) : Obj := { cls := .type "set", dict := none, data := .set #[] 0 (.fresh 0 0 (!w.params.followText "set-order")) }
/-- what set(l) leaves -/
def SetLeft (w : World) (s : Shared) (ns : List Int) (s' : Shared) : Prop := ∃ h' tk c, s' = { s with heap := h', toks := tk } ∧ SetR w h' s.heap.objs.size (fun j => decide (j ∈ ns)) c ∧ c ≤ ns.length ∧ ∀ b o, s.heap.get? b = some o → h'.get? b = some o
section
variable {P : Program} {w : World} {A : Around} {E : Value → Shared → Prop} {s : Shared}
theorem ints_at {items : Array Value} {ns : List Int} (hi : IntsAre items.toList ns) (hz : items.size = ns.length) (i : Nat) (v : Value) (hv : items[i]? = some v) : ∃ k t, ns[i]? = some k ∧ v = .int k t := by
  have hn : i < ns.length := by rw [← hz]; exact (Array.getElem?_eq_some_iff.mp hv).1
  obtain ⟨t, e⟩ := IntsAre.int_at hi i v (by rw [Array.getElem?_toList]; exact hv)
  refine ⟨ns[i], t, List.getElem?_eq_getElem hn, ?_⟩
  rw [e, List.getD_eq_getElem?_getD, List.getElem?_eq_getElem hn]
  rfl
/-- the walk over the list fills the set that stands new -/
theorem fillL {l : Addr} {items : Array Value} (ns : List Int) (hh : A.in1.handled = none) (hi : IntsAre items.toList ns) (hb : ns.length + 1 < scanBound) (lt : l < s.heap.objs.size) (hl1 : (s.heap.push (freshS w)).IsList l items) (R : Result → Shared → Prop)
    (hR : ∀ s', SetLeft w s ns s' → R (.ok (.ret .none)) s') :
    codeAny (model P w) A (.builtin "set.update.loop" ⟨[.ref s.heap.objs.size, .ref (s.heap.push (freshS w)).objs.size], []⟩) R { s with heap := (s.heap.push (freshS w)).push { cls := .type "list_iterator", data := .fields #[.ref l, .int 0 0] } } := by
  have hz : items.size = ns.length := by
    have q := IntsAre.length hi
    rw [Array.length_toList] at q
    exact q
  have sz : (s.heap.push (freshS w)).objs.size = s.heap.objs.size + 1 := Heap.size_push ..
  have n1 : l ≠ (s.heap.push (freshS w)).objs.size := by rw [sz]; exact Nat.ne_of_lt (Nat.lt_succ_of_lt lt)
  have n2 : s.heap.objs.size ∉ [(s.heap.push (freshS w)).objs.size, l] := by
    rw [sz]
    simp only [List.mem_cons, List.mem_singleton, List.not_mem_nil, or_false, not_or]
    exact ⟨Nat.ne_of_lt (Nat.lt_succ_self _), Nat.ne_of_gt lt⟩
  have h0 : ((s.heap.push (freshS w)).push { cls := .type "list_iterator", data := .fields #[.ref l, .int 0 0] }).get? s.heap.objs.size = some (freshS w) := Heap.get?_push_of_some _ (Heap.get?_push_size _ rfl)
  refine set_update_ints ((Walks.list hh _ l n1 items).toS) s.heap.objs.size n2 ns hz hb (ints_at hi hz) (items.size - 0) 0 _ (by omega) (Nat.zero_le _) ⟨⟨_, Heap.get?_push_size _ rfl, rfl, rfl⟩, hl1.push _⟩ ⟨0, Nat.le_refl 0, setR_new_at h0⟩ fun s' c hm hc hS => ?_
  obtain ⟨h', g', d', tk', os'⟩ := s'
  have eg : g' = s.gens := hm.gens
  have ed : d' = s.drawn := hm.drawn
  have eo : os' = s.os := hm.os
  subst eg ed eo
  refine hR _ ⟨h', tk', c, rfl, hS, by omega, fun b o e => ?_⟩
  have lb : b < s.heap.objs.size := Heap.lt_size e
  exact hm.heap b o (by
    rw [sz]
    simp only [List.mem_cons, List.mem_singleton, List.not_mem_nil, or_false, not_or]
    exact ⟨Nat.ne_of_lt lb, Nat.ne_of_lt (Nat.lt_succ_of_lt lb)⟩) (Heap.get?_push_of_some _ (Heap.get?_push_of_some _ e))
set_option maxHeartbeats 3200000 in
theorem call_setL {l : Addr} {items : Array Value} (ns : List Int) {Q : Value → Shared → Prop} (hh : A.handled = none) (hl : s.heap.IsList l items) (hi : IntsAre items.toList ns) (hb : ns.length + 1 < scanBound)
    (h : ∀ s', SetLeft w s ns s' → Q (.ref s.heap.objs.size) s') : wpAny (model P w) A (call (.type "set") [.ref l]) Q E s := by
  obtain ⟨c0, tl, mro⟩ := F.called_set.mro
  have q1 := F.called_set.made
  have q2 := F.called_set.sub
  have q3 := F.called_set.notType
  have q4 := F.called_set.canCreate
  have q5 := F.typeCall_set_1 (.ref l)
  have q6 := F.called_set.init.lookup
  have q7 := F.called_set.init.bind (.ref s.heap.objs.size)
  refine wpAny_call (codeAny_of_tree (wpAny_pure ⟨Code.quiet_builtin _ (by decide +kernel), codeAny_builtin F.entry_type_call ?_⟩))
  rw [Around.under_plain (weight_type_call_type "set" [.ref l] []) rfl]
  repeat (any_goals (first | assumption | wp_step))
  refine codeAny_mono (code_set_led1 (.ref l) (E := E) (Q₁ := fun v s' => v = .ref s.heap.objs.size ∧ s' = { s with heap := s.heap.push (freshS w) }) ⟨rfl, rfl⟩) fun r s1 hr => ?_
  match r, hr with
  | .error e, hr => exact hr
  | .ok (.ret v), hr =>
    obtain ⟨rfl, rfl⟩ := hr
    have g0 : (s.heap.push (freshS w)).get? s.heap.objs.size = some (freshS w) := Heap.get?_push_size _ rfl
    have hT : Shared.TypeIs { s with heap := s.heap.push (freshS w) } (.ref s.heap.objs.size) "set" := ⟨_, g0, rfl⟩
    repeat (any_goals (first | assumption | wp_step))
    refine codeAny_mono (codeAny_call_builtin (R := wants (fun r s' => r = .none ∧ SetLeft w s ns s') E) F.called_set.init.plain F.entry_set_init (check_set_init_1 hT ?_)) fun r2 s2 hr2 => ?_
    · obtain ⟨o, ho, e1, n, e2⟩ := hl
      obtain ⟨ocls, odict, odata, oslots⟩ := o
      simp only at e1 e2
      subst e1 e2
      have g1 : (s.heap.push (freshS w)).get? l = some { cls := .type "list", dict := odict, data := .seq items n, slots := oslots } := Heap.get?_push_of_some _ ho
      have hl1 : (s.heap.push (freshS w)).IsList l items := ⟨_, g1, rfl, n, rfl⟩
      have k1 := F.sub_list_set
      have k2 := F.sub_list_frozenset
      have k3 : (Value.type "list" == Value.type "dict") = false := by decide
      unfold Builtin.«set.__init__» noKeywords Builtin.Frozenset.updateFrom
      generalize hPI : pyIter = PI
      wp_walk
      subst hPI
      refine wpAny_pyIter_list hl1 ?_
      refine wpAny_bind (wpAny_runValue ?_)
      refine fillL ns (by simp [hh]) hi hb (Heap.lt_size ho) hl1 _ fun s' hs => ?_
      show wpAny _ _ _ _ _ _
      refine wpAny_pure ?_
      show wpAny _ _ (ret Value.none) _ _ _
      exact wpAny_pure ⟨rfl, hs⟩
    · match r2, hr2 with
      | .error e, hr2 => exact hr2
      | .ok (.ret v), hr2 =>
        obtain ⟨rfl, hs⟩ := hr2
        repeat (any_goals (first | assumption | wp_step))
        exact h _ hs
      | .ok .next, hr2 => exact hr2.elim
      | .ok .brk, hr2 => exact hr2.elim
      | .ok .cont, hr2 => exact hr2.elim
  | .ok .next, hr => exact hr.elim
  | .ok .brk, hr => exact hr.elim
  | .ok .cont, hr => exact hr.elim
end
end Cw

namespace Cw
open PySem PySem.Spec PyProof.Rows L2
theorem nodup_le : ∀ {q l : List Int}, q.Nodup → (∀ k ∈ q, k ∈ l) → q.length ≤ l.length
  | [], _, _, _ => Nat.zero_le _
  | a :: q, l, h, m => by
    obtain ⟨h1, h2⟩ := List.nodup_cons.mp h
    have ha := m a (List.mem_cons_self ..)
    have := nodup_le (q := q) (l := l.erase a) h2 fun k hk => (List.mem_erase_of_ne (a := k) (b := a) (fun e => h1 (by rw [← e]; exact hk))).mpr (m k (List.mem_cons_of_mem _ hk))
    rw [List.length_erase_of_mem ha] at this
    have := List.length_pos_of_mem ha
    rw [List.length_cons]
    omega
def rSetOfL (K : PySem.W.Frag) (w : World) : List V → Hp → VK → Prop := fun xs H Q => ∃ (l : Addr) (ns : List Int), xs = [.ref l] ∧ SqL K H l (ns.map V.int) ∧ ns.length ≤ 1000 ∧ ∀ p c, H p = none → c ≤ ns.length → (∀ q : List Int, q.Nodup → (∀ k ∈ q, k ∈ ns) → q.length ≤ c) → Q (.ref p) (upd H p (SetO w p (fun j => decide (j ∈ ns)) c))
theorem cr_setOfL {X : Cx} (hc : X.calm = true) : CallR X (.type "set") (rSetOfL X.K X.w) := by
  intro pins s σ H vs us Q I r h
  obtain ⟨l, ns, rfl, hs, hl, q⟩ := h
  obtain ⟨its, rv, hi, _⟩ := I.list hs
  rw [Vals.ref1 r]
  refine call_setL ns (I.ok.hd hc) hi.isList rv.ints (by unfold scanBound; omega) fun s' hs' => ?_
  obtain ⟨h', tk, c, rfl, R, hc', k⟩ := hs'
  refine ⟨.ref _, upd H s.heap.objs.size (SetO X.w s.heap.objs.size (fun j => decide (j ∈ ns)) c), I.laid (t' := tk) k (Nat.le_refl _) (setO_ok R), rfl, q _ _ (I.hok.fresh (Nat.le_refl _)) hc' fun q2 n2 m2 => ?_⟩
  obtain ⟨o, es, ep, t, ho, hex, hd, hg, hn, hmem, hb, hf, hsz, _⟩ := R
  have := nodup_le (l := es.toList.map keyOf) n2 fun k hk => (hmem k).mp (decide_eq_true (m2 k hk))
  rw [List.length_map] at this
  exact Nat.le_trans this (Nat.le_of_eq ((Array.length_toList (xs := es)).trans hsz))
section
variable {T : List Addr} {X : Cx} {a b : Expr} {σ : L2.St} {B : Hp} {p p2 p3 pos : Pos}
/-- sorted(set(l)) -/
theorem en_sortedSetL {ns out : List Int} (bi : Bi X.mg) (hset : X.mg "set" = none) (ha : ED T X a σ B (.list (ns.map .int))) (hl : ns.length ≤ 60) (ho : out.Pairwise (· < ·)) (hm : ∀ k, k ∈ out ↔ k ∈ ns) (hc : X.calm = true := by rfl) (hg : Gl X "sorted" := by rfl) (hg2 : Gl X "set" := by rfl)
    (he : starEach [a] X.env = (false, eval a X.env) :: starEach [] X.env := by rfl) (hpl : (backTo p3 (starEach [] X.env)).any (·.1) = false := by rfl)
    (he2 : starEach [.Call (.Name "set" p2) [a] [] p3] X.env = (false, eval (.Call (.Name "set" p2) [a] [] p3) X.env) :: starEach [] X.env := by rfl) (hpl2 : (backTo pos (starEach [] X.env)).any (·.1) = false := by rfl) :
    EV T X (.Call (.Name "sorted" p) [.Call (.Name "set" p2) [a] [] p3] [] pos) σ B fun B' v => NewD B B' v (out.map .int) := fun H w Q q => by
  refine we_of (pe_callB (cr_sortedSet hc) hg bi.sorted (by decide +kernel) (pa_cons (pe_callTy (cr_setOfL hc) hg2 hset PyProof.Rows.boot_set (pa_cons pwe pa_nil he) (by decide) (by decide) he hpl) pa_nil he2) (by decide) (by decide) he2 hpl2) ?_
  refine ha H w _ fun v B1 H1 g1 r1 => ?_
  obtain ⟨A1, xs, rfl, hA1, rx⟩ := r1.toList
  rw [rx.ints] at hA1
  refine ⟨A1, ns, rfl, SqL.of (g1.wd.ex.lst hA1), by omega, fun D c hD hcn _ => ?_⟩
  refine ⟨D, _, c, rfl, upd_same, by omega, fun ns2 p1 hns hm2 hlen hp => ?_⟩
  have e : ns2 = out := asc_same hns ho fun k => (hm2 k).trans ((by rw [decide_eq_true_eq] : decide (k ∈ ns) = true ↔ k ∈ ns).trans (hm k).symm)
  subst e
  have g2 := Go.newH (o := SetO X.w D (fun j => decide (j ∈ ns)) c) g1.wd hD
  have g3 := Go.new (o := .lst (ns2.map V.int)) g2.wd hp
  exact q _ _ _ (g1.trans (g2.trans g3)) ⟨p1, _, rfl, g1.eb.free (g2.wd.ex.free hp), upd_same, Dts.ofInts ns2⟩
def rLenOfS (w : World) : List V → Hp → VK → Prop := fun xs H Q => ∃ (a : Addr) (S : Int → Bool) (n : Nat), xs = [.ref a] ∧ H a = some (SetO w a S n) ∧ n ≤ 100000 ∧ Q (.int n) H
theorem cr_lenOfS : CallR X (.builtin "len") (rLenOfS X.w) := by
  intro pins s σ H vs us Q I r h
  obtain ⟨a, S, n, rfl, ha, hn, q⟩ := h
  rw [Vals.ref1 r]
  obtain ⟨o, es, ep, t, ho, hex, hd, _, _, _, _, hf, hsz, _⟩ := setO_get I ha
  exact call_len_set ho hex hd hf (by rw [hsz] <;> omega) ⟨.int n, H, I.tok _, ⟨_, by rw [hsz]⟩, q⟩
/-- len(set(l)) -/
theorem ev_lenSetL {ns : List Int} (bi : Bi X.mg) (hset : X.mg "set" = none) (ha : ED T X a σ B (.list (ns.map .int))) (hl : ns.length ≤ 60) (hc : X.calm = true := by rfl) (hg : Gl X "len" := by rfl) (hg2 : Gl X "set" := by rfl)
    (he : starEach [a] X.env = (false, eval a X.env) :: starEach [] X.env := by rfl) (hpl : (backTo p3 (starEach [] X.env)).any (·.1) = false := by rfl)
    (he2 : starEach [.Call (.Name "set" p2) [a] [] p3] X.env = (false, eval (.Call (.Name "set" p2) [a] [] p3) X.env) :: starEach [] X.env := by rfl) (hpl2 : (backTo pos (starEach [] X.env)).any (·.1) = false := by rfl) :
    EV T X (.Call (.Name "len" p) [.Call (.Name "set" p2) [a] [] p3] [] pos) σ B fun _ v => ∃ c : Nat, v = .int c ∧ ∀ q : List Int, q.Nodup → (∀ k ∈ q, k ∈ ns) → q.length ≤ c := fun H w Q q => by
  refine we_of (pe_callB cr_lenOfS hg bi.len (by decide +kernel) (pa_cons (pe_callTy (cr_setOfL hc) hg2 hset PyProof.Rows.boot_set (pa_cons pwe pa_nil he) (by decide) (by decide) he hpl) pa_nil he2) (by decide) (by decide) he2 hpl2) ?_
  refine ha H w _ fun v B1 H1 g1 r1 => ?_
  obtain ⟨A1, xs, rfl, hA1, rx⟩ := r1.toList
  rw [rx.ints] at hA1
  refine ⟨A1, ns, rfl, SqL.of (g1.wd.ex.lst hA1), by omega, fun D c hD hcn hq => ?_⟩
  exact ⟨D, _, c, rfl, upd_same, by omega, q _ _ _ (g1.trans (Go.newH g1.wd hD)) ⟨c, rfl, hq⟩⟩
end
end Cw

namespace Cw
open PySem PySem.Spec PyProof.Rows L2
/-! ## with the heap at hand -/
theorem NewLm.mono {B B' C : Hp} {v : V} {x : List Int} {y : List (List Int)} {z : List Int} (xx : Ex B' C) (n : NewLm B B' v x y z) : NewLm B C v x y z := by
  obtain ⟨p, A1, A2, A3, rs, e, hp0, hp, h1, h2, h3, hr, hn, nd⟩ := n
  exact ⟨p, A1, A2, A3, rs, e, hp0, xx.tup hp, xx.lst h1, xx.lst h2, xx.lst h3, hr.imp fun a _ ws h => xx.lst h, hn, nd⟩
section
variable {T : List Addr} {X : Cx} {e a b : Expr} {es : List Expr} {rest : List Stmt} {σ : L2.St} {B H : Hp} {p pos : Pos} {D : Ends} {Q : VK}
theorem we_fnP {x : Str} {k : Nat} {sp : Sp} {Rs : Hp → List V → Prop} (F : FnP X.prog X.w X.K X.mg X.base x k sp) (hr : Room k X.A) (w : Wd T B H) (ha : EA T X (e :: es) σ B Rs)
    (hsp : ∀ B1 H1 vs, Go T B H B1 H1 → Rs B1 vs → sp vs H1 Q fun _ _ _ => False)
    (hg : Gl X x := by rfl) (hdb : (x == ("__debug__" : Str)) = false := by decide) (he : starEach (e :: es) X.env = (false, eval e X.env) :: starEach es X.env := by rfl) (hpl : (backTo pos (starEach es X.env)).any (·.1) = false := by rfl) : we X (.Call (.Name x p) (e :: es) [] pos) σ H Q := by
  obtain ⟨f, fd, ps, G, h1, h2, h3⟩ := F.ex
  refine we_of (pe_call G hr hg h1 h2 h3 .nil passN pwa hdb he hpl) (ha H w _ fun vs B1 H1 g1 r1 => ?_)
  show sp (vs ++ []) H1 Q _
  rw [List.append_nil]
  exact hsp B1 H1 vs g1 r1
/-- return e, the heap at hand -/
theorem t_retH (h : we X e σ H fun v H' => D.rt v H') : wss X (.Return (some e) pos :: rest) D σ H := s_cons (ws_of (ps_ret pwe) h)
/-- a and b, a holding -/
theorem we_andT (h : we X a σ H fun v H1 => v = .bl true ∧ we X (.BoolOp .And (b :: es) pos) σ H1 Q) : we X (.BoolOp .And (a :: b :: es) pos) σ H Q :=
  we_of (pe_and pwe pwe) (we_imp h fun v H1 ⟨e, q⟩ => ⟨true, e, q⟩)
where we_imp {e : Expr} {H : Hp} {Q Q' : VK} (h : we X e σ H Q) (i : ∀ v H', Q v H' → Q' v H') : we X e σ H Q' := we_mk fun pins s I => thn (we_run h pins s I) fun v s1 ⟨x, H1, I1, r1, q⟩ => ⟨x, H1, I1, r1, i _ _ q⟩
theorem we_one (h : we X a σ H Q) : we X (.BoolOp .And [a] pos) σ H Q := we_of (pe_one pwe) h
end
end Cw

namespace Cw
open PySem PySem.Spec PyProof.Rows L2
/-! ## l.remove(x), of lists of ints: the library's remove_list_data, told by words -/
theorem plain_row : ∀ r : List Int, PyData.plainAll (r.map PyData.int) = true
  | [] => rfl
  | _ :: r => plain_row r
theorem plain_rows : ∀ g : List (List Int), PyData.plainAll (g.map encR) = true
  | [] => rfl
  | r :: g => by
    show ((encR r).plain && PyData.plainAll (g.map encR)) = true
    rw [plain_rows g, Bool.and_true]
    exact plain_row r
theorem place_row {g : List (List Int)} {r : List Int} (h : r ∈ g) : SeqAt.dataPlace (g.map encR) (encR r) = some (g.idxOf r) := by
  have hi : g.idxOf r < g.length := List.idxOf_lt_length_iff.mpr h
  refine List.findIdx?_eq_some_iff_getElem.mpr ⟨by rw [List.length_map]; exact hi, ?_, fun j hj => ?_⟩
  · rw [List.getElem_map, List.getElem_idxOf, eqv_R, decide_eq_true rfl]
  · rw [List.getElem_map, eqv_R]
    have := List.not_of_lt_findIdx (p := fun x => x == r) (xs := g) hj
    simpa using this
def rRemD (K : PySem.W.Frag) : V → List V → Hp → VK → Prop := fun x ys H Q => ∃ (a : Addr) (y : V) (vs : List V) (g : List (List Int)) (r : List Int), x = V.ref a ∧ ys = [y] ∧ H a = some (.lst vs) ∧ DpAll K H vs (g.map encR) ∧ Dp K H y (encR r) ∧ r ∈ g ∧ Q .non (upd H a (.lst (vs.eraseIdx (g.idxOf r))))
theorem mt_removeD {X : Cx} (hu : X.A.units + 65 < cLine) : MtR X "list.remove" (rRemD X.K) := fun pins s σ H x ys v us Q I rx rys ⟨a, y, vs, g, r, ex, ey, hH, hvs, hy, hr, q⟩ => by
  subst ex ey
  cases (show v = Value.ref a from rx)
  obtain ⟨u, rfl, ru⟩ := rys.one
  obtain ⟨zl, its, n, rv, hl, e⟩ := I.lstM hH
  obtain ⟨bs, ry⟩ := Dp.reads I (encR r) y u hy ru
  obtain ⟨cs, ra⟩ := Dp.readsAll I (g.map encR) vs its hvs rv
  refine SeqAt.remove_list_data (vs := its.toArray) ⟨_, e, rfl, n, rfl⟩ (show ReadsAll s.heap its.toArray.toList _ _ from ra) ry (plain_rows g) (plain_row r) ?_ (place_row hr) (by rw [List.size_toArray, ← hl]; exact zl) ?_
  · have := room_in_shaped (shaped_R r) hu (xs := g.map encR)
    exact this
  · refine ⟨.non, _, I.lset (its' := its.eraseIdx (g.idxOf r)) (t' := s.toks) hH e (by simp) (rv.eraseIdx _) ?_, rfl, q⟩
    have := List.length_eraseIdx_le vs (g.idxOf r)
    omega
end Cw

namespace Cw
open PySem PySem.Spec PyProof.Rows L2
/-! ## a list of dicts, their keys -/
def KeyD (S : Int → Bool) (B : Hp) (v : V) : Prop := ∃ a kvs, v = .ref a ∧ B a = some (.dK kvs) ∧ ∀ k : Int, (valV kvs (.inl k)).isSome = S k
theorem KeyD.mono {S : Int → Bool} {B C : Hp} {v : V} (x : Ex B C) (h : KeyD S B v) : KeyD S C v := by
  obtain ⟨a, kvs, e, h1, h2⟩ := h
  exact ⟨a, kvs, e, x.at h1 trivial, h2⟩
theorem Dic.key {Bs H B : Hp} {a : Addr} {n : Nat} {f : Int → Option (List Int)} (d : Dic Bs H B a n f) : KeyD (fun k => (f k).isSome) H (.ref a) := by
  obtain ⟨kvs, h1, h2, h3⟩ := d
  refine ⟨a, kvs, rfl, h1, fun k => ?_⟩
  have := h3 k
  show (valV kvs (.inl k)).isSome = (f k).isSome
  revert this
  cases f k with
  | none => intro h; exact congrArg Option.isSome h
  | some p => intro ⟨v, h, _⟩; rw [h]; rfl
/-- v: a list of n things, the i-th told by R i -/
def LstR (R : Nat → Hp → V → Prop) (n : Nat) (B : Hp) (v : V) : Prop := ∃ D xs, v = .ref D ∧ B D = some (.lst xs) ∧ xs.length = n ∧ ∀ i x, xs[i]? = some x → R i B x
def MonoN (R : Nat → Hp → V → Prop) : Prop := ∀ i B C v, Ex B C → R i B v → R i C v
theorem LstR.mono {R : Nat → Hp → V → Prop} {n : Nat} {B C : Hp} {v : V} (m : MonoN R) (x : Ex B C) (h : LstR R n B v) : LstR R n C v := by
  obtain ⟨D, xs, e, h1, h2, h3⟩ := h
  exact ⟨D, xs, e, x.lst h1, h2, fun i y hy => m _ _ _ _ x (h3 i y hy)⟩
section
variable {T : List Addr} {X : Cx} {a b e o : Expr} {σ : L2.St} {B H : Hp} {ss : List Sv} {p pos apos : Pos} {rest : List Stmt} {D : Ends}
theorem mono_lst {R : Nat → Hp → V → Prop} {n : Nat} (m : MonoN R) : Mono fun B v => LstR R n B v := fun _ _ _ x h => h.mono m x
theorem mono_key {S : Int → Int → Bool} : MonoN fun i B v => KeyD (S i) B v := fun _ _ _ _ x h => h.mono x
theorem ed_lenR {R : Nat → Hp → V → Prop} {n : Nat} (mR : MonoN R) (h : EV T X a σ B fun B' v => LstR R n B' v) (hm : Bi X.mg) (hg : Gl X "len" := by rfl) (he : starEach [a] X.env = (false, eval a X.env) :: starEach [] X.env := by rfl) (hpl : (backTo pos (starEach [] X.env)).any (·.1) = false := by rfl) :
    ED T X (.Call (.Name "len" p) [a] [] pos) σ B (.int (n : Int)) :=
  ev_callB (Rs := fun B' vs => ∃ v, vs = [v] ∧ LstR R n B' v) call_len_seq hg hm.len PySem.boot_len ((ea_consG h (mono_lst mR) ea_nil (fun _ _ _ x r => r.mono x) he).imp fun B' vs _ r => by
    obtain ⟨v, r0, rfl, r1, r2⟩ := r
    cases r2
    exact ⟨v, rfl, r1⟩) (fun B1 H1 vs x w r Q q => by
    obtain ⟨v, rfl, A, xs, rfl, hA, hl, _⟩ := r
    rw [← hl] at q
    exact ⟨A, xs, rfl, .inl (.inl (.inl (w.ex.lst hA))), q _ B1 H1 (Go.rfl w) (.int _)⟩) (by decide) (by decide) he hpl
theorem ev_ixR {R : Nat → Hp → V → Prop} {n : Nat} {i : Int} (mR : MonoN R) (ha : EV T X a σ B fun B' v => LstR R n B' v) (hb : ED T X b σ B (.int i)) (h0 : 0 ≤ i) (h1 : i < n) (hs : PlainIx b := by exact fun _ _ => rfl) : EV T X (.Subscript a b pos) σ B (R i.toNat) :=
  ev_ix ix_list hs ha (mono_lst mR) hb mono_dt fun B1 H1 x y _ w rx ry Q q => by
    obtain ⟨A, xs, rfl, hA, hl, hr⟩ := rx
    have hi : i.toNat < xs.length := by omega
    have e : atI xs ((i.toNat : Nat) : Int) = some xs[i.toNat] := atI_nat (List.getElem?_eq_getElem hi)
    rw [show ((i.toNat : Nat) : Int) = i by omega] at e
    exact ⟨A, xs, i, xs[i.toNat], rfl, ry.toInt, .inl (.inl (w.ex.lst hA)), e, q _ B1 H1 (Go.rfl w) (hr _ _ (List.getElem?_eq_getElem hi))⟩
/-- k in d, k not in d -/
theorem ed_inK {S : Int → Bool} {k : Int} (hu : X.A.units + 1 < cLine) (ha : ED T X a σ B (.int k)) (hb : EV T X b σ B (KeyD S)) (hm : behindInMarks .In b = false := by rfl) : ED T X (.Compare a [.In] [b] pos) σ B (.bool (S k)) := fun H w Q q => by
  refine we_of (pe_cmp (pc_din hu pwe pwe) hm) (ha H w _ fun x B1 H1 g1 r1 => (hb.mono (fun _ _ _ x h => h.mono x) g1.eb) H1 g1.wd _ fun y B2 H2 g2 r2 => ?_)
  obtain ⟨A, kvs, rfl, hA, hk⟩ := r2
  rw [r1.toInt]
  have g3 := g1.trans g2
  exact ⟨A, _, rfl, DGet.k (k := .inl k) (g3.wd.ex.at hA trivial), by rw [hk]; exact q _ B2 H2 g3 (.bl _)⟩
theorem et_inK {S : Int → Bool} {k : Int} (hu : X.A.units + 1 < cLine) (ha : ED T X a σ B (.int k)) (hb : EV T X b σ B (KeyD S)) (hm : behindInMarks .In b = false := by rfl) : ET T X (.Compare a [.In] [b] pos) σ B (S k) := fun H w Q q => by
  refine wt_of (pt_cmp (pc_din hu pwe pwe) hm) (ha H w _ fun x B1 H1 g1 r1 => (hb.mono (fun _ _ _ x h => h.mono x) g1.eb) H1 g1.wd _ fun y B2 H2 g2 r2 => ?_)
  obtain ⟨A, kvs, rfl, hA, hk⟩ := r2
  rw [r1.toInt]
  have g3 := g1.trans g2
  exact ⟨A, _, rfl, DGet.k (k := .inl k) (g3.wd.ex.at hA trivial), _, rfl, by rw [hk]; exact q B2 H2 g3⟩
theorem ed_notinK {S : Int → Bool} {k : Int} (hu : X.A.units + 1 < cLine) (ha : ED T X a σ B (.int k)) (hb : EV T X b σ B (KeyD S)) (hm : behindInMarks .NotIn b = false := by rfl) : ED T X (.Compare a [.NotIn] [b] pos) σ B (.bool (!S k)) := fun H w Q q => by
  refine we_of (pe_cmp (pc_dnotin hu pwe pwe) hm) (ha H w _ fun x B1 H1 g1 r1 => (hb.mono (fun _ _ _ x h => h.mono x) g1.eb) H1 g1.wd _ fun y B2 H2 g2 r2 => ?_)
  obtain ⟨A, kvs, rfl, hA, hk⟩ := r2
  rw [r1.toInt]
  have g3 := g1.trans g2
  exact ⟨A, _, rfl, DGet.k (k := .inl k) (g3.wd.ex.at hA trivial), by rw [hk]; exact q _ B2 H2 g3 (.bl _)⟩
end
end Cw

namespace Cw
open PySem PySem.Spec PyProof.Rows L2
section
variable {T : List Addr} {X : Cx} {a b e o : Expr} {σ : L2.St} {B H : Hp} {ss : List Sv} {p p2 p3 pos apos : Pos} {rest : List Stmt} {D : Ends}
/-- [elt for x in range(n)], the elements told by a word -/
theorem ev_lcR {elt : Expr} {scope : Scope} {x : Str} {px pr : Pos} {j : Nat} {n : Int} {R : Nat → Hp → V → Prop} (mR : MonoN R) (k : Bk X scope x px j) (h : ED T X a σ B (.int n)) (hn : 0 ≤ n ∧ n ≤ 10000) (hm : Bi X.mg)
    (he : ∀ (s : Shared) (H : Hp) (A : Addr) (cl : List (Str × Addr)) (fp : List Addr) (i : Nat) (B1 : Hp), (i : Int) < n → Ex B B1 → EV T (blkX X scope s H A cl fp) elt ((σ.set j none).set j (some (.int (i : Int)))) B1 (R i))
    (hg : Gl X "range" := by rfl) (hs : starEach [a] X.env = [(false, eval a X.env)] := by rfl) (hss : ∀ x, foldedSetIterable (.Call (.Name "range" pr) [a] [] p2) X.env x = pure x := by intro _; rfl) :
    EV T X (.ListComp elt [⟨.Name x px, .Call (.Name "range" pr) [a] [] p2, [], 0⟩] scope pos) σ B fun B' v => (∃ D, v = .ref D ∧ B D = none) ∧ LstR R n.toNat B' v := fun H w Q q => by
  refine we_of (pe_lc (own := [(x, j)]) k.calm k.nd (pi_range1 hg hm.range (pa_cons pwe pa_nil hs) hs) k.ok k.tg (pts_tts (ifs := [])) pe_tes hss) ?_
  refine h H w _ fun v B1 H1 g1 r1 => ⟨n, by rw [r1.toInt], by omega, by omega, fun D hD => ?_⟩
  refine lc_range (lo := 0) (n := n.toNat) (g := gName j) (tt := tts X scope []) (te := tes X scope elt) (vs := [j]) (σ := σ) (D := D) (Qd := Q (.ref D)) (fun i H' => ∃ B' xs, Go T B1 H1 B' H' ∧ B' D = none ∧ H' D = some (.lst xs) ∧ xs.length = i ∧ ∀ (m : Nat) y, xs[m]? = some y → R m B' y) ⟨B1, [], Go.newH g1.wd hD, g1.wd.ex.free hD, upd_same, rfl, fun m y z => by simp at z⟩ (fun i H' hi' ⟨B', xs, g, h2, h3, hl, hr⟩ => ?_) fun H' ⟨B', xs, g, h2, h3, hl, hr⟩ => ?_
  · refine ⟨wipe_set σ j _, fun s H0 A cl fp => ?_⟩
    refine ets_nil H' g.wd _ fun B2 H2 g2 => ?_
    have f2 : B2 D = none := g2.out h2 (by rw [h3]; exact fun w => nomatch w)
    have h3' := g2.eh.lst h3
    intro s H0 A cl fp
    have he' := he s H0 A cl fp i B2 (by omega) (g1.eb.trans (g.eb.trans g2.eb))
    rw [show (0 : Int) + (i : Int) = i by omega]
    refine he' H2 g2.wd _ fun v B3 H3 g3 r3 => ?_
    have e3 := g3.eh.lst h3'
    have f3 : B3 D = none := g3.out f2 (by rw [h3']; exact fun w => nomatch w)
    refine ⟨xs, e3, Nat.lt_of_le_of_lt (show xs.length ≤ 10000 by omega) (by decide), B3, xs ++ [v], ((g.trans g2).trans g3).mutD hD f3 e3, f3, upd_same, by rw [List.length_append, hl]; rfl, fun m y hy => ?_⟩
    by_cases c : m < xs.length
    · rw [List.getElem?_append_left c] at hy
      exact mR _ _ _ _ (g2.eb.trans g3.eb) (hr m y hy)
    · rw [List.getElem?_append_right (by omega)] at hy
      have : m - xs.length = 0 := by
        cases q : m - xs.length with
        | zero => rfl
        | succ z => rw [q] at hy; simp at hy
      rw [this] at hy
      cases hy
      have : m = i := by omega
      subst this
      exact r3
  · have gs := g.settle hD h2 h3
    exact q _ _ H' (g1.trans gs) ⟨⟨D, rfl, g1.eb.free (g1.wd.ex.free hD)⟩, D, xs, rfl, upd_same, hl, fun i y hy => mR _ _ _ _ (Ex.new h2) (hr i y hy)⟩
/-- those of a list whose place and self pass -/
def enumD (p : Nat → PyData → Bool) (ds : List PyData) (n : Nat) : List PyData := ((ds.take n).zipIdx.filter fun q => p q.2 q.1).map (·.1)
theorem enumD_more {p : Nat → PyData → Bool} {ds : List PyData} {n : Nat} {d : PyData} (h : ds[n]? = some d) : enumD p ds (n + 1) = if p n d = true then enumD p ds n ++ [d] else enumD p ds n := by
  have hn : n < ds.length := (List.getElem?_eq_some_iff.mp h).1
  unfold enumD
  rw [List.take_add_one, h, List.zipIdx_append, List.filter_append, List.map_append, List.length_take, Nat.min_eq_left (by omega)]
  show _ ++ (([(d, 0 + n)] : List (PyData × Nat)).filter _).map _ = _
  rw [Nat.zero_add]
  by_cases c : p n d = true
  · rw [if_pos c, List.filter_cons_of_pos (by exact c)]
    rfl
  · rw [if_neg c, List.filter_cons_of_neg (by exact c), List.filter_nil, List.map_nil, List.append_nil]
theorem enumD_len {p : Nat → PyData → Bool} {ds : List PyData} {n : Nat} : (enumD p ds n).length ≤ ds.length := by
  unfold enumD
  rw [List.length_map]
  refine Nat.le_trans (List.length_filter_le _ _) ?_
  rw [List.length_zipIdx, List.length_take]
  omega
/-- [y for x, y in enumerate(l) if ..] -/
theorem en_enum {ds : List PyData} {x y : Str} {px py ptu pe2 : Pos} {kt jx jy : Nat} {ifs : List Expr} {scope : Scope} (pb : Nat → PyData → Bool) (hc : X.calm = true) (nd : X.N.Nodup) (bi : Bi X.mg) (ok : BlkOk X.N X.env.scope scope [(x, jx), (y, jy)])
    (tx : ∀ (s : Shared) (H : Hp) (A : Addr) (cl : List (Str × Addr)) (fp : List Addr), PG (blkX X scope s H A cl fp) (.Tuple [.Name x px, .Name y py] kt ptu) (gTup X.K 2 (gCons (gName jx) (gCons (gName jy) gNil))))
    (ha : ED T X a σ B (.list ds)) (hn : ds.length ≤ 10000)
    (ht : ∀ (s : Shared) (H : Hp) (A : Addr) (cl : List (Str × Addr)) (fp : List Addr) (k : Nat) (d : PyData) (v : V) (B1 : Hp), ds[k]? = some d → Ex B B1 → Dt B1 v d → ETs T (blkX X scope s H A cl fp) ifs (((wipe σ [jx, jy]).set jx (some (.int (k : Int)))).set jy (some v)) B1 (pb k d))
    (he : ∀ (s : Shared) (H : Hp) (A : Addr) (cl : List (Str × Addr)) (fp : List Addr) (k : Nat) (d : PyData) (v : V) (B1 : Hp), ds[k]? = some d → Ex B B1 → Dt B1 v d → ED T (blkX X scope s H A cl fp) (.Name y pe2) (((wipe σ [jx, jy]).set jx (some (.int (k : Int)))).set jy (some v)) B1 d)
    (hw : ∀ v u : V, wipe (((wipe σ [jx, jy]).set jx (some v)).set jy (some u)) [jx, jy] = wipe σ [jx, jy])
    (hg : Gl X "enumerate" := by rfl) (n1 : starEach [a] X.env = [(false, eval a X.env)] := by rfl)
    (hs : ∀ x, foldedSetIterable (.Call (.Name "enumerate" p2) [a] [] p3) X.env x = pure x := by intro _; rfl) :
    EV T X (.ListComp (.Name y pe2) [⟨.Tuple [.Name x px, .Name y py] kt ptu, .Call (.Name "enumerate" p2) [a] [] p3, ifs, 0⟩] scope pos) σ B fun B' v => NewD B B' v (enumD pb ds ds.length) := fun H w Q q => by
  refine we_of (pe_lc (own := [(x, jx), (y, jy)]) (tt := tts X scope ifs) (te := tes X scope (.Name y pe2)) hc nd (pi_enum hg bi.enum (pa_cons pwe pa_nil n1) n1) ok tx pts_tts pe_tes hs) ?_
  refine ha H w _ fun v B1 H1 g1 r1 => ?_
  obtain ⟨A1, xs, rfl, hA1, rx⟩ := r1.toList
  refine ⟨A1, xs, rfl, SqL.of (g1.wd.ex.lst hA1), fun D hD => ?_⟩
  have hl := rx.length
  refine lc_it (walk_enum (K := X.K) (a := A1) (xs := xs)) (g := gTup X.K 2 (gCons (gName jx) (gCons (gName jy) gNil))) (tt := tts X scope ifs) (te := tes X scope (.Name y pe2)) (vs := [jx, jy]) (σ := σ) (D := D) (Qd := Q (.ref D)) (fun i H' => Mk T B1 H1 D (enumD pb ds i) H') (Mk.start g1.wd hD) (fun i H' _ m => ?_) (fun i y2 H2 H' hi m hy => ?_) fun H' m => ?_
  · obtain ⟨B', _, g, _⟩ := m
    exact SqL.of (g.wd.ex.lst (g.eb.lst hA1))
  · obtain ⟨B', ws, g, h2, h3, r⟩ := m
    obtain ⟨Tt, x', y', rfl, hT, rfl, hx, hyy⟩ := hy
    cases hx
    obtain ⟨d, hd, ry⟩ := rx.getV hyy
    have gT := g.trans (Go.new (o := .tup [.int (i : Nat), y']) g.wd hT)
    have hne : D ≠ Tt := fun e => by rw [← e, h3] at hT; cases hT
    have bD : upd B' Tt (.tup [.int (i : Nat), y']) D = none := by rw [upd_ne hne]; exact h2
    have hDt : upd H2 Tt (.tup [.int (i : Nat), y']) D = some (.lst ws) := by rw [upd_ne hne]; exact h3
    have xT : Ex B' (upd B' Tt (.tup [.int (i : Nat), y'])) := Ex.new (g.wd.ex.free hT)
    have ext0 : Ex B (upd B' Tt (.tup [.int (i : Nat), y'])) := g1.eb.trans gT.eb
    have rd : Dt (upd B' Tt (.tup [.int (i : Nat), y'])) y' d := ry.mono gT.eb
    refine ⟨Tt, _, rfl, .inl (.inl upd_same), rfl, _, _, rfl, _, _, rfl, ?_⟩
    refine ⟨rfl, hw _ _, fun s H0 A cl fp => ?_⟩
    refine ht s H0 A cl fp i d y' _ hd ext0 rd _ gT.wd _ fun B5 H5 g5 => ?_
    have b5 : B5 D = none := g5.out bD (by rw [hDt]; exact fun z => nomatch z)
    have h5 : H5 D = some (.lst ws) := g5.eh.lst hDt
    have more := enumD_more (p := pb) hd
    cases l1 : pb i d with
    | true =>
      rw [l1, if_pos rfl] at more
      rw [if_pos rfl]
      intro s H0 A cl fp
      refine (he s H0 A cl fp i d y' B5 hd (ext0.trans g5.eb) (rd.mono g5.eb)) H5 g5.wd _ fun v B6 H6 g6 r6 => ?_
      obtain ⟨e4, m4⟩ := Mk.push hD (gT.trans g5) b5 h5 ((r.mono xT).mono g5.eb) g6 r6
      have hz : ws.length ≤ ds.length := by
        rw [r.length]
        exact enumD_len
      refine ⟨ws, e4, Nat.lt_of_le_of_lt (show ws.length ≤ 10000 by omega) (by decide), ?_⟩
      rw [more]
      exact m4
    | false =>
      rw [l1, if_neg (fun z => Bool.noConfusion z)] at more
      rw [if_neg (fun z => Bool.noConfusion z)]
      rw [more]
      exact ⟨B5, ws, gT.trans g5, b5, h5, (r.mono xT).mono g5.eb⟩
  · rw [hl] at m
    obtain ⟨B', g, ws, r1', r2'⟩ := m.done hD
    exact q _ B' H' (g1.trans g) ⟨D, ws, rfl, g1.eb.free (g1.wd.ex.free hD), r1', r2'⟩
theorem dts_erase {B : Hp} : ∀ {xs : List V} {l : List (List Int)}, Dts B xs (l.map encR) → ∀ j, Dts B (xs.eraseIdx j) ((l.eraseIdx j).map encR)
  | [], [], _, _ => .nil
  | _ :: _, _ :: _, .cons _ r, 0 => r
  | _ :: _, _ :: _, .cons h r, j + 1 => .cons h (dts_erase r j)
/-- l.remove(x), x in l, l within the base -/
theorem s_remI {x : Str} {p1 p2 : Pos} {i : Nat} {A : Addr} {xs : List V} {l : List (List Int)} {r : List Int} (w : Wd T B H) (hv : σ[i]? = some (some (.ref A))) (hA : H A = some (.lst xs)) (rx : Dts B xs (l.map encR)) (hr : r ∈ l) (hu : X.A.units + 65 < cLine) (h : ED T X e σ B (encR r))
    (k : ∀ j B' H', Go T B H B' H' → H' A = some (.lst xs) → Dts B' (xs.eraseIdx j) ((l.erase r).map encR) → wss X rest D σ (upd H' A (.lst (xs.eraseIdx j))))
    (hN : X.N[i]? = some x := by rfl) (hvis : Vis X.env.scope x := by first | exact Or.inl rfl | exact Or.inr (Or.inl rfl) | exact Or.inr (Or.inr rfl)) (hd : (x == ("__debug__" : Str)) = false := by decide) (hcd : (x == ("__classdict__" : Str)) = false := by decide)
    (hs : starEach [e] X.env = (false, eval e X.env) :: starEach [] X.env := by rfl)
    (pm : ∀ {to : TE} {t : TA}, PE X (.Name x p1) to → PA X [e] t → PE X (.Call (.Attribute (.Name x p1) "remove" p2) [e] [] p) (tBM X.K "list" (rRemD X.K) to t))
    (hsw : swapsWith (.Call (.Attribute (.Name x p1) "remove" p2) [e] [] p) none pos.line X.env = pure false := by rfl) : wss X (.Expr (.Call (.Attribute (.Name x p1) "remove" p2) [e] [] p) pos :: rest) D σ H := by
  refine s_cons (ws_of (ps_expr (pm (pe_var hN hvis hd hcd) (pa_cons pwe pa_nil hs)) hsw) ?_)
  refine ⟨.ref A, hv, .inl ⟨rfl, xs, .inl (.inl hA)⟩, h H w _ fun v B' H' g r1 => ?_⟩
  have hA' := g.eh.lst hA
  have er : l.eraseIdx (l.idxOf r) = l.erase r := (List.erase_eq_eraseIdx_of_idxOf rfl).symm
  have rx' := rx.mono g.eb
  exact ⟨A, v, xs, l, r, rfl, rfl, hA', (rx'.mono g.wd.ex).dp (lay_rows l).2.2, (r1.mono g.wd.ex).dp (.inr trivial) (flat_R _), hr, k (l.idxOf r) B' H' g hA' (by rw [← er]; exact dts_erase rx' _)⟩
end
end Cw

namespace Cw
open PySem PySem.Spec PyProof.Rows L2
theorem perm_sorted : ∀ {a b : List Int}, a.Perm b → a.Pairwise (· ≤ ·) → b.Pairwise (· ≤ ·) → a = b
  | [], b, p, _, _ => (List.nil_perm.mp p).symm
  | x :: a, [], p, _, _ => absurd (p.length_eq) (by simp)
  | x :: a, y :: b, p, ha, hb => by
    have e : x = y := by
      have h1 : y ≤ x ∨ x = y := by
        rcases List.mem_cons.mp (p.mem_iff.mp (List.mem_cons_self (a := x) (l := a))) with h | h
        · exact .inr h
        · exact .inl ((List.pairwise_cons.mp hb).1 x h)
      have h2 : x ≤ y ∨ y = x := by
        rcases List.mem_cons.mp (p.mem_iff.mpr (List.mem_cons_self (a := y) (l := b))) with h | h
        · exact .inr h
        · exact .inl ((List.pairwise_cons.mp ha).1 y h)
      omega
    subst e
    rw [perm_sorted (List.Perm.cons_inv p) (List.pairwise_cons.mp ha).2 (List.pairwise_cons.mp hb).2]
section
variable {T : List Addr} {X : Cx} {a b e o : Expr} {σ : L2.St} {B H : Hp} {p p2 pos : Pos}
theorem ec_notInI {t : Int} {l : List Int} (ha : ED T X a σ B (.int t)) (hb : ED T X b σ B (.list (l.map .int))) (hm : behindInMarks .NotIn b = false := by rfl) : EC T X a .NotIn b σ B (!decide (t ∈ l)) :=
  ec_of op_notIn_seq hm ha mono_dt hb mono_dt fun B1 H1 x y _ w rx ry Q q => by
    rw [rx.toInt]
    obtain ⟨p, xs, rfl, hp, hr⟩ := ry.toList
    rw [hr.ints] at hp
    refine ⟨p, _, rfl, .inl (SqL.of (w.ex.lst hp)), rfl, ?_, ?_⟩
    · rw [List.all_eq_true]
      intro v hv
      obtain ⟨i, _, rfl⟩ := List.mem_map.mp hv
      rfl
    · rw [if_pos rfl, inV_ints]
      exact q
/-- sorted(l), l a list of ints -/
theorem en_sortedI {ns out : List Int} (bi : Bi X.mg) (ha : ED T X a σ B (encR ns)) (hp : out.Perm ns) (ho : out.Pairwise (· ≤ ·)) (hg : Gl X "sorted" := by rfl)
    (he : starEach [a] X.env = (false, eval a X.env) :: starEach [] X.env := by rfl) (hpl : (backTo pos (starEach [] X.env)).any (·.1) = false := by rfl) :
    EV T X (.Call (.Name "sorted" p) [a] [] pos) σ B fun B' v => NewD B B' v (out.map .int) := fun H w Q q =>
  we_of (pe_callB cr_sortedI hg bi.sorted (by decide +kernel) (pa_cons pwe pa_nil he) (by decide) (by decide) he hpl) (ha H w _ fun v B1 H1 g1 r1 => by
    obtain ⟨A1, xs, rfl, hA1, rx⟩ := r1.toList
    rw [rx.ints] at hA1
    refine ⟨A1, ns, rfl, SqL.of (g1.wd.ex.lst hA1), fun ns' D hp2 ho2 hD => ?_⟩
    have e : ns' = out := perm_sorted (hp2.trans hp.symm) ho2 ho
    subst e
    exact q _ _ _ (g1.trans (Go.new (o := .lst (ns'.map V.int)) g1.wd hD)) ⟨D, _, rfl, g1.eb.free (g1.wd.ex.free hD), upd_same, Dts.ofInts ns'⟩)
theorem ed_sortedI {ns out : List Int} (bi : Bi X.mg) (ha : ED T X a σ B (encR ns)) (hp : out.Perm ns) (ho : out.Pairwise (· ≤ ·)) (hg : Gl X "sorted" := by rfl)
    (he : starEach [a] X.env = (false, eval a X.env) :: starEach [] X.env := by rfl) (hpl : (backTo pos (starEach [] X.env)).any (·.1) = false := by rfl) :
    ED T X (.Call (.Name "sorted" p) [a] [] pos) σ B (encR out) := (en_sortedI bi ha hp ho hg he hpl).imp fun _ _ _ n => n.dt
end
end Cw

/-! # layers: the threads that reach each other, told from above -/
namespace Cz
def thN (N : Nat) : List Int := (List.range N).map fun (k : Nat) => (k : Int)
theorem thN_mem {N : Nat} {v : Int} : v ∈ thN N ↔ 0 ≤ v ∧ v < N := by
  unfold thN
  rw [List.mem_map]
  refine ⟨fun ⟨k, hk, e⟩ => ?_, fun ⟨h0, h1⟩ => ⟨v.toNat, List.mem_range.mpr (by omega), by omega⟩⟩
  have := List.mem_range.mp hk
  omega
theorem thN_rise (N : Nat) : (thN N).Pairwise (· < ·) := by
  unfold thN
  rw [List.pairwise_map]
  exact List.Pairwise.imp (fun h => by omega) List.pairwise_lt_range
def layZ (N : Nat) (r : Int → Int → Bool) (t : Int) : List Int := (thN N).filter fun o => r t o && r o t
def leastZ (N : Nat) (r : Int → Int → Bool) : List (List Int) := ((thN N).filter fun t => decide ((layZ N r t).headD 0 = t)).map (layZ N r)
def mayZ (r : Int → Int → Bool) (left : List (List Int)) (layer : List Int) : Bool := left.all fun other => decide (other = layer) || !r (other.headD 0) (layer.headD 0)
def upZ (r : Int → Int → Bool) (left : List (List Int)) : List Int := (left.filter (mayZ r left)).headD []
def tellZ (r : Int → Int → Bool) : Nat → List (List Int) → List (List Int)
  | 0, _ => []
  | n + 1, left => upZ r left :: tellZ r n (left.erase (upZ r left))
def layersZ (N : Nat) (r : Int → Int → Bool) : List (List Int) := tellZ r (leastZ N r).length (leastZ N r)
structure Rr (N : Nat) (r : Int → Int → Bool) : Prop where
  refl : ∀ t ∈ thN N, r t t = true
  trans : ∀ a b c, r a b = true → r b c = true → r a c = true
section
variable {N : Nat} {r : Int → Int → Bool}
theorem lay_mem {t o : Int} : o ∈ layZ N r t ↔ o ∈ thN N ∧ r t o = true ∧ r o t = true := by
  unfold layZ
  rw [List.mem_filter, Bool.and_eq_true]
theorem lay_rise (t : Int) : (layZ N r t).Pairwise (· < ·) := (thN_rise N).filter _
theorem lay_self (R : Rr N r) {t : Int} (h : t ∈ thN N) : t ∈ layZ N r t := lay_mem.mpr ⟨h, R.refl t h, R.refl t h⟩
theorem lay_same (R : Rr N r) {t o : Int} (h : o ∈ layZ N r t) : layZ N r o = layZ N r t := by
  obtain ⟨h1, h2, h3⟩ := lay_mem.mp h
  refine List.filter_congr fun x _ => ?_
  rw [Bool.eq_iff_iff, Bool.and_eq_true, Bool.and_eq_true]
  exact ⟨fun ⟨q1, q2⟩ => ⟨R.trans _ _ _ h2 q1, R.trans _ _ _ q2 h3⟩, fun ⟨q1, q2⟩ => ⟨R.trans _ _ _ h3 q1, R.trans _ _ _ q2 h2⟩⟩
theorem head_in {l : List Int} (h : l ≠ []) : l.headD 0 ∈ l := by
  cases l with
  | nil => exact absurd rfl h
  | cons a l => exact List.mem_cons_self ..
theorem head_le {l : List Int} (h : l.Pairwise (· < ·)) {x : Int} (hx : x ∈ l) : l.headD 0 ≤ x := by
  cases l with
  | nil => cases hx
  | cons a l =>
    rcases List.mem_cons.mp hx with rfl | hx
    · exact Int.le_refl _
    · exact Int.le_of_lt ((List.pairwise_cons.mp h).1 x hx)
theorem least_mem (R : Rr N r) {l : List Int} : l ∈ leastZ N r ↔ ∃ t ∈ thN N, l = layZ N r t := by
  unfold leastZ
  rw [List.mem_map]
  refine ⟨fun ⟨t, ht, e⟩ => ⟨t, (List.mem_filter.mp ht).1, e.symm⟩, fun ⟨t, ht, e⟩ => ?_⟩
  have ne : layZ N r t ≠ [] := List.ne_nil_of_mem (lay_self R ht)
  have hm := head_in ne
  have hs := lay_same R hm
  exact ⟨(layZ N r t).headD 0, List.mem_filter.mpr ⟨(lay_mem.mp hm).1, decide_eq_true (by rw [hs])⟩, by rw [hs, e]⟩
/-- what each layer is -/
structure Lay (N : Nat) (r : Int → Int → Bool) (l : List Int) : Prop where
  ne : l ≠ []
  rise : l.Pairwise (· < ·)
  is : ∀ o ∈ l, o ∈ thN N ∧ l = layZ N r o
theorem least_lay (R : Rr N r) {l : List Int} (h : l ∈ leastZ N r) : Lay N r l := by
  obtain ⟨t, ht, rfl⟩ := (least_mem R).mp h
  exact ⟨List.ne_nil_of_mem (lay_self R ht), lay_rise t, fun o ho => ⟨(lay_mem.mp ho).1, (lay_same R ho).symm⟩⟩
theorem Lay.same {l l' : List Int} (h : Lay N r l) (k : Lay N r l') {x : Int} (hx : x ∈ l) (hx' : x ∈ l') : l = l' := by rw [(h.is x hx).2, ← (k.is x hx').2]
theorem Lay.head {l : List Int} (h : Lay N r l) : l.headD 0 ∈ l := head_in h.ne
theorem Lay.both {l : List Int} (h : Lay N r l) {x y : Int} (hx : x ∈ l) (hy : y ∈ l) : r x y = true := by
  rw [(h.is x hx).2] at hy
  exact (lay_mem.mp hy).2.1
theorem Lay.up (R : Rr N r) {l l' : List Int} (h : Lay N r l) (k : Lay N r l') {x y : Int} (hx : x ∈ l) (hy : y ∈ l') (e : r x y = true) : r (l.headD 0) (l'.headD 0) = true :=
  R.trans _ _ _ (h.both h.head hx) (R.trans _ _ _ e (k.both hy k.head))
theorem Lay.eq_of (R : Rr N r) {l l' : List Int} (h : Lay N r l) (k : Lay N r l') (e1 : r (l.headD 0) (l'.headD 0) = true) (e2 : r (l'.headD 0) (l.headD 0) = true) : l = l' := by
  refine h.same k (x := l'.headD 0) ?_ k.head
  rw [(h.is _ h.head).2]
  exact lay_mem.mpr ⟨(k.is _ k.head).1, e1, e2⟩
theorem least_heads (R : Rr N r) : (leastZ N r).Pairwise fun a b => a.headD 0 < b.headD 0 := by
  unfold leastZ
  rw [List.pairwise_map]
  refine List.Pairwise.imp_of_mem (fun {a b} ha hb hab => ?_) ((thN_rise N).filter _)
  rw [of_decide_eq_true (List.mem_filter.mp ha).2, of_decide_eq_true (List.mem_filter.mp hb).2]
  exact hab
theorem heads_nodup {L : List (List Int)} (h : L.Pairwise fun a b => a.headD 0 < b.headD 0) : L.Nodup := h.imp fun {a b} hab e => by rw [e] at hab; omega
theorem flat_of {L : List (List Int)} (R : Rr N r) (h : L.Pairwise fun a b => a.headD 0 < b.headD 0) (hl : ∀ l ∈ L, Lay N r l) (hc : ∀ t ∈ thN N, ∃ l ∈ L, t ∈ l) : L.flatten.Perm (thN N) := by
  refine (List.perm_ext_iff_of_nodup ?_ ((thN_rise N).imp fun {a b} hab => by omega)).mpr fun x => ?_
  · refine List.pairwise_flatten.mpr ⟨fun l hm => (hl l hm).rise.imp fun {a b} hab => by omega, List.Pairwise.imp_of_mem (fun {a b} ha hb hab => ?_) h⟩
    intro x hx y hy e
    subst e
    have := (hl a ha).same (hl b hb) hx hy
    rw [this] at hab
    omega
  · rw [List.mem_flatten]
    exact ⟨fun ⟨l, h1, h2⟩ => ((hl l h1).is x h2).1, fun h => hc x h⟩
theorem least_flat (R : Rr N r) : (leastZ N r).flatten.Perm (thN N) :=
  flat_of R (least_heads R) (fun l h => least_lay R h) fun t ht => ⟨layZ N r t, (least_mem R).mpr ⟨t, ht, rfl⟩, lay_self R ht⟩
/-! ## what may come next -/
theorem may_iff {left : List (List Int)} {l : List Int} : mayZ r left l = true ↔ ∀ o ∈ left, o ≠ l → r (o.headD 0) (l.headD 0) = false := by
  unfold mayZ
  rw [List.all_eq_true]
  refine ⟨fun h o ho hn => ?_, fun h o ho => ?_⟩
  · have := h o ho
    rw [decide_eq_false hn, Bool.false_or] at this
    simpa using this
  · by_cases c : o = l
    · rw [decide_eq_true c]
      rfl
    · rw [h o ho c]
      simp
theorem may_mem {A B : List (List Int)} (h : ∀ x, x ∈ A ↔ x ∈ B) (l : List Int) : mayZ r A l = mayZ r B l := by
  rw [Bool.eq_iff_iff, may_iff, may_iff]
  exact ⟨fun q o ho => q o ((h o).mpr ho), fun q o ho => q o ((h o).mp ho)⟩
theorem most {left : List (List Int)} (c : List Int → Nat) (h : left ≠ []) : ∃ l ∈ left, ∀ o ∈ left, c o ≤ c l := by
  induction left with
  | nil => exact absurd rfl h
  | cons a left ih =>
    by_cases e : left = []
    · subst e
      exact ⟨a, List.mem_cons_self .., fun o ho => by rw [List.mem_singleton.mp ho]; exact Nat.le_refl _⟩
    · obtain ⟨l, h1, h2⟩ := ih e
      by_cases k : c l ≤ c a
      · refine ⟨a, List.mem_cons_self .., fun o ho => ?_⟩
        rcases List.mem_cons.mp ho with rfl | ho
        · exact Nat.le_refl _
        · exact Nat.le_trans (h2 o ho) k
      · refine ⟨l, List.mem_cons_of_mem _ h1, fun o ho => ?_⟩
        rcases List.mem_cons.mp ho with rfl | ho
        · omega
        · exact h2 o ho
theorem filter_less {α : Type} {l : List α} {p q : α → Bool} (h : ∀ x ∈ l, p x = true → q x = true) {x : α} (hx : x ∈ l) (h1 : q x = true) (h2 : p x = false) : (l.filter p).length < (l.filter q).length := by
  have e : l.filter p = (l.filter q).filter p := by
    rw [List.filter_filter]
    refine List.filter_congr fun y hy => ?_
    cases c : p y with
    | true => rw [h y hy c]; rfl
    | false => rfl
  rw [e]
  exact List.length_filter_lt_length_iff_exists.mpr ⟨x, List.mem_filter.mpr ⟨hx, h1⟩, by rw [h2]; decide⟩
theorem may_some (R : Rr N r) {left : List (List Int)} (h : left ≠ []) (hl : ∀ l ∈ left, Lay N r l) : ∃ l ∈ left, mayZ r left l = true := by
  obtain ⟨l, h1, h2⟩ := most (fun l => ((thN N).filter fun o => r (l.headD 0) o).length) h
  refine ⟨l, h1, may_iff.mpr fun o ho hn => ?_⟩
  cases c : r (o.headD 0) (l.headD 0) with
  | false => rfl
  | true =>
    exfalso
    have L := hl l h1
    have O := hl o ho
    have := h2 o ho
    have lt : ((thN N).filter fun x => r (l.headD 0) x).length < ((thN N).filter fun x => r (o.headD 0) x).length := by
      refine filter_less (fun x _ e => R.trans _ _ _ c e) (O.is _ O.head).1 (R.refl _ (O.is _ O.head).1) ?_
      cases c2 : r (l.headD 0) (o.headD 0) with
      | false => rfl
      | true => exact absurd (O.eq_of R L c c2) hn
    omega
theorem up_is (R : Rr N r) {left : List (List Int)} (h : left ≠ []) (hl : ∀ l ∈ left, Lay N r l) (hp : left.Pairwise fun a b => a.headD 0 < b.headD 0) :
    upZ r left ∈ left ∧ mayZ r left (upZ r left) = true ∧ ∀ l ∈ left, mayZ r left l = true → l ≠ upZ r left → (upZ r left).headD 0 < l.headD 0 := by
  obtain ⟨l0, h1, h2⟩ := may_some R h hl
  have hm : l0 ∈ left.filter (mayZ r left) := List.mem_filter.mpr ⟨h1, h2⟩
  have hp2 := hp.filter (mayZ r left)
  have key : ∀ F : List (List Int), F = left.filter (mayZ r left) → upZ r left ∈ F ∧ ∀ l ∈ F, l ≠ upZ r left → (upZ r left).headD 0 < l.headD 0 := by
    intro F e
    unfold upZ
    rw [← e]
    rw [← e] at hm hp2
    cases F with
    | nil => cases hm
    | cons a F =>
      refine ⟨List.mem_cons_self .., fun l hl2 hn => ?_⟩
      rcases List.mem_cons.mp hl2 with rfl | hl2
      · exact absurd rfl hn
      · exact (List.pairwise_cons.mp hp2).1 l hl2
  obtain ⟨k1, k2⟩ := key _ rfl
  obtain ⟨k3, k4⟩ := List.mem_filter.mp k1
  exact ⟨k3, k4, fun l h3 h4 hn => k2 l (List.mem_filter.mpr ⟨h3, h4⟩) hn⟩
/-- told from above -/
def Ord (r : Int → Int → Bool) : List (List Int) → Prop
  | [] => True
  | l :: rest => mayZ r (l :: rest) l = true ∧ (∀ l' ∈ rest, mayZ r (l :: rest) l' = true → l.headD 0 < l'.headD 0) ∧ Ord r rest
theorem tell_is (R : Rr N r) : ∀ (n : Nat) (left : List (List Int)), left.length = n → (∀ l ∈ left, Lay N r l) → (left.Pairwise fun a b => a.headD 0 < b.headD 0) → (tellZ r n left).Perm left ∧ Ord r (tellZ r n left) := by
  intro n
  induction n with
  | zero =>
    intro left hn _ _
    rw [List.length_eq_zero_iff.mp hn]
    exact ⟨List.Perm.refl _, trivial⟩
  | succ n ih =>
    intro left hn hl hp
    have ne : left ≠ [] := fun e => by rw [e] at hn; cases hn
    obtain ⟨u1, u2, u3⟩ := up_is R ne hl hp
    have hsub : (left.erase (upZ r left)).Sublist left := List.erase_sublist
    have hlen : (left.erase (upZ r left)).length = n := by rw [List.length_erase_of_mem u1]; omega
    obtain ⟨p1, p2⟩ := ih _ hlen (fun l h => hl l (hsub.subset h)) (hp.sublist hsub)
    have pm : (upZ r left :: tellZ r n (left.erase (upZ r left))).Perm left := (p1.cons _).trans (List.perm_cons_erase u1).symm
    have mm : ∀ x, x ∈ upZ r left :: tellZ r n (left.erase (upZ r left)) ↔ x ∈ left := fun x => pm.mem_iff
    refine ⟨pm, ?_, fun l' h1 h2 => ?_, p2⟩
    · rw [may_mem mm]
      exact u2
    · rw [may_mem mm] at h2
      refine u3 l' (hsub.subset (p1.mem_iff.mp h1)) h2 fun e => ?_
      rw [e] at h1
      have nd := heads_nodup hp
      exact absurd (p1.mem_iff.mp h1) (nd.not_mem_erase)
theorem layers_perm (R : Rr N r) : (layersZ N r).Perm (leastZ N r) := (tell_is R _ _ rfl (fun l h => least_lay R h) (least_heads R)).1
theorem layers_ord (R : Rr N r) : Ord r (layersZ N r) := (tell_is R _ _ rfl (fun l h => least_lay R h) (least_heads R)).2
theorem layers_lay (R : Rr N r) {l : List Int} (h : l ∈ layersZ N r) : Lay N r l := least_lay R ((layers_perm R).mem_iff.mp h)
theorem layers_nodup (R : Rr N r) : (layersZ N r).Nodup := (layers_perm R).nodup_iff.mpr (heads_nodup (least_heads R))
theorem layers_flat (R : Rr N r) : (layersZ N r).flatten.Perm (thN N) := (layers_perm R).flatten.trans (least_flat R)
theorem layers_has (R : Rr N r) {t : Int} (ht : t ∈ thN N) : ∃ l ∈ layersZ N r, t ∈ l := by
  have := (layers_flat R).mem_iff.mpr ht
  rw [List.mem_flatten] at this
  exact this
theorem ord_uniq : ∀ {A B : List (List Int)}, Ord r A → Ord r B → A.Perm B → (∀ a ∈ A, ∀ b ∈ A, a.headD 0 = b.headD 0 → a = b) → A = B
  | [], B, _, _, p, _ => (List.nil_perm.mp p).symm
  | a :: A, [], _, _, p, _ => absurd p.symm (by intro z; exact absurd (List.nil_perm.mp z) (by simp))
  | a :: A, b :: B, oa, ob, p, hd => by
    have mm : ∀ x, x ∈ a :: A ↔ x ∈ b :: B := fun x => p.mem_iff
    have e : a = b := by
      rcases List.mem_cons.mp ((mm b).mpr (List.mem_cons_self ..)) with e | hb
      · exact e.symm
      rcases List.mem_cons.mp ((mm a).mp (List.mem_cons_self ..)) with e | ha
      · exact e
      have h1 := oa.2.1 b hb (by rw [may_mem mm]; exact ob.1)
      have h2 := ob.2.1 a ha (by rw [← may_mem mm]; exact oa.1)
      omega
    subst e
    rw [ord_uniq oa.2.2 ob.2.2 (List.Perm.cons_inv p) fun x hx y hy => hd x (List.mem_cons_of_mem _ hx) y (List.mem_cons_of_mem _ hy)]
theorem ord_drop : ∀ {A : List (List Int)} (k : Nat), Ord r A → Ord r (A.drop k)
  | _, 0, o => o
  | [], _ + 1, _ => trivial
  | _ :: _, k + 1, o => ord_drop k o.2.2
theorem ord_at {A : List (List Int)} (o : Ord r A) {k : Nat} (hk : k < A.length) : mayZ r (A.drop k) A[k] = true ∧ ∀ l' ∈ A.drop (k + 1), mayZ r (A.drop k) l' = true → A[k].headD 0 < l'.headD 0 := by
  have h := ord_drop k o
  rw [List.drop_eq_getElem_cons hk] at h ⊢
  exact ⟨h.1, h.2.1⟩
end
end Cz

/-! # what reaches what, by walks -/
namespace Cz
section
variable {adj : Int → List Int} {a b c : Int} {n m N : Nat}
noncomputable def rchB (adj : Int → List Int) (a b : Int) : Bool := @decide (∃ k p, Wlk adj a k b p) (Classical.propDecidable _)
theorem rch_iff : rchB adj a b = true ↔ ∃ k p, Wlk adj a k b p := by
  unfold rchB
  exact @decide_eq_true_iff _ (Classical.propDecidable _)
theorem Wlk.join {p : List Int} (h : Wlk adj a n b p) : ∀ {m : Nat} {c : Int} {q : List Int}, Wlk adj b m c q → ∃ k p', Wlk adj a k c p'
  | _, _, _, .here => ⟨n, p, h⟩
  | _, _, _, .on w e => let ⟨k, p', h'⟩ := Wlk.join h w; ⟨k + 1, _, h'.on e⟩
theorem rch_rr (N : Nat) : Rr N (rchB adj) := ⟨fun t _ => rch_iff.mpr ⟨0, _, .here⟩, fun a b c h k => by
  obtain ⟨_, _, h⟩ := rch_iff.mp h
  obtain ⟨_, _, k⟩ := rch_iff.mp k
  exact rch_iff.mpr (h.join k)⟩
theorem rch_step (h : b ∈ adj a) : rchB adj a b = true := rch_iff.mpr ⟨1, _, Wlk.here.on h⟩
theorem Wlk.all {p : List Int} (h : Wlk adj a n b p) : ∀ x ∈ p, rchB adj a x = true ∧ rchB adj x b = true := by
  induction h with
  | here => exact fun x hx => by rw [List.mem_singleton.mp hx]; exact ⟨rch_iff.mpr ⟨0, _, .here⟩, rch_iff.mpr ⟨0, _, .here⟩⟩
  | on w e ih =>
    intro x hx
    rcases List.mem_append.mp hx with hx | hx
    · exact ⟨(ih x hx).1, (rch_rr (adj := adj) 0).trans _ _ _ (ih x hx).2 (rch_step e)⟩
    · rw [List.mem_singleton.mp hx]
      exact ⟨rch_iff.mpr ⟨_, _, w.on e⟩, rch_iff.mpr ⟨0, _, .here⟩⟩
theorem Wlk.get0 {p : List Int} (h : Wlk adj a n b p) : p.getD 0 0 = a := by
  induction h with
  | here => rfl
  | on w e ih =>
    have := w.len
    rw [List.getD_eq_getElem?_getD, List.getElem?_append_left (by omega), ← List.getD_eq_getElem?_getD]
    exact ih
theorem Wlk.getN {p : List Int} (h : Wlk adj a n b p) : p.getD n 0 = b := by
  cases h with
  | here => rfl
  | on w e =>
    have := w.len
    rw [List.getD_eq_getElem?_getD, List.getElem?_append_right (by omega), this, Nat.sub_self]
    rfl
theorem Wlk.step {p : List Int} (h : Wlk adj a n b p) : ∀ i, i < n → p.getD (i + 1) 0 ∈ adj (p.getD i 0) := by
  induction h with
  | here => exact fun i h => absurd h (Nat.not_lt_zero _)
  | @on k x y q w e ih =>
    intro i hi
    have hl := w.len
    have gl : ∀ j, j < q.length → (q ++ [y]).getD j 0 = q.getD j 0 := fun j h => by rw [List.getD_eq_getElem?_getD, List.getElem?_append_left h, ← List.getD_eq_getElem?_getD]
    have gr : (q ++ [y]).getD q.length 0 = y := by
      rw [List.getD_eq_getElem?_getD, List.getElem?_append_right (Nat.le_refl _), Nat.sub_self]
      rfl
    by_cases c : i < k
    · rw [gl _ (by omega), gl _ (by omega)]
      exact ih i c
    · have ei : i = k := by omega
      subst ei
      rw [hl] at gr
      rw [gr, gl _ (by omega), w.getN]
      exact e
theorem Wlk.inside {p : List Int} (cl : ∀ a ∈ thN N, ∀ b ∈ adj a, b ∈ thN N) (h : Wlk adj a n b p) (ha : a ∈ thN N) : b ∈ thN N := by
  induction h with
  | here => exact ha
  | on w e ih => exact cl _ ih _ e
theorem rch_in (cl : ∀ a ∈ thN N, ∀ b ∈ adj a, b ∈ thN N) (ha : a ∈ thN N) (h : rchB adj a b = true) : b ∈ thN N := by
  obtain ⟨_, _, w⟩ := rch_iff.mp h
  exact w.inside cl ha
theorem Wlk.into {p : List Int} {S : Int → Prop} (h : Wlk adj a n b p) (ha : ¬ S a) (hb : S b) : ∃ x y, ¬ S x ∧ S y ∧ y ∈ adj x ∧ rchB adj a x = true := by
  induction h with
  | here => exact absurd hb ha
  | @on k x y q w e ih =>
    by_cases c : S x
    · exact ih c
    · exact ⟨x, y, c, hb, e, rch_iff.mpr ⟨_, _, w⟩⟩
/-! ## the layers of a graph -/
theorem drop_mem {α : Type} {L : List α} {k j : Nat} (hk : k ≤ j) (hj : j < L.length) : L[j] ∈ L.drop k :=
  List.mem_iff_getElem.mpr ⟨j - k, by rw [List.length_drop]; omega, by rw [List.getElem_drop]; exact getElem_congr_idx (by omega)⟩
theorem mem_drop {α : Type} {L : List α} {k : Nat} {x : α} (h : x ∈ L.drop k) : ∃ j, ∃ (hj : j < L.length), k ≤ j ∧ L[j] = x := by
  obtain ⟨i, hi, e⟩ := List.mem_iff_getElem.mp h
  rw [List.length_drop] at hi
  rw [List.getElem_drop] at e
  exact ⟨k + i, by omega, by omega, e⟩
theorem nodup_at {α : Type} {L : List α} (h : L.Nodup) {i j : Nat} (hi : i < L.length) (hj : j < L.length) (e : L[i] = L[j]) : i = j := by
  rcases Nat.lt_trichotomy i j with c | c | c
  · exact absurd e (List.pairwise_iff_getElem.mp h i j hi hj c)
  · exact c
  · exact absurd e.symm (List.pairwise_iff_getElem.mp h j i hj hi c)
theorem under_no {k j : Nat} (hkj : k < j) (hj : j < (layersZ N (rchB adj)).length) {x t : Int} (hx : x ∈ (layersZ N (rchB adj))[k]) (ht : t ∈ (layersZ N (rchB adj))[j]) : x ∉ adj t := fun e => by
  have R := rch_rr (adj := adj) N
  have hk : k < (layersZ N (rchB adj)).length := by omega
  have Lk := layers_lay R (List.getElem_mem hk)
  have Lj := layers_lay R (List.getElem_mem hj)
  have o := (ord_at (layers_ord R) hk).1
  have := may_iff.mp o _ (drop_mem (by omega) hj) fun z => by
    have := nodup_at (layers_nodup R) hj hk z
    omega
  rw [Lj.up R Lk ht hx (rch_step e)] at this
  cases this
theorem free_after (cl : ∀ a ∈ thN N, ∀ b ∈ adj a, b ∈ thN N) {k j : Nat} (hkj : k < j) (hj : j < (layersZ N (rchB adj)).length) (hf : ∀ o ∈ (layersZ N (rchB adj)).drop k, o ≠ (layersZ N (rchB adj))[j] → ∀ x ∈ (layersZ N (rchB adj))[j], ∀ t ∈ o, x ∉ adj t) :
    ((layersZ N (rchB adj))[k]'(by omega)).headD 0 < ((layersZ N (rchB adj))[j]).headD 0 := by
  have R := rch_rr (adj := adj) N
  have hk : k < (layersZ N (rchB adj)).length := by omega
  have Lj := layers_lay R (List.getElem_mem hj)
  have nd := layers_nodup R (r := rchB adj)
  refine (ord_at (layers_ord R) hk).2 _ (drop_mem (by omega) hj) (may_iff.mpr fun o ho hn => ?_)
  cases c : rchB adj (o.headD 0) (((layersZ N (rchB adj))[j]).headD 0) with
  | false => rfl
  | true =>
    exfalso
    obtain ⟨i, hi, hki, eo⟩ := mem_drop ho
    have Lo := layers_lay R (List.mem_of_mem_drop ho)
    obtain ⟨_, _, w⟩ := rch_iff.mp c
    obtain ⟨x, y, hx, hy, e, hr⟩ := w.into (S := fun z => z ∈ (layersZ N (rchB adj))[j]) (fun z => hn (Lo.same Lj Lo.head z)) Lj.head
    have xin := rch_in cl (Lo.is _ Lo.head).1 hr
    obtain ⟨l', hl', hxl⟩ := layers_has R (r := rchB adj) xin
    obtain ⟨q, hq, eq⟩ := List.mem_iff_getElem.mp hl'
    have Ll := layers_lay R hl'
    by_cases cq : k ≤ q
    · refine hf l' (by rw [← eq]; exact drop_mem cq hq) (fun z => hx (by rw [← z]; exact hxl)) y hy x hxl e
    · have m := (ord_at (layers_ord R) hq).1
      have := may_iff.mp m o (by rw [← eo]; exact drop_mem (by omega) hi) fun z => by
        rw [← eo] at z
        have := nodup_at nd hi hq z
        omega
      rw [eq, Lo.up R Ll Lo.head hxl hr] at this
      cases this
end
end Cz

/-! # a least way is there, and short -/
namespace Cz
section
variable {adj : Int → List Int} {a b c : Int} {n m N : Nat}
theorem min_with (P : Int → Prop) : ∀ l : List Int, (∃ x ∈ l, P x) → ∃ x ∈ l, P x ∧ ∀ u ∈ l, P u → x ≤ u
  | [], ⟨_, h, _⟩ => by cases h
  | y :: l, h => by
    by_cases k : ∃ x ∈ l, P x
    · obtain ⟨x, h1, h2, h3⟩ := min_with P l k
      by_cases q : P y ∧ y ≤ x
      · refine ⟨y, List.mem_cons_self .., q.1, fun u hu hp => ?_⟩
        rcases List.mem_cons.mp hu with rfl | hu
        · exact Int.le_refl _
        · exact Int.le_trans q.2 (h3 u hu hp)
      · refine ⟨x, List.mem_cons_of_mem _ h1, h2, fun u hu hp => ?_⟩
        rcases List.mem_cons.mp hu with rfl | hu
        · have : ¬ u ≤ x := fun z => q ⟨hp, z⟩
          omega
        · exact h3 u hu hp
    · obtain ⟨x, hx, hp⟩ := h
      rcases List.mem_cons.mp hx with rfl | hx
      · refine ⟨x, List.mem_cons_self .., hp, fun u hu hp => ?_⟩
        rcases List.mem_cons.mp hu with rfl | hu
        · exact Int.le_refl _
        · exact absurd ⟨u, hu, hp⟩ k
      · exact absurd ⟨x, hx, hp⟩ k
theorem least_ex : ∀ (n : Nat) (a c : Int), (∃ q, Wlk adj a n c q) → ∃ p, Least adj n a c p
  | 0, a, c, ⟨q, h⟩ => by
    cases h
    exact ⟨_, Least.zero⟩
  | n + 1, a, c, ⟨q, h⟩ => by
    obtain ⟨b, r, h1, h2, _⟩ := h.first
    obtain ⟨x, k1, k2, k3⟩ := min_with (fun x => ∃ q, Wlk adj x n c q) (adj a) ⟨b, h1, r, h2⟩
    obtain ⟨p, hp⟩ := least_ex n x c k2
    exact ⟨a :: p, Least.front k1 k3 hp⟩
theorem Far.back {p : List Int} (w : Wlk adj a n b p) (e : c ∈ adj b) (f : Far adj a c (n + 1)) : Far adj a b n :=
  ⟨⟨p, w⟩, fun k hk q h => f.2 (k + 1) (by omega) _ (h.on e)⟩
theorem far_each {p : List Int} (w : Wlk adj a n b p) : Far adj a b n → ∀ i, i ≤ n → Far adj a (p.getD i 0) i := by
  induction w with
  | here =>
    intro f i hi
    have : i = 0 := by omega
    subst this
    exact f
  | @on k x y q w e ih =>
    intro f i hi
    have hl := w.len
    by_cases c : i ≤ k
    · have := ih (f.back w e) i c
      rw [List.getD_eq_getElem?_getD, List.getElem?_append_left (by omega), ← List.getD_eq_getElem?_getD]
      exact this
    · have : i = k + 1 := by omega
      subst this
      have e2 : (q ++ [y]).getD (k + 1) 0 = y := (w.on e).getN
      rw [e2]
      exact f
theorem far_short {p : List Int} (cl : ∀ a ∈ thN N, ∀ b ∈ adj a, b ∈ thN N) (ha : a ∈ thN N) (w : Wlk adj a n b p) (f : Far adj a b n) : p.length ≤ N := by
  have hl := w.len
  have hn : p.Nodup := List.pairwise_iff_getElem.mpr fun i j hi hj hij e => by
    have h1 := far_each w f i (by omega)
    have h2 := far_each w f j (by omega)
    rw [List.getD_eq_getElem?_getD, List.getElem?_eq_getElem hi] at h1
    rw [List.getD_eq_getElem?_getD, List.getElem?_eq_getElem hj] at h2
    have h1 : Far adj a p[i] i := h1
    have h2 : Far adj a p[j] j := h2
    rw [e] at h1
    have := h1.uniq h2
    omega
  have := Cw.nodup_le hn fun x hx => rch_in cl ha (w.all x hx).1
  have hN : (thN N).length = N := by
    unfold thN
    rw [List.length_map, List.length_range]
  omega
end
end Cz

/-! # the layers of a part -/
namespace Cz
section
variable {N N' : Nat} {r r' : Int → Int → Bool}
theorem rise_same : ∀ {a b : List Int}, a.Pairwise (· < ·) → b.Pairwise (· < ·) → (∀ x, x ∈ a ↔ x ∈ b) → a = b
  | [], [], _, _, _ => rfl
  | [], y :: b, _, _, h => by have := (h y).mpr (List.mem_cons_self ..); cases this
  | x :: a, [], _, _, h => by have := (h x).mp (List.mem_cons_self ..); cases this
  | x :: a, y :: b, ha, hb, h => by
    have pa := List.pairwise_cons.mp ha
    have pb := List.pairwise_cons.mp hb
    have e : x = y := by
      have h1 : x = y ∨ y < x := by
        rcases List.mem_cons.mp ((h x).mp (List.mem_cons_self ..)) with e | e
        · exact .inl e
        · exact .inr (pb.1 x e)
      have h2 : y = x ∨ x < y := by
        rcases List.mem_cons.mp ((h y).mpr (List.mem_cons_self ..)) with e | e
        · exact .inl e
        · exact .inr (pa.1 y e)
      omega
    subst e
    rw [rise_same pa.2 pb.2 fun z => ?_]
    constructor
    · intro hz
      rcases List.mem_cons.mp ((h z).mp (List.mem_cons_of_mem _ hz)) with e | e
      · have := pa.1 z hz
        omega
      · exact e
    · intro hz
      rcases List.mem_cons.mp ((h z).mpr (List.mem_cons_of_mem _ hz)) with e | e
      · have := pb.1 z hz
        omega
      · exact e
/-- no later one reaches an earlier one -/
theorem ord_pair : ∀ {A : List (List Int)}, Ord r A → A.Nodup → A.Pairwise fun a b => r (b.headD 0) (a.headD 0) = false
  | [], _, _ => List.Pairwise.nil
  | a :: A, o, nd => List.pairwise_cons.mpr ⟨fun b hb => may_iff.mp o.1 b (List.mem_cons_of_mem _ hb) fun e => by
      rw [e] at hb
      exact (List.nodup_cons.mp nd).1 hb, ord_pair o.2.2 (List.nodup_cons.mp nd).2⟩
theorem ord_take : ∀ {A : List (List Int)} (k : Nat), Ord r A → A.Nodup → Ord r (A.take k)
  | _, 0, _, _ => by rw [List.take_zero]; trivial
  | [], _ + 1, _, _ => trivial
  | a :: A, k + 1, o, nd => by
    have nd2 := List.nodup_cons.mp nd
    rw [List.take_succ_cons]
    refine ⟨may_iff.mpr fun x hx hn => may_iff.mp o.1 x ?_ hn, fun l' hl' hm => o.2.1 l' (List.mem_of_mem_take hl') (may_iff.mpr fun x hx hn => ?_), ord_take k o.2.2 nd2.2⟩
    · rcases List.mem_cons.mp hx with rfl | hx
      · exact List.mem_cons_self ..
      · exact List.mem_cons_of_mem _ (List.mem_of_mem_take hx)
    · rcases List.mem_cons.mp hx with rfl | hx
      · exact may_iff.mp hm x (List.mem_cons_self ..) hn
      · by_cases c : x ∈ A.take k
        · exact may_iff.mp hm x (List.mem_cons_of_mem _ c) hn
        · have hd : x ∈ A.drop k := by
            have : x ∈ A.take k ++ A.drop k := by rw [List.take_append_drop]; exact hx
            rcases List.mem_append.mp this with z | z
            · exact absurd z c
            · exact z
          have p := ord_pair o.2.2 nd2.2
          rw [← List.take_append_drop k A] at p
          exact (List.pairwise_append.mp p).2.2 l' hl' x hd
/-- what lies on the way from a part to itself is in the part -/
theorem part_convex {A Pp L Qq : List (List Int)} (R : Rr N r) (hA : A = Pp ++ L ++ Qq) (pw : A.Pairwise fun a b => r (b.headD 0) (a.headD 0) = false) (hl : ∀ l ∈ A, Lay N r l) {a b x : Int} {la lb lx : List Int} (h1 : la ∈ L) (ha : a ∈ la) (h2 : lb ∈ L) (hb : b ∈ lb) (h3 : lx ∈ A) (hx : x ∈ lx) (e1 : r a x = true) (e2 : r x b = true) : lx ∈ L := by
  subst hA
  have q := List.pairwise_append.mp pw
  have q1 := List.pairwise_append.mp q.1
  have la_in : la ∈ Pp ++ L ++ Qq := List.mem_append_left _ (List.mem_append_right _ h1)
  have lb_in : lb ∈ Pp ++ L ++ Qq := List.mem_append_left _ (List.mem_append_right _ h2)
  rcases List.mem_append.mp h3 with h | h
  · rcases List.mem_append.mp h with h | h
    · have := q1.2.2 lx h la h1
      rw [(hl la la_in).up R (hl lx h3) ha hx e1] at this
      cases this
    · exact h
  · have := q.2.2 lb (List.mem_append_right _ h2) lx h
    rw [(hl lx h3).up R (hl lb lb_in) hx hb e2] at this
    cases this
theorem idx_at {S : List Int} (nd : S.Nodup) {i : Nat} (hi : i < S.length) : S.idxOf (S.getD i 0) = i := by
  rw [List.getD_eq_getElem?_getD, List.getElem?_eq_getElem hi]
  show S.idxOf S[i] = i
  exact nd.idxOf_getElem i hi
theorem at_idx {S : List Int} {x : Int} (h : x ∈ S) : S.idxOf x < S.length ∧ S.getD (S.idxOf x) 0 = x := by
  have hi := List.idxOf_lt_length_iff.mpr h
  refine ⟨hi, ?_⟩
  rw [List.getD_eq_getElem?_getD, List.getElem?_eq_getElem hi]
  exact List.getElem_idxOf hi
def renZ (S : List Int) (l : List Int) : List Int := l.map fun x => ((S.idxOf x : Nat) : Int)
theorem ren_head {S l : List Int} (h : l ≠ []) : (renZ S l).headD 0 = ((S.idxOf (l.headD 0) : Nat) : Int) := by
  cases l with
  | nil => exact absurd rfl h
  | cons a l => rfl
theorem ren_rise {S l : List Int} (hS : S.Pairwise (· < ·)) (hl : l.Pairwise (· < ·)) (hm : ∀ x ∈ l, x ∈ S) : (renZ S l).Pairwise (· < ·) := by
  unfold renZ
  rw [List.pairwise_map]
  refine List.Pairwise.imp_of_mem (fun {a b} ha hb hab => ?_) hl
  obtain ⟨i1, i2⟩ := at_idx (hm a ha)
  obtain ⟨j1, j2⟩ := at_idx (hm b hb)
  rcases Nat.lt_trichotomy (S.idxOf a) (S.idxOf b) with c | c | c
  · omega
  · rw [c, j2] at i2
    omega
  · have := List.pairwise_iff_getElem.mp hS _ _ j1 i1 c
    rw [List.getD_eq_getElem?_getD, List.getElem?_eq_getElem i1] at i2
    rw [List.getD_eq_getElem?_getD, List.getElem?_eq_getElem j1] at j2
    have i2 : S[S.idxOf a] = a := i2
    have j2 : S[S.idxOf b] = b := j2
    omega
theorem ren_inj {S a b : List Int} (ha : ∀ x ∈ a, x ∈ S) (hb : ∀ x ∈ b, x ∈ S) (e : renZ S a = renZ S b) : a = b := by
  have back : ∀ {l : List Int}, (∀ x ∈ l, x ∈ S) → (renZ S l).map (fun i => S.getD i.toNat 0) = l := fun {l} h => by
    unfold renZ
    rw [List.map_map]
    refine (List.map_congr_left fun x hx => ?_).trans (List.map_id' l)
    show S.getD (((S.idxOf x : Nat) : Int).toNat) 0 = x
    rw [Int.toNat_natCast]
    exact (at_idx (h x hx)).2
  rw [← back ha, ← back hb, e]
theorem layers_sub (R : Rr N r) (R' : Rr N' r') {L : List (List Int)} (oL : Ord r L) (hL : ∀ l ∈ L, Lay N r l) (nd : L.Nodup) {S : List Int} (hS : S.Pairwise (· < ·)) (mS : ∀ x, x ∈ S ↔ ∃ l ∈ L, x ∈ l) (hN : N' = S.length)
    (hr : ∀ i j : Nat, i < N' → j < N' → r' i j = r (S.getD i 0) (S.getD j 0)) : layersZ N' r' = L.map (renZ S) := by
  have nS : S.Nodup := hS.imp fun {a b} h => by omega
  have inS : ∀ {l : List Int}, l ∈ L → ∀ x ∈ l, x ∈ S := fun h x hx => (mS x).mpr ⟨_, h, hx⟩
  have hri : ∀ {x y : Int}, x ∈ S → y ∈ S → r' ((S.idxOf x : Nat) : Int) ((S.idxOf y : Nat) : Int) = r x y := fun {x y} hx hy => by
    obtain ⟨i1, i2⟩ := at_idx hx
    obtain ⟨j1, j2⟩ := at_idx hy
    rw [hr _ _ (by omega) (by omega), i2, j2]
  -- the layer of each
  have lay' : ∀ {l : List Int}, l ∈ L → ∀ {x : Int}, x ∈ l → layZ N' r' ((S.idxOf x : Nat) : Int) = renZ S l := fun {l} hl {x} hx => by
    have Ll := hL l hl
    have hxS := inS hl x hx
    refine rise_same (lay_rise _) (ren_rise hS Ll.rise (inS hl)) fun y => ?_
    rw [lay_mem]
    unfold renZ
    rw [List.mem_map]
    constructor
    · rintro ⟨h1, h2, h3⟩
      obtain ⟨y0, y1⟩ := thN_mem.mp h1
      have hy : y.toNat < S.length := by omega
      have ey : ((S.idxOf (S.getD y.toNat 0) : Nat) : Int) = y := by rw [idx_at nS hy]; omega
      have hm : S.getD y.toNat 0 ∈ S := by
        rw [List.getD_eq_getElem?_getD, List.getElem?_eq_getElem hy]
        exact List.getElem_mem hy
      rw [← ey, hri hxS hm] at h2
      rw [← ey, hri hm hxS] at h3
      refine ⟨S.getD y.toNat 0, ?_, ey⟩
      rw [(Ll.is x hx).2]
      obtain ⟨l2, hl2, hm2⟩ := (mS _).mp hm
      exact lay_mem.mpr ⟨((hL l2 hl2).is _ hm2).1, h2, h3⟩
    · rintro ⟨z, hz, rfl⟩
      have hzS := inS hl z hz
      obtain ⟨i1, _⟩ := at_idx hzS
      exact ⟨thN_mem.mpr ⟨by omega, by omega⟩, by rw [hri hxS hzS]; exact Ll.both hx hz, by rw [hri hzS hxS]; exact Ll.both hz hx⟩
  have hd : ∀ {l : List Int}, l ∈ L → (renZ S l).headD 0 = ((S.idxOf (l.headD 0) : Nat) : Int) := fun h => ren_head (hL _ h).ne
  -- told from above
  have ordL : ∀ M : List (List Int), (∀ l ∈ M, l ∈ L) → Ord r M → Ord r' (M.map (renZ S)) := by
    have may' : ∀ {M : List (List Int)} {l : List Int}, (∀ o ∈ M, o ∈ L) → l ∈ L → mayZ r' (M.map (renZ S)) (renZ S l) = mayZ r M l := fun {M l} hM hl => by
      rw [Bool.eq_iff_iff, may_iff, may_iff]
      have key : ∀ {o : List Int}, o ∈ L → r' ((renZ S o).headD 0) ((renZ S l).headD 0) = r (o.headD 0) (l.headD 0) := fun {o} ho => by
        rw [hd ho, hd hl, hri (inS ho _ (hL o ho).head) (inS hl _ (hL l hl).head)]
      constructor
      · intro h o ho hn
        rw [← key (hM o ho)]
        exact h _ (List.mem_map.mpr ⟨o, ho, rfl⟩) fun e => hn (ren_inj (inS (hM o ho)) (inS hl) e)
      · intro h o' ho' hn
        obtain ⟨o, ho, rfl⟩ := List.mem_map.mp ho'
        rw [key (hM o ho)]
        exact h o ho fun e => hn (by rw [e])
    intro M
    induction M with
    | nil => intro _ _; trivial
    | cons l M ih =>
      intro hM o
      have hl := hM l (List.mem_cons_self ..)
      have hM' := fun x hx => hM x (List.mem_cons_of_mem l hx)
      refine ⟨?_, fun l' hl' hm => ?_, ih hM' o.2.2⟩
      · have := may' (M := l :: M) (l := l) hM hl
        rw [List.map_cons] at this
        rw [this]
        exact o.1
      · obtain ⟨q, hq, rfl⟩ := List.mem_map.mp hl'
        have := may' (M := l :: M) (l := q) hM (hM' q hq)
        rw [List.map_cons] at this
        rw [this] at hm
        have lt := o.2.1 q hq hm
        rw [hd hl, hd (hM' q hq)]
        obtain ⟨i1, i2⟩ := at_idx (inS hl _ (hL l hl).head)
        obtain ⟨j1, j2⟩ := at_idx (inS (hM' q hq) _ (hL q (hM' q hq)).head)
        rcases Nat.lt_trichotomy (S.idxOf (l.headD 0)) (S.idxOf (q.headD 0)) with c | c | c
        · omega
        · rw [c, j2] at i2
          omega
        · have := List.pairwise_iff_getElem.mp hS _ _ j1 i1 c
          rw [List.getD_eq_getElem?_getD, List.getElem?_eq_getElem i1] at i2
          rw [List.getD_eq_getElem?_getD, List.getElem?_eq_getElem j1] at j2
          have i2 : S[S.idxOf (l.headD 0)] = l.headD 0 := i2
          have j2 : S[S.idxOf (q.headD 0)] = q.headD 0 := j2
          omega
  have perm : (layersZ N' r').Perm (L.map (renZ S)) := by
    refine (List.perm_ext_iff_of_nodup (layers_nodup R') ?_).mpr fun y => ?_
    · refine List.pairwise_map.mpr (List.Pairwise.imp_of_mem (fun {a b} ha hb hab e => hab (ren_inj (inS ha) (inS hb) e)) nd)
    · rw [(layers_perm R').mem_iff, least_mem R', List.mem_map]
      constructor
      · rintro ⟨t, ht, rfl⟩
        obtain ⟨t0, t1⟩ := thN_mem.mp ht
        have hy : t.toNat < S.length := by omega
        have hm : S.getD t.toNat 0 ∈ S := by
          rw [List.getD_eq_getElem?_getD, List.getElem?_eq_getElem hy]
          exact List.getElem_mem hy
        obtain ⟨l, hl, hx⟩ := (mS _).mp hm
        refine ⟨l, hl, ?_⟩
        rw [← lay' hl hx, idx_at nS hy]
        congr 1
        omega
      · rintro ⟨l, hl, rfl⟩
        have hx := (hL l hl).head
        obtain ⟨i1, _⟩ := at_idx (inS hl _ hx)
        exact ⟨_, thN_mem.mpr ⟨by omega, by omega⟩, (lay' hl hx).symm⟩
  refine ord_uniq (layers_ord R') (ordL L (fun _ h => h) oL) perm fun a ha b hb e => ?_
  have La := layers_lay R' ha
  have Lb := layers_lay R' hb
  exact La.same Lb La.head (by rw [e]; exact Lb.head)
end
end Cz

namespace Cw
open PySem PySem.Spec PyProof.Rows L2
section
variable {T : List Addr} {X : Cx} {a b o e : Expr} {σ : L2.St} {B : Hp} {p pos apos : Pos}
/-- is not, of truths -/
theorem ec_notB {i j : Bool} (ha : ED T X a σ B (.bool i)) (hb : ED T X b σ B (.bool j)) : EC T X a .IsNot b σ B (!decide (i = j)) :=
  ec_of op_notBl (nomark _) ha mono_dt hb mono_dt fun B1 H1 x y _ w rx ry Q q => ⟨i, j, rx.toBool, ry.toBool, q⟩
theorem eqv_I (i j : Int) : PyData.eqv (.int i) (.int j) = decide (i = j) := by
  have := eqv_R [i] [j]
  unfold encR at this
  simp only [List.map_cons, List.map_nil, PyData.eqv, PyData.eqvAll, Bool.and_true, List.cons.injEq, and_true] at this ⊢
  exact this
theorem flat_I (i : Int) : flatP (.int i) = true := rfl
theorem shaped_I (i : Int) : SeqAt.shaped (.int i) = true := rfl
/-- l.index(t), of ints -/
theorem ed_indexI {t : Int} {g : List Int} (hu : X.A.units + 65 < cLine) (hm : t ∈ g) (ho : ED T X o σ B (encR g)) (he : ED T X e σ B (.int t))
    (pm : ∀ {to : TE} {t : TA}, PE X o to → PA X [e] t → PE X (.Call (.Attribute o "index" apos) [e] [] pos) (tBM X.K "list" (rIndexD X.K) to t))
    (hst : starEach [e] X.env = (false, eval e X.env) :: starEach [] X.env := by rfl) : ED T X (.Call (.Attribute o "index" apos) [e] [] pos) σ B (.int (g.idxOf t : Nat)) := fun H w Q q =>
  we_of (pm pwe (pa_cons pwe pa_nil hst)) (ho H w _ fun x B1 H1 g1 r1 => by
    obtain ⟨p1, xs, rfl, hp, hr⟩ := r1.toList
    refine ⟨.inl ⟨rfl, xs, SqL.of (g1.wd.ex.lst hp)⟩, (he.mono g1.eb) H1 g1.wd _ fun y B2 H2 g2 r2 => ?_⟩
    have hi : g.idxOf t < g.length := List.idxOf_lt_length_iff.mpr hm
    refine ⟨p1, y, .int t, g.map .int, g.idxOf t, .int t, rfl, rfl, ((r1.mono g2.eb).mono g2.wd.ex).dp (.inr trivial) (flat_R _), (r2.mono g2.wd.ex).dp (.inr trivial) (flat_I _), shaped_R _, shaped_I _, ?_, ?_, fun m z hm2 hz => ?_, q _ B2 H2 (g1.trans g2) (.int _)⟩
    · rw [List.getElem?_map, List.getElem?_eq_getElem hi, List.getElem_idxOf]
      rfl
    · rw [eqv_I]
      exact decide_eq_true rfl
    · rw [List.getElem?_map] at hz
      obtain ⟨u, hu2, rfl⟩ := Option.map_eq_some_iff.mp hz
      rw [eqv_I]
      refine decide_eq_false fun e => ?_
      subst e
      have hml : m < g.length := by omega
      rw [List.getElem?_eq_getElem hml] at hu2
      have := List.not_of_lt_findIdx (p := fun x => x == u) (xs := g) hm2
      rw [Option.some.inj hu2] at this
      simp at this)
end
end Cw

namespace Cw
open PySem PySem.Spec PyProof.Rows L2
/-! ## sorted(l), l a list of lists of ints; len(set(l)) exactly -/
def sortR (g : List (List Int)) : List (List Int) := g.mergeSort fun p q => decide (p ≤ q)
def rSortedR (K : PySem.W.Frag) : List V → Hp → VK → Prop := fun vs H Q => ∃ (a : Addr) (ts : List Addr) (g : List (List Int)) (C : Hp), vs = [V.ref a] ∧ SqL K H a (ts.map V.ref) ∧ (∀ a ws, C a = some (.lst ws) → H a = some (.lst ws)) ∧ RowsAt C ts g ∧
  ∀ (ts' : List Addr) (p : Addr), RowsAt C ts' (sortR g) → H p = none → Q (.ref p) (upd H p (.lst (ts'.map V.ref)))
theorem each_rows {H : Hp} : ∀ {ts : List Addr} {g : List (List Int)}, RowsAt H ts g → PySem.W.EachIs (fun v b => ∃ t, v = Value.ref t ∧ H t = some (.lst (b.map V.int))) (ts.map Value.ref) g
  | [], [], _ => .nil
  | t :: ts, b :: g, h => .cons ⟨t, rfl, h.2 0 t b rfl rfl⟩ (each_rows ⟨Nat.succ.inj h.1, fun k r x h1 h2 => h.2 (k + 1) r x h1 h2⟩)
  | [], _ :: _, h => absurd h.1 (by simp)
  | _ :: _, [], h => absurd h.1 (by simp)
theorem rows_each {H : Hp} : ∀ {out : List Value} {g : List (List Int)}, PySem.W.EachIs (fun v b => ∃ t, v = Value.ref t ∧ H t = some (.lst (b.map V.int))) out g → ∃ ts : List Addr, out = ts.map Value.ref ∧ RowsAt H ts g
  | _, _, .nil => ⟨[], rfl, rfl, fun k r x h => by simp at h⟩
  | _, _, .cons ⟨t, e, h⟩ r => by
    obtain ⟨ts, e2, h2⟩ := rows_each r
    refine ⟨t :: ts, by rw [e, e2]; rfl, by rw [List.length_cons, List.length_cons, h2.1], fun k r x h3 h4 => ?_⟩
    cases k with
    | zero =>
      cases h3
      cases h4
      exact h
    | succ k => exact h2.2 k r x h3 h4
theorem vals_refs : ∀ (ts : List Addr), Vals (ts.map V.ref) (ts.map Value.ref)
  | [] => .nil
  | t :: ts => .cons rfl (vals_refs ts)
theorem refs_vals : ∀ {ts : List Addr} {us : List Value}, Vals (ts.map V.ref) us → us = ts.map Value.ref
  | [], _, r => by cases r; rfl
  | t :: ts, _, r => by
    cases r with
    | cons h r =>
      rw [refs_vals r]
      rw [show _ = Value.ref t from h]
      rfl
theorem cr_sortedR {X : Cx} (hu : X.A.units + 65 < cLine) : CallR X (.builtin "sorted") (rSortedR X.K) := by
  intro pins s σ H vs us Q I r h
  obtain ⟨a, ts, g, C, rfl, hs, hC, hrows, q⟩ := h
  obtain ⟨its, rv, hl, hz⟩ := I.list hs
  rw [Vals.ref1 r]
  have ei := refs_vals rv
  subst ei
  have e := each_rows hrows
  have er : PySem.W.EachIs (fun v b => ∃ as, Reads s.heap v (encR b) as) (ts.map Value.ref) g := e.mono fun v b ⟨t, ev, ht⟩ => by
    rw [ev]
    exact Dp.reads I (encR b) (.ref t) (.ref t) (.lst (.inl (.inl (hC _ _ ht))) ((Dts.ofInts (B := H) b).dp (lay_row b).2.2)) rfl
  have hlen : (ts.map V.ref).length = g.length := by rw [List.length_map]; exact hrows.1
  refine PySem.W.sorted_data (enc := encR) hl.isList e er (PySem.W.AllAlike.of fun b b' => ?_) (PySem.W.Sortable.others (enc := encR) fun b => And.intro (fun z => nomatch z) (fun xs z => nomatch z)) (by rw [← hlen]; exact hz) (fun b _ => ?_) fun out ho eo => ?_
  · show PySem.W.alike (.list _) (.list _) = true
    rw [PySem.W.alike]
    exact PySem.W.alike_ints _ _
  · have := depth_R b
    omega
  · have em : g.mergeSort (PySem.W.dataLe false encR) = sortR g := by
      unfold sortR
      exact congrArg (fun le => g.mergeSort le) (PySem.W.dataLe_rows (fun b : List Int => b))
    rw [em] at eo
    obtain ⟨ts', e2, hr2⟩ := rows_each eo
    subst e2
    obtain ⟨ep, he'⟩ := PyProof.Rows.sortedAll_at s.heap (ts.map Value.ref) (ts'.map Value.ref).toArray
    refine ⟨.ref _, upd H (s.heap.objs.size + 1) (.lst (ts'.map V.ref)), I.laid (t' := s.toks) (fun _ _ => PyProof.Rows.sortedAll_old) (Nat.le_succ _) ⟨?_, _, ep, vals_refs ts', he'⟩, rfl, q _ _ hr2 (I.hok.fresh (Nat.le_succ _))⟩
    have h1 : ts'.length = (sortR g).length := hr2.1
    have h2 : (sortR g).length = g.length := (List.mergeSort_perm g _).length_eq
    have h3 : ts.length = g.length := hrows.1
    rw [List.length_map] at hz ⊢
    omega
section
variable {T : List Addr} {X : Cx} {a b e o : Expr} {σ : L2.St} {B H : Hp} {p p2 p3 pos : Pos}
theorem sortR_perm (g : List (List Int)) : (sortR g).Perm g := List.mergeSort_perm g _
theorem sortR_eq {g h : List (List Int)} (p : g.Perm h) : sortR g = sortR h := by
  have tr : ∀ a b c : List Int, decide (a ≤ b) = true → decide (b ≤ c) = true → decide (a ≤ c) = true := fun a b c h1 h2 => decide_eq_true (List.le_trans (of_decide_eq_true h1) (of_decide_eq_true h2))
  have tot : ∀ a b : List Int, (decide (a ≤ b) || decide (b ≤ a)) = true := fun a b => by
    rcases List.le_total a b with h | h
    · rw [decide_eq_true h]; rfl
    · rw [decide_eq_true h, Bool.or_true]
  refine List.Perm.eq_of_pairwise (le := fun a b => a ≤ b) (fun a b _ _ h1 h2 => List.le_antisymm h1 h2) ((List.pairwise_mergeSort tr tot g).imp fun h => of_decide_eq_true h) ((List.pairwise_mergeSort tr tot h).imp fun h => of_decide_eq_true h) ((sortR_perm g).trans (p.trans (sortR_perm h).symm))
theorem rows_of {B : Hp} : ∀ {xs : List V} {g : List (List Int)}, Dts B xs (g.map encR) → ∃ ts : List Addr, xs = ts.map V.ref ∧ RowsAt B ts g
  | [], [], _ => ⟨[], rfl, rfl, fun k r x h => by simp at h⟩
  | x :: xs, b :: g, .cons h1 hr => by
    obtain ⟨ts, e, h2⟩ := rows_of hr
    obtain ⟨a, ys, ea, ha, hy⟩ := h1.toList
    rw [hy.ints] at ha
    refine ⟨a :: ts, by rw [e, ea]; rfl, by rw [List.length_cons, List.length_cons, h2.1], fun k r x h3 h4 => ?_⟩
    cases k with
    | zero =>
      cases h3
      cases h4
      exact ha
    | succ k => exact h2.2 k r x h3 h4
theorem ed_sortedR {g : List (List Int)} (hu : X.A.units + 65 < cLine) (bi : Bi X.mg) (ha : ED T X a σ B (encG g)) (hg : Gl X "sorted" := by rfl)
    (he : starEach [a] X.env = (false, eval a X.env) :: starEach [] X.env := by rfl) (hpl : (backTo pos (starEach [] X.env)).any (·.1) = false := by rfl) :
    ED T X (.Call (.Name "sorted" p) [a] [] pos) σ B (encG (sortR g)) := fun H w Q q =>
  we_of (pe_callB (cr_sortedR hu) hg bi.sorted (by decide +kernel) (pa_cons pwe pa_nil he) (by decide) (by decide) he hpl) (ha H w _ fun v B1 H1 g1 r1 => by
    obtain ⟨A1, xs, rfl, hA1, rx⟩ := r1.toList
    obtain ⟨ts, rfl, hr⟩ := rows_of rx
    refine ⟨A1, ts, g, B1, rfl, SqL.of (g1.wd.ex.lst hA1), fun a ws h => g1.wd.ex.lst h, hr, fun ts' D hr' hD => ?_⟩
    have gn := Go.new (o := .lst (ts'.map V.ref)) g1.wd hD
    exact q _ _ _ (g1.trans gn) (.lst upd_same (hr'.dts.mono gn.eb)))
/-- set(l), how many there are -/
def rSetOfX (K : PySem.W.Frag) (w : World) : List V → Hp → VK → Prop := fun xs H Q => ∃ (l : Addr) (ns q : List Int), xs = [.ref l] ∧ SqL K H l (ns.map V.int) ∧ ns.length ≤ 1000 ∧ q.Nodup ∧ (∀ k, k ∈ q ↔ k ∈ ns) ∧ ∀ p, H p = none → Q (.ref p) (upd H p (SetO w p (fun j => decide (j ∈ ns)) q.length))
theorem cr_setOfX {X : Cx} (hc : X.calm = true) : CallR X (.type "set") (rSetOfX X.K X.w) := by
  intro pins s σ H vs us Q I r h
  obtain ⟨l, ns, q0, rfl, hs, hl, nq, mq, q⟩ := h
  obtain ⟨its, rv, hi, _⟩ := I.list hs
  rw [Vals.ref1 r]
  refine call_setL ns (I.ok.hd hc) hi.isList rv.ints (by unfold scanBound; omega) fun s' hs' => ?_
  obtain ⟨h', tk, c, rfl, R, hc', k⟩ := hs'
  have e : c = q0.length := by
    obtain ⟨o, es, ep, t, ho, hex, hd, hg, hn, hmem, hb, hf, hsz, _⟩ := R
    have h1 := nodup_le (l := es.toList.map keyOf) nq fun k hk => (hmem k).mp (decide_eq_true ((mq k).mp hk))
    have h2 := nodup_le (l := q0) hn fun k hk => (mq k).mpr (of_decide_eq_true ((hmem k).mpr hk))
    rw [List.length_map] at h1 h2
    have h3 : es.toList.length = c := (Array.length_toList (xs := es)).trans hsz
    omega
  subst e
  exact ⟨.ref _, upd H s.heap.objs.size (SetO X.w s.heap.objs.size (fun j => decide (j ∈ ns)) q0.length), I.laid (t' := tk) k (Nat.le_refl _) (setO_ok R), rfl, q _ (I.hok.fresh (Nat.le_refl _))⟩
/-- len(set(l)) -/
theorem ed_lenSetX {ns q0 : List Int} (bi : Bi X.mg) (ha : ED T X a σ B (.list (ns.map .int))) (hl : ns.length ≤ 60) (nq : q0.Nodup) (mq : ∀ k, k ∈ q0 ↔ k ∈ ns) (hc : X.calm = true := by rfl) (hg : Gl X "len" := by rfl) (hg2 : Gl X "set" := by rfl)
    (he : starEach [a] X.env = (false, eval a X.env) :: starEach [] X.env := by rfl) (hpl : (backTo p3 (starEach [] X.env)).any (·.1) = false := by rfl)
    (he2 : starEach [.Call (.Name "set" p2) [a] [] p3] X.env = (false, eval (.Call (.Name "set" p2) [a] [] p3) X.env) :: starEach [] X.env := by rfl) (hpl2 : (backTo pos (starEach [] X.env)).any (·.1) = false := by rfl) :
    ED T X (.Call (.Name "len" p) [.Call (.Name "set" p2) [a] [] p3] [] pos) σ B (.int (q0.length : Int)) := fun H w Q q => by
  refine we_of (pe_callB cr_lenOfS hg bi.len (by decide +kernel) (pa_cons (pe_callTy (cr_setOfX hc) hg2 bi.set PyProof.Rows.boot_set (pa_cons pwe pa_nil he) (by decide) (by decide) he hpl) pa_nil he2) (by decide) (by decide) he2 hpl2) ?_
  refine ha H w _ fun v B1 H1 g1 r1 => ?_
  obtain ⟨A1, xs, rfl, hA1, rx⟩ := r1.toList
  rw [rx.ints] at hA1
  have hle := nodup_le nq fun k hk => (mq k).mp hk
  refine ⟨A1, ns, q0, rfl, SqL.of (g1.wd.ex.lst hA1), by omega, nq, mq, fun D hD => ?_⟩
  exact ⟨D, _, q0.length, rfl, upd_same, by omega, q _ _ _ (g1.trans (Go.newH g1.wd hD)) (.int _)⟩
end
end Cw

/-! # layers told by other numbers; threads told again -/
namespace Cz
section
variable {N N' : Nat} {r r' : Int → Int → Bool}
theorem layers_mem (R : Rr N r) {l : List Int} : l ∈ layersZ N r ↔ ∃ t ∈ thN N, l = layZ N r t := by
  rw [(layers_perm R).mem_iff, least_mem R]
/-- all one layer, just where each reaches each -/
theorem one_layer (R : Rr N r) : (layersZ N r).length = 1 ↔ 0 < N ∧ ∀ a ∈ thN N, ∀ b ∈ thN N, r a b = true := by
  constructor
  · intro h
    match hL : layersZ N r, h with
    | [l], _ => ?_
    have hl : l ∈ layersZ N r := by rw [hL]; exact List.mem_singleton.mpr rfl
    have Ll := layers_lay R hl
    refine ⟨?_, fun a ha b hb => ?_⟩
    · have := thN_mem.mp (Ll.is _ Ll.head).1
      omega
    · have one : ∀ x ∈ thN N, x ∈ l := fun x hx => by
        obtain ⟨q, hq, hxq⟩ := layers_has R hx
        rw [hL] at hq
        rw [List.mem_singleton.mp hq] at hxq
        exact hxq
      exact Ll.both (one a ha) (one b hb)
  · rintro ⟨h0, h⟩
    have z : (0 : Int) ∈ thN N := thN_mem.mpr ⟨by omega, by omega⟩
    have all : ∀ l ∈ layersZ N r, l = layZ N r 0 := fun l hl => by
      obtain ⟨t, ht, rfl⟩ := (layers_mem R).mp hl
      exact lay_same R (lay_mem.mpr ⟨ht, h 0 z t ht, h t ht 0 z⟩)
    have nd := layers_nodup R
    have hm : layZ N r 0 ∈ layersZ N r := (layers_mem R).mpr ⟨0, z, rfl⟩
    match hL : layersZ N r with
    | [] => rw [hL] at hm; cases hm
    | [_] => rfl
    | a :: b :: q =>
      exfalso
      rw [hL] at all nd
      have h1 := all a (List.mem_cons_self ..)
      have h2 := all b (List.mem_cons_of_mem _ (List.mem_cons_self ..))
      exact (List.nodup_cons.mp nd).1 (by rw [h1, ← h2]; exact List.mem_cons_self ..)
/-- the layer of r that stands for one of r' -/
def othZ (N : Nat) (r : Int → Int → Bool) (π : Int → Int) (l : List Int) : List Int := layZ N r (π (l.headD 0))
structure Pm (N : Nat) (π : Int → Int) : Prop where
  inn : ∀ i ∈ thN N, π i ∈ thN N
  inj : ∀ i ∈ thN N, ∀ j ∈ thN N, π i = π j → i = j
  sur : ∀ t ∈ thN N, ∃ i ∈ thN N, π i = t
theorem relab (R : Rr N r) (R' : Rr N r') {π : Int → Int} (p : Pm N π) (hs : ∀ i ∈ thN N, ∀ j ∈ thN N, (r' i j && r' j i) = (r (π i) (π j) && r (π j) (π i))) :
    (∀ l ∈ layersZ N r', (othZ N r π l).Perm (l.map π) ∧ (othZ N r π l).Pairwise (· < ·)) ∧ ((layersZ N r').map (othZ N r π)).Perm (layersZ N r) := by
  have key : ∀ {l : List Int}, l ∈ layersZ N r' → ∀ {o : Int}, o ∈ thN N → (o ∈ l ↔ π o ∈ othZ N r π l) := fun {l} hl {o} ho => by
    have Ll := layers_lay R' hl
    have hh := Ll.head
    have hin := (Ll.is _ hh).1
    unfold othZ
    rw [lay_mem]
    have e := hs _ hin o ho
    constructor
    · intro h
      rw [(Ll.is _ hh).2] at h
      obtain ⟨_, h2, h3⟩ := lay_mem.mp h
      rw [h2, h3] at e
      have e := Bool.and_eq_true_iff.mp e.symm
      exact ⟨p.inn o ho, e.1, e.2⟩
    · rintro ⟨_, h2, h3⟩
      rw [h2, h3] at e
      have e := Bool.and_eq_true_iff.mp e
      rw [(Ll.is _ hh).2]
      exact lay_mem.mpr ⟨ho, e.1, e.2⟩
  refine ⟨fun l hl => ⟨?_, lay_rise _⟩, ?_⟩
  · have Ll := layers_lay R' hl
    refine (List.perm_ext_iff_of_nodup ((lay_rise _).imp fun {a b} h => by omega) ?_).mpr fun x => ?_
    · refine List.pairwise_map.mpr (List.Pairwise.imp_of_mem (fun {a b} ha hb hab e => ?_) Ll.rise)
      have := p.inj a (Ll.is a ha).1 b (Ll.is b hb).1 e
      omega
    · rw [List.mem_map]
      constructor
      · intro hx
        obtain ⟨o, ho, rfl⟩ := p.sur x (lay_mem.mp hx).1
        exact ⟨o, (key hl ho).mpr hx, rfl⟩
      · rintro ⟨o, ho, rfl⟩
        exact (key hl (Ll.is o ho).1).mp ho
  · refine (List.perm_ext_iff_of_nodup ?_ (layers_nodup R)).mpr fun y => ?_
    · refine List.pairwise_map.mpr (List.Pairwise.imp_of_mem (fun {a b} ha hb hab e => hab ?_) (layers_nodup R'))
      have La := layers_lay R' ha
      have Lb := layers_lay R' hb
      have h1 := (key ha (La.is _ La.head).1).mp La.head
      rw [e] at h1
      exact La.same Lb La.head ((key hb (La.is _ La.head).1).mpr h1)
    · rw [List.mem_map, layers_mem R]
      constructor
      · rintro ⟨l, hl, rfl⟩
        have Ll := layers_lay R' hl
        exact ⟨π (l.headD 0), p.inn _ (Ll.is _ Ll.head).1, rfl⟩
      · rintro ⟨t, ht, rfl⟩
        obtain ⟨i, hi, rfl⟩ := p.sur t ht
        obtain ⟨l, hl, hil⟩ := layers_has R' hi
        have := (key hl hi).mp hil
        exact ⟨l, hl, (lay_same R this).symm⟩
/-! ## reaching, the same way round and the other way -/
variable {adj adj' : Int → List Int}
theorem rch_same {π : Int → Int} (p : Pm N π) (cl : ∀ a ∈ thN N, ∀ b ∈ adj a, b ∈ thN N) (cl' : ∀ a ∈ thN N, ∀ b ∈ adj' a, b ∈ thN N) (h : ∀ i ∈ thN N, ∀ j ∈ thN N, (j ∈ adj' i ↔ π j ∈ adj (π i))) {i j : Int} (hi : i ∈ thN N) (hj : j ∈ thN N) : rchB adj' i j = rchB adj (π i) (π j) := by
  rw [Bool.eq_iff_iff]
  constructor
  · intro e
    obtain ⟨n, q, w⟩ := rch_iff.mp e
    clear e hj
    induction w with
    | here => exact rch_iff.mpr ⟨0, _, .here⟩
    | on w e ih =>
      have yin := w.inside cl' hi
      exact (rch_rr (adj := adj) 0).trans _ _ _ ih (rch_step ((h _ yin _ (cl' _ yin _ e)).mp e))
  · intro e
    obtain ⟨n, q, w⟩ := rch_iff.mp e
    have key : ∀ {n : Nat} {x : Int} {q : List Int}, Wlk adj (π i) n x q → ∃ k ∈ thN N, π k = x ∧ rchB adj' i k = true := by
      intro n x q w
      induction w with
      | here => exact ⟨i, hi, rfl, rch_iff.mpr ⟨0, _, .here⟩⟩
      | on w e ih =>
        obtain ⟨k, hk, rfl, hr⟩ := ih
        obtain ⟨o, ho, rfl⟩ := p.sur _ (cl _ (p.inn k hk) _ e)
        exact ⟨o, ho, rfl, (rch_rr (adj := adj') 0).trans _ _ _ hr (rch_step ((h k hk o ho).mpr e))⟩
    obtain ⟨k, hk, e2, hr⟩ := key w
    rw [← p.inj k hk j hj e2]
    exact hr
theorem rch_back {π : Int → Int} (p : Pm N π) (cl : ∀ a ∈ thN N, ∀ b ∈ adj a, b ∈ thN N) (cl' : ∀ a ∈ thN N, ∀ b ∈ adj' a, b ∈ thN N) (h : ∀ i ∈ thN N, ∀ j ∈ thN N, (j ∈ adj' i ↔ π i ∈ adj (π j))) {i j : Int} (hi : i ∈ thN N) (hj : j ∈ thN N) : rchB adj' i j = rchB adj (π j) (π i) := by
  rw [Bool.eq_iff_iff]
  constructor
  · intro e
    obtain ⟨n, q, w⟩ := rch_iff.mp e
    clear e hj
    induction w with
    | here => exact rch_iff.mpr ⟨0, _, .here⟩
    | on w e ih =>
      have yin := w.inside cl' hi
      exact (rch_rr (adj := adj) 0).trans _ _ _ (rch_step ((h _ yin _ (cl' _ yin _ e)).mp e)) ih
  · intro e
    obtain ⟨n, q, w⟩ := rch_iff.mp e
    have key : ∀ {n : Nat} {x : Int} {q : List Int}, Wlk adj (π j) n x q → ∃ k ∈ thN N, π k = x ∧ rchB adj' k j = true := by
      intro n x q w
      induction w with
      | here => exact ⟨j, hj, rfl, rch_iff.mpr ⟨0, _, .here⟩⟩
      | on w e ih =>
        obtain ⟨k, hk, rfl, hr⟩ := ih
        obtain ⟨o, ho, rfl⟩ := p.sur _ (cl _ (p.inn k hk) _ e)
        exact ⟨o, ho, rfl, (rch_rr (adj := adj') 0).trans _ _ _ (rch_step ((h o ho k hk).mpr e)) hr⟩
    obtain ⟨k, hk, e2, hr⟩ := key w
    rw [← p.inj k hk i hi e2]
    exact hr
/-! ## threads told again -/
/-- by one step at least -/
def Plus (adj : Int → List Int) (a b : Int) : Prop := ∃ n p, Wlk adj a (n + 1) b p
theorem Plus.rch {a b : Int} (h : Plus adj a b) : rchB adj a b = true := by
  obtain ⟨n, p, w⟩ := h
  exact rch_iff.mpr ⟨_, p, w⟩
theorem plus_of {a b : Int} (h : rchB adj a b = true) (ne : a ≠ b) : Plus adj a b := by
  obtain ⟨n, p, w⟩ := rch_iff.mp h
  cases n with
  | zero =>
    cases w
    exact absurd rfl ne
  | succ n => exact ⟨n, p, w⟩
theorem Plus.then {a b c : Int} (h : Plus adj a b) (k : rchB adj b c = true) : Plus adj a c := by
  obtain ⟨n, p, w⟩ := h
  obtain ⟨m, q, u⟩ := rch_iff.mp k
  induction u with
  | here => exact ⟨n, p, w⟩
  | on u e ih =>
    obtain ⟨n2, p2, w2⟩ := ih (rch_iff.mpr ⟨_, _, u⟩)
    exact ⟨n2 + 1, _, w2.on e⟩
structure Cp (N N' : Nat) (adj adj' : Int → List Int) (ν : Int → Int) : Prop where
  inn : ∀ i ∈ thN N', ν i ∈ thN N
  sur : ∀ t ∈ thN N, ∃ i ∈ thN N', ν i = t
  cl : ∀ a ∈ thN N, ∀ b ∈ adj a, b ∈ thN N
  cl' : ∀ a ∈ thN N', ∀ b ∈ adj' a, b ∈ thN N'
  adj : ∀ i ∈ thN N', ∀ j ∈ thN N', (j ∈ adj' i ↔ ν j ∈ adj (ν i))
theorem rch_copy {ν : Int → Int} (c : Cp N N' adj adj' ν) {i j : Int} (hi : i ∈ thN N') (hj : j ∈ thN N') : rchB adj' i j = true ↔ i = j ∨ Plus adj (ν i) (ν j) := by
  constructor
  · intro e
    obtain ⟨n, q, w⟩ := rch_iff.mp e
    clear e hj
    induction w with
    | here => exact .inl rfl
    | @on k x y q w e ih =>
      have xin := w.inside c.cl' hi
      have st := (c.adj _ xin _ (c.cl' _ xin _ e)).mp e
      rcases ih with e2 | h
      · rw [← e2] at st
        exact .inr ⟨0, [ν i] ++ [ν y], Wlk.here.on st⟩
      · obtain ⟨n2, p2, w2⟩ := h
        exact .inr ⟨n2 + 1, _, w2.on st⟩
  · rintro (rfl | ⟨n, q, w⟩)
    · exact rch_iff.mpr ⟨0, _, .here⟩
    · have key : ∀ {n : Nat} {x : Int} {q : List Int}, Wlk adj (ν i) n x q → ∃ k ∈ thN N', ν k = x ∧ rchB adj' i k = true := by
        intro n x q w
        induction w with
        | here => exact ⟨i, hi, rfl, rch_iff.mpr ⟨0, _, .here⟩⟩
        | on w e ih =>
          obtain ⟨k, hk, rfl, hr⟩ := ih
          obtain ⟨o, ho, rfl⟩ := c.sur _ (c.cl _ (c.inn k hk) _ e)
          exact ⟨o, ho, rfl, (rch_rr (adj := adj') 0).trans _ _ _ hr (rch_step ((c.adj k hk o ho).mpr e))⟩
      have last : ∀ {n : Nat} {x : Int} {q : List Int}, Wlk adj (ν i) (n + 1) x q → x = ν j → rchB adj' i j = true := by
        intro n x q w ex
        cases w with
        | on w e =>
          obtain ⟨k, hk, rfl, hr⟩ := key w
          rw [ex] at e
          exact (rch_rr (adj := adj') 0).trans _ _ _ hr (rch_step ((c.adj k hk j hj).mpr e))
      exact last w rfl
end
end Cz

namespace Lw
open PySem PySem.Spec PyProof.Rows L2 Cw
/-! ### the text's statements by name -/
def topS (i : Nat) : Stmt := PySem.Challenge.pw_clothlayers_k13_whole_told_alike.main.body.getD i (.Pass ⟨0, 0, 0, 0⟩)
abbrev s_is_whole : Stmt := topS 6
theorem c_is_whole : FnScope ["thing"] ["thing"] (defScope s_is_whole) := ⟨rfl, rfl, rfl, by decide +kernel, rfl, by decide +kernel, by decide +kernel⟩
abbrev s_is_filled_list : Stmt := topS 7
theorem c_is_filled_list : FnScope ["thing"] ["thing"] (defScope s_is_filled_list) := ⟨rfl, rfl, rfl, by decide +kernel, rfl, by decide +kernel, by decide +kernel⟩
abbrev s_is_row : Stmt := topS 8
theorem c_is_row : FnScope ["thing"] ["thing"] (defScope s_is_row) := ⟨rfl, rfl, rfl, by decide +kernel, rfl, by decide +kernel, by decide +kernel⟩
abbrev s_need_cloth : Stmt := topS 9
theorem c_need_cloth : FnScope ["thing", "row"] ["thing"] (defScope s_need_cloth) := ⟨rfl, rfl, rfl, by decide +kernel, rfl, by decide +kernel, by decide +kernel⟩
abbrev s_count_threads : Stmt := topS 10
theorem c_count_threads : FnScope ["rows"] ["rows"] (defScope s_count_threads) := ⟨rfl, rfl, rfl, by decide +kernel, rfl, by decide +kernel, by decide +kernel⟩
abbrev s_columns_of : Stmt := topS 11
theorem c_columns_of : FnScope ["rows", "row", "at"] ["rows"] (defScope s_columns_of) := ⟨rfl, rfl, rfl, by decide +kernel, rfl, by decide +kernel, by decide +kernel⟩
abbrev s_is_weft : Stmt := topS 12
theorem c_is_weft : FnScope ["rows", "thread"] ["rows", "thread"] (defScope s_is_weft) := ⟨rfl, rfl, rfl, by decide +kernel, rfl, by decide +kernel, by decide +kernel⟩
abbrev s_crossing : Stmt := topS 13
theorem c_crossing : FnScope ["rows", "thread", "wefts"] ["rows", "thread"] (defScope s_crossing) := ⟨rfl, rfl, rfl, by decide +kernel, rfl, by decide +kernel, by decide +kernel⟩
abbrev s_lies_over : Stmt := topS 14
theorem c_lies_over : FnScope ["rows", "one", "other"] ["rows", "one", "other"] (defScope s_lies_over) := ⟨rfl, rfl, rfl, by decide +kernel, rfl, by decide +kernel, by decide +kernel⟩
abbrev s_lower_threads : Stmt := topS 15
theorem c_lower_threads : FnScope ["rows", "thread", "other"] ["rows", "thread"] (defScope s_lower_threads) := ⟨rfl, rfl, rfl, by decide +kernel, rfl, by decide +kernel, by decide +kernel⟩
abbrev s_turned : Stmt := topS 17
theorem c_turned : FnScope ["cloth", "rows", "sign", "row"] ["cloth"] (defScope s_turned) := ⟨rfl, rfl, rfl, by decide +kernel, rfl, by decide +kernel, by decide +kernel⟩
abbrev s_moved : Stmt := topS 18
theorem c_moved : FnScope ["cloth", "down", "right", "rows", "from_row", "from_sign", "begun", "row"] ["cloth", "down", "right"] (defScope s_moved) := ⟨rfl, rfl, rfl, by decide +kernel, rfl, by decide +kernel, by decide +kernel⟩
abbrev s_need_times : Stmt := topS 19
theorem c_need_times : FnScope ["thing", "many"] ["thing", "many"] (defScope s_need_times) := ⟨rfl, rfl, rfl, by decide +kernel, rfl, by decide +kernel, by decide +kernel⟩
abbrev s_repeated : Stmt := topS 20
theorem c_repeated : FnScope ["cloth", "down", "right", "rows", "_", "row"] ["cloth", "down", "right"] (defScope s_repeated) := ⟨rfl, rfl, rfl, by decide +kernel, rfl, by decide +kernel, by decide +kernel⟩
abbrev s_ways_from : Stmt := topS 22
theorem c_ways_from : FnScope ["rows", "first", "ways", "newest", "found", "thread", "other"] ["rows", "first"] (defScope s_ways_from) := ⟨rfl, rfl, rfl, by decide +kernel, rfl, by decide +kernel, by decide +kernel⟩
abbrev s_all_ways : Stmt := topS 23
theorem c_all_ways : FnScope ["rows", "thread"] ["rows"] (defScope s_all_ways) := ⟨rfl, rfl, rfl, by decide +kernel, rfl, by decide +kernel, by decide +kernel⟩
abbrev s_layer_with : Stmt := topS 24
theorem c_layer_with : FnScope ["ways", "thread", "other"] ["ways", "thread"] (defScope s_layer_with) := ⟨rfl, rfl, rfl, by decide +kernel, rfl, by decide +kernel, by decide +kernel⟩
abbrev s_layers_by_least : Stmt := topS 25
theorem c_layers_by_least : FnScope ["ways", "by_thread", "thread", "layer"] ["ways"] (defScope s_layers_by_least) := ⟨rfl, rfl, rfl, by decide +kernel, rfl, by decide +kernel, by decide +kernel⟩
abbrev s_may_come_next : Stmt := topS 26
theorem c_may_come_next : FnScope ["ways", "layer", "left"] ["ways", "layer", "left"] (defScope s_may_come_next) := ⟨rfl, rfl, rfl, by decide +kernel, rfl, by decide +kernel, by decide +kernel⟩
abbrev s_layers : Stmt := topS 27
theorem c_layers : FnScope ["cloth", "rows", "ways", "left", "told", "upper", "layer"] ["cloth"] (defScope s_layers) := ⟨rfl, rfl, rfl, by decide +kernel, rfl, by decide +kernel, by decide +kernel⟩
abbrev s_hangs : Stmt := topS 28
theorem c_hangs : FnScope ["cloth"] ["cloth"] (defScope s_hangs) := ⟨rfl, rfl, rfl, by decide +kernel, rfl, by decide +kernel, by decide +kernel⟩
abbrev s_kinds_of : Stmt := topS 30
theorem c_kinds_of : FnScope ["lines", "kinds", "line"] ["lines"] (defScope s_kinds_of) := ⟨rfl, rfl, rfl, by decide +kernel, rfl, by decide +kernel, by decide +kernel⟩
abbrev s_numbered : Stmt := topS 31
theorem c_numbered : FnScope ["lines", "kinds", "line"] ["lines"] (defScope s_numbered) := ⟨rfl, rfl, rfl, by decide +kernel, rfl, by decide +kernel, by decide +kernel⟩
abbrev s_lifted : Stmt := topS 32
theorem c_lifted : FnScope ["threading", "row", "shaft", "sign"] ["threading", "row"] (defScope s_lifted) := ⟨rfl, rfl, rfl, by decide +kernel, rfl, by decide +kernel, by decide +kernel⟩
abbrev s_loom_of : Stmt := topS 33
theorem c_loom_of : FnScope ["cloth", "rows", "threading", "ties", "row"] ["cloth"] (defScope s_loom_of) := ⟨rfl, rfl, rfl, by decide +kernel, rfl, by decide +kernel, by decide +kernel⟩
abbrev s_law_cell_at : Stmt := topS 35
theorem c_law_cell_at : FnScope ["_law_script", "_law_k"] ["_law_script", "_law_k"] (defScope s_law_cell_at) := ⟨rfl, rfl, rfl, by decide +kernel, rfl, by decide +kernel, by decide +kernel⟩
abbrev s_law_drawn : Stmt := topS 36
theorem c_law_drawn : FnScope ["_law_seed", "_law_k", "_law_mixed"] ["_law_seed", "_law_k"] (defScope s_law_drawn) := ⟨rfl, rfl, rfl, by decide +kernel, rfl, by decide +kernel, by decide +kernel⟩
abbrev s_law_size : Stmt := topS 37
theorem c_law_size : FnScope ["_law_cell"] ["_law_cell"] (defScope s_law_size) := ⟨rfl, rfl, rfl, by decide +kernel, rfl, by decide +kernel, by decide +kernel⟩
abbrev s_law_kind_at : Stmt := topS 38
theorem c_law_kind_at : FnScope ["_law_seed", "_law_k", "_law_few"] ["_law_seed", "_law_k", "_law_few"] (defScope s_law_kind_at) := ⟨rfl, rfl, rfl, by decide +kernel, rfl, by decide +kernel, by decide +kernel⟩
abbrev s_law_cloth_by : Stmt := topS 39
theorem c_law_cloth_by : FnScope ["_law_script", "_law_at", "_law_wefts", "_law_warps", "_law_seed", "_law_more", "_law_floors", "_law_down", "_law_k", "_law_right", "_law_j", "_law_made", "_law_row", "_law_one", "_law_other", "_law_sign", "_law_stair"] ["_law_script", "_law_at"] (defScope s_law_cloth_by) := ⟨rfl, rfl, rfl, by decide +kernel, rfl, by decide +kernel, by decide +kernel⟩
abbrev s_law_counts : Stmt := topS 40
theorem c_law_counts : FnScope ["_law_cloth", "_law_loom"] ["_law_cloth"] (defScope s_law_counts) := ⟨rfl, rfl, rfl, by decide +kernel, rfl, by decide +kernel, by decide +kernel⟩
abbrev s_law_as : Stmt := topS 41
theorem c_law_as : FnScope ["_law_told", "_law_names", "_law_thread", "_law_layer"] ["_law_told", "_law_names"] (defScope s_law_as) := ⟨rfl, rfl, rfl, by decide +kernel, rfl, by decide +kernel, by decide +kernel⟩
abbrev s_law_turned_right : Stmt := topS 42
theorem c_law_turned_right : FnScope ["_law_cloth", "_law_wefts", "_law_warps", "_law_other", "_law_names", "_law_j"] ["_law_cloth"] (defScope s_law_turned_right) := ⟨rfl, rfl, rfl, by decide +kernel, rfl, by decide +kernel, by decide +kernel⟩
abbrev s_law_moved_right : Stmt := topS 43
theorem c_law_moved_right : FnScope ["_law_cloth", "_law_down", "_law_right", "_law_wefts", "_law_warps", "_law_other", "_law_names", "_law_k", "_law_j"] ["_law_cloth", "_law_down", "_law_right"] (defScope s_law_moved_right) := ⟨rfl, rfl, rfl, by decide +kernel, rfl, by decide +kernel, by decide +kernel⟩
abbrev s_law_repeated_right : Stmt := topS 44
theorem c_law_repeated_right : FnScope ["_law_cloth", "_law_down", "_law_right", "_law_wefts", "_law_warps", "_law_other", "_law_names", "_law_k", "_law_j", "_law_mine", "_law_layer", "_law_meant", "_law_thread", "_law_both", "_law_whole"] ["_law_cloth", "_law_down", "_law_right"] (defScope s_law_repeated_right) := ⟨rfl, rfl, rfl, by decide +kernel, rfl, by decide +kernel, by decide +kernel⟩
abbrev s_law : Stmt := topS 45
theorem c_law : FnScope ["_law_script", "_law_cloth", "_law_kept", "_law_row", "_law_down", "_law_right"] ["_law_script"] (defScope s_law) := ⟨rfl, rfl, rfl, by decide +kernel, rfl, by decide +kernel, by decide +kernel⟩
/-- what the top leaves: the defs, the classes, the names -/
structure Md (K : PySem.W.Frag) (mg : Str → Option Value) : Prop where
  bi : Bi mg
  k_MOST : ∃ t, mg "MOST" = some (.int 12 t)
  d_is_whole : Df K mg "is_whole" s_is_whole ["thing"]
  d_is_filled_list : Df K mg "is_filled_list" s_is_filled_list ["thing"]
  d_is_row : Df K mg "is_row" s_is_row ["thing"]
  d_need_cloth : Df K mg "need_cloth" s_need_cloth ["thing"]
  d_count_threads : Df K mg "count_threads" s_count_threads ["rows"]
  d_columns_of : Df K mg "columns_of" s_columns_of ["rows"]
  d_is_weft : Df K mg "is_weft" s_is_weft ["rows", "thread"]
  d_crossing : Df K mg "crossing" s_crossing ["rows", "thread"]
  d_lies_over : Df K mg "lies_over" s_lies_over ["rows", "one", "other"]
  d_lower_threads : Df K mg "lower_threads" s_lower_threads ["rows", "thread"]
  d_turned : Df K mg "turned" s_turned ["cloth"]
  d_moved : Df K mg "moved" s_moved ["cloth", "down", "right"]
  d_need_times : Df K mg "need_times" s_need_times ["thing", "many"]
  d_repeated : Df K mg "repeated" s_repeated ["cloth", "down", "right"]
  d_ways_from : Df K mg "ways_from" s_ways_from ["rows", "first"]
  d_all_ways : Df K mg "all_ways" s_all_ways ["rows"]
  d_layer_with : Df K mg "layer_with" s_layer_with ["ways", "thread"]
  d_layers_by_least : Df K mg "layers_by_least" s_layers_by_least ["ways"]
  d_may_come_next : Df K mg "may_come_next" s_may_come_next ["ways", "layer", "left"]
  d_layers : Df K mg "layers" s_layers ["cloth"]
  d_hangs : Df K mg "hangs" s_hangs ["cloth"]
  d_kinds_of : Df K mg "kinds_of" s_kinds_of ["lines"]
  d_numbered : Df K mg "numbered" s_numbered ["lines"]
  d_lifted : Df K mg "lifted" s_lifted ["threading", "row"]
  d_loom_of : Df K mg "loom_of" s_loom_of ["cloth"]
  d_law_cell_at : Df K mg "_law_cell_at" s_law_cell_at ["_law_script", "_law_k"]
  d_law_drawn : Df K mg "_law_drawn" s_law_drawn ["_law_seed", "_law_k"]
  d_law_size : Df K mg "_law_size" s_law_size ["_law_cell"]
  d_law_kind_at : Df K mg "_law_kind_at" s_law_kind_at ["_law_seed", "_law_k", "_law_few"]
  d_law_cloth_by : Df K mg "_law_cloth_by" s_law_cloth_by ["_law_script", "_law_at"]
  d_law_counts : Df K mg "_law_counts" s_law_counts ["_law_cloth"]
  d_law_as : Df K mg "_law_as" s_law_as ["_law_told", "_law_names"]
  d_law_turned_right : Df K mg "_law_turned_right" s_law_turned_right ["_law_cloth"]
  d_law_moved_right : Df K mg "_law_moved_right" s_law_moved_right ["_law_cloth", "_law_down", "_law_right"]
  d_law_repeated_right : Df K mg "_law_repeated_right" s_law_repeated_right ["_law_cloth", "_law_down", "_law_right"]
  d_law : Df K mg "law" s_law ["_law_script"]
/-- with the code tables -/
structure Mt (K : PySem.W.Frag) (mg : Str → Option Value) (base : Heap) (T : List Addr) : Prop where
  m : Md K mg
  t_is_row : DfC K mg base T "is_row" s_is_row ["thing"]
  t_may_come_next : DfC K mg base T "may_come_next" s_may_come_next ["ways", "layer", "left"]

section helpers
variable {P : Program} {w : World} {K : PySem.W.Frag} {mg : Str → Option Value} {base : Heap} {T : List Addr}
/-! ### the law's own helpers -/
def sgCell (K : PySem.W.Frag) : Sg := ⟨2, fun B as P => ∃ (A : Addr) (ns : List Int) (k : Int), as = [.val (.ref A), .dat (.int k)] ∧ SqL K B A (ns.map V.int) ∧ 0 ≤ k ∧ P = isd (.int (Cz.cellZ ns k)), nox⟩
theorem f_cell (M : Md K mg) : FnS P w K mg base T "_law_cell_at" 1 (sgCell K) := by
  refine fn_D M.d_law_cell_at c_law_cell_at rfl fun f cdv A outer s H vs E B as R hr g sl hp => ?_
  obtain ⟨A0, ns, k, rfl, hA, hk, rfl⟩ := hp
  refine t_when g sl (ec_lt (ed_v 1 sl rfl) (ed_lenQ (ev_v 0 sl rfl) hA M.bi)).et (fun c B' H' g sl => ?_) (fun c B' H' g sl => ?_)
  · rw [List.length_map] at c
    have c := of_decide_eq_true c
    have hi : k.toNat < ns.length := by omega
    refine t_ret g (ed_ixQ (d := .int (Cz.cellZ ns k)) (ev_v 0 sl rfl) (g.eb.seq hA) (ed_v 1 sl rfl) (v := .int (Cz.cellZ ns k)) ?_ fun _ => .int _) fun v B' H' g r => ⟨B', g, r⟩
    have ek : k = ((k.toNat : Nat) : Int) := by omega
    rw [ek]
    refine atI_nat ?_
    unfold Cz.cellZ
    rw [List.getElem?_map, List.getElem?_eq_getElem hi, List.getD_eq_getElem?_getD, Int.toNat_natCast, List.getElem?_eq_getElem hi]
    rfl
  · rw [List.length_map] at c
    have c := of_decide_eq_false c
    have hi : ns[k.toNat]? = none := List.getElem?_eq_none_iff.mpr (by omega)
    refine t_ret g (ed_is ed_int ?_) fun v B' H' g r => ⟨B', g, r⟩
    unfold Cz.cellZ
    rw [List.getD_eq_getElem?_getD, hi]
    rfl
def sgII (f : Int → Int → Int) : Sg := ⟨2, fun _ as P => ∃ i j : Int, as = [.dat (.int i), .dat (.int j)] ∧ P = isd (.int (f i j)), nox⟩
theorem f_drawn (M : Md K mg) : FnS P w K mg base T "_law_drawn" 1 (sgII Cz.drawnZ) := by
  refine fn_D M.d_law_drawn c_law_drawn rfl fun f cdv A outer s H vs E B as R hr g sl hp => ?_
  obtain ⟨i, j, rfl, rfl⟩ := hp
  refine t_set 2 g sl c_law_drawn.nd (ed_mod (by decide) (ed_mulR (by decide) (ed_add (ed_add (ed_v 0 sl rfl) (ed_mulL (by decide) ed_int (ed_v 1 sl rfl))) ed_int) ed_int) ed_int) fun σ B' H' g sl => ?_
  exact t_ret g (ed_div (by decide) (ed_mod (by decide) (ed_mulR (by decide) (ed_add (ed_div (by decide) (ed_v 2 sl rfl) ed_int) (ed_v 1 sl rfl)) ed_int) ed_int) ed_int) fun v B' H' g r => ⟨B', g, r⟩
def sgI (f : Int → Int) : Sg := ⟨1, fun _ as P => ∃ i : Int, as = [.dat (.int i)] ∧ P = isd (.int (f i)), nox⟩
theorem f_size (M : Md K mg) : FnS P w K mg base T "_law_size" 1 (sgI Cz.sizeZ) := by
  refine fn_D M.d_law_size c_law_size rfl fun f cdv A outer s H vs E B as R hr g sl hp => ?_
  obtain ⟨i, rfl, rfl⟩ := hp
  refine t_when g sl (ec_eqI (ed_mod (by decide) (ed_div (by decide) (ed_v 0 sl rfl) ed_int) ed_int) ed_int).et (fun c B' H' g sl => ?_) (fun c B' H' g sl => ?_)
  · refine t_ret g (ed_is (ed_add ed_int (ed_mod (by decide) (ed_div (by decide) (ed_v 0 sl rfl) ed_int) ed_int)) ?_) fun v B' H' g r => ⟨B', g, r⟩
    unfold Cz.sizeZ
    rw [if_pos (of_decide_eq_true c)]
  · refine t_ret g (ed_is (ed_add ed_int (ed_mod (by decide) (ed_v 0 sl rfl) ed_int)) ?_) fun v B' H' g r => ⟨B', g, r⟩
    unfold Cz.sizeZ
    rw [if_neg (of_decide_eq_false c)]
def sgKind : Sg := ⟨3, fun _ as P => ∃ s k few : Int, as = [.dat (.int s), .dat (.int k), .dat (.int few)] ∧ 0 < few ∧ P = isd (.int (Cz.kindZ s k few)), nox⟩
theorem f_kind (M : Md K mg) : FnS P w K mg base T "_law_kind_at" 2 sgKind := by
  refine fn_D M.d_law_kind_at c_law_kind_at rfl fun f cdv A outer s H vs E B as R hr g sl hp => ?_
  obtain ⟨i, k, few, rfl, hf, rfl⟩ := hp
  refine t_when g sl (ec_gt (ed_v 2 sl rfl) ed_int).et (fun c B' H' g sl => ?_) (fun c B' H' g sl => ?_)
  · refine t_ret g (ed_is (ed_v 1 sl rfl) ?_) fun v B' H' g r => ⟨B', g, r⟩
    unfold Cz.kindZ
    rw [if_pos (of_decide_eq_true c)]
  · refine t_ret g (ed_is (ed_mod hf (ed_fn (f_drawn M) hr (eg_d (ed_v 0 sl rfl) (eg_d (ed_add ed_int (ed_v 1 sl rfl)) eg_nil)) rfl fun _ _ => ⟨_, _, rfl, rfl⟩) (ed_v 2 sl rfl)) ?_) fun v B' H' g r => ⟨B', g, r⟩
    unfold Cz.kindZ
    rw [if_neg (of_decide_eq_false c)]
end helpers

section clothby
set_option maxHeartbeats 4000000
variable {P : Program} {w : World} {K : PySem.W.Frag} {mg : Str → Option Value} {base : Heap} {T : List Addr}
def sgBy (K : PySem.W.Frag) : Sg := ⟨2, fun B as P => ∃ (A : Addr) (ns : List Int) (a : Int), as = [.val (.ref A), .dat (.int a)] ∧ SqL K B A (ns.map V.int) ∧ 0 ≤ a ∧ P = isd (encG (Cz.clothZ ns a)), nox⟩
theorem hu3 {k : Nat} {A : Around} (h : Room (k + 1) A) : Room k A := h.mono (Nat.le_succ _)
theorem f_cloth (M : Md K mg) : FnS P w K mg base T "_law_cloth_by" 3 (sgBy K) := by
  refine fn_D M.d_law_cloth_by c_law_cloth_by rfl fun f cdv A outer s H vs E B as R hr g sl hp => ?_
  obtain ⟨A0, ns, a, rfl, hA, ha, rfl⟩ := hp
  have hr1 : Room 1 _ := hu3 hr
  have nd := c_law_cloth_by.nd
  generalize hc0 : Cz.cellZ ns a = c0
  generalize hse : Cz.cellZ ns (a + 1) = se
  generalize hmo : Cz.cellZ ns (a + 2) = mo
  -- the sizes, the draws
  refine t_set 2 g sl nd (ed_fn (f_size M) hr1 (eg_d (ed_fn (f_cell M) hr1 (eg_v (ev_v 0 sl rfl) (eg_d (ed_v 1 sl rfl) eg_nil)) rfl fun B1 x => ⟨_, _, _, rfl, x.seq hA, ha, rfl⟩) eg_nil) rfl fun _ _ => ⟨_, rfl, rfl⟩) fun σ B1 H1 g1 sl => ?_
  refine t_set 3 g1 sl nd (ed_fn (f_size M) hr1 (eg_d (ed_div (by decide) (ed_fn (f_cell M) hr1 (eg_v (ev_v 0 sl rfl) (eg_d (ed_v 1 sl rfl) eg_nil)) rfl fun B1 x => ⟨_, _, _, rfl, x.seq (g1.eb.seq hA), ha, rfl⟩) ed_int) eg_nil) rfl fun _ _ => ⟨_, rfl, rfl⟩) fun σ B2 H2 g2 sl => ?_
  refine t_set 4 g2 sl nd (ed_fn (f_cell M) hr1 (eg_v (ev_v 0 sl rfl) (eg_d (ed_add (ed_v 1 sl rfl) ed_int) eg_nil)) rfl fun B1 x => ⟨_, _, _, rfl, x.seq (g2.eb.seq hA), by omega, rfl⟩) fun σ B3 H3 g3 sl => ?_
  refine t_set 5 g3 sl nd (ed_fn (f_cell M) hr1 (eg_v (ev_v 0 sl rfl) (eg_d (ed_add (ed_v 1 sl rfl) ed_int) eg_nil)) rfl fun B1 x => ⟨_, _, _, rfl, x.seq (g3.eb.seq hA), by omega, rfl⟩) fun σ B4 H4 g4 sl => ?_
  rw [hc0, hse, hmo] at sl
  obtain ⟨p, hp⟩ : ∃ p, p = Cz.prmZ ns a := ⟨_, rfl⟩
  have pse : p.seed = se := by
    rw [hp]
    unfold Cz.prmZ
    dsimp only
    split <;> exact hse
  have pmo : p.more = mo := by
    rw [hp]
    unfold Cz.prmZ
    dsimp only
    split <;> exact hmo
  have ple := Cz.prmZ_le ns a
  rw [← hp] at ple
  refine t_join (k := Cz.stairy mo) [.val (.ref A0), .dat (.int a), .dat (.int p.wefts), .dat (.int p.warps), .dat (.int p.seed), .dat (.int p.more), .no, .no, .no, .no, .no, .no, .no, .no, .no, .no, .no] g4 sl
    (EWt.et (ew_or (ec_eqI (ed_mod (by decide) (ed_div (by decide) (ed_v 5 sl rfl) ed_int) ed_int) ed_int).et fun _ => ew_or1 (ec_eqI (ed_mod (by decide) (ed_div (by decide) (ed_v 5 sl rfl) ed_int) ed_int) ed_int).et)) (fun c B5 H5 g5 sl => ?_) (fun c B5 H5 g5 sl => ?_) fun σ B5 H5 g5 g45 sl => ?_
  · have e1 : p = ⟨4 + Cz.drawnZ se 700 % 6, 4 + Cz.drawnZ se 700 % 6, se, mo⟩ := by
      rw [hp]
      unfold Cz.prmZ
      dsimp only
      rw [hmo, hse, if_pos c]
    refine t_set 2 g5 sl nd (ed_add ed_int (ed_mod (by decide) (ed_fn (f_drawn M) hr1 (eg_d (ed_v 4 sl rfl) (eg_d ed_int eg_nil)) rfl fun _ _ => ⟨_, _, rfl, rfl⟩) ed_int)) fun σ B6 H6 g6 sl => ?_
    refine t_set 3 g6 sl nd (ed_v 2 sl rfl) fun σ B7 H7 g7 sl => ?_
    rw [e1]
    exact t_end rfl g7 sl ⟨.inr rfl, .inr rfl, .inr rfl, .inr rfl, .inr rfl, .inr rfl, .inl rfl, .inl rfl, .inl rfl, .inl rfl, .inl rfl, .inl rfl, .inl rfl, .inl rfl, .inl rfl, .inl rfl, .inl rfl, trivial⟩
  · have e1 : p = ⟨Cz.sizeZ c0, Cz.sizeZ (c0 / 320), se, mo⟩ := by
      rw [hp]
      unfold Cz.prmZ
      dsimp only
      rw [hmo, hse, hc0, if_neg (by rw [c]; decide)]
    rw [e1]
    exact t_end rfl g5 sl ⟨.inr rfl, .inr rfl, .inr rfl, .inr rfl, .inr rfl, .inr rfl, .inl rfl, .inl rfl, .inl rfl, .inl rfl, .inl rfl, .inl rfl, .inl rfl, .inl rfl, .inl rfl, .inl rfl, .inl rfl, trivial⟩
  -- the floors, the kinds
  refine t_set 6 g5 sl nd (ed_ix (d := .int (Cz.floorsZ p.more)) (ed_list (ea_cons ed_int (ea_cons ed_int (ea_cons ed_int (ea_cons ed_int ea_nil)))) (by decide)) (ed_mod (by decide) (ed_v 5 sl rfl) ed_int) (atI_int (l := [1, 2, 3, 5]) (by omega) (by show p.more % 4 < 4; omega))) fun σ B6 H6 g6 sl => ?_
  refine t_setLc 7 g6 sl (lc_R1 (fun _ => true) (fun k => .int (Cz.downZ p k)) (bk_fn (j := 8) c_law_cloth_by (by decide +kernel)) (ed_v 2 sl rfl) (by omega) M.bi (fun _ _ _ _ _ _ _ _ _ _ => ets_nil)
    fun s H A cl fp k B1 h1 h2 _ x => ed_fn (f_kind M) hr (eg_d (ed_v 4 (sl.blkI x 8) rfl) (eg_d (ed_v 8 (sl.blkI x 8) rfl)
      (eg_d (ed_ix (d := .int (Cz.fewD p.more)) (ed_list (ea_cons ed_int (ea_cons ed_int (ea_cons ed_int (ea_cons ed_int (ea_cons ed_int ea_nil))))) (by decide)) (ed_mod (by decide) (ed_div (by decide) (ed_v 5 (sl.blkI x 8) rfl) ed_int) ed_int) (atI_int (l := [12, 1, 2, 3, 12]) (by omega) (by show p.more / 4 % 5 < 5; omega))) eg_nil))) rfl fun _ _ => ⟨_, _, _, rfl, Cz.fewD_pos _, rfl⟩) fun σ B7 H7 g7 sl => ?_
  rw [madeR_all] at sl
  refine t_setLc 9 g7 sl (lc_R1 (fun _ => true) (fun j => .int (Cz.rightZ p j)) (bk_fn (j := 10) c_law_cloth_by (by decide +kernel)) (ed_v 3 sl rfl) (by omega) M.bi (fun _ _ _ _ _ _ _ _ _ _ => ets_nil)
    fun s H A cl fp j B1 h1 h2 _ x => ed_fn (f_kind M) hr (eg_d (ed_add (ed_v 4 (sl.blkI x 10) rfl) ed_int) (eg_d (ed_v 10 (sl.blkI x 10) rfl)
      (eg_d (ed_ix (d := .int (Cz.fewR p.more)) (ed_list (ea_cons ed_int (ea_cons ed_int (ea_cons ed_int (ea_cons ed_int ea_nil)))) (by decide)) (ed_mod (by decide) (ed_div (by decide) (ed_v 5 (sl.blkI x 10) rfl) ed_int) ed_int) (atI_int (l := [12, 2, 3, 12]) (by omega) (by show p.more / 20 % 4 < 4; omega))) eg_nil))) rfl fun _ _ => ⟨_, _, _, rfl, Cz.fewR_pos _, rfl⟩) fun σ B8 H8 g8 sl => ?_
  rw [madeR_all] at sl
  obtain ⟨wf, hwf⟩ : ∃ n : Nat, p.wefts = n := ⟨p.wefts.toNat, by omega⟩
  obtain ⟨wp, hwp⟩ : ∃ n : Nat, p.warps = n := ⟨p.warps.toNat, by omega⟩
  rw [hwf, hwp, Int.toNat_natCast, Int.toNat_natCast] at sl
  rw [hwf, hwp] at ple
  generalize hds : (List.range wf).map (fun (i : Nat) => PyData.int (Cz.downZ p (0 + (i : Int)))) = dsl at sl
  generalize hrs : (List.range wp).map (fun (i : Nat) => PyData.int (Cz.rightZ p (0 + (i : Int)))) = rsl at sl
  have atD : ∀ k : Nat, k < wf → atI dsl (k : Int) = some (.int (Cz.downZ p k)) := fun k hk => by
    rw [← hds]
    refine atI_nat ?_
    rw [List.getElem?_map, List.getElem?_range hk]
    show some (PyData.int (Cz.downZ p (0 + (k : Int)))) = _
    rw [Int.zero_add]
  have atR : ∀ k : Nat, k < wp → atI rsl (k : Int) = some (.int (Cz.rightZ p k)) := fun k hk => by
    rw [← hrs]
    refine atI_nat ?_
    rw [List.getElem?_map, List.getElem?_range hk]
    show some (PyData.int (Cz.rightZ p (0 + (k : Int)))) = _
    rw [Int.zero_add]
  refine t_newL 11 g8 sl nd fun A σ H9 hA8 hA0 g9 hB9 hH9 sl => ?_
  have rowsMore : ∀ n : Nat, (Cz.rowsZ p n).map encR ++ [encR (Cz.rowZ p n wp)] = (Cz.rowsZ p (n + 1)).map encR := fun n => by
    unfold Cz.rowsZ
    rw [List.range_succ, List.map_append, List.map_append, hwp, Int.toNat_natCast]
    rfl
  have rowMore : ∀ (k : Int) (n : Nat), (Cz.rowZ p k n).map PyData.int ++ [PyData.int (Cz.signZ p k n)] = (Cz.rowZ p k (n + 1)).map PyData.int := fun k n => by
    unfold Cz.rowZ
    rw [List.range_succ, List.map_append, List.map_append]
    rfl
  refine t_forR1 8 (fun n σ' B' H' => Sl B' σ' [.val (.ref A0), .dat (.int a), .dat (.int wf), .dat (.int wp), .dat (.int p.seed), .dat (.int p.more), .dat (.int (Cz.floorsZ p.more)), .dat (.list dsl), .no, .dat (.list rsl), .no, .val (.ref A), .no, .no, .no, .no, .no]
      ∧ B' A = none ∧ ∃ xs, H' A = some (.lst xs) ∧ Dts B' xs ((Cz.rowsZ p n).map encR)) g9 (ed_v 2 sl rfl) (by omega) M.bi nd (passes_of rfl) rfl
    (fun B1 H1 g1 g2 => ⟨(sl.mono g2.eb).weak ⟨.inr rfl, .inr rfl, .inr rfl, .inr rfl, .inr rfl, .inr rfl, .inr rfl, .inr rfl, .inl rfl, .inr rfl, .inl rfl, .inr rfl, .inl rfl, .inl rfl, .inl rfl, .inl rfl, .inl rfl, trivial⟩, g2.out hB9 (by rw [hH9]; exact fun w => nomatch w), [], g2.eh.lst hH9, .nil⟩)
    (fun n σ' B' H' hn _ gb _ ⟨sl, hBA, xs, hHA, rx⟩ => ?_) (fun σ' B' H' gz _ ⟨sl, hBA, xs, hHA, rx⟩ => ?_)
  · -- one row
    have hn' : n < wf := by omega
    have sl := sl.set (o := some (.int n)) (s := .dat (.int n)) ⟨_, rfl, .int _⟩ 8
    refine t_newL (B0 := B') (H0 := H') 12 (Go.rfl gb.wd) sl nd fun A2 σ H10 hA2 _ g10 hB10 hH10 sl => ?_
    refine t_forR1 10 (fun j σ' B' H' => Sl B' σ' [.val (.ref A0), .dat (.int a), .dat (.int wf), .dat (.int wp), .dat (.int p.seed), .dat (.int p.more), .dat (.int (Cz.floorsZ p.more)), .dat (.list dsl), .dat (.int n), .dat (.list rsl), .no, .val (.ref A), .val (.ref A2), .no, .no, .no, .no]
        ∧ B' A2 = none ∧ ∃ ys, H' A2 = some (.lst ys) ∧ Dts B' ys ((Cz.rowZ p n j).map PyData.int)) g10 (ed_v 3 sl rfl) (by omega) M.bi nd (passes_of rfl) rfl
      (fun B1 H1 g1 g2 => ⟨(sl.mono g2.eb).weak ⟨.inr rfl, .inr rfl, .inr rfl, .inr rfl, .inr rfl, .inr rfl, .inr rfl, .inr rfl, .inr rfl, .inr rfl, .inl rfl, .inr rfl, .inr rfl, .inl rfl, .inl rfl, .inl rfl, .inl rfl, trivial⟩, g2.out hB10 (by rw [hH10]; exact fun w => nomatch w), [], g2.eh.lst hH10, .nil⟩)
      (fun j σ' B2 H2 hj _ g2 _ ⟨sl, hB2, ys, hH2, ry⟩ => ?_) (fun σ' B2 H2 g2 _ ⟨sl, hB2, ys, hH2, ry⟩ => ?_)
    · -- one sign
      have hj' : j < wp := by omega
      have sl := sl.set (o := some (.int j)) (s := .dat (.int j)) ⟨_, rfl, .int _⟩ 10
      refine t_set 13 (Go.rfl g2.wd) sl nd (ed_mod (Cz.floors_pos _) (ed_fn (f_drawn M) hr1 (eg_d (ed_div (by decide) (ed_v 5 sl rfl) ed_int) (eg_d (ed_ix (ed_v 7 sl rfl) (ed_v 8 sl rfl) (atD n hn')) eg_nil)) rfl fun _ _ => ⟨_, _, rfl, rfl⟩) (ed_v 6 sl rfl)) fun σ B3 H3 g3 sl => ?_
      refine t_set 14 g3 sl nd (ed_mod (Cz.floors_pos _) (ed_fn (f_drawn M) hr1 (eg_d (ed_div (by decide) (ed_v 5 sl rfl) ed_int) (eg_d (ed_add ed_int (ed_ix (ed_v 9 sl rfl) (ed_v 10 sl rfl) (atR j hj'))) eg_nil)) rfl fun _ _ => ⟨_, _, rfl, rfl⟩) (ed_v 6 sl rfl)) fun σ B4 H4 g4 sl => ?_
      refine t_set 15 g4 sl nd (ed_intB (ec_lt (ed_v 14 sl rfl) (ed_v 13 sl rfl)).ed M.bi) fun σ B5 H5 g5 sl => ?_
      refine t_join [.val (.ref A0), .dat (.int a), .dat (.int wf), .dat (.int wp), .dat (.int p.seed), .dat (.int p.more), .dat (.int (Cz.floorsZ p.more)), .dat (.list dsl), .dat (.int n), .dat (.list rsl), .dat (.int j), .val (.ref A), .val (.ref A2), .no, .no, .dat (.int (Cz.sign0 p n j)), .no] g5 sl
        (ec_eqI (ed_v 13 sl rfl) (ed_v 14 sl rfl)).et (fun c B6 H6 g6 sl => ?_) (fun c B6 H6 g6 sl => ?_) fun σ B6 H6 g6 g56 sl => ?_
      · have es : Cz.sign0 p n j = Cz.drawnZ p.seed (20 * Cz.downZ p n + Cz.rightZ p j) % 2 := if_pos (of_decide_eq_true c)
        rw [es]
        refine t_set 15 g6 sl nd (ed_mod (by decide) (ed_fn (f_drawn M) hr1 (eg_d (ed_v 4 sl rfl) (eg_d (ed_add (ed_mulL (by decide) ed_int (ed_ix (ed_v 7 sl rfl) (ed_v 8 sl rfl) (atD n hn'))) (ed_ix (ed_v 9 sl rfl) (ed_v 10 sl rfl) (atR j hj'))) eg_nil)) rfl fun _ _ => ⟨_, _, rfl, rfl⟩) ed_int) fun σ B7 H7 g7 sl => ?_
        exact t_end rfl g7 sl ⟨.inr rfl, .inr rfl, .inr rfl, .inr rfl, .inr rfl, .inr rfl, .inr rfl, .inr rfl, .inr rfl, .inr rfl, .inr rfl, .inr rfl, .inr rfl, .inl rfl, .inl rfl, .inr rfl, .inl rfl, trivial⟩
      · have es : Cz.sign0 p n j = b2n (decide (Cz.otherZ p j < Cz.oneZ p n)) := if_neg (of_decide_eq_false c)
        rw [es]
        exact t_end rfl g6 sl ⟨.inr rfl, .inr rfl, .inr rfl, .inr rfl, .inr rfl, .inr rfl, .inr rfl, .inr rfl, .inr rfl, .inr rfl, .inr rfl, .inr rfl, .inr rfl, .inl rfl, .inl rfl, .inr rfl, .inl rfl, trivial⟩
      refine t_join (k := Cz.stairs p) [.val (.ref A0), .dat (.int a), .dat (.int wf), .dat (.int wp), .dat (.int p.seed), .dat (.int p.more), .dat (.int (Cz.floorsZ p.more)), .dat (.list dsl), .dat (.int n), .dat (.list rsl), .dat (.int j), .val (.ref A), .val (.ref A2), .no, .no, .dat (.int (Cz.signZ p n j)), .no] g6 sl
        (EWt.et (ew_and (ec_gt (ed_mod (by decide) (ed_div (by decide) (ed_v 5 sl rfl) ed_int) ed_int) ed_int).et fun _ => ew_and1 (ec_lt (ed_mod (by decide) (ed_div (by decide) (ed_v 5 sl rfl) ed_int) ed_int) ed_int).et)) (fun c B7 H7 g7 sl => ?_) (fun c B7 H7 g7 sl => ?_) fun σ B7 H7 g7 g67 sl => ?_
      · have es : Cz.signZ p n j = (Cz.stairZ p n j + p.more / 640) % 2 := if_pos c
        rw [es]
        have c2 := Bool.and_eq_true_iff.mp c
        have c3 := of_decide_eq_true c2.1
        have c4 := of_decide_eq_true c2.2
        refine t_set 16 g7 sl nd (ed_ix (d := .int (Cz.stairZ p n j)) (ed_list (ea_cons (ed_add (ed_v 8 sl rfl) (ed_v 10 sl rfl)) (ea_cons (ed_intB (ed_and (ec_ge (ed_v 10 sl rfl) (ed_sub (ed_v 8 sl rfl) ed_int)).ed fun _ => ed_one (ec_neI (ed_v 10 sl rfl) (ed_v 8 sl rfl)).ed) M.bi) (ea_cons (ed_intB (ec_ge (ed_v 10 sl rfl) (ed_v 8 sl rfl)).ed M.bi) ea_nil))) (few rfl))
          (ed_sub (ed_mod (by decide) (ed_div (by decide) (ed_v 5 sl rfl) ed_int) ed_int) ed_int) (atI_int (l := [n + j, Cz.bz (decide ((n : Int) - 1 ≤ j) && !decide ((j : Int) = n)), Cz.bz (decide ((n : Int) ≤ j))]) (by omega) (by show p.more / 80 % 8 - 1 < 3; omega))) fun σ B8 H8 g8 sl => ?_
        refine t_set 15 g8 sl nd (ed_mod (by decide) (ed_add (ed_v 16 sl rfl) (ed_div (by decide) (ed_v 5 sl rfl) ed_int)) ed_int) fun σ B9 H9 g9 sl => ?_
        exact t_end rfl g9 sl ⟨.inr rfl, .inr rfl, .inr rfl, .inr rfl, .inr rfl, .inr rfl, .inr rfl, .inr rfl, .inr rfl, .inr rfl, .inr rfl, .inr rfl, .inr rfl, .inl rfl, .inl rfl, .inr rfl, .inl rfl, trivial⟩
      · have es : Cz.signZ p n j = Cz.sign0 p n j := if_neg (by rw [c]; decide)
        rw [es]
        exact t_end rfl g7 sl ⟨.inr rfl, .inr rfl, .inr rfl, .inr rfl, .inr rfl, .inr rfl, .inr rfl, .inr rfl, .inr rfl, .inr rfl, .inr rfl, .inr rfl, .inr rfl, .inl rfl, .inl rfl, .inr rfl, .inl rfl, trivial⟩
      refine t_app 12 (g2.trans g7) sl rfl hA2 (g7.out hB2 (by rw [hH2]; exact fun w => nomatch w)) (g7.eh.lst hH2) (ry.mono g7.eb) ?_ (ed_v 15 sl rfl) fun B8 H8 zs g8 sl hB8 hH8 rz => ?_
      · unfold Cz.rowZ
        rw [List.length_map, List.length_map, List.length_range]
        omega
      · rw [rowMore] at rz
        exact s_nil ⟨B8, g8, sl.weak ⟨.inr rfl, .inr rfl, .inr rfl, .inr rfl, .inr rfl, .inr rfl, .inr rfl, .inr rfl, .inr rfl, .inr rfl, .inl rfl, .inr rfl, .inr rfl, .inl rfl, .inl rfl, .inl rfl, .inl rfl, trivial⟩, hB8, zs, hH8, rz⟩
    · -- made.append(row)
      rw [Int.toNat_natCast] at ry
      have sl3 := sl.settle 12 rfl hB2 ry
      have w3 := g2.settle hA2 hB2 hH2
      have hA2' : (upd B2 A2 (.lst ys)) A = none := w3.out hBA (by rw [hHA]; exact fun w => nomatch w)
      refine t_app 11 (gb.trans w3) sl3 rfl hA0 hA2' (w3.eh.lst hHA) (rx.mono w3.eb) ?_ (ed_v 12 sl3 rfl) fun B8 H8 zs g8 sl hB8 hH8 rz => ?_
      · unfold Cz.rowsZ
        rw [List.length_map, List.length_map, List.length_range]
        omega
      · have rz : Dts B8 zs ((Cz.rowsZ p (n + 1)).map encR) := by
          rw [← rowsMore]
          exact rz
        exact s_nil ⟨B8, g8, sl.weak ⟨.inr rfl, .inr rfl, .inr rfl, .inr rfl, .inr rfl, .inr rfl, .inr rfl, .inr rfl, .inl rfl, .inr rfl, .inl rfl, .inr rfl, .inl rfl, .inl rfl, .inl rfl, .inl rfl, .inl rfl, trivial⟩, hB8, zs, hH8, rz⟩
  · -- return made
    rw [Int.toNat_natCast] at rx
    have e : (Cz.rowsZ p wf).map encR = (Cz.clothZ ns a).map encR := by
      unfold Cz.clothZ
      rw [← hp, hwf, Int.toNat_natCast]
    rw [e] at rx
    exact t_ret (gz.settle hA0 hBA hHA) (ed_v 11 (sl.settle 11 rfl hBA rx) rfl) fun v B' H' g r => ⟨B', g, r⟩
end clothby

section program
variable {P : Program} {w : World} {K : PySem.W.Frag} {mg : Str → Option Value} {base : Heap} {T : List Addr}
/-! ### the program: what is a cloth -/
def sgD (f : PyData → PyData) : Sg := ⟨1, fun _ as P => ∃ d, as = [.dat d] ∧ P = isd (f d), nox⟩
theorem f_whole (M : Md K mg) : FnS P w K mg base T "is_whole" 1 (sgD fun d => .bool (decide (tyN d = "int"))) := by
  refine fn_D M.d_is_whole c_is_whole rfl fun f cdv A outer s H vs E B as R hr g sl hp => ?_
  obtain ⟨d, rfl, rfl⟩ := hp
  exact t_ret g (ec_isTy (ety_of (ed_v 0 sl rfl) M.bi) (ety (by rfl) M.bi.int PyProof.Rows.boot_int)).ed fun v B' H' g r => ⟨B', g, r⟩
def filledD : PyData → Bool
  | .list ds => decide (1 ≤ ds.length) && decide (ds.length ≤ 12)
  | _ => false
theorem filledD_no {d : PyData} (h : ∀ ds, d ≠ .list ds) : filledD d = false ∧ decide (tyN d = "list") = false := by
  cases d <;> first | exact ⟨rfl, by simp [tyN]⟩ | exact (h _ (Eq.refl _)).elim
theorem f_filled (M : Md K mg) : FnS P w K mg base T "is_filled_list" 1 (sgD fun d => .bool (filledD d)) := by
  refine fn_D M.d_is_filled_list c_is_filled_list rfl fun f cdv A outer s H vs E B as R hr g sl hp => ?_
  obtain ⟨d, rfl, rfl⟩ := hp
  by_cases c : ∃ ds, d = .list ds
  · obtain ⟨ds, rfl⟩ := c
    refine t_ret g (ed_is (ed_and (ec_isTy (ety_of (ed_v 0 sl rfl) M.bi) (ety (by rfl) M.bi.list PyProof.Rows.boot_list)).ed fun _ => ed_one (ech_leLe ed_int (ed_len (ed_v 0 sl rfl) M.bi) (ed_globI (by rfl) M.k_MOST)).ed) ?_) fun v B' H' g r => ⟨B', g, r⟩
    refine congrArg PyData.bool ?_
    rw [Bool.eq_iff_iff]
    simp only [tyN, filledD, decide_true, Bool.true_and, Bool.and_eq_true, decide_eq_true_eq]
    omega
  · obtain ⟨h1, h2⟩ := filledD_no fun ds e => c ⟨ds, e⟩
    refine t_ret g (ed_is (ed_and (m := true) (ec_isTy (ety_of (ed_v 0 sl rfl) M.bi) (ety (by rfl) M.bi.list PyProof.Rows.boot_list)).ed fun z => ?_) ?_) fun v B' H' g r => ⟨B', g, r⟩
    · rw [h2] at z
      cases z
    · show _ = PyData.bool (filledD d)
      rw [h1, h2]
      rfl
def rowD : PyData → Bool
  | .list ds => filledD (.list ds) && ds.all (betw 0 1)
  | _ => false
theorem f_row (M : Mt K mg base T) : FnS P w K mg base T "is_row" 2 (sgD fun d => .bool (rowD d)) := by
  refine fn_DC M.t_is_row c_is_row rfl fun f cd Pt A outer s H vs E B as R hP TB hr g sl hp => ?_
  obtain ⟨d, rfl, rfl⟩ := hp
  by_cases c : ∃ ds, d = .list ds
  · obtain ⟨ds, rfl⟩ := c
    obtain ⟨fw, fdw, Fw, hmw, bdw⟩ := M.m.d_is_whole.ex
    exact t_ret g (ed_and (ed_fn (f_filled M.m) hr (eg_d (ed_v 0 sl rfl) eg_nil) rfl fun _ _ => ⟨_, rfl, rfl⟩) fun _ => ed_one (ed_all hr M.m.bi hP TB rfl (genS_by rfl rfl (by decide +kernel) rfl rfl (by decide +kernel)) (ed_v 0 sl rfl) (elt_isBetween (n := "int") (tn := "int") hr Fw hmw c_is_whole bdw rfl M.m.bi rfl rfl rfl rfl rfl rfl rfl rfl rfl))) fun v B' H' g r => ⟨B', g, r⟩
  · obtain ⟨h1, h2⟩ := filledD_no fun ds e => c ⟨ds, e⟩
    refine t_ret g (ed_is (ed_and (k := filledD d) (m := true) (ed_fn (f_filled M.m) hr (eg_d (ed_v 0 sl rfl) eg_nil) rfl fun _ _ => ⟨_, rfl, rfl⟩) fun z => ?_) ?_) fun v B' H' g r => ⟨B', g, r⟩
    · rw [h1] at z
      cases z
    · have e : rowD d = false := by
        cases d <;> first | rfl | exact absurd ⟨_, rfl⟩ c
      show _ = PyData.bool (rowD d)
      rw [h1, e]
      rfl
end program

section cloths
variable {P : Program} {w : World} {K : PySem.W.Frag} {mg : Str → Option Value} {base : Heap} {T : List Addr}
/-! ### a cloth is one -/
def rowsP (g : List (List Int)) : List (List PyData) := g.map fun r => r.map PyData.int
theorem encG_P (g : List (List Int)) : encG g = encL (rowsP g) := encG_encL g
theorem betw01 {r : List Int} (h : ∀ x ∈ r, x = 0 ∨ x = 1) : (r.map PyData.int).all (betw 0 1) = true := by
  rw [List.all_eq_true]
  intro d hd
  obtain ⟨x, hx, rfl⟩ := List.mem_map.mp hd
  rcases h x hx with e | e <;> (rw [e]; rfl)
theorem row_ok {g : List (List Int)} {m : Nat} (c : Cz.IsCloth g m) {r : List Int} (h : r ∈ g) : rowD (encR r) = true := by
  have e := c.len r h
  have w := c.warps
  show (filledD (encR r) && (r.map PyData.int).all (betw 0 1)) = true
  rw [betw01 (c.sign r h), Bool.and_true]
  show (decide (1 ≤ (r.map PyData.int).length) && decide ((r.map PyData.int).length ≤ 12)) = true
  rw [List.length_map, Bool.and_eq_true, decide_eq_true_eq, decide_eq_true_eq]
  omega
theorem cloth_ok {g : List (List Int)} {m : Nat} (c : Cz.IsCloth g m) : filledD (encG g) = true := by
  have w := c.rows
  show (decide (1 ≤ (g.map encR).length) && decide ((g.map encR).length ≤ 12)) = true
  rw [List.length_map, Bool.and_eq_true, decide_eq_true_eq, decide_eq_true_eq]
  omega
theorem mem_encG {g : List (List Int)} {d : PyData} (h : d ∈ g.map encR) : ∃ r ∈ g, d = encR r := by
  obtain ⟨r, hr, e⟩ := List.mem_map.mp h
  exact ⟨r, hr, e.symm⟩
theorem ed_not' {X : Cx} {σ : L2.St} {B : Hp} {a : Expr} {k : Bool} {pos : Pos} (h : ET T X a σ B k) (e : k = true) : ET T X (.UnaryOp .Not a pos) σ B false := by
  have := et_not (pos := pos) h
  rw [e] at this
  exact this
theorem et_to {X : Cx} {σ : L2.St} {B : Hp} {a : Expr} {k j : Bool} (h : ET T X a σ B k) (e : k = j) : ET T X a σ B j := e ▸ h
theorem first_ok {g : List (List Int)} {m : Nat} (c : Cz.IsCloth g m) : ∃ r ∈ g, atI (g.map encR) 0 = some (encR r) := by
  have w := c.rows
  cases g with
  | nil => exact absurd w.1 (by decide)
  | cons r rs => exact ⟨r, List.mem_cons_self, atI_of_get (by decide) rfl⟩
def sgG (f : List (List Int) → List (List Int)) : Sg := ⟨1, fun _ as P => ∃ g m, as = [.dat (encG g)] ∧ Cz.IsCloth g m ∧ P = fun B B' v => NewG B B' v (rowsP (f g)), nox⟩
def unR : PyData → List PyData
  | .list ds => ds
  | _ => []
theorem f_need (M : Mt K mg base T) : FnS P w K mg base T "need_cloth" 3 (sgG fun g => g) := by
  refine fn_D M.m.d_need_cloth c_need_cloth rfl fun f cdv A outer s H vs E B as R hr g sl hp => ?_
  obtain ⟨gr, m, rfl, hc, rfl⟩ := hp
  have nd := c_need_cloth.nd
  refine t_skip g sl (ed_not' (et_val (ed_fn (f_filled M.m) (hr.mono (by decide)) (eg_d (ed_v 0 sl rfl) eg_nil) rfl fun _ _ => ⟨_, rfl, rfl⟩)) (cloth_ok hc)) fun B1 H1 g1 sl => ?_
  refine t_forL 1 (fun _ σ' B' _ => Sl B' σ' [.dat (encG gr), .no]) g1 (ed_v 0 sl rfl) nd (passes_of rfl) rfl (fun B2 H2 g2 g3 => sl.mono g3.eb) (fun n d v σ' B' H' hd _ gb xb rv sl => ?_) (fun σ' B' H' g2 _ sl => ?_)
  · obtain ⟨r, hm, rfl⟩ := mem_encG (List.mem_of_getElem? hd)
    have sl := sl.set (o := some v) (s := .dat (encR r)) ⟨v, rfl, rv⟩ 1
    refine t_skip gb sl (ed_not' (et_val (ed_fn (f_row M) hr (eg_d (ed_v 1 sl rfl) eg_nil) rfl fun _ _ => ⟨_, rfl, rfl⟩)) (row_ok hc hm)) fun B1 H1 g1 sl => ?_
    obtain ⟨r0, hm0, h0⟩ := first_ok hc
    refine t_skip g1 sl (et_to (ec_neI (ed_len (ed_v 1 sl rfl) M.m.bi) (ed_len (ed_ix (ed_v 0 sl rfl) ed_int h0) M.m.bi)).et ?_) fun B2 H2 g2 sl => ?_
    · rw [List.length_map, List.length_map, hc.len r hm, hc.len r0 hm0, decide_eq_true rfl]
      rfl
    · exact s_nil ⟨B2, g2, sl.weak ⟨.inr rfl, .inl rfl, trivial⟩⟩
  · refine t_retR g2 (LG.ev (lg_L unR (bk_fn (j := 1) c_need_cloth (by decide +kernel)) (ed_v 0 sl rfl) (by rw [List.length_map]; have := hc.rows; omega) fun s H A cl fp d v B1 hm x rv => ?_)) fun v B3 H3 g3 g4 r => ⟨B3, g3, ?_⟩
    · obtain ⟨r, _, rfl⟩ := mem_encG hm
      exact en_listL (ed_v 1 (sl.blk x 1 rv) rfl) M.m.bi
    · have e : (gr.map encR).map unR = rowsP gr := by
        rw [List.map_map]
        rfl
      rw [e] at r
      exact r.back g2.eb
end cloths

section needs
variable {P : Program} {w : World} {K : PySem.W.Frag} {mg : Str → Option Value} {base : Heap} {T : List Addr}
/-! ### need_cloth, is_whole in an expression -/
theorem ed_need {X : Cx} {σ : L2.St} {B : Hp} {a : Expr} {p pos : Pos} {g : List (List Int)} {m : Nat} {T : List Addr} (M : Mt X.K X.mg X.base T) (hr : Room 3 X.A) (h : EG T X [a] σ B [.dat (encG g)]) (c : Cz.IsCloth g m)
    (hg : Gl X "need_cloth" := by rfl) (he : starEach [a] X.env = (false, eval a X.env) :: starEach [] X.env := by rfl) (hpl : (backTo pos (starEach [] X.env)).any (·.1) = false := by rfl) : ED T X (.Call (.Name "need_cloth" p) [a] [] pos) σ B (encG g) :=
  (ev_fnS (f_need (P := X.prog) (w := X.w) M) hr h rfl (fun _ _ => ⟨_, _, rfl, c, rfl⟩) (fun _ _ _ x n => n.back x) hg (by decide) he hpl).imp fun B' v _ n => by
    rw [encG_P]
    exact n.dt
def intOf : PyData → Int
  | .int i => i
  | _ => 0
theorem ed_whole {X : Cx} {σ : L2.St} {B : Hp} {a : Expr} {p pos : Pos} {d : PyData} {T : List Addr} (M : Md X.K X.mg) (hr : Room 1 X.A) (h : EG T X [a] σ B [.dat d])
    (hg : Gl X "is_whole" := by rfl) (he : starEach [a] X.env = (false, eval a X.env) :: starEach [] X.env := by rfl) (hpl : (backTo pos (starEach [] X.env)).any (·.1) = false := by rfl) : ED T X (.Call (.Name "is_whole" p) [a] [] pos) σ B (.bool (decide (tyN d = "int"))) :=
  ed_fn (f_whole (P := X.prog) (w := X.w) M) hr h rfl (fun _ _ => ⟨_, rfl, rfl⟩) hg (by decide) he hpl
end needs

section turning
variable {P : Program} {w : World} {K : PySem.W.Frag} {mg : Str → Option Value} {base : Heap} {T : List Addr}
/-! ### turned, moved -/
theorem f_turned (M : Mt K mg base T) : FnS P w K mg base T "turned" 4 (sgG Cz.turnedZ) := by
  refine fn_D M.m.d_turned c_turned rfl fun f cdv A outer s H vs E B as R hr g sl hp => ?_
  obtain ⟨gr, m, rfl, hc, rfl⟩ := hp
  refine t_set 1 g sl c_turned.nd (ed_need M hr (eg_d (ed_v 0 sl rfl) eg_nil) hc) fun σ B1 H1 g1 sl => ?_
  refine t_retR g1 (LG.ev (lg_L (fun d => made (fun _ => true) (fun s => .int (1 - intOf s)) (unR d).reverse) (bk_fn (j := 3) c_turned (by decide +kernel)) (ed_v 1 sl rfl) (by rw [List.length_map]; have := hc.rows; omega) fun s H A cl fp d v B2 hm x rv => ?_)) fun v B3 H3 g3 g4 r => ⟨B3, g3, ?_⟩
  · obtain ⟨r, hr1, rfl⟩ := mem_encG hm
    have sl := sl.blk x 3 rv
    refine LC.ev (lc_rev (fun _ => true) (fun s => .int (1 - intOf s)) (bk_in (j := 2) c_turned (by decide +kernel)) (ed_v 3 sl rfl) (by show (r.map PyData.int).length ≤ 10000; rw [List.length_map, hc.len r hr1]; have := hc.warps; omega) M.m.bi (fun _ _ _ _ _ _ _ _ _ _ _ => ets_nil) fun s H A cl fp d v B2 hm _ x rv => ?_)
    obtain ⟨i, _, rfl⟩ := List.mem_map.mp hm
    exact ed_sub ed_int (ed_v 2 (sl.blk x 2 rv) rfl)
  · have e : (gr.map encR).map (fun d => made (fun _ => true) (fun s => .int (1 - intOf s)) (unR d).reverse) = rowsP (Cz.turnedZ gr) := by
      unfold rowsP Cz.turnedZ
      rw [List.map_map, List.map_map]
      refine List.map_congr_left fun r _ => ?_
      show made (fun _ => true) (fun s => .int (1 - intOf s)) (r.map PyData.int).reverse = _
      rw [made_all, ← List.map_reverse, List.map_map]
      show _ = (r.reverse.map fun x => 1 - x).map PyData.int
      rw [List.map_map]
      rfl
    rw [e] at r
    exact r.back g1.eb
theorem cut_from {ds : List PyData} {a : Nat} (h : a ≤ ds.length) : Cw.cutD ds (some (a : Int)) none = ds.drop a := by
  unfold Cw.cutD
  rw [HT.sIx_nat, HT.sIx_none, Nat.min_eq_left h]
  exact List.take_of_length_le (by rw [List.length_drop]; omega)
theorem cut_to {ds : List PyData} {a : Nat} (h : a ≤ ds.length) : Cw.cutD ds none (some (a : Int)) = ds.take a := by
  unfold Cw.cutD
  rw [HT.sIx_nat, HT.sIx_none, Nat.min_eq_left h, List.drop_zero]
  rfl
/-- behind a place and ahead of it -/
def cut2 (l : List PyData) (i : Int) : List PyData := Cw.cutD l (some i) none ++ Cw.cutD l none (some i)
theorem cut_len (l : List PyData) (a b : Option Int) : (Cw.cutD l a b).length ≤ l.length := by
  unfold Cw.cutD
  rw [List.length_take, List.length_drop]
  omega
def sgMoved (K : PySem.W.Frag) (mg : Str → Option Value) : Sg := ⟨3, fun _ as P => ∃ g m i j, as = [.dat (encG g), .dat (.int i), .dat (.int j)] ∧ Cz.IsCloth g m ∧ P = fun B B' v => NewG B B' v (rowsP (Cz.movedZ g i j)),
  fun _ as C => ∃ g m d e, as = [.dat (encG g), .dat d, .dat e] ∧ Cz.IsCloth g m ∧ (decide (tyN d = "int") && decide (tyN e = "int")) = false ∧ Xc K mg "BadCount" C⟩
theorem encR_len (r : List Int) : (r.map PyData.int).length = r.length := List.length_map ..
theorem roll_at {l : List PyData} {n i : Int} (hn : n = (l.length : Int)) (h : 1 ≤ l.length) : cut2 l (i % n) = Cz.roll l i := by
  have h1 := Int.emod_nonneg i (show (l.length : Int) ≠ 0 by omega)
  have h2 := Int.emod_lt_of_pos i (show (0 : Int) < l.length by omega)
  rw [hn]
  obtain ⟨k, hk⟩ := Int.eq_ofNat_of_zero_le h1
  unfold cut2 Cz.roll
  rw [hk, cut_from (by omega), cut_to (by omega), Int.toNat_natCast]
theorem roll_map {α β : Type} (f : α → β) (l : List α) (i : Int) : Cz.roll (l.map f) i = (Cz.roll l i).map f := by
  unfold Cz.roll
  rw [List.length_map, List.map_append, List.map_drop, List.map_take]
theorem f_moved (M : Mt K mg base T) : FnS P w K mg base T "moved" 4 (sgMoved K mg) := by
  refine fn_X M.m.d_moved c_moved rfl fun f cdv A outer s H vs Q E B as hr g sl hp => ?_
  have nd := c_moved.nd
  have hr1 := hr.mono (show 1 ≤ 3 by decide)
  rcases hp with ⟨R, ⟨gr, m, i, j, rfl, hc, rfl⟩, q⟩ | ⟨C, ⟨gr, m, d, e, rfl, hc, hno, xc⟩, q⟩
  · have hrows := hc.rows
    have hwarps := hc.warps
    refine t_set 3 g sl nd (ed_need M hr (eg_d (ed_v 0 sl rfl) eg_nil) hc) fun σ B1 H1 g1 sl => ?_
    refine t_skip g1 sl (et_to (EWt.et (ew_or (et_not (et_val (ed_whole M.m hr1 (eg_d (ed_v 1 sl rfl) eg_nil)))) fun _ => ew_or1 (et_not (et_val (ed_whole M.m hr1 (eg_d (ed_v 2 sl rfl) eg_nil)))))) (by simp [tyN])) fun B2 H2 g2 sl => ?_
    obtain ⟨r0, hm0, h0⟩ := first_ok hc
    refine t_set 4 g2 sl nd (ed_mod (by rw [List.length_map]; omega) (ed_v 1 sl rfl) (ed_len (ed_v 3 sl rfl) M.m.bi)) fun σ B3 H3 g3 sl => ?_
    refine t_set 5 g3 sl nd (ed_mod (by rw [List.length_map, hc.len r0 hm0]; omega) (ed_v 2 sl rfl) (ed_len (ed_ix (ed_v 3 sl rfl) ed_int h0) M.m.bi)) fun σ B4 H4 g4 sl => ?_
    refine t_set 6 g4 sl nd (ed_is (f := encG (Cz.roll gr i)) (ed_cat (ed_slice (ed_v 3 sl rfl) (eo_some (ed_v 4 sl rfl)) eo_none) (ed_slice (ed_v 3 sl rfl) eo_none (eo_some (ed_v 4 sl rfl))) ?_) ?_) fun σ B5 H5 g5 sl => ?_
    · have := cut_len ((gr.map encR)) (some (i % ((gr.map encR).length : Int))) none
      have := cut_len ((gr.map encR)) none (some (i % ((gr.map encR).length : Int)))
      have : (gr.map encR).length = gr.length := List.length_map ..
      omega
    · show PyData.list (cut2 _ _) = _
      rw [roll_at rfl (by rw [List.length_map]; omega), roll_map]
      rfl
    refine t_retR g5 (LG.ev (lg_L (fun d => Cz.roll (unR d) j) (bk_fn (j := 7) c_moved (by decide +kernel)) (ed_v 6 sl rfl) (by rw [List.length_map, Cz.roll_len]; omega) fun s H A cl fp d v B2 hm x rv => ?_)) fun v B3 H3 g3 g4 r => q v H3 ⟨B3, g3, ?_⟩
    · obtain ⟨r, hr1, rfl⟩ := mem_encG hm
      have hr2 := Cz.roll_mem hr1
      have sl := sl.blk x 7 rv
      have e := roll_at (l := r.map PyData.int) (n := ((r0.map PyData.int).length : Nat)) (i := j) (by rw [List.length_map, List.length_map, hc.len r hr2, hc.len r0 hm0]) (by rw [List.length_map, hc.len r hr2]; omega)
      show EV _ _ _ _ _ fun B2 u => NewD _ B2 u (Cz.roll (r.map PyData.int) j)
      rw [← e]
      exact en_cat (ed_slice (ed_v 7 sl rfl) (eo_some (ed_v 5 sl rfl)) eo_none) (ed_slice (ed_v 7 sl rfl) eo_none (eo_some (ed_v 5 sl rfl))) (by
        have := cut_len (r.map PyData.int) (some (j % ((r0.map PyData.int).length : Int))) none
        have := cut_len (r.map PyData.int) none (some (j % ((r0.map PyData.int).length : Int)))
        have : (r.map PyData.int).length = r.length := List.length_map ..
        have := hc.len r hr2
        omega)
    · have e : ((Cz.roll gr i).map encR).map (fun d => Cz.roll (unR d) j) = rowsP (Cz.movedZ gr i j) := by
        unfold rowsP Cz.movedZ
        rw [List.map_map, List.map_map]
        refine List.map_congr_left fun r _ => ?_
        show Cz.roll (r.map PyData.int) j = _
        rw [roll_map]
        rfl
      rw [e] at r
      exact r.back g5.eb
  · refine t_set 3 g sl nd (ed_need M hr (eg_d (ed_v 0 sl rfl) eg_nil) hc) fun σ B1 H1 g1 sl => ?_
    refine t_take g1 sl (et_to (EWt.et (ew_or (et_not (et_val (ed_whole M.m hr1 (eg_d (ed_v 1 sl rfl) eg_nil)))) fun _ => ew_or1 (et_not (et_val (ed_whole M.m hr1 (eg_d (ed_v 2 sl rfl) eg_nil)))))) ?_) fun B2 H2 g2 sl => ?_
    · rw [← Bool.not_and, hno]
      rfl
    · exact s_raise xc (L2N.takes_of rfl rfl rfl rfl) rfl (q _ _ g2)
end turning

section threadsm
variable {P : Program} {w : World} {K : PySem.W.Frag} {mg : Str → Option Value} {base : Heap} {T : List Addr}
/-! ### threads -/
def sgMany : Sg := ⟨1, fun _ as P => ∃ g m, as = [.dat (encG g)] ∧ Cz.IsCloth g m ∧ P = isd (.int (g.length + m)), nox⟩
theorem f_many (M : Md K mg) : FnS P w K mg base T "count_threads" 1 sgMany := by
  refine fn_D M.d_count_threads c_count_threads rfl fun f cdv A outer s H vs E B as R hr g sl hp => ?_
  obtain ⟨gr, m, rfl, hc, rfl⟩ := hp
  obtain ⟨r0, hm0, h0⟩ := first_ok hc
  refine t_ret g (ed_is (ed_add (ed_len (ed_v 0 sl rfl) M.bi) (ed_len (ed_ix (ed_v 0 sl rfl) ed_int h0) M.bi)) ?_) fun v B' H' g r => ⟨B', g, r⟩
  rw [List.length_map, List.length_map, hc.len r0 hm0]
def thrD (g : List (List Int)) (m : Nat) : PyData → Bool
  | .int i => decide (0 ≤ i) && decide (i < (g.length : Int) + m)
  | _ => false
theorem thr_int {g : List (List Int)} {m : Nat} {d : PyData} (h : thrD g m d = true) : ∃ i, d = .int i ∧ 0 ≤ i ∧ i < (g.length : Int) + m := by
  cases d with
  | int i =>
    have h := Bool.and_eq_true_iff.mp h
    exact ⟨i, rfl, of_decide_eq_true h.1, of_decide_eq_true h.2⟩
  | none => cases h
  | bool b => cases h
  | str x => cases h
  | list l => cases h
  | tuple l => cases h
  | dict l => cases h
end threadsm

section signs
/-! ### a sign of a cloth -/
theorem atG {g : List (List Int)} {k : Int} (h0 : 0 ≤ k) (h : k < g.length) : atI (g.map encR) k = some (encR (g.getD k.toNat [])) := by
  refine atI_of_get h0 ?_
  have hi : k.toNat < g.length := by omega
  rw [List.getElem?_map, List.getElem?_eq_getElem hi, List.getD_eq_getElem?_getD, List.getElem?_eq_getElem hi]
  rfl
theorem at_sgn {g : List (List Int)} {m : Nat} (c : Cz.IsCloth g m) {k j : Int} (h0 : 0 ≤ k) (h : k < g.length) (j0 : 0 ≤ j) (hj : j < m) : atI ((g.getD k.toNat []).map PyData.int) j = some (.int (Cz.sgn g k j)) := by
  obtain ⟨r1, _, _⟩ := Cz.row_at c (show k.toNat < g.length by omega)
  exact atI_int j0 (by omega)
/-- c[k][j] -/
theorem ed_sgn {X : Cx} {σ : L2.St} {B : Hp} {a b d : Expr} {p1 p2 : Pos} {g : List (List Int)} {m : Nat} {k j : Int} {T : List Addr} (c : Cz.IsCloth g m) (ha : ED T X a σ B (encG g)) (hb : ED T X b σ B (.int k)) (hd : ED T X d σ B (.int j)) (h0 : 0 ≤ k) (h : k < g.length) (j0 : 0 ≤ j) (hj : j < m)
    (hs : PlainIx b := by exact fun _ _ => rfl) (hs2 : PlainIx d := by exact fun _ _ => rfl) : ED T X (.Subscript (.Subscript a b p1) d p2) σ B (.int (Cz.sgn g k j)) :=
  ed_ix (ed_ix ha hb (atG h0 h) hs) hd (at_sgn c h0 h j0 hj) hs2
end signs

section weft
variable {P : Program} {w : World} {K : PySem.W.Frag} {mg : Str → Option Value} {base : Heap} {T : List Addr}
/-! ### what crosses -/
def isThr (g : List (List Int)) (m : Nat) (i : Int) : Prop := 0 ≤ i ∧ i < (g.length : Int) + m
def sgWeft : Sg := ⟨2, fun _ as P => ∃ g m i, as = [.dat (encG g), .dat (.int i)] ∧ Cz.IsCloth g m ∧ P = isd (.bool (Cz.weftB g i)), nox⟩
theorem f_weft (M : Md K mg) : FnS P w K mg base T "is_weft" 1 sgWeft := by
  refine fn_D M.d_is_weft c_is_weft rfl fun f cdv A outer s H vs E B as R hr g sl hp => ?_
  obtain ⟨gr, m, i, rfl, hc, rfl⟩ := hp
  exact t_ret g (ed_is (ec_lt (ed_v 1 sl rfl) (ed_len (ed_v 0 sl rfl) M.bi)).ed (by rw [List.length_map]; rfl)) fun v B' H' g r => ⟨B', g, r⟩
theorem ed_weft {X : Cx} {σ : L2.St} {B : Hp} {a b : Expr} {p pos : Pos} {g : List (List Int)} {m : Nat} {i : Int} {T : List Addr} (M : Md X.K X.mg) (hr : Room 1 X.A) (h : EG T X [a, b] σ B [.dat (encG g), .dat (.int i)]) (c : Cz.IsCloth g m)
    (hg : Gl X "is_weft" := by rfl) (he : starEach [a, b] X.env = (false, eval a X.env) :: starEach [b] X.env := by rfl) (hpl : (backTo pos (starEach [b] X.env)).any (·.1) = false := by rfl) : ED T X (.Call (.Name "is_weft" p) [a, b] [] pos) σ B (.bool (Cz.weftB g i)) :=
  ed_fn (f_weft (P := X.prog) (w := X.w) M) hr h rfl (fun _ _ => ⟨_, _, _, rfl, c, rfl⟩) hg (by decide) he hpl
theorem thrD_of {g : List (List Int)} {m : Nat} {i : Int} (h : isThr g m i) : thrD g m (.int i) = true := by
  show (decide _ && decide _) = true
  rw [decide_eq_true h.1, decide_eq_true h.2]
  rfl
end weft

section cols
variable {P : Program} {w : World} {K : PySem.W.Frag} {mg : Str → Option Value} {base : Heap} {T : List Addr}
/-! ### the signs of each warp -/
def colsZ (g : List (List Int)) (m : Nat) : List (List Int) := (List.range m).map fun a => g.map fun r => r.getD a 0
theorem colsZ_len (g : List (List Int)) (m : Nat) : (colsZ g m).length = m := by
  unfold colsZ
  rw [List.length_map, List.length_range]
def sgCols : Sg := ⟨1, fun _ as P => ∃ g m, as = [.dat (encG g)] ∧ Cz.IsCloth g m ∧ P = isd (encG (colsZ g m)), nox⟩
theorem f_cols (M : Md K mg) : FnS P w K mg base T "columns_of" 1 sgCols := by
  refine fn_D M.d_columns_of c_columns_of rfl fun f cdv A outer s H vs E B as R hr g sl hp => ?_
  obtain ⟨gr, m, rfl, hc, rfl⟩ := hp
  have bi := M.bi
  have h1 := hc.rows
  have h2 := hc.warps
  obtain ⟨r0, hm0, h0⟩ := first_ok hc
  refine t_ret g (ed_is (LC.ed (lc_R1 (n := (m : Int)) (fun _ => true) (fun a => encR (gr.map fun r => r.getD a.toNat 0)) (bk_fnC (j := 2) c_columns_of (by decide +kernel) (by decide +kernel)) (ed_is (ed_len (ed_ix (ed_v 0 sl rfl) ed_int h0) bi) (by rw [List.length_map, hc.len r0 hm0])) (by omega) bi (fun _ _ _ _ _ _ _ _ _ _ => ets_nil) fun s H A cl fp a B1 a1 a2 _ x => ?_)) ?_) fun v B' H' g r => ⟨B', g, r⟩
  · have sl := sl.blkI (i := a) x 2
    refine ed_is (LC.ed (lc_L (ds := gr.map encR) (fun _ => true) (fun d => .int (intOf ((unR d).getD a.toNat .none))) (bk_in (j := 1) c_columns_of (by decide +kernel)) (ed_v 0 sl rfl) (by rw [List.length_map]; omega) (fun _ _ _ _ _ _ _ _ _ _ _ => ets_nil) fun s H A cl fp d v B2 hm _ x rv => ?_)) ?_
    · obtain ⟨r, hr1, rfl⟩ := mem_encG hm
      have sl := sl.blk x 1 rv
      have hl := hc.len r hr1
      have hi : a.toNat < r.length := by omega
      refine ed_is (ed_ix (ds := r.map .int) (ed_v 1 sl rfl) (ed_v 2 sl rfl) (atI_int a1 (by omega))) ?_
      show _ = PyData.int (intOf ((r.map PyData.int).getD a.toNat .none))
      rw [List.getD_eq_getElem?_getD, List.getD_eq_getElem?_getD, List.getElem?_map, List.getElem?_eq_getElem hi]
      rfl
    · rw [made_all, List.map_map]
      unfold encR
      rw [List.map_map]
      refine congrArg PyData.list (List.map_congr_left fun r hr1 => ?_)
      have hl := hc.len r hr1
      have hi : a.toNat < r.length := by omega
      show PyData.int (intOf ((r.map PyData.int).getD a.toNat .none)) = PyData.int (r.getD a.toNat 0)
      rw [List.getD_eq_getElem?_getD, List.getD_eq_getElem?_getD, List.getElem?_map, List.getElem?_eq_getElem hi]
      rfl
  · rw [Int.toNat_natCast, madeR_all]
    unfold encG colsZ
    rw [List.map_map]
    refine congrArg PyData.list (List.map_congr_left fun a _ => ?_)
    show encR (gr.map fun r => r.getD (0 + (a : Int)).toNat 0) = _
    rw [Int.zero_add, Int.toNat_natCast]
    rfl
end cols

section repeats
variable {P : Program} {w : World} {K : PySem.W.Frag} {mg : Str → Option Value} {base : Heap} {T : List Addr}
/-! ### how often, after how many -/
def timesB (n : Int) : PyData → Bool
  | .int i => decide (1 ≤ i) && decide (i * n ≤ 12)
  | _ => false
def sgTimes (K : PySem.W.Frag) (mg : Str → Option Value) : Sg := ⟨2, fun _ as P => ∃ (d : PyData) (n : Int), as = [.dat d, .dat (.int n)] ∧ 1 ≤ n ∧ n ≤ 12 ∧ timesB n d = true ∧ P = isd .none,
  fun _ as C => ∃ (d : PyData) (n : Int), as = [.dat d, .dat (.int n)] ∧ 1 ≤ n ∧ n ≤ 12 ∧ timesB n d = false ∧ Xc K mg "BadCount" C⟩
theorem f_times (M : Md K mg) : FnS P w K mg base T "need_times" 2 (sgTimes K mg) := by
  refine fn_X M.d_need_times c_need_times rfl fun f cdv A outer s H vs Q E B as hr g sl hp => ?_
  have key : ∀ (d : PyData) (n : Int), as = [.dat d, .dat (.int n)] → 1 ≤ n → n ≤ 12 → (timesB n d = true → ∀ B' H', Go T B H B' H' → Q .non H') → (timesB n d = false → ∃ C, Xc K mg "BadCount" C ∧ ∀ B' H', Go T B H B' H' → E (.ref C) none H') →
      wss (cxOf (L2N.CX P w) P w K mg base ["thing", "many"] "need_times" (defScope s_need_times) f cdv A outer s H E) (defBody s_need_times) { nx := fun _ H' => Q .non H', rt := Q } (L2.start ["thing", "many"] vs) H := by
    intro d n has n1 n2 q1 q2
    subst has
    by_cases c : ∃ i, d = .int i
    · obtain ⟨i, rfl⟩ := c
      refine t_when g sl (et_to (j := !decide (1 ≤ i)) (EWt.et (ew_or (k := false) (et_to (et_not (et_val (ed_whole M hr (eg_d (ed_v 0 sl rfl) eg_nil)))) (by simp [tyN])) fun _ => ew_or1 (ec_lt (ed_v 0 sl rfl) ed_int).et)) (by
        by_cases c : 1 ≤ i
        · rw [decide_eq_true c, decide_eq_false (by omega)]; rfl
        · rw [decide_eq_false c, decide_eq_true (by omega)]; rfl)) (fun c B1 H1 g1 sl => ?_) fun c B1 H1 g1 sl => ?_
      · obtain ⟨C, xc, q⟩ := q2 (by
          show (decide _ && decide _) = false
          rw [Bool.not_eq_true'] at c
          rw [c]
          rfl)
        exact s_raise xc (L2N.takes_of rfl rfl rfl rfl) rfl (q _ _ g1)
      · have c1 : decide (1 ≤ i) = true := by rw [Bool.not_eq_false'] at c; exact c
        refine t_when g1 sl (ec_gt (ed_mulR (by omega) (ed_v 0 sl rfl) (ed_v 1 sl rfl)) (ed_globI (by rfl) M.k_MOST)).et (fun c B2 H2 g2 sl => ?_) fun c B2 H2 g2 sl => ?_
        · have c := of_decide_eq_true c
          obtain ⟨C, xc, q⟩ := q2 (by
            show (decide _ && decide _) = false
            rw [c1, decide_eq_false (by omega)]
            rfl)
          exact s_raise xc (L2N.takes_of rfl rfl rfl rfl) rfl (q _ _ g2)
        · have c := of_decide_eq_false c
          exact s_nil (q1 (by
            show (decide _ && decide _) = true
            rw [c1, decide_eq_true (by omega)]
            rfl) _ _ g2)
    · have c1 : decide (tyN d = "int") = false ∧ timesB n d = false := by
        cases d with
        | int i => exact absurd ⟨i, rfl⟩ c
        | none => exact ⟨by simp [tyN], rfl⟩
        | bool b => exact ⟨by simp [tyN], rfl⟩
        | str x => exact ⟨by simp [tyN], rfl⟩
        | list l => exact ⟨by simp [tyN], rfl⟩
        | tuple l => exact ⟨by simp [tyN], rfl⟩
        | dict l => exact ⟨by simp [tyN], rfl⟩
      obtain ⟨C, xc, q⟩ := q2 c1.2
      refine t_take g sl (et_to (EWt.et (ew_or (k := true) (m := true) (et_to (et_not (et_val (ed_whole M hr (eg_d (ed_v 0 sl rfl) eg_nil)))) (by rw [c1.1]; rfl)) fun z => Bool.noConfusion z)) rfl) fun B1 H1 g1 sl => s_raise xc (L2N.takes_of rfl rfl rfl rfl) rfl (q _ _ g1)
  rcases hp with ⟨R, ⟨d, n, rfl, h1, h2, ht, rfl⟩, q⟩ | ⟨C, ⟨d, n, rfl, h1, h2, hno, xc⟩, q⟩
  · exact key d n rfl h1 h2 (fun _ B' H' g' => q _ _ ⟨B', g', .non⟩) fun z => by
      rw [ht] at z
      cases z
  · exact key d n rfl h1 h2 (fun z => by
      rw [hno] at z
      cases z) fun _ => ⟨C, xc, q⟩
end repeats

section repeated
variable {P : Program} {w : World} {K : PySem.W.Frag} {mg : Str → Option Value} {base : Heap} {T : List Addr}
/-! ### repeated -/
def repZ (g : List (List Int)) (i j : Int) : List (List Int) := (List.replicate i.toNat (g.map fun r => (List.replicate j.toNat r).flatten)).flatten
theorem times_int {n : Int} {d : PyData} (h : timesB n d = true) : ∃ i, d = .int i ∧ 1 ≤ i ∧ i * n ≤ 12 := by
  cases d with
  | int i =>
    have h := Bool.and_eq_true_iff.mp h
    exact ⟨i, rfl, of_decide_eq_true h.1, of_decide_eq_true h.2⟩
  | none => cases h
  | bool b => cases h
  | str x => cases h
  | list l => cases h
  | tuple l => cases h
  | dict l => cases h
def sgRep (K : PySem.W.Frag) (mg : Str → Option Value) : Sg := ⟨3, fun _ as P => ∃ (g : List (List Int)) (m : Nat) (i j : Int), as = [.dat (encG g), .dat (.int i), .dat (.int j)] ∧ Cz.IsCloth g m ∧ timesB g.length (.int i) = true ∧ timesB m (.int j) = true ∧ P = fun B B' v => NewG B B' v (rowsP (repZ g i j)),
  fun _ as C => ∃ (g : List (List Int)) (m : Nat) (d e : PyData), as = [.dat (encG g), .dat d, .dat e] ∧ Cz.IsCloth g m ∧ (timesB g.length d && timesB m e) = false ∧ Xc K mg "BadCount" C⟩
theorem f_rep (M : Mt K mg base T) : FnS P w K mg base T "repeated" 4 (sgRep K mg) := by
  refine fn_X M.m.d_repeated c_repeated rfl fun f cdv A outer s H vs Q E B as hr g sl hp => ?_
  have nd := c_repeated.nd
  have bi := M.m.bi
  have hr2 := hr.mono (show 2 ≤ 3 by decide)
  rcases hp with ⟨R, ⟨gr, m, i, j, rfl, hc, hi, hj, rfl⟩, q⟩ | ⟨C, ⟨gr, m, d, e, rfl, hc, hno, xc⟩, q⟩
  · have h1 := hc.rows
    have h2 := hc.warps
    obtain ⟨r0, hm0, h0⟩ := first_ok hc
    obtain ⟨i', ei, i1, i2⟩ := times_int hi
    cases ei
    obtain ⟨j', ej, j1, j2⟩ := times_int hj
    cases ej
    have i3 : i ≤ 12 := Int.le_trans (by have := Int.mul_le_mul_of_nonneg_left (show (1 : Int) ≤ gr.length by omega) (show 0 ≤ i by omega); omega) i2
    have j3 : j ≤ 12 := Int.le_trans (by have := Int.mul_le_mul_of_nonneg_left (show (1 : Int) ≤ m by omega) (show 0 ≤ j by omega); omega) j2
    refine t_set 3 g sl nd (ed_need M hr (eg_d (ed_v 0 sl rfl) eg_nil) hc) fun σ B1 H1 g1 sl => ?_
    refine t_drop g1 sl (d := .none) (ed_fn (f_times M.m) hr2 (eg_d (ed_v 1 sl rfl) (eg_d (ed_is (f := .int gr.length) (ed_len (ed_v 3 sl rfl) bi) (by rw [List.length_map])) eg_nil)) rfl fun _ _ => ⟨_, _, rfl, by omega, by omega, hi, rfl⟩) fun B2 H2 g2 sl => ?_
    refine t_drop g2 sl (d := .none) (ed_fn (f_times M.m) hr2 (eg_d (ed_v 2 sl rfl) (eg_d (ed_is (f := .int m) (ed_len (ed_ix (ed_v 3 sl rfl) ed_int h0) bi) (by rw [List.length_map, hc.len r0 hm0])) eg_nil)) rfl fun _ _ => ⟨_, _, rfl, by omega, by omega, hj, rfl⟩) fun B3 H3 g3 sl => ?_
    refine t_retR g3 (en_lc2 (ds := gr.map encR) (jx := 4) (jy := 5) (n := i) (fun d => (List.replicate j.toNat (unR d)).flatten) (by decide) rfl nd (ok_fn c_repeated (by decide +kernel)) (fun _ _ _ _ _ => pg_name nd rfl (.inl (lookup_relabel_local rfl)) (.inr (lookup_relabel_local rfl))) (fun _ _ _ _ _ => pg_name nd rfl (.inl (lookup_relabel_local rfl)) (.inr (lookup_relabel_local rfl))) (ed_v 1 sl rfl) (by omega) (by rw [List.length_map]; omega) bi (fun s H A cl fp k B4 x => ?_) fun s H A cl fp k d v B4 hm x rv => ?_) fun v B5 H5 g5 _ r => q v H5 ⟨B5, g5, ?_⟩
    · have sl := (((sl.mono x).set (o := none) (s := .no) trivial 5).set (o := none) (s := .no) trivial 4).set (o := some (.int k)) (s := .dat (.int k)) ⟨_, rfl, .int k⟩ 4
      exact ed_v 3 sl rfl
    · obtain ⟨r, hr1, rfl⟩ := mem_encG hm
      have sl := (((((sl.mono x).set (o := none) (s := .no) trivial 5).set (o := none) (s := .no) trivial 4).set (o := some (.int k)) (s := .dat (.int k)) ⟨_, rfl, .int k⟩ 4).set (o := none) (s := .no) trivial 5).set (o := some v) (s := .dat (encR r)) ⟨v, rfl, rv⟩ 5
      exact en_rep (ds := r.map .int) (ed_v 5 sl rfl) (ed_v 2 sl rfl) (by omega) (by rw [List.length_map, hc.len r hr1]; omega)
    · have e : (List.replicate i.toNat ((gr.map encR).map fun d => (List.replicate j.toNat (unR d)).flatten)).flatten = rowsP (repZ gr i j) := by
        unfold rowsP repZ
        rw [List.map_flatten, List.map_replicate, List.map_map, List.map_map]
        refine congrArg _ (congrArg _ (List.map_congr_left fun r _ => ?_))
        show (List.replicate j.toNat (r.map PyData.int)).flatten = ((List.replicate j.toNat r).flatten).map PyData.int
        rw [List.map_flatten, List.map_replicate]
      rw [e] at r
      exact r.back g3.eb
  · have h1 := hc.rows
    have h2 := hc.warps
    obtain ⟨r0, hm0, h0⟩ := first_ok hc
    refine t_set 3 g sl nd (ed_need M hr (eg_d (ed_v 0 sl rfl) eg_nil) hc) fun σ B1 H1 g1 sl => ?_
    cases hd : timesB gr.length d with
    | false => exact s_dropX g1.wd (ex_fnS (f_times M.m) hr2 (eg_d (ed_v 1 sl rfl) (eg_d (ed_is (f := .int gr.length) (ed_len (ed_v 3 sl rfl) bi) (by rw [List.length_map])) eg_nil)) rfl fun _ _ => ⟨_, _, rfl, by omega, by omega, hd, xc⟩) (L2N.takes_of rfl rfl rfl rfl) fun B' H' g' => q _ _ (g1.trans g')
    | true =>
      refine t_drop g1 sl (d := .none) (ed_fn (f_times M.m) hr2 (eg_d (ed_v 1 sl rfl) (eg_d (ed_is (f := .int gr.length) (ed_len (ed_v 3 sl rfl) bi) (by rw [List.length_map])) eg_nil)) rfl fun _ _ => ⟨_, _, rfl, by omega, by omega, hd, rfl⟩) fun B2 H2 g2 sl => ?_
      rw [hd] at hno
      exact s_dropX g2.wd (ex_fnS (f_times M.m) hr2 (eg_d (ed_v 2 sl rfl) (eg_d (ed_is (f := .int m) (ed_len (ed_ix (ed_v 3 sl rfl) ed_int h0) bi) (by rw [List.length_map, hc.len r0 hm0])) eg_nil)) rfl fun _ _ => ⟨_, _, rfl, by omega, by omega, hno, xc⟩) (L2N.takes_of rfl rfl rfl rfl) fun B' H' g' => q _ _ (g2.trans g')
end repeated

section crossing
variable {P : Program} {w : World} {K : PySem.W.Frag} {mg : Str → Option Value} {base : Heap} {T : List Addr}
def crossD (g : List (List Int)) (m : Nat) (i : Int) : List PyData := if Cz.weftB g i = true then rngD g.length ((g.length : Int) + m) else rngD 0 g.length
def sgCross : Sg := ⟨2, fun _ as P => ∃ g m i, as = [.dat (encG g), .dat (.int i)] ∧ Cz.IsCloth g m ∧ P = isd (.list (crossD g m i)), nox⟩
theorem f_cross (M : Md K mg) : FnS P w K mg base T "crossing" 2 sgCross := by
  refine fn_D M.d_crossing c_crossing rfl fun f cdv A outer s H vs E B as R hr g sl hp => ?_
  obtain ⟨gr, m, i, rfl, hc, rfl⟩ := hp
  have h1 := hc.rows
  have h2 := hc.warps
  refine t_set 2 g sl c_crossing.nd (ed_is (ed_len (ed_v 0 sl rfl) M.bi) (by rw [List.length_map])) fun σ B1 H1 g1 sl => ?_
  refine t_when g1 sl (et_val (ed_weft M hr (eg_d (ed_v 0 sl rfl) (eg_d (ed_v 1 sl rfl) eg_nil)) hc)) (fun c B2 H2 g2 sl => ?_) fun c B2 H2 g2 sl => ?_
  · refine t_retR g2 (en_rng2 (ed_v 2 sl rfl) (ed_fn (f_many M) hr (eg_d (ed_v 0 sl rfl) eg_nil) rfl fun _ _ => ⟨_, _, rfl, hc, rfl⟩) (by omega) M.bi) fun v B' H' g _ r => ⟨B', g, ?_⟩
    show Dt B' v (.list (crossD gr m i))
    unfold crossD
    rw [if_pos c]
    exact r.dt
  · refine t_retR g2 (en_rng1 (ed_v 2 sl rfl) (by omega) M.bi) fun v B' H' g _ r => ⟨B', g, ?_⟩
    show Dt B' v (.list (crossD gr m i))
    unfold crossD
    rw [if_neg (by rw [c]; decide)]
    exact r.dt
def sgLies : Sg := ⟨3, fun _ as P => ∃ g m i j, as = [.dat (encG g), .dat (.int i), .dat (.int j)] ∧ Cz.IsCloth g m ∧ isThr g m i ∧ isThr g m j ∧ Cz.crossB g i j = true ∧ P = isd (.bool (Cz.overB g i j)), nox⟩
theorem cross_split {g : List (List Int)} {i j : Int} (h : Cz.crossB g i j = true) : (i < (g.length : Int) ∧ (g.length : Int) ≤ j) ∨ ((g.length : Int) ≤ i ∧ j < (g.length : Int)) := by
  unfold Cz.crossB Cz.weftB at h
  by_cases a : i < (g.length : Int) <;> by_cases b : j < (g.length : Int)
  · rw [decide_eq_true a, decide_eq_true b] at h; cases h
  · exact .inl ⟨a, by omega⟩
  · exact .inr ⟨by omega, b⟩
  · rw [decide_eq_false a, decide_eq_false b] at h; cases h
theorem f_lies (M : Md K mg) : FnS P w K mg base T "lies_over" 2 sgLies := by
  refine fn_D M.d_lies_over c_lies_over rfl fun f cdv A outer s H vs E B as R hr g sl hp => ?_
  obtain ⟨gr, m, i, j, rfl, hc, ⟨i1, i2⟩, ⟨j1, j2⟩, hx, rfl⟩ := hp
  have h1 := hc.rows
  have hs := cross_split hx
  refine t_when g sl (et_val (ed_weft M hr (eg_d (ed_v 0 sl rfl) (eg_d (ed_v 1 sl rfl) eg_nil)) hc)) (fun c B2 H2 g2 sl => ?_) fun c B2 H2 g2 sl => ?_
  · have c' : i < (gr.length : Int) := of_decide_eq_true c
    refine t_ret g2 (ed_is (ec_eqI (ed_sgn hc (ed_v 0 sl rfl) (ed_v 1 sl rfl) (ed_sub (ed_v 2 sl rfl) (ed_is (ed_len (ed_v 0 sl rfl) M.bi) (by rw [List.length_map]))) i1 c' (by omega) (by omega)) ed_int).ed ?_) fun v B' H' g r => ⟨B', g, r⟩
    unfold Cz.overB
    rw [if_pos c']
  · have c' : ¬ i < (gr.length : Int) := of_decide_eq_false c
    refine t_ret g2 (ed_is (ec_eqI (ed_sgn hc (ed_v 0 sl rfl) (ed_v 2 sl rfl) (ed_sub (ed_v 1 sl rfl) (ed_is (ed_len (ed_v 0 sl rfl) M.bi) (by rw [List.length_map]))) j1 (by omega) (by omega) (by omega)) ed_int).ed ?_) fun v B' H' g r => ⟨B', g, r⟩
    unfold Cz.overB
    rw [if_neg c']
end crossing

section lower
variable {P : Program} {w : World} {K : PySem.W.Frag} {mg : Str → Option Value} {base : Heap} {T : List Addr}
/-! ### over which threads one lies -/
theorem mem_rngD {i j : Int} {d : PyData} (h : d ∈ rngD i j) : ∃ k : Int, d = .int k ∧ i ≤ k ∧ k < j := by
  obtain ⟨n, hn, rfl⟩ := List.mem_map.mp h
  have := List.mem_range.mp hn
  exact ⟨_, rfl, by omega, by omega⟩
theorem mem_crossD {g : List (List Int)} {m : Nat} {i : Int} {d : PyData} (h : d ∈ crossD g m i) : ∃ k : Int, d = .int k ∧ isThr g m k ∧ Cz.crossB g i k = true := by
  unfold crossD at h
  by_cases c : Cz.weftB g i = true
  · rw [if_pos c] at h
    obtain ⟨k, rfl, h1, h2⟩ := mem_rngD h
    refine ⟨k, rfl, ⟨by omega, h2⟩, ?_⟩
    unfold Cz.crossB
    rw [c]
    unfold Cz.weftB
    rw [decide_eq_false (by omega)]
    rfl
  · rw [if_neg c] at h
    obtain ⟨k, rfl, h1, h2⟩ := mem_rngD h
    refine ⟨k, rfl, ⟨by omega, by omega⟩, ?_⟩
    unfold Cz.crossB
    rw [Bool.eq_false_iff.mpr c]
    unfold Cz.weftB
    rw [decide_eq_true (by omega)]
    rfl
theorem len_crossD {g : List (List Int)} {m : Nat} (c : Cz.IsCloth g m) (i : Int) : (crossD g m i).length ≤ 12 := by
  have h1 := c.rows
  have h2 := c.warps
  unfold crossD rngD
  split <;> (rw [List.length_map, List.length_range]; omega)
def beneathD (g : List (List Int)) (m : Nat) (i : Int) : List PyData := made (fun d => Cz.overB g i (intOf d)) (fun d => d) (crossD g m i)
def sgLowT : Sg := ⟨2, fun _ as P => ∃ g m i, as = [.dat (encG g), .dat (.int i)] ∧ Cz.IsCloth g m ∧ isThr g m i ∧ P = fun B B' v => NewD B B' v (beneathD g m i), nox⟩
theorem f_lowT (M : Md K mg) : FnS P w K mg base T "lower_threads" 3 sgLowT := by
  refine fn_D M.d_lower_threads c_lower_threads rfl fun f cdv A outer s H vs E B as R hr g sl hp => ?_
  obtain ⟨gr, m, i, rfl, hc, hi, rfl⟩ := hp
  refine t_retR g (LC.ev (lc_L (fun d => Cz.overB gr i (intOf d)) (fun d => d) (bk_fn (j := 2) c_lower_threads (by decide +kernel)) (ed_fn (f_cross M) hr (eg_d (ed_v 0 sl rfl) (eg_d (ed_v 1 sl rfl) eg_nil)) rfl fun _ _ => ⟨_, _, _, rfl, hc, rfl⟩) (by have := len_crossD hc i; omega) (fun s H A cl fp d v B1 hm x rv => ?_) fun s H A cl fp d v B1 hm _ x rv => ?_)) fun v B3 H3 g3 g4 r => ⟨B3, g3, r⟩
  · obtain ⟨k, rfl, hk, hx⟩ := mem_crossD hm
    have sl := sl.blk x 2 rv
    exact ets_one (et_val (ed_fn (f_lies M) hr (eg_d (ed_v 0 sl rfl) (eg_d (ed_v 1 sl rfl) (eg_d (ed_v 2 sl rfl) eg_nil))) rfl fun _ _ => ⟨_, _, _, _, rfl, hc, hi, hk, hx, rfl⟩))
  · exact ed_v 2 (sl.blk x 2 rv) rfl
end lower

section kinds
variable {P : Program} {w : World} {K : PySem.W.Frag} {mg : Str → Option Value} {base : Heap} {T : List Addr}
/-! ### the kinds of lines, numbered -/
def kindStep (k : List (List Int)) (r : List Int) : List (List Int) := if r ∈ k then k else k ++ [r]
def kindsZ (g : List (List Int)) : List (List Int) := g.foldl kindStep []
theorem kindStep_len (k : List (List Int)) (r : List Int) : (kindStep k r).length ≤ k.length + 1 := by
  unfold kindStep
  split
  · omega
  · rw [List.length_append]; exact Nat.le_refl _
theorem kinds_fold_len : ∀ (g k : List (List Int)), (g.foldl kindStep k).length ≤ k.length + g.length
  | [], k => Nat.le_refl _
  | r :: g, k => by
    have := kinds_fold_len g (kindStep k r)
    have := kindStep_len k r
    rw [List.foldl_cons, List.length_cons]
    omega
theorem kinds_keep : ∀ (g k : List (List Int)) (x : List Int), x ∈ k → x ∈ g.foldl kindStep k
  | [], _, _, h => h
  | r :: g, k, x, h => kinds_keep g _ x (by
    unfold kindStep
    split
    · exact h
    · exact List.mem_append_left _ h)
theorem kinds_mem : ∀ (g k : List (List Int)) (x : List Int), x ∈ g → x ∈ g.foldl kindStep k
  | r :: g, k, x, h => by
    rcases List.mem_cons.mp h with rfl | h
    · refine kinds_keep g _ _ ?_
      unfold kindStep
      split
      · assumption
      · exact List.mem_append_right _ (List.mem_singleton.mpr rfl)
    · exact kinds_mem g _ x h
theorem kinds_sub : ∀ (g k : List (List Int)) (x : List Int), x ∈ g.foldl kindStep k → x ∈ k ∨ x ∈ g
  | [], _, _, h => .inl h
  | r :: g, k, x, h => by
    rcases kinds_sub g _ x h with h | h
    · unfold kindStep at h
      split at h
      · exact .inl h
      · rcases List.mem_append.mp h with h | h
        · exact .inl h
        · exact .inr (List.mem_cons.mpr (.inl (List.mem_singleton.mp h)))
    · exact .inr (List.mem_cons_of_mem _ h)
def numZ (g : List (List Int)) : List Int := g.map fun r => ((kindsZ g).idxOf r : Nat)
def sgKinds : Sg := ⟨1, fun _ as P => ∃ g, as = [.dat (encG g)] ∧ g.length ≤ 1000 ∧ P = isd (encG (kindsZ g)), nox⟩
theorem f_kinds (M : Md K mg) : FnS P w K mg base T "kinds_of" 1 sgKinds := by
  refine fn_D M.d_kinds_of c_kinds_of rfl fun f cdv A0 outer s H vs E B as R hr g sl hp => ?_
  obtain ⟨gr, rfl, hl, rfl⟩ := hp
  have nd := c_kinds_of.nd
  refine t_newL 1 g sl nd fun A σ H1 hA0 hA g1 hB1 hH1 sl => ?_
  refine t_forL (ds := gr.map encR) 2 (fun n σ' B' H' => Sl B' σ' [.dat (encG gr), .val (.ref A), .no] ∧ B' A = none ∧ ∃ xs, H' A = some (.lst xs) ∧ Dts B' xs (((gr.take n).foldl kindStep []).map encR)) g1 (ed_v 0 sl rfl) nd (passes_of rfl) rfl
    (fun B2 H2 g2 g3 => ⟨(sl.mono g3.eb).weak ⟨.inr rfl, .inr rfl, .inr rfl, trivial⟩, g3.out hB1 (by rw [hH1]; exact fun z => nomatch z), [], g3.eh.lst hH1, .nil⟩)
    (fun n d v σ' B' H' hd gA gB xb rv ⟨sl, hBA, xs, hHA, rx⟩ => ?_) (fun σ' B' H' gA _ ⟨sl, hBA, xs, hHA, rx⟩ => ?_)
  · rw [List.getElem?_map] at hd
    obtain ⟨r, hr2, rfl⟩ := Option.map_eq_some_iff.mp hd
    have hstep : ((gr.take (n + 1)).foldl kindStep []) = kindStep ((gr.take n).foldl kindStep []) r := by
      rw [List.take_add_one, hr2, List.foldl_append]
      rfl
    have sl := sl.set (o := some v) (s := .dat (encR r)) ⟨v, rfl, rv⟩ 2
    have hkl := kinds_fold_len (gr.take n) []
    have htl : (gr.take n).length ≤ gr.length := by rw [List.length_take]; omega
    generalize (gr.take n).foldl kindStep [] = ks at rx hstep hkl
    have hkl : ks.length ≤ 1000 := by rw [List.length_nil] at hkl; omega
    have sl2 := sl.settle 1 rfl hBA rx
    have gS := gB.settle hA hBA hHA
    have xS : Ex B' (upd B' A (.lst xs)) := Ex.new hBA
    generalize upd B' A (.lst xs) = Bs at sl2 gS xS
    refine t_when (Go.rfl gS.wd) sl2 (ec_notInR (r := r) (g := ks) (room65 hr) (ed_v 2 sl2 rfl) (ed_v 1 sl2 rfl)).et (fun c B7 H7 g7 _ => ?_) fun c B7 H7 g7 _ => ?_
    · have gD := (gS.trans g7).drop hBA
      have xD : Ex B' (del B7 A) := ex_del (xS.trans g7.eb) hBA
      have slD := sl.mono xD
      refine t_app 1 gD slD rfl hA del_same (g7.eh.lst hHA) (rx.mono xD) (by rw [List.length_map]; omega) (ed_v 2 slD rfl) fun B8 H8 zs g8 sl8 hB8 hH8 rz => ?_
      refine s_nil (s_nil ⟨B8, g8, sl8.weak ⟨.inr rfl, .inr rfl, .inl rfl, trivial⟩, hB8, zs, hH8, ?_⟩)
      have cn : ¬ r ∈ ks := fun z => by rw [decide_eq_true z] at c; cases c
      rw [hstep]
      unfold kindStep
      rw [if_neg cn, List.map_append]
      exact rz
    · have gD := (gS.trans g7).drop hBA
      have xD : Ex B' (del B7 A) := ex_del (xS.trans g7.eb) hBA
      have cn : r ∈ ks := by
        by_cases z : r ∈ ks
        · exact z
        · rw [decide_eq_false z] at c; cases c
      refine s_nil ⟨del B7 A, gD, (sl.mono xD).weak ⟨.inr rfl, .inr rfl, .inl rfl, trivial⟩, del_same, xs, g7.eh.lst hHA, ?_⟩
      rw [hstep]
      unfold kindStep
      rw [if_pos cn]
      exact rx.mono xD
  · rw [List.length_map, List.take_length] at rx
    have sl2 := sl.settle 1 rfl hBA rx
    have gS := gA.settle hA hBA hHA
    exact t_ret gS (ed_v 1 sl2 rfl) fun v B' H' g r => ⟨B', g, r⟩
def sgNum : Sg := ⟨1, fun _ as P => ∃ g, as = [.dat (encG g)] ∧ g.length ≤ 1000 ∧ P = isd (encR (numZ g)), nox⟩
theorem f_num (M : Md K mg) : FnS P w K mg base T "numbered" 2 sgNum := by
  refine fn_D M.d_numbered c_numbered rfl fun f cdv A0 outer s H vs E B as R hr g sl hp => ?_
  obtain ⟨gr, rfl, hl, rfl⟩ := hp
  have nd := c_numbered.nd
  refine t_set 1 g sl nd (ed_fn (f_kinds M) hr (eg_d (ed_v 0 sl rfl) eg_nil) rfl fun _ _ => ⟨_, rfl, hl, rfl⟩) fun σ B1 H1 g1 sl => ?_
  refine t_ret g1 (ed_is (LC.ed (lc_L (fun _ => true) (fun d => .int ((kindsZ gr).idxOf ((unR d).map intOf) : Nat)) (bk_fn (j := 2) c_numbered (by decide +kernel)) (ed_v 0 sl rfl) (by rw [List.length_map]; omega) (fun _ _ _ _ _ _ _ _ _ _ _ => ets_nil) fun s H A cl fp d v B2 hm _ x rv => ?_)) ?_) fun v B' H' g r => ⟨B', g, r⟩
  · obtain ⟨r, hr1, rfl⟩ := mem_encG hm
    have slB := sl.blk x 2 rv
    refine ed_is (ed_indexR (r := r) (g := kindsZ gr) (room65 hr) (kinds_mem gr [] r hr1) (ed_v 1 slB rfl) (ed_v 2 slB rfl) (fun q1 q2 => pe_bm PySem.F.plainAttrs_list PySem.F.slot_list_index PySem.F.type_list_index (mt_indexD (room65 hr)) q1 q2)) ?_
    refine congrArg (fun q => PyData.int ((kindsZ gr).idxOf q : Nat)) ?_
    show r = (r.map PyData.int).map intOf
    rw [List.map_map]
    conv => lhs; rw [← List.map_id r]
    rfl
  · rw [made_all, List.map_map]
    unfold numZ encR
    rw [List.map_map]
    refine congrArg PyData.list (List.map_congr_left fun r _ => ?_)
    show PyData.int ((kindsZ gr).idxOf ((r.map PyData.int).map intOf) : Nat) = _
    rw [List.map_map]
    refine congrArg (fun q => PyData.int ((kindsZ gr).idxOf q : Nat)) ?_
    conv => rhs; rw [← List.map_id r]
    rfl
end kinds

section loom9
open L2H
variable {P : Program} {w : World} {K : PySem.W.Frag} {mg : Str → Option Value} {base : Heap} {T : List Addr}
/-! ### the loom of a cloth -/
/-- the shafts that are lifted, in order -/
def liftZ (th row : List Int) : List Int := ((List.range 24).map fun (k : Nat) => (k : Int)).filter fun k => (th.zip row).any fun p => decide (p.1 = k) && decide (p.2 = 1)
def sgLift : Sg := ⟨2, fun _ as P => ∃ th row : List Int, as = [.dat (encR th), .dat (encR row)] ∧ th.length = row.length ∧ th.length ≤ 12 ∧ (∀ x ∈ th, 0 ≤ x ∧ x < 24) ∧ P = isd (encR (liftZ th row)), nox⟩
/-- threading, ties, treadling -/
def threadZ (g : List (List Int)) (m : Nat) : List Int := numZ (colsZ g m)
def tiesZ (g : List (List Int)) (m : Nat) : List (List Int) := (kindsZ g).map fun r => liftZ (threadZ g m) r
def loomD (g : List (List Int)) (m : Nat) : PyData := .tuple [encR (threadZ g m), encG (tiesZ g m), encR (numZ g)]
theorem num_range (g : List (List Int)) : ∀ x ∈ numZ g, 0 ≤ x ∧ x < g.length := fun x hx => by
  obtain ⟨r, hr, rfl⟩ := List.mem_map.mp hx
  have h1 : (kindsZ g).idxOf r < (kindsZ g).length := List.idxOf_lt_length_iff.mpr (kinds_mem g [] r hr)
  have h2 := kinds_fold_len g []
  have h3 : (kindsZ g).length ≤ g.length := by
    rw [List.length_nil, Nat.zero_add] at h2
    exact h2
  omega
theorem num_len (g : List (List Int)) : (numZ g).length = g.length := by
  unfold numZ
  rw [List.length_map]
def sgLoom : Sg := ⟨1, fun _ as P => ∃ g m, as = [.dat (encG g)] ∧ Cz.IsCloth g m ∧ P = isd (loomD g m), nox⟩
theorem f_loom (M : Mt K mg base T) (hl : FnS P w K mg base T "lifted" 2 sgLift) : FnS P w K mg base T "loom_of" 4 sgLoom := by
  refine fn_D M.m.d_loom_of c_loom_of rfl fun f cdv A outer s H vs E B as R hr g sl hp => ?_
  obtain ⟨gr, m, rfl, hc, rfl⟩ := hp
  have nd := c_loom_of.nd
  have hrows := hc.rows
  have hwarps := hc.warps
  have hr2 := hr.mono (show 2 ≤ 3 by decide)
  have hr1 := hr.mono (show 1 ≤ 3 by decide)
  refine t_set 1 g sl nd (ed_need M hr (eg_d (ed_v 0 sl rfl) eg_nil) hc) fun σ B1 H1 g1 sl => ?_
  refine t_set 2 g1 sl nd (d := encR (threadZ gr m)) (ed_fn (f_num M.m) hr2 (eg_d (ed_fn (f_cols M.m) hr1 (eg_d (ed_v 1 sl rfl) eg_nil) rfl fun _ _ => ⟨_, _, rfl, hc, rfl⟩) eg_nil) rfl fun _ _ => ⟨_, rfl, by rw [colsZ_len]; omega, rfl⟩) fun σ B2 H2 g2 sl => ?_
  have kl : (kindsZ gr).length ≤ 12 := by
    have := kinds_fold_len gr []
    rw [List.length_nil, Nat.zero_add] at this
    exact Nat.le_trans this (by omega)
  refine t_setLc 3 g2 sl (lc_L (ds := (kindsZ gr).map encR) (fun _ => true) (fun d => encR (liftZ (threadZ gr m) ((unR d).map intOf))) (bk_fn (j := 4) c_loom_of (by decide +kernel)) (ed_fn (f_kinds M.m) hr1 (eg_d (ed_v 1 sl rfl) eg_nil) rfl fun _ _ => ⟨_, rfl, by omega, rfl⟩) (by rw [List.length_map]; omega) (fun _ _ _ _ _ _ _ _ _ _ _ => ets_nil) fun s H A cl fp d v B2 hm _ x rv => ?_) fun σ B3 H3 g3 sl => ?_
  · obtain ⟨r, hr3, rfl⟩ := List.mem_map.mp hm
    have hrm : r ∈ gr := (kinds_sub gr [] r hr3).elim (fun h => nomatch h) id
    have tl : (threadZ gr m).length = m := by unfold threadZ; rw [num_len, colsZ_len]
    refine ed_is (ed_fn hl hr2 (eg_d (ed_v 2 (sl.blk x 4 rv) rfl) (eg_d (ed_v 4 (sl.blk x 4 rv) rfl) eg_nil)) rfl fun _ _ => ⟨_, _, rfl, by rw [tl, hc.len r hrm], by omega, fun y hy => ?_, rfl⟩) ?_
    · have := num_range (colsZ gr m) y hy
      rw [colsZ_len] at this
      omega
    · refine congrArg (fun q => encR (liftZ (threadZ gr m) q)) ?_
      show r = (r.map PyData.int).map intOf
      rw [List.map_map]
      conv => lhs; rw [← List.map_id r]
      rfl
  · have e : made (fun _ => true) (fun d => encR (liftZ (threadZ gr m) ((unR d).map intOf))) ((kindsZ gr).map encR) = (tiesZ gr m).map encR := by
      rw [made_all, List.map_map]
      unfold tiesZ
      rw [List.map_map]
      refine List.map_congr_left fun r _ => ?_
      show encR (liftZ (threadZ gr m) ((r.map PyData.int).map intOf)) = _
      rw [List.map_map]
      refine congrArg (fun q => encR (liftZ (threadZ gr m) q)) ?_
      conv => rhs; rw [← List.map_id r]
      rfl
    rw [e] at sl
    refine t_ret g3 (ed_tuple (ea_cons (ed_v 2 sl rfl) (ea_cons (ed_v 3 sl rfl) (ea_cons (ed_fn (f_num M.m) hr2 (eg_d (ed_v 1 sl rfl) eg_nil) rfl fun _ _ => ⟨_, rfl, by omega, rfl⟩) ea_nil))) (few rfl)) fun v B' H' g r => ⟨B', g, r⟩
end loom9

section lift
open L2H
variable {P : Program} {w : World} {K : PySem.W.Frag} {mg : Str → Option Value} {base : Heap} {T : List Addr}
theorem lift_has {th row : List Int} (h : ∀ x ∈ th, 0 ≤ x ∧ x < 24) : ∀ k, k ∈ liftZ th row ↔ hasZ th row th.length k = true := fun k => by
  unfold liftZ hasZ
  have et : (th.zip row).take th.length = th.zip row := List.take_of_length_le (by rw [List.length_zip]; omega)
  rw [et, List.mem_filter]
  refine ⟨fun z => z.2, fun z => ⟨?_, z⟩⟩
  obtain ⟨p, hp, e⟩ := List.any_eq_true.mp z
  have e1 := of_decide_eq_true (Bool.and_eq_true_iff.mp e).1
  have := h p.1 (List.of_mem_zip hp).1
  exact List.mem_map.mpr ⟨k.toNat, List.mem_range.mpr (by omega), by omega⟩
theorem lift_asc (th row : List Int) : (liftZ th row).Pairwise (· < ·) := by
  unfold liftZ
  refine List.Pairwise.filter _ ?_
  rw [List.pairwise_map]
  exact List.Pairwise.imp (fun h => by omega) List.pairwise_lt_range
theorem f_lift (M : Md K mg) : FnS P w K mg base T "lifted" 2 sgLift := by
  refine fn_D M.d_lifted c_lifted rfl fun f cdv A0 outer s H vs E B as R hr g sl hp => ?_
  obtain ⟨th, row, rfl, hl, hn, hth, rfl⟩ := hp
  have nd := c_lifted.nd
  have h3 : 3 < (L2.start ["threading", "row", "shaft", "sign"] vs).length := by
    obtain ⟨o, ho, _⟩ := sl.get (i := 3) (s := .no) rfl
    exact (List.getElem?_eq_some_iff.mp ho).1
  have h2 : 2 < (L2.start ["threading", "row", "shaft", "sign"] vs).length := by omega
  refine t_ret g (ed_sortedZip (jx := 2) (jy := 3) (th := th) (row := row) rfl nd M.bi ?_ (fun s H A cl fp => ?_) (ed_v 0 sl rfl) (ed_v 1 sl rfl) hl hn (fun s H A cl fp k l B1 x => ?_) (fun s H A cl fp k l B1 x => ?_) (fun v u => ?_) (lift_asc th row) (lift_has hth)) fun v B' H' g r => ⟨B', g, r⟩
  · exact blkOk_by (by
      show blkC (["threading", "row", "shaft", "sign"] : List Str) (defScope s_lifted) _ [("shaft", 2), ("sign", 3)] = true
      decide +kernel)
  · exact pg_tup rfl (pgs_cons (pg_name (i := 2) nd rfl (.inl (lookup_relabel_local rfl)) (.inr (lookup_relabel_local rfl))) (pgs_cons (pg_name (i := 3) nd rfl (.inl (lookup_relabel_local rfl)) (.inr (lookup_relabel_local rfl))) pgs_nil))
  · exact ets_one (ec_eqI (ev_var (v := .int l) 3 (by rw [List.getElem?_set_self (by rw [List.length_set, wipe_length]; exact h3)]) (.int l)) ed_int).et
  · exact ev_var (v := .int k) 2 (by rw [List.getElem?_set_ne (by decide), List.getElem?_set_self (by rw [wipe_length]; exact h2)]) (.int k)
  · simp [L2.wipe, List.set_comm]
end lift

section ways
variable {P : Program} {w : World} {K : PySem.W.Frag} {mg : Str → Option Value} {base : Heap} {T : List Addr}
/-! ### the threads as a graph -/
def crossI (g : List (List Int)) (m : Nat) (i : Int) : List Int := if Cz.weftB g i = true then (List.range m).map fun (k : Nat) => (g.length : Int) + (k : Int) else (List.range g.length).map fun (k : Nat) => (k : Int)
def adjZ (g : List (List Int)) (m : Nat) (i : Int) : List Int := (crossI g m i).filter fun j => Cz.overB g i j
theorem cross_ints (g : List (List Int)) (m : Nat) (i : Int) : crossD g m i = (crossI g m i).map .int := by
  unfold crossD crossI
  by_cases c : Cz.weftB g i = true
  · rw [if_pos c, if_pos c]
    unfold rngD
    rw [List.map_map, show ((g.length : Int) + m - g.length).toNat = m by omega]
    rfl
  · rw [if_neg c, if_neg c]
    unfold rngD
    rw [List.map_map, show ((g.length : Int) - 0).toNat = g.length by omega]
    refine List.map_congr_left fun k _ => ?_
    show PyData.int (0 + (k : Int)) = PyData.int (k : Int)
    rw [Int.zero_add]
theorem made_ints2 (p : PyData → Bool) (f : PyData → PyData) (h : Int → Int) (hf : ∀ k : Int, f (.int k) = .int (h k)) (ks : List Int) : made p f (ks.map .int) = ((ks.filter fun k => p (.int k)).map h).map .int := by
  unfold made
  rw [List.filter_map, List.map_map, List.map_map]
  exact List.map_congr_left fun k _ => hf k
theorem adj_ints (g : List (List Int)) (m : Nat) (i : Int) : beneathD g m i = (adjZ g m i).map .int := by
  unfold beneathD adjZ
  rw [cross_ints, made_ints2 (fun d => Cz.overB g i (intOf d)) (fun d => d) (fun k => k) (fun _ => rfl), List.map_id']
  rfl
theorem adj_rise (g : List (List Int)) (m : Nat) (i : Int) : (adjZ g m i).Pairwise (· < ·) := by
  refine List.Pairwise.filter _ ?_
  unfold crossI
  split
  · rw [List.pairwise_map]
    exact List.Pairwise.imp (fun h => by omega) List.pairwise_lt_range
  · rw [List.pairwise_map]
    exact List.Pairwise.imp (fun h => by omega) List.pairwise_lt_range
theorem adj_mem {g : List (List Int)} {m : Nat} {i j : Int} (h : j ∈ adjZ g m i) : isThr g m j ∧ Cz.crossB g i j = true ∧ Cz.overB g i j = true := by
  obtain ⟨h1, h2⟩ := List.mem_filter.mp h
  have h3 : PyData.int j ∈ crossD g m i := by rw [cross_ints]; exact List.mem_map.mpr ⟨j, h1, rfl⟩
  obtain ⟨k, e, h4, h5⟩ := mem_crossD h3
  cases e
  exact ⟨h4, h5, h2⟩
/-- how many of the first N are found -/
def cnt (N : Nat) (f : Int → Option (List Int)) : Nat := ((List.range N).filter fun (k : Nat) => (f (k : Int)).isSome).length
theorem cnt_le (N : Nat) (f : Int → Option (List Int)) : cnt N f ≤ N := by
  unfold cnt
  exact Nat.le_trans (List.length_filter_le _ _) (by rw [List.length_range]; exact Nat.le_refl _)
theorem cnt_put {N : Nat} {f : Int → Option (List Int)} {o : Int} {p : List Int} (h0 : 0 ≤ o) (h1 : o < N) (hn : f o = none) : cnt N (Cw.putF f o p) = cnt N f + 1 := by
  obtain ⟨k, rfl⟩ := Int.eq_ofNat_of_zero_le h0
  have hk : k < N := by omega
  unfold cnt
  have key : ∀ M : Nat, ((List.range M).filter fun (j : Nat) => (Cw.putF f (k : Int) p (j : Int)).isSome).length = ((List.range M).filter fun (j : Nat) => (f (j : Int)).isSome).length + if k < M then 1 else 0 := by
    intro M
    induction M with
    | zero => rfl
    | succ M ih =>
      rw [List.range_succ, List.filter_append, List.filter_append, List.length_append, List.length_append, ih]
      by_cases c : M = k
      · subst c
        have e1 : (Cw.putF f (M : Int) p (M : Int)).isSome = true := by unfold Cw.putF; rw [if_pos rfl]; rfl
        have e2 : (f (M : Int)).isSome = false := by rw [hn]; rfl
        simp [e1, e2]
      · have e1 : (Cw.putF f (k : Int) p (M : Int)) = f (M : Int) := if_neg (by omega)
        have e2 : ([M].filter fun (j : Nat) => (Cw.putF f (k : Int) p (j : Int)).isSome) = [M].filter fun (j : Nat) => (f (j : Int)).isSome := by
          rw [List.filter_cons, List.filter_cons, e1]
          rfl
        have e3 : (if k < M + 1 then 1 else 0) = if k < M then 1 else 0 := by
          by_cases c2 : k < M
          · rw [if_pos c2, if_pos (by omega)]
          · rw [if_neg c2, if_neg (by omega)]
        rw [e2, e3]
        omega
  rw [key N, if_pos hk]
theorem cnt_one {N : Nat} {i : Int} {p : List Int} (h0 : 0 ≤ i) (h1 : i < N) : cnt N (Cw.putF (fun _ => none) i p) = 1 := by
  rw [cnt_put h0 h1 rfl]
  unfold cnt
  rw [List.filter_eq_nil_iff.mpr (fun a _ z => Bool.noConfusion z)]
  rfl
/-- what all ways from i tell -/
def WaysIs (adj : Int → List Int) (i : Int) (f : Int → Option (List Int)) : Prop := ∀ v, (∀ p, f v = some p → ∃ k, Cz.Far adj i v k ∧ Cz.Least adj k i v p) ∧ (f v = none → ∀ k p, ¬ Cz.Wlk adj i k v p)
def sgWays : Sg := ⟨2, fun _ as P => ∃ g m i, as = [.dat (encG g), .dat (.int i)] ∧ Cz.IsCloth g m ∧ isThr g m i ∧ P = fun B B' v => ∃ A f, v = .ref A ∧ B A = none ∧ Dic B B' B' A 24 f ∧ WaysIs (adjZ g m) i f ∧ ∀ v, f v ≠ none → isThr g m v, nox⟩
theorem f_ways (M : Md K mg) : FnS P w K mg base T "ways_from" 4 sgWays := by
  refine fn_D M.d_ways_from c_ways_from rfl fun f cdv A0 outer s H vs E B as R hr g sl hp => ?_
  obtain ⟨gr, m, i, rfl, hc, hi, rfl⟩ := hp
  have nd := c_ways_from.nd
  have hrows := hc.rows
  have hwarps := hc.warps
  have hu : ∀ {A : Around}, Room 3 A → A.units + 1 < cLine := fun h => by have := room_units h; omega
  obtain ⟨N, hN⟩ : ∃ N : Nat, N = gr.length + m := ⟨_, rfl⟩
  have thrN : ∀ {v : Int}, isThr gr m v → 0 ≤ v ∧ v < N := fun h => ⟨h.1, by have := h.2; omega⟩
  refine t_dic1 (k := i) (p := [i]) 2 g sl nd (ed_v 1 sl rfl) (fun C x => en_lst (ea_cons (ed_v 1 (sl.mono x) rfl) ea_nil) (few rfl)) fun A σ B1 H1 hA0 g1 x1 hB1 d1 sl => ?_
  have hB0 : B A = none := x1.free hB1
  refine t_set 3 (Go.rfl g1.wd) sl nd (d := encR [i]) (ed_list (ea_cons (ed_v 1 sl rfl) ea_nil) (few rfl)) fun σ B2 H2 g2 sl => ?_
  have hN24 : N ≤ 24 := by omega
  have hiN := thrN hi
  have keep1 : ∀ (t : Int) (l : List Int) (s : Cz.Bst) (v : Int) (p : List Int), s.1 v = some p → (l.foldl (Cz.visit t) s).1 v = some p := fun t l => by
    induction l with
    | nil => exact fun s v p h => h
    | cons o l ih =>
      intro s v p h
      refine ih _ v p ?_
      unfold Cz.visit
      split
      · exact h
      · rename_i c
        refine (if_neg fun e => ?_).trans h
        rw [← e, h] at c
        exact c rfl
  have keep2 : ∀ (l : List Int) (s : Cz.Bst) (v : Int) (p : List Int), s.1 v = some p → (l.foldl (Cz.visitAll (adjZ gr m)) s).1 v = some p := fun l => by
    induction l with
    | nil => exact fun s v p h => h
    | cons t l ih => exact fun s v p h => ih _ v p (keep1 t _ s v p h)
  refine t_while (fun mm σ' B' H' => ∃ n fW newest, Go T B H B' H' ∧ Sl B' σ' [.dat (encG gr), .dat (.int i), .val (.ref A), .dat (encR newest), .no, .no, .no] ∧ B' A = none ∧ Dic B H' B' A (cnt N fW) fW ∧ Cz.Lv (adjZ gr m) i n fW newest ∧ (∀ v, fW v ≠ none → isThr gr m v) ∧ (newest = [] ∨ n + 1 ≤ cnt N fW) ∧ mm = 2 * (N - cnt N fW) + if newest = [] then 0 else 1) _ (passes_of rfl)
    ⟨0, Cw.putF (fun _ => none) i [i], [i], g1.trans g2, sl.weak ⟨.inr rfl, .inr rfl, .inr rfl, .inr rfl, .inr rfl, .inr rfl, .inr rfl, trivial⟩, g2.out hB1 d1.there, by rw [cnt_one hiN.1 (by omega)]; exact (d1.up g2.eh).mono g2.eb, Cz.Lv.start, fun v h => ?_, .inr (by rw [cnt_one hiN.1 (by omega)]; exact Nat.le_refl 1), rfl⟩
    fun mm σ' B' H' ⟨n, fW, newest, gW, sl, hBA, dW, L, thr, hn1, hm⟩ => ⟨!(newest.map PyData.int).isEmpty, gW.wd, et_list (ds := newest.map .int) (ed_v 3 sl rfl), fun B3 H3 g3 => ⟨fun c => ?_, fun c => ?_⟩⟩
  · unfold Cw.putF at h
    by_cases e : v = i
    · rw [e]
      exact hi
    · rw [if_neg e] at h
      exact absurd rfl h
  · -- a level
    have hne : newest ≠ [] := fun z => by rw [z] at c; cases c
    have hn2 : n + 1 ≤ cnt N fW := hn1.resolve_left hne
    have hcl := cnt_le N fW
    have gW3 := gW.trans g3
    have hB3 : B3 A = none := g3.out hBA dW.there
    have d3 := (dW.up g3.eh).mono g3.eb
    refine t_newL (B0 := B3) (H0 := H3) 4 (Go.rfl g3.wd) (sl.mono g3.eb) nd fun A2 σ4 H4 hA2 _ g4 hB42 hH42 sl => ?_
    have hA2H : H A2 = none := gW3.eh.free hA2
    have d4 := d3.up g4.eh
    have gW4 := gW3.trans g4
    refine t_forL (ds := newest.map .int) 5 (fun j σ' B' H' => Sl B' σ' [.dat (encG gr), .dat (.int i), .val (.ref A), .dat (encR newest), .val (.ref A2), .no, .no] ∧ B' A = none ∧ B' A2 = none ∧ Ex B B' ∧ ∃ s, s = (newest.take j).foldl (Cz.visitAll (adjZ gr m)) (fW, []) ∧ Dic B H' B' A (cnt N s.1) s.1 ∧ (∃ xs, H' A2 = some (.lst xs) ∧ Dts B' xs (s.2.map .int)) ∧ (∀ v, s.1 v ≠ none → isThr gr m v) ∧ cnt N s.1 = cnt N fW + s.2.length) gW4 (ed_v 3 sl rfl) nd (passes_of rfl) rfl
      (fun B5 H5 g5 g6 => ⟨(sl.mono g6.eb).weak ⟨.inr rfl, .inr rfl, .inr rfl, .inr rfl, .inr rfl, .inr rfl, .inr rfl, trivial⟩, g6.out hB3 d4.there, g6.out hB42 (by rw [hH42]; exact fun z => nomatch z), g5.eb, _, rfl, (d4.up g6.eh).mono g6.eb, ⟨[], g6.eh.lst hH42, .nil⟩, thr, rfl⟩)
      (fun j d v σ' B' H' hd gA gB xb rv ⟨sl, hBA, hBA2, xB, s, hs, dS, ⟨xs, hxs, rxs⟩, thS, hcnt⟩ => ?_) (fun σ' B5 H5 g5 _ ⟨sl, hBA, hBA2, xB, s, hs, dS, ⟨xs, hxs, rxs⟩, thS, hcnt⟩ => ?_)
    · rw [List.getElem?_map] at hd
      obtain ⟨t, ht, rfl⟩ := Option.map_eq_some_iff.mp hd
      have htm : t ∈ newest := List.mem_of_getElem? ht
      obtain ⟨Pt, hPt, _⟩ := (L.l3 t).mp htm
      have thT := thr t (by rw [hPt]; exact fun z => nomatch z)
      have hPl : Pt.length = n + 1 := (L.path htm hPt).1.len
      have sPt : s.1 t = some Pt := by rw [hs]; exact keep2 _ _ t Pt hPt
      have sl := sl.set (o := some v) (s := .dat (.int t)) ⟨v, rfl, rv⟩ 5
      refine t_forL (ds := (adjZ gr m t).map .int) 6 (fun j2 σ' B' H' => Sl B' σ' [.dat (encG gr), .dat (.int i), .val (.ref A), .dat (encR newest), .val (.ref A2), .dat (.int t), .no] ∧ B' A = none ∧ B' A2 = none ∧ Ex B B' ∧ ∃ s2, s2 = ((adjZ gr m t).take j2).foldl (Cz.visit t) s ∧ Dic B H' B' A (cnt N s2.1) s2.1 ∧ (∃ xs, H' A2 = some (.lst xs) ∧ Dts B' xs (s2.2.map .int)) ∧ (∀ v, s2.1 v ≠ none → isThr gr m v) ∧ cnt N s2.1 = cnt N fW + s2.2.length) gB
        ((ev_fnS (P := fun B B' v => NewD B B' v (beneathD gr m t)) (f_lowT M) hr (eg_d (ed_v 0 sl rfl) (eg_d (ed_v 5 sl rfl) eg_nil)) rfl (fun _ _ => ⟨_, _, _, rfl, hc, thT, rfl⟩) (fun _ _ _ x n => n.back x)).imp fun B' v _ n => by
          have := n.dt
          rw [adj_ints] at this
          exact this) nd (passes_of rfl) rfl
        (fun B6 H6 g6 g7 => ⟨(sl.mono g7.eb).weak ⟨.inr rfl, .inr rfl, .inr rfl, .inr rfl, .inr rfl, .inr rfl, .inr rfl, trivial⟩, g7.out hBA dS.there, g7.out hBA2 (by rw [hxs]; exact fun z => nomatch z), xB.trans g7.eb, s, rfl, (dS.up g7.eh).mono g7.eb, ⟨xs, g7.eh.lst hxs, rxs.mono g7.eb⟩, thS, hcnt⟩)
        (fun j2 d2 v2 σ2 B6 H6 hd2 gA2 gB2 xb2 rv2 ⟨sl, hBA, hBA2, xB, s2, hs2, dS, ⟨xs, hxs, rxs⟩, thS, hcnt⟩ => ?_) (fun σ2 B6 H6 g6 _ ⟨sl, hBA, hBA2, xB, s2, hs2, dS, ⟨xs, hxs, rxs⟩, thS, hcnt⟩ => ?_)
      · rw [List.getElem?_map] at hd2
        obtain ⟨o, ho, rfl⟩ := Option.map_eq_some_iff.mp hd2
        have hom : o ∈ adjZ gr m t := List.mem_of_getElem? ho
        have thO := (adj_mem hom).1
        have sPt2 : s2.1 t = some Pt := by rw [hs2]; exact keep1 t _ s t Pt sPt
        have hneA : A ≠ A2 := dS.not_lst hxs
        have hstep : ((adjZ gr m t).take (j2 + 1)).foldl (Cz.visit t) s = Cz.visit t s2 o := by
          rw [List.take_add_one, ho, List.foldl_append, hs2]
          rfl
        have sl := sl.set (o := some v2) (s := .dat (.int o)) ⟨v2, rfl, rv2⟩ 6
        obtain ⟨Bb, gS, xS, dB, nA, nX⟩ := dS.into gB2 hA0 hBA
        have hu2 := hu hr
        refine t_when (Go.rfl gS.wd) (sl.mono xS) (et_dnotin hu2 dB (ed_v 6 (sl.mono xS) rfl) (ev_v 2 (sl.mono xS) rfl)) (fun c B7 H7 g7 _ => ?_) fun c B7 H7 g7 _ => ?_
        · -- not found yet
          have cn : s2.1 o = none := by
            cases e : s2.1 o with
            | none => rfl
            | some q => rw [e] at c; cases c
          have gD := (gS.trans g7).drop hBA
          have xD : Ex B6 (del B7 A) := ex_del (xS.trans g7.eb) hBA
          have slD := sl.mono xD
          have dD := (dS.up g7.eh).mono xD
          have h7 : H7 A2 = some (.lst xs) := g7.eh.lst hxs
          have b7 : del B7 A A2 = none := by
            rw [del_ne (fun z => hneA z.symm)]
            exact g7.out (by rw [nX A2 (fun z => hneA z.symm)]; exact hBA2) (by rw [hxs]; exact fun z => nomatch z)
          refine t_dput (p := Pt ++ [o]) hu2 gD slD hA0 hBA del_same (xB.trans xD) dD (by have := cnt_le N s2.1; omega) (ev_v 2 slD rfl) (ed_v 6 slD rfl) (fun C xC dC => ?_) fun B8 H8 g8 x8 sl8 hB8 d8 k8 o8 => ?_
          · have e : (Pt ++ [o]).map PyData.int = Pt.map .int ++ [.int o] := by rw [List.map_append]; rfl
            rw [e]
            exact en_cat (ed_dget hu2 dC (ev_v 2 (slD.mono xC) rfl) (ed_v 5 (slD.mono xC) rfl) sPt2) (ed_list (ea_cons (ed_v 6 (slD.mono xC) rfl) ea_nil) (few rfl)) (by rw [List.length_map]; simp only [List.length_cons, List.length_nil]; omega)
          · have h82 := k8 A2 (fun z => hneA z.symm) xs h7
            have b82 := o8 A2 (fun z => hneA z.symm) b7 (by rw [h7]; exact fun z => nomatch z)
            have hl2 : s2.2.length ≤ 24 := by have := cnt_le N s2.1; omega
            have x68 := xD.trans x8
            refine s_app (i := 4) g8.wd (sl8.val (i := 4) rfl) h82 b82 (by rw [rxs.length, List.length_map]; omega) (ed_v 6 sl8 rfl) (fun v9 B9 H9 g9 r9 _ h9 b9 => ?_) rfl (by first | exact Or.inl rfl | exact Or.inr (Or.inl rfl)) (by decide) (by decide) rfl (fun q1 q2 => pe_bm PySem.F.plainAttrs_list PySem.F.slot_list_append PySem.F.type_list_append mt_append q1 q2) rfl
            have hv : Cz.visit t s2 o = (Cw.putF s2.1 o (Pt ++ [o]), s2.2 ++ [o]) := by
              unfold Cz.visit
              rw [if_neg (by rw [cn]; decide), sPt2]
              rfl
            have hcp := cnt_put (p := Pt ++ [o]) (thrN thO).1 (thrN thO).2 cn
            refine s_nil (s_nil ⟨B9, (g8.trans g9).mutD hA2H b9 h9, (sl8.mono g9.eb).weak ⟨.inr rfl, .inr rfl, .inr rfl, .inr rfl, .inr rfl, .inr rfl, .inl rfl, trivial⟩, g9.out hB8 d8.there, b9, (xB.trans x68).trans g9.eb, _, hstep.symm, ?_, ?_, ?_, ?_⟩)
            · rw [hv]
              show Dic B _ B9 A (cnt N (Cw.putF s2.1 o (Pt ++ [o]))) (Cw.putF s2.1 o (Pt ++ [o]))
              rw [hcp]
              exact ((d8.up g9.eh).mono g9.eb).ne hneA
            · rw [hv]
              refine ⟨_, upd_same, ?_⟩
              show Dts B9 (xs ++ [v9]) ((s2.2 ++ [o]).map .int)
              rw [List.map_append]
              exact (rxs.mono (x68.trans g9.eb)).append (.one r9)
            · rw [hv]
              intro v hv2
              by_cases e : v = o
              · rw [e]
                exact thO
              · exact thS v (by
                  have : Cw.putF s2.1 o (Pt ++ [o]) v = s2.1 v := if_neg e
                  rw [← this]
                  exact hv2)
            · rw [hv]
              show cnt N (Cw.putF s2.1 o (Pt ++ [o])) = cnt N fW + (s2.2 ++ [o]).length
              rw [hcp, hcnt, List.length_append]
              rfl
        · have cs : (s2.1 o).isSome = true := by rw [Bool.not_eq_false'] at c; exact c
          have gD := (gS.trans g7).drop hBA
          have xD : Ex B6 (del B7 A) := ex_del (xS.trans g7.eb) hBA
          have hv : Cz.visit t s2 o = s2 := by
            unfold Cz.visit
            rw [if_pos cs]
          have b7 : del B7 A A2 = none := by
            rw [del_ne (fun z => hneA z.symm)]
            exact g7.out (by rw [nX A2 (fun z => hneA z.symm)]; exact hBA2) (by rw [hxs]; exact fun z => nomatch z)
          exact s_nil ⟨del B7 A, gD, (sl.mono xD).weak ⟨.inr rfl, .inr rfl, .inr rfl, .inr rfl, .inr rfl, .inr rfl, .inl rfl, trivial⟩, del_same, b7, xB.trans xD, s2, by rw [hstep, hv], (dS.up g7.eh).mono xD, ⟨xs, g7.eh.lst hxs, rxs.mono xD⟩, thS, hcnt⟩
      · refine s_nil ⟨B6, g6, sl.weak ⟨.inr rfl, .inr rfl, .inr rfl, .inr rfl, .inr rfl, .inl rfl, .inr rfl, trivial⟩, hBA, hBA2, xB, s2, ?_, dS, ⟨xs, hxs, rxs⟩, thS, hcnt⟩
        rw [List.take_add_one, ht, List.foldl_append, ← hs, hs2, List.length_map, List.take_length]
        rfl
    · have hl : s = Cz.level (adjZ gr m) fW newest := by
        rw [hs, List.length_map, List.take_length]
        rfl
      have hneA : A ≠ A2 := dS.not_lst hxs
      have sl2 := sl.settle 4 rfl hBA2 rxs
      have g6 := g5.settle hA2H hBA2 hxs
      have x6 : Ex B5 (upd B5 A2 (.lst xs)) := Ex.new hBA2
      have b6 : upd B5 A2 (.lst xs) A = none := by rw [upd_ne hneA]; exact hBA
      generalize upd B5 A2 (.lst xs) = B6 at sl2 g6 x6 b6
      refine t_set 3 (Go.rfl g6.wd) sl2 nd (d := encR s.2) (ed_v 4 sl2 rfl) fun σ7 B7 H7 g7 sl7 => ?_
      have Ln := L.next fun t _ => adj_rise gr m t
      rw [← hl] at Ln
      have hcl2 := cnt_le N s.1
      refine s_nil ⟨_, B7, ?_, n + 1, s.1, s.2, g6.trans g7, sl7.weak ⟨.inr rfl, .inr rfl, .inr rfl, .inr rfl, .inl rfl, .inr rfl, .inr rfl, trivial⟩, g7.out b6 dS.there, ((dS.mono x6).up g7.eh).mono g7.eb, Ln, thS, ?_, rfl⟩
      · rw [hm, if_neg hne]
        by_cases e : s.2 = []
        · rw [if_pos e]
          omega
        · rw [if_neg e]
          have : 1 ≤ s.2.length := List.length_pos_iff.mpr e
          omega
      · by_cases e : s.2 = []
        · exact .inl e
        · have : 1 ≤ s.2.length := List.length_pos_iff.mpr e
          exact .inr (by omega)
  · have hnil : newest = [] := by
      cases newest with
      | nil => rfl
      | cons a l => cases c
    subst hnil
    have gW3 := gW.trans g3
    refine t_retR gW3 (ev_v 2 (sl.mono g3.eb) rfl) fun v B4 H4 g4 g5 r => ?_
    subst r
    have d4 := ((dW.up g3.eh).mono g3.eb |>.up g5.eh).mono g5.eb
    obtain ⟨Bb, gS, xS, dB, _, _⟩ := d4.into g4 hA0 (g5.out (g3.out hBA dW.there) ((dW.up g3.eh).there))
    obtain ⟨kvs, e1, e2, e3⟩ := dB
    exact ⟨Bb, gS, A, fW, rfl, hB0, ⟨kvs, e1, Nat.le_trans e2 (Nat.le_trans (cnt_le N fW) hN24), e3⟩, L.done, thr⟩
end ways

section waydic
theorem dic_back {Bs Bt H B : Hp} {a : Addr} {n : Nat} {f : Int → Option (List Int)} (d : Dic Bs H B a n f) (x : Ex Bt Bs) : Dic Bt H B a n f := by
  obtain ⟨kvs, h1, h2, h3⟩ := d
  refine ⟨kvs, h1, h2, fun k => ?_⟩
  have := h3 k
  revert this
  cases f k with
  | none => exact fun h => h
  | some p => exact fun ⟨v, h, r⟩ => ⟨v, h, r.back x⟩
end waydic

section allways
variable {P : Program} {w : World} {K : PySem.W.Frag} {mg : Str → Option Value} {base : Heap} {T : List Addr}
/-! ### all ways; what reaches what -/
noncomputable def rG (g : List (List Int)) (m : Nat) : Int → Int → Bool := Cz.rchB (adjZ g m)
theorem ways_keys {adj : Int → List Int} {i : Int} {f : Int → Option (List Int)} (h : WaysIs adj i f) : (fun k => (f k).isSome) = Cz.rchB adj i := funext fun k => by
  obtain ⟨h1, h2⟩ := h k
  rw [Bool.eq_iff_iff, Cz.rch_iff]
  cases e : f k with
  | none => exact ⟨fun z => Bool.noConfusion z, fun ⟨n, p, z⟩ => absurd z (h2 e n p)⟩
  | some p =>
    obtain ⟨n, _, l⟩ := h1 p e
    exact ⟨fun _ => ⟨n, p, l.1⟩, fun _ => rfl⟩
/-- v: a list of n dicts, the keys of the i-th told by r i -/
def WysR (r : Int → Int → Bool) (n : Nat) (B : Hp) (v : V) : Prop := LstR (fun i => KeyD (r (i : Int))) n B v
theorem WysR.mono {r : Int → Int → Bool} {n : Nat} {B C : Hp} {v : V} (x : Ex B C) (h : WysR r n B v) : WysR r n C v := LstR.mono (fun _ _ _ _ x h => h.mono x) x h
/-- all of it new -/
def NewW (r : Int → Int → Bool) (n : Nat) (B B' : Hp) (v : V) : Prop := (∃ D, v = .ref D ∧ B D = none) ∧ LstR (fun i B' v => KeyD (r (i : Int)) B' v ∧ ∃ a, v = .ref a ∧ B a = none) n B' v
theorem NewW.is {r : Int → Int → Bool} {n : Nat} {B B' : Hp} {v : V} (h : NewW r n B B' v) : WysR r n B' v := by
  obtain ⟨_, D, xs, e, h1, h2, h3⟩ := h
  exact ⟨D, xs, e, h1, h2, fun i x hx => (h3 i x hx).1⟩
theorem NewW.back {r : Int → Int → Bool} {n : Nat} {A B B' : Hp} {v : V} (x : Ex A B) (h : NewW r n B B' v) : NewW r n A B' v := by
  obtain ⟨⟨D0, e0, h0⟩, D, xs, e, h1, h2, h3⟩ := h
  exact ⟨⟨D0, e0, x.free h0⟩, D, xs, e, h1, h2, fun i y hy => ⟨(h3 i y hy).1, let ⟨a, ea, ha⟩ := (h3 i y hy).2; ⟨a, ea, x.free ha⟩⟩⟩
def sgAllW : Sg := ⟨1, fun _ as P => ∃ g m, as = [.dat (encG g)] ∧ Cz.IsCloth g m ∧ P = fun B B' v => NewW (rG g m) (g.length + m) B B' v, nox⟩
theorem f_allW (M : Md K mg) : FnS P w K mg base T "all_ways" 5 sgAllW := by
  refine fn_D M.d_all_ways c_all_ways rfl fun f cdv A outer s H vs E B as R hr g sl hp => ?_
  obtain ⟨gr, m, rfl, hc, rfl⟩ := hp
  have hrows := hc.rows
  have hwarps := hc.warps
  refine t_retR g (ev_lcR (n := (gr.length : Int) + m) (R := fun i B' v => KeyD (rG gr m (i : Int)) B' v ∧ ∃ a, v = .ref a ∧ B a = none) (fun _ _ _ _ x h => ⟨h.1.mono x, h.2⟩) (bk_fn (j := 1) c_all_ways (by decide +kernel)) (ed_fn (f_many M) (hr.mono (show 1 ≤ 4 by decide)) (eg_d (ed_v 0 sl rfl) eg_nil) rfl fun _ _ => ⟨_, _, rfl, hc, rfl⟩) (by omega) M.bi fun s H A cl fp i B1 hi x => ?_) fun v B' H' g1 _ r => ⟨B', g1, ?_⟩
  · have slB := sl.blkI (i := (i : Int)) x 1
    refine (ev_fnS (P := fun B B' v => ∃ A f, v = .ref A ∧ B A = none ∧ Dic B B' B' A 24 f ∧ WaysIs (adjZ gr m) (i : Int) f ∧ ∀ v, f v ≠ none → isThr gr m v) (f_ways M) hr (eg_d (ed_v 0 slB rfl) (eg_d (ed_v 1 slB rfl) eg_nil)) rfl (fun _ _ => ⟨_, _, _, rfl, hc, ⟨by omega, hi⟩, rfl⟩) (fun B1 B2 v x ⟨A, f, e, h0, d, r⟩ => ⟨A, f, e, x.free h0, dic_back d x, r⟩)).imp fun B' v _ ⟨A, f, e, h0, d, wW, _⟩ => ⟨?_, A, e, x.free h0⟩
    have := d.key
    rw [ways_keys wW] at this
    rw [e]
    exact this
  · rw [show ((gr.length : Int) + m).toNat = gr.length + m by omega] at r
    exact r
end allways

section layer
variable {P : Program} {w : World} {K : PySem.W.Frag} {mg : Str → Option Value} {base : Heap} {T : List Addr}
/-! ### the layer with a thread, the layers by their least threads -/
theorem ev_wys {T : List Addr} {X : Cx} {e : Expr} {σ : L2.St} {B B1 : Hp} {u : V} {r : Int → Int → Bool} {n : Nat} (h : EV T X e σ B1 fun _ v => v = u) (hw : WysR r n B u) (x : Ex B B1) : EV T X e σ B1 fun B' v => WysR r n B' v :=
  h.imp fun B' v y e => by rw [e]; exact (hw.mono x).mono y
theorem lay_made (N : Nat) (r : Int → Int → Bool) (t : Int) : PyData.list (madeR (fun o => r t o && r o t) (fun k => .int k) 0 N) = encR (Cz.layZ N r t) := by
  unfold madeR Cz.layZ Cz.thN encR
  refine congrArg (fun l : List Int => PyData.list (l.map .int)) ?_
  refine congrArg (List.filter _) (List.map_congr_left fun k _ => ?_)
  omega
def sgLay : Sg := ⟨2, fun B as P => ∃ v r N t, as = [.val v, .dat (.int t)] ∧ WysR r N B v ∧ 0 ≤ t ∧ t < (N : Int) ∧ N ≤ 24 ∧ P = isd (encR (Cz.layZ N r t)), nox⟩
theorem f_layer (M : Md K mg) : FnS P w K mg base T "layer_with" 1 sgLay := by
  refine fn_D M.d_layer_with c_layer_with rfl fun f cdv A outer s H vs E B as R hr g sl hp => ?_
  obtain ⟨v, r, N, t, rfl, hw, h0, h1, hN, rfl⟩ := hp
  have hu : ∀ {A : Around}, Room 0 A → A.units + 1 < cLine := fun h => by have := room_units h; omega
  have mK : MonoN fun (i : Nat) B v => KeyD (r (i : Int)) B v := fun _ _ _ _ x h => h.mono x
  refine t_ret g (ed_is (LC.ed (lc_R1 (n := (N : Int)) (fun o => r t o && r o t) (fun k => .int k) (bk_fn (j := 2) c_layer_with (by decide +kernel)) (ed_lenR mK (ev_wys (ev_v 0 sl rfl) hw .rfl) M.bi) (by omega) M.bi (fun s H A cl fp k B1 k1 k2 x => ?_) fun s H A cl fp k B1 k1 k2 _ x => ed_v 2 (sl.blkI x 2) rfl)) ?_) fun v B' H' g r => ⟨B', g, r⟩
  · have slB := sl.blkI (i := k) x 2
    refine ets_one (EWt.et (ew_and ((et_inK (S := r t) (hu hr) (ed_v 2 slB rfl) ((ev_ixR mK (ev_wys (ev_v 0 slB rfl) hw x) (ed_v 1 slB rfl) h0 h1).imp fun B' v _ h => ?_))) fun _ => ew_and1 ((et_inK (S := r k) (hu hr) (ed_v 1 slB rfl) ((ev_ixR mK (ev_wys (ev_v 0 slB rfl) hw x) (ed_v 2 slB rfl) k1 k2).imp fun B' v _ h => ?_)))))
    · rw [show ((t.toNat : Nat) : Int) = t by omega] at h
      exact h
    · rw [show ((k.toNat : Nat) : Int) = k by omega] at h
      exact h
  · rw [Int.toNat_natCast]
    exact lay_made N r t
theorem enum_map {p : Nat → PyData → Bool} {F : Nat → PyData} {N : Nat} : ∀ n, n ≤ N → enumD p ((List.range N).map F) n = ((List.range n).filter fun k => p k (F k)).map F := by
  intro n
  induction n with
  | zero => intro _; rfl
  | succ n ih =>
    intro h
    have hd : ((List.range N).map F)[n]? = some (F n) := by
      rw [List.getElem?_map, List.getElem?_range (by omega)]
      rfl
    rw [enumD_more hd, ih (by omega), List.range_succ, List.filter_append, List.map_append]
    by_cases c : p n (F n) = true
    · rw [if_pos c, List.filter_cons_of_pos (p := fun k => p k (F k)) c]
      rfl
    · rw [if_neg c, List.filter_cons_of_neg (p := fun k => p k (F k)) c, List.filter_nil, List.map_nil, List.append_nil]
def headI (d : PyData) : Int := ((unR d).map intOf).headD 0
theorem headI_R (l : List Int) : headI (encR l) = l.headD 0 := by
  unfold headI
  rw [show ((unR (encR l)).map intOf) = l by
    show (l.map PyData.int).map intOf = l
    rw [List.map_map]
    exact List.map_id' l]
theorem head_at {l : List Int} (h : l ≠ []) : atI (l.map PyData.int) (0 : Int) = some (.int (l.headD 0)) := by
  cases l with
  | nil => exact absurd rfl h
  | cons a l => exact atI_of_get (by decide) rfl
theorem least_enum (N : Nat) (r : Int → Int → Bool) : enumD (fun k d => decide (headI d = (k : Int))) ((List.range N).map fun (k : Nat) => encR (Cz.layZ N r k)) N = (Cz.leastZ N r).map encR := by
  rw [enum_map N (Nat.le_refl N)]
  unfold Cz.leastZ Cz.thN
  rw [List.map_map, List.filter_map, List.map_map]
  refine (congrArg (List.map _) (List.filter_congr fun k _ => ?_))
  show decide (headI (encR (Cz.layZ N r k)) = (k : Int)) = decide ((Cz.layZ N r k).headD 0 = (k : Int))
  rw [headI_R]
def sgLeast : Sg := ⟨1, fun B as P => ∃ v r N, as = [.val v] ∧ WysR r N B v ∧ Cz.Rr N r ∧ N ≤ 24 ∧ P = fun B B' v => NewD B B' v ((Cz.leastZ N r).map encR), nox⟩
theorem f_least (M : Md K mg) : FnS P w K mg base T "layers_by_least" 2 sgLeast := by
  refine fn_D M.d_layers_by_least c_layers_by_least rfl fun f cdv A outer s H vs E B as R hr g sl hp => ?_
  obtain ⟨v, r, N, rfl, hw, hR, hN, rfl⟩ := hp
  have mK : MonoN fun (i : Nat) B v => KeyD (r (i : Int)) B v := fun _ _ _ _ x h => h.mono x
  have h3 : 3 < (L2.start ["ways", "by_thread", "thread", "layer"] vs).length := by
    obtain ⟨o, ho, _⟩ := sl.get (i := 3) (s := .no) rfl
    exact (List.getElem?_eq_some_iff.mp ho).1
  have e1 : madeR (fun _ => true) (fun k => encR (Cz.layZ N r k)) 0 ((N : Int)).toNat = (List.range N).map fun (k : Nat) => encR (Cz.layZ N r k) := by
    rw [madeR_all, Int.toNat_natCast]
    refine List.map_congr_left fun k _ => ?_
    rw [Int.zero_add]
  refine t_setLc (ds := (List.range N).map fun (k : Nat) => encR (Cz.layZ N r k)) 1 g sl (e1 ▸ lc_R1 (n := (N : Int)) (fun _ => true) (fun k => encR (Cz.layZ N r k)) (bk_fn (j := 2) c_layers_by_least (by decide +kernel)) (ed_lenR mK (ev_wys (ev_v 0 sl rfl) hw .rfl) M.bi) (by omega) M.bi (fun s H A cl fp k B1 k1 k2 x => ets_nil) fun s H A cl fp k B1 k1 k2 _ x => ?_) fun σ B1 H1 g1 sl1 => ?_
  · have slB := sl.blkI (i := k) x 2
    exact ed_fn (f_layer M) hr (eg_v (ev_v 0 slB rfl) (eg_d (ed_v 2 slB rfl) eg_nil)) rfl fun B2 x2 => ⟨_, _, _, _, rfl, hw.mono (x.trans x2), k1, k2, hN, rfl⟩
  have h3 : 3 < σ.length := by
    obtain ⟨o, ho, _⟩ := sl1.get (i := 3) (s := .no) rfl
    exact (List.getElem?_eq_some_iff.mp ho).1
  have lr : ((List.range N).map fun (k : Nat) => encR (Cz.layZ N r k)).length = N := by rw [List.length_map, List.length_range]
  have at_ : ∀ {k : Nat} {d : PyData}, ((List.range N).map fun (k : Nat) => encR (Cz.layZ N r k))[k]? = some d → d = encR (Cz.layZ N r k) ∧ Cz.layZ N r k ≠ [] := fun {k d} h => by
    have hk : k < N := by
      have := (List.getElem?_eq_some_iff.mp h).1
      omega
    rw [List.getElem?_map, List.getElem?_range hk] at h
    cases h
    exact ⟨rfl, List.ne_nil_of_mem (Cz.lay_self hR (Cz.thN_mem.mpr ⟨by omega, by omega⟩))⟩
  refine t_retR g1 (en_enum (ds := (List.range N).map fun (k : Nat) => encR (Cz.layZ N r k)) (jx := 2) (jy := 3) (fun k d => decide (headI d = (k : Int))) rfl c_layers_by_least.nd M.bi ?_ (fun s H A cl fp => ?_) (ed_v 1 sl1 rfl) (by omega) (fun s H A cl fp k d v B2 hd x rv => ?_) (fun s H A cl fp k d v B2 hd x rv => ?_) (fun v u => ?_)) fun v B' H' g _ n => ⟨B', g, ?_⟩
  · exact blkOk_by (by
      show blkC (["ways", "by_thread", "thread", "layer"] : List Str) (defScope s_layers_by_least) _ [("thread", 2), ("layer", 3)] = true
      decide +kernel)
  · exact pg_tup rfl (pgs_cons (pg_name (i := 2) c_layers_by_least.nd rfl (.inl (lookup_relabel_local rfl)) (.inr (lookup_relabel_local rfl))) (pgs_cons (pg_name (i := 3) c_layers_by_least.nd rfl (.inl (lookup_relabel_local rfl)) (.inr (lookup_relabel_local rfl))) pgs_nil))
  · obtain ⟨rfl, ne⟩ := at_ hd
    refine ets_one (et_is (ec_eqI (ed_ix (ev_var (v := v) 3 (by rw [List.getElem?_set_self (by rw [List.length_set, wipe_length]; exact h3)]) rv) ed_int (head_at ne)) (ev_var (v := .int (k : Int)) 2 (by rw [List.getElem?_set_ne (by decide), List.getElem?_set_self (by rw [wipe_length]; omega)]) (.int _))).et ?_)
    rw [headI_R]
  · exact ev_var (v := v) 3 (by rw [List.getElem?_set_self (by rw [List.length_set, wipe_length]; exact h3)]) rv
  · simp [L2.wipe, List.set_comm]
  · have := n.back g1.eb
    rw [lr, least_enum N r] at this
    exact this
end layer

section mayz
variable {P : Program} {w : World} {K : PySem.W.Frag} {mg : Str → Option Value} {base : Heap} {T : List Addr}
open GxR (GenS)
/-! ### what may come next -/
theorem cell_layer : List.lookup ("layer" : Str) (defScope s_may_come_next).names = some NameKind.cell := by decide +kernel
theorem cell_ways : List.lookup ("ways" : Str) (defScope s_may_come_next).names = some NameKind.cell := by decide +kernel
def listI (d : PyData) : List Int := (unR d).map intOf
theorem listI_R (l : List Int) : listI (encR l) = l := by
  show (l.map PyData.int).map intOf = l
  rw [List.map_map]
  exact List.map_id' l
def mayB (r : Int → Int → Bool) (l : List Int) (d : PyData) : Bool := decide (listI d = l) || !r ((listI d).headD 0) (l.headD 0)
theorem may_all (r : Int → Int → Bool) (l : List Int) (L : List (List Int)) : (L.map encR).all (mayB r l) = Cz.mayZ r L l := by
  unfold Cz.mayZ
  rw [List.all_map]
  refine List.all_congr rfl fun o => ?_
  show mayB r l (encR o) = _
  unfold mayB
  rw [listI_R]
def sgMay : Sg := ⟨3, fun B as P => ∃ v r N l L, as = [.val v, .dat (encR l), .dat (encG L)] ∧ WysR r N B v ∧ l ≠ [] ∧ (∀ o ∈ L, o ≠ [] ∧ 0 ≤ o.headD 0 ∧ o.headD 0 < (N : Int)) ∧ P = isd (.bool (Cz.mayZ r L l)), nox⟩
theorem f_may (M : Mt K mg base T) : FnS P w K mg base T "may_come_next" 3 sgMay := by
  refine fn_DC M.t_may_come_next c_may_come_next rfl fun f cd Pt A outer s H vs E B as R hP TB hr g sl hp => ?_
  obtain ⟨u, r, N, l, L, rfl, hw, hl, hL, rfl⟩ := hp
  obtain ⟨vl, hvl, dvl⟩ := sl.dat (i := 1) rfl
  have hv0 := sl.val (i := 0) rfl
  have mK : MonoN fun (i : Nat) B v => KeyD (r (i : Int)) B v := fun _ _ _ _ x h => h.mono x
  refine t_ret g (ed_is (ed_allG (k := 1) (fr := [("layer", 1), ("ways", 0)]) (pb := mayB r l) hr M.m.bi hP TB rfl ⟨rfl, rfl, by decide +kernel, by decide +kernel, by decide +kernel, ?_⟩ ⟨by decide, fun p hp => ?_⟩ (ed_v 2 sl rfl) fun s H0 C code A' fp d v B1 hrm hd x rv => ?_) (congrArg PyData.bool (may_all r l L))) fun v B' H' g r => ⟨B', g, r⟩
  · intro y hy hf
    rcases List.mem_cons.mp hy with rfl | hy
    · cases hf
    rcases List.mem_cons.mp hy with rfl | hy
    · cases hf
    rcases List.mem_cons.mp hy with rfl | hy
    · exact ⟨_, rfl⟩
    cases List.mem_singleton.mp hy
    exact ⟨_, rfl⟩
  · rcases List.mem_cons.mp hp with rfl | hp
    · exact ⟨rfl, by decide +kernel, .inl cell_layer⟩
    · cases List.mem_singleton.mp hp
      exact ⟨rfl, by decide +kernel, .inl cell_ways⟩
  · obtain ⟨o, ho, rfl⟩ := List.mem_map.mp hd
    obtain ⟨one, o0, o1⟩ := hL o ho
    have sl1 : Sl B1 (some v :: [("layer", 1), ("ways", 0)].map fun p => ((L2.start ["ways", "layer", "left"] vs)[p.2]?).join) [.dat (encR o), .dat (encR l), .val u] := ⟨⟨v, rfl, rv⟩, ⟨vl, by show ((L2.start ["ways", "layer", "left"] vs)[1]?).join = some vl; rw [hvl]; rfl, dvl.mono x⟩, by show ((L2.start ["ways", "layer", "left"] vs)[0]?).join = some u; rw [hv0]; rfl, trivial⟩
    have hu : A'.units + 1 < cLine := by have := room_units hrm; omega
    refine ed_is (ed_or (k := decide (o = l)) (m := !r (o.headD 0) (l.headD 0)) (ec_eqR hrm (ed_v 0 sl1 rfl) (ed_v 1 sl1 rfl)).ed fun _ => ed_one (ed_notinK (S := r (o.headD 0)) hu (ed_ix (ed_v 1 sl1 rfl) ed_int (head_at hl)) ((ev_ixR mK (ev_wys (ev_v 2 sl1 rfl) hw x) (ed_ix (ed_v 0 sl1 rfl) ed_int (head_at one)) o0 o1).imp fun B' v _ h => ?_))) ?_
    · rw [show (((o.headD 0).toNat : Nat) : Int) = o.headD 0 by omega] at h
      exact h
    · unfold mayB
      rw [listI_R]
end mayz

section layersdef
variable {P : Program} {w : World} {K : PySem.W.Frag} {mg : Str → Option Value} {base : Heap} {T : List Addr}
/-! ### the layers -/
/-- what of C the base B does not know -/
def newOf (B C : Hp) : Hp := fun a => match B a with
  | none => C a
  | some _ => none
theorem newOf_none {B C : Hp} {a : Addr} (h : B a = none) : newOf B C a = C a := by
  unfold newOf
  rw [h]
theorem newOf_ex {B C : Hp} : Ex (newOf B C) C := fun a o h => by
  cases q : B a with
  | none =>
    rw [newOf_none q] at h
    exact .inl h
  | some u =>
    unfold newOf at h
    rw [q] at h
    cases h
theorem newOf_free {B C : Hp} {a : Addr} (h : newOf B C a ≠ none) : B a = none := by
  cases q : B a with
  | none => rfl
  | some u =>
    unfold newOf at h
    rw [q] at h
    exact absurd rfl h
theorem NewW.sub {r : Int → Int → Bool} {n : Nat} {B B' : Hp} {v : V} (h : NewW r n B B' v) : WysR r n (newOf B B') v := by
  obtain ⟨⟨D0, e0, h0⟩, D, xs, e, h1, h2, h3⟩ := h
  have eD : D0 = D := by rw [e] at e0; cases e0; rfl
  subst eD
  refine ⟨D0, xs, e, by rw [newOf_none h0]; exact h1, h2, fun i x hx => ?_⟩
  obtain ⟨⟨a, kvs, ea, ha, hk⟩, a2, e2, h2⟩ := h3 i x hx
  have : a = a2 := by rw [ea] at e2; cases e2; rfl
  subst this
  exact ⟨a, kvs, ea, by rw [newOf_none h2]; exact ha, hk⟩
theorem row_ref {B : Hp} {x : V} {l : List Int} (h : Dt B x (encR l)) : ∃ a, x = .ref a ∧ B a = some (.lst (l.map V.int)) := by
  obtain ⟨a, xs, e, h1, h2⟩ := h.toList
  rw [h2.ints] at h1
  exact ⟨a, e, h1⟩
/-- a list of lists of ints is none of these -/
theorem row_other {B : Hp} {A a : Addr} {ws : List V} {L : List (List Int)} {l : List Int} (h : B A = some (.lst ws)) (r : Dts B ws (L.map encR)) (ha : B a = some (.lst (l.map V.int))) (hl : l ≠ []) : a ≠ A := fun e => by
  subst e
  rw [h] at ha
  cases ha
  cases l with
  | nil => exact hl rfl
  | cons i l =>
    cases L with
    | nil => cases r
    | cons g L =>
      cases r with
      | cons h1 _ =>
        obtain ⟨b, e, _⟩ := row_ref h1
        cases e
theorem dts_del {B : Hp} {A : Addr} {ws : List V} {L : List (List Int)} (h : B A = some (.lst ws)) (r : Dts B ws (L.map encR)) : ∀ {xs : List V} {M : List (List Int)}, Dts B xs (M.map encR) → (∀ l ∈ M, l ≠ []) → Dts (del B A) xs (M.map encR)
  | [], [], _, _ => .nil
  | x :: xs, l :: M, .cons h1 hr, hl => by
    obtain ⟨a, rfl, ha⟩ := row_ref h1
    have ne := row_other h r ha (hl l (List.mem_cons_self ..))
    exact .cons (.lst (by rw [del_ne ne]; exact ha) (Dts.ofInts l)) (dts_del h r hr fun l h => hl l (List.mem_cons_of_mem _ h))
theorem rows_new {B C : Hp} (hn : ∀ a, C a ≠ none → B a = none) : ∀ {ys : List V} {L : List (List Int)}, Dts C ys (L.map encR) → ∃ rs : List Addr, ys = rs.map V.ref ∧ Rws B C rs (L.map fun l => l.map .int) ∧ ∀ (i : Nat) a, rs[i]? = some a → ∃ l, L[i]? = some l ∧ C a = some (.lst (l.map V.int))
  | [], [], _ => ⟨[], rfl, trivial, fun i a h => by simp at h⟩
  | y :: ys, l :: L, .cons h1 hr => by
    obtain ⟨rs, e, hrs, hat⟩ := rows_new hn hr
    obtain ⟨a, rfl, ha⟩ := row_ref h1
    refine ⟨a :: rs, by rw [e]; rfl, ⟨⟨hn a (by rw [ha]; exact fun z => nomatch z), _, ha, Dts.ofInts l⟩, hrs⟩, fun i b hb => ?_⟩
    cases i with
    | zero =>
      cases hb
      exact ⟨l, rfl, ha⟩
    | succ i => exact hat i b hb
theorem new_rows {B C : Hp} {D : Addr} {ys : List V} {L : List (List Int)} (hn : ∀ a, C a ≠ none → B a = none) (hD : C D = some (.lst ys)) (r : Dts C ys (L.map encR)) (hl : ∀ l ∈ L, l ≠ []) (nd : L.Nodup) : NewG B C (.ref D) (L.map fun l => l.map .int) := by
  obtain ⟨rs, e, hrs, hat⟩ := rows_new hn r
  refine ⟨D, rs, rfl, hn D (by rw [hD]; exact fun z => nomatch z), by rw [hD, e], fun z => ?_, ?_, hrs⟩
  · obtain ⟨i, hi, ei⟩ := List.getElem_of_mem z
    obtain ⟨l, h1, h2⟩ := hat i D (by rw [List.getElem?_eq_getElem hi, ei])
    exact row_other hD r h2 (hl l (List.mem_of_getElem? h1)) rfl
  · refine List.pairwise_iff_getElem.mpr fun i j hi hj hij e2 => ?_
    obtain ⟨l, h1, h2⟩ := hat i rs[i] (List.getElem?_eq_getElem hi)
    obtain ⟨l', h3, h4⟩ := hat j rs[j] (List.getElem?_eq_getElem hj)
    rw [e2, h4] at h2
    have el : l' = l := by
      have h2 := HO.lst.inj (Option.some.inj h2)
      exact (List.map_inj_right fun a b h => V.int.inj h).mp h2
    subst el
    obtain ⟨i1, i2⟩ := List.getElem?_eq_some_iff.mp h1
    obtain ⟨j1, j2⟩ := List.getElem?_eq_some_iff.mp h3
    exact absurd (i2.trans j2.symm) (List.pairwise_iff_getElem.mp nd i j i1 j1 hij)
end layersdef

section layersgo
variable {P : Program} {w : World} {K : PySem.W.Frag} {mg : Str → Option Value} {base : Heap} {T : List Addr}
noncomputable def layG (g : List (List Int)) (m : Nat) : List (List Int) := Cz.layersZ (g.length + m) (rG g m)
theorem layG_rr (g : List (List Int)) (m : Nat) : Cz.Rr (g.length + m) (rG g m) := Cz.rch_rr _
noncomputable def sgLayers : Sg := ⟨1, fun _ as P => ∃ g m, as = [.dat (encG g)] ∧ Cz.IsCloth g m ∧ P = fun B B' v => NewG B B' v ((layG g m).map fun l => l.map .int), nox⟩
set_option maxHeartbeats 2000000 in
theorem f_layers (M : Mt K mg base T) : FnS P w K mg base T "layers" 6 sgLayers := by
  refine fn_D M.m.d_layers c_layers rfl fun f cdv A outer s H vs E B as R hr g sl hp => ?_
  obtain ⟨gr, m, rfl, hc, rfl⟩ := hp
  have nd := c_layers.nd
  have hrows := hc.rows
  have hwarps := hc.warps
  have RR := layG_rr gr m
  obtain ⟨r, hr0⟩ : ∃ r, r = rG gr m := ⟨_, rfl⟩
  obtain ⟨N, hN⟩ : ∃ N, N = gr.length + m := ⟨_, rfl⟩
  have hres : layG gr m = Cz.layersZ N r := by rw [hN, hr0]; rfl
  rw [← hr0, ← hN] at RR
  have hN24 : N ≤ 24 := by omega
  refine t_set 1 g sl nd (ed_need M (hr.mono (show 3 ≤ 5 by decide)) (eg_d (ed_v 0 sl rfl) eg_nil) hc) fun σ B1 H1 g1 sl => ?_
  refine t_setR 2 g1 sl nd (ev_fnS (P := fun B B' v => NewW (rG gr m) (gr.length + m) B B' v) (f_allW M.m) hr (eg_d (ed_v 1 sl rfl) eg_nil) rfl (fun _ _ => ⟨_, _, rfl, hc, rfl⟩) fun _ _ _ x n => n.back x) fun v σ B2 H2 g2 g12 rw0 sl => ?_
  rw [← hr0, ← hN] at rw0
  have rw1 := rw0.back g1.eb
  have hw := rw1.sub
  -- from here on over what is new alone
  obtain ⟨Bn, hBn⟩ : ∃ Bn, Bn = newOf B B2 := ⟨_, rfl⟩
  rw [← hBn] at hw
  have xn : Ex Bn B2 := by rw [hBn]; exact newOf_ex
  have nn : ∀ a, Bn a ≠ none → B a = none := fun a h => newOf_free (C := B2) (by rw [← hBn]; exact h)
  have wn : Wd T Bn H2 := ⟨xn.trans g2.wd.ex, g2.wd.gd⟩
  have sln : Sl Bn σ [.no, .no, .val v, .no, .no, .no, .no] := Sl.vals (B := B2) ⟨trivial, trivial, trivial, trivial, trivial, trivial, trivial, trivial⟩ (sl.weak ⟨.inl rfl, .inl rfl, .inr rfl, .inr rfl, .inr rfl, .inr rfl, .inr rfl, trivial⟩)
  refine t_setR 3 (Go.rfl wn) sln nd (ev_fnS (P := fun B B' v => NewD B B' v ((Cz.leastZ N r).map encR)) (f_least M.m) (hr.mono (show 2 ≤ 5 by decide)) (eg_v (ev_v 2 sln rfl) eg_nil) rfl (fun B1 x => ⟨_, _, _, rfl, hw.mono x, RR, hN24, rfl⟩) fun _ _ _ x n => n.back x) fun v3 σ B3 H3 g3 _ rn sl3 => ?_
  obtain ⟨A3, ws, rfl, n3, h3, rws⟩ := rn
  have H2A3 : H2 A3 = none := g3.fr A3 n3 (by rw [h3]; exact fun z => nomatch z)
  refine t_newL 4 g3 sl3 nd fun A4 σ H4 H3A4 H2A4 g4 B3A4 H4A4 sl4 => ?_
  have layl : ∀ {l : List Int}, l ∈ Cz.leastZ N r → Cz.Lay N r l := fun h => Cz.least_lay RR h
  have lne : ∀ l ∈ Cz.layersZ N r, l ≠ [] := fun l h => (Cz.layers_lay RR h).ne
  refine t_while (fun mm σ' B' H' => ∃ told left xs ys, Go T Bn H2 B' H' ∧ Sl B' σ' [.no, .no, .val v, .val (.ref A3), .val (.ref A4), .no, .no] ∧ B' A3 = some (.lst xs) ∧ Dts B' xs (left.map encR) ∧ B' A4 = none ∧ H' A4 = some (.lst ys) ∧ Dts B' ys (told.map encR) ∧ told ++ Cz.tellZ r left.length left = Cz.layersZ N r ∧ (∀ l ∈ left, Cz.Lay N r l) ∧ (left.Pairwise fun a b => a.headD 0 < b.headD 0) ∧ mm = left.length) _ (passes_of rfl)
    ⟨[], Cz.leastZ N r, ws, [], g4, sl4.weak ⟨.inr rfl, .inr rfl, .inr rfl, .inr rfl, .inr rfl, .inr rfl, .inr rfl, trivial⟩, h3, rws, B3A4, H4A4, .nil, rfl, fun l h => layl h, Cz.least_heads RR, rfl⟩
    fun mm σ' B' H' ⟨told, left, xs, ys, gW, slW, bA3, rx, bA4, hA4, ry, et, hl, hp, hm⟩ => ⟨!(left.map encR).isEmpty, gW.wd, et_list (ds := left.map encR) ((ev_v 3 slW rfl).imp fun B' v x e => by rw [e]; exact .lst (x.lst bA3) (rx.mono x)), fun B5 H5 g5 => ⟨fun c => ?_, fun c => ?_⟩⟩
  · -- one more is told
    have hne : left ≠ [] := fun z => by rw [z] at c; cases c
    obtain ⟨u1, u2, _⟩ := Cz.up_is RR hne hl hp
    have told_ne : ∀ l ∈ told, l ≠ [] := fun l h => lne l (by rw [← et]; exact List.mem_append_left _ h)
    have n4 : A3 ≠ A4 := fun e => by rw [e, bA4] at bA3; cases bA3
    have sl5 := slW.mono g5.eb
    have b53 := g5.eb.lst bA3
    have b54 := g5.out bA4 (by rw [hA4]; exact fun z => nomatch z)
    have h54 := g5.eh.lst hA4
    have rx5 := rx.mono g5.eb
    have ry5 := ry.mono g5.eb
    have x05 := gW.eb.trans g5.eb
    have left24 : left.length ≤ 1000 := by
      have := congrArg List.length et
      rw [List.length_append] at this
      have l1 : (Cz.tellZ r left.length left).length = left.length := (Cz.tell_is RR _ _ rfl hl hp).1.length_eq
      have l2 := (Cz.layers_perm RR).length_eq
      have l3 : (Cz.leastZ N r).length ≤ N := by
        unfold Cz.leastZ
        rw [List.length_map]
        refine Nat.le_trans (List.length_filter_le _ _) ?_
        unfold Cz.thN
        rw [List.length_map, List.length_range]
        exact Nat.le_refl _
      omega
    have told24 : told.length ≤ 1000 := by
      have := congrArg List.length et
      rw [List.length_append] at this
      have l2 := (Cz.layers_perm RR).length_eq
      have l3 : (Cz.leastZ N r).length ≤ N := by
        unfold Cz.leastZ
        rw [List.length_map]
        refine Nat.le_trans (List.length_filter_le _ _) ?_
        unfold Cz.thN
        rw [List.length_map, List.length_range]
        exact Nat.le_refl _
      omega
    have rdl : ∀ {X : Cx} {e : Expr} {τ : L2.St} {C : Hp}, Ex B5 C → (EV T X e τ C fun _ v => v = .ref A3) → ED T X e τ C (encG left) := fun {X e τ C} x h => h.imp fun B' v y e => by rw [e]; exact .lst ((x.trans y).lst b53) (rx5.mono (x.trans y))
    have e5 : made (fun d => Cz.mayZ r left (listI d)) (fun d => d) (left.map encR) = (left.filter (Cz.mayZ r left)).map encR := by
      unfold made
      rw [List.map_id', List.filter_map]
      refine congrArg (List.map encR) (List.filter_congr fun l _ => ?_)
      show Cz.mayZ r left (listI (encR l)) = _
      rw [listI_R]
    refine t_setLc (ds := (left.filter (Cz.mayZ r left)).map encR) 5 (Go.rfl g5.wd) sl5 (e5 ▸ lc_L (fun d => Cz.mayZ r left (listI d)) (fun d => d) (bk_fn (j := 6) c_layers (by decide +kernel)) (rdl .rfl (ev_v 3 sl5 rfl)) (by rw [List.length_map]; omega) (fun s H A cl fp d v6 C hm x rv => ?_) fun s H A cl fp d v6 C hm _ x rv => ed_v 6 (sl5.blk x 6 rv) rfl) fun σ6 B6 H6 g6 sl6 => ?_
    · obtain ⟨l, hlm, rfl⟩ := List.mem_map.mp hm
      have slB := sl5.blk x 6 rv
      refine ets_one (et_is (et_val (ed_fn (f_may M) (hr.mono (show 3 ≤ 5 by decide)) (eg_v (ev_v 2 slB rfl) (eg_d (ed_v 6 slB rfl) (eg_d (rdl x (ev_v 3 slB rfl)) eg_nil))) rfl fun B1 x1 => ⟨_, r, N, l, left, rfl, hw.mono ((x05.trans x).trans x1), (hl l hlm).ne, fun o ho => ⟨(hl o ho).ne, ?_⟩, rfl⟩)) ?_)
      · have := Cz.thN_mem.mp ((hl o ho).is _ (hl o ho).head).1
        exact this
      · rw [listI_R]
    have hum : Cz.upZ r left ∈ left.filter (Cz.mayZ r left) := List.mem_filter.mpr ⟨u1, u2⟩
    have up0 : atI ((left.filter (Cz.mayZ r left)).map encR) (0 : Int) = some (encR (Cz.upZ r left)) := by
      unfold Cz.upZ at hum ⊢
      cases q : left.filter (Cz.mayZ r left) with
      | nil => rw [q] at hum; cases hum
      | cons a F => exact atI_of_get (by decide) rfl
    obtain ⟨u, hu0⟩ : ∃ u, u = Cz.upZ r left := ⟨_, rfl⟩
    rw [← hu0] at up0 u1
    have une : u ≠ [] := (hl u u1).ne
    have hus : A.units + 200 < cLine ∨ True := .inr trivial
    have b63 := g6.eb.lst b53
    have b64 := g6.out b54 (by rw [h54]; exact fun z => nomatch z)
    have h64 := g6.eh.lst h54
    have ry6 := ry5.mono g6.eb
    refine s_app (i := 4) g6.wd (sl6.val (i := 4) rfl) h64 b64 (by rw [ry.length, List.length_map]; omega) (ed_ix (ed_v 5 sl6 rfl) ed_int up0) (fun v7 B7 H7 g7 r7 w7 h7 b7 => ?_) rfl (by first | exact Or.inl rfl | exact Or.inr (Or.inl rfl)) (by decide) (by decide) rfl (fun q1 q2 => pe_bm PySem.F.plainAttrs_list PySem.F.slot_list_append PySem.F.type_list_append mt_append q1 q2) rfl
    have sl7 := sl6.mono g7.eb
    have b73 := g7.eb.lst b63
    have g7m := (((gW.trans g5).trans g6).trans g7).mutA (o3 := .lst (ys ++ [v7])) H2A4 b7 h7 trivial
    have rx7 := (rx5.mono g6.eb).mono g7.eb
    have h73 : (upd H7 A4 (.lst (ys ++ [v7]))) A3 = some (.lst xs) := by
      rw [upd_ne n4]
      exact g7.wd.ex.lst b73
    refine s_remI (i := 3) w7 (sl7.val (i := 3) rfl) h73 rx7 u1 (room65 hr) (ed_ix (ed_v 5 sl7 rfl) ed_int up0) (fun j B8 H8 g8 h8 r8 => ?_) rfl (by first | exact Or.inl rfl | exact Or.inr (Or.inl rfl)) (by decide) (by decide) rfl (fun q1 q2 => pe_bm PySem.F.plainAttrs_list PySem.F.slot_list_remove PySem.F.type_list_remove (mt_removeD (room65 hr)) q1 q2) rfl
    have b83 := g8.eb.lst b73
    have b84 : B8 A4 = none := g8.out b7 (by rw [upd_same]; exact fun z => nomatch z)
    have h84 : H8 A4 = some (.lst (ys ++ [v7])) := g8.eh.lst upd_same
    have rx8 := rx7.mono g8.eb
    have ry8 : Dts B8 (ys ++ [v7]) ((told ++ [u]).map encR) := by
      rw [List.map_append]
      exact ((ry6.mono g7.eb).mono g8.eb).append (.one (r7.mono g8.eb))
    have gd := ((g7m.trans g8).drop n3).mutA (o3 := .lst (xs.eraseIdx j)) H2A3 del_same h8 trivial
    have gs := gd.settle (xs := xs.eraseIdx j) H2A3 del_same upd_same
    have xd : Ex (del B8 A3) (upd (del B8 A3) A3 (.lst (xs.eraseIdx j))) := Ex.new del_same
    have hlen : (left.erase u).length + 1 = left.length := by
      rw [List.length_erase_of_mem u1]
      have := List.length_pos_of_mem u1
      omega
    have hsub : (left.erase u).Sublist left := List.erase_sublist
    refine s_nil ⟨(left.erase u).length, upd (del B8 A3) A3 (.lst (xs.eraseIdx j)), by omega, told ++ [u], left.erase u, xs.eraseIdx j, ys ++ [v7], gs, ?_, upd_same, ?_, ?_, ?_, ?_, ?_, fun l h => hl l (hsub.subset h), hp.sublist hsub, rfl⟩
    · exact Sl.vals (B := B8) ⟨trivial, trivial, trivial, trivial, trivial, trivial, trivial, trivial⟩ ((sl7.mono g8.eb).weak ⟨.inl rfl, .inl rfl, .inr rfl, .inr rfl, .inr rfl, .inl rfl, .inl rfl, trivial⟩)
    · exact (dts_del b83 rx8 r8 fun l h => (hl l (hsub.subset h)).ne).mono xd
    · rw [upd_ne n4.symm, del_ne n4.symm]
      exact b84
    · rw [upd_ne n4.symm]
      exact h84
    · refine (dts_del b83 rx8 ry8 fun l h => ?_).mono xd
      rcases List.mem_append.mp h with h | h
      · exact told_ne l h
      · rw [List.mem_singleton.mp h]
        exact une
    · rw [← et, ← hlen, List.append_assoc]
      show _ = told ++ (Cz.upZ r left :: Cz.tellZ r (left.erase u).length (left.erase (Cz.upZ r left)))
      rw [← hu0]
      rfl
  · -- all are told
    have e0 : left = [] := by
      cases left with
      | nil => rfl
      | cons a l => cases c
    subst e0
    rw [show Cz.tellZ r ([] : List (List Int)).length [] = [] from rfl, List.append_nil] at et
    have b54 := g5.out bA4 (by rw [hA4]; exact fun z => nomatch z)
    have h54 := g5.eh.lst hA4
    have g05 := gW.trans g5
    refine t_retR g05 (ev_v 4 (slW.mono g5.eb) rfl) fun v B8 H8 g8 g58 e => ?_
    subst e
    have b84 := g58.out b54 (by rw [h54]; exact fun z => nomatch z)
    have gs := g8.settle H2A4 b84 (g58.eh.lst h54)
    obtain ⟨gz, xz⟩ := Go.widen xn g2.wd gs
    refine ⟨_, g2.trans gz, ?_⟩
    rw [hres]
    have rys := (ry.mono (g5.eb.trans g58.eb)).mono (Ex.new (o := .lst ys) b84)
    rw [et] at rys
    refine NewG.mono xz (new_rows (fun a h => ?_) upd_same rys lne (Cz.layers_nodup RR))
    by_cases c1 : Bn a = none
    · have := gs.fr a c1 h
      exact g2.wd.ex.free this |> fun q => g2.eb.free q
    · exact nn a c1
end layersgo

section hangs
variable {P : Program} {w : World} {K : PySem.W.Frag} {mg : Str → Option Value} {base : Heap} {T : List Addr}
/-! ### whether a cloth hangs together -/
noncomputable def hangB (g : List (List Int)) (m : Nat) : Bool := decide ((layG g m).length = 1)
noncomputable def sgHangs : Sg := ⟨1, fun _ as P => ∃ g m, as = [.dat (encG g)] ∧ Cz.IsCloth g m ∧ P = isd (.bool (hangB g m)), nox⟩
theorem ed_layers {T : List Addr} {X : Cx} {e : Expr} {p pos : Pos} {σ : L2.St} {B : Hp} {k : Nat} (F : FnS X.prog X.w X.K X.mg X.base T "layers" k sgLayers) (hr : Room k X.A) {g : List (List Int)} {m : Nat} (hc : Cz.IsCloth g m) (h : ED T X e σ B (encG g))
    (hg : Gl X "layers" := by rfl) (he : starEach [e] X.env = (false, eval e X.env) :: starEach [] X.env := by rfl) (hpl : (backTo pos (starEach [] X.env)).any (·.1) = false := by rfl) : ED T X (.Call (.Name "layers" p) [e] [] pos) σ B (encG (layG g m)) :=
  (ev_fnS (P := fun B B' v => NewG B B' v ((layG g m).map fun (l : List Int) => l.map PyData.int)) F hr (eg_d h eg_nil he) rfl (fun _ _ => ⟨_, _, rfl, hc, rfl⟩) (fun _ _ _ x n => n.back x) hg (by decide) he hpl).imp fun _ _ _ n => by rw [encG_encL]; exact n.dt
theorem f_hangs (M : Mt K mg base T) : FnS P w K mg base T "hangs" 7 sgHangs := by
  refine fn_D M.m.d_hangs c_hangs rfl fun f cdv A outer s H vs E B as R hr g sl hp => ?_
  obtain ⟨gr, m, rfl, hc, rfl⟩ := hp
  refine t_ret g (ed_is (ec_eqI (ed_len (ed_layers (f_layers M) hr hc (ed_v 0 sl rfl)) M.m.bi) ed_int).ed ?_) fun v B' H' g r => ⟨B', g, r⟩
  rw [List.length_map]
  unfold hangB
  exact congrArg PyData.bool (decide_eq_decide.mpr (by omega))
end hangs

section laymath
/-! ### the layers of a cloth, in numbers -/
theorem thr_thN {g : List (List Int)} {m : Nat} {i : Int} : isThr g m i ↔ i ∈ Cz.thN (g.length + m) := by
  rw [Cz.thN_mem]
  unfold isThr
  omega
theorem adj_in {g : List (List Int)} {m : Nat} : ∀ a ∈ Cz.thN (g.length + m), ∀ b ∈ adjZ g m a, b ∈ Cz.thN (g.length + m) := fun a _ b h => thr_thN.mp (adj_mem h).1
theorem cut_fromV {ds : List PyData} {a : Nat} (h : a ≤ ds.length) : Cw.cutD ds (some (a : Int)) none = ds.drop a := by
  unfold Cw.cutD
  rw [HT.sIx_nat, HT.sIx_none, Nat.min_eq_left h]
  exact List.take_of_length_le (by rw [List.length_drop]; omega)
theorem mem_adj {g : List (List Int)} {m : Nat} {t x : Int} (hx : isThr g m x) (h1 : Cz.crossB g t x = true) (h2 : Cz.overB g t x = true) : x ∈ adjZ g m t := by
  obtain ⟨x0, x1⟩ := hx
  refine List.mem_filter.mpr ⟨?_, h2⟩
  unfold crossI Cz.weftB
  rcases cross_split h1 with ⟨q1, q2⟩ | ⟨q1, q2⟩
  · rw [if_pos (decide_eq_true q1)]
    exact List.mem_map.mpr ⟨(x - g.length).toNat, List.mem_range.mpr (by omega), by omega⟩
  · rw [if_neg (by rw [decide_eq_false (by omega)]; decide)]
    exact List.mem_map.mpr ⟨x.toNat, List.mem_range.mpr (by omega), by omega⟩
abbrev LayG (g : List (List Int)) (m : Nat) (l : List Int) : Prop := Cz.Lay (g.length + m) (rG g m) l
theorem LayG.thr {g : List (List Int)} {m : Nat} {l : List Int} (h : LayG g m l) {x : Int} (hx : x ∈ l) : isThr g m x := thr_thN.mpr (h.is x hx).1
theorem LayG.len {g : List (List Int)} {m : Nat} {l : List Int} (h : LayG g m l) : l.length ≤ g.length + m := by
  have hn : l.Nodup := h.rise.imp fun {a b} h => by omega
  have := Cw.nodup_le hn fun x hx => (h.is x hx).1
  unfold Cz.thN at this
  rw [List.length_map, List.length_range] at this
  exact this
theorem ints_some {p : Int → Prop} : ∀ {ds : List PyData}, (∀ d ∈ ds, ∃ i, d = .int i ∧ p i) → ∃ s : List Int, ds = s.map .int ∧ ∀ i ∈ s, p i
  | [], _ => ⟨[], rfl, fun i h => by cases h⟩
  | d :: ds, h => by
    obtain ⟨i, rfl, hi⟩ := h d (List.mem_cons_self ..)
    obtain ⟨s, rfl, hs⟩ := ints_some fun d hd => h d (List.mem_cons_of_mem _ hd)
    refine ⟨i :: s, rfl, fun j hj => ?_⟩
    rcases List.mem_cons.mp hj with rfl | hj
    · exact hi
    · exact hs j hj
def overC (g : List (List Int)) (t x : Int) : Bool := Cz.crossB g t x && Cz.overB g t x
theorem layG_lay {g : List (List Int)} {m : Nat} {l : List Int} (h : l ∈ layG g m) : LayG g m l := Cz.layers_lay (layG_rr g m) h
theorem atE {L : List (List Int)} {k : Nat} (h : k < L.length) : atI (L.map encR) (k : Int) = some (encR L[k]) := atI_nat (by rw [List.getElem?_map, List.getElem?_eq_getElem h]; rfl)
theorem layG_len {g : List (List Int)} {m : Nat} : (layG g m).length ≤ g.length + m := by
  have := (Cz.layers_perm (layG_rr g m)).length_eq
  have l3 : (Cz.leastZ (g.length + m) (rG g m)).length ≤ g.length + m := by
    unfold Cz.leastZ
    rw [List.length_map]
    refine Nat.le_trans (List.length_filter_le _ _) ?_
    unfold Cz.thN
    rw [List.length_map, List.length_range]
    exact Nat.le_refl _
  unfold layG
  omega
end laymath

section math13
/-! ### a cloth turned, moved, repeated: its threads -/
theorem over_if {g : List (List Int)} (i j : Int) : overC g i j = if i < (g.length : Int) then (if j < (g.length : Int) then false else decide (Cz.sgn g i (j - g.length) = 0)) else (if j < (g.length : Int) then decide (Cz.sgn g j (i - g.length) = 1) else false) := by
  unfold overC Cz.crossB Cz.weftB Cz.overB
  by_cases a : i < (g.length : Int) <;> by_cases b : j < (g.length : Int)
  · rw [decide_eq_true a, decide_eq_true b, if_pos a, if_pos a, if_pos b]; rfl
  · rw [decide_eq_true a, decide_eq_false b, if_pos a, if_pos a, if_neg b]; rfl
  · rw [decide_eq_false a, decide_eq_true b, if_neg a, if_neg a, if_pos b]; rfl
  · rw [decide_eq_false a, decide_eq_false b, if_neg a, if_neg a, if_neg b]; rfl
theorem adj_over {g : List (List Int)} {m : Nat} {i j : Int} : j ∈ adjZ g m i ↔ isThr g m j ∧ overC g i j = true := by
  constructor
  · intro h
    obtain ⟨h1, h2, h3⟩ := adj_mem h
    exact ⟨h1, by unfold overC; rw [h2, h3]; rfl⟩
  · rintro ⟨h1, h2⟩
    have h2 := Bool.and_eq_true_iff.mp h2
    exact mem_adj h1 h2.1 h2.2
theorem sgn_mat {n q : Nat} {F : Nat → Nat → Int} {a b : Nat} (ha : a < n) (hb : b < q) : Cz.sgn ((List.range n).map fun k => (List.range q).map fun j => F k j) a b = F a b := by
  unfold Cz.sgn
  have e0 : ((List.range n).map fun k => (List.range q).map fun j => F k j).getD (a : Int).toNat [] = (List.range q).map fun j => F a j := by
    rw [Int.toNat_natCast, List.getD_eq_getElem?_getD, List.getElem?_map, List.getElem?_range ha]
    rfl
  rw [e0, Int.toNat_natCast, List.getD_eq_getElem?_getD, List.getElem?_map, List.getElem?_range hb]
  rfl
theorem sgn_turned {g : List (List Int)} {m : Nat} (c : Cz.IsCloth g m) {k j : Int} (k0 : 0 ≤ k) (k1 : k < g.length) (j0 : 0 ≤ j) (j1 : j < m) : Cz.sgn (Cz.turnedZ g) k j = 1 - Cz.sgn g k ((m : Int) - 1 - j) := by
  obtain ⟨a, rfl⟩ := Int.eq_ofNat_of_zero_le k0
  obtain ⟨b, rfl⟩ := Int.eq_ofNat_of_zero_le j0
  rw [← Cz.turned_due c]
  exact sgn_mat (F := fun (k j : Nat) => 1 - Cz.sgn g k ((m : Int) - 1 - j)) (by omega) (by omega)
theorem sgn_moved {g : List (List Int)} {m : Nat} (c : Cz.IsCloth g m) (d e : Int) {k j : Int} (k0 : 0 ≤ k) (k1 : k < g.length) (j0 : 0 ≤ j) (j1 : j < m) : Cz.sgn (Cz.movedZ g d e) k j = Cz.sgn g ((k + d) % (g.length : Int)) ((j + e) % (m : Int)) := by
  obtain ⟨a, rfl⟩ := Int.eq_ofNat_of_zero_le k0
  obtain ⟨b, rfl⟩ := Int.eq_ofNat_of_zero_le j0
  rw [← Cz.moved_due c d e]
  exact sgn_mat (F := fun (k j : Nat) => Cz.sgn g (((k : Int) + d) % (g.length : Int)) (((j : Int) + e) % (m : Int))) (by omega) (by omega)
theorem turned_len (g : List (List Int)) : (Cz.turnedZ g).length = g.length := by unfold Cz.turnedZ; rw [List.length_map]
theorem moved_len (g : List (List Int)) (d e : Int) : (Cz.movedZ g d e).length = g.length := by unfold Cz.movedZ; rw [List.length_map, Cz.roll_len]
def piT (g : List (List Int)) (m : Nat) (k : Int) : Int := if k < (g.length : Int) then k else 2 * (g.length : Int) + m - 1 - k
def piM (g : List (List Int)) (m : Nat) (d e : Int) (k : Int) : Int := if k < (g.length : Int) then (k + d) % (g.length : Int) else (g.length : Int) + (k - g.length + e) % (m : Int)
theorem over_turned {g : List (List Int)} {m : Nat} (c : Cz.IsCloth g m) {i j : Int} (hi : isThr g m i) (hj : isThr g m j) : overC (Cz.turnedZ g) i j = overC g (piT g m j) (piT g m i) := by
  obtain ⟨i0, i1⟩ := hi
  obtain ⟨j0, j1⟩ := hj
  rw [over_if, over_if, turned_len]
  unfold piT
  by_cases a : i < (g.length : Int) <;> by_cases b : j < (g.length : Int)
  · rw [if_pos a, if_pos b, if_pos b, if_pos b, if_pos a, if_pos a]
  · rw [if_pos a, if_neg b, if_neg b, if_neg (show ¬ 2 * (g.length : Int) + m - 1 - j < (g.length : Int) by omega), if_pos a, if_pos a, sgn_turned c i0 a (by omega) (by omega), show (m : Int) - 1 - (j - g.length) = 2 * (g.length : Int) + m - 1 - j - g.length by omega]
    exact decide_eq_decide.mpr (by omega)
  · rw [if_neg a, if_pos b, if_pos b, if_pos b, if_neg a, if_neg (show ¬ 2 * (g.length : Int) + m - 1 - i < (g.length : Int) by omega), sgn_turned c j0 b (by omega) (by omega), show (m : Int) - 1 - (i - g.length) = 2 * (g.length : Int) + m - 1 - i - g.length by omega]
    exact decide_eq_decide.mpr (by omega)
  · rw [if_neg a, if_neg b, if_neg b, if_neg (show ¬ 2 * (g.length : Int) + m - 1 - j < (g.length : Int) by omega), if_neg a, if_neg (show ¬ 2 * (g.length : Int) + m - 1 - i < (g.length : Int) by omega)]
theorem mod_at {a n : Int} (h : 0 < n) : 0 ≤ a % n ∧ a % n < n := ⟨Int.emod_nonneg _ (by omega), Int.emod_lt_of_pos _ h⟩
theorem over_moved {g : List (List Int)} {m : Nat} (c : Cz.IsCloth g m) (d e : Int) {i j : Int} (hi : isThr g m i) (hj : isThr g m j) : overC (Cz.movedZ g d e) i j = overC g (piM g m d e i) (piM g m d e j) := by
  have hrows := c.rows
  have hwarps := c.warps
  obtain ⟨i0, i1⟩ := hi
  obtain ⟨j0, j1⟩ := hj
  have wi := mod_at (a := i + d) (n := (g.length : Int)) (by omega)
  have wj := mod_at (a := j + d) (n := (g.length : Int)) (by omega)
  have ci := mod_at (a := i - g.length + e) (n := (m : Int)) (by omega)
  have cj := mod_at (a := j - g.length + e) (n := (m : Int)) (by omega)
  rw [over_if, over_if, moved_len]
  unfold piM
  by_cases a : i < (g.length : Int) <;> by_cases b : j < (g.length : Int)
  · rw [if_pos a, if_pos b, if_pos a, if_pos b, if_pos wi.2, if_pos wj.2]
  · rw [if_pos a, if_neg b, if_pos a, if_neg b, if_pos wi.2, if_neg (show ¬ (g.length : Int) + (j - g.length + e) % (m : Int) < (g.length : Int) by omega), sgn_moved c d e i0 a (by omega) (by omega), show (g.length : Int) + (j - g.length + e) % (m : Int) - g.length = (j - g.length + e) % (m : Int) by omega]
  · rw [if_neg a, if_pos b, if_neg a, if_pos b, if_neg (show ¬ (g.length : Int) + (i - g.length + e) % (m : Int) < (g.length : Int) by omega), if_pos wj.2, sgn_moved c d e j0 b (by omega) (by omega), show (g.length : Int) + (i - g.length + e) % (m : Int) - g.length = (i - g.length + e) % (m : Int) by omega]
  · rw [if_neg a, if_neg b, if_neg a, if_neg b, if_neg (show ¬ (g.length : Int) + (i - g.length + e) % (m : Int) < (g.length : Int) by omega), if_neg (show ¬ (g.length : Int) + (j - g.length + e) % (m : Int) < (g.length : Int) by omega)]
theorem pm_turned {g : List (List Int)} {m : Nat} : Cz.Pm (g.length + m) (piT g m) := by
  have key : ∀ i ∈ Cz.thN (g.length + m), piT g m i ∈ Cz.thN (g.length + m) ∧ piT g m (piT g m i) = i := fun i hi => by
    obtain ⟨h0, h1⟩ := Cz.thN_mem.mp hi
    rw [Cz.thN_mem]
    unfold piT
    by_cases a : i < (g.length : Int)
    · rw [if_pos a, if_pos a]
      exact ⟨⟨h0, h1⟩, rfl⟩
    · rw [if_neg a, if_neg (by omega)]
      omega
  exact ⟨fun i hi => (key i hi).1, fun i hi j hj e => by rw [← (key i hi).2, ← (key j hj).2, e], fun t ht => ⟨_, (key t ht).1, (key t ht).2⟩⟩
theorem mod_back {k d n : Int} (h0 : 0 ≤ k) (h1 : k < n) : ((k + d) % n - d) % n = k := by
  rw [Int.emod_sub_emod, Int.add_sub_cancel]
  exact Int.emod_eq_of_lt h0 h1
theorem mod_forth {k d n : Int} (h0 : 0 ≤ k) (h1 : k < n) : ((k - d) % n + d) % n = k := by
  rw [Int.emod_add_emod, Int.sub_add_cancel]
  exact Int.emod_eq_of_lt h0 h1
theorem pm_moved {g : List (List Int)} {m : Nat} (c : Cz.IsCloth g m) (d e : Int) : Cz.Pm (g.length + m) (piM g m d e) := by
  have hrows := c.rows
  have hwarps := c.warps
  have inn : ∀ (d e i : Int), i ∈ Cz.thN (g.length + m) → piM g m d e i ∈ Cz.thN (g.length + m) := fun d e i hi => by
    obtain ⟨h0, h1⟩ := Cz.thN_mem.mp hi
    have wi := mod_at (a := i + d) (n := (g.length : Int)) (by omega)
    have ci := mod_at (a := i - g.length + e) (n := (m : Int)) (by omega)
    rw [Cz.thN_mem]
    unfold piM
    split <;> omega
  have back : ∀ i ∈ Cz.thN (g.length + m), piM g m (-d) (-e) (piM g m d e i) = i := fun i hi => by
    obtain ⟨h0, h1⟩ := Cz.thN_mem.mp hi
    have wi := mod_at (a := i + d) (n := (g.length : Int)) (by omega)
    have ci := mod_at (a := i - g.length + e) (n := (m : Int)) (by omega)
    unfold piM
    by_cases a : i < (g.length : Int)
    · rw [if_pos a, if_pos wi.2]
      exact mod_back h0 a
    · rw [if_neg a, if_neg (by omega), show (g.length : Int) + (i - g.length + e) % (m : Int) - g.length + -e = (i - g.length + e) % (m : Int) - e by omega, mod_back (by omega) (by omega)]
      omega
  have forth : ∀ i ∈ Cz.thN (g.length + m), piM g m d e (piM g m (-d) (-e) i) = i := fun i hi => by
    obtain ⟨h0, h1⟩ := Cz.thN_mem.mp hi
    have wi := mod_at (a := i + -d) (n := (g.length : Int)) (by omega)
    have ci := mod_at (a := i - g.length + -e) (n := (m : Int)) (by omega)
    unfold piM
    by_cases a : i < (g.length : Int)
    · rw [if_pos a, if_pos wi.2, show i + -d = i - d by omega]
      exact mod_forth h0 a
    · rw [if_neg a, if_neg (by omega), show (g.length : Int) + (i - g.length + -e) % (m : Int) - g.length + e = (i - g.length - e) % (m : Int) + e by rw [show i - (g.length : Int) + -e = i - g.length - e by omega]; omega, mod_forth (by omega) (by omega)]
      omega
  exact ⟨fun i hi => inn d e i hi, fun i hi j hj e => by rw [← back i hi, ← back j hj, e], fun t ht => ⟨_, inn _ _ t ht, forth t ht⟩⟩
theorem rG_turned {g : List (List Int)} {m : Nat} (c : Cz.IsCloth g m) {i j : Int} (hi : i ∈ Cz.thN (g.length + m)) (hj : j ∈ Cz.thN (g.length + m)) : rG (Cz.turnedZ g) m i j = rG g m (piT g m j) (piT g m i) := by
  have p := pm_turned (g := g) (m := m)
  have cl' : ∀ a ∈ Cz.thN (g.length + m), ∀ b ∈ adjZ (Cz.turnedZ g) m a, b ∈ Cz.thN (g.length + m) := by
    have := adj_in (g := Cz.turnedZ g) (m := m)
    rw [turned_len] at this
    exact this
  refine Cz.rch_back p adj_in cl' (fun a ha b hb => ?_) hi hj
  rw [adj_over, adj_over, over_turned c (thr_thN.mpr ha) (thr_thN.mpr hb)]
  unfold isThr
  rw [turned_len]
  exact ⟨fun h => ⟨thr_thN.mpr (p.inn a ha), h.2⟩, fun h => ⟨thr_thN.mpr hb, h.2⟩⟩
theorem rG_moved {g : List (List Int)} {m : Nat} (c : Cz.IsCloth g m) (d e : Int) {i j : Int} (hi : i ∈ Cz.thN (g.length + m)) (hj : j ∈ Cz.thN (g.length + m)) : rG (Cz.movedZ g d e) m i j = rG g m (piM g m d e i) (piM g m d e j) := by
  have p := pm_moved c d e
  have cl' : ∀ a ∈ Cz.thN (g.length + m), ∀ b ∈ adjZ (Cz.movedZ g d e) m a, b ∈ Cz.thN (g.length + m) := by
    have := adj_in (g := Cz.movedZ g d e) (m := m)
    rw [moved_len] at this
    exact this
  refine Cz.rch_same p adj_in cl' (fun a ha b hb => ?_) hi hj
  rw [adj_over, adj_over, over_moved c d e (thr_thN.mpr ha) (thr_thN.mpr hb)]
  unfold isThr
  rw [moved_len]
  exact ⟨fun h => ⟨thr_thN.mpr (p.inn b hb), h.2⟩, fun h => ⟨thr_thN.mpr hb, h.2⟩⟩
/-- the layers of another cloth, told by these numbers -/
structure Told (g : List (List Int)) (m : Nat) (g' : List (List Int)) (π : Int → Int) : Prop where
  len : g'.length = g.length
  pm : Cz.Pm (g.length + m) π
  lay : ∀ l ∈ layG g' m, (Cz.othZ (g.length + m) (rG g m) π l).Perm (l.map π) ∧ (Cz.othZ (g.length + m) (rG g m) π l).Pairwise (· < ·)
  all : ((layG g' m).map (Cz.othZ (g.length + m) (rG g m) π)).Perm (layG g m)
theorem told_turned {g : List (List Int)} {m : Nat} (c : Cz.IsCloth g m) : Told g m (Cz.turnedZ g) (piT g m) := by
  have R' : Cz.Rr (g.length + m) (rG (Cz.turnedZ g) m) := Cz.rch_rr _
  have k := Cz.relab (layG_rr g m) R' pm_turned (fun i hi j hj => by rw [rG_turned c hi hj, rG_turned c hj hi, Bool.and_comm])
  refine ⟨turned_len g, pm_turned, ?_, ?_⟩
  · unfold layG
    rw [turned_len]
    exact k.1
  · unfold layG
    rw [turned_len]
    exact k.2
theorem told_moved {g : List (List Int)} {m : Nat} (c : Cz.IsCloth g m) (d e : Int) : Told g m (Cz.movedZ g d e) (piM g m d e) := by
  have R' : Cz.Rr (g.length + m) (rG (Cz.movedZ g d e) m) := Cz.rch_rr _
  have k := Cz.relab (layG_rr g m) R' (pm_moved c d e) (fun i hi j hj => by rw [rG_moved c d e hi hj, rG_moved c d e hj hi])
  refine ⟨moved_len g d e, pm_moved c d e, ?_, ?_⟩
  · unfold layG
    rw [moved_len]
    exact k.1
  · unfold layG
    rw [moved_len]
    exact k.2
theorem Told.hang {g : List (List Int)} {m : Nat} {g' : List (List Int)} {π : Int → Int} (t : Told g m g' π) : hangB g' m = hangB g m := by
  have := t.all.length_eq
  rw [List.length_map] at this
  unfold hangB
  rw [this]
theorem Told.sort {g : List (List Int)} {m : Nat} {g' : List (List Int)} {π : Int → Int} (t : Told g m g' π) : sortR ((layG g' m).map (Cz.othZ (g.length + m) (rG g m) π)) = sortR (layG g m) := sortR_eq t.all
end math13

section rep13
/-! ### a cloth repeated -/
theorem sgn_nat (g : List (List Int)) (k j : Nat) : Cz.sgn g k j = (g.getD k []).getD j 0 := rfl
theorem mem_rep {α : Type} {l : List α} {n : Nat} {x : α} (h : x ∈ (List.replicate n l).flatten) : x ∈ l := by
  obtain ⟨s, hs, hx⟩ := List.mem_flatten.mp h
  rw [(List.mem_replicate.mp hs).2] at hx
  exact hx
theorem rep_is {g : List (List Int)} {m : Nat} (c : Cz.IsCloth g m) {i j : Int} (i1 : 1 ≤ i) (j1 : 1 ≤ j) (i2 : i * g.length ≤ 12) (j2 : j * m ≤ 12) : Cz.IsCloth (repZ g i j) (j.toNat * m) := by
  obtain ⟨a, rfl⟩ := Int.eq_ofNat_of_zero_le (show 0 ≤ i by omega)
  obtain ⟨b, rfl⟩ := Int.eq_ofNat_of_zero_le (show 0 ≤ j by omega)
  have h1 := c.rows
  have h2 := c.warps
  have ha : 1 ≤ a := by omega
  have hb : 1 ≤ b := by omega
  have ia : a * g.length ≤ 12 := by exact_mod_cast i2
  have jb : b * m ≤ 12 := by exact_mod_cast j2
  have len : (repZ g (a : Int) (b : Int)).length = a * g.length := by
    unfold repZ
    rw [Int.toNat_natCast, Cz.rep_len, List.length_map]
  have row : ∀ r ∈ repZ g (a : Int) (b : Int), ∃ q ∈ g, r = (List.replicate b q).flatten := fun r hr => by
    obtain ⟨q, hq, e⟩ := List.mem_map.mp (mem_rep hr)
    exact ⟨q, hq, e.symm⟩
  refine ⟨?_, ?_, fun r hr => ?_, fun r hr x hx => ?_⟩
  · rw [len]
    exact ⟨Nat.mul_pos ha (by omega), ia⟩
  · rw [Int.toNat_natCast]
    exact ⟨Nat.mul_pos hb h2.1, jb⟩
  · obtain ⟨q, hq, rfl⟩ := row r hr
    rw [Cz.rep_len, c.len q hq, Int.toNat_natCast]
  · obtain ⟨q, hq, rfl⟩ := row r hr
    exact c.sign q hq x (mem_rep hx)
theorem cols_rep {g : List (List Int)} {m : Nat} (c : Cz.IsCloth g m) (i j : Int) : colsZ (repZ g i j) (j.toNat * m) = (List.replicate j.toNat ((colsZ g m).map fun q => (List.replicate i.toNat q).flatten)).flatten := by
  have h2 := c.warps
  rw [Cz.rep_eq _ [] j.toNat, List.length_map, colsZ_len]
  unfold colsZ
  refine List.map_congr_left fun a ha => ?_
  have ha := List.mem_range.mp ha
  have hm : a % m < m := Nat.mod_lt _ h2.1
  rw [List.getD_eq_getElem?_getD, List.getElem?_map, List.getElem?_map, List.getElem?_range hm]
  show (repZ g i j).map _ = (List.replicate i.toNat (g.map fun r => r.getD (a % m) 0)).flatten
  unfold repZ
  rw [Cz.rep_map, List.map_map]
  refine congrArg (fun z => (List.replicate i.toNat z).flatten) (List.map_congr_left fun r hr => ?_)
  show ((List.replicate j.toNat r).flatten).getD a 0 = r.getD (a % m) 0
  rw [List.getD_eq_getElem?_getD, Cz.rep_get r _ a (by rw [c.len r hr]; exact ha), c.len r hr, List.getD_eq_getElem?_getD]
theorem rep_due {g : List (List Int)} {m : Nat} (c : Cz.IsCloth g m) (i j : Nat) : ((List.range (i * g.length)).map fun (k : Nat) => (List.range (j * m)).map fun (a : Nat) => Cz.sgn g ((k : Int) % (g.length : Int)) ((a : Int) % (m : Int))) = repZ g i j := by
  have h1 := c.rows
  unfold repZ
  rw [Cz.rep_eq _ [] (Int.toNat i), List.length_map, Int.toNat_natCast, Int.toNat_natCast]
  refine List.map_congr_left fun k hk => ?_
  have hm : k % g.length < g.length := Nat.mod_lt _ (by omega)
  have hr : g[k % g.length] ∈ g := List.getElem_mem hm
  rw [List.getD_eq_getElem?_getD, List.getElem?_map, List.getElem?_eq_getElem hm]
  show _ = (List.replicate j g[k % g.length]).flatten
  rw [Cz.rep_eq _ 0 j, c.len _ hr]
  refine List.map_congr_left fun a _ => ?_
  have e1 : (k : Int) % (g.length : Int) = ((k % g.length : Nat) : Int) := by norm_cast
  have e2 : (a : Int) % (m : Int) = ((a % m : Nat) : Int) := by norm_cast
  rw [e1, e2, sgn_nat, (Cz.row_at c hm).2.1]
theorem rep_rows {g : List (List Int)} (a b : Nat) : (repZ g (a : Int) (b : Int)).length = a * g.length := by
  unfold repZ
  rw [Int.toNat_natCast, Cz.rep_len, List.length_map]
theorem sgn_rep {g : List (List Int)} {m : Nat} (c : Cz.IsCloth g m) (a b : Nat) {k j : Int} (k0 : 0 ≤ k) (k1 : k < ((a * g.length : Nat) : Int)) (j0 : 0 ≤ j) (j1 : j < ((b * m : Nat) : Int)) : Cz.sgn (repZ g (a : Int) (b : Int)) k j = Cz.sgn g (k % (g.length : Int)) (j % (m : Int)) := by
  obtain ⟨x, rfl⟩ := Int.eq_ofNat_of_zero_le k0
  obtain ⟨y, rfl⟩ := Int.eq_ofNat_of_zero_le j0
  rw [← rep_due c a b]
  exact sgn_mat (F := fun (k j : Nat) => Cz.sgn g ((k : Int) % (g.length : Int)) ((j : Int) % (m : Int))) (by omega) (by omega)
def nuR (g : List (List Int)) (m a : Nat) (k : Int) : Int := if k < ((a * g.length : Nat) : Int) then k % (g.length : Int) else (g.length : Int) + (k - ((a * g.length : Nat) : Int)) % (m : Int)
theorem over_rep {g : List (List Int)} {m : Nat} (c : Cz.IsCloth g m) {a b : Nat} {i j : Int} (hi : isThr (repZ g (a : Int) (b : Int)) (b * m) i) (hj : isThr (repZ g (a : Int) (b : Int)) (b * m) j) : overC (repZ g (a : Int) (b : Int)) i j = overC g (nuR g m a i) (nuR g m a j) := by
  have hrows := c.rows
  have hwarps := c.warps
  obtain ⟨i0, i1⟩ := hi
  obtain ⟨j0, j1⟩ := hj
  rw [rep_rows] at i1 j1
  have wi := mod_at (a := i) (n := (g.length : Int)) (by omega)
  have wj := mod_at (a := j) (n := (g.length : Int)) (by omega)
  have ci := mod_at (a := i - ((a * g.length : Nat) : Int)) (n := (m : Int)) (by omega)
  have cj := mod_at (a := j - ((a * g.length : Nat) : Int)) (n := (m : Int)) (by omega)
  rw [over_if, over_if, rep_rows]
  unfold nuR
  by_cases x : i < ((a * g.length : Nat) : Int) <;> by_cases y : j < ((a * g.length : Nat) : Int)
  · rw [if_pos x, if_pos y, if_pos x, if_pos y, if_pos wi.2, if_pos wj.2]
  · rw [if_pos x, if_neg y, if_pos x, if_neg y, if_pos wi.2, if_neg (show ¬ (g.length : Int) + (j - ((a * g.length : Nat) : Int)) % (m : Int) < (g.length : Int) by omega), sgn_rep c a b i0 x (by omega) (by omega), show (g.length : Int) + (j - ((a * g.length : Nat) : Int)) % (m : Int) - g.length = (j - ((a * g.length : Nat) : Int)) % (m : Int) by omega]
  · rw [if_neg x, if_pos y, if_neg x, if_pos y, if_neg (show ¬ (g.length : Int) + (i - ((a * g.length : Nat) : Int)) % (m : Int) < (g.length : Int) by omega), if_pos wj.2, sgn_rep c a b j0 y (by omega) (by omega), show (g.length : Int) + (i - ((a * g.length : Nat) : Int)) % (m : Int) - g.length = (i - ((a * g.length : Nat) : Int)) % (m : Int) by omega]
  · rw [if_neg x, if_neg y, if_neg x, if_neg y, if_neg (show ¬ (g.length : Int) + (i - ((a * g.length : Nat) : Int)) % (m : Int) < (g.length : Int) by omega), if_neg (show ¬ (g.length : Int) + (j - ((a * g.length : Nat) : Int)) % (m : Int) < (g.length : Int) by omega)]
theorem cp_rep {g : List (List Int)} {m : Nat} (c : Cz.IsCloth g m) {a b : Nat} (ha : 1 ≤ a) (hb : 1 ≤ b) : Cz.Cp (g.length + m) (a * g.length + b * m) (adjZ g m) (adjZ (repZ g (a : Int) (b : Int)) (b * m)) (nuR g m a) := by
  have hrows := c.rows
  have hwarps := c.warps
  have aw : g.length ≤ a * g.length := Nat.le_mul_of_pos_left _ ha
  have bm : m ≤ b * m := Nat.le_mul_of_pos_left _ hb
  have thr' : ∀ {x : Int}, isThr (repZ g (a : Int) (b : Int)) (b * m) x ↔ x ∈ Cz.thN (a * g.length + b * m) := fun {x} => by
    rw [thr_thN, rep_rows]
  have inn : ∀ i ∈ Cz.thN (a * g.length + b * m), nuR g m a i ∈ Cz.thN (g.length + m) := fun i hi => by
    obtain ⟨h0, h1⟩ := Cz.thN_mem.mp hi
    have wi := mod_at (a := i) (n := (g.length : Int)) (by omega)
    have ci := mod_at (a := i - ((a * g.length : Nat) : Int)) (n := (m : Int)) (by omega)
    rw [Cz.thN_mem]
    unfold nuR
    split <;> omega
  refine ⟨inn, fun t ht => ?_, adj_in, ?_, fun i hi j hj => ?_⟩
  · obtain ⟨h0, h1⟩ := Cz.thN_mem.mp ht
    by_cases w : t < (g.length : Int)
    · refine ⟨t, Cz.thN_mem.mpr ⟨h0, by omega⟩, ?_⟩
      unfold nuR
      rw [if_pos (by omega), Int.emod_eq_of_lt h0 w]
    · refine ⟨((a * g.length : Nat) : Int) + (t - g.length), Cz.thN_mem.mpr ⟨by omega, by omega⟩, ?_⟩
      unfold nuR
      rw [if_neg (by omega), show ((a * g.length : Nat) : Int) + (t - g.length) - ((a * g.length : Nat) : Int) = t - g.length by omega, Int.emod_eq_of_lt (by omega) (by omega)]
      omega
  · have := adj_in (g := repZ g (a : Int) (b : Int)) (m := b * m)
    rw [rep_rows] at this
    exact this
  · rw [adj_over, adj_over, over_rep c (thr'.mpr hi) (thr'.mpr hj)]
    exact ⟨fun h => ⟨thr_thN.mpr (inn j hj), h.2⟩, fun h => ⟨thr'.mpr hj, h.2⟩⟩
theorem lay_two {g : List (List Int)} {m : Nat} {l : List Int} (h : LayG g m l) (h2 : 2 ≤ l.length) : ∀ x ∈ l, ∃ y ∈ l, x ≠ y := fun x hx => by
  match l, h2 with
  | p :: q :: r, _ =>
    have hpq : p < q := (List.pairwise_cons.mp h.rise).1 q (List.mem_cons_self ..)
    by_cases e : x = p
    · exact ⟨q, List.mem_cons_of_mem _ (List.mem_cons_self ..), by omega⟩
    · exact ⟨p, List.mem_cons_self .., e⟩
theorem lay_plus {g : List (List Int)} {m : Nat} {l : List Int} (h : LayG g m l) (h2 : 2 ≤ l.length) {x y : Int} (hx : x ∈ l) (hy : y ∈ l) : Cz.Plus (adjZ g m) x y := by
  by_cases e : x = y
  · obtain ⟨z, hz, ne⟩ := lay_two h h2 x hx
    exact (Cz.plus_of (h.both hx hz) ne).then (h.both hz hy)
  · exact Cz.plus_of (h.both hx hy) e
/-- a thread that leads back to itself is not alone -/
theorem plus_two {g : List (List Int)} {m : Nat} {l : List Int} (h : LayG g m l) {x : Int} (hx : x ∈ l) (p : Cz.Plus (adjZ g m) x x) : 2 ≤ l.length := by
  obtain ⟨n, q, w⟩ := p
  obtain ⟨y, r, h1, h2, _⟩ := w.first
  obtain ⟨t1, c1, _⟩ := adj_mem h1
  have yl : y ∈ l := by
    rw [(h.is x hx).2]
    exact Cz.lay_mem.mpr ⟨thr_thN.mp t1, Cz.rch_step h1, Cz.rch_iff.mpr ⟨_, _, h2⟩⟩
  have ne : x ≠ y := fun e => by
    rw [e] at c1
    unfold Cz.crossB at c1
    simp at c1
  match l, hx, yl with
  | [z], hx, yl => exact absurd ((List.mem_singleton.mp hx).trans (List.mem_singleton.mp yl).symm) ne
  | _ :: _ :: _, _, _ => simp only [List.length_cons]; omega
/-- what a layer of the repeated cloth is -/
theorem rep_layer {g : List (List Int)} {m : Nat} (c : Cz.IsCloth g m) {a b : Nat} (ha : 1 ≤ a) (hb : 1 ≤ b) {l' : List Int} (hl : l' ∈ layG (repZ g (a : Int) (b : Int)) (b * m)) :
    ∃ l ∈ layG g m, (∀ x, x ∈ l ↔ ∃ o ∈ l', nuR g m a o = x) ∧ ((l.length = 1 ∧ l'.length = 1) ∨ (2 ≤ l.length ∧ ∀ o, o ∈ l' ↔ o ∈ Cz.thN (a * g.length + b * m) ∧ nuR g m a o ∈ l)) := by
  have C := cp_rep c ha hb
  have L' := layG_lay hl
  have hN : (repZ g (a : Int) (b : Int)).length + b * m = a * g.length + b * m := by rw [rep_rows]
  have hh := (L'.is _ L'.head).1
  rw [hN] at hh
  obtain ⟨l, hlm, hxl⟩ := Cz.layers_has (layG_rr g m) (C.inn _ hh)
  have Ll : LayG g m l := layG_lay hlm
  have mem' : ∀ o, o ∈ l' ↔ o ∈ Cz.thN (a * g.length + b * m) ∧ rG (repZ g (a : Int) (b : Int)) (b * m) (l'.headD 0) o = true ∧ rG (repZ g (a : Int) (b : Int)) (b * m) o (l'.headD 0) = true := fun o => by
    conv => lhs; rw [(L'.is _ L'.head).2]
    rw [Cz.lay_mem, hN]
  refine ⟨l, hlm, ?_⟩
  by_cases two : 2 ≤ l.length
  · have all : ∀ o, o ∈ l' ↔ o ∈ Cz.thN (a * g.length + b * m) ∧ nuR g m a o ∈ l := fun o => by
      rw [mem' o]
      constructor
      · rintro ⟨h1, h2, h3⟩
        refine ⟨h1, ?_⟩
        rcases (Cz.rch_copy C hh h1).mp h2 with e | p
        · rw [← e]
          exact hxl
        · rcases (Cz.rch_copy C h1 hh).mp h3 with e | q
          · rw [e]
            exact hxl
          · rw [(Ll.is _ hxl).2]
            exact Cz.lay_mem.mpr ⟨C.inn o h1, p.rch, q.rch⟩
      · rintro ⟨h1, h2⟩
        exact ⟨h1, (Cz.rch_copy C hh h1).mpr (.inr (lay_plus Ll two hxl h2)), (Cz.rch_copy C h1 hh).mpr (.inr (lay_plus Ll two h2 hxl))⟩
    refine ⟨fun x => ⟨fun hx => ?_, fun ⟨o, ho, e⟩ => ?_⟩, .inr ⟨two, all⟩⟩
    · obtain ⟨o, ho, rfl⟩ := C.sur x (Ll.is x hx).1
      exact ⟨o, (all o).mpr ⟨ho, hx⟩, rfl⟩
    · rw [← e]
      exact ((all o).mp ho).2
  · have l1 : l.length = 1 := by
      have := List.length_pos_of_mem hxl
      omega
    obtain ⟨z, hz⟩ := List.length_eq_one_iff.mp l1
    have only : ∀ o ∈ l', o = l'.headD 0 := fun o ho => by
      obtain ⟨h1, h2, h3⟩ := (mem' o).mp ho
      rcases (Cz.rch_copy C hh h1).mp h2 with e | p
      · exact e.symm
      · rcases (Cz.rch_copy C h1 hh).mp h3 with e | q
        · exact e
        · exact absurd (plus_two Ll hxl (p.then q.rch)) two
    have one' : l'.length = 1 := by
      match l', L', only with
      | [], L', _ => exact absurd rfl L'.ne
      | [_], _, _ => rfl
      | p :: q :: r, L', only =>
        have h1 := only q (List.mem_cons_of_mem _ (List.mem_cons_self ..))
        have h2 := (List.pairwise_cons.mp L'.rise).1 q (List.mem_cons_self ..)
        have h3 : (p :: q :: r).headD 0 = p := rfl
        rw [h3] at h1
        omega
    refine ⟨fun x => ⟨fun hx => ⟨l'.headD 0, L'.head, ?_⟩, fun ⟨o, ho, e⟩ => ?_⟩, .inl ⟨l1, one'⟩⟩
    · rw [hz] at hx hxl
      rw [List.mem_singleton.mp hx, List.mem_singleton.mp hxl]
    · rw [← e, only o ho]
      exact hxl
theorem rep_hang {g : List (List Int)} {m : Nat} (c : Cz.IsCloth g m) {a b : Nat} (ha : 1 ≤ a) (hb : 1 ≤ b) : hangB (repZ g (a : Int) (b : Int)) (b * m) = hangB g m := by
  have hrows := c.rows
  have hwarps := c.warps
  have C := cp_rep c ha hb
  have R' : Cz.Rr (a * g.length + b * m) (rG (repZ g (a : Int) (b : Int)) (b * m)) := Cz.rch_rr _
  have aw : g.length ≤ a * g.length := Nat.le_mul_of_pos_left _ ha
  unfold hangB layG
  rw [rep_rows]
  refine decide_eq_decide.mpr ?_
  rw [Cz.one_layer R', Cz.one_layer (layG_rr g m)]
  constructor
  · rintro ⟨_, h⟩
    refine ⟨by omega, fun x hx y hy => ?_⟩
    obtain ⟨i, hi, rfl⟩ := C.sur x hx
    obtain ⟨j, hj, rfl⟩ := C.sur y hy
    rcases (Cz.rch_copy C hi hj).mp (h i hi j hj) with e | p
    · rw [e]
      exact (layG_rr g m).refl _ hy
    · exact p.rch
  · rintro ⟨_, h⟩
    refine ⟨by omega, fun i hi j hj => (Cz.rch_copy C hi hj).mpr (.inr ?_)⟩
    have hx := C.inn i hi
    have hy := C.inn j hj
    by_cases e : nuR g m a i = nuR g m a j
    · obtain ⟨z, hz, ne⟩ : ∃ z ∈ Cz.thN (g.length + m), nuR g m a i ≠ z := by
        by_cases q : nuR g m a i = 0
        · exact ⟨1, Cz.thN_mem.mpr ⟨by omega, by omega⟩, by omega⟩
        · exact ⟨0, Cz.thN_mem.mpr ⟨by omega, by omega⟩, q⟩
      exact (Cz.plus_of (h _ hx z hz) ne).then (h z hz _ hy)
    · exact Cz.plus_of (h _ hx _ hy) e
end rep13

section counts13
variable {P : Program} {w : World} {K : PySem.W.Frag} {mg : Str → Option Value} {base : Heap} {T : List Addr}
/-! ### as many shafts and treadles -/
theorem step_nodup {k : List (List Int)} {r : List Int} (h : k.Nodup) : (kindStep k r).Nodup := by
  unfold kindStep
  split
  · exact h
  · next c =>
    refine List.nodup_append.mpr ⟨h, List.nodup_cons.mpr ⟨List.not_mem_nil, List.nodup_nil⟩, fun a ha b hb e => ?_⟩
    rw [List.mem_singleton.mp hb] at e
    rw [e] at ha
    exact c ha
theorem kinds_nodup : ∀ (g k : List (List Int)), k.Nodup → (g.foldl kindStep k).Nodup
  | [], _, h => h
  | r :: g, k, h => kinds_nodup g (kindStep k r) (step_nodup h)
theorem kindsZ_nodup (g : List (List Int)) : (kindsZ g).Nodup := kinds_nodup g [] List.nodup_nil
theorem kinds_iff (g : List (List Int)) (r : List Int) : r ∈ kindsZ g ↔ r ∈ g := by
  refine ⟨fun h => ?_, fun h => kinds_mem g [] r h⟩
  rcases kinds_sub g [] r h with h | h
  · cases h
  · exact h
theorem nk_eq {g g' : List (List Int)} (f : List Int → List Int) (h : ∀ y, y ∈ g' ↔ ∃ x ∈ g, f x = y) (inj : ∀ x ∈ g, ∀ y ∈ g, f x = f y → x = y) : (kindsZ g').length = (kindsZ g).length := by
  have p : ((kindsZ g).map f).Perm (kindsZ g') := by
    refine (List.perm_ext_iff_of_nodup ?_ (kindsZ_nodup g')).mpr fun y => ?_
    · exact List.pairwise_map.mpr (List.Pairwise.imp_of_mem (fun {a b} ha hb hab e => hab (inj a ((kinds_iff g a).mp ha) b ((kinds_iff g b).mp hb) e)) (kindsZ_nodup g))
    · rw [List.mem_map, kinds_iff, h]
      exact ⟨fun ⟨x, hx, e⟩ => ⟨x, (kinds_iff g x).mp hx, e⟩, fun ⟨x, hx, e⟩ => ⟨x, (kinds_iff g x).mpr hx, e⟩⟩
  have := p.length_eq
  rw [List.length_map] at this
  exact this.symm
theorem num_mem (g : List (List Int)) (k : Int) : k ∈ Cz.thN (kindsZ g).length ↔ k ∈ numZ g := by
  rw [Cz.thN_mem]
  unfold numZ
  rw [List.mem_map]
  constructor
  · rintro ⟨h0, h1⟩
    obtain ⟨a, rfl⟩ := Int.eq_ofNat_of_zero_le h0
    have ha : a < (kindsZ g).length := by omega
    refine ⟨(kindsZ g)[a], (kinds_iff g _).mp (List.getElem_mem ha), ?_⟩
    rw [(kindsZ_nodup g).idxOf_getElem a ha]
  · rintro ⟨r, hr, rfl⟩
    have := List.idxOf_lt_length_of_mem ((kinds_iff g r).mpr hr)
    omega
def countsD (g : List (List Int)) (m : Nat) : PyData := .tuple [.int ((kindsZ (colsZ g m)).length : Int), .int ((kindsZ g).length : Int)]
def sgCounts : Sg := ⟨1, fun _ as P => ∃ g m, as = [.dat (encG g)] ∧ Cz.IsCloth g m ∧ P = isd (countsD g m), nox⟩
theorem thN_len (n : Nat) : (Cz.thN n).length = n := by
  unfold Cz.thN
  rw [List.length_map, List.length_range]
theorem f_counts (M : Mt K mg base T) : FnS P w K mg base T "_law_counts" 5 sgCounts := by
  refine fn_D M.m.d_law_counts c_law_counts rfl fun f cdv A outer s H vs E B as R hr g sl hp => ?_
  obtain ⟨gr, m, rfl, hc, rfl⟩ := hp
  have bi := M.m.bi
  have hwarps := hc.warps
  refine t_set 1 g sl c_law_counts.nd (d := loomD gr m) (ed_fn (f_loom M (f_lift M.m)) hr (eg_d (ed_v 0 sl rfl) eg_nil) rfl fun _ _ => ⟨_, _, rfl, hc, rfl⟩) fun σ B1 H1 g1 sl => ?_
  have q := thN_len (kindsZ (colsZ gr m)).length
  refine t_ret g1 (ed_is (ed_tuple (ds := [.int (((Cz.thN (kindsZ (colsZ gr m)).length).length : Nat) : Int), .int ((tiesZ gr m).length : Int)]) (ea_cons (ed_lenSetX (ns := threadZ gr m) bi (ed_ixT (ed_v 1 sl rfl) ed_int (d := encR (threadZ gr m)) rfl) (by unfold threadZ; rw [num_len, colsZ_len]; omega) ((Cz.thN_rise _).imp fun {a b} h => by omega) (num_mem _)) (ea_cons (ed_is (ed_len (ed_ixT (ed_v 1 sl rfl) ed_int (d := encG (tiesZ gr m)) rfl) bi) (by rw [List.length_map])) ea_nil)) (few rfl)) ?_) fun v B' H' g r => ⟨B', g, r⟩
  rw [q]
  unfold countsD tiesZ
  rw [List.length_map]
theorem col_at {g : List (List Int)} {m a : Nat} (h : a < m) : (colsZ g m)[a]'(by rw [colsZ_len]; exact h) = g.map fun r => r.getD a 0 := by
  simp only [colsZ, List.getElem_map, List.getElem_range]
theorem col_mem {g : List (List Int)} {m : Nat} {y : List Int} : y ∈ colsZ g m ↔ ∃ a, a < m ∧ (g.map fun r => r.getD a 0) = y := by
  unfold colsZ
  rw [List.mem_map]
  exact ⟨fun ⟨a, ha, e⟩ => ⟨a, List.mem_range.mp ha, e⟩, fun ⟨a, ha, e⟩ => ⟨a, List.mem_range.mpr ha, e⟩⟩
theorem counts_turned {g : List (List Int)} {m : Nat} (c : Cz.IsCloth g m) : countsD (Cz.turnedZ g) m = countsD g m := by
  have hw := c.warps
  have inj1 : ∀ x y : List Int, (x.map fun i => 1 - i) = (y.map fun i => 1 - i) → x = y := fun x y h => (List.map_inj_right fun a b h => by omega).mp h
  have h1 : (kindsZ (Cz.turnedZ g)).length = (kindsZ g).length := nk_eq (fun r => r.reverse.map fun x => 1 - x) (fun y => List.mem_map) fun x _ y _ h => List.reverse_inj.mp (inj1 _ _ h)
  have col : ∀ {a : Nat}, a < m → ((Cz.turnedZ g).map fun r => r.getD a 0) = (g.map fun r => r.getD (m - 1 - a) 0).map fun i => 1 - i := fun {a} ha => by
    unfold Cz.turnedZ
    rw [List.map_map, List.map_map]
    refine List.map_congr_left fun r hr => ?_
    have hl := c.len r hr
    show (r.reverse.map fun x => 1 - x).getD a 0 = 1 - r.getD (m - 1 - a) 0
    rw [List.getD_eq_getElem?_getD, List.getElem?_map, List.getElem?_reverse (by omega), hl, List.getD_eq_getElem?_getD, List.getElem?_eq_getElem (by omega)]
    rfl
  have h2 : (kindsZ (colsZ (Cz.turnedZ g) m)).length = (kindsZ (colsZ g m)).length := nk_eq (fun x => x.map fun i => 1 - i) (fun y => by
    rw [col_mem]
    constructor
    · rintro ⟨a, ha, rfl⟩
      exact ⟨_, col_mem.mpr ⟨m - 1 - a, by omega, rfl⟩, (col ha).symm⟩
    · rintro ⟨x, hx, rfl⟩
      obtain ⟨a, ha, rfl⟩ := col_mem.mp hx
      refine ⟨m - 1 - a, by omega, ?_⟩
      rw [col (by omega), show m - 1 - (m - 1 - a) = a by omega]) fun x _ y _ h => inj1 _ _ h
  unfold countsD
  rw [h1, h2]
theorem roll_inj {α : Type} {x y : List α} {i : Int} (h : Cz.roll x i = Cz.roll y i) : x = y := by
  rw [← Cz.roll_roll x i, ← Cz.roll_roll y i, h]
theorem roll_iff {α : Type} {l : List α} {i : Int} {x : α} : x ∈ Cz.roll l i ↔ x ∈ l := ⟨Cz.roll_mem, fun h => by
  rw [← Cz.roll_roll l i] at h
  exact Cz.roll_mem h⟩
theorem counts_moved {g : List (List Int)} {m : Nat} (c : Cz.IsCloth g m) (d e : Int) : countsD (Cz.movedZ g d e) m = countsD g m := by
  have hw := c.warps
  have h1 : (kindsZ (Cz.movedZ g d e)).length = (kindsZ g).length := nk_eq (fun r => Cz.roll r e) (fun y => by
    unfold Cz.movedZ
    rw [List.mem_map]
    exact ⟨fun ⟨x, hx, h⟩ => ⟨x, roll_iff.mp hx, h⟩, fun ⟨x, hx, h⟩ => ⟨x, roll_iff.mpr hx, h⟩⟩) fun x _ y _ h => roll_inj h
  have col : ∀ {a : Nat}, a < m → ((Cz.movedZ g d e).map fun r => r.getD a 0) = Cz.roll (g.map fun r => r.getD (((a : Int) + e) % (m : Int)).toNat 0) d := fun {a} ha => by
    unfold Cz.movedZ
    rw [List.map_map, Cz.roll_mapZ]
    refine List.map_congr_left fun r hr => ?_
    have hl := c.len r (Cz.roll_mem hr)
    show (Cz.roll r e).getD a 0 = _
    have hk : a < (Cz.roll r e).length := by rw [Cz.roll_len]; omega
    have h := Cz.at_lt r e a (by omega)
    rw [List.getD_eq_getElem?_getD, List.getElem?_eq_getElem hk, Cz.roll_getElem r e a hk h]
    rw [hl] at h
    simp only [hl]
    rw [List.getD_eq_getElem?_getD, List.getElem?_eq_getElem (by omega)]
  have h2 : (kindsZ (colsZ (Cz.movedZ g d e) m)).length = (kindsZ (colsZ g m)).length := nk_eq (fun x => Cz.roll x d) (fun y => by
    rw [col_mem]
    constructor
    · rintro ⟨a, ha, rfl⟩
      have := mod_at (a := (a : Int) + e) (n := (m : Int)) (by omega)
      exact ⟨_, col_mem.mpr ⟨(((a : Int) + e) % (m : Int)).toNat, by omega, rfl⟩, (col ha).symm⟩
    · rintro ⟨x, hx, rfl⟩
      obtain ⟨a, ha, rfl⟩ := col_mem.mp hx
      have h3 := mod_at (a := (a : Int) - e) (n := (m : Int)) (by omega)
      have h4 := mod_forth (k := (a : Int)) (d := e) (n := (m : Int)) (by omega) (by omega)
      refine ⟨(((a : Int) - e) % (m : Int)).toNat, by omega, ?_⟩
      rw [col (by omega), show (((((a : Int) - e) % (m : Int)).toNat : Nat) : Int) = ((a : Int) - e) % (m : Int) by omega, h4, Int.toNat_natCast]) fun x _ y _ h => roll_inj h
  unfold countsD
  rw [h1, h2]
theorem rep_mem {α : Type} {l : List α} {n : Nat} (hn : 1 ≤ n) {x : α} : x ∈ (List.replicate n l).flatten ↔ x ∈ l :=
  ⟨mem_rep, fun h => List.mem_flatten.mpr ⟨l, List.mem_replicate.mpr ⟨by omega, rfl⟩, h⟩⟩
theorem counts_rep {g : List (List Int)} {m : Nat} (c : Cz.IsCloth g m) {a b : Nat} (ha : 1 ≤ a) (hb : 1 ≤ b) : countsD (repZ g (a : Int) (b : Int)) (b * m) = countsD g m := by
  have h1 : (kindsZ (repZ g (a : Int) (b : Int))).length = (kindsZ g).length := nk_eq (fun r => (List.replicate b r).flatten) (fun y => by
    unfold repZ
    rw [Int.toNat_natCast, Int.toNat_natCast, rep_mem ha, List.mem_map]) fun x hx y hy h => Cz.rep_inj hb (by rw [c.len x hx, c.len y hy]) h
  have e := cols_rep c (a : Int) (b : Int)
  rw [Int.toNat_natCast, Int.toNat_natCast] at e
  have h2 : (kindsZ (colsZ (repZ g (a : Int) (b : Int)) (b * m))).length = (kindsZ (colsZ g m)).length := nk_eq (fun r => (List.replicate a r).flatten) (fun y => by
    rw [e, rep_mem hb, List.mem_map]) fun x hx y hy h => Cz.rep_inj ha (by
      obtain ⟨p, _, rfl⟩ := col_mem.mp hx
      obtain ⟨q, _, rfl⟩ := col_mem.mp hy
      rw [List.length_map, List.length_map]) h
  unfold countsD
  rw [h1, h2]
end counts13

section told13
variable {P : Program} {w : World} {K : PySem.W.Frag} {mg : Str → Option Value} {base : Heap} {T : List Addr}
/-! ### turned and moved, looked at -/
theorem eqv_bl (a b : Bool) : PyData.eqv (.bool a) (.bool b) = (a == b) := by cases a <;> cases b <;> decide +kernel
theorem bl_ok (a : Bool) : flatP (.bool a) = true ∧ SeqAt.shaped (.bool a) = true := by cases a <;> exact ⟨by decide +kernel, by decide +kernel⟩
theorem counts_ok (g : List (List Int)) (m : Nat) : flatP (countsD g m) = true ∧ SeqAt.shaped (countsD g m) = true := ⟨rfl, rfl⟩
def sgAs : Sg := ⟨2, fun _ as P => ∃ (L : List (List Int)) (nm : List Int) (S : List Int → List Int), as = [.dat (encG L), .dat (encR nm)] ∧ L.length ≤ 1000 ∧ (∀ l ∈ L, (S l).Perm (l.map fun t => nm.getD t.toNat 0) ∧ (S l).Pairwise (· ≤ ·) ∧ l.length ≤ 1000 ∧ ∀ t ∈ l, 0 ≤ t ∧ t < (nm.length : Int)) ∧ P = isd (encG (sortR (L.map S))), nox⟩
theorem f_as (M : Md K mg) : FnS P w K mg base T "_law_as" 1 sgAs := by
  refine fn_D M.d_law_as c_law_as rfl fun f cdv A outer s H vs E B as R hr g sl hp => ?_
  obtain ⟨L, nm, S, rfl, hL, hS, rfl⟩ := hp
  have bi := M.bi
  have e1 : made (fun _ => true) (fun d => encR (S (listI d))) (L.map encR) = (L.map S).map encR := by
    rw [made_all, List.map_map, List.map_map]
    refine List.map_congr_left fun q _ => ?_
    show encR (S (listI (encR q))) = _
    rw [listI_R]
    rfl
  refine t_ret g (ed_sortedR (g := L.map S) (room65 hr) bi (ed_is (LC.ed (lc_L (ds := L.map encR) (fun _ => true) (fun d => encR (S (listI d))) (bk_fn (j := 3) c_law_as (by decide +kernel)) (ed_v 0 sl rfl) (by rw [List.length_map]; omega) (fun _ _ _ _ _ _ _ _ _ _ _ => ets_nil) fun s H A cl fp d v C hm _ x rv => ?_)) (congrArg PyData.list e1))) fun v B' H' g r => ⟨B', g, r⟩
  obtain ⟨q, hq, rfl⟩ := List.mem_map.mp hm
  obtain ⟨h1, h2, h3, h4⟩ := hS q hq
  have slB := sl.blk x 3 rv
  rw [listI_R]
  have e6 : made (fun _ => true) (fun d => PyData.int (nm.getD (intOf d).toNat 0)) (q.map .int) = (q.map fun t => nm.getD t.toNat 0).map .int := by
    rw [made_all, List.map_map, List.map_map]
    rfl
  refine ed_sortedI (ns := q.map fun t => nm.getD t.toNat 0) bi (ed_is (LC.ed (lc_L (ds := q.map .int) (fun _ => true) (fun d => PyData.int (nm.getD (intOf d).toNat 0)) (bk_in (j := 2) c_law_as (by decide +kernel)) (ed_v 3 slB rfl) (by rw [List.length_map]; omega) (fun _ _ _ _ _ _ _ _ _ _ _ => ets_nil) fun s H A cl fp d v C hm _ x rv => ?_)) (congrArg PyData.list e6)) h1 h2
  obtain ⟨i, hi, rfl⟩ := List.mem_map.mp hm
  have slC := slB.blk x 2 rv
  exact ed_ix (ed_v 1 slC rfl) (ed_v 2 slC rfl) (atI_int (h4 i hi).1 (h4 i hi).2)
theorem thN_at {N : Nat} {π : Int → Int} {t : Int} (h0 : 0 ≤ t) (h1 : t < (N : Int)) : ((Cz.thN N).map π).getD t.toNat 0 = π t := by
  have ht : t.toNat < N := by omega
  unfold Cz.thN
  rw [List.map_map, List.getD_eq_getElem?_getD, List.getElem?_map, List.getElem?_range ht]
  show π ((t.toNat : Nat) : Int) = π t
  rw [show ((t.toNat : Nat) : Int) = t by omega]
theorem names_cat {W m : Nat} {F G : Int → Int} {π : Int → Int} (h1 : ∀ k : Nat, k < W → F k = π k) (h2 : ∀ j : Nat, j < m → G j = π ((W : Int) + j)) : ((List.range W).map fun (k : Nat) => PyData.int (F k)) ++ ((List.range m).map fun (j : Nat) => PyData.int (G j)) = ((Cz.thN (W + m)).map π).map .int := by
  unfold Cz.thN
  rw [List.range_add, List.map_append, List.map_append, List.map_append, List.map_map, List.map_map, List.map_map, List.map_map, List.map_map]
  refine congr (congrArg _ (List.map_congr_left fun k hk => ?_)) (List.map_congr_left fun j hj => ?_)
  · show PyData.int (F k) = PyData.int (π (k : Int))
    rw [h1 k (List.mem_range.mp hk)]
  · show PyData.int (G j) = PyData.int (π ((W + j : Nat) : Int))
    rw [h2 j (List.mem_range.mp hj)]
    exact congrArg (fun z => PyData.int (π z)) (by omega)
/-- what `as` makes of the layers of another cloth told by these numbers -/
theorem ed_told {T : List Addr} {X : Cx} {e e1 : Expr} {p pos : Pos} {σ : L2.St} {B : Hp} (M : Mt X.K X.mg X.base T) (hr : Room 1 X.A) {g : List (List Int)} {m : Nat} {g' : List (List Int)} {π : Int → Int} (t : Told g m g' π) (h : ED T X e σ B (encG (layG g' m))) (h2 : ED T X e1 σ B (encR ((Cz.thN (g.length + m)).map π)))
    (hs : g.length + m ≤ 24) (hg : Gl X "_law_as" := by rfl) (he : starEach [e, e1] X.env = (false, eval e X.env) :: starEach [e1] X.env := by rfl) (he2 : starEach [e1] X.env = (false, eval e1 X.env) :: starEach [] X.env := by rfl) (hpl : (backTo pos (starEach [e1] X.env)).any (·.1) = false := by rfl) : ED T X (.Call (.Name "_law_as" p) [e, e1] [] pos) σ B (encG (sortR (layG g m))) := by
  have hl := layG_len (g := g') (m := m)
  rw [t.len] at hl
  refine ed_is (ed_fn (f_as (P := X.prog) (w := X.w) M.m) hr (eg_d h (eg_d h2 eg_nil he2) he) rfl (fun _ _ => ⟨layG g' m, _, Cz.othZ (g.length + m) (rG g m) π, rfl, by omega, fun l hl => ?_, rfl⟩) hg (by decide) he hpl) (congrArg encG t.sort)
  have Ll := layG_lay hl
  have ll := Ll.len
  have thr : ∀ t2 ∈ l, 0 ≤ t2 ∧ t2 < ((g.length + m : Nat) : Int) := fun t2 ht => by
    obtain ⟨a0, a1⟩ := Ll.thr ht
    rw [t.len] at a1
    exact ⟨a0, by omega⟩
  obtain ⟨p1, p2⟩ := t.lay l hl
  refine ⟨?_, p2.imp fun {a b} h => Int.le_of_lt h, by rw [t.len] at ll; omega, fun t2 ht => ?_⟩
  · have e2 : (l.map fun t2 => ((Cz.thN (g.length + m)).map π).getD t2.toNat 0) = l.map π := List.map_congr_left fun x hx => thN_at (thr x hx).1 (thr x hx).2
    rw [e2]
    exact p1
  · rw [List.length_map, thN_len]
    exact thr t2 ht
noncomputable def sgRight1 : Sg := ⟨1, fun _ as P => ∃ g m, as = [.dat (encG g)] ∧ Cz.IsCloth g m ∧ P = isd (.bool true), nox⟩
theorem f_turnR (M : Mt K mg base T) : FnS P w K mg base T "_law_turned_right" 8 sgRight1 := by
  refine fn_D M.m.d_law_turned_right c_law_turned_right rfl fun f cdv A outer s H vs E B as R hr g sl hp => ?_
  obtain ⟨gr, m, rfl, hc, rfl⟩ := hp
  have nd := c_law_turned_right.nd
  have bi := M.m.bi
  have hrows := hc.rows
  have hwarps := hc.warps
  have hr1 := hr.mono (show 1 ≤ 7 by decide)
  have hr4 := hr.mono (show 4 ≤ 7 by decide)
  have hr5 := hr.mono (show 5 ≤ 7 by decide)
  have hr6 := hr.mono (show 6 ≤ 7 by decide)
  have hc' := Cz.turned_is hc
  have t := told_turned hc
  obtain ⟨r0, hm0, h0⟩ := first_ok hc
  have lr0 := hc.len r0 hm0
  refine t_set 1 g sl nd (d := .int (gr.length : Int)) (ed_is (ed_len (ed_v 0 sl rfl) bi) (by rw [List.length_map])) fun σ B1 H1 g1 sl => ?_
  refine t_set 2 g1 sl nd (d := .int (m : Int)) (ed_is (ed_len (ed_ix (ed_v 0 sl rfl) ed_int h0) bi) (by rw [List.length_map, lr0])) fun σ B2 H2 g2 sl => ?_
  refine t_set 3 g2 sl nd (d := encG (Cz.turnedZ gr)) ((ev_fnS (P := fun B B' v => NewG B B' v (rowsP (Cz.turnedZ gr))) (f_turned M) hr4 (eg_d (ed_v 0 sl rfl) eg_nil) rfl (fun _ _ => ⟨_, _, rfl, hc, rfl⟩) (fun _ _ _ x n => n.back x)).imp fun _ _ _ n => by rw [encG_P]; exact n.dt) fun σ B3 H3 g3 sl => ?_
  have e4 : rngD 0 (gr.length : Int) ++ madeR (fun _ => true) (fun j => .int ((gr.length : Int) + m - 1 - j)) 0 ((m : Int)).toNat = ((Cz.thN (gr.length + m)).map (piT gr m)).map .int := by
    rw [madeR_all, Int.toNat_natCast, ← names_cat (F := fun k => 0 + k) (G := fun j => (gr.length : Int) + m - 1 - (0 + j)) (π := piT gr m) (fun k hk => by unfold piT; rw [if_pos (by omega)]; omega) (fun j hj => by unfold piT; rw [if_neg (by omega)]; omega)]
    unfold rngD
    rw [show ((gr.length : Int) - 0).toNat = gr.length by omega]
  refine t_set 4 g3 sl nd (d := encR ((Cz.thN (gr.length + m)).map (piT gr m))) (ed_is (ed_cat ((en_rng1 (ed_v 1 sl rfl) (by omega) bi).imp fun B' v _ n => n.dt) (LC.ed (lc_R1 (n := (m : Int)) (fun _ => true) (fun j => .int ((gr.length : Int) + m - 1 - j)) (bk_fn (j := 5) c_law_turned_right (by decide +kernel)) (ed_v 2 sl rfl) (by omega) bi (fun _ _ _ _ _ _ _ _ _ _ => ets_nil) fun s H A cl fp k B1 k1 k2 _ x => ?_)) ?_) (congrArg PyData.list e4)) fun σ B4 H4 g4 sl => ?_
  · have slB := sl.blkI (i := k) x 5
    exact ed_sub (ed_sub (ed_add (ed_v 1 slB rfl) (ed_v 2 slB rfl)) ed_int) (ed_v 5 slB rfl)
  · have h1 : (rngD 0 (gr.length : Int)).length = gr.length := by unfold rngD; rw [List.length_map, List.length_range]; omega
    have h2 := madeR_len (p := fun _ => true) (f := fun j => PyData.int ((gr.length : Int) + m - 1 - j)) (lo := 0) (m : Int).toNat
    omega
  refine t_skip g4 sl (EWt.et (ew_or (ec_neD (d := .bool (hangB gr m)) hr (bl_ok _).1 (bl_ok _).2 (ed_is (ed_fn (f_hangs M) hr (eg_d (ed_v 3 sl rfl) eg_nil) rfl fun _ _ => ⟨_, _, rfl, hc', rfl⟩) (by rw [t.hang])) (ed_fn (f_hangs M) hr (eg_d (ed_v 0 sl rfl) eg_nil) rfl fun _ _ => ⟨_, _, rfl, hc, rfl⟩)).et fun _ => ew_or1 (ec_neD (d := countsD gr m) hr (counts_ok _ _).1 (counts_ok _ _).2 (ed_is (ed_fn (f_counts M) hr5 (eg_d (ed_v 3 sl rfl) eg_nil) rfl fun _ _ => ⟨_, _, rfl, hc', rfl⟩) (counts_turned hc)) (ed_fn (f_counts M) hr5 (eg_d (ed_v 0 sl rfl) eg_nil) rfl fun _ _ => ⟨_, _, rfl, hc, rfl⟩)).et)) fun B5 H5 g5 sl => ?_
  exact t_ret g5 (ed_is (ec_eqG (g := sortR (layG gr m)) (h := sortR (layG gr m)) hr (ed_told M hr1 t (ed_layers (f_layers M) hr6 hc' (ed_v 3 sl rfl)) (ed_v 4 sl rfl) (by omega)) (ed_sortedR (room65 hr) bi (ed_layers (f_layers M) hr6 hc (ed_v 0 sl rfl)))).ed (by rw [decide_eq_true rfl])) fun v B' H' g r => ⟨B', g, r⟩
noncomputable def sgRight3 : Sg := ⟨3, fun _ as P => ∃ g m d e, as = [.dat (encG g), .dat (.int d), .dat (.int e)] ∧ Cz.IsCloth g m ∧ P = isd (.bool true), nox⟩
theorem f_moveR (M : Mt K mg base T) : FnS P w K mg base T "_law_moved_right" 8 sgRight3 := by
  refine fn_D M.m.d_law_moved_right c_law_moved_right rfl fun f cdv A outer s H vs E B as R hr g sl hp => ?_
  obtain ⟨gr, m, dn, rt, rfl, hc, rfl⟩ := hp
  have nd := c_law_moved_right.nd
  have bi := M.m.bi
  have hrows := hc.rows
  have hwarps := hc.warps
  have hr1 := hr.mono (show 1 ≤ 7 by decide)
  have hr4 := hr.mono (show 4 ≤ 7 by decide)
  have hr5 := hr.mono (show 5 ≤ 7 by decide)
  have hr6 := hr.mono (show 6 ≤ 7 by decide)
  have hc' := Cz.moved_is hc dn rt
  have t := told_moved hc dn rt
  obtain ⟨r0, hm0, h0⟩ := first_ok hc
  have lr0 := hc.len r0 hm0
  refine t_set 3 g sl nd (d := .int (gr.length : Int)) (ed_is (ed_len (ed_v 0 sl rfl) bi) (by rw [List.length_map])) fun σ B1 H1 g1 sl => ?_
  refine t_set 4 g1 sl nd (d := .int (m : Int)) (ed_is (ed_len (ed_ix (ed_v 0 sl rfl) ed_int h0) bi) (by rw [List.length_map, lr0])) fun σ B2 H2 g2 sl => ?_
  refine t_set 5 g2 sl nd (d := encG (Cz.movedZ gr dn rt)) ((ev_fnS (P := fun B B' v => NewG B B' v (rowsP (Cz.movedZ gr dn rt))) (f_moved M) hr4 (eg_d (ed_v 0 sl rfl) (eg_d (ed_v 1 sl rfl) (eg_d (ed_v 2 sl rfl) eg_nil))) rfl (fun _ _ => ⟨_, _, _, _, rfl, hc, rfl⟩) (fun _ _ _ x n => n.back x)).imp fun _ _ _ n => by rw [encG_P]; exact n.dt) fun σ B3 H3 g3 sl => ?_
  have e4 : madeR (fun _ => true) (fun k => .int ((k + dn) % (gr.length : Int))) 0 ((gr.length : Int)).toNat ++ madeR (fun _ => true) (fun j => .int ((gr.length : Int) + (j + rt) % (m : Int))) 0 ((m : Int)).toNat = ((Cz.thN (gr.length + m)).map (piM gr m dn rt)).map .int := by
    rw [madeR_all, madeR_all, Int.toNat_natCast, Int.toNat_natCast, ← names_cat (F := fun k => (0 + k + dn) % (gr.length : Int)) (G := fun j => (gr.length : Int) + (0 + j + rt) % (m : Int)) (π := piM gr m dn rt) (fun k hk => by unfold piM; rw [if_pos (by omega), Int.zero_add]) (fun j hj => by unfold piM; rw [if_neg (by omega), Int.zero_add, show (gr.length : Int) + (j : Int) - gr.length + rt = (j : Int) + rt by omega])]
  refine t_set 6 g3 sl nd (d := encR ((Cz.thN (gr.length + m)).map (piM gr m dn rt))) (ed_is (ed_cat (LC.ed (lc_R1 (n := (gr.length : Int)) (fun _ => true) (fun k => .int ((k + dn) % (gr.length : Int))) (bk_fn (j := 7) c_law_moved_right (by decide +kernel)) (ed_v 3 sl rfl) (by omega) bi (fun _ _ _ _ _ _ _ _ _ _ => ets_nil) fun s H A cl fp k B1 k1 k2 _ x => ?_)) (LC.ed (lc_R1 (n := (m : Int)) (fun _ => true) (fun j => .int ((gr.length : Int) + (j + rt) % (m : Int))) (bk_fn (j := 8) c_law_moved_right (by decide +kernel)) (ed_v 4 sl rfl) (by omega) bi (fun _ _ _ _ _ _ _ _ _ _ => ets_nil) fun s H A cl fp k B1 k1 k2 _ x => ?_)) ?_) (congrArg PyData.list e4)) fun σ B4 H4 g4 sl => ?_
  · have slB := sl.blkI (i := k) x 7
    exact ed_mod (i := k + dn) (j := (gr.length : Int)) (by omega) (ed_add (ed_v 7 slB rfl) (ed_v 1 slB rfl)) (ed_v 3 slB rfl)
  · have slB := sl.blkI (i := k) x 8
    exact ed_add (ed_v 3 slB rfl) (ed_mod (i := k + rt) (j := (m : Int)) (by omega) (ed_add (ed_v 8 slB rfl) (ed_v 2 slB rfl)) (ed_v 4 slB rfl))
  · have h1 := madeR_len (p := fun _ => true) (f := fun k => PyData.int ((k + dn) % (gr.length : Int))) (lo := 0) (gr.length : Int).toNat
    have h2 := madeR_len (p := fun _ => true) (f := fun j => PyData.int ((gr.length : Int) + (j + rt) % (m : Int))) (lo := 0) (m : Int).toNat
    omega
  refine t_skip g4 sl (EWt.et (ew_or (ec_neD (d := .bool (hangB gr m)) hr (bl_ok _).1 (bl_ok _).2 (ed_is (ed_fn (f_hangs M) hr (eg_d (ed_v 5 sl rfl) eg_nil) rfl fun _ _ => ⟨_, _, rfl, hc', rfl⟩) (by rw [t.hang])) (ed_fn (f_hangs M) hr (eg_d (ed_v 0 sl rfl) eg_nil) rfl fun _ _ => ⟨_, _, rfl, hc, rfl⟩)).et fun _ => ew_or1 (ec_neD (d := countsD gr m) hr (counts_ok _ _).1 (counts_ok _ _).2 (ed_is (ed_fn (f_counts M) hr5 (eg_d (ed_v 5 sl rfl) eg_nil) rfl fun _ _ => ⟨_, _, rfl, hc', rfl⟩) (counts_moved hc dn rt)) (ed_fn (f_counts M) hr5 (eg_d (ed_v 0 sl rfl) eg_nil) rfl fun _ _ => ⟨_, _, rfl, hc, rfl⟩)).et)) fun B5 H5 g5 sl => ?_
  exact t_ret g5 (ed_is (ec_eqG (g := sortR (layG gr m)) (h := sortR (layG gr m)) hr (ed_told M hr1 t (ed_layers (f_layers M) hr6 hc' (ed_v 5 sl rfl)) (ed_v 6 sl rfl) (by omega)) (ed_sortedR (room65 hr) bi (ed_layers (f_layers M) hr6 hc (ed_v 0 sl rfl)))).ed (by rw [decide_eq_true rfl])) fun v B' H' g r => ⟨B', g, r⟩
end told13

section repr13
variable {P : Program} {w : World} {K : PySem.W.Frag} {mg : Str → Option Value} {base : Heap} {T : List Addr}
/-! ### repeated, looked at -/
/-- a layer of one way is one thread -/
theorem lay_way {g : List (List Int)} {m : Nat} {l : List Int} (h : LayG g m l) (hw : ∀ x ∈ l, ∀ y ∈ l, Cz.weftB g x = Cz.weftB g y) : l.length = 1 := by
  match l, h with
  | [], h => exact absurd rfl h.ne
  | [_], _ => rfl
  | a :: b :: r, h =>
    exfalso
    have ha : a ∈ a :: b :: r := List.mem_cons_self ..
    have hb : b ∈ a :: b :: r := List.mem_cons_of_mem _ (List.mem_cons_self ..)
    have hab : a < b := (List.pairwise_cons.mp h.rise).1 b (List.mem_cons_self ..)
    obtain ⟨n, p, w⟩ := Cz.rch_iff.mp (h.both ha hb)
    cases n with
    | zero =>
      cases w
      omega
    | succ n =>
      obtain ⟨x, q, h1, h2, _⟩ := w.first
      obtain ⟨t1, c1, _⟩ := adj_mem h1
      have xl : x ∈ a :: b :: r := by
        rw [(h.is a ha).2]
        exact Cz.lay_mem.mpr ⟨thr_thN.mp t1, Cz.rch_step h1, (layG_rr g m).trans _ _ _ (Cz.rch_iff.mpr ⟨_, _, h2⟩) (h.both hb ha)⟩
      unfold Cz.crossB at c1
      rw [hw a ha x xl] at c1
      simp at c1
theorem lay_ends {g : List (List Int)} {m : Nat} {l : List Int} (h : LayG g m l) (h2 : 2 ≤ l.length) {q : List Int} {z : Int} (e : l = q ++ [z]) : l.headD 0 < (g.length : Int) ∧ (g.length : Int) ≤ z := by
  have two : ∃ x ∈ l, ∃ y ∈ l, Cz.weftB g x = true ∧ Cz.weftB g y = false := by
    refine Classical.byContradiction fun hno => ?_
    have := lay_way h fun x hx y hy => by
      cases a : Cz.weftB g x <;> cases b : Cz.weftB g y
      · rfl
      · exact absurd ⟨y, hy, x, hx, b, a⟩ hno
      · exact absurd ⟨x, hx, y, hy, a, b⟩ hno
      · rfl
    omega
  obtain ⟨x, hx, y, hy, a, b⟩ := two
  have a := of_decide_eq_true a
  have b := of_decide_eq_false b
  have h1 := Cz.head_le h.rise hx
  refine ⟨by omega, ?_⟩
  have hr := h.rise
  rw [e] at hr hy
  rcases List.mem_append.mp hy with hy | hy
  · have := (List.pairwise_append.mp hr).2.2 y hy z (List.mem_singleton.mpr rfl)
    omega
  · rw [List.mem_singleton.mp hy] at b
    omega
noncomputable def sgRightR : Sg := ⟨3, fun _ as P => ∃ (g : List (List Int)) (m a b : Nat), as = [.dat (encG g), .dat (.int (a : Int)), .dat (.int (b : Int))] ∧ Cz.IsCloth g m ∧ 1 ≤ a ∧ 1 ≤ b ∧ a * g.length ≤ 12 ∧ b * m ≤ 12 ∧ P = isd (.bool true), nox⟩
set_option maxHeartbeats 4000000 in
theorem f_repR (M : Mt K mg base T) : FnS P w K mg base T "_law_repeated_right" 8 sgRightR := by
  refine fn_D M.m.d_law_repeated_right c_law_repeated_right rfl fun f cdv A outer s H vs E B as R hr g sl hp => ?_
  obtain ⟨gr, m, a, b, rfl, hc, ha, hb, ha2, hb2, rfl⟩ := hp
  have nd := c_law_repeated_right.nd
  have bi := M.m.bi
  have hrows := hc.rows
  have hwarps := hc.warps
  have hr1 := hr.mono (show 1 ≤ 7 by decide)
  have hr4 := hr.mono (show 4 ≤ 7 by decide)
  have hr5 := hr.mono (show 5 ≤ 7 by decide)
  have hr6 := hr.mono (show 6 ≤ 7 by decide)
  have ta : timesB gr.length (.int (a : Int)) = true := by
    show (decide (1 ≤ (a : Int)) && decide ((a : Int) * gr.length ≤ 12)) = true
    rw [decide_eq_true (by omega), decide_eq_true (by exact_mod_cast ha2)]
    rfl
  have tb : timesB m (.int (b : Int)) = true := by
    show (decide (1 ≤ (b : Int)) && decide ((b : Int) * m ≤ 12)) = true
    rw [decide_eq_true (by omega), decide_eq_true (by exact_mod_cast hb2)]
    rfl
  have hc' : Cz.IsCloth (repZ gr (a : Int) (b : Int)) (b * m) := by
    have := rep_is hc (i := (a : Int)) (j := (b : Int)) (by omega) (by omega) (by exact_mod_cast ha2) (by exact_mod_cast hb2)
    rw [Int.toNat_natCast] at this
    exact this
  have a12 : a ≤ 12 := Nat.le_trans (Nat.le_mul_of_pos_right _ (by omega)) ha2
  have b12 : b ≤ 12 := Nat.le_trans (Nat.le_mul_of_pos_right _ (by omega)) hb2
  have hh := rep_hang hc ha hb
  have hct := counts_rep hc ha hb
  have rl : ∀ {l' : List Int}, l' ∈ layG (repZ gr (a : Int) (b : Int)) (b * m) → _ := fun {l'} h => rep_layer hc ha hb h
  have len' := rep_rows (g := gr) a b
  have llen' := layG_len (g := repZ gr (a : Int) (b : Int)) (m := b * m)
  rw [len'] at llen'
  obtain ⟨r0, hm0, h0⟩ := first_ok hc
  have lr0 := hc.len r0 hm0
  refine t_set 3 g sl nd (d := .int (gr.length : Int)) (ed_is (ed_len (ed_v 0 sl rfl) bi) (by rw [List.length_map])) fun σ B1 H1 g1 sl => ?_
  refine t_set 4 g1 sl nd (d := .int (m : Int)) (ed_is (ed_len (ed_ix (ed_v 0 sl rfl) ed_int h0) bi) (by rw [List.length_map, lr0])) fun σ B2 H2 g2 sl => ?_
  refine t_set 5 g2 sl nd (d := encG (repZ gr (a : Int) (b : Int))) ((ev_fnS (P := fun B B' v => NewG B B' v (rowsP (repZ gr (a : Int) (b : Int)))) (f_rep M) hr4 (eg_d (ed_v 0 sl rfl) (eg_d (ed_v 1 sl rfl) (eg_d (ed_v 2 sl rfl) eg_nil))) rfl (fun _ _ => ⟨_, _, _, _, rfl, hc, ta, tb, rfl⟩) (fun _ _ _ x n => n.back x)).imp fun _ _ _ n => by rw [encG_P]; exact n.dt) fun σ B3 H3 g3 sl => ?_
  refine t_skip g3 sl (EWt.et (ew_or (ec_neD (d := .bool (hangB gr m)) hr (bl_ok _).1 (bl_ok _).2 (ed_is (ed_fn (f_hangs M) hr (eg_d (ed_v 5 sl rfl) eg_nil) rfl fun _ _ => ⟨_, _, rfl, hc', rfl⟩) (by rw [hh])) (ed_fn (f_hangs M) hr (eg_d (ed_v 0 sl rfl) eg_nil) rfl fun _ _ => ⟨_, _, rfl, hc, rfl⟩)).et fun _ => ew_or1 (ec_neD (d := countsD gr m) hr (counts_ok _ _).1 (counts_ok _ _).2 (ed_is (ed_fn (f_counts M) hr5 (eg_d (ed_v 5 sl rfl) eg_nil) rfl fun _ _ => ⟨_, _, rfl, hc', rfl⟩) hct) (ed_fn (f_counts M) hr5 (eg_d (ed_v 0 sl rfl) eg_nil) rfl fun _ _ => ⟨_, _, rfl, hc, rfl⟩)).et)) fun B4 H4 g4 sl => ?_
  have wa : (gr.length : Int) * (a : Int) = ((a * gr.length : Nat) : Int) := by rw [Int.natCast_mul, Int.mul_comm]
  have wb : (m : Int) * (b : Int) = ((b * m : Nat) : Int) := by rw [Int.natCast_mul, Int.mul_comm]
  obtain ⟨Wa, hWa⟩ : ∃ Wa, Wa = a * gr.length := ⟨_, rfl⟩
  obtain ⟨Mb, hMb⟩ : ∃ Mb, Mb = b * m := ⟨_, rfl⟩
  have e4 : madeR (fun _ => true) (fun k => .int (k % (gr.length : Int))) 0 ((Wa : Int)).toNat ++ madeR (fun _ => true) (fun j => .int ((gr.length : Int) + j % (m : Int))) 0 ((Mb : Int)).toNat = ((Cz.thN (Wa + Mb)).map (nuR gr m a)).map .int := by
    rw [madeR_all, madeR_all, Int.toNat_natCast, Int.toNat_natCast, ← names_cat (F := fun k => (0 + k) % (gr.length : Int)) (G := fun j => (gr.length : Int) + (0 + j) % (m : Int)) (π := nuR gr m a) (fun k hk => by unfold nuR; rw [if_pos (by omega), Int.zero_add]) (fun j hj => by unfold nuR; rw [if_neg (by omega), Int.zero_add, show ((Wa : Int) + (j : Int)) - ((a * gr.length : Nat) : Int) = (j : Int) by omega])]
  refine t_set 6 g4 sl nd (d := encR ((Cz.thN (Wa + Mb)).map (nuR gr m a))) (ed_is (ed_cat (LC.ed (lc_R1 (n := (Wa : Int)) (fun _ => true) (fun k => .int (k % (gr.length : Int))) (bk_fn (j := 7) c_law_repeated_right (by decide +kernel)) (ed_is (ed_mulR (by omega) (ed_v 3 sl rfl) (ed_v 1 sl rfl)) (by rw [wa, hWa])) (by omega) bi (fun _ _ _ _ _ _ _ _ _ _ => ets_nil) fun s H A cl fp k B1 k1 k2 _ x => ?_)) (LC.ed (lc_R1 (n := (Mb : Int)) (fun _ => true) (fun j => .int ((gr.length : Int) + j % (m : Int))) (bk_fn (j := 8) c_law_repeated_right (by decide +kernel)) (ed_is (ed_mulR (by omega) (ed_v 4 sl rfl) (ed_v 2 sl rfl)) (by rw [wb, hMb])) (by omega) bi (fun _ _ _ _ _ _ _ _ _ _ => ets_nil) fun s H A cl fp k B1 k1 k2 _ x => ?_)) ?_) (congrArg PyData.list e4)) fun σ B5 H5 g5 sl => ?_
  · have slB := sl.blkI (i := k) x 7
    exact ed_mod (i := k) (j := (gr.length : Int)) (by omega) (ed_v 7 slB rfl) (ed_v 3 slB rfl)
  · have slB := sl.blkI (i := k) x 8
    exact ed_add (ed_v 3 slB rfl) (ed_mod (i := k) (j := (m : Int)) (by omega) (ed_v 8 slB rfl) (ed_v 4 slB rfl))
  · have h1 := madeR_len (p := fun _ => true) (f := fun k => PyData.int (k % (gr.length : Int))) (lo := 0) (Wa : Int).toNat
    have h2 := madeR_len (p := fun _ => true) (f := fun j => PyData.int ((gr.length : Int) + j % (m : Int))) (lo := 0) (Mb : Int).toNat
    omega
  refine t_set 9 g5 sl nd (d := encG (sortR (layG gr m))) (ed_sortedR (room65 hr) bi (ed_layers (f_layers M) hr6 hc (ed_v 0 sl rfl))) fun σ B6 H6 g6 sl => ?_
  refine t_forL (ds := (layG (repZ gr (a : Int) (b : Int)) (b * m)).map encR) 10 (fun n σ' B' _ => Sl B' σ' [.dat (encG gr), .dat (.int (a : Int)), .dat (.int (b : Int)), .dat (.int (gr.length : Int)), .dat (.int (m : Int)), .dat (encG (repZ gr (a : Int) (b : Int))), .dat (encR ((Cz.thN (Wa + Mb)).map (nuR gr m a))), .no, .no, .dat (encG (sortR (layG gr m))), .no, .no, .no, .no, .no]) g6 (ed_layers (f_layers M) hr6 hc' (ed_v 5 sl rfl)) nd (passes_of rfl) rfl
    (fun Bx Hx gx gy => (sl.mono gy.eb).weak ⟨.inr rfl, .inr rfl, .inr rfl, .inr rfl, .inr rfl, .inr rfl, .inr rfl, .inr rfl, .inr rfl, .inr rfl, .inr rfl, .inr rfl, .inr rfl, .inr rfl, .inr rfl, trivial⟩)
    (fun n d v σ' B' H' hd gA gB xb rv sl => ?_) (fun σ' B9 H9 g9 x9 sl => ?_)
  · rw [List.getElem?_map] at hd
    obtain ⟨l', hl', rfl⟩ := Option.map_eq_some_iff.mp hd
    have hlm' := List.mem_of_getElem? hl'
    obtain ⟨l, hlm, hmem, hcase⟩ := rl hlm'
    have Ll : LayG gr m l := layG_lay hlm
    have L' := layG_lay hlm'
    have ll := Ll.len
    have ll' := L'.len
    rw [len'] at ll'
    have inm : l ∈ sortR (layG gr m) := (sortR_perm _).mem_iff.mpr hlm
    have thr : ∀ t ∈ l', 0 ≤ t ∧ t < ((Wa + Mb : Nat) : Int) := fun t ht => by
      obtain ⟨a0, a1⟩ := L'.thr ht
      rw [len'] at a1
      exact ⟨a0, by omega⟩
    have sl := sl.set (o := some v) (s := .dat (encR l')) ⟨v, rfl, rv⟩ 10
    have e6 : made (fun _ => true) (fun d => PyData.int (nuR gr m a (intOf d))) (l'.map .int) = (l'.map (nuR gr m a)).map .int := by
      rw [made_all, List.map_map, List.map_map]
      rfl
    refine t_set 11 gB sl nd (d := encR l) ((en_sortedSetL (ns := l'.map (nuR gr m a)) bi bi.set (ed_is (LC.ed (lc_L (ds := l'.map .int) (fun _ => true) (fun d => PyData.int (nuR gr m a (intOf d))) (bk_fn (j := 12) c_law_repeated_right (by decide +kernel)) (ed_v 10 sl rfl) (by rw [List.length_map]; omega) (fun _ _ _ _ _ _ _ _ _ _ _ => ets_nil) fun s H A cl fp d v C hm _ x rv => ?_)) (congrArg PyData.list e6)) (by rw [List.length_map]; omega) Ll.rise (fun k => by rw [hmem, List.mem_map])).imp fun _ _ _ n => n.dt) fun σ7 B7 H7 g7 sl => ?_
    · obtain ⟨i, hi, rfl⟩ := List.mem_map.mp hm
      have slB := sl.blk x 12 rv
      obtain ⟨t0, t1⟩ := thr i hi
      have at1 := atI_int (l := (Cz.thN (Wa + Mb)).map (nuR gr m a)) (i := i) t0 (by rw [List.length_map, thN_len]; exact t1)
      rw [thN_at t0 t1] at at1
      exact ed_ix (ed_v 6 slB rfl) (ed_v 12 slB rfl) at1
    obtain ⟨q, z, ez⟩ : ∃ q z, l = q ++ [z] := ⟨l.dropLast, l.getLast Ll.ne, (List.dropLast_concat_getLast Ll.ne).symm⟩
    have atz : atI (l.map PyData.int) (-1 : Int) = some (.int z) := by
      rw [ez, List.map_append]
      exact L2.atI_last _ _
    have bothv : (decide (l.headD 0 < (gr.length : Int)) && decide ((gr.length : Int) ≤ z)) = decide (2 ≤ l.length) := by
      by_cases two : 2 ≤ l.length
      · obtain ⟨q1, q2⟩ := lay_ends Ll two ez
        rw [decide_eq_true q1, decide_eq_true q2, decide_eq_true two]
        rfl
      · have l1 : l.length = 1 := by
          have := List.length_pos_iff.mpr Ll.ne
          omega
        obtain ⟨y, hy⟩ := List.length_eq_one_iff.mp l1
        have zy : z = y := by
          have : z ∈ l := by rw [ez]; exact List.mem_append_right _ (List.mem_singleton.mpr rfl)
          rw [hy] at this
          exact List.mem_singleton.mp this
        rw [decide_eq_false two, hy, zy]
        show (decide (y < (gr.length : Int)) && decide ((gr.length : Int) ≤ y)) = false
        by_cases c : y < (gr.length : Int)
        · rw [decide_eq_false (show ¬ (gr.length : Int) ≤ y by omega), Bool.and_false]
        · rw [decide_eq_false c, Bool.false_and]
    refine t_set 13 g7 sl nd (d := .bool (decide (2 ≤ l.length))) (ed_is (ed_and (ec_lt (ed_ix (ed_v 11 sl rfl) ed_int (head_at Ll.ne)) (ed_v 3 sl rfl)).ed fun _ => ed_one (ec_ge (ed_ix (ed_v 11 sl rfl) (ed_neg ed_int) atz) (ed_v 3 sl rfl)).ed) (congrArg PyData.bool bothv)) fun σ8 B8 H8 g8 sl => ?_
    have ew : madeR (fun t => decide (nuR gr m a t ∈ l)) (fun t => .int t) 0 (((Wa + Mb : Nat) : Int)).toNat = ((Cz.thN (Wa + Mb)).filter fun o => decide (nuR gr m a o ∈ l)).map .int := by
      unfold madeR Cz.thN
      rw [Int.toNat_natCast]
      refine congrArg (fun l : List Int => l.map PyData.int) (congrArg (List.filter _) (List.map_congr_left fun k _ => ?_))
      omega
    refine t_setLc (ds := ((Cz.thN (Wa + Mb)).filter fun o => decide (nuR gr m a o ∈ l)).map .int) 14 g8 sl (ew ▸ lc_R1 (n := ((Wa + Mb : Nat) : Int)) (fun t => decide (nuR gr m a t ∈ l)) (fun t => .int t) (bk_fn (j := 12) c_law_repeated_right (by decide +kernel)) (ed_is (ed_len (ed_v 6 sl rfl) bi) (by rw [List.length_map, List.length_map, thN_len])) (by omega) bi (fun s H A cl fp k B1 k1 k2 x => ?_) fun s H A cl fp k B1 k1 k2 _ x => ed_v 12 (sl.blkI (i := k) x 12) rfl) fun σ9 B9 H9 g9 sl => ?_
    · have slB := sl.blkI (i := k) x 12
      have at1 := atI_int (l := (Cz.thN (Wa + Mb)).map (nuR gr m a)) (i := k) k1 (by rw [List.length_map, thN_len]; exact k2)
      rw [thN_at k1 k2] at at1
      exact ets_one (ec_inI (ed_ix (ed_v 6 slB rfl) (ed_v 12 slB rfl) at1) (ed_v 11 slB rfl)).et
    have whole : 2 ≤ l.length → l' = (Cz.thN (Wa + Mb)).filter fun o => decide (nuR gr m a o ∈ l) := fun two => by
      rcases hcase with ⟨l1, _⟩ | ⟨_, hall⟩
      · omega
      · refine Cz.rise_same L'.rise ((Cz.thN_rise _).filter _) fun o => ?_
        rw [hall, List.mem_filter, decide_eq_true_iff, hWa, hMb]
    have single : ¬ 2 ≤ l.length → l'.length = 1 := fun two => by
      rcases hcase with ⟨_, l1⟩ | ⟨h2, _⟩
      · exact l1
      · exact absurd h2 two
    refine t_skip g9 sl (et_is (EWt.et (ew_and (et_val (ed_v 13 sl rfl)) fun _ => ew_and1 (EWt.et (ew_or (ec_notInR (room65 hr) (ed_v 11 sl rfl) (ed_v 9 sl rfl)).et fun _ => ew_or1 (ec_neR hr (ed_v 10 sl rfl) (ed_v 14 sl rfl)).et)))) ?_) fun B10 H10 g10 sl => ?_
    · rw [decide_eq_true inm]
      by_cases two : 2 ≤ l.length
      · rw [decide_eq_true two, decide_eq_true (whole two)]
        rfl
      · rw [decide_eq_false two]
        rfl
    refine t_skip g10 sl (et_is (EWt.et (ew_and (et_not (et_val (ed_v 13 sl rfl))) fun _ => ew_and1 (EWt.et (ew_or (ec_neI (ed_len (ed_v 10 sl rfl) bi) ed_int).et fun _ => ew_or1 (ec_notInR (room65 hr) (ed_v 11 sl rfl) (ed_v 9 sl rfl)).et)))) ?_) fun B11 H11 g11 sl => ?_
    · rw [decide_eq_true inm, List.length_map]
      by_cases two : 2 ≤ l.length
      · rw [decide_eq_true two]
        rfl
      · rw [decide_eq_false two, single two]
        rfl
    exact s_nil ⟨B11, g11, sl.weak ⟨.inr rfl, .inr rfl, .inr rfl, .inr rfl, .inr rfl, .inr rfl, .inr rfl, .inr rfl, .inr rfl, .inr rfl, .inl rfl, .inl rfl, .inr rfl, .inl rfl, .inl rfl, trivial⟩⟩
  · exact t_ret g9 ed_bl fun v B' H' g r => ⟨B', g, r⟩
end repr13

section law13
open L2H
variable {P : Program} {w : World} {K : PySem.W.Frag} {mg : Str → Option Value} {base : Heap} {T : List Addr}
/-! ### the law -/
def sgLaw (K : PySem.W.Frag) : Sg := ⟨1, fun B as P => ∃ (A : Addr) (ns : List Int), as = [.val (.ref A)] ∧ SqL K B A (ns.map V.int) ∧ P = isd (.bool true), nox⟩
theorem times_small {n : Nat} (h1 : 1 ≤ n) (h2 : n ≤ 12) (c : Int) : ∃ a : Nat, 1 + c % (12 / (n : Int)) = (a : Int) ∧ 1 ≤ a ∧ a * n ≤ 12 := by
  have q0 : 1 ≤ 12 / (n : Int) := by
    have : (n : Int) * 1 ≤ 12 := by omega
    exact (Int.le_ediv_iff_mul_le (by omega)).mpr (by omega)
  have m0 := Int.emod_nonneg c (show 12 / (n : Int) ≠ 0 by omega)
  have m1 := Int.emod_lt_of_pos c (show 0 < 12 / (n : Int) by omega)
  refine ⟨(1 + c % (12 / (n : Int))).toNat, by omega, by omega, ?_⟩
  have le : (((1 + c % (12 / (n : Int))).toNat : Nat) : Int) ≤ 12 / (n : Int) := by omega
  have := (Int.le_ediv_iff_mul_le (show (0 : Int) < (n : Int) by omega)).mp le
  exact_mod_cast this
set_option maxHeartbeats 4000000 in
theorem f_law (M : Mt K mg base T) {f : Addr} {fd : FuncData} (F1 : Fun K "law" "law" s_law f fd) : FnOk P w K mg base (L2N.CX P w) 9 f fd ["_law_script"] (spP T (sgLaw K).pm) := by
  refine fok_D F1 c_law rfl fun cdv A outer s H vs EK B as R hr g sl hp => ?_
  obtain ⟨A0, ns, rfl, hA, rfl⟩ := hp
  have nd := c_law.nd
  have bi := M.m.bi
  have hr1 := hr.mono (show 1 ≤ 8 by decide)
  have hr3 := hr.mono (show 3 ≤ 8 by decide)
  refine t_set 1 g sl nd (ed_fn (f_cloth M.m) hr3 (eg_v (ev_v 0 sl rfl) (eg_d ed_int eg_nil)) rfl fun B1 x => ⟨_, _, _, rfl, x.seq hA, by decide, rfl⟩) fun σ B1 H1 g1 sl => ?_
  have hc := Cz.clothZ_is ns 2
  generalize (Cz.prmZ ns 2).warps.toNat = m at hc
  generalize Cz.clothZ ns 2 = gr at hc sl
  have hrows := hc.rows
  have hwarps := hc.warps
  have ek : made (fun _ => true) (fun d => d) (gr.map encR) = gr.map encR := by rw [made_all, List.map_id']
  refine t_setLc (ds := gr.map encR) 2 g1 sl (ek ▸ lc_L (ds := gr.map encR) (fun _ => true) (fun d => d) (bk_fn (j := 3) c_law (by decide +kernel)) (ed_v 1 sl rfl) (by rw [List.length_map]; omega) (fun _ _ _ _ _ _ _ _ _ _ _ => ets_nil) fun s H A cl fp d v B2 hm _ x rv => ?_) fun σ B2 H2 g2 sl => ?_
  · obtain ⟨r, _, rfl⟩ := List.mem_map.mp hm
    exact ed_listL (ed_v 3 (sl.blk x 3 rv) rfl) bi
  obtain ⟨r0, hm0, h0⟩ := first_ok hc
  have lr0 := hc.len r0 hm0
  refine t_set 4 g2 sl nd (ed_fn (f_cell M.m) hr1 (eg_v (ev_v 0 sl rfl) (eg_d ed_int eg_nil)) rfl fun B1 x => ⟨_, _, _, rfl, x.seq (g2.eb.seq hA), by decide, rfl⟩) fun σ B3 H3 g3 sl => ?_
  refine t_set 5 g3 sl nd (ed_fn (f_cell M.m) hr1 (eg_v (ev_v 0 sl rfl) (eg_d ed_int eg_nil)) rfl fun B1 x => ⟨_, _, _, rfl, x.seq (g3.eb.seq hA), by decide, rfl⟩) fun σ B4 H4 g4 sl => ?_
  generalize Cz.cellZ ns 0 = dn at sl
  generalize Cz.cellZ ns 1 = rt at sl
  refine t_skip g4 sl (EWt.et (ew_or (et_not (k := true) (et_val (ed_fn (f_turnR M) hr (eg_d (ed_v 1 sl rfl) eg_nil) rfl fun _ _ => ⟨_, _, rfl, hc, rfl⟩))) fun _ => ew_or1 (et_not (k := true) (et_val (ed_fn (f_moveR M) hr (eg_d (ed_v 1 sl rfl) (eg_d (ed_v 4 sl rfl) (eg_d (ed_v 5 sl rfl) eg_nil))) rfl fun _ _ => ⟨_, _, _, _, rfl, hc, rfl⟩))))) fun B5 H5 g5 sl => ?_
  obtain ⟨a, ea, a1, a2⟩ := times_small hrows.1 hrows.2 dn
  obtain ⟨b, eb, b1, b2⟩ := times_small hwarps.1 hwarps.2 rt
  have qa : (0 : Int) < 12 / (gr.length : Int) := Int.lt_of_lt_of_le (by decide) ((Int.le_ediv_iff_mul_le (a := 1) (b := 12) (c := (gr.length : Int)) (by omega)).mpr (by omega))
  have qb : (0 : Int) < 12 / (m : Int) := Int.lt_of_lt_of_le (by decide) ((Int.le_ediv_iff_mul_le (a := 1) (b := 12) (c := (m : Int)) (by omega)).mpr (by omega))
  refine t_set 4 g5 sl nd (d := .int (a : Int)) (ed_is (ed_add ed_int (ed_mod (i := dn) (j := 12 / (gr.length : Int)) qa (ed_v 4 sl rfl) (ed_div (by omega) ed_int (ed_is (ed_len (ed_v 1 sl rfl) bi) (by rw [List.length_map]))))) (by rw [ea])) fun σ B6 H6 g6 sl => ?_
  refine t_set 5 g6 sl nd (d := .int (b : Int)) (ed_is (ed_add ed_int (ed_mod (i := rt) (j := 12 / (m : Int)) qb (ed_v 5 sl rfl) (ed_div (by omega) ed_int (ed_is (ed_len (ed_ix (ed_v 1 sl rfl) ed_int h0) bi) (by rw [List.length_map, lr0]))))) (by rw [eb])) fun σ B7 H7 g7 sl => ?_
  exact t_ret g7 (ed_is (ed_and (k := true) (ed_fn (f_repR M) hr (eg_d (ed_v 1 sl rfl) (eg_d (ed_v 4 sl rfl) (eg_d (ed_v 5 sl rfl) eg_nil))) rfl fun _ _ => ⟨_, _, _, _, rfl, hc, a1, b1, a2, b2, rfl⟩) fun _ => ed_one (ec_eqG (h := gr) hr (ed_v 1 sl rfl) (ed_v 2 sl rfl)).ed) (by rw [decide_eq_true rfl]; rfl)) fun v B' H' g r => ⟨B', g, r⟩
end law13

/-! ### the end -/
set_option maxHeartbeats 0 in
theorem all_mk {l : PySem.W.OpenLaw} {w : World} {K : PySem.W.Frag} {h : Heap} {mg : Str → Option Value} {fa : Addr} (X : K.In h) (G : h.Ns mainGlobals mg) (hfa : mg "law" = some (.ref fa)) (tb3 : ∀ f, mg "is_row" = some (.ref f) → TabAt K f h) (tb19 : ∀ f, mg "may_come_next" = some (.ref f) → TabAt K f h)
    {f1 : Addr} {od1 an1 : Option Addr} {sl1 : Array (Option Value)} {oc1 kV1 dc1 pm1 ct1 cd1 : Value}
    {f2 : Addr} {od2 an2 : Option Addr} {sl2 : Array (Option Value)} {oc2 kV2 dc2 pm2 ct2 cd2 : Value}
    {f3 cc3 : Addr} {od3 an3 : Option Addr} {sl3 : Array (Option Value)} {oc3 kV3 dc3 pm3 ct3 : Value}
    {tP3 : Addr} {te3 : Value} {td3 : Option Addr} {tv3 : Array Value} {ts3 : Array (Option Value)}
    {f4 : Addr} {od4 an4 : Option Addr} {sl4 : Array (Option Value)} {oc4 kV4 dc4 pm4 ct4 cd4 : Value}
    {f5 : Addr} {od5 an5 : Option Addr} {sl5 : Array (Option Value)} {oc5 kV5 dc5 pm5 ct5 cd5 : Value}
    {f6 : Addr} {od6 an6 : Option Addr} {sl6 : Array (Option Value)} {oc6 kV6 dc6 pm6 ct6 cd6 : Value}
    {f7 : Addr} {od7 an7 : Option Addr} {sl7 : Array (Option Value)} {oc7 kV7 dc7 pm7 ct7 cd7 : Value}
    {f8 : Addr} {od8 an8 : Option Addr} {sl8 : Array (Option Value)} {oc8 kV8 dc8 pm8 ct8 cd8 : Value}
    {f9 : Addr} {od9 an9 : Option Addr} {sl9 : Array (Option Value)} {oc9 kV9 dc9 pm9 ct9 cd9 : Value}
    {f10 : Addr} {od10 an10 : Option Addr} {sl10 : Array (Option Value)} {oc10 kV10 dc10 pm10 ct10 cd10 : Value}
    {f11 : Addr} {od11 an11 : Option Addr} {sl11 : Array (Option Value)} {oc11 kV11 dc11 pm11 ct11 cd11 : Value}
    {f12 : Addr} {od12 an12 : Option Addr} {sl12 : Array (Option Value)} {oc12 kV12 dc12 pm12 ct12 cd12 : Value}
    {f13 : Addr} {od13 an13 : Option Addr} {sl13 : Array (Option Value)} {oc13 kV13 dc13 pm13 ct13 cd13 : Value}
    {f14 : Addr} {od14 an14 : Option Addr} {sl14 : Array (Option Value)} {oc14 kV14 dc14 pm14 ct14 cd14 : Value}
    {f15 : Addr} {od15 an15 : Option Addr} {sl15 : Array (Option Value)} {oc15 kV15 dc15 pm15 ct15 cd15 : Value}
    {f16 : Addr} {od16 an16 : Option Addr} {sl16 : Array (Option Value)} {oc16 kV16 dc16 pm16 ct16 cd16 : Value}
    {f17 : Addr} {od17 an17 : Option Addr} {sl17 : Array (Option Value)} {oc17 kV17 dc17 pm17 ct17 cd17 : Value}
    {f18 : Addr} {od18 an18 : Option Addr} {sl18 : Array (Option Value)} {oc18 kV18 dc18 pm18 ct18 cd18 : Value}
    {f19 cc19 : Addr} {od19 an19 : Option Addr} {sl19 : Array (Option Value)} {oc19 kV19 dc19 pm19 ct19 : Value}
    {tP19 : Addr} {te19 : Value} {td19 : Option Addr} {tv19 : Array Value} {ts19 : Array (Option Value)}
    {f20 : Addr} {od20 an20 : Option Addr} {sl20 : Array (Option Value)} {oc20 kV20 dc20 pm20 ct20 cd20 : Value}
    {f21 : Addr} {od21 an21 : Option Addr} {sl21 : Array (Option Value)} {oc21 kV21 dc21 pm21 ct21 cd21 : Value}
    {f22 : Addr} {od22 an22 : Option Addr} {sl22 : Array (Option Value)} {oc22 kV22 dc22 pm22 ct22 cd22 : Value}
    {f23 : Addr} {od23 an23 : Option Addr} {sl23 : Array (Option Value)} {oc23 kV23 dc23 pm23 ct23 cd23 : Value}
    {f24 : Addr} {od24 an24 : Option Addr} {sl24 : Array (Option Value)} {oc24 kV24 dc24 pm24 ct24 cd24 : Value}
    {f25 : Addr} {od25 an25 : Option Addr} {sl25 : Array (Option Value)} {oc25 kV25 dc25 pm25 ct25 cd25 : Value}
    {f26 : Addr} {od26 an26 : Option Addr} {sl26 : Array (Option Value)} {oc26 kV26 dc26 pm26 ct26 cd26 : Value}
    {f27 : Addr} {od27 an27 : Option Addr} {sl27 : Array (Option Value)} {oc27 kV27 dc27 pm27 ct27 cd27 : Value}
    {f28 : Addr} {od28 an28 : Option Addr} {sl28 : Array (Option Value)} {oc28 kV28 dc28 pm28 ct28 cd28 : Value}
    {f29 : Addr} {od29 an29 : Option Addr} {sl29 : Array (Option Value)} {oc29 kV29 dc29 pm29 ct29 cd29 : Value}
    {f30 : Addr} {od30 an30 : Option Addr} {sl30 : Array (Option Value)} {oc30 kV30 dc30 pm30 ct30 cd30 : Value}
    {f31 : Addr} {od31 an31 : Option Addr} {sl31 : Array (Option Value)} {oc31 kV31 dc31 pm31 ct31 cd31 : Value}
    {f32 : Addr} {od32 an32 : Option Addr} {sl32 : Array (Option Value)} {oc32 kV32 dc32 pm32 ct32 cd32 : Value}
    {f33 : Addr} {od33 an33 : Option Addr} {sl33 : Array (Option Value)} {oc33 kV33 dc33 pm33 ct33 cd33 : Value}
    {f34 : Addr} {od34 an34 : Option Addr} {sl34 : Array (Option Value)} {oc34 kV34 dc34 pm34 ct34 cd34 : Value}
    {f35 : Addr} {od35 an35 : Option Addr} {sl35 : Array (Option Value)} {oc35 kV35 dc35 pm35 ct35 cd35 : Value}
    {f36 : Addr} {od36 an36 : Option Addr} {sl36 : Array (Option Value)} {oc36 kV36 dc36 pm36 ct36 cd36 : Value}
    {tk1 : Tok}
    (a1 : PySem.W.nsIn K mainGlobals "is_whole" = some (some (.ref f1)))
    (l1 : K.lookup f1 = some ⟨oc1, od1, .func (PySem.W.fnOf "is_whole" "is_whole" (defArgs s_is_whole) (defBody s_is_whole) (defScope s_is_whole) .none kV1 dc1 pm1 an1 cd1 ct1), sl1⟩)
    (c1 : PySem.W.codeIn K cd1 "is_whole" = true)
    (k1 : PySem.W.keepIn K (.ref f1) = true)
    (a2 : PySem.W.nsIn K mainGlobals "is_filled_list" = some (some (.ref f2)))
    (l2 : K.lookup f2 = some ⟨oc2, od2, .func (PySem.W.fnOf "is_filled_list" "is_filled_list" (defArgs s_is_filled_list) (defBody s_is_filled_list) (defScope s_is_filled_list) .none kV2 dc2 pm2 an2 cd2 ct2), sl2⟩)
    (c2 : PySem.W.codeIn K cd2 "is_filled_list" = true)
    (k2 : PySem.W.keepIn K (.ref f2) = true)
    (a3 : PySem.W.nsIn K mainGlobals "is_row" = some (some (.ref f3)))
    (l3 : K.lookup f3 = some ⟨oc3, od3, .func (PySem.W.fnOf "is_row" "is_row" (defArgs s_is_row) (defBody s_is_row) (defScope s_is_row) .none kV3 dc3 pm3 an3 (.ref cc3) ct3), sl3⟩)
    (c3 : PySem.W.codeIn K (.ref cc3) "is_row" = true)
    (k3 : PySem.W.keepIn K (.ref f3) = true)
    (t3 : K.lookup cc3 = some ⟨te3, td3, .fields tv3, ts3⟩)
    (v3 : tv3[11]? = some (.ref tP3))
    (n3 : K.lookup tP3 = none)
    (a4 : PySem.W.nsIn K mainGlobals "need_cloth" = some (some (.ref f4)))
    (l4 : K.lookup f4 = some ⟨oc4, od4, .func (PySem.W.fnOf "need_cloth" "need_cloth" (defArgs s_need_cloth) (defBody s_need_cloth) (defScope s_need_cloth) .none kV4 dc4 pm4 an4 cd4 ct4), sl4⟩)
    (c4 : PySem.W.codeIn K cd4 "need_cloth" = true)
    (k4 : PySem.W.keepIn K (.ref f4) = true)
    (a5 : PySem.W.nsIn K mainGlobals "count_threads" = some (some (.ref f5)))
    (l5 : K.lookup f5 = some ⟨oc5, od5, .func (PySem.W.fnOf "count_threads" "count_threads" (defArgs s_count_threads) (defBody s_count_threads) (defScope s_count_threads) .none kV5 dc5 pm5 an5 cd5 ct5), sl5⟩)
    (c5 : PySem.W.codeIn K cd5 "count_threads" = true)
    (k5 : PySem.W.keepIn K (.ref f5) = true)
    (a6 : PySem.W.nsIn K mainGlobals "columns_of" = some (some (.ref f6)))
    (l6 : K.lookup f6 = some ⟨oc6, od6, .func (PySem.W.fnOf "columns_of" "columns_of" (defArgs s_columns_of) (defBody s_columns_of) (defScope s_columns_of) .none kV6 dc6 pm6 an6 cd6 ct6), sl6⟩)
    (c6 : PySem.W.codeIn K cd6 "columns_of" = true)
    (k6 : PySem.W.keepIn K (.ref f6) = true)
    (a7 : PySem.W.nsIn K mainGlobals "is_weft" = some (some (.ref f7)))
    (l7 : K.lookup f7 = some ⟨oc7, od7, .func (PySem.W.fnOf "is_weft" "is_weft" (defArgs s_is_weft) (defBody s_is_weft) (defScope s_is_weft) .none kV7 dc7 pm7 an7 cd7 ct7), sl7⟩)
    (c7 : PySem.W.codeIn K cd7 "is_weft" = true)
    (k7 : PySem.W.keepIn K (.ref f7) = true)
    (a8 : PySem.W.nsIn K mainGlobals "crossing" = some (some (.ref f8)))
    (l8 : K.lookup f8 = some ⟨oc8, od8, .func (PySem.W.fnOf "crossing" "crossing" (defArgs s_crossing) (defBody s_crossing) (defScope s_crossing) .none kV8 dc8 pm8 an8 cd8 ct8), sl8⟩)
    (c8 : PySem.W.codeIn K cd8 "crossing" = true)
    (k8 : PySem.W.keepIn K (.ref f8) = true)
    (a9 : PySem.W.nsIn K mainGlobals "lies_over" = some (some (.ref f9)))
    (l9 : K.lookup f9 = some ⟨oc9, od9, .func (PySem.W.fnOf "lies_over" "lies_over" (defArgs s_lies_over) (defBody s_lies_over) (defScope s_lies_over) .none kV9 dc9 pm9 an9 cd9 ct9), sl9⟩)
    (c9 : PySem.W.codeIn K cd9 "lies_over" = true)
    (k9 : PySem.W.keepIn K (.ref f9) = true)
    (a10 : PySem.W.nsIn K mainGlobals "lower_threads" = some (some (.ref f10)))
    (l10 : K.lookup f10 = some ⟨oc10, od10, .func (PySem.W.fnOf "lower_threads" "lower_threads" (defArgs s_lower_threads) (defBody s_lower_threads) (defScope s_lower_threads) .none kV10 dc10 pm10 an10 cd10 ct10), sl10⟩)
    (c10 : PySem.W.codeIn K cd10 "lower_threads" = true)
    (k10 : PySem.W.keepIn K (.ref f10) = true)
    (a11 : PySem.W.nsIn K mainGlobals "turned" = some (some (.ref f11)))
    (l11 : K.lookup f11 = some ⟨oc11, od11, .func (PySem.W.fnOf "turned" "turned" (defArgs s_turned) (defBody s_turned) (defScope s_turned) .none kV11 dc11 pm11 an11 cd11 ct11), sl11⟩)
    (c11 : PySem.W.codeIn K cd11 "turned" = true)
    (k11 : PySem.W.keepIn K (.ref f11) = true)
    (a12 : PySem.W.nsIn K mainGlobals "moved" = some (some (.ref f12)))
    (l12 : K.lookup f12 = some ⟨oc12, od12, .func (PySem.W.fnOf "moved" "moved" (defArgs s_moved) (defBody s_moved) (defScope s_moved) .none kV12 dc12 pm12 an12 cd12 ct12), sl12⟩)
    (c12 : PySem.W.codeIn K cd12 "moved" = true)
    (k12 : PySem.W.keepIn K (.ref f12) = true)
    (a13 : PySem.W.nsIn K mainGlobals "need_times" = some (some (.ref f13)))
    (l13 : K.lookup f13 = some ⟨oc13, od13, .func (PySem.W.fnOf "need_times" "need_times" (defArgs s_need_times) (defBody s_need_times) (defScope s_need_times) .none kV13 dc13 pm13 an13 cd13 ct13), sl13⟩)
    (c13 : PySem.W.codeIn K cd13 "need_times" = true)
    (k13 : PySem.W.keepIn K (.ref f13) = true)
    (a14 : PySem.W.nsIn K mainGlobals "repeated" = some (some (.ref f14)))
    (l14 : K.lookup f14 = some ⟨oc14, od14, .func (PySem.W.fnOf "repeated" "repeated" (defArgs s_repeated) (defBody s_repeated) (defScope s_repeated) .none kV14 dc14 pm14 an14 cd14 ct14), sl14⟩)
    (c14 : PySem.W.codeIn K cd14 "repeated" = true)
    (k14 : PySem.W.keepIn K (.ref f14) = true)
    (a15 : PySem.W.nsIn K mainGlobals "ways_from" = some (some (.ref f15)))
    (l15 : K.lookup f15 = some ⟨oc15, od15, .func (PySem.W.fnOf "ways_from" "ways_from" (defArgs s_ways_from) (defBody s_ways_from) (defScope s_ways_from) .none kV15 dc15 pm15 an15 cd15 ct15), sl15⟩)
    (c15 : PySem.W.codeIn K cd15 "ways_from" = true)
    (k15 : PySem.W.keepIn K (.ref f15) = true)
    (a16 : PySem.W.nsIn K mainGlobals "all_ways" = some (some (.ref f16)))
    (l16 : K.lookup f16 = some ⟨oc16, od16, .func (PySem.W.fnOf "all_ways" "all_ways" (defArgs s_all_ways) (defBody s_all_ways) (defScope s_all_ways) .none kV16 dc16 pm16 an16 cd16 ct16), sl16⟩)
    (c16 : PySem.W.codeIn K cd16 "all_ways" = true)
    (k16 : PySem.W.keepIn K (.ref f16) = true)
    (a17 : PySem.W.nsIn K mainGlobals "layer_with" = some (some (.ref f17)))
    (l17 : K.lookup f17 = some ⟨oc17, od17, .func (PySem.W.fnOf "layer_with" "layer_with" (defArgs s_layer_with) (defBody s_layer_with) (defScope s_layer_with) .none kV17 dc17 pm17 an17 cd17 ct17), sl17⟩)
    (c17 : PySem.W.codeIn K cd17 "layer_with" = true)
    (k17 : PySem.W.keepIn K (.ref f17) = true)
    (a18 : PySem.W.nsIn K mainGlobals "layers_by_least" = some (some (.ref f18)))
    (l18 : K.lookup f18 = some ⟨oc18, od18, .func (PySem.W.fnOf "layers_by_least" "layers_by_least" (defArgs s_layers_by_least) (defBody s_layers_by_least) (defScope s_layers_by_least) .none kV18 dc18 pm18 an18 cd18 ct18), sl18⟩)
    (c18 : PySem.W.codeIn K cd18 "layers_by_least" = true)
    (k18 : PySem.W.keepIn K (.ref f18) = true)
    (a19 : PySem.W.nsIn K mainGlobals "may_come_next" = some (some (.ref f19)))
    (l19 : K.lookup f19 = some ⟨oc19, od19, .func (PySem.W.fnOf "may_come_next" "may_come_next" (defArgs s_may_come_next) (defBody s_may_come_next) (defScope s_may_come_next) .none kV19 dc19 pm19 an19 (.ref cc19) ct19), sl19⟩)
    (c19 : PySem.W.codeIn K (.ref cc19) "may_come_next" = true)
    (k19 : PySem.W.keepIn K (.ref f19) = true)
    (t19 : K.lookup cc19 = some ⟨te19, td19, .fields tv19, ts19⟩)
    (v19 : tv19[11]? = some (.ref tP19))
    (n19 : K.lookup tP19 = none)
    (a20 : PySem.W.nsIn K mainGlobals "layers" = some (some (.ref f20)))
    (l20 : K.lookup f20 = some ⟨oc20, od20, .func (PySem.W.fnOf "layers" "layers" (defArgs s_layers) (defBody s_layers) (defScope s_layers) .none kV20 dc20 pm20 an20 cd20 ct20), sl20⟩)
    (c20 : PySem.W.codeIn K cd20 "layers" = true)
    (k20 : PySem.W.keepIn K (.ref f20) = true)
    (a21 : PySem.W.nsIn K mainGlobals "hangs" = some (some (.ref f21)))
    (l21 : K.lookup f21 = some ⟨oc21, od21, .func (PySem.W.fnOf "hangs" "hangs" (defArgs s_hangs) (defBody s_hangs) (defScope s_hangs) .none kV21 dc21 pm21 an21 cd21 ct21), sl21⟩)
    (c21 : PySem.W.codeIn K cd21 "hangs" = true)
    (k21 : PySem.W.keepIn K (.ref f21) = true)
    (a22 : PySem.W.nsIn K mainGlobals "kinds_of" = some (some (.ref f22)))
    (l22 : K.lookup f22 = some ⟨oc22, od22, .func (PySem.W.fnOf "kinds_of" "kinds_of" (defArgs s_kinds_of) (defBody s_kinds_of) (defScope s_kinds_of) .none kV22 dc22 pm22 an22 cd22 ct22), sl22⟩)
    (c22 : PySem.W.codeIn K cd22 "kinds_of" = true)
    (k22 : PySem.W.keepIn K (.ref f22) = true)
    (a23 : PySem.W.nsIn K mainGlobals "numbered" = some (some (.ref f23)))
    (l23 : K.lookup f23 = some ⟨oc23, od23, .func (PySem.W.fnOf "numbered" "numbered" (defArgs s_numbered) (defBody s_numbered) (defScope s_numbered) .none kV23 dc23 pm23 an23 cd23 ct23), sl23⟩)
    (c23 : PySem.W.codeIn K cd23 "numbered" = true)
    (k23 : PySem.W.keepIn K (.ref f23) = true)
    (a24 : PySem.W.nsIn K mainGlobals "lifted" = some (some (.ref f24)))
    (l24 : K.lookup f24 = some ⟨oc24, od24, .func (PySem.W.fnOf "lifted" "lifted" (defArgs s_lifted) (defBody s_lifted) (defScope s_lifted) .none kV24 dc24 pm24 an24 cd24 ct24), sl24⟩)
    (c24 : PySem.W.codeIn K cd24 "lifted" = true)
    (k24 : PySem.W.keepIn K (.ref f24) = true)
    (a25 : PySem.W.nsIn K mainGlobals "loom_of" = some (some (.ref f25)))
    (l25 : K.lookup f25 = some ⟨oc25, od25, .func (PySem.W.fnOf "loom_of" "loom_of" (defArgs s_loom_of) (defBody s_loom_of) (defScope s_loom_of) .none kV25 dc25 pm25 an25 cd25 ct25), sl25⟩)
    (c25 : PySem.W.codeIn K cd25 "loom_of" = true)
    (k25 : PySem.W.keepIn K (.ref f25) = true)
    (a26 : PySem.W.nsIn K mainGlobals "_law_cell_at" = some (some (.ref f26)))
    (l26 : K.lookup f26 = some ⟨oc26, od26, .func (PySem.W.fnOf "_law_cell_at" "_law_cell_at" (defArgs s_law_cell_at) (defBody s_law_cell_at) (defScope s_law_cell_at) .none kV26 dc26 pm26 an26 cd26 ct26), sl26⟩)
    (c26 : PySem.W.codeIn K cd26 "_law_cell_at" = true)
    (k26 : PySem.W.keepIn K (.ref f26) = true)
    (a27 : PySem.W.nsIn K mainGlobals "_law_drawn" = some (some (.ref f27)))
    (l27 : K.lookup f27 = some ⟨oc27, od27, .func (PySem.W.fnOf "_law_drawn" "_law_drawn" (defArgs s_law_drawn) (defBody s_law_drawn) (defScope s_law_drawn) .none kV27 dc27 pm27 an27 cd27 ct27), sl27⟩)
    (c27 : PySem.W.codeIn K cd27 "_law_drawn" = true)
    (k27 : PySem.W.keepIn K (.ref f27) = true)
    (a28 : PySem.W.nsIn K mainGlobals "_law_size" = some (some (.ref f28)))
    (l28 : K.lookup f28 = some ⟨oc28, od28, .func (PySem.W.fnOf "_law_size" "_law_size" (defArgs s_law_size) (defBody s_law_size) (defScope s_law_size) .none kV28 dc28 pm28 an28 cd28 ct28), sl28⟩)
    (c28 : PySem.W.codeIn K cd28 "_law_size" = true)
    (k28 : PySem.W.keepIn K (.ref f28) = true)
    (a29 : PySem.W.nsIn K mainGlobals "_law_kind_at" = some (some (.ref f29)))
    (l29 : K.lookup f29 = some ⟨oc29, od29, .func (PySem.W.fnOf "_law_kind_at" "_law_kind_at" (defArgs s_law_kind_at) (defBody s_law_kind_at) (defScope s_law_kind_at) .none kV29 dc29 pm29 an29 cd29 ct29), sl29⟩)
    (c29 : PySem.W.codeIn K cd29 "_law_kind_at" = true)
    (k29 : PySem.W.keepIn K (.ref f29) = true)
    (a30 : PySem.W.nsIn K mainGlobals "_law_cloth_by" = some (some (.ref f30)))
    (l30 : K.lookup f30 = some ⟨oc30, od30, .func (PySem.W.fnOf "_law_cloth_by" "_law_cloth_by" (defArgs s_law_cloth_by) (defBody s_law_cloth_by) (defScope s_law_cloth_by) .none kV30 dc30 pm30 an30 cd30 ct30), sl30⟩)
    (c30 : PySem.W.codeIn K cd30 "_law_cloth_by" = true)
    (k30 : PySem.W.keepIn K (.ref f30) = true)
    (a31 : PySem.W.nsIn K mainGlobals "_law_counts" = some (some (.ref f31)))
    (l31 : K.lookup f31 = some ⟨oc31, od31, .func (PySem.W.fnOf "_law_counts" "_law_counts" (defArgs s_law_counts) (defBody s_law_counts) (defScope s_law_counts) .none kV31 dc31 pm31 an31 cd31 ct31), sl31⟩)
    (c31 : PySem.W.codeIn K cd31 "_law_counts" = true)
    (k31 : PySem.W.keepIn K (.ref f31) = true)
    (a32 : PySem.W.nsIn K mainGlobals "_law_as" = some (some (.ref f32)))
    (l32 : K.lookup f32 = some ⟨oc32, od32, .func (PySem.W.fnOf "_law_as" "_law_as" (defArgs s_law_as) (defBody s_law_as) (defScope s_law_as) .none kV32 dc32 pm32 an32 cd32 ct32), sl32⟩)
    (c32 : PySem.W.codeIn K cd32 "_law_as" = true)
    (k32 : PySem.W.keepIn K (.ref f32) = true)
    (a33 : PySem.W.nsIn K mainGlobals "_law_turned_right" = some (some (.ref f33)))
    (l33 : K.lookup f33 = some ⟨oc33, od33, .func (PySem.W.fnOf "_law_turned_right" "_law_turned_right" (defArgs s_law_turned_right) (defBody s_law_turned_right) (defScope s_law_turned_right) .none kV33 dc33 pm33 an33 cd33 ct33), sl33⟩)
    (c33 : PySem.W.codeIn K cd33 "_law_turned_right" = true)
    (k33 : PySem.W.keepIn K (.ref f33) = true)
    (a34 : PySem.W.nsIn K mainGlobals "_law_moved_right" = some (some (.ref f34)))
    (l34 : K.lookup f34 = some ⟨oc34, od34, .func (PySem.W.fnOf "_law_moved_right" "_law_moved_right" (defArgs s_law_moved_right) (defBody s_law_moved_right) (defScope s_law_moved_right) .none kV34 dc34 pm34 an34 cd34 ct34), sl34⟩)
    (c34 : PySem.W.codeIn K cd34 "_law_moved_right" = true)
    (k34 : PySem.W.keepIn K (.ref f34) = true)
    (a35 : PySem.W.nsIn K mainGlobals "_law_repeated_right" = some (some (.ref f35)))
    (l35 : K.lookup f35 = some ⟨oc35, od35, .func (PySem.W.fnOf "_law_repeated_right" "_law_repeated_right" (defArgs s_law_repeated_right) (defBody s_law_repeated_right) (defScope s_law_repeated_right) .none kV35 dc35 pm35 an35 cd35 ct35), sl35⟩)
    (c35 : PySem.W.codeIn K cd35 "_law_repeated_right" = true)
    (k35 : PySem.W.keepIn K (.ref f35) = true)
    (a36 : PySem.W.nsIn K mainGlobals "law" = some (some (.ref f36)))
    (l36 : K.lookup f36 = some ⟨oc36, od36, .func (PySem.W.fnOf "law" "law" (defArgs s_law) (defBody s_law) (defScope s_law) .none kV36 dc36 pm36 an36 cd36 ct36), sl36⟩)
    (c36 : PySem.W.codeIn K cd36 "law" = true)
    (k36 : PySem.W.keepIn K (.ref f36) = true)
    (z1 : PySem.W.nsIn K mainGlobals "len" = some none)
    (z2 : PySem.W.nsIn K mainGlobals "range" = some none)
    (z3 : PySem.W.nsIn K mainGlobals "list" = some none)
    (z4 : PySem.W.nsIn K mainGlobals "int" = some none)
    (z5 : PySem.W.nsIn K mainGlobals "type" = some none)
    (z6 : PySem.W.nsIn K mainGlobals "isinstance" = some none)
    (z7 : PySem.W.nsIn K mainGlobals "bool" = some none)
    (z8 : PySem.W.nsIn K mainGlobals "str" = some none)
    (z9 : PySem.W.nsIn K mainGlobals "tuple" = some none)
    (z10 : PySem.W.nsIn K mainGlobals "all" = some none)
    (z11 : PySem.W.nsIn K mainGlobals "ValueError" = some none)
    (z12 : PySem.W.nsIn K mainGlobals "reversed" = some none)
    (z13 : PySem.W.nsIn K mainGlobals "max" = some none)
    (z14 : PySem.W.nsIn K mainGlobals "min" = some none)
    (z15 : PySem.W.nsIn K mainGlobals "any" = some none)
    (z16 : PySem.W.nsIn K mainGlobals "sum" = some none)
    (z17 : PySem.W.nsIn K mainGlobals "sorted" = some none)
    (z18 : PySem.W.nsIn K mainGlobals "set" = some none)
    (z19 : PySem.W.nsIn K mainGlobals "enumerate" = some none)
    (z20 : PySem.W.nsIn K mainGlobals "zip" = some none)
    (m1 : PySem.W.nsIn K mainGlobals "MOST" = some (some (.int 12 tk1)))
    : LamX.LawAtS l w K (L2N.CX l.prog w) 9 63 "_law_script" mg fa h := by
  have e := hfa.symm.trans (PySem.W.mg_of X G a36)
  cases e
  have B : Bi mg := ⟨PySem.W.mg_none_of X G z1, PySem.W.mg_none_of X G z2, PySem.W.mg_none_of X G z3, PySem.W.mg_none_of X G z4, PySem.W.mg_none_of X G z5, PySem.W.mg_none_of X G z6, PySem.W.mg_none_of X G z7, PySem.W.mg_none_of X G z8, PySem.W.mg_none_of X G z9, PySem.W.mg_none_of X G z10, PySem.W.mg_none_of X G z11, PySem.W.mg_none_of X G z12, PySem.W.mg_none_of X G z13, PySem.W.mg_none_of X G z14, PySem.W.mg_none_of X G z15, PySem.W.mg_none_of X G z16, PySem.W.mg_none_of X G z17, PySem.W.mg_none_of X G z18, PySem.W.mg_none_of X G z19, PySem.W.mg_none_of X G z20⟩
  have F1 := fun_mk (st := s_is_whole) l1 c1 k1
  have b1 := F1.binds (ps := ["thing"]) fun _ _ _ _ _ _ us hl => match us, hl with | [_], _ => rfl
  have F2 := fun_mk (st := s_is_filled_list) l2 c2 k2
  have b2 := F2.binds (ps := ["thing"]) fun _ _ _ _ _ _ us hl => match us, hl with | [_], _ => rfl
  have F3 := fun_mk (st := s_is_row) l3 c3 k3
  have b3 := F3.binds (ps := ["thing"]) fun _ _ _ _ _ _ us hl => match us, hl with | [_], _ => rfl
  have F4 := fun_mk (st := s_need_cloth) l4 c4 k4
  have b4 := F4.binds (ps := ["thing"]) fun _ _ _ _ _ _ us hl => match us, hl with | [_], _ => rfl
  have F5 := fun_mk (st := s_count_threads) l5 c5 k5
  have b5 := F5.binds (ps := ["rows"]) fun _ _ _ _ _ _ us hl => match us, hl with | [_], _ => rfl
  have F6 := fun_mk (st := s_columns_of) l6 c6 k6
  have b6 := F6.binds (ps := ["rows"]) fun _ _ _ _ _ _ us hl => match us, hl with | [_], _ => rfl
  have F7 := fun_mk (st := s_is_weft) l7 c7 k7
  have b7 := F7.binds (ps := ["rows", "thread"]) fun _ _ _ _ _ _ us hl => match us, hl with | [_, _], _ => rfl
  have F8 := fun_mk (st := s_crossing) l8 c8 k8
  have b8 := F8.binds (ps := ["rows", "thread"]) fun _ _ _ _ _ _ us hl => match us, hl with | [_, _], _ => rfl
  have F9 := fun_mk (st := s_lies_over) l9 c9 k9
  have b9 := F9.binds (ps := ["rows", "one", "other"]) fun _ _ _ _ _ _ us hl => match us, hl with | [_, _, _], _ => rfl
  have F10 := fun_mk (st := s_lower_threads) l10 c10 k10
  have b10 := F10.binds (ps := ["rows", "thread"]) fun _ _ _ _ _ _ us hl => match us, hl with | [_, _], _ => rfl
  have F11 := fun_mk (st := s_turned) l11 c11 k11
  have b11 := F11.binds (ps := ["cloth"]) fun _ _ _ _ _ _ us hl => match us, hl with | [_], _ => rfl
  have F12 := fun_mk (st := s_moved) l12 c12 k12
  have b12 := F12.binds (ps := ["cloth", "down", "right"]) fun _ _ _ _ _ _ us hl => match us, hl with | [_, _, _], _ => rfl
  have F13 := fun_mk (st := s_need_times) l13 c13 k13
  have b13 := F13.binds (ps := ["thing", "many"]) fun _ _ _ _ _ _ us hl => match us, hl with | [_, _], _ => rfl
  have F14 := fun_mk (st := s_repeated) l14 c14 k14
  have b14 := F14.binds (ps := ["cloth", "down", "right"]) fun _ _ _ _ _ _ us hl => match us, hl with | [_, _, _], _ => rfl
  have F15 := fun_mk (st := s_ways_from) l15 c15 k15
  have b15 := F15.binds (ps := ["rows", "first"]) fun _ _ _ _ _ _ us hl => match us, hl with | [_, _], _ => rfl
  have F16 := fun_mk (st := s_all_ways) l16 c16 k16
  have b16 := F16.binds (ps := ["rows"]) fun _ _ _ _ _ _ us hl => match us, hl with | [_], _ => rfl
  have F17 := fun_mk (st := s_layer_with) l17 c17 k17
  have b17 := F17.binds (ps := ["ways", "thread"]) fun _ _ _ _ _ _ us hl => match us, hl with | [_, _], _ => rfl
  have F18 := fun_mk (st := s_layers_by_least) l18 c18 k18
  have b18 := F18.binds (ps := ["ways"]) fun _ _ _ _ _ _ us hl => match us, hl with | [_], _ => rfl
  have F19 := fun_mk (st := s_may_come_next) l19 c19 k19
  have b19 := F19.binds (ps := ["ways", "layer", "left"]) fun _ _ _ _ _ _ us hl => match us, hl with | [_, _, _], _ => rfl
  have F20 := fun_mk (st := s_layers) l20 c20 k20
  have b20 := F20.binds (ps := ["cloth"]) fun _ _ _ _ _ _ us hl => match us, hl with | [_], _ => rfl
  have F21 := fun_mk (st := s_hangs) l21 c21 k21
  have b21 := F21.binds (ps := ["cloth"]) fun _ _ _ _ _ _ us hl => match us, hl with | [_], _ => rfl
  have F22 := fun_mk (st := s_kinds_of) l22 c22 k22
  have b22 := F22.binds (ps := ["lines"]) fun _ _ _ _ _ _ us hl => match us, hl with | [_], _ => rfl
  have F23 := fun_mk (st := s_numbered) l23 c23 k23
  have b23 := F23.binds (ps := ["lines"]) fun _ _ _ _ _ _ us hl => match us, hl with | [_], _ => rfl
  have F24 := fun_mk (st := s_lifted) l24 c24 k24
  have b24 := F24.binds (ps := ["threading", "row"]) fun _ _ _ _ _ _ us hl => match us, hl with | [_, _], _ => rfl
  have F25 := fun_mk (st := s_loom_of) l25 c25 k25
  have b25 := F25.binds (ps := ["cloth"]) fun _ _ _ _ _ _ us hl => match us, hl with | [_], _ => rfl
  have F26 := fun_mk (st := s_law_cell_at) l26 c26 k26
  have b26 := F26.binds (ps := ["_law_script", "_law_k"]) fun _ _ _ _ _ _ us hl => match us, hl with | [_, _], _ => rfl
  have F27 := fun_mk (st := s_law_drawn) l27 c27 k27
  have b27 := F27.binds (ps := ["_law_seed", "_law_k"]) fun _ _ _ _ _ _ us hl => match us, hl with | [_, _], _ => rfl
  have F28 := fun_mk (st := s_law_size) l28 c28 k28
  have b28 := F28.binds (ps := ["_law_cell"]) fun _ _ _ _ _ _ us hl => match us, hl with | [_], _ => rfl
  have F29 := fun_mk (st := s_law_kind_at) l29 c29 k29
  have b29 := F29.binds (ps := ["_law_seed", "_law_k", "_law_few"]) fun _ _ _ _ _ _ us hl => match us, hl with | [_, _, _], _ => rfl
  have F30 := fun_mk (st := s_law_cloth_by) l30 c30 k30
  have b30 := F30.binds (ps := ["_law_script", "_law_at"]) fun _ _ _ _ _ _ us hl => match us, hl with | [_, _], _ => rfl
  have F31 := fun_mk (st := s_law_counts) l31 c31 k31
  have b31 := F31.binds (ps := ["_law_cloth"]) fun _ _ _ _ _ _ us hl => match us, hl with | [_], _ => rfl
  have F32 := fun_mk (st := s_law_as) l32 c32 k32
  have b32 := F32.binds (ps := ["_law_told", "_law_names"]) fun _ _ _ _ _ _ us hl => match us, hl with | [_, _], _ => rfl
  have F33 := fun_mk (st := s_law_turned_right) l33 c33 k33
  have b33 := F33.binds (ps := ["_law_cloth"]) fun _ _ _ _ _ _ us hl => match us, hl with | [_], _ => rfl
  have F34 := fun_mk (st := s_law_moved_right) l34 c34 k34
  have b34 := F34.binds (ps := ["_law_cloth", "_law_down", "_law_right"]) fun _ _ _ _ _ _ us hl => match us, hl with | [_, _, _], _ => rfl
  have F35 := fun_mk (st := s_law_repeated_right) l35 c35 k35
  have b35 := F35.binds (ps := ["_law_cloth", "_law_down", "_law_right"]) fun _ _ _ _ _ _ us hl => match us, hl with | [_, _, _], _ => rfl
  have F36 := fun_mk (st := s_law) l36 c36 k36
  have b36 := F36.binds (ps := ["_law_script"]) fun _ _ _ _ _ _ us hl => match us, hl with | [_], _ => rfl
  have M : Md K mg := {
    bi := B
    k_MOST := ⟨_, PySem.W.mg_of X G m1⟩
    d_is_whole := ⟨_, _, F1, PySem.W.mg_of X G a1, b1⟩
    d_is_filled_list := ⟨_, _, F2, PySem.W.mg_of X G a2, b2⟩
    d_is_row := ⟨_, _, F3, PySem.W.mg_of X G a3, b3⟩
    d_need_cloth := ⟨_, _, F4, PySem.W.mg_of X G a4, b4⟩
    d_count_threads := ⟨_, _, F5, PySem.W.mg_of X G a5, b5⟩
    d_columns_of := ⟨_, _, F6, PySem.W.mg_of X G a6, b6⟩
    d_is_weft := ⟨_, _, F7, PySem.W.mg_of X G a7, b7⟩
    d_crossing := ⟨_, _, F8, PySem.W.mg_of X G a8, b8⟩
    d_lies_over := ⟨_, _, F9, PySem.W.mg_of X G a9, b9⟩
    d_lower_threads := ⟨_, _, F10, PySem.W.mg_of X G a10, b10⟩
    d_turned := ⟨_, _, F11, PySem.W.mg_of X G a11, b11⟩
    d_moved := ⟨_, _, F12, PySem.W.mg_of X G a12, b12⟩
    d_need_times := ⟨_, _, F13, PySem.W.mg_of X G a13, b13⟩
    d_repeated := ⟨_, _, F14, PySem.W.mg_of X G a14, b14⟩
    d_ways_from := ⟨_, _, F15, PySem.W.mg_of X G a15, b15⟩
    d_all_ways := ⟨_, _, F16, PySem.W.mg_of X G a16, b16⟩
    d_layer_with := ⟨_, _, F17, PySem.W.mg_of X G a17, b17⟩
    d_layers_by_least := ⟨_, _, F18, PySem.W.mg_of X G a18, b18⟩
    d_may_come_next := ⟨_, _, F19, PySem.W.mg_of X G a19, b19⟩
    d_layers := ⟨_, _, F20, PySem.W.mg_of X G a20, b20⟩
    d_hangs := ⟨_, _, F21, PySem.W.mg_of X G a21, b21⟩
    d_kinds_of := ⟨_, _, F22, PySem.W.mg_of X G a22, b22⟩
    d_numbered := ⟨_, _, F23, PySem.W.mg_of X G a23, b23⟩
    d_lifted := ⟨_, _, F24, PySem.W.mg_of X G a24, b24⟩
    d_loom_of := ⟨_, _, F25, PySem.W.mg_of X G a25, b25⟩
    d_law_cell_at := ⟨_, _, F26, PySem.W.mg_of X G a26, b26⟩
    d_law_drawn := ⟨_, _, F27, PySem.W.mg_of X G a27, b27⟩
    d_law_size := ⟨_, _, F28, PySem.W.mg_of X G a28, b28⟩
    d_law_kind_at := ⟨_, _, F29, PySem.W.mg_of X G a29, b29⟩
    d_law_cloth_by := ⟨_, _, F30, PySem.W.mg_of X G a30, b30⟩
    d_law_counts := ⟨_, _, F31, PySem.W.mg_of X G a31, b31⟩
    d_law_as := ⟨_, _, F32, PySem.W.mg_of X G a32, b32⟩
    d_law_turned_right := ⟨_, _, F33, PySem.W.mg_of X G a33, b33⟩
    d_law_moved_right := ⟨_, _, F34, PySem.W.mg_of X G a34, b34⟩
    d_law_repeated_right := ⟨_, _, F35, PySem.W.mg_of X G a35, b35⟩
    d_law := ⟨_, _, F36, PySem.W.mg_of X G a36, b36⟩ }
  obtain ⟨hP3, hd3⟩ := tb3 f3 (PySem.W.mg_of X G a3) cc3 tP3 _ _ te3 td3 tv3 ts3 l3 rfl rfl t3 v3
  obtain ⟨hP19, hd19⟩ := tb19 f19 (PySem.W.mg_of X G a19) cc19 tP19 _ _ te19 td19 tv19 ts19 l19 rfl rfl t19 v19
  refine ⟨PySem.W.fnOf "law" "law" (defArgs s_law) (defBody s_law) (defScope s_law) .none kV36 dc36 pm36 an36 cd36 ct36, [(cc3, tP3), (cc19, tP19)], spP [tP3, tP19] (sgLaw K).pm, fun p hp => ?_, fun p hp => ?_, fun p hp => ?_, fun s u => .of_eq rfl, fun H a ns hn hz hH hS => ⟨rfl, H, ⟨Ex.rfl, fun P' hP' => ?_⟩, .inl ⟨_, ⟨[.val (.ref a)], _, ⟨a, ns, rfl, hS, rfl⟩, ⟨rfl, trivial⟩, rfl⟩, fun v B' H' g r => r.toBool⟩⟩, fun base Kb Nb hTb => ?_⟩
  · simp only [List.mem_cons, List.not_mem_nil, or_false] at hp
    rcases hp with e | e
    · rw [e]; exact hP3
    · rw [e]; exact hP19
  · simp only [List.mem_cons, List.not_mem_nil, or_false] at hp
    rcases hp with e | e
    · rw [e]; exact n3
    · rw [e]; exact n19
  · simp only [List.mem_cons, List.not_mem_nil, or_false] at hp
    rcases hp with e | e
    · rw [e]; exact hd3
    · rw [e]; exact hd19
  · simp only [List.mem_cons, List.not_mem_nil, or_false] at hP'
    rcases hP' with e | e
    · rw [e]; exact ⟨#[], hH (cc3, tP3) (by simp), trivial⟩
    · rw [e]; exact ⟨#[], hH (cc19, tP19) (by simp), trivial⟩
  · have t3' := hTb (cc3, tP3) (by simp)
    have t19' := hTb (cc19, tP19) (by simp)
    exact f_law (P := l.prog) (w := w) (base := base) (T := [tP3, tP19]) ⟨M, ⟨f3, cc3, tP3, _, _, _, _, _, _, _, _, l3, c3, PySem.W.mg_of X G a3, k3, b3, by simp, ⟨t3'.code, t3'.bm, t3'.gP⟩⟩, ⟨f19, cc19, tP19, _, _, _, _, _, _, _, _, l19, c19, PySem.W.mg_of X G a19, k19, b19, by simp, ⟨t19'.code, t19'.bm, t19'.gP⟩⟩⟩ F36
end Lw
open PySem PySem.W PyProof.Rows
set_option maxRecDepth 100000 in
set_option maxHeartbeats 0 in
theorem PySem.Challenge.cw_clothlayers_k13_whole_told_alike_holds : PySem.Challenge.rw_clothlayers_k13_whole_told_alike.Holds := by
  w_on; o_law; k_head; (case hw => w_witness2)
  k_fill
  refine Cw.walk_tabs (l := PySem.Challenge.rw_clothlayers_k13_whole_told_alike) (n := 63) (k := 9) (CX := fun w => L2N.CX (PySem.Challenge.rw_clothlayers_k13_whole_told_alike).prog w) (x := "_law_script") rfl (by decide) rfl ⟨rfl, by decide, by decide⟩ (fun w h Y => PySem.W.kIn_of Y) ?F (fun w H s e s' ⟨_, _, _, _, _, _, _, _, _, _, _, _, z⟩ => z.elim)
  case F =>
    intro w mg fa h Y KX G hmg tabs
    refine' Lw.all_mk KX G hmg (fun f e => tabs "is_row" f (by decide +kernel) e) (fun f e => tabs "may_come_next" f (by decide +kernel) e) ?a1 ?l1 ?c1 ?k1 ?a2 ?l2 ?c2 ?k2 ?a3 ?l3 ?c3 ?k3 ?t3 ?v3 ?n3 ?a4 ?l4 ?c4 ?k4 ?a5 ?l5 ?c5 ?k5 ?a6 ?l6 ?c6 ?k6 ?a7 ?l7 ?c7 ?k7 ?a8 ?l8 ?c8 ?k8 ?a9 ?l9 ?c9 ?k9 ?a10 ?l10 ?c10 ?k10 ?a11 ?l11 ?c11 ?k11 ?a12 ?l12 ?c12 ?k12 ?a13 ?l13 ?c13 ?k13 ?a14 ?l14 ?c14 ?k14 ?a15 ?l15 ?c15 ?k15 ?a16 ?l16 ?c16 ?k16 ?a17 ?l17 ?c17 ?k17 ?a18 ?l18 ?c18 ?k18 ?a19 ?l19 ?c19 ?k19 ?t19 ?v19 ?n19 ?a20 ?l20 ?c20 ?k20 ?a21 ?l21 ?c21 ?k21 ?a22 ?l22 ?c22 ?k22 ?a23 ?l23 ?c23 ?k23 ?a24 ?l24 ?c24 ?k24 ?a25 ?l25 ?c25 ?k25 ?a26 ?l26 ?c26 ?k26 ?a27 ?l27 ?c27 ?k27 ?a28 ?l28 ?c28 ?k28 ?a29 ?l29 ?c29 ?k29 ?a30 ?l30 ?c30 ?k30 ?a31 ?l31 ?c31 ?k31 ?a32 ?l32 ?c32 ?k32 ?a33 ?l33 ?c33 ?k33 ?a34 ?l34 ?c34 ?k34 ?a35 ?l35 ?c35 ?k35 ?a36 ?l36 ?c36 ?k36 ?z1 ?z2 ?z3 ?z4 ?z5 ?z6 ?z7 ?z8 ?z9 ?z10 ?z11 ?z12 ?z13 ?z14 ?z15 ?z16 ?z17 ?z18 ?z19 ?z20 ?m1
    (case a1 => k_is)
    (case l1 => k_is)
    (case c1 => k_is)
    (case k1 => k_is)
    (case a2 => k_is)
    (case l2 => k_is)
    (case c2 => k_is)
    (case k2 => k_is)
    (case a3 => k_is)
    (case l3 => k_is)
    (case c3 => k_is)
    (case k3 => k_is)
    (case t3 => k_is)
    (case v3 => rfl)
    (case n3 => rfl)
    (case a4 => k_is)
    (case l4 => k_is)
    (case c4 => k_is)
    (case k4 => k_is)
    (case a5 => k_is)
    (case l5 => k_is)
    (case c5 => k_is)
    (case k5 => k_is)
    (case a6 => k_is)
    (case l6 => k_is)
    (case c6 => k_is)
    (case k6 => k_is)
    (case a7 => k_is)
    (case l7 => k_is)
    (case c7 => k_is)
    (case k7 => k_is)
    (case a8 => k_is)
    (case l8 => k_is)
    (case c8 => k_is)
    (case k8 => k_is)
    (case a9 => k_is)
    (case l9 => k_is)
    (case c9 => k_is)
    (case k9 => k_is)
    (case a10 => k_is)
    (case l10 => k_is)
    (case c10 => k_is)
    (case k10 => k_is)
    (case a11 => k_is)
    (case l11 => k_is)
    (case c11 => k_is)
    (case k11 => k_is)
    (case a12 => k_is)
    (case l12 => k_is)
    (case c12 => k_is)
    (case k12 => k_is)
    (case a13 => k_is)
    (case l13 => k_is)
    (case c13 => k_is)
    (case k13 => k_is)
    (case a14 => k_is)
    (case l14 => k_is)
    (case c14 => k_is)
    (case k14 => k_is)
    (case a15 => k_is)
    (case l15 => k_is)
    (case c15 => k_is)
    (case k15 => k_is)
    (case a16 => k_is)
    (case l16 => k_is)
    (case c16 => k_is)
    (case k16 => k_is)
    (case a17 => k_is)
    (case l17 => k_is)
    (case c17 => k_is)
    (case k17 => k_is)
    (case a18 => k_is)
    (case l18 => k_is)
    (case c18 => k_is)
    (case k18 => k_is)
    (case a19 => k_is)
    (case l19 => k_is)
    (case c19 => k_is)
    (case k19 => k_is)
    (case t19 => k_is)
    (case v19 => rfl)
    (case n19 => rfl)
    (case a20 => k_is)
    (case l20 => k_is)
    (case c20 => k_is)
    (case k20 => k_is)
    (case a21 => k_is)
    (case l21 => k_is)
    (case c21 => k_is)
    (case k21 => k_is)
    (case a22 => k_is)
    (case l22 => k_is)
    (case c22 => k_is)
    (case k22 => k_is)
    (case a23 => k_is)
    (case l23 => k_is)
    (case c23 => k_is)
    (case k23 => k_is)
    (case a24 => k_is)
    (case l24 => k_is)
    (case c24 => k_is)
    (case k24 => k_is)
    (case a25 => k_is)
    (case l25 => k_is)
    (case c25 => k_is)
    (case k25 => k_is)
    (case a26 => k_is)
    (case l26 => k_is)
    (case c26 => k_is)
    (case k26 => k_is)
    (case a27 => k_is)
    (case l27 => k_is)
    (case c27 => k_is)
    (case k27 => k_is)
    (case a28 => k_is)
    (case l28 => k_is)
    (case c28 => k_is)
    (case k28 => k_is)
    (case a29 => k_is)
    (case l29 => k_is)
    (case c29 => k_is)
    (case k29 => k_is)
    (case a30 => k_is)
    (case l30 => k_is)
    (case c30 => k_is)
    (case k30 => k_is)
    (case a31 => k_is)
    (case l31 => k_is)
    (case c31 => k_is)
    (case k31 => k_is)
    (case a32 => k_is)
    (case l32 => k_is)
    (case c32 => k_is)
    (case k32 => k_is)
    (case a33 => k_is)
    (case l33 => k_is)
    (case c33 => k_is)
    (case k33 => k_is)
    (case a34 => k_is)
    (case l34 => k_is)
    (case c34 => k_is)
    (case k34 => k_is)
    (case a35 => k_is)
    (case l35 => k_is)
    (case c35 => k_is)
    (case k35 => k_is)
    (case a36 => k_is)
    (case l36 => k_is)
    (case c36 => k_is)
    (case k36 => k_is)
    (case z1 => k_is)
    (case z2 => k_is)
    (case z3 => k_is)
    (case z4 => k_is)
    (case z5 => k_is)
    (case z6 => k_is)
    (case z7 => k_is)
    (case z8 => k_is)
    (case z9 => k_is)
    (case z10 => k_is)
    (case z11 => k_is)
    (case z12 => k_is)
    (case z13 => k_is)
    (case z14 => k_is)
    (case z15 => k_is)
    (case z16 => k_is)
    (case z17 => k_is)
    (case z18 => k_is)
    (case z19 => k_is)
    (case z20 => k_is)
    (case m1 => k_is)

