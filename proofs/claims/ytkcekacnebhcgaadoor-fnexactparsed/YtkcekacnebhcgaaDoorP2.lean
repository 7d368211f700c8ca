/- The walk of the program's parser: from state to state. The walk of the program's parser: from state to state, whole. Contracts: the program's tests on parsers. The laws' own helper: two lists alike. Contracts of the program's Parsed and Step: first part. What an argument that is a parser is, once it can be read. A parser's block in memory, whole. Contracts of the specification's parser: states, copies, what an escape does. Contracts of the specification's parser: one step. Contracts of the specification's parser: what stays while a list is taken in. Contracts of the specification's parser: what a list takes in. -/
import Derived.Test.YtkcekacnebhcgaaDoorP1
import Derived.ScopeJumps
import Derived.WalkMore
import Derived.Deep.RegionWith
import Derived.Laws.AppendOwnNone
import Derived.ChangeOld
import Derived.Below
import Derived.Deep.RegionHeld3
namespace Go.Proofs.YtkcekacnebhcgaaDoor
open Go.ChangeShapes Go.WideShapes Go.ChangeAt Go.RowKit
/-- As Q; by a goto to a label: J at it. -/
def jumpsTo (J : Nat → Act → World → Prop) (Q : Exit → Act → World → Prop) : Exit → Act → World → Prop
  | .goto l, a, w => J l a w
  | e, a, w => Q e a w
section
variable {P : Program} {a : Act} {w : World} {Q : Exit → Act → World → Prop}
theorem jumpsTo_mono {J J' : Nat → Act → World → Prop} (h : ∀ l a w, J l a w → J' l a w) : ∀ e a w, jumpsTo J Q e a w → jumpsTo J' Q e a w := fun e a w k => by
  cases e <;> first | exact h _ _ _ k | exact k
theorem jumpsTo_ret {J : Nat → Act → World → Prop} : jumpsTo J Q .ret a w = Q .ret a w := rfl
theorem skip_seq {r : Code} (h : r.wp P Q a w) : (Code.skip.seq r).wp P Q a w := wp_seq (wp_skip h)
/-- What holds at a label at a smaller number is walked on from there. -/
def Passed (P : Program) (c : Code) (J : Nat → Nat → Act → World → Prop) (Q : Exit → Act → World → Prop) (n : Nat) : Prop :=
  ∀ m l' a' w', m < n → J m l' a' w' → ∃ rest, findLabel c l' = some (Code.skip.seq rest) ∧ rest.wp P (jumpsTo (fun l2 a2 w2 => ∃ k, k < n ∧ J k l2 a2 w2) Q) a' w'
def PassedAny (P : Program) (c : Code) (J : Nat → Nat → Act → World → Prop) (Q : Exit → Act → World → Prop) : Prop :=
  ∀ m l' a' w', J m l' a' w' → ∃ rest, findLabel c l' = some (Code.skip.seq rest) ∧ rest.wp P (jumpsTo (fun l2 a2 w2 => ∃ k, J k l2 a2 w2) Q) a' w'
/-- A scope of many labels: what holds at each jump, at a number that every pass lowers. -/
theorem wp_scope_many {c : Code} (J : Nat → Nat → Act → World → Prop) (first : PassedAny P c J Q → c.wp P (jumpsTo (fun l a' w' => ∃ n, J n l a' w') Q) a w)
    (pass : ∀ n l a w, J n l a w → Passed P c J Q n →
      ∃ rest, findLabel c l = some (Code.skip.seq rest) ∧ rest.wp P (jumpsTo (fun l' a' w' => ∃ m, m < n ∧ J m l' a' w') Q) a w) : (Code.scope c).wp P Q a w := by
  have pass2 : ∀ n l a w, J n l a w → ∃ rest, findLabel c l = some (Code.skip.seq rest) ∧ rest.wp P (jumpsTo (fun l' a' w' => ∃ m, m < n ∧ J m l' a' w') Q) a w := by
    intro n
    induction n using Nat.strongRecOn with
    | _ n ih =>
      intro l a w hJ
      refine pass n l a w hJ fun m l' a' w' hlt hJ' => ?_
      obtain ⟨rest, hf, hw⟩ := ih m hlt l' a' w' hJ'
      exact ⟨rest, hf, Code.wp_mono (jumpsTo_mono fun _ _ _ ⟨k, hk, h⟩ => ⟨k, by omega, h⟩) hw⟩
  intro b k cs
  have hg : ∀ l rest, findLabel c l = some rest → gotoIn l (.inScope c :: k) = some (.code rest :: .inScope c :: k) := fun l rest hf => by simp [gotoIn, hf]
  have key : ∀ n l a w, J n l a w → ∀ rest, findLabel c l = some rest → ∃ e a' w', Q e a' w' ∧ Arrives P (lone (b.at a (.code rest :: .inScope c :: k)) cs w) b k cs e a' w' := by
    intro n
    induction n using Nat.strongRecOn with
    | _ n ih =>
      intro l a w hJ rest hf
      obtain ⟨rest', hf', hpass⟩ := pass2 n l a w hJ
      rw [hf] at hf'
      cases hf'
      obtain ⟨e, a₁, w₁, hq, harr⟩ := skip_seq hpass b (.inScope c :: k) cs
      cases e with
      | normal => exact ⟨.normal, a₁, w₁, hq, Steps.trans harr (.one step_inScope)⟩
      | exit id => exact ⟨.exit id, a₁, w₁, hq, fun k' hk => harr k' (by simp [exitTo, hk])⟩
      | goto l' =>
        obtain ⟨m, hlt, hJ'⟩ := hq
        obtain ⟨rest2, hf2, _⟩ := pass2 m l' a₁ w₁ hJ'
        obtain ⟨e₂, a₂, w₂, hq₂, harr₂⟩ := ih m hlt l' a₁ w₁ hJ' _ hf2
        exact ⟨e₂, a₂, w₂, hq₂, .of_steps (harr _ (hg l' _ hf2)) harr₂⟩
      | ret => exact ⟨_, a₁, w₁, hq, harr⟩
      | panic ch => exact ⟨_, a₁, w₁, hq, harr⟩
      | outgrown => exact ⟨_, a₁, w₁, hq, harr⟩
  obtain ⟨e, a₁, w₁, hq, harr⟩ := first (fun m l' a' w' hJ => by
    obtain ⟨rest, hf, hw⟩ := pass2 m l' a' w' hJ
    exact ⟨rest, hf, Code.wp_mono (jumpsTo_mono fun _ _ _ ⟨k, _, h⟩ => ⟨k, h⟩) hw⟩) b (.inScope c :: k) cs
  cases e with
  | normal => exact ⟨.normal, a₁, w₁, hq, .head step_scope (Steps.trans harr (.one step_inScope))⟩
  | exit id => exact ⟨.exit id, a₁, w₁, hq, fun k' hk => .head step_scope (harr k' (by simp [exitTo, hk]))⟩
  | goto l' =>
    obtain ⟨n, hJ'⟩ := hq
    obtain ⟨rest2, hf2, _⟩ := pass2 n l' a₁ w₁ hJ'
    obtain ⟨e₂, a₂, w₂, hq₂, harr₂⟩ := key n l' a₁ w₁ hJ' _ hf2
    exact ⟨e₂, a₂, w₂, hq₂, .of_steps (.head step_scope (harr _ (hg l' _ hf2))) harr₂⟩
  | ret => exact ⟨_, a₁, w₁, hq, .of_steps (.one step_scope) harr⟩
  | panic ch => exact ⟨_, a₁, w₁, hq, .of_steps (.one step_scope) harr⟩
  | outgrown => exact ⟨_, a₁, w₁, hq, .of_steps (.one step_scope) harr⟩
end
theorem cons_of_len {l : List Value} {n : Nat} (h : l.length = n + 1) : ∃ u l', l = u :: l' ∧ l'.length = n := by
  cases l with
  | nil => simp at h
  | cons u l => exact ⟨u, l, rfl, by simpa using h⟩
def FrameOk (B : Nat) (a : Act) : Prop := a.defers = [] ∧ a.tmps.size = 106 ∧ a.tmps[0]? = some (.pointer (some ⟨B, 0, none⟩))
set_option maxRecDepth 20000 in
theorem FrameOk.elim {B : Nat} {a : Act} {C : Act → Prop} (h : FrameOk B a) (k : ∀ u1 u2 u3 u4 u5 u6 u7 u8 u9 u10 u11 u12 u13 u14 u15 u16 u17 u18 u19 u20 u21 u22 u23 u24 u25 u26 u27 u28 u29 u30 u31 u32 u33 u34 u35 u36 u37 u38 u39 u40 u41 u42 u43 u44 u45 u46 u47 u48 u49 u50 u51 u52 u53 u54 u55 u56 u57 u58 u59 u60 u61 u62 u63 u64 u65 u66 u67 u68 u69 u70 u71 u72 u73 u74 u75 u76 u77 u78 u79 u80 u81 u82 u83 u84 u85 u86 u87 u88 u89 u90 u91 u92 u93 u94 u95 u96 u97 u98 u99 u100 u101 u102 u103 u104 u105, C { tmps := #[.pointer (some ⟨B, 0, none⟩), u1, u2, u3, u4, u5, u6, u7, u8, u9, u10, u11, u12, u13, u14, u15, u16, u17, u18, u19, u20, u21, u22, u23, u24, u25, u26, u27, u28, u29, u30, u31, u32, u33, u34, u35, u36, u37, u38, u39, u40, u41, u42, u43, u44, u45, u46, u47, u48, u49, u50, u51, u52, u53, u54, u55, u56, u57, u58, u59, u60, u61, u62, u63, u64, u65, u66, u67, u68, u69, u70, u71, u72, u73, u74, u75, u76, u77, u78, u79, u80, u81, u82, u83, u84, u85, u86, u87, u88, u89, u90, u91, u92, u93, u94, u95, u96, u97, u98, u99, u100, u101, u102, u103, u104, u105], defers := [] }) : C a := by
  obtain ⟨t, d⟩ := a
  obtain ⟨h1, h2, h3⟩ := h
  simp only at h1 h2 h3
  subst h1
  obtain ⟨l⟩ := t
  have hh : l.length = 105 + 1 := by simpa using h2
  obtain ⟨u0, l0, rfl, h0⟩ := cons_of_len hh
  have e0 : u0 = .pointer (some ⟨B, 0, none⟩) := by simpa using h3
  subst e0
  clear h2 h3 hh
  obtain ⟨u1, l1, rfl, h1⟩ := cons_of_len h0
  obtain ⟨u2, l2, rfl, h2⟩ := cons_of_len h1
  obtain ⟨u3, l3, rfl, h3⟩ := cons_of_len h2
  obtain ⟨u4, l4, rfl, h4⟩ := cons_of_len h3
  obtain ⟨u5, l5, rfl, h5⟩ := cons_of_len h4
  obtain ⟨u6, l6, rfl, h6⟩ := cons_of_len h5
  obtain ⟨u7, l7, rfl, h7⟩ := cons_of_len h6
  obtain ⟨u8, l8, rfl, h8⟩ := cons_of_len h7
  obtain ⟨u9, l9, rfl, h9⟩ := cons_of_len h8
  obtain ⟨u10, l10, rfl, h10⟩ := cons_of_len h9
  obtain ⟨u11, l11, rfl, h11⟩ := cons_of_len h10
  obtain ⟨u12, l12, rfl, h12⟩ := cons_of_len h11
  obtain ⟨u13, l13, rfl, h13⟩ := cons_of_len h12
  obtain ⟨u14, l14, rfl, h14⟩ := cons_of_len h13
  obtain ⟨u15, l15, rfl, h15⟩ := cons_of_len h14
  obtain ⟨u16, l16, rfl, h16⟩ := cons_of_len h15
  obtain ⟨u17, l17, rfl, h17⟩ := cons_of_len h16
  obtain ⟨u18, l18, rfl, h18⟩ := cons_of_len h17
  obtain ⟨u19, l19, rfl, h19⟩ := cons_of_len h18
  obtain ⟨u20, l20, rfl, h20⟩ := cons_of_len h19
  obtain ⟨u21, l21, rfl, h21⟩ := cons_of_len h20
  obtain ⟨u22, l22, rfl, h22⟩ := cons_of_len h21
  obtain ⟨u23, l23, rfl, h23⟩ := cons_of_len h22
  obtain ⟨u24, l24, rfl, h24⟩ := cons_of_len h23
  obtain ⟨u25, l25, rfl, h25⟩ := cons_of_len h24
  obtain ⟨u26, l26, rfl, h26⟩ := cons_of_len h25
  obtain ⟨u27, l27, rfl, h27⟩ := cons_of_len h26
  obtain ⟨u28, l28, rfl, h28⟩ := cons_of_len h27
  obtain ⟨u29, l29, rfl, h29⟩ := cons_of_len h28
  obtain ⟨u30, l30, rfl, h30⟩ := cons_of_len h29
  obtain ⟨u31, l31, rfl, h31⟩ := cons_of_len h30
  obtain ⟨u32, l32, rfl, h32⟩ := cons_of_len h31
  obtain ⟨u33, l33, rfl, h33⟩ := cons_of_len h32
  obtain ⟨u34, l34, rfl, h34⟩ := cons_of_len h33
  obtain ⟨u35, l35, rfl, h35⟩ := cons_of_len h34
  obtain ⟨u36, l36, rfl, h36⟩ := cons_of_len h35
  obtain ⟨u37, l37, rfl, h37⟩ := cons_of_len h36
  obtain ⟨u38, l38, rfl, h38⟩ := cons_of_len h37
  obtain ⟨u39, l39, rfl, h39⟩ := cons_of_len h38
  obtain ⟨u40, l40, rfl, h40⟩ := cons_of_len h39
  obtain ⟨u41, l41, rfl, h41⟩ := cons_of_len h40
  obtain ⟨u42, l42, rfl, h42⟩ := cons_of_len h41
  obtain ⟨u43, l43, rfl, h43⟩ := cons_of_len h42
  obtain ⟨u44, l44, rfl, h44⟩ := cons_of_len h43
  obtain ⟨u45, l45, rfl, h45⟩ := cons_of_len h44
  obtain ⟨u46, l46, rfl, h46⟩ := cons_of_len h45
  obtain ⟨u47, l47, rfl, h47⟩ := cons_of_len h46
  obtain ⟨u48, l48, rfl, h48⟩ := cons_of_len h47
  obtain ⟨u49, l49, rfl, h49⟩ := cons_of_len h48
  obtain ⟨u50, l50, rfl, h50⟩ := cons_of_len h49
  obtain ⟨u51, l51, rfl, h51⟩ := cons_of_len h50
  obtain ⟨u52, l52, rfl, h52⟩ := cons_of_len h51
  obtain ⟨u53, l53, rfl, h53⟩ := cons_of_len h52
  obtain ⟨u54, l54, rfl, h54⟩ := cons_of_len h53
  obtain ⟨u55, l55, rfl, h55⟩ := cons_of_len h54
  obtain ⟨u56, l56, rfl, h56⟩ := cons_of_len h55
  obtain ⟨u57, l57, rfl, h57⟩ := cons_of_len h56
  obtain ⟨u58, l58, rfl, h58⟩ := cons_of_len h57
  obtain ⟨u59, l59, rfl, h59⟩ := cons_of_len h58
  obtain ⟨u60, l60, rfl, h60⟩ := cons_of_len h59
  obtain ⟨u61, l61, rfl, h61⟩ := cons_of_len h60
  obtain ⟨u62, l62, rfl, h62⟩ := cons_of_len h61
  obtain ⟨u63, l63, rfl, h63⟩ := cons_of_len h62
  obtain ⟨u64, l64, rfl, h64⟩ := cons_of_len h63
  obtain ⟨u65, l65, rfl, h65⟩ := cons_of_len h64
  obtain ⟨u66, l66, rfl, h66⟩ := cons_of_len h65
  obtain ⟨u67, l67, rfl, h67⟩ := cons_of_len h66
  obtain ⟨u68, l68, rfl, h68⟩ := cons_of_len h67
  obtain ⟨u69, l69, rfl, h69⟩ := cons_of_len h68
  obtain ⟨u70, l70, rfl, h70⟩ := cons_of_len h69
  obtain ⟨u71, l71, rfl, h71⟩ := cons_of_len h70
  obtain ⟨u72, l72, rfl, h72⟩ := cons_of_len h71
  obtain ⟨u73, l73, rfl, h73⟩ := cons_of_len h72
  obtain ⟨u74, l74, rfl, h74⟩ := cons_of_len h73
  obtain ⟨u75, l75, rfl, h75⟩ := cons_of_len h74
  obtain ⟨u76, l76, rfl, h76⟩ := cons_of_len h75
  obtain ⟨u77, l77, rfl, h77⟩ := cons_of_len h76
  obtain ⟨u78, l78, rfl, h78⟩ := cons_of_len h77
  obtain ⟨u79, l79, rfl, h79⟩ := cons_of_len h78
  obtain ⟨u80, l80, rfl, h80⟩ := cons_of_len h79
  obtain ⟨u81, l81, rfl, h81⟩ := cons_of_len h80
  obtain ⟨u82, l82, rfl, h82⟩ := cons_of_len h81
  obtain ⟨u83, l83, rfl, h83⟩ := cons_of_len h82
  obtain ⟨u84, l84, rfl, h84⟩ := cons_of_len h83
  obtain ⟨u85, l85, rfl, h85⟩ := cons_of_len h84
  obtain ⟨u86, l86, rfl, h86⟩ := cons_of_len h85
  obtain ⟨u87, l87, rfl, h87⟩ := cons_of_len h86
  obtain ⟨u88, l88, rfl, h88⟩ := cons_of_len h87
  obtain ⟨u89, l89, rfl, h89⟩ := cons_of_len h88
  obtain ⟨u90, l90, rfl, h90⟩ := cons_of_len h89
  obtain ⟨u91, l91, rfl, h91⟩ := cons_of_len h90
  obtain ⟨u92, l92, rfl, h92⟩ := cons_of_len h91
  obtain ⟨u93, l93, rfl, h93⟩ := cons_of_len h92
  obtain ⟨u94, l94, rfl, h94⟩ := cons_of_len h93
  obtain ⟨u95, l95, rfl, h95⟩ := cons_of_len h94
  obtain ⟨u96, l96, rfl, h96⟩ := cons_of_len h95
  obtain ⟨u97, l97, rfl, h97⟩ := cons_of_len h96
  obtain ⟨u98, l98, rfl, h98⟩ := cons_of_len h97
  obtain ⟨u99, l99, rfl, h99⟩ := cons_of_len h98
  obtain ⟨u100, l100, rfl, h100⟩ := cons_of_len h99
  obtain ⟨u101, l101, rfl, h101⟩ := cons_of_len h100
  obtain ⟨u102, l102, rfl, h102⟩ := cons_of_len h101
  obtain ⟨u103, l103, rfl, h103⟩ := cons_of_len h102
  obtain ⟨u104, l104, rfl, h104⟩ := cons_of_len h103
  obtain ⟨u105, l105, rfl, h105⟩ := cons_of_len h104
  obtain rfl := List.eq_nil_of_length_eq_zero h105
  exact k u1 u2 u3 u4 u5 u6 u7 u8 u9 u10 u11 u12 u13 u14 u15 u16 u17 u18 u19 u20 u21 u22 u23 u24 u25 u26 u27 u28 u29 u30 u31 u32 u33 u34 u35 u36 u37 u38 u39 u40 u41 u42 u43 u44 u45 u46 u47 u48 u49 u50 u51 u52 u53 u54 u55 u56 u57 u58 u59 u60 u61 u62 u63 u64 u65 u66 u67 u68 u69 u70 u71 u72 u73 u74 u75 u76 u77 u78 u79 u80 u81 u82 u83 u84 u85 u86 u87 u88 u89 u90 u91 u92 u93 u94 u95 u96 u97 u98 u99 u100 u101 u102 u103 u104 u105
theorem use_rest {P : Program} {c rest0 : Code} {Q : Exit → Act → World → Prop} {B lb : Nat} {w : World} (hall : ∀ a', FrameOk B a' → ∃ rest, findLabel c lb = some (Code.skip.seq rest) ∧ rest.wp P Q a' w) (hf : findLabel c lb = some (Code.skip.seq rest0)) (a : Act) (hfr : FrameOk B a) : rest0.wp P Q a w := by
  obtain ⟨r, h1, h2⟩ := hall a hfr
  rw [hf] at h1
  cases h1
  exact h2
/-- What holds at a label. -/
def AtLabel (w0 w : World) (B : Nat) (T : Pa × List Ac) (X : List Ax) (l : List Int) : Nat → Prop
  | 4 => Wg w0 w B X l ∧ Fin (st0 1) l (acs X) = T
  | 0 => Wg w0 w B X l ∧ Fin (st0 2) l (acs X) = T
  | 1 => ∃ s ps m, Wp w0 w B s ps m [] X l ∧ ps.length ≤ 16 ∧ (∀ x ∈ ps, 0 ≤ x ∧ x ≤ 9999) ∧ Fin ⟨3, ps, m, []⟩ l (acs X) = T
  | 2 => ∃ s ts, Wp w0 w B s [] 0 ts X l ∧ ts.length ≤ 40 ∧ Fin ⟨4, [], 0, ts⟩ l (acs X) = T
  | 3 => ∃ s ts, Wp w0 w B s [] 0 ts X l ∧ ts.length ≤ 40 ∧ Fin ⟨5, [], 0, ts⟩ l (acs X) = T
  | _ => False
def JR (w0 : World) (B : Nat) (T : Pa × List Ac) (n l : Nat) (a : Act) (w : World) : Prop :=
  FrameOk B a ∧ ∃ X l', l'.length = n ∧ Runes6 l' ∧ X.length + l'.length ≤ 1000000 ∧ AtLabel w0 w B T X l' l
def Done (w0 w : World) (B : Nat) (T : Pa × List Ac) : Prop := ∃ X, Wp w0 w B T.1.state T.1.params T.1.mark T.1.text X [] ∧ acs X = T.2
theorem Done.of {w0 w : World} {B : Nat} {T : Pa × List Ac} {q : Pa} {X : List Ax} (h : Wp w0 w B q.state q.params q.mark q.text X []) (e : Fin q [] (acs X) = T) : Done w0 w B T := by
  rw [Fin_nil] at e
  subst e
  exact ⟨X, h, rfl⟩
theorem Wo.told {w0 w : World} {B : Nat} {s m : Int} {pv tv lv av : Value} {X : List Ax} {x : Ax} {L : List (Value × List Int)} {l : List Int} (h : Wo w0 w B s pv m tv lv av (X ++ [x]) L l) (hL : LiOk w w0.heap.size L → LiOk w w0.heap.size (axL x ++ axLs X)) : Wg w0 w B (X ++ [x]) l :=
  ⟨s, pv, m, tv, lv, av, h.relist fun k => (hL k).perm (by rw [axLs_snoc]; exact List.perm_append_comm)⟩
theorem tell_params (r : Int) (w0 w : World) (B : Nat) (s m : Int) (pv tv lv av : Value) (ps ts : List Int) (X : List Ax) (l : List Int) (h : Wo w0 w B s pv m tv lv av X ((pv, ps) :: (tv, ts) :: axLs X) l) (hX : X.length ≤ 1000000) :
    Calls Tryd.prog 60 #[.pointer (some ⟨B, 0, none⟩), .agg #[.int .i64 4, .int .i64 r, pv, .int .i64 m, .slice none 0 0]] w fun e w' => e = .returned (.tuple #[]) ∧ Wg w0 w' B (X ++ [⟨⟨4, r, ps, m, []⟩, pv, .slice none 0 0⟩]) l :=
  (tell_any ⟨⟨4, r, ps, m, []⟩, pv, .slice none 0 0⟩ w0 w B s m pv tv lv av X _ l h hX h.2.2.1.head.shape ⟨_, _, _, rfl⟩).mono fun _ _ ⟨he, _, k⟩ => ⟨he, k.told fun q => (q.perm (List.Perm.swap _ _ _)).tail.nilc.perm (List.Perm.swap _ _ _)⟩
theorem tell_title (w0 w : World) (B : Nat) (s m : Int) (pv tv lv av : Value) (ps ts : List Int) (X : List Ax) (l : List Int) (h : Wo w0 w B s pv m tv lv av X ((pv, ps) :: (tv, ts) :: axLs X) l) (hX : X.length ≤ 1000000) :
    Calls Tryd.prog 60 #[.pointer (some ⟨B, 0, none⟩), .agg #[.int .i64 5, .int .i64 0, .slice none 0 0, .int .i64 0, tv]] w fun e w' => e = .returned (.tuple #[]) ∧ Wg w0 w' B (X ++ [⟨⟨5, 0, [], 0, ts⟩, .slice none 0 0, tv⟩]) l :=
  (tell_any ⟨⟨5, 0, [], 0, ts⟩, .slice none 0 0, tv⟩ w0 w B s m pv tv lv av X _ l h hX ⟨_, _, _, rfl⟩ h.2.2.1.tail.head.shape).mono fun _ _ ⟨he, _, k⟩ => ⟨he, k.told fun q => q.tail.nilc⟩
/-- What a rune that is known does at a state. -/
theorem esc_step {r : Int} (h27 : r ≠ 27) (hs : stays r = false) (h1 : r ≠ -1) : stepM (st0 2) r = if r = 24 ∨ r = 26 then (st0 1, []) else escM r := by
  have h2 : ¬ ((r < 32 ∨ r = 127) ∧ r ≠ -1 ∧ r ≠ 24 ∧ r ≠ 26 ∧ r ≠ 27) := of_decide_eq_false hs
  unfold stepM
  rw [if_neg (show ¬ (st0 2).state = 4 by decide), if_neg (show ¬ (st0 2).state = 5 by decide), if_neg h27]
  by_cases h : r = 24 ∨ r = 26
  · rw [if_pos h, if_pos h]
  · rw [if_neg h, if_neg h, if_neg (by omega), if_pos (show (st0 2).state = 2 from rfl)]
theorem list_step {ps : List Int} {m r : Int} (h27 : r ≠ 27) (hs : stays r = false) (ht : takes ps m r = false) (h1 : r ≠ -1) : stepM ⟨3, ps, m, []⟩ r = if 64 ≤ r ∧ r ≤ 126 then (st0 1, [⟨4, r, ps, m, []⟩]) else (st0 1, []) := by
  have h2 : ¬ ((r < 32 ∨ r = 127) ∧ r ≠ -1 ∧ r ≠ 24 ∧ r ≠ 26 ∧ r ≠ 27) := of_decide_eq_false hs
  unfold stepM
  rw [if_neg (show ¬ (3 : Int) = 4 by decide), if_neg (show ¬ (3 : Int) = 5 by decide), if_neg h27]
  by_cases h : r = 24 ∨ r = 26
  · rw [if_pos h, if_neg (by omega)]
  · rw [if_neg h, if_neg (by omega), if_neg (show ¬ (3 : Int) = 2 by decide), if_pos rfl]
    unfold listM
    rw [if_neg (by rw [ht]; decide)]
theorem step27 {p : Pa} (h4 : p.state ≠ 4) (h5 : p.state ≠ 5) : stepM p 27 = (st0 2, []) := by
  unfold stepM
  rw [if_neg h4, if_neg h5, if_pos rfl]
/-- One step on: what holds at the label that comes. -/
theorem AtLabel.on {w0 w : World} {B : Nat} {T : Pa × List Ac} {X X2 Y : List Ax} {l l2 : List Int} {p q : Pa} {r : Int} {n lb : Nat} {a : Act} (hfr : FrameOk B a) (hn : l.length = n) (hlX : X.length + l.length ≤ 1000000) (hT : Fin p l (acs X) = T) (hN : NextR p q l l2 X X2 r) (hR : Room l l2 X X2 r) (h1 : r ≠ -1) (hY : acs Y = acs X2 ++ (stepM q r).2)
    (hat : Fin (stepM q r).1 l2 (acs Y) = T → AtLabel w0 w B T Y l2 lb) : ∃ m, m < n ∧ JR w0 B T m lb a w := by
  obtain ⟨_, _, hlt, he⟩ := hN.more h1
  have hR2 := hR.2.1 h1
  refine ⟨l2.length, by omega, hfr, Y, l2, rfl, hR.2.2, ?_, hat ?_⟩
  · have hl : Y.length ≤ X2.length + 1 := by
      have e1 : (acs Y).length = (acs X2).length + (stepM q r).2.length := by rw [hY, List.length_append]
      have e2 : (stepM q r).2.length ≤ 1 := by
        unfold stepM titleM endM escM listM
        repeat' split
        all_goals simp
      simp only [acs, List.length_map] at e1
      omega
    omega
  · rw [← hT, he, Fin_cons, hY]
end Go.Proofs.YtkcekacnebhcgaaDoor
namespace Go.Proofs.YtkcekacnebhcgaaDoor
open Go.ChangeShapes Go.WideShapes Go.ChangeAt Go.RowKit
set_option maxHeartbeats 8000000 in
set_option maxRecDepth 20000 in
theorem run_any (w0 w : World) (B : Nat) (p : Pa) (X : List Ax) (l : List Int) (h : Wp w0 w B p.state p.params p.mark p.text X l) (hok : okV p = true) (hr : Runes6 l) (hX : X.length + l.length ≤ 1000000) (hsp : ∀ W, Below w0.heap.size w0 W → SpansAt W) :
    Calls Tryd.prog 39 #[.pointer (some ⟨B, 0, none⟩)] w fun e w' => e = .returned (.tuple #[]) ∧ Done w0 w' B (Fin p l (acs X)) := by
  obtain ⟨T, hT⟩ : ∃ T, Hid (Fin p l (acs X) = T) := ⟨_, rfl⟩
  rw [hT.out]
  go_enter Tryd.func39, Tryd.ntmps39
  refine wp_scope_many (JR w0 B T) ?first ?pass
  case first =>
    intro hany
    have hT := hT.out
    have hok2 := hok
    unfold okV at hok2
    rw [Bool.and_eq_true, Bool.and_eq_true, decide_eq_true_eq] at hok2
    obtain ⟨⟨⟨hs1, hs5, hpl, hmk, htl, hpe, hte⟩, hrt⟩, hpb⟩ := hok2
    have hbd := (okV_pb hok).1
    obtain ⟨s, ps, m, ts⟩ := p
    simp only at *
    have hne3 : s ≠ 3 → ps = [] ∧ m = 0 := fun h => by
      rcases hpe with h2 | ⟨h2, h3⟩
      · exact absurd h2 h
      · exact ⟨List.eq_nil_of_length_eq_zero h2, h3⟩
    have hlo4 : s < 4 → ts = [] := fun h => by
      rcases hte with h2 | h2
      · omega
      · exact List.eq_nil_of_length_eq_zero h2
    have hJ : ∀ lb a', FrameOk B a' → AtLabel w0 w B T X l lb → ∃ m, JR w0 B T m lb a' w := fun lb a' hfr h => ⟨_, hfr, X, l, rfl, hr, hX, h⟩
    obtain ⟨pv, tv, lv, av, h4⟩ := id h
    have c0 := h4.1.cells.1
    clear h4
    have hcase : s = 1 ∨ s = 2 ∨ s = 3 ∨ s = 4 ∨ s = 5 := by omega
    rcases hcase with rfl | rfl | rfl | rfl | rfl
    · obtain ⟨rfl, rfl⟩ := hne3 (by decide)
      obtain rfl := hlo4 (by decide)
      have hJ2 : Hid (∀ a', FrameOk B a' → ∃ m, JR w0 B T m 4 a' w) := (show ∀ a', _ from fun a' hfr => hJ 4 a' hfr ⟨h.g, hT⟩)
      clear hJ hT hok hpl hmk htl hpe hte hrt hpb hbd hne3 hlo4 h hr hX hsp
      go_wp2
      rename_i K hK
      go_step3
      show K _ _
      refine hK _ _ ?_
      exact use_rest (fun a' hfr => by
        obtain ⟨m, hm⟩ := hJ2.out a' hfr
        exact hany m 4 a' _ hm) rfl _ ⟨rfl, rfl, rfl⟩
    · obtain ⟨rfl, rfl⟩ := hne3 (by decide)
      obtain rfl := hlo4 (by decide)
      have hJ2 : Hid (∀ a', FrameOk B a' → ∃ m, JR w0 B T m 0 a' w) := (show ∀ a', _ from fun a' hfr => hJ 0 a' hfr ⟨h.g, hT⟩)
      clear hJ hT hok hpl hmk htl hpe hte hrt hpb hbd hne3 hlo4 h hr hX hsp hany
      go_wp2
      go_step3
      exact hJ2.out _ ⟨rfl, rfl, rfl⟩
    · obtain rfl := hlo4 (by decide)
      have hJ2 : Hid (∀ a', FrameOk B a' → ∃ m, JR w0 B T m 1 a' w) := (show ∀ a', _ from fun a' hfr => hJ 1 a' hfr ⟨_, ps, m, h, hpl, hbd, hT⟩)
      clear hJ hT hok hpl hmk htl hpe hte hrt hpb hbd hne3 hlo4 h hr hX hsp hany
      go_wp2
      go_step3
      exact hJ2.out _ ⟨rfl, rfl, rfl⟩
    · obtain ⟨rfl, rfl⟩ := hne3 (by decide)
      have hJ2 : Hid (∀ a', FrameOk B a' → ∃ m, JR w0 B T m 2 a' w) := (show ∀ a', _ from fun a' hfr => hJ 2 a' hfr ⟨_, ts, h, htl, hT⟩)
      clear hJ hT hok hpl hmk htl hpe hte hrt hpb hbd hne3 hlo4 h hr hX hsp hany
      go_wp2
      go_step3
      exact hJ2.out _ ⟨rfl, rfl, rfl⟩
    · obtain ⟨rfl, rfl⟩ := hne3 (by decide)
      have hJ2 : Hid (∀ a', FrameOk B a' → ∃ m, JR w0 B T m 3 a' w) := (show ∀ a', _ from fun a' hfr => hJ 3 a' hfr ⟨_, ts, h, htl, hT⟩)
      clear hJ hT hok hpl hmk htl hpe hte hrt hpb hbd hne3 hlo4 h hr hX hsp hany
      go_wp2
      go_step3
      exact hJ2.out _ ⟨rfl, rfl, rfl⟩
  case pass =>
    intro n lb a w2 hJ ih
    obtain ⟨hfr, X2, l2, hn, hr2, hlX, hat⟩ := hJ
    refine @FrameOk.elim B a (fun a => ∃ rest, findLabel _ lb = some (Code.skip.seq rest) ∧ Code.wp _ rest _ a w2) hfr ?_
    intro u1 u2 u3 u4 u5 u6 u7 u8 u9 u10 u11 u12 u13 u14 u15 u16 u17 u18 u19 u20 u21 u22 u23 u24 u25 u26 u27 u28 u29 u30 u31 u32 u33 u34 u35 u36 u37 u38 u39 u40 u41 u42 u43 u44 u45 u46 u47 u48 u49 u50 u51 u52 u53 u54 u55 u56 u57 u58 u59 u60 u61 u62 u63 u64 u65 u66 u67 u68 u69 u70 u71 u72 u73 u74 u75 u76 u77 u78 u79 u80 u81 u82 u83 u84 u85 u86 u87 u88 u89 u90 u91 u92 u93 u94 u95 u96 u97 u98 u99 u100 u101 u102 u103 u104 u105
    clear h hok hr hX hT
    clear hfr
    match lb, hat with
    | 4, hat =>
      obtain ⟨hW, hTT⟩ := hat
      refine ⟨_, rfl, ?_⟩
      have hf := forget_g w0 w2 B X2 l2 hW
      clear hW
      go_wp2_with fail
      refine hf.mono ?_
      rintro e w3 ⟨rfl, s3, k3⟩
      have hl := pastLetters_any w0 w3 B s3 X2 l2 k3 hr2 hlX hsp
      clear hf k3
      go_wp2_with fail
      refine hl.mono ?_
      rintro e w4 ⟨r, X3, l3, rfl, k4, hR, hor, hN⟩
      clear hl
      rcases hor with rfl | rfl
      · have hD : Done w0 w4 B T := by
          obtain ⟨e1, e2⟩ := hN.end
          subst e1
          exact Done.of (q := st0 1) k4 (e2.symm.trans hTT)
        clear hR hN k4
        go_wp2
        rw [jumpsTo_ret]
        exact bodyPost_ret (results_none rfl _ _ _) rfl ⟨rfl, hD⟩
      · have hJ : Hid (∀ a', FrameOk B a' → ∃ m, m < n ∧ JR w0 B T m 0 a' w4) := (show ∀ a', _ from fun a' hfr => AtLabel.on hfr hn hlX hTT hN hR (by decide) (Y := X3) (by rw [step27 (by decide) (by decide)]; simp) (fun e => ⟨k4.g, by rw [step27 (by decide) (by decide)] at e; exact e⟩))
        clear hR hN k4
        go_wp2
        rename_i K hK
        go_step3
        show K _ _
        refine hK _ _ ?_
        exact use_rest (fun a' hfr => by
          obtain ⟨m, hm, hJ⟩ := hJ.out a' hfr
          exact ih m 0 a' _ hm hJ) rfl _ ⟨rfl, rfl, rfl⟩
    | 0, hat =>
      obtain ⟨hW, hTT⟩ := hat
      refine ⟨_, rfl, ?_⟩
      have hf := forget_g w0 w2 B X2 l2 hW
      clear hW ih
      go_wp2_with fail
      refine hf.mono ?_
      rintro e w3 ⟨rfl, s3, k3⟩
      have hl := pastControls_any 2 w0 w3 B s3 0 [] [] X2 l2 k3 (by decide) (by decide) hr2 hlX
      clear hf k3
      go_wp2_with fail
      refine hl.mono ?_
      rintro e w4 ⟨r, X3, l3, rfl, k4, hR, hst, hN⟩
      clear hl
      by_cases h1 : r = -1
      · have hD : Done w0 w4 B T := by
          subst h1
          obtain ⟨e1, e2⟩ := hN.end
          subst e1
          exact Done.of (q := st0 2) k4 (e2.symm.trans hTT)
        have i1 : (r == -1) = true := by simp [h1]
        clear hR hN k4 hst h1
        go_wp2
        rw [jumpsTo_ret]
        exact bodyPost_ret (results_none rfl _ _ _) rfl ⟨rfl, hD⟩
      · have i1 : (r == -1) = false := by simp [h1]
        have hX3 : X3.length ≤ 1000000 := by have := hR.2.1 h1; omega
        by_cases h27 : r = 27
        · have hs : stepM (st0 2) r = (st0 2, []) := by rw [h27]; rfl
          have hJ : Hid (∀ a', FrameOk B a' → ∃ m, m < n ∧ JR w0 B T m 0 a' w4) := (show ∀ a', _ from fun a' hfr => AtLabel.on hfr hn hlX hTT hN hR h1 (Y := X3) (by rw [show stepM ⟨2, [], 0, []⟩ r = (st0 2, []) from hs]; simp) (fun e => ⟨k4.g, by rw [show stepM ⟨2, [], 0, []⟩ r = (st0 2, []) from hs] at e; exact e⟩))
          have i2 : (r == 27) = true := by simp [h27]
          clear hR hN k4 hst h1 h27 hs
          go_wp2
          go_step3
          exact hJ.out _ ⟨rfl, rfl, rfl⟩
        · have i2 : (r == 27) = false := by simp [h27]
          have hes := esc_step h27 hst h1
          by_cases h91 : r = 91
          · have hs : stepM ⟨2, [], 0, []⟩ r = (st0 3, []) := by
              rw [show stepM ⟨2, [], 0, []⟩ r = _ from hes, h91]; rfl
            have hJ : Hid (∀ a', FrameOk B a' → ∃ m, m < n ∧ JR w0 B T m 1 a' w4) := (show ∀ a', _ from fun a' hfr => AtLabel.on hfr hn hlX hTT hN hR h1 (Y := X3) (by rw [hs]; simp) (fun e => ⟨_, [], 0, k4, by simp, by simp, by rw [hs] at e; exact e⟩))
            have i3 : (r == 91) = true := by simp [h91]
            clear hR hN k4 hst h1 h27 hs hes h91
            go_wp2
            go_step3
            exact hJ.out _ ⟨rfl, rfl, rfl⟩
          · have i3 : (r == 91) = false := by simp [h91]
            by_cases h93 : r = 93
            · have hs : stepM ⟨2, [], 0, []⟩ r = (st0 4, []) := by
                rw [show stepM ⟨2, [], 0, []⟩ r = _ from hes, h93]; rfl
              have hJ : Hid (∀ a', FrameOk B a' → ∃ m, m < n ∧ JR w0 B T m 2 a' w4) := (show ∀ a', _ from fun a' hfr => AtLabel.on hfr hn hlX hTT hN hR h1 (Y := X3) (by rw [hs]; simp) (fun e => ⟨_, [], k4, by simp, by rw [hs] at e; exact e⟩))
              have i4 : (r == 93) = true := by simp [h93]
              clear hR hN k4 hst h1 h27 hs hes h91 h93
              go_wp2
              go_step3
              exact hJ.out _ ⟨rfl, rfl, rfl⟩
            · have i4 : (r == 93) = false := by simp [h93]
              by_cases hin : 48 ≤ r ∧ r ≤ 126
              · have hs : stepM ⟨2, [], 0, []⟩ r = (st0 1, [acR 3 r]) := by
                  rw [show stepM ⟨2, [], 0, []⟩ r = _ from hes, if_neg (by omega)]
                  unfold escM
                  rw [if_neg h91, if_neg h93, if_pos hin]
                have hte := tell_plain 3 r w0 w4 B 2 0 [] [] X3 l3 k4 hX3
                have hJ : Hid (∀ w5 a', Wp w0 w5 B 2 [] 0 [] (X3 ++ [axP 3 r]) l3 → FrameOk B a' → ∃ m, m < n ∧ JR w0 B T m 4 a' w5) := (show ∀ w5 a', _ from fun w5 a' k5 hfr => AtLabel.on hfr hn hlX hTT hN hR h1 (Y := X3 ++ [axP 3 r]) (by rw [hs, acs_snoc]; rfl) (fun e => ⟨k5.g, by rw [hs] at e; exact e⟩))
                obtain ⟨hin1, hin2⟩ := hin
                clear hR hN k4 hst h1 h27 hs hes h91 h93
                go_wp2_with fail
                refine hte.mono ?_
                rintro e w5 ⟨rfl, k5⟩
                clear hte
                go_wp2
                go_step3
                exact hJ.out _ _ k5 ⟨rfl, rfl, rfl⟩
              · have hs : stepM ⟨2, [], 0, []⟩ r = (st0 1, []) := by
                  rw [show stepM ⟨2, [], 0, []⟩ r = _ from hes]
                  split
                  · rfl
                  · unfold escM
                    rw [if_neg h91, if_neg h93, if_neg hin]
                have hJ : Hid (∀ a', FrameOk B a' → ∃ m, m < n ∧ JR w0 B T m 4 a' w4) := (show ∀ a', _ from fun a' hfr => AtLabel.on hfr hn hlX hTT hN hR h1 (Y := X3) (by rw [hs]; simp) (fun e => ⟨k4.g, by rw [hs] at e; exact e⟩))
                by_cases h48 : 48 ≤ r
                · have h126 : ¬ r ≤ 126 := fun h => hin ⟨h48, h⟩
                  clear hR hN k4 hst h1 h27 hs hes h91 h93 hin
                  go_wp2
                  go_step3
                  exact hJ.out _ ⟨rfl, rfl, rfl⟩
                · clear hR hN k4 hst h1 h27 hs hes h91 h93 hin
                  go_wp2
                  go_step3
                  exact hJ.out _ ⟨rfl, rfl, rfl⟩
    | 1, hat =>
      obtain ⟨s3, ps, m3, k3, hpl, hpb, hTT⟩ := hat
      refine ⟨_, rfl, ?_⟩
      have hl := pastParams_any w0 w2 B s3 m3 ps X2 l2 k3 hr2 hlX hpl hpb
      clear k3 ih hpl hpb
      go_wp2_with fail
      refine hl.mono ?_
      rintro e w4 ⟨r, ps2, m4, X3, l3, rfl, k4, hR, hst, htk, hN, _⟩
      clear hl
      by_cases h1 : r = -1
      · have hD : Done w0 w4 B T := by
          subst h1
          obtain ⟨e1, e2⟩ := hN.end
          subst e1
          exact Done.of (q := ⟨3, ps2, m4, []⟩) k4 (e2.symm.trans hTT)
        have i1 : (r == -1) = true := by simp [h1]
        clear hR hN k4 hst h1 htk
        go_wp2
        rw [jumpsTo_ret]
        exact bodyPost_ret (results_none rfl _ _ _) rfl ⟨rfl, hD⟩
      · have i1 : (r == -1) = false := by simp [h1]
        have hX3 : X3.length ≤ 1000000 := by have := hR.2.1 h1; omega
        by_cases h27 : r = 27
        · have hs : stepM ⟨3, ps2, m4, []⟩ r = (st0 2, []) := by rw [h27]; exact step27 (show (3 : Int) ≠ 4 by decide) (show (3 : Int) ≠ 5 by decide)
          have hJ : Hid (∀ a', FrameOk B a' → ∃ m, m < n ∧ JR w0 B T m 0 a' w4) := (show ∀ a', _ from fun a' hfr => AtLabel.on hfr hn hlX hTT hN hR h1 (Y := X3) (by rw [hs]; simp) (fun e => ⟨k4.g, by rw [hs] at e; exact e⟩))
          have i2 : (r == 27) = true := by simp [h27]
          clear hR hN k4 hst h1 h27 hs htk
          go_wp2
          go_step3
          exact hJ.out _ ⟨rfl, rfl, rfl⟩
        · have i2 : (r == 27) = false := by simp [h27]
          have hes := list_step h27 hst htk h1
          by_cases hin : 64 ≤ r ∧ r ≤ 126
          · rw [if_pos hin] at hes
            obtain ⟨pv, tv, lv, av, h4⟩ := k4
            have h4d := h4.below (bdr w4)
            have hte := tell_params r w0 w4.drew B 3 m4 pv tv lv av ps2 [] X3 l3 h4d hX3
            obtain ⟨c0, c1, c2, c3, c4, c5⟩ := h4.1.cells
            have hJ : Hid (∀ w5 a', Wg w0 w5 B (X3 ++ [⟨⟨4, r, ps2, m4, []⟩, pv, .slice none 0 0⟩]) l3 → FrameOk B a' → ∃ m, m < n ∧ JR w0 B T m 4 a' w5) := (show ∀ w5 a', _ from fun w5 a' k5 hfr => AtLabel.on hfr hn hlX hTT hN hR h1 (Y := X3 ++ [⟨⟨4, r, ps2, m4, []⟩, pv, .slice none 0 0⟩]) (by rw [hes, acs_snoc]) (fun e => ⟨k5, by rw [hes] at e; exact e⟩))
            obtain ⟨hin1, hin2⟩ := hin
            obtain ⟨pa, pn, pc, hpv⟩ := h4.2.2.1.head.shape
            simp only at hpv
            subst hpv
            clear hR hN hst h1 h27 hes htk h4 h4d
            go_wp2
            go_region_with (go_at_call 60; refine hte.mono ?_; rintro e w5 ⟨rfl, k5⟩)
            all_goals
              clear hte c0 c1 c2 c3 c4 c5
              go_wp2
              go_step3
              exact hJ.out _ _ k5 ⟨rfl, rfl, rfl⟩
          · rw [if_neg hin] at hes
            have hJ : Hid (∀ a', FrameOk B a' → ∃ m, m < n ∧ JR w0 B T m 4 a' w4) := (show ∀ a', _ from fun a' hfr => AtLabel.on hfr hn hlX hTT hN hR h1 (Y := X3) (by rw [hes]; simp) (fun e => ⟨k4.g, by rw [hes] at e; exact e⟩))
            by_cases h64 : 64 ≤ r
            · have h126 : ¬ r ≤ 126 := fun h => hin ⟨h64, h⟩
              clear hR hN k4 hst h1 h27 hes htk hin
              go_wp2
              go_step3
              exact hJ.out _ ⟨rfl, rfl, rfl⟩
            · clear hR hN k4 hst h1 h27 hes htk hin
              go_wp2
              go_step3
              exact hJ.out _ ⟨rfl, rfl, rfl⟩
    | 2, hat =>
      obtain ⟨s3, ts, k3, htl, hTT⟩ := hat
      refine ⟨_, rfl, ?_⟩
      have hl := pastTitle_any w0 w2 B s3 ts X2 l2 k3 hr2 hlX htl
      clear k3 ih htl
      go_wp2_with fail
      refine hl.mono ?_
      rintro e w4 ⟨r, ts2, l3, rfl, k4, hR, hor, hN, htl⟩
      clear hl
      have hX3 : X2.length ≤ 1000000 := by omega
      rcases hor with rfl | rfl | rfl
      · have hD : Done w0 w4 B T := by
          obtain ⟨e1, e2⟩ := hN.end
          subst e1
          exact Done.of (q := ⟨4, [], 0, ts2⟩) k4 (e2.symm.trans hTT)
        clear hR hN k4
        go_wp2
        rw [jumpsTo_ret]
        exact bodyPost_ret (results_none rfl _ _ _) rfl ⟨rfl, hD⟩
      · have hs : stepM ⟨4, [], 0, ts2⟩ 7 = (st0 1, [⟨5, 0, [], 0, ts2⟩]) := rfl
        obtain ⟨pv, tv, lv, av, h4⟩ := k4
        have hte := tell_title w0 w4 B 4 0 pv tv lv av [] ts2 X2 l3 h4 hX3
        obtain ⟨c0, c1, c2, c3, c4, c5⟩ := h4.1.cells
        have hJ : Hid (∀ w5 a', Wg w0 w5 B (X2 ++ [⟨⟨5, 0, [], 0, ts2⟩, .slice none 0 0, tv⟩]) l3 → FrameOk B a' → ∃ m, m < n ∧ JR w0 B T m 4 a' w5) := (show ∀ w5 a', _ from fun w5 a' k5 hfr => AtLabel.on hfr hn hlX hTT hN hR (by decide) (Y := X2 ++ [⟨⟨5, 0, [], 0, ts2⟩, .slice none 0 0, tv⟩]) (by rw [hs, acs_snoc]) (fun e => ⟨k5, by rw [hs] at e; exact e⟩))
        obtain ⟨ta, tn, tc, htv⟩ := h4.2.2.1.tail.head.shape
        simp only at htv
        subst htv
        clear hR hN h4 hs
        go_wp2_with fail
        refine hte.mono ?_
        rintro e w5 ⟨rfl, k5⟩
        clear hte c0 c1 c2 c3 c4 c5
        go_wp2
        go_step3
        exact hJ.out _ _ k5 ⟨rfl, rfl, rfl⟩
      · have hs : stepM ⟨4, [], 0, ts2⟩ 27 = (⟨5, [], 0, ts2⟩, []) := rfl
        have hJ : Hid (∀ a', FrameOk B a' → ∃ m, m < n ∧ JR w0 B T m 3 a' w4) := (show ∀ a', _ from fun a' hfr => AtLabel.on hfr hn hlX hTT hN hR (by decide) (Y := X2) (by rw [hs]; simp) (fun e => ⟨_, ts2, k4, htl, by rw [hs] at e; exact e⟩))
        clear hR hN k4 hs
        go_wp2
        go_step3
        exact hJ.out _ ⟨rfl, rfl, rfl⟩
    | 3, hat =>
      obtain ⟨s3, ts, k3, htl, hTT⟩ := hat
      refine ⟨_, rfl, ?_⟩
      have hl := next_p 5 w0 w2 B s3 0 [] ts X2 l2 k3
      have hN0 := next_nextR ⟨5, [], 0, ts⟩ l2 X2 hr2
      clear k3 ih
      go_wp2_with fail
      refine hl.mono ?_
      rintro e w4 ⟨rfl, k4⟩
      clear hl
      obtain ⟨hN, hR⟩ := hN0
      have hX3 : X2.length ≤ 1000000 := by omega
      generalize l2.headD (-1) = r at *
      generalize l2.tail = l3 at *
      by_cases h1 : r = -1
      · have hD : Done w0 w4 B T := by
          subst h1
          obtain ⟨e1, e2⟩ := hN.end
          subst e1
          exact Done.of (q := ⟨5, [], 0, ts⟩) k4 (e2.symm.trans hTT)
        have i1 : (r == -1) = true := by simp [h1]
        clear hR hN k4 h1
        go_wp2
        rw [jumpsTo_ret]
        exact bodyPost_ret (results_none rfl _ _ _) rfl ⟨rfl, hD⟩
      · have i1 : (r == -1) = false := by simp [h1]
        by_cases h92 : r = 92
        · have hs : stepM ⟨5, [], 0, ts⟩ r = (st0 1, [⟨5, 0, [], 0, ts⟩]) := by rw [h92]; rfl
          have i2 : (r == 92) = true := by simp [h92]
          obtain ⟨pv, tv, lv, av, h4⟩ := k4
          have hte := tell_title w0 w4 B 5 0 pv tv lv av [] ts X2 l3 h4 hX3
          obtain ⟨c0, c1, c2, c3, c4, c5⟩ := h4.1.cells
          have hJ : Hid (∀ w5 a', Wg w0 w5 B (X2 ++ [⟨⟨5, 0, [], 0, ts⟩, .slice none 0 0, tv⟩]) l3 → FrameOk B a' → ∃ m, m < n ∧ JR w0 B T m 4 a' w5) := (show ∀ w5 a', _ from fun w5 a' k5 hfr => AtLabel.on hfr hn hlX hTT hN hR h1 (Y := X2 ++ [⟨⟨5, 0, [], 0, ts⟩, .slice none 0 0, tv⟩]) (by rw [hs, acs_snoc]) (fun e => ⟨k5, by rw [hs] at e; exact e⟩))
          obtain ⟨ta, tn, tc, htv⟩ := h4.2.2.1.tail.head.shape
          simp only at htv
          subst htv
          clear hR hN h4 hs h1 h92
          go_wp2_with fail
          refine hte.mono ?_
          rintro e w5 ⟨rfl, k5⟩
          clear hte c0 c1 c2 c3 c4 c5
          go_wp2
          go_step3
          exact hJ.out _ _ k5 ⟨rfl, rfl, rfl⟩
        · have hs : stepM ⟨5, [], 0, ts⟩ r = (st0 1, []) := by
            unfold stepM endM
            rw [if_neg (show ¬ (5 : Int) = 4 by decide), if_pos rfl, if_neg h92]
          have i2 : (r == 92) = false := by simp [h92]
          have hJ : Hid (∀ a', FrameOk B a' → ∃ m, m < n ∧ JR w0 B T m 4 a' w4) := (show ∀ a', _ from fun a' hfr => AtLabel.on hfr hn hlX hTT hN hR h1 (Y := X2) (by rw [hs]; simp) (fun e => ⟨k4.g, by rw [hs] at e; exact e⟩))
          clear hR hN k4 hs h1 h92
          go_wp2
          go_step3
          exact hJ.out _ ⟨rfl, rfl, rfl⟩
    | (n + 5), hat => exact absurd hat (fun h => h)
end Go.Proofs.YtkcekacnebhcgaaDoor
namespace Go.Proofs.YtkcekacnebhcgaaDoor
open Go.ChangeShapes Go.WideShapes Go.ChangeAt Go.RowKit
set_option maxHeartbeats 1000000 in
theorem allRunes_any (v : Value) (xs : List Int) (w : World) (hv : SlI w v xs) (hl : xs.length ≤ 1073741824) :
    Calls Tryd.prog 37 #[v] w fun e w' => e = .returned (.bool (runesB xs)) ∧ w' = w := by
  obtain ⟨a, c, rfl, hc⟩ := hv.cons
  clear hv
  go_enter Tryd.func37, Tryd.ntmps37
  go_wp2
  go_loop [4, 7] (fun _ i => ∃ j : Nat, i = .int .i64 j ∧ j ≤ xs.length ∧ Hid (∀ k, k < j → runeOk (xs.getD k 0) = true)) (fun _ i => xs.length - (intOf i).toNat)
  case atStart => exact ⟨0, rfl, Nat.zero_le _, (fun k hk => absurd hk (Nat.not_lt_zero k))⟩
  case round =>
    obtain ⟨j, rfl, hj, hall⟩ := hrel
    by_cases hlt : j < xs.length
    · have hji : (j : Int) < (xs.length : Int) := by omega
      have hj0 : (0 : Int) ≤ (j : Int) := by omega
      obtain ⟨b, off, rfl, hcj⟩ := hc j hlt
      have hno : runeOk (xs.getD j 0) = false → Hid (runesB xs = false) := fun h => runesB_no j hlt h
      have hstep : runeOk (xs.getD j 0) = true → Hid (∀ k, k < j + 1 → runeOk (xs.getD k 0) = true) := fun h => (show ∀ k, k < j + 1 → runeOk (xs.getD k 0) = true from fun k hk => by
        by_cases e : k = j
        · rw [e]; exact h
        · exact hall.out k (by omega))
      have hok := implRuneOk_any (xs.getD j 0) w
      clear hc hall
      generalize xs.getD j 0 = x at *
      generalize runeOk x = ok at *
      go_wp2_with fail
      refine hok.mono ?_
      rintro e w2 ⟨rfl, hw⟩
      subst hw
      clear hok
      cases ok
      · have hV := hno rfl
        clear hno hstep
        go_wp2
        go_ret
        exact ⟨by rw [hV.out]; rfl, rfl⟩
      · have hall2 := hstep rfl
        clear hno hstep
        go_wp2
        go_round
        case rel => exact ⟨j + 1, by go_num, by omega, hall2⟩
        case measure => simp [intOf]; omega
    · have hjn : j = xs.length := by omega
      have hji : ¬ (j : Int) < (xs.length : Int) := by omega
      have hV : Hid (runesB xs = true) := runesB_yes (by rw [← hjn]; exact hall.out)
      clear hc hall
      subst hjn
      go_wp2
      go_ret
      exact ⟨by rw [hV.out]; rfl, rfl⟩
set_option maxHeartbeats 1000000 in
theorem paramsOk_any (v : Value) (xs : List Int) (w : World) (hv : SlI w v xs) (hl : xs.length ≤ 1073741824) :
    Calls Tryd.prog 43 #[v] w fun e w' => e = .returned (.bool (paramsB xs && decide (xs.length ≤ 16))) ∧ w' = w := by
  obtain ⟨a, c, rfl, hc⟩ := hv.cons
  clear hv
  obtain ⟨rv, hrv⟩ : ∃ rv, Hid (rv = (paramsB xs && decide (xs.length ≤ 16))) := ⟨_, rfl⟩
  rw [← hrv.out]
  go_enter Tryd.func43, Tryd.ntmps43
  go_wp2
  go_loop [4, 7] (fun _ i => ∃ j : Nat, i = .int .i64 j ∧ j ≤ xs.length ∧ Hid (∀ k, k < j → 0 ≤ xs.getD k 0 ∧ xs.getD k 0 ≤ 9999)) (fun _ i => xs.length - (intOf i).toNat)
  case atStart => exact ⟨0, rfl, Nat.zero_le _, (fun k hk => absurd hk (Nat.not_lt_zero k))⟩
  case round =>
    obtain ⟨j, rfl, hj, hall⟩ := hrel
    by_cases hlt : j < xs.length
    · have hji : (j : Int) < (xs.length : Int) := by omega
      have hj0 : (0 : Int) ≤ (j : Int) := by omega
      obtain ⟨b, off, rfl, hcj⟩ := hc j hlt
      have hno : ¬ (0 ≤ xs.getD j 0 ∧ xs.getD j 0 ≤ 9999) → Hid (rv = false) := fun h => (show rv = false by rw [hrv.out, paramsB_no j hlt h]; rfl)
      have hstep : (0 ≤ xs.getD j 0 ∧ xs.getD j 0 ≤ 9999) → Hid (∀ k, k < j + 1 → 0 ≤ xs.getD k 0 ∧ xs.getD k 0 ≤ 9999) := fun h => (show ∀ k, k < j + 1 → 0 ≤ xs.getD k 0 ∧ xs.getD k 0 ≤ 9999 from fun k hk => by
        by_cases e : k = j
        · rw [e]; exact h
        · exact hall.out k (by omega))
      clear hc hall
      generalize xs.getD j 0 = x at *
      by_cases h1 : x < 0
      · have hV := hno (by omega)
        clear hno hstep
        go_wp2
        go_ret
        exact ⟨by rw [hV.out]; rfl, rfl⟩
      · by_cases h2 : 9999 < x
        · have hV := hno (by omega)
          clear hno hstep
          go_wp2
          go_ret
          exact ⟨by rw [hV.out]; rfl, rfl⟩
        · have hall2 := hstep (by omega)
          clear hno hstep
          go_wp2
          go_round
          case rel => exact ⟨j + 1, by go_num, by omega, hall2⟩
          case measure => simp [intOf]; omega
    · have hjn : j = xs.length := by omega
      have hji : ¬ (j : Int) < (xs.length : Int) := by omega
      have hV : Hid (rv = decide (xs.length ≤ 16)) := by
        show _ = _
        rw [hrv.out, paramsB_yes (by rw [← hjn]; exact hall.out), Bool.true_and]
      clear hc hall hrv
      subst hjn
      by_cases h3 : xs.length ≤ 16
      · have h3i : (xs.length : Int) ≤ 16 := by omega
        rw [decide_eq_true h3] at hV
        go_wp2
        go_ret
        exact ⟨by rw [hV.out]; simp, rfl⟩
      · have h3i : ¬ (xs.length : Int) ≤ 16 := by omega
        rw [decide_eq_false h3] at hV
        go_wp2
        go_ret
        exact ⟨by rw [hV.out]; simp, rfl⟩
theorem markOk_any (m : Int) (w : World) :
    Calls Tryd.prog 44 #[.int .i64 m] w fun e w' => e = .returned (.bool (decide (m = 0 ∨ m = 63))) ∧ w' = w := by
  by_cases h : m = 0
  · subst h
    go_enter Tryd.func44, Tryd.ntmps44
    go_wp2
    go_ret
    exact ⟨rfl, rfl⟩
  · by_cases h2 : m = 63
    · subst h2
      go_enter Tryd.func44, Tryd.ntmps44
      go_wp2
      go_ret
      exact ⟨rfl, rfl⟩
    · have hi : (m == 0) = false := by simp [h]
      have hi2 : (m == 63) = false := by simp [h2]
      have hV : Hid (decide (m = 0 ∨ m = 63) = false) := decide_eq_false (by omega)
      clear h h2
      go_enter Tryd.func44, Tryd.ntmps44
      go_wp2
      go_ret
      exact ⟨by rw [hV.out]; rfl, rfl⟩
theorem titleOk_any (v : Value) (xs : List Int) (w : World) (hv : SlI w v xs) (hl : xs.length ≤ 1073741824) :
    Calls Tryd.prog 45 #[v] w fun e w' => e = .returned (.bool (decide (xs.length ≤ 40) && runesB xs)) ∧ w' = w := by
  have hR := allRunes_any v xs w hv hl
  obtain ⟨a, c, rfl⟩ := hv.shp
  clear hv
  obtain ⟨rv, hrv⟩ : ∃ rv, Hid (rv = (decide (xs.length ≤ 40) && runesB xs)) := ⟨_, rfl⟩
  rw [← hrv.out]
  by_cases h3 : xs.length ≤ 40
  · have h3i : (xs.length : Int) ≤ 40 := by omega
    have hV : Hid (rv = runesB xs) := by show _ = _; rw [hrv.out, decide_eq_true h3, Bool.true_and]
    clear hrv
    generalize runesB xs = q at *
    go_enter Tryd.func45, Tryd.ntmps45
    go_wp2_with (go_at_call 37; refine hR.mono ?_; rintro e w' ⟨rfl, rfl⟩)
    go_ret
    exact ⟨by rw [hV.out]; first | rfl | simp, rfl⟩
  · have h3i : ¬ (xs.length : Int) ≤ 40 := by omega
    have hV : Hid (rv = false) := by show _ = _; rw [hrv.out, decide_eq_false h3, Bool.false_and]
    clear hR hrv
    go_enter Tryd.func45, Tryd.ntmps45
    go_wp2
    go_ret
    exact ⟨by rw [hV.out]; first | rfl | simp, rfl⟩
set_option maxHeartbeats 4000000 in
set_option maxRecDepth 20000 in
theorem implParserOk_any (p : Pa) (pv tv : Value) (w : World) (hp : SlI w pv p.params) (ht : SlI w tv p.text) (hpl : p.params.length ≤ 1073741824) (htl : p.text.length ≤ 1073741824) :
    Calls Tryd.prog 14 #[paV p pv tv] w fun e w' => e = .returned (.bool (okV p)) ∧ Below w.heap.size w w' := by
  obtain ⟨s, ps, m, ts⟩ := p
  have hb0 := bal' w (Obj.cells #[.int .i64 s, pv, .int .i64 m, tv] 26)
  have hP := PaC.new w s m pv tv 26
  have hp1 := hp.below hb0
  have ht1 := ht.below hb0
  have hR := titleOk_any tv ts _ ht1 htl
  have hQ := paramsOk_any pv ps _ hp1 hpl
  have hM := fun W => markOk_any m W
  obtain ⟨pa, pc, rfl⟩ := hp1.shp
  obtain ⟨ta, tc, rfl⟩ := ht1.shp
  simp only at *
  obtain ⟨rv, hrv⟩ : ∃ rv, Hid (rv = okV ⟨s, ps, m, ts⟩) := ⟨_, rfl⟩
  rw [← hrv.out]
  have hval : Hid (rv = (decide (1 ≤ s ∧ s ≤ 5) && (paramsB ps && decide (ps.length ≤ 16)) && decide (m = 0 ∨ m = 63) && (decide (ts.length ≤ 40) && runesB ts) && (decide (s = 3) || decide (ps.length = 0) && decide (m = 0)) && (decide (4 ≤ s) || decide (ts.length = 0)))) := by
    show _ = _
    rw [hrv.out]
    unfold okV
    rw [Bool.eq_iff_iff]
    simp only [Bool.and_eq_true, Bool.or_eq_true, decide_eq_true_eq]
    constructor
    · rintro ⟨⟨⟨a1, a2, a3, a4, a5, a6, a7⟩, a8⟩, a9⟩; exact ⟨⟨⟨⟨⟨⟨a1, a2⟩, a9, a3⟩, a4⟩, a5, a8⟩, a6⟩, a7⟩
    · rintro ⟨⟨⟨⟨⟨⟨a1, a2⟩, a9, a3⟩, a4⟩, a5, a8⟩, a6⟩, a7⟩; exact ⟨⟨⟨a1, a2, a3, a4, a5, a6, a7⟩, a8⟩, a9⟩
  have hps0 : ps.length = 0 → (paramsB ps && decide (ps.length ≤ 16)) = true := fun h => by
    rw [List.eq_nil_of_length_eq_zero h]; rfl
  have hts0 : ts.length = 0 → (decide (ts.length ≤ 40) && runesB ts) = true := fun h => by
    rw [List.eq_nil_of_length_eq_zero h]; rfl
  unfold paV
  obtain ⟨_, ⟨c0, c1, c2, c3⟩, _⟩ := id hP
  clear hP hp ht hp1 hrv ht1
  generalize (paramsB ps && decide (ps.length ≤ 16)) = qp at *
  generalize (decide (ts.length ≤ 40) && runesB ts) = qt at *
  generalize hnp : ps.length = np at *
  generalize hnt : ts.length = nt at *
  clear hnp hnt
  have zm : ∀ b, (b = true ↔ m = 0) → True := fun _ _ => trivial
  clear zm
  have hnm : m = 0 → decide (m = 0 ∨ m = 63) = true := fun h => by simp [h]
  generalize hmk : decide (m = 0 ∨ m = 63) = mk at *
  by_cases hs1 : s = 1 ∨ s = 2
  · have e1 : Hid (rv = (decide (np = 0) && decide (m = 0) && decide (nt = 0))) := by
      show _ = _
      rw [hval.out]
      by_cases z1 : np = 0
      · by_cases z2 : m = 0
        · by_cases z3 : nt = 0
          · rw [hps0 z1, hts0 z3, hnm z2]; rcases hs1 with rfl | rfl <;> simp [z1, z2, z3]
          · rcases hs1 with rfl | rfl <;> simp [z3]
        · rcases hs1 with rfl | rfl <;> simp [z2]
      · rcases hs1 with rfl | rfl <;> simp [z1]
    clear hval hps0 hts0 hnm hmk hR hQ hM
    by_cases z1 : np = 0
    · subst z1
      by_cases z2 : m = 0
      · subst z2
        by_cases z3 : nt = 0
        · subst z3
          rcases hs1 with rfl | rfl
          all_goals
            go_enter Tryd.func14, Tryd.ntmps14
            go_wp2
            go_ret
            exact ⟨by rw [e1.out]; rfl, hb0⟩
        · have z3i : ((nt : Int) == 0) = false := by simp; omega
          have e2 : Hid (rv = false) := by show _ = _; rw [e1.out]; simp [z3]
          clear e1 z3
          rcases hs1 with rfl | rfl
          all_goals
            go_enter Tryd.func14, Tryd.ntmps14
            go_wp2
            go_ret
            exact ⟨by rw [e2.out]; rfl, hb0⟩
      · have z2i : (m == 0) = false := by simp [z2]
        have e2 : Hid (rv = false) := by show _ = _; rw [e1.out]; simp [z2]
        clear e1 z2
        rcases hs1 with rfl | rfl
        all_goals
          go_enter Tryd.func14, Tryd.ntmps14
          go_wp2
          go_ret
          exact ⟨by rw [e2.out]; rfl, hb0⟩
    · have z1i : ((np : Int) == 0) = false := by simp; omega
      have e2 : Hid (rv = false) := by show _ = _; rw [e1.out]; simp [z1]
      clear e1 z1
      rcases hs1 with rfl | rfl
      all_goals
        go_enter Tryd.func14, Tryd.ntmps14
        go_wp2
        go_ret
        exact ⟨by rw [e2.out]; rfl, hb0⟩
  · by_cases hs3 : s = 3
    · subst hs3
      have e1 : Hid (rv = (qp && mk && decide (nt = 0))) := by
        show _ = _
        rw [hval.out]
        by_cases z3 : nt = 0
        · rw [hts0 z3]; simp [z3]
        · simp [z3]
      clear hval hps0 hts0 hnm hmk hR hs1
      cases qp
      · go_enter Tryd.func14, Tryd.ntmps14
        go_wp2_with (go_at_call 43; refine hQ.mono ?_; rintro e w' ⟨rfl, rfl⟩)
        go_ret
        exact ⟨by rw [e1.out]; rfl, hb0⟩
      · cases mk
        · go_enter Tryd.func14, Tryd.ntmps14
          go_wp2_with (first | (go_at_call 43; refine hQ.mono ?_; rintro e w' ⟨rfl, rfl⟩) | (go_at_call 44; refine (hM _).mono ?_; rintro e w' ⟨rfl, rfl⟩))
          go_ret
          exact ⟨by rw [e1.out]; rfl, hb0⟩
        · by_cases z3 : nt = 0
          · subst z3
            go_enter Tryd.func14, Tryd.ntmps14
            go_wp2_with (first | (go_at_call 43; refine hQ.mono ?_; rintro e w' ⟨rfl, rfl⟩) | (go_at_call 44; refine (hM _).mono ?_; rintro e w' ⟨rfl, rfl⟩))
            go_ret
            exact ⟨by rw [e1.out]; rfl, hb0⟩
          · have z3i : ((nt : Int) == 0) = false := by simp; omega
            have e2 : Hid (rv = false) := by show _ = _; rw [e1.out]; simp [z3]
            clear e1 z3
            go_enter Tryd.func14, Tryd.ntmps14
            go_wp2_with (first | (go_at_call 43; refine hQ.mono ?_; rintro e w' ⟨rfl, rfl⟩) | (go_at_call 44; refine (hM _).mono ?_; rintro e w' ⟨rfl, rfl⟩))
            go_ret
            exact ⟨by rw [e2.out]; rfl, hb0⟩
    · by_cases hs4 : s = 4 ∨ s = 5
      · have e1 : Hid (rv = (decide (np = 0) && decide (m = 0) && qt)) := by
          show _ = _
          rw [hval.out]
          by_cases z1 : np = 0
          · by_cases z2 : m = 0
            · rw [hps0 z1, hnm z2]; rcases hs4 with rfl | rfl <;> simp [z1, z2]
            · rcases hs4 with rfl | rfl <;> simp [z2]
          · rcases hs4 with rfl | rfl <;> simp [z1]
        clear hval hps0 hts0 hnm hmk hQ hM hs1 hs3
        by_cases z1 : np = 0
        · subst z1
          by_cases z2 : m = 0
          · subst z2
            rcases hs4 with rfl | rfl
            all_goals
              go_enter Tryd.func14, Tryd.ntmps14
              go_wp2_with (go_at_call 45; refine hR.mono ?_; rintro e w' ⟨rfl, rfl⟩)
              go_ret
              exact ⟨by rw [e1.out]; rfl, hb0⟩
          · have z2i : (m == 0) = false := by simp [z2]
            have e2 : Hid (rv = false) := by show _ = _; rw [e1.out]; simp [z2]
            clear e1 z2 hR
            rcases hs4 with rfl | rfl
            all_goals
              go_enter Tryd.func14, Tryd.ntmps14
              go_wp2
              go_ret
              exact ⟨by rw [e2.out]; rfl, hb0⟩
        · have z1i : ((np : Int) == 0) = false := by simp; omega
          have e2 : Hid (rv = false) := by show _ = _; rw [e1.out]; simp [z1]
          clear e1 z1 hR
          rcases hs4 with rfl | rfl
          all_goals
            go_enter Tryd.func14, Tryd.ntmps14
            go_wp2
            go_ret
            exact ⟨by rw [e2.out]; rfl, hb0⟩
      · have e1 : Hid (rv = false) := by
          show _ = _
          rw [hval.out, decide_eq_false (by omega)]; simp
        have i1 : (s == 1) = false := by simp; omega
        have i2 : (s == 2) = false := by simp; omega
        have i3 : (s == 3) = false := by simp; omega
        have i4 : (s == 4) = false := by simp; omega
        have i5 : (s == 5) = false := by simp; omega
        clear hval hps0 hts0 hnm hmk hR hQ hM hs1 hs3 hs4
        go_enter Tryd.func14, Tryd.ntmps14
        go_wp2
        go_ret
        exact ⟨by rw [e1.out]; rfl, hb0⟩
end Go.Proofs.YtkcekacnebhcgaaDoor
namespace Go.Proofs.YtkcekacnebhcgaaDoor
open Go.ChangeShapes Go.WideShapes Go.ChangeAt Go.RowKit
/-- A slice whose cells hold these values, one a place: what append takes its news from. -/
def ReadsRow (w : World) (u : Value) (news : List Value) : Prop :=
  (u = .slice none 0 0 ∧ news = []) ∨ ∃ ad c, u = .slice (some ad) news.length c ∧ ∀ j x, news[j]? = some x → w.cell? (ad.add j) = some x
theorem ReadsRow.of_own {w : World} {base : Nat} {e : TypeId} {v : Value} {n : Nat} {xs : List Value} (h : w.ownsRow base e 1 v n xs) : ReadsRow w v xs := by
  have hl : xs.length = n := by simpa using h.1
  rcases h.2 with ⟨rfl, rfl⟩ | ⟨g, cap, cur, hv, _⟩
  · exact .inl ⟨rfl, List.eq_nil_of_length_eq_zero hl⟩
  · exact .inr ⟨⟨g, 0, none⟩, cap, by rw [hv, hl], h.cells (by rw [hv]; rfl)⟩
theorem ReadsRow.below {w w' : World} {u : Value} {news : List Value} (h : ReadsRow w u news) (hb : Below w.heap.size w w') : ReadsRow w' u news := by
  rcases h with h | ⟨ad, c, hu, hc⟩
  · exact .inl h
  · refine .inr ⟨ad, c, hu, fun j x hx => ?_⟩
    have h1 := hc j x hx
    exact (hb.cell (World.block_lt_of_cell? w _ h1)).trans h1
theorem append_any {P : Program} {w : World} {ops : Array Oper} {rest : List Oper} {o : Oper} {a : Act} {Q : Exit → Act → World → Prop} (hgd : o.guard = none) (s x : Operand) (t : TypeId)
    (ho : o.op = .call { callee := .builtin .append, args := #[s, x], argTypes := #[t, t] })
    (base : Nat) (e : TypeId) (i : TypeInfo) (z : Value) (bytes : Nat) (ht : P.underlying t = some (.slice e)) (hi : P.info? e = some i) (hz : i.zero = some z)
    (hsize : i.size = 1) (hby : i.bytes = bytes) (hzs : z.cells.size = 1)
    (v : Value) (n : Nat) (xs : List Value) (hs : a.eval s = v) (hown : w.ownsRow base e 1 v n xs)
    (u : Value) (news : List Value) (hx : a.eval x = u) (hr : ReadsRow w u news) (h1 : ∀ u ∈ news, u.oneCell' = true)
    (h63 : n + news.length ≤ maxLen) (hbytes : (n + news.length) * bytes ≤ 140737488355328) (hbase : base ≤ w.heap.size)
    (h : ∀ v' w', w'.ownsRow base e 1 v' (n + news.length) (xs ++ news) → w.grownBy w' v.ownBlock → wpList P ops Q rest (a.put o.dst v') w') : wpList P ops Q (o :: rest) a w := by
  rcases hr with ⟨rfl, rfl⟩ | ⟨ad, c, rfl, hc⟩
  · exact wpList_append_own_none hgd s x t ho base e i 1 ht hi v n xs hs hown hx (h v w (by simpa using hown) (World.grownBy.refl _ _))
  · exact wpList_append_own w hgd s x t ho base e i z 1 bytes ht hi hz hsize hby hzs (by decide) v n xs hs hown ad news.length c news hx (by simp) hc h1 h63 hbytes hbase (fun v' w' a b _ => h v' w' a b)
end Go.Proofs.YtkcekacnebhcgaaDoor
namespace Go.Proofs.YtkcekacnebhcgaaDoor
open Go.ChangeShapes Go.WideShapes Go.ChangeAt Go.RowKit
/-- A slice that can be read, cut and copied. -/
def SlN (w : World) (v : Value) (xs : List Int) : Prop :=
  ∃ a c, v = .slice a xs.length c ∧ xs.length ≤ c ∧ (a = none → c = 0) ∧ (xs = [] ∨ ∃ b off, a = some ⟨b, off, none⟩ ∧ b < w.heap.size ∧ ∀ i, i < xs.length → w.cell? ⟨b, off + i, none⟩ = some (.int .i64 (xs.getD i 0)))
theorem SlN.l {w : World} {v : Value} {xs : List Int} (h : SlN w v xs) : SlL w v xs := by
  obtain ⟨a, c, hv, hc, _, hr⟩ := h
  exact ⟨a, c, hv, hc, hr⟩
theorem SlN.below {w w' : World} {v : Value} {xs : List Int} (h : SlN w v xs) (hb : Below w.heap.size w w') : SlN w' v xs := by
  obtain ⟨a, c, hv, hc0, hn, h | ⟨b, off, ha, hlt, hc⟩⟩ := h
  · exact ⟨a, c, hv, hc0, hn, .inl h⟩
  · exact ⟨a, c, hv, hc0, hn, .inr ⟨b, off, ha, Nat.lt_of_lt_of_le hlt hb.size, fun i hi => (hb.cell (p := ⟨b, off + i, none⟩) hlt).trans (hc i hi)⟩⟩
theorem SlN.of_own {w : World} {base : Nat} {v : Value} {xs : List Int} (h : OwnI w base v xs) : SlN w v xs := by
  rcases h.2 with ⟨rfl, h2⟩ | ⟨g, cap, cur, rfl, hb, hg, hn, hr⟩
  · exact ⟨none, 0, by rw [h2], by omega, fun _ => rfl, .inl (List.eq_nil_of_length_eq_zero h2)⟩
  · refine ⟨_, cap, rfl, hn, (fun e => by cases e), .inr ⟨g, 0, rfl, (Array.getElem?_eq_some_iff.1 hg).1, fun i hi => ?_⟩⟩
    have := World.ownsRow.cellAt h i (by omega)
    rw [Nat.zero_add, this]
    simp [hi]
theorem SlN.shp {w : World} {v : Value} {xs : List Int} (h : SlN w v xs) : ∃ a c, v = .slice a xs.length c := h.l.sl.shp
theorem SlN.reads {w : World} {v : Value} {xs : List Int} (h : SlN w v xs) : ReadsRow w v (xs.map (Value.int .i64)) := by
  obtain ⟨a, c, hv, hc, hn, hr⟩ := h
  cases a with
  | none =>
    have hc0 := hn rfl
    subst hc0
    have hx : xs = [] := List.eq_nil_of_length_eq_zero (by omega)
    subst hx
    exact .inl ⟨hv, rfl⟩
  | some ad =>
    refine .inr ⟨ad, c, by rw [hv, List.length_map], fun j x hj => ?_⟩
    have hjl : j < xs.length := by
      have := (List.getElem?_eq_some_iff.1 hj).1
      simpa using this
    rcases hr with h | ⟨b, off, ha, _, hcl⟩
    · rw [h] at hjl; simp at hjl
    · cases ha
      rw [Addr.add_mid, hcl j hjl, ← hj]
      simp [hjl]
theorem ints_one (xs : List Int) : ∀ u ∈ xs.map (Value.int .i64), u.oneCell' = true := by
  intro u hu
  obtain ⟨x, _, rfl⟩ := List.mem_map.1 hu
  rfl
/-- A list's copy onto an empty one: what is asked at the append and what holds behind it. -/
theorem copy_i {w : World} {ops : Array Oper} {rest : List Oper} {o : Oper} {ac : Act} {Q : Exit → Act → World → Prop} (hgd : o.guard = none) (s x : Operand)
    (ho : o.op = .call { callee := .builtin .append, args := #[s, x], argTypes := #[24, 24] })
    (v : Value) (xs : List Int) (hs : ac.eval s = .slice (some ⟨w.heap.size, 0, none⟩) 0 0) (k : SlN w v xs) (hl : xs.length ≤ 1073741824) (hx : ac.eval x = v)
    (h : ∀ v' w', OwnI w' w.heap.size v' xs → Below w.heap.size w w' → wpList Tryd.prog ops Q rest (ac.put o.dst v') w') :
    wpList Tryd.prog ops Q (o :: rest) ac (w.alloc (.cells #[] 2)) := by
  obtain ⟨i0, hi, hz0, hz1, hz2⟩ := info_parts info_i64
  have hba := bal' w (Obj.cells #[] 2)
  have hown : (w.alloc (.cells #[] 2)).ownsRow w.heap.size 2 1 (.slice (some ⟨w.heap.size, 0, none⟩) 0 0) 0 [] := by
    have := World.ownsRow_lit (base := w.heap.size) (e := 2) (size := 1) w #[] 0 (Nat.le_refl _) (Nat.zero_le _) rfl
    simpa using this
  refine append_any hgd s x _ ho w.heap.size 2 i0 (.int .i64 0) 8 under_ints hi hz0 hz1 hz2 rfl _ 0 [] hs hown v (xs.map (Value.int .i64)) hx (k.reads.below hba) (ints_one xs) (by unfold maxLen; simp; omega) (by simp; omega) (by simp) (fun v' w' ho' hg' => ?_)
  have e : 0 + (xs.map (Value.int .i64)).length = xs.length := by simp
  rw [e] at ho'
  refine h v' w' (by simpa [OwnI] using ho') (hba.grown hg' (by simp) (fun q e => by simp [Value.ownBlock] at e; omega))
theorem copiedNumbers_any (v : Value) (xs : List Int) (w : World) (hv : SlN w v xs) (hl : xs.length ≤ 1073741824) :
    Calls Tryd.prog 38 #[v] w fun e w' => ∃ u, e = .returned u ∧ OwnI w' w.heap.size u xs ∧ Below w.heap.size w w' := by
  obtain ⟨a, c, rfl⟩ := hv.shp
  go_enter Tryd.func38, Tryd.ntmps38
  go_wp2_with (refine copy_i (by rfl) _ _ (by rfl) _ xs (by rfl) hv hl (by rfl) ?_; intro v' w1 ho hb)
  go_wp2
  go_ret
  exact ⟨_, rfl, ho, hb⟩
/-- Four cells of a parser are written. -/
def putP (w : World) (B : Nat) (s : Int) (pv : Value) (m : Int) (tv : Value) : World := (((w.setCell ⟨B, 0, none⟩ (.int .i64 s)).setCell ⟨B, 1, none⟩ pv).setCell ⟨B, 2, none⟩ (.int .i64 m)).setCell ⟨B, 3, none⟩ tv
theorem putP_grown (w : World) (B : Nat) (s : Int) (pv : Value) (m : Int) (tv : Value) : w.grownBy (putP w B s pv m tv) (some B) :=
  grown_tr (grown_tr (grown_tr (setCell_gr w B 0 _) (setCell_gr _ B 1 _)) (setCell_gr _ B 2 _)) (setCell_gr _ B 3 _)
theorem PaC.put {w : World} {B : Nat} {s m : Int} {pv tv : Value} (h : PaC w B s pv m tv) (s' m' : Int) (pv' tv' : Value) : PaC (putP w B s' pv' m' tv') B s' pv' m' tv' := by
  obtain ⟨hlt, ⟨c0, c1, c2, c3⟩, ⟨z0, z1, z2, z3⟩⟩ := h
  refine ⟨by simpa [putP] using hlt, ⟨?_, ?_, ?_, ?_⟩, ⟨?_, ?_, ?_, ?_⟩⟩
  all_goals simp only [putP]
  · simp [go_sem, c0]
  · simp [go_sem, c1]
  · simp [go_sem, c2]
  · simp [go_sem, c3]
  all_goals simp [go_sem, z0, z1, z2, z3]
theorem AnsOk.grown {w w' : World} {base b : Nat} {pv tv av : Value} {p : Pa} {A : List Ac} (h : AnsOk w base pv tv p av A) (hg : w.grownBy w' (some b)) (hb : b < base) : AnsOk w' base pv tv p av A := by
  obtain ⟨X, h1, h2, h3⟩ := h
  refine ⟨X, h1, h2.kept hg (.inr fun e => ?_), h3.kept hg fun p hp => .inr fun e => ?_⟩
  · have := (h2.lt b e).1; omega
  · have := ((h3.1 p hp).lt b e).1; omega
end Go.Proofs.YtkcekacnebhcgaaDoor
namespace Go.Proofs.YtkcekacnebhcgaaDoor
open Go.ChangeShapes Go.WideShapes Go.ChangeAt Go.RowKit
section
variable {H : Type} {enc : TypeId × Value → H} {w : World} {base : Nat} {spare : Nat → Bool} {held : Bool}
theorem slN_of {w : World} {x : Addr} {l c : Nat} {zs : List Int} (hl : l ≤ c) (hz : l ≤ zs.length) (hc : ∀ i, i < zs.length → w.cell? (x.add i) = some (.int .i64 (zs.getD i 0))) : SlN w (.slice (some x) l c) (zs.take l) ∧ (zs.take l).length = l := by
  have hlen : (zs.take l).length = l := by rw [List.length_take]; omega
  refine ⟨⟨some x, c, by rw [hlen], by rw [hlen]; exact hl, (fun e => by cases e), ?_⟩, hlen⟩
  by_cases h0 : l = 0
  · left; subst h0; simp
  · right
    obtain ⟨b, off, spot⟩ := x
    have h1 := hc 0 (by omega)
    have hspot : spot = none := by simpa [Addr.add] using World.cell?_spot h1
    subst hspot
    refine ⟨b, off, rfl, World.block_lt_of_cell? w _ h1, fun i hi => ?_⟩
    rw [hlen] at hi
    have h2 := hc i (by omega)
    have e : (zs.take l).getD i 0 = zs.getD i 0 := by simp [List.getD, hi]
    rw [e, ← h2]
    by_cases hi0 : i = 0
    · subst hi0; simp [Addr.add]
    · simp [Addr.add, hi0]
theorem ints_tr {fuel : Nat} {cs : List Value} {y : DataW H × List MemPlace} (hf : DataW.trod enc Tryd.prog w base spare held fuel 24 cs = some y) :
    ∃ (v : Value) (xs : List Int), cs = [v] ∧ SlN w v xs ∧ xs.length ≤ maxLen := by
  rcases open_ints Tryd.underlying24 Tryd.underlying2 (by kernel_rfl) hf with ⟨hcs, _⟩ | ⟨x, l, c, zs, hcs, _, hl, hm, hz, _, hcell, hwz⟩
  · exact ⟨_, [], hcs, ⟨none, 0, rfl, Nat.le_refl _, fun _ => rfl, .inl rfl⟩, by simp⟩
  · have := slN_of (w := w) (x := x) hl (by rw [hz]; split <;> omega) hcell
    exact ⟨_, _, hcs, this.1, by rw [this.2]; omega⟩
set_option maxRecDepth 20000 in
theorem parser_view {b0 : Nat} {r : Reach} {v : Value} {d : DataW H} {p : List MemPlace} (hv : Value.okWide Tryd.prog w r b0 40 v) (h : DataW.Trod enc Tryd.prog w base spare held 40 v d p) :
    ∃ (q : Pa) (pv tv : Value), v = paV q pv tv ∧ SlN w pv q.params ∧ SlN w tv q.text ∧ q.params.length ≤ maxLen ∧ q.text.length ≤ maxLen := by
  obtain ⟨cs, rfl, hsz⟩ := okWide_struct Tryd.underlying40 hv
  obtain ⟨fuel, hf⟩ := h
  obtain ⟨xs, n, _, _, hl, hlen, hfs⟩ := DataW.trod_struct Tryd.underlying40 hf
  have e : Tryd.prog.cellsOf 40 = 4 := by kernel_rfl
  have ei : Tryd.prog.cellsOf 2 = 1 := by kernel_rfl
  have er : Tryd.prog.cellsOf 24 = 1 := by kernel_rfl
  obtain ⟨l⟩ := cs
  match l, hsz.trans e, xs, hlen with
  | [c0, c1, c2, c3], _, [x0, x1, x2, x3], _ =>
    have h0 := hfs 0 _ rfl
    have h1 := hfs 1 _ rfl
    have h2 := hfs 2 _ rfl
    have h3 := hfs 3 _ rfl
    simp [Value.cells, ei, er] at h0 h1 h2 h3
    obtain ⟨k0, q0, _, _⟩ := DataW.trod_int Tryd.underlying2 h0
    obtain ⟨u1, y1, q1, s1, l1⟩ := ints_tr h1
    obtain ⟨k2, q2, _, _⟩ := DataW.trod_int Tryd.underlying2 h2
    obtain ⟨u3, y3, q3, s3, l3⟩ := ints_tr h3
    simp at q0 q1 q2 q3
    subst q0; subst q1; subst q2; subst q3
    exact ⟨⟨k0, y1, k2, y3⟩, _, _, rfl, s1, s3, l1, l3⟩
end
end Go.Proofs.YtkcekacnebhcgaaDoor
namespace Go.Proofs.YtkcekacnebhcgaaDoor
open Go.ChangeShapes Go.WideShapes Go.ChangeAt Go.RowKit
/-- A parser's block, whole. -/
def PbB (w : World) (B : Nat) (s : Int) (pv : Value) (m : Int) (tv : Value) : Prop := w.heap[B]? = some (.cells #[.int .i64 s, pv, .int .i64 m, tv] 26 (0, 0))
theorem PbB.lt {w : World} {B : Nat} {s m : Int} {pv tv : Value} (h : PbB w B s pv m tv) : B < w.heap.size := (Array.getElem?_eq_some_iff.1 h).1
theorem PbB.cells {w : World} {B : Nat} {s m : Int} {pv tv : Value} (h : PbB w B s pv m tv) :
    w.cell? ⟨B, 0, none⟩ = some (.int .i64 s) ∧ w.cell? ⟨B, 1, none⟩ = some pv ∧ w.cell? ⟨B, 2, none⟩ = some (.int .i64 m) ∧ w.cell? ⟨B, 3, none⟩ = some tv := by
  refine ⟨?_, ?_, ?_, ?_⟩ <;> (rw [cell_of_row w B _ _ _ (0, 0) h]; rfl)
theorem PbB.frozen {w : World} {B : Nat} {s m : Int} {pv tv : Value} (h : PbB w B s pv m tv) : w.frozen? ⟨B, 0, none⟩ = false ∧ w.frozen? ⟨B, 1, none⟩ = false ∧ w.frozen? ⟨B, 2, none⟩ = false ∧ w.frozen? ⟨B, 3, none⟩ = false :=
  ⟨frozen_of_row w B 0 _ _ h, frozen_of_row w B 1 _ _ h, frozen_of_row w B 2 _ _ h, frozen_of_row w B 3 _ _ h⟩
theorem PbB.set {w : World} {B : Nat} {s m : Int} {pv tv : Value} (h : PbB w B s pv m tv) (j : Nat) (u : Value) : (w.setCell ⟨B, j, none⟩ u).heap[B]? = some (.cells ((#[.int .i64 s, pv, .int .i64 m, tv] : Array Value).setIfInBounds j u) 26 (0, 0)) := heap_setCell_same w B j _ _ u h
theorem PbB.put {w : World} {B : Nat} {s m : Int} {pv tv : Value} (h : PbB w B s pv m tv) (s' m' : Int) (pv' tv' : Value) : PbB (putP w B s' pv' m' tv') B s' pv' m' tv' := by
  have k0 : PbB (w.setCell ⟨B, 0, none⟩ (.int .i64 s')) B s' pv m tv := h.set 0 _
  have k1 : PbB _ B s' pv' m tv := k0.set 1 _
  have k2 : PbB _ B s' pv' m' tv := k1.set 2 _
  exact k2.set 3 _
theorem PbB.kept {w w' : World} {B : Nat} {s m : Int} {pv tv : Value} {row : Option Nat} (h : PbB w B s pv m tv) (hg : w.grownBy w' row) (hne : row ≠ some B) : PbB w' B s pv m tv := by
  unfold PbB
  rw [hg.block B h.lt (Ne.symm hne)]
  exact h
theorem PbB.below {w w' : World} {B : Nat} {s m : Int} {pv tv : Value} (h : PbB w B s pv m tv) (hb : Below w.heap.size w w') : PbB w' B s pv m tv := h.kept (gbl hb none) (by simp)
theorem PbB.new (w : World) (s m : Int) (pv tv : Value) : PbB (w.alloc (.cells #[.int .i64 s, pv, .int .i64 m, tv] 26)) w.heap.size s pv m tv := heap_alloc_new w _
end Go.Proofs.YtkcekacnebhcgaaDoor
namespace Go.Proofs.YtkcekacnebhcgaaDoor
open Go.ChangeShapes Go.WideShapes Go.ChangeAt Go.RowKit
/-- Only the blocks of two values change; new ones may come. -/
def GrV (u v : Value) (w w' : World) : Prop := w'.os = w.os ∧ w'.tape = w.tape ∧ w'.output = w.output ∧ w.heap.size ≤ w'.heap.size ∧ ∀ k, k < w.heap.size → u.ownBlock ≠ some k → v.ownBlock ≠ some k → w'.heap[k]? = w.heap[k]?
theorem GrV.of_below {u v : Value} {w w' : World} (h : Below w.heap.size w w') : GrV u v w w' := ⟨h.os, h.tape, h.output, h.size, fun k hk _ _ => h.block k hk⟩
theorem GrV.trans {u v : Value} {a b c : World} (h : GrV u v a b) (k : GrV u v b c) : GrV u v a c :=
  ⟨k.1.trans h.1, k.2.1.trans h.2.1, k.2.2.1.trans h.2.2.1, Nat.le_trans h.2.2.2.1 k.2.2.2.1, fun i hi h1 h2 => (k.2.2.2.2 i (Nat.lt_of_lt_of_le hi h.2.2.2.1) h1 h2).trans (h.2.2.2.2 i hi h1 h2)⟩
/-- What was new to the first world may change. -/
theorem GrV.grown {u v : Value} {a b c : World} {row : Option Nat} (h : GrV u v a b) (k : b.grownBy c row) (hr : ∀ g, row = some g → u.ownBlock = some g ∨ v.ownBlock = some g ∨ a.heap.size ≤ g) : GrV u v a c :=
  ⟨k.os.trans h.1, k.tape.trans h.2.1, k.output.trans h.2.2.1, Nat.le_trans h.2.2.2.1 k.size, fun i hi h1 h2 => (k.block i (Nat.lt_of_lt_of_le hi h.2.2.2.1) (fun e => by
    rcases hr i e.symm with h3 | h3 | h3
    · exact h1 h3
    · exact h2 h3
    · omega)).trans (h.2.2.2.2 i hi h1 h2)⟩
theorem GrV.below {u v : Value} {a b c : World} (h : GrV u v a b) (k : Below b.heap.size b c) : GrV u v a c := h.grown (gbl k none) (fun _ e => by cases e)
theorem GrV.to_below {u v : Value} {w w' : World} {B : Nat} (h : GrV u v w w') (hB : B ≤ w.heap.size) (hu : ∀ g, u.ownBlock = some g → B ≤ g) (hv : ∀ g, v.ownBlock = some g → B ≤ g) : Below B w w' :=
  ⟨h.1, h.2.1, h.2.2.1, h.2.2.2.1, fun k hk => h.2.2.2.2 k (by omega) (fun e => by have := hu k e; omega) (fun e => by have := hv k e; omega)⟩
theorem PbB.grv {u v : Value} {w w' : World} {B : Nat} {s m : Int} {pv tv : Value} (h : PbB w B s pv m tv) (hg : GrV u v w w') (h1 : u.ownBlock ≠ some B) (h2 : v.ownBlock ≠ some B) : PbB w' B s pv m tv := by
  unfold PbB
  rw [hg.2.2.2.2 B h.lt h1 h2]
  exact h
theorem ownsRow_grv {u v x : Value} {w w' : World} {base : Nat} {e : TypeId} {size n : Nat} {xs : List Value} (h : w.ownsRow base e size x n xs) (hg : GrV u v w w') (h1 : ∀ g, x.ownBlock = some g → u.ownBlock ≠ some g) (h2 : ∀ g, x.ownBlock = some g → v.ownBlock ≠ some g) : w'.ownsRow base e size x n xs := by
  refine ⟨h.1, ?_⟩
  rcases h.2 with h3 | ⟨g, cap, cur, hv, hb, hgg, r⟩
  · exact .inl h3
  · refine .inr ⟨g, cap, cur, hv, hb, ?_, r⟩
    have e : x.ownBlock = some g := by rw [hv]; rfl
    rw [hg.2.2.2.2 g (Array.getElem?_eq_some_iff.1 hgg).1 (h1 g e) (h2 g e)]
    exact hgg
theorem l6State_any (s : Int) (w : World) :
    Calls Tryd.prog 64 #[.int .i64 s] w fun e w' => e = .returned (.agg #[.int .i64 s, .slice none 0 0, .int .i64 0, .slice none 0 0]) ∧ Below w.heap.size w w' := by
  have hb := bal' w (Obj.cells #[.int .i64 s, .slice none 0 0, .int .i64 0, .slice none 0 0] 26)
  obtain ⟨f0, f1, f2, f3⟩ := (PbB.new w s 0 (.slice none 0 0) (.slice none 0 0)).cells
  go_enter Tryd.func64, Tryd.ntmps64
  go_wp2
  exact bodyPost_ret (v := .agg #[.int .i64 s, .slice none 0 0, .int .i64 0, .slice none 0 0]) (by simp [results, Tryd.results64, go_sem]) rfl ⟨rfl, hb⟩
/-- What a step leaves behind. -/
def StepS (w w' : World) (base : Nat) (u v : Value) (R : List (Value × List Int)) (e : Ending) (T : Pa × List Ac) : Prop :=
  ∃ pv tv av X, e = .returned (.tuple #[paV T.1 pv tv, av]) ∧ X.map (·.a) = T.2 ∧ OwnX w' base av X ∧ LiOk w' base ((pv, T.1.params) :: (tv, T.1.text) :: (axLs X ++ R)) ∧ GrV u v w w'
/-- The answer is written to its own block, and that is the end. -/
theorem close_step {w W : World} {base n1 : Nat} {u v pv' tv' av : Value} {R : List (Value × List Int)} {s0 m0 s' m' : Int} {ps' ts' : List Int} {X : List Ax} (hG : GrV u v w W) {z1 z2 : Value} (hB : PbB W n1 s0 z1 m0 z2) (hX : OwnX W base av X) (hL : LiOk W base ((pv', ps') :: (tv', ts') :: (axLs X ++ R))) (hn : w.heap.size ≤ n1) (A : List Ac) (hA : X.map (·.a) = A) :
    ((putP W n1 s' pv' m' tv').cell? ⟨n1, 0, none⟩ = some (.int .i64 s') ∧ (putP W n1 s' pv' m' tv').cell? ⟨n1, 1, none⟩ = some pv' ∧ (putP W n1 s' pv' m' tv').cell? ⟨n1, 2, none⟩ = some (.int .i64 m') ∧ (putP W n1 s' pv' m' tv').cell? ⟨n1, 3, none⟩ = some tv') ∧
    Hid (StepS w (putP W n1 s' pv' m' tv') base u v R (.returned (.tuple #[.agg #[.int .i64 s', pv', .int .i64 m', tv'], av])) (⟨s', ps', m', ts'⟩, A)) := by
  have hg := putP_grown W n1 s' pv' m' tv'
  refine ⟨(hB.put s' m' pv' tv').cells, pv', tv', av, X, rfl, hA, hX.kept hg (.inr (hX.not_block hB (by decide))), hL.kept hg (fun p hp => .inr ((hL.1 p hp).not_block hB (by decide))), hG.grown hg (fun g e => by cases e; exact .inr (.inr hn))⟩
theorem copy_g {w : World} {ops : Array Oper} {rest : List Oper} {o : Oper} {ac : Act} {Q : Exit → Act → World → Prop} (hgd : o.guard = none) (s x : Operand)
    (ho : o.op = .call { callee := .builtin .append, args := #[s, x], argTypes := #[24, 24] })
    (g : Nat) (hg : w.heap.size = g) (v : Value) (xs : List Int) (hs : ac.eval s = .slice (some ⟨g, 0, none⟩) 0 0) (k : SlN w v xs) (hl : xs.length ≤ 1073741824) (hx : ac.eval x = v)
    (h : ∀ v' w', OwnI w' w.heap.size v' xs → Below w.heap.size w w' → wpList Tryd.prog ops Q rest (ac.put o.dst v') w') :
    wpList Tryd.prog ops Q (o :: rest) ac (w.alloc (.cells #[] 2)) := by
  subst hg
  exact copy_i hgd s x ho v xs hs k hl hx h
set_option maxHeartbeats 4000000 in
theorem l6Copy_any (p : Pa) (pv tv : Value) (w : World) (hp : SlN w pv p.params) (ht : SlN w tv p.text) (hpl : p.params.length ≤ 1073741824) (htl : p.text.length ≤ 1073741824) :
    Calls Tryd.prog 41 #[paV p pv tv] w fun e w' => ∃ pv' tv', e = .returned (paV p pv' tv') ∧ LiOk w' w.heap.size [(pv', p.params), (tv', p.text)] ∧ Below w.heap.size w w' := by
  obtain ⟨s, ps, m, ts⟩ := p
  have hb0 := bal' w (Obj.cells #[.int .i64 s, pv, .int .i64 m, tv] 26)
  have hb1 := bal' (w.alloc (Obj.cells #[.int .i64 s, pv, .int .i64 m, tv] 26)) (Obj.cells #[.int .i64 0, .slice none 0 0, .int .i64 0, .slice none 0 0] 26)
  have hbb := hb0.trans (hb1.mono hb0.size)
  have hP := (PbB.new w s m pv tv).below hb1
  have hR := PbB.new (w.alloc (Obj.cells #[.int .i64 s, pv, .int .i64 m, tv] 26)) 0 0 (.slice none 0 0) (.slice none 0 0)
  rw [show (w.alloc (Obj.cells #[.int .i64 s, pv, .int .i64 m, tv] 26)).heap.size = w.heap.size + 1 by simp] at hR
  have hs2 : ((w.alloc (Obj.cells #[.int .i64 s, pv, .int .i64 m, tv] 26)).alloc (Obj.cells #[.int .i64 0, .slice none 0 0, .int .i64 0, .slice none 0 0] 26)).heap.size = w.heap.size + 2 := by simp
  have hp2 := hp.below hbb
  have ht2 := ht.below hbb
  unfold paV at *
  simp only at *
  obtain ⟨pa, pc, hpv⟩ := hp.shp
  obtain ⟨ta, tc, htv⟩ := ht.shp
  subst hpv; subst htv
  generalize hw2 : (w.alloc (Obj.cells #[.int .i64 s, .slice pa ps.length pc, .int .i64 m, .slice ta ts.length tc] 26)).alloc (Obj.cells #[.int .i64 0, .slice none 0 0, .int .i64 0, .slice none 0 0] 26) = w2 at *
  have hP2 := hP.below (bal' w2 (Obj.cells #[] 2))
  obtain ⟨c0, c1, c2, c3⟩ := hP2.cells
  subst hw2
  have ht0 := ht
  clear hb0 hb1 hp ht hP2
  go_enter Tryd.func41, Tryd.ntmps41
  go_wp2_with (refine copy_g (by rfl) _ _ (by rfl) _ hs2 _ ps (by rfl) hp2 hpl (by rfl) ?_)
  intro u w3 hou hb3
  have hP3 := hP.below (hs2.symm ▸ hb3)
  have hR3 := hR.below (hs2.symm ▸ hb3)
  obtain ⟨ua, un, uc, hu⟩ := hou.shape
  subst hu
  have hg3 := setCell_gr w3 w.heap.size 1 (.slice ua un uc)
  have hP4 : PbB (w3.setCell ⟨w.heap.size, 1, none⟩ (.slice ua un uc)) w.heap.size s (.slice ua un uc) m (.slice ta ts.length tc) := hP3.set 1 _
  have hR4 := hR3.kept hg3 (by simp)
  try rw [hs2] at hou hb3
  have hs3 : w.heap.size + 2 ≤ w3.heap.size := by have := hb3.size; rw [hs2] at this; exact this
  have hou4 := hou.kept hg3 (.inr (fun e => by have := (hou.lt _ e).1; omega))
  have hbw3 := hbb.trans (hb3.mono (show w.heap.size ≤ w.heap.size + 2 by omega))
  have hbw4 := hbw3.grown hg3 (by omega) (fun k e => by cases e; exact Nat.le_refl _)
  have ht4 := ht0.below hbw4
  have hs4 : (w3.setCell ⟨w.heap.size, 1, none⟩ (.slice ua un uc)).heap.size = w3.heap.size := by simp
  obtain ⟨d0, d1, d2, d3⟩ := hP3.cells
  obtain ⟨y0, y1, y2, y3⟩ := hP3.frozen
  obtain ⟨g0, g1, g2, g3⟩ := (hP4.below (bal' _ (Obj.cells #[] 2))).cells
  clear hp2 ht2 hP hR hb3 c0 c1 c2 c3 hR3 hP3 hbw3 hbb
  go_wp2_with (refine copy_g (by rfl) _ _ (by rfl) _ hs4 _ ts (by rfl) ht4 htl (by rfl) ?_)
  intro t w5 hot hb5
  have hb5 := (show Below (w3.setCell ⟨w.heap.size, 1, none⟩ (.slice ua un uc)).heap.size _ w5 from hs4.symm ▸ hb5)
  have hP5 := hP4.below hb5
  have hR5 := hR4.below hb5
  have hou5 := hou4.below hb5
  obtain ⟨sa, sn, sc, hu⟩ := hot.shape
  subst hu
  have hg5 := setCell_gr w5 w.heap.size 3 (.slice sa sn sc)
  have hP6 : PbB (w5.setCell ⟨w.heap.size, 3, none⟩ (.slice sa sn sc)) w.heap.size s (.slice ua un uc) m (.slice sa sn sc) := hP5.set 3 _
  have hR6 := hR5.kept hg5 (by simp)
  try rw [hs4] at hot
  have hL5 : LiOk w5 w.heap.size [(.slice ua un uc, ps), (.slice sa sn sc, ts)] :=
    ((show LiOk (w3.setCell ⟨w.heap.size, 1, none⟩ (.slice ua un uc)) w.heap.size [(.slice ua un uc, ps)] from ⟨fun p hp => by rw [List.mem_singleton] at hp; subst hp; exact hou4.low (by omega), List.pairwise_singleton _ _⟩).new hb5 (hot.low (by omega)) (fun g e => by rw [hs4]; exact (hot.lt g e).1)).perm (List.Perm.swap _ _ _)
  have hL6 := hL5.kept hg5 (fun p hp => .inr fun e => by
    simp only [List.mem_cons, List.mem_nil_iff, or_false] at hp
    rcases hp with rfl | rfl
    · have := (hou5.lt _ e).1; omega
    · have := (hot.lt _ e).1; omega)
  have hbw6 := (hbw4.trans (hb5.mono hbw4.size)).grown hg5 (by have := hb5.size; simp at this; omega) (fun k e => by cases e; exact Nat.le_refl _)
  have hg7 := putP_grown (w5.setCell ⟨w.heap.size, 3, none⟩ (.slice sa sn sc)) (w.heap.size + 1) s (.slice ua un uc) m (.slice sa sn sc)
  have hF := (hR6.put s m (.slice ua un uc) (.slice sa sn sc)).cells
  have hL7 := hL6.kept hg7 (fun p hp => .inr fun e => by
    simp only [List.mem_cons, List.mem_nil_iff, or_false] at hp
    rcases hp with rfl | rfl
    · have := (hou5.lt _ e).1; omega
    · have := (hot.lt _ e).1; omega)
  have hbw7 := hbw6.grown hg7 (by have := hb5.size; simp at this ⊢; omega) (fun k e => by cases e; omega)
  obtain ⟨e0, e1, e2, e3⟩ := hP5.cells
  obtain ⟨z0, z1, z2, z3⟩ := hP5.frozen
  obtain ⟨f0, f1, f2, f3⟩ := hF
  obtain ⟨r0, r1, r2, r3⟩ := hR6.cells
  obtain ⟨q0, q1, q2, q3⟩ := hR6.frozen
  simp only [putP] at f0 f1 f2 f3 hL7 hbw7
  have hfin := (show Hid _ from And.intro hL7 hbw7)
  clear hL5 hL6 hL7 hbw7 hbw6 hg7 hg5 hP6 hR6 hP5 hR5 hou5 hot hb5 hP4 hR4 hou4 hbw4 ht4 hg3 hou d0 d1 d2 d3 y0 y1 y2 y3 g0 g1 g2 g3 hs3 hs4
  go_wp2
  exact bodyPost_ret (v := .agg #[.int .i64 s, .slice ua un uc, .int .i64 m, .slice sa sn sc]) (by simp [results, Tryd.results41, go_sem, f0, f1, f2, f3]) rfl ⟨_, _, rfl, hfin.out⟩
end Go.Proofs.YtkcekacnebhcgaaDoor
namespace Go.Proofs.YtkcekacnebhcgaaDoor
open Go.ChangeShapes Go.WideShapes Go.ChangeAt Go.RowKit
theorem cells4 {w : World} {B : Nat} {s m : Int} {pv tv : Value} (h : PbB w B s pv m tv) : (w.cell? ⟨B, 0, none⟩ = some (.int .i64 s) ∧ w.cell? ⟨B, 1, none⟩ = some pv ∧ w.cell? ⟨B, 2, none⟩ = some (.int .i64 m) ∧ w.cell? ⟨B, 3, none⟩ = some tv) ∧ (w.frozen? ⟨B, 0, none⟩ = false ∧ w.frozen? ⟨B, 1, none⟩ = false ∧ w.frozen? ⟨B, 2, none⟩ = false ∧ w.frozen? ⟨B, 3, none⟩ = false) := ⟨h.cells, h.frozen⟩
/-- An action is told and the state is new: the state first. -/
theorem way_a {w wA wb : World} {base n0 n1 : Nat} {u v p0 t0 p1 t1 : Value} {s0 m0 s1 m1 : Int} {R : List (Value × List Int)} {x : Ax} (hG : GrV u v w wA) (h0 : PbB wA n0 s0 p0 m0 t0) (h1 : PbB wA n1 s1 p1 m1 t1) (hL : LiOk wA base (axL x ++ R)) (hbase : base ≤ wA.heap.size) (hn : w.heap.size ≤ n1) (st : Int) (hb : Below wA.heap.size wA wb) :
    ((wb.cell? ⟨n0, 0, none⟩ = some (.int .i64 s0) ∧ wb.cell? ⟨n0, 1, none⟩ = some p0 ∧ wb.cell? ⟨n0, 2, none⟩ = some (.int .i64 m0) ∧ wb.cell? ⟨n0, 3, none⟩ = some t0) ∧ (wb.frozen? ⟨n0, 0, none⟩ = false ∧ wb.frozen? ⟨n0, 1, none⟩ = false ∧ wb.frozen? ⟨n0, 2, none⟩ = false ∧ wb.frozen? ⟨n0, 3, none⟩ = false)) ∧
    (((wb.alloc (.cells (axC x).toArray 63)).cell? ⟨n1, 0, none⟩ = some (.int .i64 s1) ∧ (wb.alloc (.cells (axC x).toArray 63)).cell? ⟨n1, 1, none⟩ = some p1 ∧ (wb.alloc (.cells (axC x).toArray 63)).cell? ⟨n1, 2, none⟩ = some (.int .i64 m1) ∧ (wb.alloc (.cells (axC x).toArray 63)).cell? ⟨n1, 3, none⟩ = some t1) ∧
      ((wb.alloc (.cells (axC x).toArray 63)).frozen? ⟨n1, 0, none⟩ = false ∧ (wb.alloc (.cells (axC x).toArray 63)).frozen? ⟨n1, 1, none⟩ = false ∧ (wb.alloc (.cells (axC x).toArray 63)).frozen? ⟨n1, 2, none⟩ = false ∧ (wb.alloc (.cells (axC x).toArray 63)).frozen? ⟨n1, 3, none⟩ = false)) ∧
    ((putP (wb.alloc (.cells (axC x).toArray 63)) n1 st (.slice none 0 0) 0 (.slice none 0 0)).cell? ⟨n1, 0, none⟩ = some (.int .i64 st) ∧ (putP (wb.alloc (.cells (axC x).toArray 63)) n1 st (.slice none 0 0) 0 (.slice none 0 0)).cell? ⟨n1, 1, none⟩ = some (.slice none 0 0) ∧ (putP (wb.alloc (.cells (axC x).toArray 63)) n1 st (.slice none 0 0) 0 (.slice none 0 0)).cell? ⟨n1, 2, none⟩ = some (.int .i64 0) ∧ (putP (wb.alloc (.cells (axC x).toArray 63)) n1 st (.slice none 0 0) 0 (.slice none 0 0)).cell? ⟨n1, 3, none⟩ = some (.slice none 0 0)) ∧
    Hid (StepS w (putP (wb.alloc (.cells (axC x).toArray 63)) n1 st (.slice none 0 0) 0 (.slice none 0 0)) base u v R (.returned (.tuple #[.agg #[.int .i64 st, .slice none 0 0, .int .i64 0, .slice none 0 0], .slice (some ⟨wb.heap.size, 0, none⟩) 1 1])) (st0 st, [x.a])) := by
  have hb2 := bal' wb (Obj.cells (axC x).toArray 63)
  have hx := ownX_one wb base x (Nat.le_trans hbase hb.size)
  have hL2 : LiOk (wb.alloc (Obj.cells (axC x).toArray 63)) base ((.slice none 0 0, []) :: (.slice none 0 0, []) :: (axLs [x] ++ R)) := by
    have : axLs [x] = axL x := by simp [axLs]
    rw [this]
    exact ((hL.below hb).below hb2).nilc.nilc
  obtain ⟨f, hf⟩ := close_step (s' := st) (m' := 0) (ps' := []) (ts' := []) ((hG.below hb).below hb2) ((h1.below hb).below hb2) hx hL2 hn [x.a] rfl
  exact ⟨cells4 (h0.below hb), cells4 ((h1.below hb).below hb2), f, hf⟩
/-- An action is told and the state is new: the action first. -/
theorem way_b {w wA wb : World} {base n1 : Nat} {u v p1 t1 : Value} {s1 m1 : Int} {R : List (Value × List Int)} {x : Ax} (hG : GrV u v w wA) (h1 : PbB wA n1 s1 p1 m1 t1) (hL : LiOk wA base (axL x ++ R)) (hbase : base ≤ wA.heap.size) (hn : w.heap.size ≤ n1) (st : Int) (hb : Below (wA.alloc (.cells (axC x).toArray 63)).heap.size (wA.alloc (.cells (axC x).toArray 63)) wb) :
    ((wb.cell? ⟨n1, 0, none⟩ = some (.int .i64 s1) ∧ wb.cell? ⟨n1, 1, none⟩ = some p1 ∧ wb.cell? ⟨n1, 2, none⟩ = some (.int .i64 m1) ∧ wb.cell? ⟨n1, 3, none⟩ = some t1) ∧ (wb.frozen? ⟨n1, 0, none⟩ = false ∧ wb.frozen? ⟨n1, 1, none⟩ = false ∧ wb.frozen? ⟨n1, 2, none⟩ = false ∧ wb.frozen? ⟨n1, 3, none⟩ = false)) ∧
    ((putP wb n1 st (.slice none 0 0) 0 (.slice none 0 0)).cell? ⟨n1, 0, none⟩ = some (.int .i64 st) ∧ (putP wb n1 st (.slice none 0 0) 0 (.slice none 0 0)).cell? ⟨n1, 1, none⟩ = some (.slice none 0 0) ∧ (putP wb n1 st (.slice none 0 0) 0 (.slice none 0 0)).cell? ⟨n1, 2, none⟩ = some (.int .i64 0) ∧ (putP wb n1 st (.slice none 0 0) 0 (.slice none 0 0)).cell? ⟨n1, 3, none⟩ = some (.slice none 0 0)) ∧
    Hid (StepS w (putP wb n1 st (.slice none 0 0) 0 (.slice none 0 0)) base u v R (.returned (.tuple #[.agg #[.int .i64 st, .slice none 0 0, .int .i64 0, .slice none 0 0], .slice (some ⟨wA.heap.size, 0, none⟩) 1 1])) (st0 st, [x.a])) := by
  have hb2 := bal' wA (Obj.cells (axC x).toArray 63)
  have hx := (ownX_one wA base x hbase).below hb
  have hL2 : LiOk wb base ((.slice none 0 0, []) :: (.slice none 0 0, []) :: (axLs [x] ++ R)) := by
    have : axLs [x] = axL x := by simp [axLs]
    rw [this]
    exact ((hL.below hb2).below hb).nilc.nilc
  obtain ⟨f, hf⟩ := close_step (s' := st) (m' := 0) (ps' := []) (ts' := []) ((hG.below hb2).below hb) ((h1.below hb2).below hb) hx hL2 hn [x.a] rfl
  exact ⟨cells4 ((h1.below hb2).below hb), f, hf⟩
/-- A state alone. -/
theorem way_s {w wb : World} {base n1 : Nat} {u v p1 t1 av : Value} {s1 m1 : Int} {R : List (Value × List Int)} (hG : GrV u v w wb) (h1 : PbB wb n1 s1 p1 m1 t1) (hX : OwnX wb base av []) (hL : LiOk wb base R) (hn : w.heap.size ≤ n1) (st : Int) :
    ((putP wb n1 st (.slice none 0 0) 0 (.slice none 0 0)).cell? ⟨n1, 0, none⟩ = some (.int .i64 st) ∧ (putP wb n1 st (.slice none 0 0) 0 (.slice none 0 0)).cell? ⟨n1, 1, none⟩ = some (.slice none 0 0) ∧ (putP wb n1 st (.slice none 0 0) 0 (.slice none 0 0)).cell? ⟨n1, 2, none⟩ = some (.int .i64 0) ∧ (putP wb n1 st (.slice none 0 0) 0 (.slice none 0 0)).cell? ⟨n1, 3, none⟩ = some (.slice none 0 0)) ∧
    Hid (StepS w (putP wb n1 st (.slice none 0 0) 0 (.slice none 0 0)) base u v R (.returned (.tuple #[.agg #[.int .i64 st, .slice none 0 0, .int .i64 0, .slice none 0 0], av])) (st0 st, [])) :=
  close_step (s' := st) (m' := 0) (ps' := []) (ts' := []) hG h1 hX hL.nilc.nilc hn [] rfl
set_option maxHeartbeats 4000000 in
set_option maxRecDepth 20000 in
theorem l6Escape_any (r : Int) (base : Nat) (u v : Value) (R : List (Value × List Int)) (w : World) (k : LiOk w base R) (hb : base ≤ w.heap.size) :
    Calls Tryd.prog 65 #[.int .i64 r] w fun e w' => StepS w w' base u v R e (escM r) := by
  obtain ⟨T, hT⟩ : ∃ T, Hid (escM r = T) := ⟨_, rfl⟩
  rw [hT.out]
  have hb0 := bal' w (Obj.cells #[.int .i64 0, .slice none 0 0, .int .i64 0, .slice none 0 0] 26)
  have hb1 := bal' (w.alloc (Obj.cells #[.int .i64 0, .slice none 0 0, .int .i64 0, .slice none 0 0] 26)) (Obj.cells #[] 63)
  have hbb := hb0.trans (hb1.mono hb0.size)
  have hs1 : (w.alloc (Obj.cells #[.int .i64 0, .slice none 0 0, .int .i64 0, .slice none 0 0] 26)).heap.size = w.heap.size + 1 := by simp
  have hR := (PbB.new w 0 0 (.slice none 0 0) (.slice none 0 0)).below hb1
  have hX := ownX_lit (w.alloc (Obj.cells #[.int .i64 0, .slice none 0 0, .int .i64 0, .slice none 0 0] 26)) base (by rw [hs1]; omega)
  rw [hs1] at hX
  have hG : GrV u v w ((w.alloc (Obj.cells #[.int .i64 0, .slice none 0 0, .int .i64 0, .slice none 0 0] 26)).alloc (Obj.cells #[] 63)) := GrV.of_below hbb
  have hL := k.below hbb
  have hbase : base ≤ ((w.alloc (Obj.cells #[.int .i64 0, .slice none 0 0, .int .i64 0, .slice none 0 0] 26)).alloc (Obj.cells #[] 63)).heap.size := by simp; omega
  have hst := fun s W => l6State_any s W
  have hs := fun wb (h : Below ((w.alloc (Obj.cells #[.int .i64 0, .slice none 0 0, .int .i64 0, .slice none 0 0] 26)).alloc (Obj.cells #[] 63)).heap.size ((w.alloc (Obj.cells #[.int .i64 0, .slice none 0 0, .int .i64 0, .slice none 0 0] 26)).alloc (Obj.cells #[] 63)) wb) (st : Int) => (show Hid _ from And.intro (cells4 (hR.below h)) (way_s (hG.below h) (hR.below h) (hX.below h) (hL.below h) (Nat.le_refl _) st))
  have ha := fun wb st h => (show Hid _ from way_a (x := axP 3 r) hG hR hR hL.nilc.nilc hbase (Nat.le_refl _) st (wb := wb) h)
  clear hb0 hb1 hbb hs1 hR hX hG hL hbase k
  by_cases h91 : r = 91
  · have hv : Hid (T = (st0 3, [])) := by show _ = _; rw [← hT.out, h91]; rfl
    have i1 : (r == 91) = true := by simp [h91]
    clear ha h91
    go_enter Tryd.func65, Tryd.ntmps65
    go_wp2_with fail
    refine (hst 3 _).mono ?_
    rintro e wb ⟨rfl, hb'⟩
    obtain ⟨⟨⟨d0, d1, d2, d3⟩, ⟨y0, y1, y2, y3⟩⟩, ⟨f0, f1, f2, f3⟩, hfin⟩ := (hs wb hb' 3).out
    simp only [putP] at f0 f1 f2 f3 hfin
    clear hs hb'
    go_wp2
    exact bodyPost_ret (v := .tuple #[.agg #[.int .i64 3, .slice none 0 0, .int .i64 0, .slice none 0 0], .slice (some ⟨w.heap.size + 1, 0, none⟩) 0 0]) (by simp [results, Tryd.results65, go_sem, f0, f1, f2, f3]) rfl (by rw [hv.out]; exact hfin.out)
  · have i1 : (r == 91) = false := by simp [h91]
    by_cases h93 : r = 93
    · have hv : Hid (T = (st0 4, [])) := by show _ = _; rw [← hT.out, h93]; rfl
      have i2 : (r == 93) = true := by simp [h93]
      clear ha h91 h93
      go_enter Tryd.func65, Tryd.ntmps65
      go_wp2_with fail
      refine (hst 4 _).mono ?_
      rintro e wb ⟨rfl, hb'⟩
      obtain ⟨⟨⟨d0, d1, d2, d3⟩, ⟨y0, y1, y2, y3⟩⟩, ⟨f0, f1, f2, f3⟩, hfin⟩ := (hs wb hb' 4).out
      simp only [putP] at f0 f1 f2 f3 hfin
      clear hs hb'
      go_wp2
      exact bodyPost_ret (v := .tuple #[.agg #[.int .i64 4, .slice none 0 0, .int .i64 0, .slice none 0 0], .slice (some ⟨w.heap.size + 1, 0, none⟩) 0 0]) (by simp [results, Tryd.results65, go_sem, f0, f1, f2, f3]) rfl (by rw [hv.out]; exact hfin.out)
    · have i2 : (r == 93) = false := by simp [h93]
      have hin := fun W => l1In_any r 48 126 W
      by_cases h48 : 48 ≤ r ∧ r ≤ 126
      · have hv : Hid (T = (st0 1, [acR 3 r])) := by
          show _ = _
          rw [← hT.out]
          unfold escM
          rw [if_neg h91, if_neg h93, if_pos h48]
        rw [decide_eq_true h48] at hin
        clear hs h91 h93 h48
        go_enter Tryd.func65, Tryd.ntmps65
        go_wp2_with fail
        refine (hin _).mono ?_
        rintro e wc ⟨rfl, hw⟩
        subst hw
        go_wp2_with fail
        refine (hst 1 _).mono ?_
        rintro e wb ⟨rfl, hb'⟩
        obtain ⟨_, ⟨⟨d0, d1, d2, d3⟩, ⟨y0, y1, y2, y3⟩⟩, ⟨f0, f1, f2, f3⟩, hfin⟩ := (ha wb 1 hb').out
        simp only [putP, axC, axP, acR] at d0 d1 d2 d3 y0 y1 y2 y3 f0 f1 f2 f3 hfin
        clear ha hb' hin
        go_wp2
        exact bodyPost_ret (v := .tuple #[.agg #[.int .i64 1, .slice none 0 0, .int .i64 0, .slice none 0 0], .slice (some ⟨wb.heap.size, 0, none⟩) 1 1]) (by simp [results, Tryd.results65, go_sem, f0, f1, f2, f3]) rfl (by rw [hv.out]; exact hfin.out)
      · have hv : Hid (T = (st0 1, [])) := by
          show _ = _
          rw [← hT.out]
          unfold escM
          rw [if_neg h91, if_neg h93, if_neg h48]
        rw [decide_eq_false h48] at hin
        clear ha h91 h93 h48
        go_enter Tryd.func65, Tryd.ntmps65
        go_wp2_with fail
        refine (hin _).mono ?_
        rintro e wc ⟨rfl, hw⟩
        subst hw
        go_wp2_with fail
        refine (hst 1 _).mono ?_
        rintro e wb ⟨rfl, hb'⟩
        obtain ⟨⟨⟨d0, d1, d2, d3⟩, ⟨y0, y1, y2, y3⟩⟩, ⟨f0, f1, f2, f3⟩, hfin⟩ := (hs wb hb' 1).out
        simp only [putP] at f0 f1 f2 f3 hfin
        clear hs hb' hin
        go_wp2
        exact bodyPost_ret (v := .tuple #[.agg #[.int .i64 1, .slice none 0 0, .int .i64 0, .slice none 0 0], .slice (some ⟨w.heap.size + 1, 0, none⟩) 0 0]) (by simp [results, Tryd.results65, go_sem, f0, f1, f2, f3]) rfl (by rw [hv.out]; exact hfin.out)
end Go.Proofs.YtkcekacnebhcgaaDoor
namespace Go.Proofs.YtkcekacnebhcgaaDoor
open Go.ChangeShapes Go.WideShapes Go.ChangeAt Go.RowKit
theorem min_any (a b : Int) (w : World) :
    Calls Tryd.prog 73 #[.int .i64 a, .int .i64 b] w fun e w' => e = .returned (.int .i64 (min a b)) ∧ w' = w := by
  by_cases h : a < b
  · have hV : Hid (min a b = a) := by show _ = _; omega
    go_enter Tryd.func73, Tryd.ntmps73
    go_wp2
    go_ret
    exact ⟨by rw [hV.out]; rfl, rfl⟩
  · have hV : Hid (min a b = b) := by show _ = _; omega
    go_enter Tryd.func73, Tryd.ntmps73
    go_wp2
    go_ret
    exact ⟨by rw [hV.out]; rfl, rfl⟩
theorem wrapid {x : Int} (h1 : -9223372036854775808 ≤ x) (h2 : x ≤ 9223372036854775807) : IntKind.i64.wrap x = x := by
  simp [IntKind.wrap_i64]; omega
/-- A step that goes on from a world that the first one grew to. -/
theorem GrV.new2 {u v : Value} {w : World} (o1 o2 o3 : Obj) : GrV u v w (((w.alloc o1).alloc o2).alloc o3) := by
  have h1 := bal' w o1
  have h2 := h1.trans ((bal' (w.alloc o1) o2).mono h1.size)
  exact GrV.of_below (h2.trans ((bal' ((w.alloc o1).alloc o2) o3).mono h2.size))
theorem append_g {w : World} {ops : Array Oper} {rest : List Oper} {o : Oper} {ac : Act} {Q : Exit → Act → World → Prop} (hgd : o.guard = none) (s x : Operand)
    (ho : o.op = .call { callee := .builtin .append, args := #[s, x], argTypes := #[24, 24] })
    (a : Nat) (ha : w.heap.size = a) (base : Nat) (v : Value) (xs : List Int) (L : List (Value × List Int)) (y : Int) (hs : ac.eval s = v) (k : LiOk w base ((v, xs) :: L)) (hb : base ≤ w.heap.size) (hl : xs.length < 2000000)
    (hx : ac.eval x = .slice (some ⟨a, 0, none⟩) 1 1)
    (h : ∀ g cap w', LiOk w' base ((.slice (some ⟨g, 0, none⟩) (xs.length + 1) cap, xs ++ [y]) :: L) → w.grownBy w' v.ownBlock → (v.ownBlock = some g ∨ w.heap.size ≤ g) → wpList Tryd.prog ops Q rest (ac.put o.dst (.slice (some ⟨g, 0, none⟩) (xs.length + 1) cap)) w') :
    wpList Tryd.prog ops Q (o :: rest) ac (w.alloc (.cells #[.int .i64 y] 2)) := by
  subst ha
  exact append_i hgd s x ho base v xs L y hs k hb hl hx h
/-- What stays while a list is taken in. -/
def InvL (w V : World) (base : Nat) (u v : Value) (s m : Int) (tv : Value) (ts : List Int) (R : List (Value × List Int)) (av pv : Value) (qs : List Int) : Prop :=
  PbB V w.heap.size s pv m tv ∧ PbB V (w.heap.size + 1) 0 (.slice none 0 0) 0 (.slice none 0 0) ∧ OwnX V base av [] ∧ LiOk V base ((pv, qs) :: (tv, ts) :: R) ∧ GrV u v w V ∧ base ≤ V.heap.size ∧ ∀ g, pv.ownBlock = some g → u.ownBlock = some g ∨ w.heap.size ≤ g
/-- A cell of the box changes, or of a block that may. -/
theorem InvL.box {w V V' : World} {base : Nat} {u v tv av pv pv' : Value} {s s' m m' : Int} {ts qs qs' : List Int} {R : List (Value × List Int)} (h : InvL w V base u v s m tv ts R av pv qs) (hg : V.grownBy V' (some w.heap.size)) (hB : PbB V' w.heap.size s' pv' m' tv) (hL : LiOk V base ((pv', qs') :: (tv, ts) :: R)) (hat : ∀ g, pv'.ownBlock = some g → u.ownBlock = some g ∨ w.heap.size ≤ g) : InvL w V' base u v s' m' tv ts R av pv' qs' := by
  obtain ⟨h0, h1, hX, _, hG, hb, _⟩ := h
  exact ⟨hB, h1.kept hg (by simp), hX.kept hg (.inr (hX.not_block h0 (by decide))), hL.kept hg (fun p hp => .inr ((hL.1 p hp).not_block h0 (by decide))), hG.grown hg (fun g e => by cases e; exact .inr (.inr (Nat.le_refl _))), Nat.le_trans hb hg.size, hat⟩
theorem InvL.app {w V W : World} {base : Nat} {u v tv av pv : Value} {s m : Int} {ts qs qs' : List Int} {R : List (Value × List Int)} {g cap n : Nat} (h : InvL w V base u v s m tv ts R av pv qs) (k : LiOk W base ((.slice (some ⟨g, 0, none⟩) n cap, qs') :: (tv, ts) :: R)) (hg : V.grownBy W pv.ownBlock) (hat : pv.ownBlock = some g ∨ V.heap.size ≤ g) :
    ((W.cell? ⟨w.heap.size, 0, none⟩ = some (.int .i64 s) ∧ W.cell? ⟨w.heap.size, 1, none⟩ = some pv ∧ W.cell? ⟨w.heap.size, 2, none⟩ = some (.int .i64 m) ∧ W.cell? ⟨w.heap.size, 3, none⟩ = some tv) ∧ (W.frozen? ⟨w.heap.size, 0, none⟩ = false ∧ W.frozen? ⟨w.heap.size, 1, none⟩ = false ∧ W.frozen? ⟨w.heap.size, 2, none⟩ = false ∧ W.frozen? ⟨w.heap.size, 3, none⟩ = false)) ∧
    InvL w (W.setCell ⟨w.heap.size, 1, none⟩ (.slice (some ⟨g, 0, none⟩) n cap)) base u v s m tv ts R av (.slice (some ⟨g, 0, none⟩) n cap) qs' := by
  obtain ⟨h0, h1, hX, hL, hG, hb, ho⟩ := h
  have h0' := h0.kept hg (hL.head.not_block h0 (by decide))
  have hat2 : ∀ g', (Value.slice (some ⟨g, 0, none⟩) n cap).ownBlock = some g' → u.ownBlock = some g' ∨ w.heap.size ≤ g' := fun g' e => by
    have : g = g' := by simpa [Value.ownBlock] using e
    subst this
    rcases hat with h | h
    · exact ho g h
    · right; have := hG.2.2.2.1; omega
  have hI : InvL w W base u v s m tv ts R av pv qs' → True := fun _ => trivial
  have hG' := hG.grown hg (fun g' e => by rcases ho g' e with h | h; exact .inl h; exact .inr (.inr h))
  have hX' := hX.kept hg (hX.ap hL.head).symm.ne
  have h1' := h1.kept hg (hL.head.not_block h1 (by decide))
  have hg2 := setCell_gr W w.heap.size 1 (.slice (some ⟨g, 0, none⟩) n cap)
  exact ⟨cells4 h0', h0'.set 1 _, h1'.kept hg2 (by simp), hX'.kept hg2 (.inr (hX'.not_block h0' (by decide))), k.kept hg2 (fun p hp => .inr ((k.1 p hp).not_block h0' (by decide))), hG'.grown hg2 (fun g e => by cases e; exact .inr (.inr (Nat.le_refl _))), by have := hg.size; simp; omega, hat2⟩
theorem StepS.drew {w w' : World} {base : Nat} {u v : Value} {R : List (Value × List Int)} {e : Ending} {T : Pa × List Ac} (h : StepS w w' base u v R e T) : StepS w w'.drew base u v R e T := by
  obtain ⟨pv, tv, av, X, h1, h2, h3, h4, h5⟩ := h
  exact ⟨pv, tv, av, X, h1, h2, h3.below (bdr _), h4.below (bdr _), h5.below (bdr _)⟩
/-- The parser itself is the answer, nothing is told. -/
theorem InvL.fin {w V : World} {base : Nat} {u v tv av pv : Value} {s m : Int} {ts qs : List Int} {R : List (Value × List Int)} (h : InvL w V base u v s m tv ts R av pv qs) :
    ((V.cell? ⟨w.heap.size, 0, none⟩ = some (.int .i64 s) ∧ V.cell? ⟨w.heap.size, 1, none⟩ = some pv ∧ V.cell? ⟨w.heap.size, 2, none⟩ = some (.int .i64 m) ∧ V.cell? ⟨w.heap.size, 3, none⟩ = some tv) ∧ (V.frozen? ⟨w.heap.size, 0, none⟩ = false ∧ V.frozen? ⟨w.heap.size, 1, none⟩ = false ∧ V.frozen? ⟨w.heap.size, 2, none⟩ = false ∧ V.frozen? ⟨w.heap.size, 3, none⟩ = false)) ∧
    ((V.cell? ⟨w.heap.size + 1, 0, none⟩ = some (.int .i64 0) ∧ V.cell? ⟨w.heap.size + 1, 1, none⟩ = some (.slice none 0 0) ∧ V.cell? ⟨w.heap.size + 1, 2, none⟩ = some (.int .i64 0) ∧ V.cell? ⟨w.heap.size + 1, 3, none⟩ = some (.slice none 0 0)) ∧ (V.frozen? ⟨w.heap.size + 1, 0, none⟩ = false ∧ V.frozen? ⟨w.heap.size + 1, 1, none⟩ = false ∧ V.frozen? ⟨w.heap.size + 1, 2, none⟩ = false ∧ V.frozen? ⟨w.heap.size + 1, 3, none⟩ = false)) ∧
    ((putP V (w.heap.size + 1) s pv m tv).cell? ⟨w.heap.size + 1, 0, none⟩ = some (.int .i64 s) ∧ (putP V (w.heap.size + 1) s pv m tv).cell? ⟨w.heap.size + 1, 1, none⟩ = some pv ∧ (putP V (w.heap.size + 1) s pv m tv).cell? ⟨w.heap.size + 1, 2, none⟩ = some (.int .i64 m) ∧ (putP V (w.heap.size + 1) s pv m tv).cell? ⟨w.heap.size + 1, 3, none⟩ = some tv) ∧
    Hid (StepS w (putP V (w.heap.size + 1) s pv m tv) base u v R (.returned (.tuple #[.agg #[.int .i64 s, pv, .int .i64 m, tv], av])) (⟨s, qs, m, ts⟩, [])) := by
  obtain ⟨h0, h1, hX, hL, hG, hb, ho⟩ := h
  obtain ⟨f, hf⟩ := close_step (s' := s) (m' := m) (ps' := qs) (ts' := ts) hG h1 hX hL (by omega) [] rfl
  exact ⟨cells4 h0, cells4 h1, f, hf⟩
theorem InvL.elem {w V : World} {base : Nat} {u v tv av : Value} {s m : Int} {ts qs : List Int} {R : List (Value × List Int)} {g q n c : Nat} (h : InvL w V base u v s m tv ts R av (.slice (some ⟨g, 0, none⟩) n c) qs) (hq : qs.length = n) (hn : n = q + 1) :
    V.cell? ⟨g, q, none⟩ = some (.int .i64 (qs.getD q 0)) ∧ V.frozen? ⟨g, q, none⟩ = false ∧ ∀ y, InvL w (V.setCell ⟨g, q, none⟩ (.int .i64 y)) base u v s m tv ts R av (.slice (some ⟨g, 0, none⟩) n c) (qs.set q y) := by
  subst hn
  obtain ⟨h0, h1, hX, hL, hG, hb, ho⟩ := h
  have hown : V.ownsRow base 2 1 (.slice (some ⟨g, 0, none⟩) (q + 1) c) (q + 1) (qs.map (Value.int .i64)) := by
    have := hL.head
    unfold OwnI at this
    simp only [hq] at this
    exact this
  refine ⟨?_, World.ownsRow.frozenAt hown q, fun y => ?_⟩
  · rw [World.ownsRow.cellAt hown q (by omega)]
    simp [List.getD, show q < qs.length by omega]
  · obtain ⟨hs1, hs2⟩ := World.ownsRow.stored hown q (.int .i64 y)
    have hn0 : some g ≠ some w.heap.size := fun e => hL.head.not_block h0 (by decide) (by simpa [Value.ownBlock] using e)
    have hn1 : some g ≠ some (w.heap.size + 1) := fun e => hL.head.not_block h1 (by decide) (by simpa [Value.ownBlock] using e)
    refine ⟨h0.kept hs2 hn0, h1.kept hs2 hn1, hX.kept hs2 (hX.ap hL.head).symm.ne, hL.grow (v' := .slice (some ⟨g, 0, none⟩) (q + 1) c) (ys := qs.set q y) hs2 ?_ (fun g' e => .inl e), hG.grown hs2 (fun g' e => by cases e; rcases ho g rfl with h | h; exact .inl h; exact .inr (.inr h)), Nat.le_trans hb hs2.size, ho⟩
    unfold OwnI
    rw [List.length_set, hq, List.map_set]
    exact hs1
theorem putP_alloc (w : World) (o : Obj) (n : Nat) (s : Int) (pv : Value) (m : Int) (tv : Value) (h : n < w.heap.size) : putP (w.alloc o) n s pv m tv = (putP w n s pv m tv).alloc o := by
  unfold putP
  rw [World.setCell_alloc_past _ _ _ _ h, World.setCell_alloc_past _ _ _ _ (by simpa using h), World.setCell_alloc_past _ _ _ _ (by simpa using h), World.setCell_alloc_past _ _ _ _ (by simpa using h)]
theorem way_a2 {w wA wb : World} {base n0 n1 : Nat} {u v p0 t0 p1 t1 : Value} {s0 m0 s1 m1 : Int} {R : List (Value × List Int)} {x : Ax} (hG : GrV u v w wA) (h0 : PbB wA n0 s0 p0 m0 t0) (h1 : PbB wA n1 s1 p1 m1 t1) (hL : LiOk wA base (axL x ++ R)) (hbase : base ≤ wA.heap.size) (hn : w.heap.size ≤ n1) (st : Int) (hb : Below wA.heap.size wA wb) :
    (((putP wb n1 st (.slice none 0 0) 0 (.slice none 0 0)).alloc (.cells (axC x).toArray 63)).cell? ⟨n1, 0, none⟩ = some (.int .i64 st) ∧ ((putP wb n1 st (.slice none 0 0) 0 (.slice none 0 0)).alloc (.cells (axC x).toArray 63)).cell? ⟨n1, 1, none⟩ = some (.slice none 0 0) ∧ ((putP wb n1 st (.slice none 0 0) 0 (.slice none 0 0)).alloc (.cells (axC x).toArray 63)).cell? ⟨n1, 2, none⟩ = some (.int .i64 0) ∧ ((putP wb n1 st (.slice none 0 0) 0 (.slice none 0 0)).alloc (.cells (axC x).toArray 63)).cell? ⟨n1, 3, none⟩ = some (.slice none 0 0)) ∧
    Hid (StepS w ((putP wb n1 st (.slice none 0 0) 0 (.slice none 0 0)).alloc (.cells (axC x).toArray 63)) base u v R (.returned (.tuple #[.agg #[.int .i64 st, .slice none 0 0, .int .i64 0, .slice none 0 0], .slice (some ⟨wb.heap.size, 0, none⟩) 1 1])) (st0 st, [x.a])) := by
  obtain ⟨_, _, f, hf⟩ := way_a hG h0 h1 hL hbase hn st hb
  have hlt := (h1.below hb).lt
  rw [putP_alloc _ _ _ _ _ _ _ hlt] at f hf
  exact ⟨f, hf⟩
end Go.Proofs.YtkcekacnebhcgaaDoor
namespace Go.Proofs.YtkcekacnebhcgaaDoor
open Go.ChangeShapes Go.WideShapes Go.ChangeAt Go.RowKit
set_option maxHeartbeats 40000000 in
set_option maxRecDepth 20000 in
theorem l6List_any (s : Int) (ps : List Int) (m : Int) (ts : List Int) (pv tv : Value) (r : Int) (base : Nat) (R : List (Value × List Int)) (w : World) (k : LiOk w base ((pv, ps) :: (tv, ts) :: R)) (hb : base ≤ w.heap.size) (hp : ps.length ≤ 16) (hpb : ∀ x ∈ ps, 0 ≤ x ∧ x ≤ 9999) (hs3 : s = 3) (hts : ts = []) :
    Calls Tryd.prog 66 #[paV ⟨s, ps, m, ts⟩ pv tv, .int .i64 r] w fun e w' => StepS w w' base pv tv R e (listM ⟨s, ps, m, ts⟩ r) := by
  obtain ⟨T, hT⟩ : ∃ T, Hid (listM ⟨s, ps, m, ts⟩ r = T) := ⟨_, rfl⟩
  rw [hT.out]
  obtain ⟨pa, pn, pc, hpv⟩ := k.head.shape
  obtain ⟨pa', pc', hpv'⟩ := k.head.sl.shp
  obtain ⟨ta, tn, tc, htv⟩ := k.tail.head.shape
  simp only at hpv hpv' htv
  rw [hpv] at hpv'
  simp only [Value.slice.injEq] at hpv'
  obtain ⟨rfl, rfl, rfl⟩ := hpv'
  obtain ⟨pn, hpn⟩ : ∃ n, n = ps.length := ⟨_, rfl⟩
  rw [← hpn] at hpv
  replace hpn : Hid (pn = ps.length) := hpn
  subst hpv; subst htv
  unfold paV
  have hG := GrV.new2 (u := .slice pa pn pc) (v := .slice ta tn tc) (w := w) (Obj.cells #[.int .i64 s, .slice pa pn pc, .int .i64 m, .slice ta tn tc] 26) (Obj.cells #[.int .i64 0, .slice none 0 0, .int .i64 0, .slice none 0 0] 26) (Obj.cells #[] 63)
  have hb1 := bal' w (Obj.cells #[.int .i64 s, .slice pa pn pc, .int .i64 m, .slice ta tn tc] 26)
  have hb2 := bal' (w.alloc (Obj.cells #[.int .i64 s, .slice pa pn pc, .int .i64 m, .slice ta tn tc] 26)) (Obj.cells #[.int .i64 0, .slice none 0 0, .int .i64 0, .slice none 0 0] 26)
  have hb3 := bal' ((w.alloc (Obj.cells #[.int .i64 s, .slice pa pn pc, .int .i64 m, .slice ta tn tc] 26)).alloc (Obj.cells #[.int .i64 0, .slice none 0 0, .int .i64 0, .slice none 0 0] 26)) (Obj.cells #[] 63)
  have e1 : (w.alloc (Obj.cells #[.int .i64 s, .slice pa pn pc, .int .i64 m, .slice ta tn tc] 26)).heap.size = w.heap.size + 1 := by simp
  have e2 : ((w.alloc (Obj.cells #[.int .i64 s, .slice pa pn pc, .int .i64 m, .slice ta tn tc] 26)).alloc (Obj.cells #[.int .i64 0, .slice none 0 0, .int .i64 0, .slice none 0 0] 26)).heap.size = w.heap.size + 2 := by simp
  have h0 := ((PbB.new w s m (.slice pa pn pc) (.slice ta tn tc)).below hb2).below hb3
  have h1 := (PbB.new (w.alloc (Obj.cells #[.int .i64 s, .slice pa pn pc, .int .i64 m, .slice ta tn tc] 26)) 0 0 (.slice none 0 0) (.slice none 0 0)).below hb3
  rw [e1] at h1
  have hX := ownX_lit ((w.alloc (Obj.cells #[.int .i64 s, .slice pa pn pc, .int .i64 m, .slice ta tn tc] 26)).alloc (Obj.cells #[.int .i64 0, .slice none 0 0, .int .i64 0, .slice none 0 0] 26)) base (by rw [e2]; omega)
  rw [e2] at hX
  have hL := ((k.below hb1).below hb2).below hb3
  obtain ⟨wA, hwA⟩ : ∃ wA, wA = ((w.alloc (Obj.cells #[.int .i64 s, .slice pa pn pc, .int .i64 m, .slice ta tn tc] 26)).alloc (Obj.cells #[.int .i64 0, .slice none 0 0, .int .i64 0, .slice none 0 0] 26)).alloc (Obj.cells #[] 63) := ⟨_, rfl⟩
  have eA : wA.heap.size = w.heap.size + 3 := by rw [hwA]; simp
  rw [← hwA] at hG h0 h1 hX hL
  have hbase : base ≤ wA.heap.size := by rw [eA]; omega
  have hn1 : w.heap.size ≤ w.heap.size + 1 := by omega
  clear hb1 hb2 hb3 e1 e2 k
  subst hs3; subst hts
  have hI : InvL w wA base (.slice pa pn pc) (.slice ta tn tc) 3 m (.slice ta tn tc) [] R (.slice (some ⟨w.heap.size + 2, 0, none⟩) 0 0) (.slice pa pn pc) ps := ⟨h0, h1, hX, hL, hG, hbase, fun g e => .inl e⟩
  clear h0 h1 hX hL hG hbase eA
  subst hwA
  go_enter Tryd.func66, Tryd.ntmps66
  refine wp_seq_k (fun K0 hK0 => ?_)
  have hH0 := (show Hid _ from hK0)
  clear hK0
  go_wp2
  refine hH0.out _ _ ?_
  clear hH0 K0
  refine wp_seq_k (fun K hK => ?_)
  have hH := (show Hid _ from hK)
  clear hK
  have hcut : Hid (∀ W, InvL w W base (.slice pa pn pc) (.slice ta tn tc) 3 m (.slice ta tn tc) [] R (.slice (some ⟨w.heap.size + 2, 0, none⟩) 0 0) (.slice pa pn pc) ps → K { tmps := #[.agg #[.int .i64 3, .slice pa pn pc, .int .i64 m, .slice ta tn tc], .int .i64 r, .pointer (some ⟨w.heap.size, 0, none⟩), undef, .pointer (some ⟨w.heap.size + 1, 0, none⟩), .slice none 0 0, .slice (some ⟨w.heap.size + 2, 0, none⟩) 0 0, undef, .slice (some ⟨w.heap.size + 2, 0, none⟩) 0 0, undef, undef, undef, undef, undef, undef, undef, undef, undef, undef, undef, undef, undef, undef, undef, undef, undef, undef, undef, undef, undef, undef, undef, undef, undef, undef, undef, undef, undef, undef, undef, undef, undef, undef, undef, undef, undef, undef, undef, undef, undef, undef, undef, undef, undef, undef, undef, undef, undef, undef, undef, undef, undef, undef, undef, undef, undef, undef, undef, undef, undef, undef, undef, undef, undef, undef, undef, undef, undef, undef, undef, undef, undef, undef, undef, undef, undef, undef, undef, undef], defers := [] } W) := by
    show ∀ W, _ → _
    clear hI
    intro W hI
    refine hH.out _ _ ?_
    clear hH
    have hin1 := fun W => l1In_any r 48 57 W
    have hin2 := fun W => l1In_any r 64 126 W
    by_cases h63 : r = 63 ∧ pn = 0 ∧ m = 0
    · obtain ⟨rfl, rfl, rfl⟩ := h63
      have hps : ps = [] := List.eq_nil_of_length_eq_zero hpn.out.symm
      subst hps
      have hv : Hid (T = (⟨3, [], 63, []⟩, [])) := by show _ = _; rw [← hT.out]; rfl
      obtain ⟨b0, b1, b2, b3⟩ := hI.1.cells
      obtain ⟨z0, z1, z2, z3⟩ := hI.1.frozen
      have hI2 : InvL w (W.setCell ⟨w.heap.size, 2, none⟩ (.int .i64 63)) base (.slice pa 0 pc) (.slice ta tn tc) 3 63 (.slice ta tn tc) [] R (.slice (some ⟨w.heap.size + 2, 0, none⟩) 0 0) (.slice pa 0 pc) [] := hI.box (setCell_gr _ _ 2 _) (hI.1.set 2 _) hI.2.2.2.1 (fun g e => .inl e)
      obtain ⟨⟨⟨c0, c1, c2, c3⟩, _⟩, ⟨⟨d0, d1, d2, d3⟩, ⟨y0, y1, y2, y3⟩⟩, ⟨f0, f1, f2, f3⟩, hfin⟩ := hI2.fin
      simp only [putP] at f0 f1 f2 f3 hfin
      clear hI hI2 hT hpn hin1 hin2
      go_wp2
      exact bodyPost_ret (v := .tuple #[.agg #[.int .i64 3, .slice pa 0 pc, .int .i64 63, .slice ta tn tc], .slice (some ⟨w.heap.size + 2, 0, none⟩) 0 0]) (by simp [results, Tryd.results66, go_sem, f0, f1, f2, f3]) rfl (by rw [hv.out]; exact hfin.out)
    · by_cases hd : 48 ≤ r ∧ r ≤ 57
      · rw [decide_eq_true hd] at hin1
        have i63 : (r == 63) = false := by simp; omega
        have hv : Hid (T = (⟨3, digitP ps (r - 48), m, []⟩, [])) := by
          show _ = _
          rw [← hT.out]
          unfold listM
          rw [if_pos (show takes ps m r = true from decide_eq_true (.inr (.inl hd)))]
          unfold takenP
          rw [if_neg (by omega), if_pos hd]
        obtain ⟨hd0, hd1⟩ := hd
        clear hT hin2 h63
        by_cases hp0 : pn = 0
        · subst hp0
          have hps : ps = [] := List.eq_nil_of_length_eq_zero hpn.out.symm
          subst hps
          obtain ⟨y, hy⟩ : ∃ y, Hid (y = min 9999 (r - 48)) := ⟨_, rfl⟩
          have hv2 : Hid (T = (⟨3, [y], m, []⟩, [])) := by
            show _ = _
            rw [hv.out, hy.out]
            have e : digitP [] (r - 48) = [min 9999 (10 * 0 + (r - 48))] := rfl
            rw [e, show (10 : Int) * 0 + (r - 48) = r - 48 by omega]
          have hv := hv2
          have hmin0 := fun W => min_any 9999 (r - 48) W
          rw [← hy.out] at hmin0
          have hmin : ∀ W, Calls Tryd.prog 73 #[.int .i64 9999, .int .i64 (IntKind.i64.wrap (IntKind.i64.wrap (IntKind.i64.wrap 0 + r) - 48))] W fun e w' => e = .returned (.int .i64 y) ∧ w' = W := fun W => by
            have e : IntKind.i64.wrap (IntKind.i64.wrap (IntKind.i64.wrap 0 + r) - 48) = r - 48 := by simp [IntKind.wrap_i64]; omega
            rw [e]; exact hmin0 W
          clear hmin0
          obtain ⟨c0, c1, c2, c3⟩ := hI.1.cells
          have kL := hI.2.2.2.1
          have kb := hI.2.2.2.2.2.1
          clear hpn hy
          go_wp2_with (first | (go_at_call 46; refine (hin1 _).mono ?_; rintro e wi ⟨rfl, rfl⟩) | (refine append_i (by rfl) _ _ (by rfl) base _ _ _ 0 (by rfl) kL kb (by simp) (by rfl) ?_))
          intro g cap w3 k3 hg3 hat3
          obtain ⟨⟨⟨x0, x1, x2, x3⟩, ⟨z0, z1, z2, z3⟩⟩, hI3⟩ := hI.app (n := 1) k3 hg3 hat3
          obtain ⟨hE1, hE2, hE3⟩ := hI3.elem (q := 0) rfl rfl
          have hI4 := hE3 y
          have hE1b : (w3.setCell ⟨w.heap.size, 1, none⟩ (.slice (some ⟨g, 0, none⟩) 1 cap)).cell? ⟨g, 0, none⟩ = some (.int .i64 0) := hE1
          have hQ := (show Hid _ from And.intro (hI3.1.cells) (And.intro hE1b hE2))
          clear hI hI3 hE1 hE3 k3 hg3 hat3 kL kb hv2 hin1 c0 c1 c2 c3 hE1b hE2
          go_wp2
          clear x0 x1 x2 x3 z0 z1 z2 z3
          generalize w3.setCell ⟨w.heap.size, 1, none⟩ (.slice (some ⟨g, 0, none⟩) 1 cap) = V3 at *
          obtain ⟨⟨q0, q1, q2, q3⟩, hE1b, hE2⟩ := hQ.out
          clear hQ
          go_region_with (go_at_call 73; refine (hmin _).mono ?_; rintro e wm ⟨rfl, rfl⟩)
          all_goals
            clear q0 q1 q2 q3 hE1b hE2
            obtain ⟨⟨⟨c0, c1, c2, c3⟩, _⟩, ⟨⟨d0, d1, d2, d3⟩, ⟨y0, y1, y2, y3⟩⟩, ⟨f0, f1, f2, f3⟩, hfin⟩ := hI4.fin
            simp only [putP] at f0 f1 f2 f3 hfin
            clear hI4
            go_wp2
            exact bodyPost_ret (v := .tuple #[.agg #[.int .i64 3, .slice (some ⟨g, 0, none⟩) 1 cap, .int .i64 m, .slice ta tn tc], .slice (some ⟨w.heap.size + 2, 0, none⟩) 0 0]) (by simp [results, Tryd.results66, go_sem, f0, f1, f2, f3]) rfl (by rw [hv.out]; exact hfin.out.drew)
        · obtain ⟨q, hq1'⟩ : ∃ q, pn = q + 1 := ⟨pn - 1, by omega⟩
          have hq : ps.length = pn := hpn.out.symm
          obtain ⟨g, cap', hpv2, _, _⟩ := (show W.ownsRow base 2 1 (.slice pa pn pc) pn (ps.map (Value.int .i64)) from by
            have := hI.2.2.2.1.head
            unfold OwnI at this
            simp only [hq] at this
            exact this).form (by omega)
          simp only [Value.slice.injEq] at hpv2
          obtain ⟨rfl, _, rfl⟩ := hpv2
          obtain ⟨hE1, hE2, hE3⟩ := hI.elem hq hq1'
          have hx := getD_bd hpb q
          obtain ⟨x, hxx⟩ : ∃ x, Hid (x = ps.getD q 0) := ⟨_, rfl⟩
          obtain ⟨y, hy⟩ : ∃ y, Hid (y = min 9999 (10 * x + r - 48)) := ⟨_, rfl⟩
          rw [← hxx.out] at hE1 hx
          have hv2 : Hid (T = (⟨3, ps.set q y, m, []⟩, [])) := by
            show _ = _
            rw [hv.out, hy.out, hxx.out]
            unfold digitP one0
            rw [if_neg (by rw [hq]; exact hp0), hq, show pn - 1 = q by omega, show (10 : Int) * ps.getD q 0 + (r - 48) = 10 * ps.getD q 0 + r - 48 by omega]
          have hv := hv2
          have hmin := fun W => min_any 9999 (10 * x + r - 48) W
          rw [← hy.out] at hmin
          obtain ⟨b0, b1, b2, b3⟩ := hI.1.cells
          have hI4 := hE3 y
          have i0 : ((pn : Int) == 0) = false := by simp; omega
          have hq15 : (q : Int) ≤ 15 := by rw [hq] at hp; omega
          have hq0 : (0 : Int) ≤ (q : Int) := by omega
          have hq1 : (q : Int) < (pn : Int) := by omega
          have hw1 : IntKind.i64.wrap ((pn : Int) - 1) = (q : Int) := by rw [show (pn : Int) - 1 = q by omega]; exact wrapid (by omega) (by rw [hq] at hp; omega)
          obtain ⟨hx0, hx1⟩ := hx
          have hw2 : IntKind.i64.wrap (10 * x) = 10 * x := wrapid (by omega) (by omega)
          have hw3 : IntKind.i64.wrap (10 * x + r) = 10 * x + r := wrapid (by omega) (by omega)
          have hw4 : IntKind.i64.wrap (10 * x + r - 48) = 10 * x + r - 48 := wrapid (by omega) (by omega)
          clear hI hE3 hv2 hy hxx hpn hq hpb hp hp0 hq1'
          go_wp2_with (go_at_call 46; refine (hin1 _).mono ?_; rintro e wi ⟨rfl, rfl⟩)
          go_region_with (go_at_call 73; refine (hmin _).mono ?_; rintro e wm ⟨rfl, rfl⟩)
          all_goals
            clear b0 b1 b2 b3 hE1 hE2
            obtain ⟨⟨⟨c0, c1, c2, c3⟩, _⟩, ⟨⟨d0, d1, d2, d3⟩, ⟨y0, y1, y2, y3⟩⟩, ⟨f0, f1, f2, f3⟩, hfin⟩ := hI4.fin
            simp only [putP] at f0 f1 f2 f3 hfin
            clear hI4
            go_wp2
            exact bodyPost_ret (v := .tuple #[.agg #[.int .i64 3, .slice (some ⟨g, 0, none⟩) pn pc, .int .i64 m, .slice ta tn tc], .slice (some ⟨w.heap.size + 2, 0, none⟩) 0 0]) (by simp [results, Tryd.results66, go_sem, f0, f1, f2, f3]) rfl (by rw [hv.out]; exact hfin.out.drew)
      · rw [decide_eq_false hd] at hin1
        by_cases h59 : r = 59
        · have hv : Hid (T = (⟨3, semiP ps, m, []⟩, [])) := by
            show _ = _
            rw [← hT.out]
            unfold listM
            rw [if_pos (show takes ps m r = true from decide_eq_true (.inr (.inr h59)))]
            unfold takenP
            rw [if_neg (by omega), if_neg hd]
          have i59 : (r == 59) = true := by simp [h59]
          have i63 : (r == 63) = false := by simp; omega
          clear hT hin2 h63 hd h59
          by_cases hp0 : pn = 0
          · subst hp0
            have hps : ps = [] := List.eq_nil_of_length_eq_zero hpn.out.symm
            subst hps
            have hv2 : Hid (T = (⟨3, [0, 0], m, []⟩, [])) := hv
            have hv := hv2
            obtain ⟨c0, c1, c2, c3⟩ := hI.1.cells
            have kL := hI.2.2.2.1
            have kb := hI.2.2.2.2.2.1
            clear hpn
            go_wp2_with (first | (go_at_call 46; refine (hin1 _).mono ?_; rintro e wi ⟨rfl, rfl⟩) | (refine append_i (by rfl) _ _ (by rfl) base _ _ _ 0 (by rfl) kL kb (by simp) (by rfl) ?_))
            intro g cap w3 k3 hg3 hat3
            obtain ⟨⟨⟨x0, x1, x2, x3⟩, ⟨z0, z1, z2, z3⟩⟩, hI3⟩ := hI.app (n := 1) k3 hg3 hat3
            obtain ⟨q0, q1, q2, q3⟩ := hI3.1.cells
            have kL3 := hI3.2.2.2.1
            have kb3 := hI3.2.2.2.2.2.1
            clear hI k3 hg3 hat3 kL kb hv2 hin1 c0 c1 c2 c3
            have hq := (show Hid _ from And.intro q1 (And.intro kL3 kb3))
            have ha3 : (w3.setCell ⟨w.heap.size, 1, none⟩ (.slice (some ⟨g, 0, none⟩) 1 cap)).heap.size = w3.heap.size := by simp
            go_wp2_with (refine append_g (by rfl) _ _ (by rfl) _ ha3 base _ _ _ 0 (by rfl) kL3 kb3 (by simp) (by rfl) ?_)
            intro g4 cap4 w4 k4 hg4 hat4
            obtain ⟨⟨⟨j0, j1, j2, j3⟩, ⟨e0, e1, e2, e3⟩⟩, hI4⟩ := hI3.app (n := 2) k4 hg4 (by rw [ha3]; exact hat4)
            obtain ⟨⟨⟨c0, c1, c2, c3⟩, _⟩, ⟨⟨d0, d1, d2, d3⟩, ⟨y0, y1, y2, y3⟩⟩, ⟨f0, f1, f2, f3⟩, hfin⟩ := hI4.fin
            simp only [putP] at f0 f1 f2 f3 hfin
            clear hI3 hI4 k4 hg4 hat4 kL3 kb3 q0 q1 q2 q3 x0 x1 x2 x3 z0 z1 z2 z3 hq
            go_wp2
            exact bodyPost_ret (v := .tuple #[.agg #[.int .i64 3, .slice (some ⟨g4, 0, none⟩) 2 cap4, .int .i64 m, .slice ta tn tc], .slice (some ⟨w.heap.size + 2, 0, none⟩) 0 0]) (by simp [results, Tryd.results66, go_sem, f0, f1, f2, f3]) rfl (by rw [hv.out]; exact hfin.out)
          · have hq : ps.length = pn := hpn.out.symm
            have i0 : ((pn : Int) == 0) = false := by simp; omega
            have hone : one0 ps = ps := by unfold one0; rw [if_neg (by rw [hq]; exact hp0)]
            obtain ⟨c0, c1, c2, c3⟩ := hI.1.cells
            by_cases h16 : pn < 16
            · have h16i : (pn : Int) < 16 := by omega
              have hv2 : Hid (T = (⟨3, ps ++ [0], m, []⟩, [])) := by show _ = _; rw [hv.out]; unfold semiP; rw [hone, if_pos (by rw [hq]; exact h16)]
              have hv := hv2
              have kL := hI.2.2.2.1
              have kb := hI.2.2.2.2.2.1
              have hpn2 := (show Hid _ from hq)
              have hlen : ps.length < 2000000 := by omega
              clear hpn hv2 hone hp0 hq
              go_wp2_with (first | (go_at_call 46; refine (hin1 _).mono ?_; rintro e wi ⟨rfl, rfl⟩) | (refine append_i (by rfl) _ _ (by rfl) base _ _ _ 0 (by rfl) kL kb hlen (by rfl) ?_))
              intro g cap w3 k3 hg3 hat3
              rw [hpn2.out] at k3 ⊢
              obtain ⟨⟨⟨x0, x1, x2, x3⟩, ⟨z0, z1, z2, z3⟩⟩, hI3⟩ := hI.app k3 hg3 hat3
              obtain ⟨⟨⟨v0, v1, v2, v3⟩, _⟩, ⟨⟨d0, d1, d2, d3⟩, ⟨y0, y1, y2, y3⟩⟩, ⟨f0, f1, f2, f3⟩, hfin⟩ := hI3.fin
              simp only [putP] at f0 f1 f2 f3 hfin
              clear hI hI3 k3 hg3 hat3 kL kb hin1 c0 c1 c2 c3
              go_wp2
              exact bodyPost_ret (v := .tuple #[.agg #[.int .i64 3, .slice (some ⟨g, 0, none⟩) (pn + 1) cap, .int .i64 m, .slice ta tn tc], .slice (some ⟨w.heap.size + 2, 0, none⟩) 0 0]) (by simp [results, Tryd.results66, go_sem, f0, f1, f2, f3]) rfl (by rw [hv.out]; exact hfin.out)
            · have h16i : ¬ (pn : Int) < 16 := by omega
              have hv2 : Hid (T = (⟨3, ps, m, []⟩, [])) := by show _ = _; rw [hv.out]; unfold semiP; rw [hone, if_neg (by rw [hq]; exact h16)]
              have hv := hv2
              clear hpn hv2 hone hp0 hq c0 c1 c2 c3
              obtain ⟨⟨⟨c0, c1, c2, c3⟩, _⟩, ⟨⟨d0, d1, d2, d3⟩, ⟨y0, y1, y2, y3⟩⟩, ⟨f0, f1, f2, f3⟩, hfin⟩ := hI.fin
              simp only [putP] at f0 f1 f2 f3 hfin
              clear hI
              go_wp2_with (go_at_call 46; refine (hin1 _).mono ?_; rintro e wi ⟨rfl, rfl⟩)
              exact bodyPost_ret (v := .tuple #[.agg #[.int .i64 3, .slice pa pn pc, .int .i64 m, .slice ta tn tc], .slice (some ⟨w.heap.size + 2, 0, none⟩) 0 0]) (by simp [results, Tryd.results66, go_sem, f0, f1, f2, f3]) rfl (by rw [hv.out]; exact hfin.out)
        · have htk : ¬ takes ps m r = true := by
            intro h
            have := of_decide_eq_true h
            rw [← hpn.out] at this
            omega
          have i59 : (r == 59) = false := by simp [h59]
          have hst := fun W => l6State_any 1 W
          have hg63b : r = 63 → ¬ (pn = 0 ∧ m = 0) := fun e h => h63 ⟨e, h⟩
          by_cases h64 : 64 ≤ r ∧ r ≤ 126
          · have i63 : (r == 63) = false := by simp; omega
            have hv : Hid (T = (st0 1, [⟨4, r, ps, m, []⟩])) := by
              show _ = _
              rw [← hT.out]
              unfold listM
              rw [if_neg htk, if_pos h64]
            rw [decide_eq_true h64] at hin2
            have hL' : LiOk W base (axL ⟨⟨4, r, ps, m, []⟩, .slice pa pn pc, .slice none 0 0⟩ ++ R) := (hI.2.2.2.1.perm (List.Perm.swap _ _ _)).tail.nilc.perm (List.Perm.swap _ _ _)
            have hwa := fun wb h => (show Hid _ from way_a2 (wb := wb) hI.2.2.2.2.1 hI.1 hI.2.1 hL' hI.2.2.2.2.2.1 hn1 1 h)
            have hwb := fun wb h => (show Hid _ from way_b (wb := wb) hI.2.2.2.2.1 hI.2.1 hL' hI.2.2.2.2.2.1 hn1 1 h)
            obtain ⟨c0, c1, c2, c3⟩ := hI.1.cells
            have hst2 := hst (W.alloc (.cells #[.int .i64 4, .int .i64 r, .slice pa pn pc, .int .i64 m, .slice none 0 0] 63)).drew
            have hSS : ∀ V, Below W.heap.size W V → V.cell? ⟨w.heap.size, 1, none⟩ = some (.slice pa pn pc) ∧ V.cell? ⟨w.heap.size, 2, none⟩ = some (.int .i64 m) := fun V h => ⟨(hI.1.below h).cells.2.1, (hI.1.below h).cells.2.2.1⟩
            have hSS2 : ∀ V, Below W.heap.size W V → (V.alloc (.cells #[.int .i64 4, .int .i64 r, .slice pa pn pc, .int .i64 m, .slice none 0 0] 63)).cell? ⟨w.heap.size, 1, none⟩ = some (.slice pa pn pc) ∧ (V.alloc (.cells #[.int .i64 4, .int .i64 r, .slice pa pn pc, .int .i64 m, .slice none 0 0] 63)).cell? ⟨w.heap.size, 2, none⟩ = some (.int .i64 m) := fun V h => hSS _ (h.trans ((bal' V _).mono h.size))
            have hSS3 : ∀ V, Below W.heap.size W V → ((((((V).setCell ⟨w.heap.size + 1, 0, none⟩ (.int .i64 1)).setCell ⟨w.heap.size + 1, 1, none⟩ (.slice none 0 0)).setCell ⟨w.heap.size + 1, 2, none⟩ (.int .i64 0)).setCell ⟨w.heap.size + 1, 3, none⟩ (.slice none 0 0)).alloc (.cells #[.int .i64 4, .int .i64 r, .slice pa pn pc, .int .i64 m, .slice none 0 0] 63)).cell? ⟨w.heap.size, 1, none⟩ = some (.slice pa pn pc) ∧ ((((((V).setCell ⟨w.heap.size + 1, 0, none⟩ (.int .i64 1)).setCell ⟨w.heap.size + 1, 1, none⟩ (.slice none 0 0)).setCell ⟨w.heap.size + 1, 2, none⟩ (.int .i64 0)).setCell ⟨w.heap.size + 1, 3, none⟩ (.slice none 0 0)).alloc (.cells #[.int .i64 4, .int .i64 r, .slice pa pn pc, .int .i64 m, .slice none 0 0] 63)).cell? ⟨w.heap.size, 2, none⟩ = some (.int .i64 m) := fun V h => by
              have hq := ((hI.1.below h).kept (putP_grown V (w.heap.size + 1) 1 (.slice none 0 0) 0 (.slice none 0 0)) (by simp)).below (bal' _ (.cells #[.int .i64 4, .int .i64 r, .slice pa pn pc, .int .i64 m, .slice none 0 0] 63))
              exact ⟨hq.cells.2.1, hq.cells.2.2.1⟩
            have hSS4 : ∀ V, Below W.heap.size W V → (((((V).setCell ⟨w.heap.size + 1, 0, none⟩ (.int .i64 1)).setCell ⟨w.heap.size + 1, 1, none⟩ (.slice none 0 0)).setCell ⟨w.heap.size + 1, 2, none⟩ (.int .i64 0)).setCell ⟨w.heap.size + 1, 3, none⟩ (.slice none 0 0)).cell? ⟨w.heap.size, 1, none⟩ = some (.slice pa pn pc) ∧ (((((V).setCell ⟨w.heap.size + 1, 0, none⟩ (.int .i64 1)).setCell ⟨w.heap.size + 1, 1, none⟩ (.slice none 0 0)).setCell ⟨w.heap.size + 1, 2, none⟩ (.int .i64 0)).setCell ⟨w.heap.size + 1, 3, none⟩ (.slice none 0 0)).cell? ⟨w.heap.size, 2, none⟩ = some (.int .i64 m) := fun V h => by
              have hq := (hI.1.below h).kept (putP_grown V (w.heap.size + 1) 1 (.slice none 0 0) 0 (.slice none 0 0)) (by simp)
              exact ⟨hq.cells.2.1, hq.cells.2.2.1⟩
            have hTT : ∀ V, Below (W.alloc (.cells #[.int .i64 4, .int .i64 r, .slice pa pn pc, .int .i64 m, .slice none 0 0] 63)).heap.size (W.alloc (.cells #[.int .i64 4, .int .i64 r, .slice pa pn pc, .int .i64 m, .slice none 0 0] 63)) V → V.cell? ⟨w.heap.size, 1, none⟩ = some (.slice pa pn pc) ∧ V.cell? ⟨w.heap.size, 2, none⟩ = some (.int .i64 m) := fun V h => ⟨((hI.1.below (bal' W _)).below h).cells.2.1, ((hI.1.below (bal' W _)).below h).cells.2.2.1⟩
            have hTT2 : ∀ V, Below (W.alloc (.cells #[.int .i64 4, .int .i64 r, .slice pa pn pc, .int .i64 m, .slice none 0 0] 63)).heap.size (W.alloc (.cells #[.int .i64 4, .int .i64 r, .slice pa pn pc, .int .i64 m, .slice none 0 0] 63)) V → (((((V).setCell ⟨w.heap.size + 1, 0, none⟩ (.int .i64 1)).setCell ⟨w.heap.size + 1, 1, none⟩ (.slice none 0 0)).setCell ⟨w.heap.size + 1, 2, none⟩ (.int .i64 0)).setCell ⟨w.heap.size + 1, 3, none⟩ (.slice none 0 0)).cell? ⟨w.heap.size, 1, none⟩ = some (.slice pa pn pc) ∧ (((((V).setCell ⟨w.heap.size + 1, 0, none⟩ (.int .i64 1)).setCell ⟨w.heap.size + 1, 1, none⟩ (.slice none 0 0)).setCell ⟨w.heap.size + 1, 2, none⟩ (.int .i64 0)).setCell ⟨w.heap.size + 1, 3, none⟩ (.slice none 0 0)).cell? ⟨w.heap.size, 2, none⟩ = some (.int .i64 m) := fun V h => by
              have hq := ((hI.1.below (bal' W (.cells #[.int .i64 4, .int .i64 r, .slice pa pn pc, .int .i64 m, .slice none 0 0] 63))).below h).kept (putP_grown V (w.heap.size + 1) 1 (.slice none 0 0) 0 (.slice none 0 0)) (by simp)
              exact ⟨hq.cells.2.1, hq.cells.2.2.1⟩
            have hN1 : ∀ V, Below W.heap.size W V → ((V.cell? ⟨w.heap.size + 1, 0, none⟩ = some (.int .i64 0) ∧ V.cell? ⟨w.heap.size + 1, 1, none⟩ = some (.slice none 0 0) ∧ V.cell? ⟨w.heap.size + 1, 2, none⟩ = some (.int .i64 0) ∧ V.cell? ⟨w.heap.size + 1, 3, none⟩ = some (.slice none 0 0)) ∧ (V.frozen? ⟨w.heap.size + 1, 0, none⟩ = false ∧ V.frozen? ⟨w.heap.size + 1, 1, none⟩ = false ∧ V.frozen? ⟨w.heap.size + 1, 2, none⟩ = false ∧ V.frozen? ⟨w.heap.size + 1, 3, none⟩ = false)) ∧ w.heap.size + 1 < V.heap.size ∧ True := fun V h => by
              have hq := hI.2.1.below h
              have hlt := hq.lt
              exact ⟨cells4 hq, hlt, trivial⟩
            have hPP : ∀ V, Below W.heap.size W V → (V.drew.cell? ⟨w.heap.size, 1, none⟩ = some (.slice pa pn pc) ∧ V.drew.cell? ⟨w.heap.size, 2, none⟩ = some (.int .i64 m)) ∧ ((V.alloc (.cells #[.int .i64 4, .int .i64 r, .slice pa pn pc, .int .i64 m, .slice none 0 0] 63)).drew.cell? ⟨w.heap.size, 1, none⟩ = some (.slice pa pn pc) ∧ (V.alloc (.cells #[.int .i64 4, .int .i64 r, .slice pa pn pc, .int .i64 m, .slice none 0 0] 63)).drew.cell? ⟨w.heap.size, 2, none⟩ = some (.int .i64 m)) := fun V h => ⟨hSS V h, hSS2 V h⟩
            clear hT h63 hd h59 htk hg63b h64 hI hL' hpn
            go_wp2_with fail
            refine (hin1 _).mono ?_
            rintro e wi ⟨rfl, hw⟩
            subst hw
            go_wp2_with fail
            refine (hin2 _).mono ?_
            rintro e wi2 ⟨rfl, hw⟩
            subst hw
            go_wp2
            obtain ⟨hP1, hP2⟩ := hPP wi2 (Below.refl _ _)
            have hP3 := And.intro hP1.1 hP1.2
            clear hSS2 hSS3 hSS4 hTT hTT2 hPP hP1 hP2
            go_region_with (first
              | (go_at_call 64; refine (hst wi2.drew).mono ?_; rintro e wb ⟨rfl, hb'⟩; have hF := (hwa wb ((bdr wi2).trans hb')).out; have hbz := (bdr wi2).trans hb'; obtain ⟨k1, k2⟩ := hSS wb hbz; obtain ⟨⟨⟨v0, v1, v2, v3⟩, ⟨t0, t1, t2, t3⟩⟩, hlt1, _⟩ := hN1 wb hbz; have hF2 := (show Hid _ from hF); clear hF)
              | (go_at_call 64; refine hst2.mono ?_; rintro e wb ⟨rfl, hb'⟩; have hZ := (hwb wb ((bdr _).trans hb')).out; have hbz := (bdr (wi2.alloc (.cells #[.int .i64 4, .int .i64 r, .slice pa pn pc, .int .i64 m, .slice none 0 0] 63))).trans hb'; obtain ⟨⟨⟨d0, d1, d2, d3⟩, ⟨y0, y1, y2, y3⟩⟩, hF⟩ := hZ; have hF2 := (show Hid _ from hF); clear hF))
            all_goals
              obtain ⟨⟨f0, f1, f2, f3⟩, hfin⟩ := hF2.out
              simp only [putP, axC] at f0 f1 f2 f3 hfin
              clear hF2
              go_wp2
              first
                | exact bodyPost_ret (v := .tuple #[.agg #[.int .i64 1, .slice none 0 0, .int .i64 0, .slice none 0 0], .slice (some ⟨wb.heap.size, 0, none⟩) 1 1]) (by simp [results, Tryd.results66, go_sem, f0, f1, f2, f3]) rfl (by rw [hv.out]; exact hfin.out)
                | exact bodyPost_ret (v := .tuple #[.agg #[.int .i64 1, .slice none 0 0, .int .i64 0, .slice none 0 0], .slice (some ⟨wi2.heap.size, 0, none⟩) 1 1]) (by simp [results, Tryd.results66, go_sem, f0, f1, f2, f3]) rfl (by rw [hv.out]; exact hfin.out)
          · rw [decide_eq_false h64] at hin2
            have hv : Hid (T = (st0 1, [])) := by
              show _ = _
              rw [← hT.out]
              unfold listM
              rw [if_neg htk, if_neg h64]
            have hws := fun wb (h : Below W.heap.size W wb) => (show Hid _ from And.intro (cells4 (hI.2.1.below h)) (way_s (hI.2.2.2.2.1.below h) (hI.2.1.below h) (hI.2.2.1.below h) (hI.2.2.2.1.tail.tail.below h) hn1 1))
            obtain ⟨c0, c1, c2, c3⟩ := hI.1.cells
            have hpn2 := hpn
            clear hT hd h59 htk h64 hI hpn hpn2
            have fin : ∀ (_ : True), True := fun _ => trivial
            clear fin
            by_cases e63 : r = 63
            · by_cases ep : pn = 0
              · have im : (m == 0) = false := by simp; exact fun h => hg63b e63 ⟨ep, h⟩
                have ipn : ((pn : Int) == 0) = true := by simp [ep]
                have i63 : (r == 63) = true := by simp [e63]
                clear h63 hg63b e63 ep
                go_wp2_with fail
                refine (hin1 _).mono ?_
                rintro e wi ⟨rfl, hw⟩
                subst hw
                go_wp2_with fail
                refine (hin2 _).mono ?_
                rintro e wi2 ⟨rfl, hw⟩
                subst hw
                go_wp2_with (go_at_call 64; refine (hst _).mono ?_; rintro e wb ⟨rfl, hb'⟩; obtain ⟨⟨⟨d0, d1, d2, d3⟩, ⟨y0, y1, y2, y3⟩⟩, ⟨f0, f1, f2, f3⟩, hfin⟩ := (hws wb hb').out; simp only [putP] at f0 f1 f2 f3 hfin)
                exact bodyPost_ret (v := .tuple #[.agg #[.int .i64 1, .slice none 0 0, .int .i64 0, .slice none 0 0], .slice (some ⟨w.heap.size + 2, 0, none⟩) 0 0]) (by simp [results, Tryd.results66, go_sem, f0, f1, f2, f3]) rfl (by rw [hv.out]; exact hfin.out)
              · have ipn : ((pn : Int) == 0) = false := by simp; exact fun h => ep (by omega)
                have i63 : (r == 63) = true := by simp [e63]
                clear h63 hg63b e63 ep
                go_wp2_with fail
                refine (hin1 _).mono ?_
                rintro e wi ⟨rfl, hw⟩
                subst hw
                go_wp2_with fail
                refine (hin2 _).mono ?_
                rintro e wi2 ⟨rfl, hw⟩
                subst hw
                go_wp2_with (go_at_call 64; refine (hst _).mono ?_; rintro e wb ⟨rfl, hb'⟩; obtain ⟨⟨⟨d0, d1, d2, d3⟩, ⟨y0, y1, y2, y3⟩⟩, ⟨f0, f1, f2, f3⟩, hfin⟩ := (hws wb hb').out; simp only [putP] at f0 f1 f2 f3 hfin)
                exact bodyPost_ret (v := .tuple #[.agg #[.int .i64 1, .slice none 0 0, .int .i64 0, .slice none 0 0], .slice (some ⟨w.heap.size + 2, 0, none⟩) 0 0]) (by simp [results, Tryd.results66, go_sem, f0, f1, f2, f3]) rfl (by rw [hv.out]; exact hfin.out)
            · have i63 : (r == 63) = false := by simp [e63]
              clear h63 hg63b e63
              go_wp2_with fail
              refine (hin1 _).mono ?_
              rintro e wi ⟨rfl, hw⟩
              subst hw
              go_wp2_with fail
              refine (hin2 _).mono ?_
              rintro e wi2 ⟨rfl, hw⟩
              subst hw
              go_wp2_with (go_at_call 64; refine (hst _).mono ?_; rintro e wb ⟨rfl, hb'⟩; obtain ⟨⟨⟨d0, d1, d2, d3⟩, ⟨y0, y1, y2, y3⟩⟩, ⟨f0, f1, f2, f3⟩, hfin⟩ := (hws wb hb').out; simp only [putP] at f0 f1 f2 f3 hfin)
              exact bodyPost_ret (v := .tuple #[.agg #[.int .i64 1, .slice none 0 0, .int .i64 0, .slice none 0 0], .slice (some ⟨w.heap.size + 2, 0, none⟩) 0 0]) (by simp [results, Tryd.results66, go_sem, f0, f1, f2, f3]) rfl (by rw [hv.out]; exact hfin.out)
  clear hH
  go_wp2
  exact hcut.out _ hI
end Go.Proofs.YtkcekacnebhcgaaDoor
