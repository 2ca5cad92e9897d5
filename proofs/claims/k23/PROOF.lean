import PyProof.Rows.All
import Wide.All
import OpenK.AllK
import Wide.FinOn
import HandS.ForMost
import HandS.IsInst
import HandS.Walk
import HandS.SortRule
import HandS.DictTup
import HandS.ListItems
import HandS.Conv
import HandS.More
import KE.GoesEnum
import KE.GoesMore
import PySem.Challenge.RW_saylore_k23_written_and_read
import HandS.Dict
import HandS.Star
import KE.KDictPairs
import HandS.TupAny
set_option Elab.async false
set_option linter.all false
set_option maxRecDepth 100000
set_option maxHeartbeats 16000000
namespace Say
open PySem PySem.Spec PyProof.Rows L2
/-! ### the text by places -/
def topS (i : Nat) : Stmt := PySem.Challenge.pw_saylore_k23_written_and_read.main.body.getD i (.Pass ⟨0, 0, 0, 0⟩)
/-! ### texts as lists of signs -/
abbrev T (l : List Nat) : Str := ⟨l.toArray⟩
theorem T_list (z : Str) : T z.cps.toList = z := by
  cases z; rfl
@[simp] theorem T_cps (l : List Nat) : (T l).cps.toList = l := rfl
theorem T_len (l : List Nat) : (T l).length = l.length := by
  show l.toArray.size = l.length
  simp
theorem T_inj {a b : List Nat} (h : T a = T b) : a = b := by
  have := congrArg (fun z : Str => z.cps.toList) h
  exact this
/-! ### heaps -/
/-- all that was tracked is as it was, but at r -/
def Stp (r : Addr) (H H' : Hp) : Prop := ∀ b o, H b = some o → b ≠ r → H' b = some o
theorem Stp.refl (r : Addr) (H : Hp) : Stp r H H := fun _ _ h _ => h
theorem Stp.trans {r : Addr} {H H1 H2 : Hp} (a : Stp r H H1) (b : Stp r H1 H2) : Stp r H H2 := fun c o h n => b c o (a c o h n) n
theorem Stp.of {r : Addr} {H H' : Hp} (e : Same H H') : Stp r H H' := fun b o h _ => e b o h
theorem Stp.seq {K : PySem.W.Frag} {r a : Addr} {H H' : Hp} {xs : List V} (e : Stp r H H') (n : a ≠ r) (h : SqL K H a xs) : SqL K H' a xs := by
  rcases h with (h | ⟨o, h⟩) | h
  · exact .inl (.inl (e _ _ h n))
  · exact .inl (.inr ⟨o, e _ _ h n⟩)
  · exact .inr h
theorem same_new {H : Hp} {p : Addr} (h : H p = none) (o : HO) : Same H (upd H p o) := fun b u q => by rw [upd_ne (ne_of_none q h)]; exact q
theorem stp_at {r : Addr} {H : Hp} (o : HO) : Stp r H (upd H r o) := fun b u q n => by rw [upd_ne n]; exact q
/-- tuples stay (frozen ones: as they were made) -/
def KT (H H' : Hp) : Prop := (∀ t xs, H t = some (.tup xs) → H' t = some (.tup xs)) ∧ ∀ t o xs, H t = some (.frz o (.tup xs)) → H' t = some (.frz o (.tup xs))
theorem KT.by {H H' : Hp} (f : ∀ t u, H t = some u → ((∃ xs, u = .tup xs) ∨ ∃ o xs, u = .frz o (.tup xs)) → H' t = some u) : KT H H' := ⟨fun t xs h => f t _ h (.inl ⟨xs, rfl⟩), fun t o xs h => f t _ h (.inr ⟨o, xs, rfl⟩)⟩
theorem KT.refl (H : Hp) : KT H H := ⟨fun _ _ h => h, fun _ _ _ h => h⟩
theorem KT.trans {H H1 H2 : Hp} (a : KT H H1) (b : KT H1 H2) : KT H H2 := ⟨fun t xs h => b.1 t xs (a.1 t xs h), fun t o xs h => b.2 t o xs (a.2 t o xs h)⟩
theorem KT.of {H H' : Hp} (e : Same H H') : KT H H' := ⟨fun t xs h => e t _ h, fun t o xs h => e t _ h⟩
/-- the row that is drawn from: the script at a -/
structure RowAt (K : PySem.W.Frag) (H : Hp) (r a : Addr) (ns : List Int) : Prop where
  row : ∃ i c m : Int, H r = some (.lst [.ref a, .int i, .int c, .int m]) ∧ 0 ≤ i ∧ 0 ≤ m ∧ m < 2147483647
  scr : SqL K H a (ns.map V.int)
  le : ns.length ≤ 63
theorem ints_ne {ns : List Int} {a : Addr} {l : List V} : ns.map V.int ≠ V.ref a :: l := by
  cases ns with
  | nil => intro z; cases z
  | cons x r => intro z; cases z
theorem Stp.scr {K : PySem.W.Frag} {r a : Addr} {H H' : Hp} {ns : List Int} {l : List V} (e : Stp r H H') (hr : H r = some (.lst (.ref a :: l))) (h : SqL K H a (ns.map V.int)) : SqL K H' a (ns.map V.int) := by
  rcases h with (h | ⟨o, h⟩) | h
  · refine .inl (.inl (e _ _ h fun z => ?_))
    subst z
    rw [hr] at h
    exact ints_ne (HO.lst.inj (Option.some.inj h)).symm
  · refine .inl (.inr ⟨o, e _ _ h fun z => ?_⟩)
    subst z
    rw [hr] at h
    cases h
  · exact .inr h
theorem RowAt.stp {K : PySem.W.Frag} {H H' : Hp} {r a : Addr} {ns : List Int} (R : RowAt K H r a ns) (e : Same H H') : RowAt K H' r a ns := by
  obtain ⟨⟨i, c, m, h, q⟩, s, l⟩ := R
  exact ⟨⟨i, c, m, e _ _ h, q⟩, e.seq s, l⟩
theorem RowAt.kt {K : PySem.W.Frag} {H H' : Hp} {r a : Addr} {ns : List Int} (R : RowAt K H r a ns) (e : Stp r H H') : KT H H' := KT.by fun t u h hu => by
  obtain ⟨⟨i, c, m, q, _⟩, _⟩ := R
  exact e t _ h (ne_of h q (by rcases hu with ⟨_, rfl⟩ | ⟨_, _, rfl⟩ <;> (intro z; cases z)))
theorem RowAt.put {K : PySem.W.Frag} {H : Hp} {r a : Addr} {ns : List Int} (R : RowAt K H r a ns) {i c m : Int} (h0 : 0 ≤ i) (h1 : 0 ≤ m) (h2 : m < 2147483647) : RowAt K (upd H r (.lst [.ref a, .int i, .int c, .int m])) r a ns := by
  obtain ⟨⟨i', c', m', q, _⟩, s, l⟩ := R
  exact ⟨⟨i, c, m, upd_same, h0, h1, h2⟩, (stp_at _).scr q s, l⟩
theorem small {n : Nat} (h : n ≤ 16000000) : n ≤ sizeLine := Nat.le_trans h (by decide)
theorem smallM {n : Nat} (h : n ≤ 16000000) : n < sizeLine := Nat.lt_of_le_of_lt h (by decide)
/-- law's promise -/
def spLaw (K : PySem.W.Frag) : Sp := fun vs H Q _ => ∃ (a : Addr) (ns : List Int), vs = [.ref a] ∧ SqL K H a (ns.map V.int) ∧ ns.length ≤ 63 ∧ ∀ H', Q (.bl true) H'
/-- _law_taken -/
def spTaken (K : PySem.W.Frag) : Sp := fun vs H Q _ => ∃ (r a : Addr) (ns : List Int) (n : Int), vs = [.ref r, .int n] ∧ RowAt K H r a ns ∧ 0 < n ∧ n < 1000 ∧
  ∀ (k : Int) (H' : Hp), 0 ≤ k → k < n → Stp r H H' → RowAt K H' r a ns → Q (.int k) H'
end Say
namespace Say
open PySem PySem.Spec PyProof.Rows L2
theorem T_app (a b : List Nat) : T a ++ T b = T (a ++ b) := TL.ext_tl (by rw [TL.tl_append])
theorem hash_eq : ("#" : Str) = T [35] := by decide +kernel
theorem nil_eq : ("" : Str) = T [] := by decide +kernel
theorem joinL_nil : ∀ ls : List (List Nat), TL.joinL [] ls = ls.flatten
  | [] => rfl
  | [p] => by simp [TL.joinL]
  | p :: q :: r => by
    show p ++ ([] ++ TL.joinL [] (q :: r)) = _
    rw [joinL_nil (q :: r)]
    simp
theorem join_nil (ls : List (List Nat)) : Txt.join (T []) (ls.map T) = T ls.flatten := by
  refine TL.ext_tl ?_
  rw [TL.join_eq, TL.tl_join]
  show TL.joinL [] ((ls.map T).map TL.tl) = ls.flatten
  rw [List.map_map, ← joinL_nil]
  congr 1
  exact List.map_id' ls
theorem map_single : ∀ l : List Nat, (l.map fun c => [c]).flatten = l
  | [] => rfl
  | c :: r => by
    show [c] ++ (r.map fun c => [c]).flatten = c :: r
    rw [map_single r]; rfl
/-- the row's own list -/
def RowIn (H : Hp) (r a : Addr) : Prop := ∃ i c m : Int, H r = some (.lst [.ref a, .int i, .int c, .int m]) ∧ 0 ≤ i ∧ 0 ≤ m ∧ m < 2147483647
theorem RowAt.in {K : PySem.W.Frag} {H : Hp} {r a : Addr} {ns : List Int} (R : RowAt K H r a ns) : RowIn H r a := R.row
theorem RowAt.of {K : PySem.W.Frag} {H H' : Hp} {r a : Addr} {ns : List Int} (R : RowAt K H r a ns) (e : Stp r H H') (w : RowIn H' r a) : RowAt K H' r a ns := by
  obtain ⟨⟨i, c, m, q, _⟩, s, l⟩ := R
  exact ⟨w, e.scr q s, l⟩
theorem RowIn.upd {H : Hp} {r a D : Addr} {o : HO} (w : RowIn H r a) (n : r ≠ D) : RowIn (upd H D o) r a := by
  obtain ⟨i, c, m, q, b⟩ := w
  exact ⟨i, c, m, by rw [upd_ne n]; exact q, b⟩
theorem RowAt.nw {K : PySem.W.Frag} {H : Hp} {r a D : Addr} {ns : List Int} (R : RowAt K H r a ns) (h : H D = none) : r ≠ D := by
  obtain ⟨⟨i, c, m, q, _⟩, s, l⟩ := R
  exact ne_of_none q h
theorem Stp.put {r D : Addr} {H H' : Hp} (e : Stp r H H') (h : H D = none) (o : HO) : Stp r H (upd H' D o) := fun b u q n => by
  rw [upd_ne (ne_of_none q h)]
  exact e b u q n
theorem Stp.one {r D : Addr} {H H' : Hp} {o : HO} (e : Stp r H H') (h : H D = some o) (n : r ≠ D) : H' D = some o := e _ _ h (Ne.symm n)
/-- signs of a text, a list of one-sign texts -/
def sg (l : List Nat) : List V := l.map fun c => V.str (T [c])
theorem sg_map (l : List Nat) : sg l = ((l.map fun c => [c]).map T).map V.str := by
  unfold sg
  rw [List.map_map, List.map_map]
  rfl
theorem sg_len (l : List Nat) : (sg l).length = l.length := by unfold sg; rw [List.length_map]
theorem sum_ones : ∀ l : List Nat, (((l.map fun c => [c]).map T).map (fun z : Str => z.length)).sum = l.length
  | [] => rfl
  | c :: r => by
    show 1 + (((r.map fun c => [c]).map T).map (fun z : Str => z.length)).sum = r.length + 1
    rw [sum_ones r]; omega
end Say
namespace Say
open PySem PySem.Spec PyProof.Rows L2
/-- a def that stands at the module's name and keeps its promise -/
def Df (P : Program) (w : World) (K : PySem.W.Frag) (mg : Str → Option Value) (base : Heap) (x : Str) (ps : List Str) (k : Nat) (sp : Sp) : Prop :=
  ∃ f fd, FnOk P w K mg base CX0 k f fd ps sp ∧ PySem.W.keepIn K (.ref f) = true ∧ Binds K fd ps [] ∧ mg x = some (.ref f)
theorem hash_app (L : List Nat) : (Str.ofString "#" ++ T L) = T (35 :: L) := by
  rw [show Str.ofString "#" = T [35] from hash_eq, T_app]
  rfl
theorem app_hash (L : List Nat) : (T L ++ Str.ofString "#") = T (L ++ [35]) := by
  rw [show Str.ofString "#" = T [35] from hash_eq, T_app]
theorem T_at {l : List Nat} {i c : Nat} (h : (T l).cps[i]? = some c) : l[i]? = some c := by
  have h : l.toArray[i]? = some c := h
  rw [List.getElem?_toArray] at h
  exact h
theorem T_at' {l : List Nat} {i c : Nat} (h : l[i]? = some c) : (T l).cps[i]? = some c := by
  show l.toArray[i]? = some c
  rw [List.getElem?_toArray]
  exact h
theorem T_size (l : List Nat) : (T l).cps.size = l.length := by
  show l.toArray.size = _
  simp
theorem take_next {l : List Nat} {i c : Nat} (h : l[i]? = some c) : l.take (i + 1) = l.take i ++ [c] := by
  rw [List.take_add_one, h]; rfl
theorem sg_app (a : List Nat) (c : Nat) : sg a ++ [V.str (T [c])] = sg (a ++ [c]) := by
  unfold sg
  rw [List.map_append]
  rfl
theorem len_hash : (Str.ofString "#").length = 1 := by decide +kernel
end Say
namespace Say
open PySem PySem.Spec PyProof.Rows L2
theorem at_list {α : Type} {l : List α} {z : Int} (h : z.toNat < l.length) (h0 : 0 ≤ z) : atI l z = some l[z.toNat] := by
  have q : l[z.toNat]? = some l[z.toNat] := List.getElem?_eq_getElem h
  have := atI_nat q
  rwa [show ((z.toNat : Nat) : Int) = z by omega] at this
end Say
namespace Say
open PySem PySem.Spec PyProof.Rows L2
/-! ### the data -/
structure Rule where
  ah : List Nat
  ow : List Nat
  be : List Nat
  so : List Nat
def Rule.vs (ρ : Rule) : List V := [.str (T ρ.ah), .str (T ρ.ow), .str (T ρ.be), .str (T ρ.so)]
/-- a rule of a book of the letters L -/
structure RuleOk (L : List Nat) (ρ : Rule) : Prop where
  ah : ρ.ah.Sublist (35 :: L)
  ow : ∀ c ∈ ρ.ow, c ∈ L
  o1 : 1 ≤ ρ.ow.length
  o2 : ρ.ow.length ≤ 2
  be : ρ.be.Sublist (35 :: L)
  so : ∀ c ∈ ρ.so, 65 ≤ c ∧ c ≤ 90
  s3 : ρ.so.length ≤ 3
/-- the tuple at R holds the rules -/
def RulesAt (H : Hp) (R : Addr) (rs : List Rule) : Prop := ∃ ts : List Addr, H R = some (.tup (ts.map V.ref)) ∧ Paired (fun t ρ => H t = some (.tup (Rule.vs ρ))) ts rs
theorem paired_mono {α β : Type} {F G : α → β → Prop} (h : ∀ x y, F x y → G x y) : ∀ {xs : List α} {ys : List β}, Paired F xs ys → Paired G xs ys
  | _, _, .nil => .nil
  | _, _, .cons a b => .cons (h _ _ a) (paired_mono h b)
theorem paired_app {α β : Type} {F : α → β → Prop} : ∀ {xs : List α} {ys : List β} {xs' : List α} {ys' : List β}, Paired F xs ys → Paired F xs' ys' → Paired F (xs ++ xs') (ys ++ ys')
  | _, _, _, _, .nil, h => h
  | _, _, _, _, .cons a b, h => .cons a (paired_app b h)
theorem paired_len {α β : Type} {F : α → β → Prop} : ∀ {xs : List α} {ys : List β}, Paired F xs ys → xs.length = ys.length
  | _, _, .nil => rfl
  | _, _, .cons a b => by simp [paired_len b]
theorem paired_at {α β : Type} {F : α → β → Prop} : ∀ {xs : List α} {ys : List β}, Paired F xs ys → ∀ {i : Nat} {x : α}, xs[i]? = some x → ∃ y, ys[i]? = some y ∧ F x y
  | _, _, .nil, i, x, h => by cases h
  | _, _, .cons r t, 0, x, h => by
    have e := Option.some.inj h
    subst e
    exact ⟨_, rfl, r⟩
  | _, _, .cons r t, i + 1, x, h => paired_at t h
theorem paired_at' {α β : Type} {F : α → β → Prop} : ∀ {xs : List α} {ys : List β}, Paired F xs ys → ∀ {i : Nat} {y : β}, ys[i]? = some y → ∃ x, xs[i]? = some x ∧ F x y
  | _, _, .nil, i, x, h => by cases h
  | _, _, .cons r t, 0, x, h => by
    have e := Option.some.inj h
    subst e
    exact ⟨_, rfl, r⟩
  | _, _, .cons r t, i + 1, x, h => paired_at' t h
theorem RulesAt.kt {H H' : Hp} {R : Addr} {rs : List Rule} (h : RulesAt H R rs) (e : KT H H') : RulesAt H' R rs := by
  obtain ⟨ts, h1, h2⟩ := h
  exact ⟨ts, e.1 _ _ h1, paired_mono (fun t ρ q => e.1 _ _ q) h2⟩
theorem Stp.kt {r a : Addr} {H H' : Hp} (e : Stp r H H') (w : RowIn H r a) : KT H H' := KT.by fun t u h hu => by
  obtain ⟨i, c, m, q, _⟩ := w
  exact e t _ h (ne_of h q (by rcases hu with ⟨_, rfl⟩ | ⟨_, _, rfl⟩ <;> (intro z; cases z)))
theorem kt_new {H : Hp} {D : Addr} {o : HO} (h : H D = none) : KT H (upd H D o) := KT.of (same_new h o)
theorem kt_upd {H : Hp} {D : Addr} {l : List V} {o : HO} (h : H D = some (.lst l)) : KT H (upd H D o) := KT.by fun t u q hu => by
  rw [upd_ne (ne_of q h (by rcases hu with ⟨_, rfl⟩ | ⟨_, _, rfl⟩ <;> (intro z; cases z)))]
  exact q
end Say
namespace Say
open PySem PySem.Spec PyProof.Rows L2
/-- the built-in names that the text leaves alone -/
structure Bn (mg : Str → Option Value) : Prop where
  len : mg "len" = none
  rng : mg "range" = none
  tup : mg "tuple" = none
  lst : mg "list" = none
  isi : mg "isinstance" = none
  str : mg "str" = none
  all : mg "all" = none
  enu : mg "enumerate" = none
  srt : mg "sorted" = none
  bool : mg "bool" = none
def isText (l S : List Nat) (lo hi : Nat) : Bool := decide (lo ≤ l.length) && (decide (l.length ≤ hi) && l.all fun c => decide (c ∈ S))
theorem isText_of {l S : List Nat} {lo hi : Nat} (h1 : lo ≤ l.length) (h2 : l.length ≤ hi) (h3 : ∀ c ∈ l, c ∈ S) : isText l S lo hi = true := by
  unfold isText
  rw [decide_eq_true h1, decide_eq_true h2]
  simp only [Bool.true_and, List.all_eq_true, decide_eq_true_eq]
  exact h3
/-- each sign is more than the one ahead -/
def rises : List Nat → Bool
  | a :: b :: r => decide (a < b) && rises (b :: r)
  | _ => true
end Say
namespace Say
open PySem PySem.Spec PyProof.Rows L2
theorem atI_of {α : Type} {xs : List α} {z : Int} {j : Nat} {v : α} (h : xs[j]? = some v) (e : z = (j : Int)) : atI xs z = some v := by
  rw [e]
  exact atI_nat h
end Say
namespace Say
open PySem PySem.Spec PyProof.Rows L2
section
variable {P : Program} {w : World} {K : PySem.W.Frag} {mg : Str → Option Value} {base : Heap}
abbrev sIsText : Stmt := topS 26
theorem scIsText : FnScope ["text", "signs", "least", "most", "sign"] ["text", "signs", "least", "most"] (defScope sIsText) := ⟨rfl, rfl, rfl, by decide +kernel, rfl, by decide +kernel, by decide +kernel⟩
def spIsText : Sp := fun vs H Q _ => ∃ (l S : List Nat) (lo hi : Nat), vs = [.str (T l), .str (T S), .int lo, .int hi] ∧ l.length ≤ 100 ∧
  ∀ (H' : Hp), Same H H' → Q (.bl (isText l S lo hi)) H'
theorem ok_isText {f : Addr} {fd : FuncData} (F : Fun K "is_text" "is_text" sIsText f fd) (B : Bn mg) :
    FnOk P w K mg base CX0 1 f fd ["text", "signs", "least", "most"] spIsText := by
  refine F.ok scIsText (fun vs H Q E h => ?_) (fun cdv A outer s H vs Q E hr h => ?_)
  · obtain ⟨l, S, lo, hi, rfl, _⟩ := h
    rfl
  · obtain ⟨l, S, lo, hi, rfl, hz, q⟩ := h
    refine ⟨_, pss_cons (ps_if (PW.pt (pw_or (pt_not (pt_val (pe_callB call_isi (by rfl) B.isi (by decide +kernel) (pa_cons (pv 0) (pa_cons (pe_bltn (v := .ty "str") rfl B.str (by decide +kernel) rfl) pa_nil)))))
          (pw_or1 (pt_not (pt_chain op_le op_le (pv 2) (pe_callB call_len_str (by rfl) B.len PySem.boot_len (pa_cons (pv 0) pa_nil)) (pv 3)))))) (pss_one (ps_ret pe_bl)) pss_nil)
      (pss_one (ps_ret (pe_callB (cr_all rfl) (by rfl) B.all (by decide +kernel) (pa_cons (pe_lc (own := [("sign", 4)]) (g := gName 4) rfl scIsText.nd (pi_str (pv 0))
        (blkOk_by (N := ["text", "signs", "least", "most", "sign"]) (sc := defScope sIsText) (by decide +kernel)) (fun _ _ _ _ _ => pg_name (i := 4) scIsText.nd rfl (.inl rfl))
        (fun _ _ _ _ _ => pts_nil) (fun _ _ _ _ _ => pe_cmpR op_in_sign (pv 4) (pv 1) rfl)) pa_nil)))), ?_⟩
    refine ⟨_, rfl, _, _, .type "str", _, true, rfl, ClsV.ty _, .base (.str _), kit_ty (by decide +kernel), true, rfl, ?_⟩
    refine iteF ?_
    have hlen : (T l).length ≤ sizeLine := by rw [T_len]; exact small (by omega)
    refine ⟨_, rfl, _, rfl, _, rfl, hlen, _, _, rfl, rfl, _, rfl, ?_⟩
    have eT : (lo : Int) ≤ ((T l).length : Int) ↔ lo ≤ l.length := by rw [T_len]; omega
    have eU : ((T l).length : Int) ≤ (hi : Int) ↔ l.length ≤ hi := by rw [T_len]; omega
    refine ite2 (fun c1 => ?_) (fun c1 => ?_)
    · refine ⟨_, rfl, _, _, rfl, rfl, _, rfl, ?_⟩
      have c1' := eT.mp (of_decide_eq_true c1)
      by_cases c2 : ((T l).length : Int) ≤ (hi : Int)
      · rw [decide_eq_true c2]
        have c2' := eU.mp c2
        refine iteF ?_
        refine ⟨_, rfl, T l, rfl, fun D hD => ?_⟩
        refine lc_it (walk_str) (fun i H2 => H2 D = some (.lst (((l.take i).map fun c => decide (c ∈ S)).map V.bl)) ∧ Same H H2) ?_ (fun _ _ _ _ => trivial) ?_ ?_
        · exact ⟨upd_same, same_new hD _⟩
        · rintro i x H2 H2' hi' ⟨e1, e2⟩ ⟨rfl, c, hc, rfl⟩
          have hc := T_at hc
          refine ⟨rfl, ?_⟩
          refine ⟨_, rfl, _, rfl, c, T S, rfl, rfl, _, e1, ?_, ?_, ?_⟩
          · rw [List.length_map, List.length_map, List.length_take]
            exact small1000 (by omega)
          · rw [upd_same, take_next hc, List.map_append, List.map_append]
            rfl
          · exact fun b u q => by
              rw [upd_ne (ne_of_none q hD)]
              exact e2 b u q
        · rintro H2 ⟨e1, e2⟩
          rw [T_size, List.take_length] at e1
          refine ⟨D, _, rfl, .inl (.inl e1), ?_⟩
          have := q H2 e2
          unfold isText at this
          rw [decide_eq_true c1', decide_eq_true c2', Bool.true_and, Bool.true_and] at this
          rw [List.all_map]
          exact this
      · rw [decide_eq_false c2]
        refine iteT ?_
        have := q H (Same.refl H)
        unfold isText at this
        rw [decide_eq_false (fun z => c2 (eU.mpr z)), Bool.false_and, Bool.and_false] at this
        exact this
    · refine ⟨_, rfl, iteT ?_⟩
      have := q H (Same.refl H)
      unfold isText at this
      rw [decide_eq_false (fun z => c1 (decide_eq_true (eT.mpr z))), Bool.false_and] at this
      exact this
end
end Say
namespace Say
open PySem PySem.Spec PyProof.Rows L2
section
variable {P : Program} {w : World} {K : PySem.W.Frag} {mg : Str → Option Value} {base : Heap}
abbrev sRise : Stmt := topS 27
theorem scRise : FnScope ["text", "at"] ["text"] (defScope sRise) := ⟨rfl, rfl, rfl, by decide +kernel, rfl, by decide +kernel, by decide +kernel⟩
/-- the j-th sign against the next, for j below n -/
def risesTo (l : List Nat) (n : Nat) : List Bool := (List.range n).map fun j => decide ((l.getD j 0) < (l.getD (j + 1) 0))
theorem rises_range : ∀ l : List Nat, (risesTo l (l.length - 1)).all id = rises l
  | [] => rfl
  | [_] => rfl
  | a :: b :: r => by
    have ih := rises_range (b :: r)
    show (risesTo (a :: b :: r) (r.length + 1)).all id = (decide (a < b) && rises (b :: r))
    rw [← ih]
    unfold risesTo
    rw [List.range_succ_eq_map, List.map_cons, List.map_map, List.all_cons]
    rfl
theorem risesTo_next (l : List Nat) (n : Nat) : risesTo l (n + 1) = risesTo l n ++ [decide ((l.getD n 0) < (l.getD (n + 1) 0))] := by
  unfold risesTo
  rw [List.range_succ, List.map_append]
  rfl
theorem risesTo_len (l : List Nat) (n : Nat) : (risesTo l n).length = n := by
  unfold risesTo
  rw [List.length_map, List.length_range]
def spRise : Sp := fun vs H Q _ => ∃ (l : List Nat), vs = [.str (T l)] ∧ l.length ≤ 100 ∧ ∀ (H' : Hp), Same H H' → Q (.bl (rises l)) H'
theorem lt_one (a b : Nat) : decide (([a] : List Nat) < [b]) = decide (a < b) := by
  by_cases h : a < b
  · rw [decide_eq_true h, decide_eq_true]
    exact List.Lex.rel h
  · rw [decide_eq_false h, decide_eq_false]
    intro z
    cases z with
    | rel q => exact h q
    | cons q => cases q
theorem ok_rise {f : Addr} {fd : FuncData} (F : Fun K "is_rising" "is_rising" sRise f fd) (B : Bn mg) : FnOk P w K mg base CX0 1 f fd ["text"] spRise := by
  refine F.ok scRise (fun vs H Q E h => ?_) (fun cdv A outer s H vs Q E hr h => ?_)
  · obtain ⟨l, rfl, _⟩ := h
    rfl
  · obtain ⟨l, rfl, hz, q⟩ := h
    have hlen : (T l).length ≤ sizeLine := by rw [T_len]; exact small (by omega)
    refine ⟨_, pss_one (ps_ret (pe_callB (cr_all rfl) (by rfl) B.all (by decide +kernel) (pa_cons (pe_lc (own := [("at", 1)]) (g := gName 1) rfl scRise.nd
        (pi_range2 rfl B.rng (pa_cons pe_int (pa_cons (pe_callB call_len_str (by rfl) B.len PySem.boot_len (pa_cons (pv 0) pa_nil)) pa_nil)))
        (blkOk_by (N := ["text", "at"]) (sc := defScope sRise) (by decide +kernel)) (fun _ _ _ _ _ => pg_name (i := 1) scRise.nd rfl (.inl rfl))
        (fun _ _ _ _ _ => pts_nil) (fun _ _ _ _ _ => pe_cmpR op_lt_str (pe_ix ix_str (pv 0) (pe_op op_sub (pv 1) pe_int) (fun _ _ => rfl)) (pe_ix ix_str (pv 0) (pv 1) (fun _ _ => rfl)) (nomark _))) pa_nil))), ?_⟩
    refine ⟨_, rfl, _, rfl, hlen, 1, _, rfl, ⟨by decide, by decide, by omega, by rw [T_len]; omega⟩, fun D hD => ?_⟩
    refine lc_it (walk_range) (fun i H2 => H2 D = some (.lst ((risesTo l i).map V.bl)) ∧ Same H H2) ?_ (fun _ _ _ _ => trivial) ?_ ?_
    · exact ⟨upd_same, same_new hD _⟩
    · rintro i x H2 H2' hi' ⟨e1, e2⟩ ⟨rfl, rfl⟩
      rw [T_len] at hi'
      have g1 : i < l.length := by omega
      have g2 : i + 1 < l.length := by omega
      refine ⟨rfl, ?_⟩
      have q1 : (T l).cps.toList[i]? = some (l.getD i 0) := by rw [T_cps, List.getD_eq_getElem?_getD, List.getElem?_eq_getElem g1]; rfl
      have q2 : (T l).cps.toList[i + 1]? = some (l.getD (i + 1) 0) := by rw [T_cps, List.getD_eq_getElem?_getD, List.getElem?_eq_getElem g2]; rfl
      refine ⟨_, rfl, _, rfl, _, _, rfl, rfl, T l, 1 + (i : Int) - 1, l.getD i 0, rfl, rfl, hlen, atI_of q1 (by omega), ?_⟩
      refine ⟨_, rfl, _, rfl, T l, 1 + (i : Int), l.getD (i + 1) 0, rfl, rfl, hlen, atI_of q2 (by omega), ?_⟩
      refine ⟨_, _, rfl, rfl, _, e1, ?_, ?_, ?_⟩
      · rw [List.length_map, risesTo_len]
        exact small1000 (by omega)
      · rw [upd_same, risesTo_next, List.map_append]
        show some (HO.lst (_ ++ [V.bl (decide (([l.getD i 0] : List Nat) < [l.getD (i + 1) 0]))])) = _
        rw [lt_one]
        rfl
      · exact fun b u q => by
          rw [upd_ne (ne_of_none q hD)]
          exact e2 b u q
    · rintro H2 ⟨e1, e2⟩
      rw [show (((T l).length : Int) - 1).toNat = l.length - 1 by rw [T_len]; omega] at e1
      refine ⟨D, _, rfl, .inl (.inl e1), ?_⟩
      rw [rises_range]
      exact q H2 e2
end
end Say
namespace Say
open PySem PySem.Spec PyProof.Rows L2
/-- the letters of a book -/
structure LetOk (L : List Nat) : Prop where
  l2 : 2 ≤ L.length
  l4 : L.length ≤ 4
  up : rises L = true
  az : ∀ c ∈ L, 97 ≤ c ∧ c ≤ 122
theorem rises_iff : ∀ l : List Nat, rises l = true ↔ l.Pairwise (· < ·)
  | [] => by simp [rises]
  | [a] => by simp [rises]
  | a :: b :: r => by
    have ih := rises_iff (b :: r)
    show (decide (a < b) && rises (b :: r)) = true ↔ _
    rw [Bool.and_eq_true, ih, List.pairwise_cons (a := a)]
    constructor
    · rintro ⟨h1, h2⟩
      have h1 := of_decide_eq_true h1
      refine ⟨fun x hx => ?_, h2⟩
      rcases List.mem_cons.mp hx with rfl | hx
      · exact h1
      · exact Nat.lt_trans h1 ((List.pairwise_cons.mp h2).1 x hx)
    · rintro ⟨h1, h2⟩
      exact ⟨decide_eq_true (h1 b (List.mem_cons_self ..)), h2⟩
theorem LetOk.hash {L : List Nat} (h : LetOk L) : rises (35 :: L) = true := (rises_iff _).mpr (List.pairwise_cons.mpr ⟨fun c hc => by have := (h.az c hc).1; omega, (rises_iff _).mp h.up⟩)
theorem side_ok {L z : List Nat} (h : LetOk L) (s : z.Sublist (35 :: L)) : (isText z (35 :: L) 0 (L.length + 1) && rises z) = true := by
  rw [Bool.and_eq_true]
  exact ⟨isText_of (Nat.zero_le _) (by have := s.length_le; simpa using this) fun c hc => s.subset hc, (rises_iff _).mpr (((rises_iff _).mp h.hash).sublist s)⟩
/-- a constant that holds a number -/
abbrev KI (mg : Str → Option Value) (x : Str) (n : Int) : Prop := ∃ t, mg x = some (.int n t)
/-- what the module's constants hold -/
structure Cn (mg : Str → Option Value) : Prop where
  small : ∃ t, mg "SMALL" = some (.str "abcdefghijklmnopqrstuvwxyz" t)
  caps : ∃ t, mg "CAPITALS" = some (.str "ABCDEFGHIJKLMNOPQRSTUVWXYZ" t)
  edge : ∃ t, mg "EDGE" = some (.str "#" t)
  mrul : ∃ t, mg "MOST_RULES" = some (.int 12 t)
  lexc : ∃ t, mg "LONGEST_EXCEPTION" = some (.int 8 t)
  lrs : ∃ t, mg "LONGEST_RULE_SOUNDS" = some (.int 3 t)
  lso : ∃ t, mg "LONGEST_SOUNDS" = some (.int 36 t)
def smallL : List Nat := (List.range 26).map (· + 97)
def capsL : List Nat := (List.range 26).map (· + 65)
theorem small_eq : Str.ofString "abcdefghijklmnopqrstuvwxyz" = T smallL := by decide +kernel
theorem caps_eq : Str.ofString "ABCDEFGHIJKLMNOPQRSTUVWXYZ" = T capsL := by decide +kernel
theorem mem_small {c : Nat} (h : 97 ≤ c ∧ c ≤ 122) : c ∈ smallL := List.mem_map.mpr ⟨c - 97, List.mem_range.mpr (by omega), by omega⟩
theorem mem_caps {c : Nat} (h : 65 ≤ c ∧ c ≤ 90) : c ∈ capsL := List.mem_map.mpr ⟨c - 65, List.mem_range.mpr (by omega), by omega⟩
section
variable {P : Program} {w : World} {K : PySem.W.Frag} {mg : Str → Option Value} {base : Heap}
abbrev psIsText : List Str := ["text", "signs", "least", "most"]
abbrev sBeside : Stmt := topS 22
theorem scBeside : FnScope ["letters", "signs"] ["letters", "signs"] (defScope sBeside) := ⟨rfl, rfl, rfl, by decide +kernel, rfl, by decide +kernel, by decide +kernel⟩
def spBeside : Sp := fun vs H Q _ => ∃ (L z : List Nat), vs = [.str (T L), .str (T z)] ∧ L.length ≤ 50 ∧ z.length ≤ 100 ∧ ∀ (H' : Hp), Same H H' → Q (.bl (isText z (35 :: L) 0 (L.length + 1) && rises z)) H'
theorem ok_beside {f : Addr} {fd : FuncData} (F : Fun K "is_beside" "is_beside" sBeside f fd) (B : Bn mg) (C : Cn mg) (DT : Df P w K mg base "is_text" psIsText 1 spIsText) (DR : Df P w K mg base "is_rising" ["text"] 1 spRise) :
    FnOk P w K mg base CX0 2 f fd ["letters", "signs"] spBeside := by
  obtain ⟨fT, fdT, GT, kT, bT, mT⟩ := DT
  obtain ⟨fR, fdR, GR, kR, bR, mR⟩ := DR
  obtain ⟨tE, mE⟩ := C.edge
  refine F.ok scBeside (fun vs H Q E h => ?_) (fun cdv A outer s H vs Q E hr h => ?_)
  · obtain ⟨L, z, rfl, _⟩ := h
    rfl
  · obtain ⟨L, z, rfl, hL, hz, q⟩ := h
    refine ⟨_, pss_one (ps_ret (pe_and (pe_call GT hr (by rfl) mT kT bT .nil pass0 (pa_cons (pv 1) (pa_cons (pe_op op_add_str (pe_glob (v := .str "#") rfl mE ⟨_, rfl⟩) (pv 0)) (pa_cons pe_int (pa_cons (pe_op op_add (pe_callB call_len_str (by rfl) B.len PySem.boot_len (pa_cons (pv 0) pa_nil)) pe_int) pa_nil)))))
        (pe_one (pe_call GR hr (by rfl) mR kR bR .nil pass0 (pa_cons (pv 1) pa_nil))))), ?_⟩
    have hl : (T L).length ≤ sizeLine := by rw [T_len]; exact small (by omega)
    refine ⟨_, rfl, _, rfl, _, _, rfl, rfl, (by rw [len_hash, T_len]; exact small (by omega)), _, rfl, _, rfl, hl, _, _, rfl, rfl, z, 35 :: L, 0, L.length + 1, ?_, hz, fun H1 s1 => ?_⟩
    · rw [hash_app, T_len]
      rfl
    refine ⟨_, rfl, ite2 (fun c => ?_) (fun c => ?_)⟩
    · refine ⟨_, rfl, z, rfl, hz, fun H2 s2 => ?_⟩
      have := q H2 (s1.trans s2)
      rw [c, Bool.true_and] at this
      exact this
    · have := q H1 s1
      rw [Bool.eq_false_iff.mpr c, Bool.false_and] at this
      exact this
abbrev sIsRule : Stmt := topS 21
theorem scIsRule : FnScope ["letters", "rule", "ahead", "own", "behind", "sounds"] ["letters", "rule"] (defScope sIsRule) := ⟨rfl, rfl, rfl, by decide +kernel, rfl, by decide +kernel, by decide +kernel⟩
def spIsRule : Sp := fun vs H Q _ => ∃ (L : List Nat) (t : Addr) (ρ : Rule), vs = [.str (T L), .ref t] ∧ H t = some (.tup ρ.vs) ∧ LetOk L ∧ RuleOk L ρ ∧ ∀ (H' : Hp), Same H H' → Q (.bl true) H'
theorem ok_isRule {f : Addr} {fd : FuncData} (F : Fun K "is_rule" "is_rule" sIsRule f fd) (B : Bn mg) (C : Cn mg) (DT : Df P w K mg base "is_text" psIsText 1 spIsText) (DB : Df P w K mg base "is_beside" ["letters", "signs"] 2 spBeside) :
    FnOk P w K mg base CX0 3 f fd ["letters", "rule"] spIsRule := by
  obtain ⟨fT, fdT, GT, kT, bT, mT⟩ := DT
  obtain ⟨fB, fdB, GB, kB, bB, mB⟩ := DB
  obtain ⟨tC, mC⟩ := C.caps
  obtain ⟨tS, mS⟩ := C.lrs
  refine F.ok scIsRule (fun vs H Q E h => ?_) (fun cdv A outer s H vs Q E hr h => ?_)
  · obtain ⟨L, t, ρ, rfl, _⟩ := h
    rfl
  · obtain ⟨L, t, ρ, rfl, ht, hL, hρ, q⟩ := h
    have hr1 : Room 1 _ := hr.mono (by decide)
    refine ⟨_, pss_cons (ps_if (PW.pt (pw_or (pt_not (pt_val (pe_callB call_isi (by rfl) B.isi (by decide +kernel) (pa_cons (pv 1) (pa_cons (pe_bltn (v := .ty "tuple") rfl B.tup (by decide +kernel) rfl) pa_nil)))))
          (pw_or1 (pt_cmpR op_ne (pe_callB call_len (by rfl) B.len PySem.boot_len (pa_cons (pv 1) pa_nil)) pe_int (nomark _))))) (pss_one (ps_ret pe_bl)) pss_nil)
      (pss_cons (ps_asg (pv 1) (pg_tup (by rfl) (pgs_cons (pg_name (i := 2) scIsRule.nd rfl (.inl rfl)) (pgs_cons (pg_name (i := 3) scIsRule.nd rfl (.inl rfl)) (pgs_cons (pg_name (i := 4) scIsRule.nd rfl (.inl rfl)) (pgs_cons (pg_name (i := 5) scIsRule.nd rfl (.inl rfl)) pgs_nil))))))
      (pss_one (ps_ret (pe_and (pe_call GB hr (by rfl) mB kB bB .nil pass0 (pa_cons (pv 0) (pa_cons (pv 2) pa_nil)))
        (pe_and (pe_call GT hr1 (by rfl) mT kT bT .nil pass0 (pa_cons (pv 3) (pa_cons (pv 0) (pa_cons pe_int (pa_cons pe_int pa_nil)))))
        (pe_and (pe_call GB hr (by rfl) mB kB bB .nil pass0 (pa_cons (pv 0) (pa_cons (pv 4) pa_nil)))
        (pe_one (pe_call GT hr1 (by rfl) mT kT bT .nil pass0 (pa_cons (pv 5) (pa_cons (pe_glob (v := .str "ABCDEFGHIJKLMNOPQRSTUVWXYZ") rfl mC ⟨_, rfl⟩) (pa_cons pe_int (pa_cons (pe_glob (v := .int 3) rfl mS ⟨_, rfl⟩) pa_nil)))))))))))), ?_⟩
    have l5 := hρ.ah.length_le
    have l6 := hρ.be.length_le
    rw [List.length_cons] at l5 l6
    have l4 := hL.l4
    refine ⟨_, rfl, _, _, .type "tuple", _, true, rfl, ClsV.ty _, .base (.tup ht), kit_ty (by decide +kernel), true, rfl, iteF ?_⟩
    refine ⟨_, rfl, _, 4, rfl, .inr ⟨_, .inl (.inl ht), rfl⟩, rfl, _, rfl, iteF ?_⟩
    refine ⟨_, rfl, t, _, rfl, .inl (.inl ht), rfl, _, _, rfl, _, _, rfl, _, _, rfl, _, _, rfl, rfl, ?_⟩
    refine ⟨_, rfl, _, rfl, L, ρ.ah, rfl, by omega, by omega, fun H1 s1 => ?_⟩
    refine ⟨_, rfl, ?_⟩
    rw [side_ok hL hρ.ah]
    refine iteT ?_
    refine ⟨_, rfl, _, rfl, ρ.ow, L, 1, 2, rfl, (by have := hρ.o2; omega), fun H2 s2 => ?_⟩
    refine ⟨_, rfl, ?_⟩
    rw [isText_of hρ.o1 hρ.o2 hρ.ow]
    refine iteT ?_
    refine ⟨_, rfl, _, rfl, L, ρ.be, rfl, by omega, by omega, fun H3 s3 => ?_⟩
    refine ⟨_, rfl, ?_⟩
    rw [side_ok hL hρ.be]
    refine iteT ?_
    refine ⟨_, rfl, ρ.so, capsL, 0, 3, (by rw [caps_eq]; rfl), (by have := hρ.s3; omega), fun H4 s4 => ?_⟩
    rw [isText_of (Nat.zero_le _) hρ.s3 fun c hc => mem_caps (hρ.so c hc)]
    exact q H4 (s1.trans (s2.trans (s3.trans s4)))
end
end Say
namespace PySem
open Sem (wp)
open AutoSeq1 (wpAny_loadPart')
/-- enumerate(tuple): what the making of it meets -/
theorem say_meets_enumT (l : Addr) (o0 : Obj) (items : Array Value) (n : Nat) (clC : o0.cls = .type "tuple") (dtD : o0.data = .seq items n) :
    Meets (Builtin.«enumerate.__new__» ⟨[.type "enumerate", .ref l], []⟩) (fun _ R s => s.heap.get? l = some o0 ∧
      R (.ok (.ret (.ref (s.heap.push { cls := .type "tuple_iterator", data := .fields #[.ref l, .int 0 0] }).objs.size)))
        { s with heap := (s.heap.push { cls := .type "tuple_iterator", data := .fields #[.ref l, .int 0 0] }).push { cls := .type "enumerate", data := .fields #[.none, .bool false, .ref s.heap.objs.size, rawInt 0, .none, .none] } }) :=
  .of_wp fun prog w A R s h => by
    obtain ⟨txP, g, d, tkn, os⟩ := s; obtain ⟨lnT, h⟩ := h
    obtain ⟨oc, od, dt, osl⟩ := o0
    replace clC : oc = .type "tuple" := clC
    replace dtD : dt = .seq items n := dtD
    subst clC dtD
    have hsub := sub_enumerate
    have hL : Heap.IsTuple (Shared.heap ⟨txP, g, d, tkn, os⟩) l items := ⟨_, lnT, rfl, n, rfl⟩
    wp_walk using wpAny_loadPart' lnT
    refine wpAny_stack_any fun sta => wpAny_pure ?_
    split
    · rename_i c _ _ _ _ _
      cases (c == Value.type "enumerate")
      · wp_walk using wpAny_loadPart' lnT, wpAny_pyIter_tuple hL
        exact ⟨_, rfl, h⟩
      · wp_walk using wpAny_loadPart' lnT, wpAny_pyIter_tuple hL
        exact ⟨_, rfl, h⟩
    · wp_walk using wpAny_loadPart' lnT, wpAny_pyIter_tuple hL
      exact ⟨_, rfl, h⟩
section
variable {prog : Program} {w : World} {A : Around} {E : Value → Shared → Prop} {s : Shared}
theorem say_call_enumT {l : Addr} {items : Array Value} {Q : Value → Shared → Prop} (hL : s.heap.IsTuple l items)
    (h : ∀ h', IsEnum h' (s.heap.objs.size + 1) s.heap.objs.size 0 .none → h'.IsTupleIter s.heap.objs.size l 0 → h'.objs.size = s.heap.objs.size + 2 →
      (∀ b o, s.heap.get? b = some o → h'.get? b = some o) → Q (.ref (s.heap.objs.size + 1)) { s with heap := h' }) :
    wpAny (model prog w) A (call (.type "enumerate") [.ref l]) Q E s := by
  obtain ⟨o0, lnT, clC, n, dtD⟩ := hL
  refine callType_new F.called_enumerate (by decide) (F.typeCall_enumerate_1 _) (F.newCall_enumerate_1 _) (fun obj => F.args_object_init_2 obj _) F.entry_enumerate_new
    (say_meets_enumT l o0 items n clC dtD) ⟨lnT, ?_⟩
  have szT : (s.heap.push { cls := .type "tuple_iterator", data := .fields #[.ref l, .int 0 0] }).objs.size = s.heap.objs.size + 1 := Heap.size_push ..
  show _ ∧ _
  rw [szT]
  have hEn : IsEnum ((s.heap.push { cls := .type "tuple_iterator", data := .fields #[.ref l, .int 0 0] }).push
      { cls := .type "enumerate", data := .fields #[.none, .bool false, .ref s.heap.objs.size, rawInt 0, .none, .none] }) (s.heap.objs.size + 1) s.heap.objs.size 0 .none := by
    have := Heap.get?_push_size (s.heap.push { cls := .type "tuple_iterator", data := .fields #[.ref l, .int 0 0] })
      (o := { cls := .type "enumerate", data := .fields #[.none, .bool false, .ref s.heap.objs.size, rawInt 0, .none, .none] }) rfl
    rw [szT] at this; exact this
  refine ⟨⟨_, hEn, rfl⟩, h _ hEn ⟨_, Heap.get?_push_of_some _ (Heap.get?_push_size _ rfl), rfl, rfl⟩ (by rw [Heap.size_push, szT]) fun b o x => Heap.get?_push_of_some _ (Heap.get?_push_of_some _ x)⟩
theorem say_enumT_end {e it l : Addr} {i : Nat} {j : Int} {items : Array Value} {was : Value} {Q : Option Value → Shared → Prop} (noH : A.handled = none)
    (hEn : IsEnum s.heap e it j was) (hTi : s.heap.IsTupleIter it l i) (lnT : s.heap.IsTuple l items) (atI0 : items[i]? = none)
    (hQ : ∀ h', Heap.ExtBut it s.heap h' → Q none { s with heap := h' }) : wpAny (model prog w) A (pyNext (.ref e)) Q E s := by
  have isTup : s.TypeIs (.ref e) "enumerate" := ⟨_, hEn, rfl⟩
  unfold pyNext
  refine wpAny_bind (wpAny_attempt (wpAny_callSpecial?_slot (name := Str.ofString "__next__") isTup F.slot_enumerate_next
    (wpAny_call_entry F.slot_enumerate_next isTup F.entry_enumerate_next ?_ (F.args_enumerate_next_1 _))))
  show wpAny _ _ (field (.ref e) 2 >>= _) _ _ _
  refine wpAny_bind (wpAny_field hEn rfl (x := .ref it) rfl ?_)
  refine wpAny_bind (wpAny_nextOf_tuple_end noH hTi lnT atI0 fun h' x he' hx' => ?_)
  obtain ⟨o, obO, clC⟩ := hx'
  refine wpAny_bind (wpAny_isInstance (T := "StopIteration") (b := true) ⟨o, obO, clC⟩ isSubtype_stop ?_)
  exact wpAny_pure (hQ _ he')
end
end PySem
namespace Say
open PySem PySem.Spec PyProof.Rows L2
/-- the tuple at a adrs it stands at each turn, each item in a new pair -/
def IteT (K : PySem.W.Frag) (a : Addr) : It :=
  ⟨fun i H => ∃ (xs : List V) (x : V), SqT K H a xs ∧ xs[i]? = some x, fun i H v H' => ∃ T x, v = .ref T ∧ H T = none ∧ H' = upd H T (.tup [.int (i : Nat), x]) ∧ ∀ xs, SqT K H a xs → xs[i]? = some x, fun i H => ∃ xs : List V, SqT K H a xs ∧ xs.length ≤ i⟩
theorem enum_ne {h : Heap} {e it a : Addr} {i : Int} {was : Value} {items : Array Value} (hEn : IsEnum h e it i was) (isTup : h.IsTuple a items) : e ≠ a := fun z => by
  subst z
  obtain ⟨o, obO, clC, _⟩ := isTup
  have hEn : h.get? e = some _ := hEn
  rw [hEn] at obO
  cases obO
  exact absurd (Value.type.inj clC) (by decide)
theorem tit_ne {h : Heap} {it a : Addr} {i : Nat} {items : Array Value} (hEn : h.IsTupleIter it a i) (isTup : h.IsTuple a items) : a ≠ it := fun z => by
  subst z
  obtain ⟨o, obO, clC, _⟩ := isTup
  obtain ⟨o', ho', hc', _⟩ := hEn
  rw [obO] at ho'
  cases ho'
  rw [clC] at hc'
  exact absurd (Value.type.inj hc') (by decide)
theorem turn_enumT {P : Program} {w : World} {K : PySem.W.Frag} {els : List Expr} {k9 : Nat} {tps0 : Pos} (a e it : Addr) :
    Turn P w K (.Tuple els k9 tps0) (IteT K a) [e, it] e (fun i h => (∃ was, IsEnum h e it ((i : Nat) : Int) was) ∧ h.IsTupleIter it a i ∧ e ≠ it) where
  mem := by simp
  obj := fun i h sta b hb => by
    obtain ⟨⟨was, hEn⟩, ⟨o, obO, clC, dtD⟩, _⟩ := sta
    have e' : b = e ∨ b = it := by simpa using hb
    rcases e' with z | z
    · rw [z]; exact ⟨_, hEn, fun v q => nomatch q⟩
    · rw [z]; exact ⟨o, obO, fun v q => by rw [dtD] at q; cases q⟩
  keep := fun i h h' sta k => let ⟨⟨was, hEn⟩, hi, hAp⟩ := sta; ⟨⟨was, k e (by simp) _ hEn⟩, hi.at fun o q => k it (by simp) o q, hAp⟩
  item := by
    intro X hP hw hK clC i pn s σ H E I fresh0 sta gW
    subst hP hw hK
    obtain ⟨⟨was, hEn⟩, hTi, hAp⟩ := sta
    obtain ⟨xs, x, isT, atI0⟩ := gW
    obtain ⟨its, rel, p, szT⟩ := I.tuple isT
    have p : s.heap.IsTuple a its.toArray := p
    obtain ⟨u, getU, relU⟩ := rel.get atI0
    have ltE : e < s.heap.objs.size := Heap.lt_size hEn
    have ltI : it < s.heap.objs.size := by obtain ⟨_, q, _⟩ := hTi; exact Heap.lt_size q
    have ltN : i < its.toArray.size := by
      have := (List.getElem?_eq_some_iff.mp getU).1
      simpa using this
    refine wpAny_pyNext_enum_itemD (Draws.tuple (show X.A.in1.handled = none from I.ok.hd clC) it a (tit_ne hTi p) its.toArray) hEn ⟨hTi, p⟩ ltN hAp (by
      simp only [List.mem_cons, List.not_mem_nil, or_false, not_or]
      exact ⟨hAp, enum_ne hEn p⟩) fun u' h' tkn hu' obO hst' isTup szH kpT => ?_
    have eu : u' = u := by
      have h1 : its.toArray[i]? = some u' := hu'
      rw [List.getElem?_toArray, getU] at h1
      exact (Option.some.inj h1).symm
    subst eu
    obtain ⟨hit', p'⟩ := hst'
    refine ⟨_, rfl, wpAny_letOwnedTupleGo_enum (s := { s with heap := h', toks := tkn + 1 }) obO fun h'' he' butE => ?_⟩
    have hT2 : h''.get? s.heap.objs.size = some { cls := .type "tuple", data := .seq #[.int i tkn, u'] } := (butE.2 _ (Nat.ne_of_gt ltE)).trans isTup
    have new : ObjOk X.prog X.w (upd H s.heap.objs.size (.tup [.int (i : Nat), x])) h'' s.heap.objs.size (.tup [.int (i : Nat), x]) :=
      ⟨by show 2 ≤ sizeLine; decide, [.int i tkn, u'], .cons ⟨_, rfl⟩ (.cons relU .nil), ⟨_, hT2, rfl, _, rfl⟩⟩
    have I1 : Inv X pn σ (upd H s.heap.objs.size (.tup [.int (i : Nat), x])) { s with heap := h'', toks := tkn + 1 } :=
      I.turnedNew (ch := [e, it]) (fun b ob hb q => (butE.2 b (fun z => hb (by simp [z]))).trans (kpT b ob (fun z => hb (by simp [z])) (fun z => hb (by simp [z])) q)) fresh0 (Nat.le_refl _) new
    refine ⟨.ref s.heap.objs.size, _, I1, rfl, ⟨_, x, rfl, I.hok.fresh (Nat.le_refl _), rfl, fun ys hy => by rw [I.tuple_inj hy isT]; exact atI0⟩, ⟨⟨u', ?_⟩, hit'.at fun o q => (butE.2 it (Ne.symm hAp)).trans q, hAp⟩, fun b hb => ?_⟩
    · have q1 : ((i + 1 : Nat) : Int) = (i : Int) + 1 := by omega
      rw [q1]; exact he'
    · have hb' : b < s.heap.objs.size := by
        have e' : b = e ∨ b = it := by simpa using hb
        rcases e' with z | z
        · rw [z]; exact ltE
        · rw [z]; exact ltI
      rw [upd_ne (Nat.ne_of_lt hb')]
      exact (fresh0 b hb).1
  done := by
    intro X hP hw hK clC i pn s σ H E I fresh0 sta gW
    subst hP hw hK
    obtain ⟨⟨was, hEn⟩, hTi, hAp⟩ := sta
    obtain ⟨xs, isT, atI0⟩ := gW
    obtain ⟨its, rel, p, szT⟩ := I.tuple isT
    have p : s.heap.IsTuple a its.toArray := p
    obtain ⟨f0, f1, f2, f3, f4, f5⟩ := fresh0 it (by simp)
    have hl := rel.length
    exact say_enumT_end (I.ok.hd clC) hEn hTi p (by rw [List.getElem?_toArray]; exact List.getElem?_eq_none (by omega)) fun h' eb => ⟨rfl, I.turned (t' := s.toks) (fun b o hb q => eb b o hb q) f0 f1 f3 f4 f5⟩
  self := fun A i s Q E sta h => let ⟨⟨_, hEn⟩, _⟩ := sta; wpAny_pyIter_enum hEn h
def iEnumT (K : PySem.W.Frag) (ta : TA) : TI := fun σ H R => ta σ H fun vs H1 => ∃ a xs, vs = [.ref a] ∧ SqT K H1 a xs ∧ R (IteT K a) H1
theorem pi_enumT {X : Cx} {e : Expr} {ta : TA} {p pos tps0 : Pos} {els : List Expr} {k9 : Nat} (gW : Gl X "enumerate") (hm : X.mg "enumerate" = none) (atA : PA X [e] ta) (hs : starEach [e] X.env = [(false, eval e X.env)] := by rfl) :
    PI X (.Tuple els k9 tps0) (.Call (.Name "enumerate" p) [e] [] pos) (iEnumT X.K ta) := by
  refine ⟨fun pn s σ H R I h => ?_⟩
  refine Call_ (ld_blt I gW hm boot_enumerate (PyProof.Rows.callWith_type1 (thn (atA.run pos pn s σ H _ I h) fun args s1 ⟨vs, H1, I1, r1, q1⟩ => ?_) hs rfl))
  obtain ⟨a, xs, ex, isT, q⟩ := q1
  subst ex
  cases r1 with
  | cons r rst =>
    cases rst
    cases r
    obtain ⟨its, rel, p', szT⟩ := I1.tuple isT
    refine say_call_enumT (show s1.heap.IsTuple a its.toArray from p') fun h' hEn hTi szH kpT => wpAny_pyIter_enum hEn ?_
    have I2 : Inv X pn σ H1 { s1 with heap := h' } := I1.kept (t' := s1.toks) kpT
    refine ⟨s1.heap.objs.size + 1, [s1.heap.objs.size + 1, s1.heap.objs.size], _, _, H1, rfl, I2, turn_enumT a (s1.heap.objs.size + 1) s1.heap.objs.size, ⟨⟨.none, hEn⟩, hTi, Nat.succ_ne_self _⟩, fun b hb => ?_, q⟩
    have e' : b = s1.heap.objs.size + 1 ∨ b = s1.heap.objs.size := by simpa using hb
    have hle : s1.heap.objs.size ≤ b := by
      rcases e' with z | z
      · rw [z]; exact Nat.le_add_right _ _
      · rw [z]; exact Nat.le_refl _
    exact I1.fpOk hle (I1.hok.fresh hle)
theorem walk_enumT {K : PySem.W.Frag} {a : Addr} {xs : List V} : Walk (IteT K a) xs.length (fun H => SqT K H a xs) (YPair (fun i => some (.int (i : Nat))) (fun i => xs[i]?)) := by
  refine ⟨fun i _ hi q => ⟨xs, xs[i], q, by simp [hi]⟩, fun _ q => ⟨xs, q, Nat.le_refl _⟩, fun i H v H' _ q y => ?_⟩
  obtain ⟨T, x, h1, h2, h3, h4⟩ := y
  exact ⟨T, .int (i : Nat), x, h1, h2, h3, rfl, h4 xs q⟩
end Say
namespace Say
open PySem PySem.Spec PyProof.Rows L2
abbrev Exc := List Nat × List Nat
/-- an exception of a book of the letters L -/
structure ExcOk (L : List Nat) (e : Exc) : Prop where
  w : ∀ c ∈ e.1, c ∈ L
  w1 : 1 ≤ e.1.length
  w8 : e.1.length ≤ 8
  s : ∀ c ∈ e.2, 65 ≤ c ∧ c ≤ 90
  s36 : e.2.length ≤ 36
/-- a tuple as it was made: with no attributes of its own -/
def TupN (H : Hp) (a : Addr) (xs : List V) : Prop := ∃ o : Obj, H a = some (.frz o (.tup xs)) ∧ o.dict = none
theorem TupN.kt {H H' : Hp} {a : Addr} {xs : List V} (h : TupN H a xs) (e : KT H H') : TupN H' a xs := ⟨h.choose, e.2 _ _ _ h.choose_spec.1, h.choose_spec.2⟩
theorem TupN.rd {H : Hp} {a : Addr} {xs : List V} (h : TupN H a xs) : Rd H a (.tup xs) := .inr ⟨_, h.choose_spec.1⟩
def ExcsAt (H : Hp) (X : Addr) (es : List Exc) : Prop := ∃ ts : List Addr, TupN H X (ts.map V.ref) ∧ Paired (fun t (e : Exc) => H t = some (.tup [.str (T e.1), .str (T e.2)])) ts es
theorem ExcsAt.kt {H H' : Hp} {X : Addr} {es : List Exc} (h : ExcsAt H X es) (e : KT H H') : ExcsAt H' X es := by
  obtain ⟨ts, h1, h2⟩ := h
  exact ⟨ts, h1.kt e, paired_mono (fun t ρ q => e.1 _ _ q) h2⟩
structure BookOk (L : List Nat) (rs : List Rule) (es : List Exc) : Prop where
  lt : LetOk L
  rl : ∀ ρ ∈ rs, RuleOk L ρ
  r12 : rs.length ≤ 12
  ex : ∀ e ∈ es, ExcOk L e
  e8 : es.length ≤ 8
  up : es.Pairwise fun e f => e.1 < f.1
def BookAt (H : Hp) (b : Addr) (L : List Nat) (rs : List Rule) (es : List Exc) : Prop := ∃ R X, H b = some (.tup [.str (T L), .ref R, .ref X]) ∧ RulesAt H R rs ∧ ExcsAt H X es
theorem BookAt.kt {H H' : Hp} {b : Addr} {L : List Nat} {rs : List Rule} {es : List Exc} (h : BookAt H b L rs es) (e : KT H H') : BookAt H' b L rs es := by
  obtain ⟨R, X, h1, h2, h3⟩ := h
  exact ⟨R, X, e.1 _ _ h1, h2.kt e, h3.kt e⟩
section
variable {P : Program} {w : World} {K : PySem.W.Frag} {mg : Str → Option Value} {base : Heap}
abbrev sExcd : Stmt := topS 24
theorem scExcd : FnScope ["letters", "word"] ["letters", "word"] (defScope sExcd) := ⟨rfl, rfl, rfl, by decide +kernel, rfl, by decide +kernel, by decide +kernel⟩
def spExcd : Sp := fun vs H Q _ => ∃ (L z : List Nat), vs = [.str (T L), .str (T z)] ∧ z.length ≤ 100 ∧ ∀ (H' : Hp), Same H H' → Q (.bl (isText z L 1 8)) H'
theorem ok_excd {f : Addr} {fd : FuncData} (F : Fun K "is_excepted" "is_excepted" sExcd f fd) (C : Cn mg) (DT : Df P w K mg base "is_text" psIsText 1 spIsText) :
    FnOk P w K mg base CX0 2 f fd ["letters", "word"] spExcd := by
  obtain ⟨fT, fdT, GT, kT, bT, mT⟩ := DT
  obtain ⟨tX, mX⟩ := C.lexc
  refine F.ok scExcd (fun vs H Q E h => ?_) (fun cdv A outer s H vs Q E hr h => ?_)
  · obtain ⟨L, z, rfl, _⟩ := h
    rfl
  · obtain ⟨L, z, rfl, hl, q⟩ := h
    refine ⟨_, pss_one (ps_ret (pe_call GT hr (by rfl) mT kT bT .nil pass0 (pa_cons (pv 1) (pa_cons (pv 0) (pa_cons pe_int (pa_cons (pe_glob (v := .int 8) rfl mX ⟨_, rfl⟩) pa_nil)))))), ?_⟩
    exact ⟨_, rfl, _, rfl, z, L, 1, 8, rfl, hl, q⟩
abbrev sIsSo : Stmt := topS 25
theorem scIsSo : FnScope ["sounds"] ["sounds"] (defScope sIsSo) := ⟨rfl, rfl, rfl, by decide +kernel, rfl, by decide +kernel, by decide +kernel⟩
def spIsSo : Sp := fun vs H Q _ => ∃ (z : List Nat), vs = [.str (T z)] ∧ z.length ≤ 100 ∧ ∀ (H' : Hp), Same H H' → Q (.bl (isText z capsL 0 36)) H'
theorem ok_isSo {f : Addr} {fd : FuncData} (F : Fun K "is_sounds" "is_sounds" sIsSo f fd) (C : Cn mg) (DT : Df P w K mg base "is_text" psIsText 1 spIsText) :
    FnOk P w K mg base CX0 2 f fd ["sounds"] spIsSo := by
  obtain ⟨fT, fdT, GT, kT, bT, mT⟩ := DT
  obtain ⟨tC, mC⟩ := C.caps
  obtain ⟨tS, mS⟩ := C.lso
  refine F.ok scIsSo (fun vs H Q E h => ?_) (fun cdv A outer s H vs Q E hr h => ?_)
  · obtain ⟨z, rfl, _⟩ := h
    rfl
  · obtain ⟨z, rfl, hl, q⟩ := h
    refine ⟨_, pss_one (ps_ret (pe_call GT hr (by rfl) mT kT bT .nil pass0 (pa_cons (pv 0) (pa_cons (pe_glob (v := .str "ABCDEFGHIJKLMNOPQRSTUVWXYZ") rfl mC ⟨_, rfl⟩) (pa_cons pe_int (pa_cons (pe_glob (v := .int 36) rfl mS ⟨_, rfl⟩) pa_nil)))))), ?_⟩
    exact ⟨_, rfl, z, capsL, 0, 36, (by rw [caps_eq]; rfl), hl, q⟩
abbrev sIsExc : Stmt := topS 23
theorem scIsExc : FnScope ["letters", "pair", "word", "sounds"] ["letters", "pair"] (defScope sIsExc) := ⟨rfl, rfl, rfl, by decide +kernel, rfl, by decide +kernel, by decide +kernel⟩
def spIsExc : Sp := fun vs H Q _ => ∃ (L : List Nat) (t : Addr) (e : Exc), vs = [.str (T L), .ref t] ∧ H t = some (.tup [.str (T e.1), .str (T e.2)]) ∧ ExcOk L e ∧ ∀ (H' : Hp), Same H H' → Q (.bl true) H'
theorem ok_isExc {f : Addr} {fd : FuncData} (F : Fun K "is_exception" "is_exception" sIsExc f fd) (B : Bn mg) (DX : Df P w K mg base "is_excepted" ["letters", "word"] 2 spExcd) (DS : Df P w K mg base "is_sounds" ["sounds"] 2 spIsSo) :
    FnOk P w K mg base CX0 3 f fd ["letters", "pair"] spIsExc := by
  obtain ⟨fX, fdX, GX, kX, bX, mX⟩ := DX
  obtain ⟨fS, fdS, GS, kS, bS, mS⟩ := DS
  refine F.ok scIsExc (fun vs H Q E h => ?_) (fun cdv A outer s H vs Q E hr h => ?_)
  · obtain ⟨L, t, e, rfl, _⟩ := h
    rfl
  · obtain ⟨L, t, e, rfl, ht, ho, q⟩ := h
    refine ⟨_, pss_cons (ps_if (PW.pt (pw_or (pt_not (pt_val (pe_callB call_isi (by rfl) B.isi (by decide +kernel) (pa_cons (pv 1) (pa_cons (pe_bltn (v := .ty "tuple") rfl B.tup (by decide +kernel) rfl) pa_nil)))))
          (pw_or1 (pt_cmpR op_ne (pe_callB call_len (by rfl) B.len PySem.boot_len (pa_cons (pv 1) pa_nil)) pe_int (nomark _))))) (pss_one (ps_ret pe_bl)) pss_nil)
      (pss_cons (ps_asg (pv 1) (pg_tup (by rfl) (pgs_cons (pg_name (i := 2) scIsExc.nd rfl (.inl rfl)) (pgs_cons (pg_name (i := 3) scIsExc.nd rfl (.inl rfl)) pgs_nil))))
      (pss_one (ps_ret (pe_and (pe_call GX hr (by rfl) mX kX bX .nil pass0 (pa_cons (pv 0) (pa_cons (pv 2) pa_nil)))
        (pe_one (pe_call GS hr (by rfl) mS kS bS .nil pass0 (pa_cons (pv 3) pa_nil))))))), ?_⟩
    refine ⟨_, rfl, _, _, .type "tuple", _, true, rfl, ClsV.ty _, .base (.tup ht), kit_ty (by decide +kernel), true, rfl, iteF ?_⟩
    refine ⟨_, rfl, _, 2, rfl, .inr ⟨_, .inl (.inl ht), rfl⟩, rfl, _, rfl, iteF ?_⟩
    refine ⟨_, rfl, t, _, rfl, .inl (.inl ht), rfl, _, _, rfl, _, _, rfl, rfl, ?_⟩
    refine ⟨_, rfl, _, rfl, L, e.1, rfl, (by have := ho.w8; omega), fun H1 s1 => ?_⟩
    refine ⟨_, rfl, ?_⟩
    rw [isText_of ho.w1 ho.w8 ho.w]
    refine iteT ?_
    refine ⟨_, rfl, e.2, rfl, (by have := ho.s36; omega), fun H4 s4 => ?_⟩
    rw [isText_of (Nat.zero_le _) ho.s36 fun c hc => mem_caps (ho.s c hc)]
    exact q H4 (s1.trans s4)
abbrev sChL : Stmt := topS 18
theorem scChL : FnScope ["letters"] ["letters"] (defScope sChL) := ⟨rfl, rfl, rfl, by decide +kernel, rfl, by decide +kernel, by decide +kernel⟩
def spChL : Sp := fun vs H Q _ => ∃ (L : List Nat), vs = [.str (T L)] ∧ LetOk L ∧ ∀ (H' : Hp), Same H H' → Q .non H'
theorem ok_chL {f : Addr} {fd : FuncData} (F : Fun K "check_letters" "check_letters" sChL f fd) (C : Cn mg) (DT : Df P w K mg base "is_text" psIsText 1 spIsText) (DR : Df P w K mg base "is_rising" ["text"] 1 spRise) :
    FnOk P w K mg base CX0 2 f fd ["letters"] spChL := by
  obtain ⟨fT, fdT, GT, kT, bT, mT⟩ := DT
  obtain ⟨fR, fdR, GR, kR, bR, mR⟩ := DR
  obtain ⟨tS, mS⟩ := C.small
  refine F.ok scChL (fun vs H Q E h => ?_) (fun cdv A outer s H vs Q E hr h => ?_)
  · obtain ⟨L, rfl, _⟩ := h
    rfl
  · obtain ⟨L, rfl, hL, q⟩ := h
    refine ⟨_, pss_one (ps_if (PW.pt (pw_or (pt_not (pt_val (pe_call GT hr (by rfl) mT kT bT .nil pass0 (pa_cons (pv 0) (pa_cons (pe_glob (v := .str "abcdefghijklmnopqrstuvwxyz") rfl mS ⟨_, rfl⟩) (pa_cons pe_int (pa_cons pe_int pa_nil)))))))
        (pw_or1 (pt_not (pt_val (pe_call GR hr (by rfl) mR kR bR .nil pass0 (pa_cons (pv 0) pa_nil))))))) (pss_one ps_never) pss_nil), ?_⟩
    have l4 := hL.l4
    refine ⟨_, rfl, L, smallL, 2, 4, (by rw [small_eq]; rfl), by omega, fun H1 s1 => ?_⟩
    rw [isText_of hL.l2 hL.l4 fun c hc => mem_small (hL.az c hc)]
    refine ⟨true, rfl, iteF ?_⟩
    refine ⟨_, rfl, L, rfl, by omega, fun H2 s2 => ?_⟩
    rw [hL.up]
    refine ⟨true, rfl, iteF ?_⟩
    exact q H2 (s1.trans s2)
abbrev sChR : Stmt := topS 19
theorem scChR : FnScope ["letters", "rules", "number", "rule"] ["letters", "rules"] (defScope sChR) := ⟨rfl, rfl, rfl, by decide +kernel, rfl, by decide +kernel, by decide +kernel⟩
def spChR : Sp := fun vs H Q _ => ∃ (L : List Nat) (R : Addr) (rs : List Rule), vs = [.str (T L), .ref R] ∧ LetOk L ∧ RulesAt H R rs ∧ (∀ ρ ∈ rs, RuleOk L ρ) ∧ rs.length ≤ 12 ∧ ∀ (H' : Hp), Same H H' → Q .non H'
theorem ok_chR {f : Addr} {fd : FuncData} (F : Fun K "check_rules" "check_rules" sChR f fd) (B : Bn mg) (C : Cn mg) (DI : Df P w K mg base "is_rule" ["letters", "rule"] 3 spIsRule) :
    FnOk P w K mg base CX0 4 f fd ["letters", "rules"] spChR := by
  obtain ⟨fI, fdI, GI, kI, bI, mI⟩ := DI
  obtain ⟨tS, mS⟩ := C.mrul
  refine F.ok scChR (fun vs H Q E h => ?_) (fun cdv A outer s H vs Q E hr h => ?_)
  · obtain ⟨L, R, rs, rfl, _⟩ := h
    rfl
  · obtain ⟨L, R, rs, rfl, hL, ⟨ts, hR, hp⟩, ho, h12, q⟩ := h
    refine ⟨_, pss_cons (ps_if (pt_not (pt_val (pe_callB call_isi (by rfl) B.isi (by decide +kernel) (pa_cons (pv 1) (pa_cons (pe_bltn (v := .ty "tuple") rfl B.tup (by decide +kernel) rfl) pa_nil))))) (pss_one ps_never) pss_nil)
      (pss_one (ps_for PassesOwn.never rfl (pi_enumT (by rfl) B.enu (pa_cons (pv 1) pa_nil)) (pg_tup (by rfl) (pgs_cons (pg_name (i := 2) scChR.nd rfl (.inl rfl)) (pgs_cons (pg_name (i := 3) scChR.nd rfl (.inl rfl)) pgs_nil)))
        (pss_one (ps_if (PW.pt (pw_or (pt_cmpR op_eq (pv 2) (pe_glob (v := .int 12) rfl mS ⟨_, rfl⟩) (nomark _)) (pw_or1 (pt_not (pt_val (pe_call GI hr (by rfl) mI kI bI .nil pass0 (pa_cons (pv 0) (pa_cons (pv 3) pa_nil)))))))) (pss_one ps_never) pss_nil)))), ?_⟩
    refine ⟨_, rfl, _, _, .type "tuple", _, true, rfl, ClsV.ty _, .base (.tup hR), kit_ty (by decide +kernel), true, rfl, iteF ?_⟩
    refine ⟨_, rfl, R, _, rfl, .inl (.inl hR), for_it (walk_enumT (xs := ts.map V.ref)) (fun i σ H2 => Same H H2 ∧ ∃ v2 v3, σ = [some (.str (T L)), some (.ref R), v2, v3]) ⟨Same.refl H, _, _, rfl⟩ (fun i σ H2 _ h => .inl (.inl (h.1 _ _ hR))) ?_ ?_⟩
    · rintro i x σ H2 H3 hi ⟨s2, v2, v3, rfl⟩ ⟨t, x1, x2, rfl, ht, rfl, g1, g2⟩
      cases g1
      have g2 : (ts.map V.ref)[i]? = some x2 := g2
      rw [List.getElem?_map] at g2
      obtain ⟨a, ha, e⟩ := Option.map_eq_some_iff.mp g2
      subst e
      obtain ⟨ρ, hρ, hat⟩ := paired_at hp ha
      have sm := same_new ht (.tup [.int (i : Nat), .ref a])
      have hi2 : i < rs.length := (List.getElem?_eq_some_iff.mp hρ).1
      refine ⟨t, _, rfl, .inl (.inl upd_same), rfl, _, _, rfl, _, _, rfl, rfl, ?_⟩
      refine ⟨_, rfl, rfl, _, rfl, ?_⟩
      have nq : ¬ V.int ((i : Nat) : Int) = V.int 12 := fun z => by
        have := V.int.inj z
        omega
      rw [decide_eq_false nq]
      refine iteF ?_
      refine ⟨_, rfl, _, rfl, L, a, ρ, rfl, sm _ _ (s2 _ _ hat), hL, ho ρ (List.mem_of_getElem? hρ), fun H4 s4 => ?_⟩
      exact ⟨true, rfl, iteF ⟨s2.trans (sm.trans s4), _, _, rfl⟩⟩
    · rintro σ H2 ⟨s2, v2, v3, rfl⟩
      exact q H2 s2
end
end Say
namespace Say
open PySem PySem.Spec PyProof.Rows L2
section
variable {P : Program} {w : World} {K : PySem.W.Frag} {mg : Str → Option Value} {base : Heap}
abbrev sChE : Stmt := topS 20
theorem scChE : FnScope ["letters", "exceptions", "last", "number", "pair"] ["letters", "exceptions"] (defScope sChE) := ⟨rfl, rfl, rfl, by decide +kernel, rfl, by decide +kernel, by decide +kernel⟩
def spChE : Sp := fun vs H Q _ => ∃ (L : List Nat) (X : Addr) (es : List Exc), vs = [.str (T L), .ref X] ∧ ExcsAt H X es ∧ (∀ e ∈ es, ExcOk L e) ∧ es.length ≤ 8 ∧ (es.Pairwise fun e f => e.1 < f.1) ∧ ∀ (H' : Hp), Same H H' → Q .non H'
theorem ok_chE {f : Addr} {fd : FuncData} (F : Fun K "check_exceptions" "check_exceptions" sChE f fd) (B : Bn mg) (cM : KI mg "MOST_EXCEPTIONS" 8) (DI : Df P w K mg base "is_exception" ["letters", "pair"] 3 spIsExc) :
    FnOk P w K mg base CX0 4 f fd ["letters", "exceptions"] spChE := by
  obtain ⟨fI, fdI, GI, kI, bI, mI⟩ := DI
  obtain ⟨tS, mS⟩ := cM
  refine F.ok scChE (fun vs H Q E h => ?_) (fun cdv A outer s H vs Q E hr h => ?_)
  · obtain ⟨L, X, es, rfl, _⟩ := h
    rfl
  · obtain ⟨L, X, es, rfl, ⟨ts, hX, hp⟩, ho, h8, up, q⟩ := h
    refine ⟨_, pss_cons (ps_if (pt_not (pt_val (pe_callB call_isi (by rfl) B.isi (by decide +kernel) (pa_cons (pv 1) (pa_cons (pe_bltn (v := .ty "tuple") rfl B.tup (by decide +kernel) rfl) pa_nil))))) (pss_one ps_never) pss_nil)
      (pss_cons (ps_set (i := 2) scChE.nd rfl (.inl rfl) pe_str)
      (pss_one (ps_for PassesOwn.never rfl (pi_enumT (by rfl) B.enu (pa_cons (pv 1) pa_nil)) (pg_tup (by rfl) (pgs_cons (pg_name (i := 3) scChE.nd rfl (.inl rfl)) (pgs_cons (pg_name (i := 4) scChE.nd rfl (.inl rfl)) pgs_nil)))
        (pss_cons (ps_if (PW.pt (pw_or (pt_cmpR op_eq (pv 3) (pe_glob (v := .int 8) rfl mS ⟨_, rfl⟩) (nomark _)) (pw_or (pt_not (pt_val (pe_call GI hr (by rfl) mI kI bI .nil pass0 (pa_cons (pv 0) (pa_cons (pv 4) pa_nil)))))
            (pw_or1 (pt_cmpR op_le_str (pe_ix ix_tup (pv 4) pe_int (fun _ _ => rfl)) (pv 2) (nomark _)))))) (pss_one ps_never) pss_nil)
        (pss_one (ps_set (i := 2) scChE.nd rfl (.inl rfl) (pe_ix ix_tup (pv 4) pe_int (fun _ _ => rfl)))))))), ?_⟩
    refine ⟨_, rfl, _, _, .type "tuple", _, true, rfl, ClsV.ty _, .fTuple hX.choose_spec.1, kit_ty (by decide +kernel), true, rfl, iteF ?_⟩
    refine ⟨_, rfl, X, _, rfl, .inl hX.rd, for_it (walk_enumT (xs := ts.map V.ref)) (fun i σ H2 => Same H H2 ∧ ∃ l v3 v4, σ = [some (.str (T L)), some (.ref X), some (.str (T l)), v3, v4] ∧ ∀ e, es[i]? = some e → l < e.1) ⟨Same.refl H, [], _, _, by rw [← show Str.ofString "" = T [] from nil_eq]; rfl, fun e he => ?_⟩ (fun i σ H2 _ h => .inl (hX.kt (.of h.1)).rd) ?_ ?_⟩
    · have := (ho e (List.mem_of_getElem? he)).w1
      cases h : e.1 with
      | nil => rw [h] at this; exact absurd this (by decide)
      | cons a r => exact List.Lex.nil
    · rintro i x σ H2 H3 hi ⟨s2, l, v3, v4, rfl, hlt⟩ ⟨t, x1, x2, rfl, ht, rfl, g1, g2⟩
      cases g1
      have g2 : (ts.map V.ref)[i]? = some x2 := g2
      rw [List.getElem?_map] at g2
      obtain ⟨a, ha, e⟩ := Option.map_eq_some_iff.mp g2
      subst e
      obtain ⟨e, he, hat⟩ := paired_at hp ha
      have sm := same_new ht (.tup [.int (i : Nat), .ref a])
      have hi2 : i < es.length := (List.getElem?_eq_some_iff.mp he).1
      refine ⟨t, _, rfl, .inl (.inl upd_same), rfl, _, _, rfl, _, _, rfl, rfl, ?_⟩
      refine ⟨_, rfl, rfl, _, rfl, ?_⟩
      have nq : ¬ V.int ((i : Nat) : Int) = V.int 8 := fun z => by
        have := V.int.inj z
        omega
      rw [decide_eq_false nq]
      refine iteF ?_
      refine ⟨_, rfl, _, rfl, L, a, e, rfl, sm _ _ (s2 _ _ hat), ho e (List.mem_of_getElem? he), fun H4 s4 => ?_⟩
      have hat4 := s4 _ _ (sm _ _ (s2 _ _ hat))
      refine ⟨true, rfl, iteF ?_⟩
      refine ⟨_, rfl, a, _, 0, .str (T e.1), rfl, rfl, .inl (.inl hat4), atI_nat (j := 0) rfl, _, rfl, _, _, rfl, rfl, _, rfl, ?_⟩
      have lt := hlt e he
      rw [show decide ((T l).cps.toList < (T e.1).cps.toList) = true from decide_eq_true lt]
      refine iteF ?_
      refine ⟨_, rfl, a, _, 0, .str (T e.1), rfl, rfl, .inl (.inl hat4), atI_nat (j := 0) rfl, ?_⟩
      refine ⟨s2.trans (sm.trans s4), e.1, _, _, rfl, fun e' he' => ?_⟩
      exact (List.pairwise_iff_getElem.mp up) i (i + 1) hi2 (List.getElem?_eq_some_iff.mp he').1 (Nat.lt_succ_self _) |> fun h => by
        rw [(List.getElem?_eq_some_iff.mp he).2, (List.getElem?_eq_some_iff.mp he').2] at h
        exact h
    · rintro σ H2 ⟨s2, l, v3, v4, rfl, _⟩
      exact q H2 s2
abbrev sCh : Stmt := topS 17
theorem scCh : FnScope ["book", "letters", "rules", "exceptions"] ["book"] (defScope sCh) := ⟨rfl, rfl, rfl, by decide +kernel, rfl, by decide +kernel, by decide +kernel⟩
def spCh : Sp := fun vs H Q _ => ∃ (b : Addr) (L : List Nat) (rs : List Rule) (es : List Exc), vs = [.ref b] ∧ BookAt H b L rs es ∧ BookOk L rs es ∧ ∀ (H' : Hp), Same H H' → Q (.ref b) H'
theorem ok_ch {f : Addr} {fd : FuncData} (F : Fun K "checked_book" "checked_book" sCh f fd) (B : Bn mg) (DL : Df P w K mg base "check_letters" ["letters"] 2 spChL) (DR : Df P w K mg base "check_rules" ["letters", "rules"] 4 spChR)
    (DE : Df P w K mg base "check_exceptions" ["letters", "exceptions"] 4 spChE) : FnOk P w K mg base CX0 5 f fd ["book"] spCh := by
  obtain ⟨fL, fdL, GL, kL, bL, mL⟩ := DL
  obtain ⟨fR, fdR, GR, kR, bR, mR⟩ := DR
  obtain ⟨fE, fdE, GE, kE, bE, mE⟩ := DE
  refine F.ok scCh (fun vs H Q E h => ?_) (fun cdv A outer s H vs Q E hr h => ?_)
  · obtain ⟨b, L, rs, es, rfl, _⟩ := h
    rfl
  · obtain ⟨b, L, rs, es, rfl, ⟨R, X, hb, hR, hX⟩, ho, q⟩ := h
    refine ⟨_, pss_cons (ps_if (PW.pt (pw_or (pt_not (pt_val (pe_callB call_isi (by rfl) B.isi (by decide +kernel) (pa_cons (pv 0) (pa_cons (pe_bltn (v := .ty "tuple") rfl B.tup (by decide +kernel) rfl) pa_nil)))))
          (pw_or1 (pt_cmpR op_ne (pe_callB call_len (by rfl) B.len PySem.boot_len (pa_cons (pv 0) pa_nil)) pe_int (nomark _))))) (pss_one ps_never) pss_nil)
      (pss_cons (ps_asg (pv 0) (pg_tup (by rfl) (pgs_cons (pg_name (i := 1) scCh.nd rfl (.inl rfl)) (pgs_cons (pg_name (i := 2) scCh.nd rfl (.inl rfl)) (pgs_cons (pg_name (i := 3) scCh.nd rfl (.inl rfl)) pgs_nil)))))
      (pss_cons (ps_expr (pe_call GL (hr.mono (by decide)) (by rfl) mL kL bL .nil pass0 (pa_cons (pv 1) pa_nil)))
      (pss_cons (ps_expr (pe_call GR hr (by rfl) mR kR bR .nil pass0 (pa_cons (pv 1) (pa_cons (pv 2) pa_nil))))
      (pss_cons (ps_expr (pe_call GE hr (by rfl) mE kE bE .nil pass0 (pa_cons (pv 1) (pa_cons (pv 3) pa_nil))))
      (pss_one (ps_ret (pv 0))))))), ?_⟩
    refine ⟨_, rfl, _, _, .type "tuple", _, true, rfl, ClsV.ty _, .base (.tup hb), kit_ty (by decide +kernel), true, rfl, iteF ?_⟩
    refine ⟨_, rfl, _, 3, rfl, .inr ⟨_, .inl (.inl hb), rfl⟩, rfl, _, rfl, iteF ?_⟩
    refine ⟨_, rfl, b, _, rfl, .inl (.inl hb), rfl, _, _, rfl, _, _, rfl, _, _, rfl, rfl, ?_⟩
    refine ⟨_, rfl, L, rfl, ho.lt, fun H1 s1 => ?_⟩
    refine ⟨_, rfl, _, rfl, L, R, rs, rfl, ho.lt, hR.kt (.of s1), ho.rl, ho.r12, fun H2 s2 => ?_⟩
    refine ⟨_, rfl, _, rfl, L, X, es, rfl, hX.kt (.of (s1.trans s2)), ho.ex, ho.e8, ho.up, fun H3 s3 => ?_⟩
    exact ⟨_, rfl, q H3 (s1.trans (s2.trans s3))⟩
end
end Say
namespace Say
open PySem PySem.Spec PyProof.Rows L2
/-! ### books as texts -/
def mkE (z : List Nat) : List Nat := if z = [] then [45] else z
def umE (z : List Nat) : List Nat := if z = [45] then [] else z
theorem um_mk {z : List Nat} (h : 45 ∉ z) : umE (mkE z) = z := by
  unfold umE mkE
  by_cases e : z = []
  · rw [if_pos e, if_pos rfl, e]
  · rw [if_neg e, if_neg (fun c => h (by rw [c]; exact List.mem_singleton.mpr rfl))]
theorem mk_ne (z : List Nat) : mkE z ≠ [] := by
  unfold mkE
  by_cases e : z = []
  · rw [if_pos e]; exact fun c => by cases c
  · rw [if_neg e]; exact e
theorem mk_len (z : List Nat) : (mkE z).length ≤ z.length + 1 := by
  unfold mkE
  by_cases e : z = []
  · rw [if_pos e]; exact Nat.le_add_left _ _
  · rw [if_neg e]; omega
theorem mk_mem {z : List Nat} {c : Nat} (h : c ∈ mkE z) : c ∈ z ∨ c = 45 := by
  unfold mkE at h
  by_cases e : z = []
  · rw [if_pos e] at h; exact .inr (List.mem_singleton.mp h)
  · rw [if_neg e] at h; exact .inl h
def kwL : List Nat := [108, 101, 116, 116, 101, 114, 115]
def kwR : List Nat := [114, 117, 108, 101]
def kwW : List Nat := [119, 111, 114, 100]
theorem kwL_eq : Str.ofString "letters" = T kwL := by decide +kernel
theorem kwR_eq : Str.ofString "rule" = T kwR := by decide +kernel
theorem kwW_eq : Str.ofString "word" = T kwW := by decide +kernel
theorem dash_eq : Str.ofString "-" = T [45] := by decide +kernel
theorem sp_eq : Str.ofString " " = T [32] := by decide +kernel
theorem nl_eq : Str.ofString "\n" = T [10] := by decide +kernel
def ruleRow (ρ : Rule) : List (List Nat) := [kwR, ρ.ah, ρ.ow, ρ.be, ρ.so]
def excRow (e : Exc) : List (List Nat) := [kwW, e.1, e.2]
def rowsM (L : List Nat) (rs : List Rule) (es : List Exc) : List (List (List Nat)) := [kwL, L] :: (rs.map ruleRow ++ es.map excRow)
def markR (r : List (List Nat)) : List (List Nat) := r.map mkE
def wordsM (L : List Nat) (rs : List Rule) (es : List Exc) : List (List (List Nat)) := (rowsM L rs es).map markR
def lineM (r : List (List Nat)) : List Nat := TL.joinL [32] r
def textM (L : List Nat) (rs : List Rule) (es : List Exc) : List Nat := TL.joinL [10] ((wordsM L rs es).map lineM)
theorem join_T (s : List Nat) (ls : List (List Nat)) : Txt.join (T s) (ls.map T) = T (TL.joinL s ls) := by
  refine TL.ext_tl ?_
  rw [TL.join_eq, TL.tl_join]
  show TL.joinL s ((ls.map T).map TL.tl) = TL.joinL s ls
  rw [List.map_map]
  congr 1
  exact List.map_id' ls
theorem split_T {c : Nat} (hc : c < 256) {ls : List (List Nat)} (hne : ls ≠ []) (h : ∀ l ∈ ls, c ∉ l) : Txt.split (T (TL.joinL [c] ls)) (T [c]) = ls.map T := by
  rw [← join_T]
  refine TL.split_join (s := c) (S := []) rfl (by simp [hc]) (fun e => hne (List.map_eq_nil_iff.mp e)) fun p hp => ?_
  obtain ⟨l, hl, rfl⟩ := List.mem_map.mp hp
  exact h l hl
theorem joinL_len (s : List Nat) : ∀ ls : List (List Nat), (TL.joinL s ls).length ≤ (ls.map List.length).sum + ls.length * s.length
  | [] => Nat.zero_le _
  | [p] => by
    show p.length ≤ p.length + 0 + (0 + 1) * s.length
    omega
  | p :: q :: r => by
    have ih := joinL_len s (q :: r)
    show (p ++ (s ++ TL.joinL s (q :: r))).length ≤ p.length + ((q :: r).map List.length).sum + ((q :: r).length + 1) * s.length
    rw [List.length_append, List.length_append, Nat.add_mul]
    omega
theorem joinL_mem {s : List Nat} {c : Nat} : ∀ {ls : List (List Nat)}, c ∈ TL.joinL s ls → c ∈ s ∨ ∃ l ∈ ls, c ∈ l
  | [], h => by cases h
  | [p], h => .inr ⟨p, List.mem_singleton.mpr rfl, h⟩
  | p :: q :: r, h => by
    have h : c ∈ p ++ (s ++ TL.joinL s (q :: r)) := h
    rcases List.mem_append.mp h with h | h
    · exact .inr ⟨p, List.mem_cons_self .., h⟩
    · rcases List.mem_append.mp h with h | h
      · exact .inl h
      · rcases joinL_mem h with h | ⟨l, hl, h⟩
        · exact .inl h
        · exact .inr ⟨l, List.mem_cons_of_mem _ hl, h⟩
theorem sum_le {n : Nat} : ∀ {ls : List Nat}, (∀ x ∈ ls, x ≤ n) → ls.sum ≤ ls.length * n
  | [], _ => Nat.zero_le _
  | x :: r, h => by
    have h1 := h x (List.mem_cons_self ..)
    have h2 := sum_le (n := n) (ls := r) fun y hy => h y (List.mem_cons_of_mem _ hy)
    rw [List.sum_cons, List.length_cons, Nat.add_mul]
    omega
/-- what a row's words are like -/
structure RowOk (r : List (List Nat)) : Prop where
  l1 : 1 ≤ r.length
  l5 : r.length ≤ 5
  w : ∀ z ∈ r, z.length ≤ 36
  c : ∀ z ∈ r, ∀ c ∈ z, c ≠ 45 ∧ c ≠ 32 ∧ c ≠ 10 ∧ c < 256
theorem sub_side {L z : List Nat} (hL : LetOk L) (s : z.Sublist (35 :: L)) : ∀ c ∈ z, c ≠ 45 ∧ c ≠ 32 ∧ c ≠ 10 ∧ c < 256 := fun c hc => by
  rcases List.mem_cons.mp (s.subset hc) with h | h
  · subst h; exact ⟨by decide, by decide, by decide, by decide⟩
  · have := hL.az c h; exact ⟨by omega, by omega, by omega, by omega⟩
theorem caps_sign {z : List Nat} (h : ∀ c ∈ z, 65 ≤ c ∧ c ≤ 90) : ∀ c ∈ z, c ≠ 45 ∧ c ≠ 32 ∧ c ≠ 10 ∧ c < 256 := fun c hc => by
  have := h c hc; exact ⟨by omega, by omega, by omega, by omega⟩
theorem let_sign {L z : List Nat} (hL : LetOk L) (h : ∀ c ∈ z, c ∈ L) : ∀ c ∈ z, c ≠ 45 ∧ c ≠ 32 ∧ c ≠ 10 ∧ c < 256 := fun c hc => by
  have := hL.az c (h c hc); exact ⟨by omega, by omega, by omega, by omega⟩
theorem kw_sign {z : List Nat} (h : z = kwL ∨ z = kwR ∨ z = kwW) : ∀ c ∈ z, c ≠ 45 ∧ c ≠ 32 ∧ c ≠ 10 ∧ c < 256 := by
  rcases h with rfl | rfl | rfl <;> decide
theorem ruleRow_ok {L : List Nat} {ρ : Rule} (hL : LetOk L) (h : RuleOk L ρ) : RowOk (ruleRow ρ) := by
  have l4 := hL.l4
  have l5 := h.ah.length_le
  have l6 := h.be.length_le
  rw [List.length_cons] at l5 l6
  have o2 := h.o2
  have s3 := h.s3
  refine ⟨(by show 1 ≤ 5; decide), (by show 5 ≤ 5; decide), fun z hz => ?_, fun z hz => ?_⟩ <;> (simp only [ruleRow, List.mem_cons, List.not_mem_nil, or_false] at hz)
  · rcases hz with rfl | rfl | rfl | rfl | rfl
    · decide
    all_goals omega
  · rcases hz with rfl | rfl | rfl | rfl | rfl
    · exact kw_sign (.inr (.inl rfl))
    · exact sub_side hL h.ah
    · exact let_sign hL h.ow
    · exact sub_side hL h.be
    · exact caps_sign h.so
theorem excRow_ok {L : List Nat} {e : Exc} (hL : LetOk L) (h : ExcOk L e) : RowOk (excRow e) := by
  have w8 := h.w8
  have s36 := h.s36
  refine ⟨(by show 1 ≤ 3; decide), (by show 3 ≤ 5; decide), fun z hz => ?_, fun z hz => ?_⟩ <;> (simp only [excRow, List.mem_cons, List.not_mem_nil, or_false] at hz)
  · rcases hz with rfl | rfl | rfl
    · decide
    all_goals omega
  · rcases hz with rfl | rfl | rfl
    · exact kw_sign (.inr (.inr rfl))
    · exact let_sign hL h.w
    · exact caps_sign h.s
theorem letRow_ok {L : List Nat} (hL : LetOk L) : RowOk [kwL, L] := by
  have l4 := hL.l4
  refine ⟨(by show 1 ≤ 2; decide), (by show 2 ≤ 5; decide), fun z hz => ?_, fun z hz => ?_⟩ <;> (simp only [List.mem_cons, List.not_mem_nil, or_false] at hz)
  · rcases hz with rfl | rfl
    · decide
    · omega
  · rcases hz with rfl | rfl
    · exact kw_sign (.inl rfl)
    · exact let_sign hL fun c h => h
theorem rows_ok {L : List Nat} {rs : List Rule} {es : List Exc} (h : BookOk L rs es) : ∀ r ∈ rowsM L rs es, RowOk r := fun r hr => by
  unfold rowsM at hr
  rcases List.mem_cons.mp hr with rfl | hr
  · exact letRow_ok h.lt
  rcases List.mem_append.mp hr with hr | hr
  · obtain ⟨ρ, hρ, rfl⟩ := List.mem_map.mp hr
    exact ruleRow_ok h.lt (h.rl ρ hρ)
  · obtain ⟨e, he, rfl⟩ := List.mem_map.mp hr
    exact excRow_ok h.lt (h.ex e he)
theorem rows_len {L : List Nat} {rs : List Rule} {es : List Exc} (h : BookOk L rs es) : (rowsM L rs es).length ≤ 21 := by
  have := h.r12
  have := h.e8
  unfold rowsM
  rw [List.length_cons, List.length_append, List.length_map, List.length_map]
  omega
theorem mark_len {r : List (List Nat)} (h : RowOk r) : ((markR r).map List.length).sum ≤ 185 := by
  have h5 := h.l5
  refine Nat.le_trans (sum_le (n := 37) fun x hx => ?_) ?_
  · obtain ⟨z, hz, rfl⟩ := List.mem_map.mp hx
    obtain ⟨y, hy, rfl⟩ := List.mem_map.mp hz
    exact Nat.le_trans (mk_len y) (Nat.succ_le_succ (h.w y hy))
  · unfold markR
    rw [List.length_map, List.length_map]
    omega
theorem line_len {r : List (List Nat)} (h : RowOk r) : (lineM (markR r)).length ≤ 190 := by
  have h1 := joinL_len [32] (markR r)
  have h2 := mark_len h
  have h5 := h.l5
  unfold lineM
  have e : (markR r).length = r.length := by unfold markR; rw [List.length_map]
  rw [e] at h1
  have : r.length * [32].length = r.length := Nat.mul_one _
  omega
theorem lines_len {L : List Nat} {rs : List Rule} {es : List Exc} (h : BookOk L rs es) : (((wordsM L rs es).map lineM).map List.length).sum ≤ 3990 := by
  have hl := rows_len h
  refine Nat.le_trans (sum_le (n := 190) fun x hx => ?_) ?_
  · obtain ⟨z, hz, rfl⟩ := List.mem_map.mp hx
    obtain ⟨y, hy, rfl⟩ := List.mem_map.mp hz
    obtain ⟨r, hr, rfl⟩ := List.mem_map.mp hy
    exact line_len (rows_ok h r hr)
  · unfold wordsM
    rw [List.length_map, List.length_map, List.length_map]
    omega
theorem text_len {L : List Nat} {rs : List Rule} {es : List Exc} (h : BookOk L rs es) : (textM L rs es).length ≤ 4011 := by
  have h1 := joinL_len [10] ((wordsM L rs es).map lineM)
  have h2 := lines_len h
  have hl := rows_len h
  unfold textM
  have e : ((wordsM L rs es).map lineM).length = (rowsM L rs es).length := by unfold wordsM; rw [List.length_map, List.length_map]
  rw [e] at h1
  have : (rowsM L rs es).length * [10].length = (rowsM L rs es).length := Nat.mul_one _
  omega
theorem mark_sign {r : List (List Nat)} (h : RowOk r) : ∀ z ∈ markR r, ∀ c ∈ z, c ≠ 32 ∧ c ≠ 10 ∧ c < 256 := fun z hz c hc => by
  obtain ⟨y, hy, rfl⟩ := List.mem_map.mp hz
  rcases mk_mem hc with hc | hc
  · have := h.c y hy c hc; exact ⟨this.2.1, this.2.2.1, this.2.2.2⟩
  · subst hc; exact ⟨by decide, by decide, by decide⟩
/-- the text, cut at the ends of its rows -/
theorem split_rows {L : List Nat} {rs : List Rule} {es : List Exc} (h : BookOk L rs es) : Txt.split (T (textM L rs es)) (T [10]) = ((wordsM L rs es).map lineM).map T := by
  refine split_T (by decide) (fun e => by unfold wordsM rowsM at e; cases e) fun l hl hc => ?_
  obtain ⟨z, hz, rfl⟩ := List.mem_map.mp hl
  obtain ⟨r, hr, rfl⟩ := List.mem_map.mp hz
  rcases joinL_mem hc with hc | ⟨y, hy, hc⟩
  · revert hc; decide
  · exact (mark_sign (rows_ok h r hr) y hy 10 hc).2.1 rfl
/-- a row, cut at its blanks -/
theorem split_row {r : List (List Nat)} (h : RowOk r) : Txt.split (T (lineM (markR r))) (T [32]) = (markR r).map T := by
  refine split_T (by decide) (fun e => ?_) fun l hl hc => ?_
  · have := h.l1
    unfold markR at e
    rw [List.map_eq_nil_iff.mp e] at this
    exact absurd this (by decide)
  · exact (mark_sign h l hl 32 hc).1 rfl
theorem row_back {r : List (List Nat)} (h : RowOk r) : (markR r).map umE = r := by
  unfold markR
  rw [List.map_map]
  have : ∀ l : List (List Nat), (∀ z ∈ l, 45 ∉ z) → l.map (umE ∘ mkE) = l := by
    intro l hl
    induction l with
    | nil => rfl
    | cons z t ih =>
      rw [List.map_cons, ih fun y hy => hl y (List.mem_cons_of_mem _ hy)]
      show umE (mkE z) :: t = z :: t
      rw [um_mk (hl z (List.mem_cons_self ..))]
  exact this r fun z hz hc => (h.c z hz 45 hc).1 rfl
theorem mk_id {z : List Nat} (h : z ≠ []) : mkE z = z := if_neg h
end Say
namespace Say
open PySem PySem.Spec PyProof.Rows L2
/-- a written dict: what stands at a key, or none -/
def KGt (K : PySem.W.Frag) (w : World) (a : Addr) (x : Str) (v : V) : Prop :=
  ∃ es n r, K.lookup a = some ⟨.type "dict", none, .dict es n, #[]⟩ ∧ PySem.W.KeysLit w.params es.toList ∧ (a == sysModules) = false ∧ PySem.W.nsIn K a x = some r ∧ RelV v (r.getD .none)
section
variable {X : Cx} {o e : Expr} {apos cpos : Pos} {td ty : TE} {d : Addr}
/-- d.get(x) of a written dict -/
def tKGet (K : PySem.W.Frag) (w : World) (d : Addr) (td ty : TE) : TE := fun σ H Q => td σ H fun x H1 => x = .ref d ∧ ty σ H1 fun y H2 => ∃ (z : Str) (v : V), y = .str z ∧ KGt K w d z v ∧ Q v H2
theorem pe_kget {es : Array DictEntry} {n : Nat} (hl : X.K.lookup d = some ⟨.type "dict", none, .dict es n, #[]⟩) (hk : PySem.W.KeysLit X.w.params es.toList) (ho : PE X o td) (he : PE X e ty) (m : M1 X o "get" apos e cpos) :
    PE X (.Call (.Attribute o "get" apos) [e] [] cpos) (tKGet X.K X.w d td ty) := by
  refine ⟨fun pins s σ H Q I h => ?_⟩
  refine wpAny_Call_method m.base m.few m.line PySem.F.plainAttrs_dict PySem.F.slot_dict_get PySem.F.type_dict_get (thn (ho.run pins s σ H _ I h) fun u s1 ⟨x, H1, I1, rx, ex, q1⟩ => ?_)
  subst ex
  obtain rfl : u = Value.ref d := rx
  have hm1 := PySem.W.mapOf_K (prog := X.prog) (w := X.w) I1.kIn hl hk
  refine ⟨hm1.typeIs, fun b hb => ?_, ?_⟩
  · cases hb
    exact ⟨_, I1.kIn _ _ hl, rfl⟩
  rw [m.trees]
  refine Calls.callWith_builtin rfl (Calls.evalArgs_plain (Calls.spliced_cons (thn (he.run pins s1 σ H1 _ I1 q1) fun iv s2 ⟨y, H2, I2, ry, z, v, ey, g, q2⟩ => Calls.spliced_nil ?_)))
  subst ey
  obtain ⟨t, rfl⟩ := ry
  obtain ⟨es', n', r, hl', hk', lo, e, rv⟩ := g
  have hm := PySem.W.mapOf_K (prog := X.prog) (w := X.w) I2.kIn hl' hk'
  refine call_meetsIn PySem.F.slot_dict_get hm.typeIs PySem.F.entry_dict_get (PySem.F.args_dict_get_2 _ _) (meets_dict_get (strKind X.prog X.w) d (strKind_is X.prog X.w z t) lo) ⟨_, hm, ?_⟩
  rw [PySem.W.find_K hl' e]
  exact ⟨v, H2, I2.tok _, rv, q2⟩
end
end Say
namespace Say
open PySem PySem.Spec PyProof.Rows L2
def strV (r : List (List Nat)) : List V := (r.map T).map V.str
/-- tuples of texts, one for each row -/
def TRows (H : Hp) (ts : List Addr) (rows : List (List (List Nat))) : Prop := Paired (fun t r => H t = some (.tup (strV r))) ts rows
theorem TRows.same {H H' : Hp} {ts : List Addr} {rows : List (List (List Nat))} (h : TRows H ts rows) (s : Same H H') : TRows H' ts rows := paired_mono (fun _ _ q => s _ _ q) h
theorem TRows.kt {H H' : Hp} {ts : List Addr} {rows : List (List (List Nat))} (h : TRows H ts rows) (s : KT H H') : TRows H' ts rows := paired_mono (fun _ _ q => s.1 _ _ q) h
theorem take_snoc {α : Type} {l : List α} {i : Nat} {x : α} (h : l[i]? = some x) : l.take (i + 1) = l.take i ++ [x] := by
  rw [List.take_add_one, h]; rfl
/-- the list at D alone is another one -/
theorem stp_lst {H H' : Hp} {D : Addr} {xs : List V} (s : Stp D H H') (hD : H D = some (.lst xs)) : KT H H' := KT.by fun t u h hu => s t _ h (ne_of h hD (by rcases hu with ⟨_, rfl⟩ | ⟨_, _, rfl⟩ <;> (intro z; cases z)))
/-- sep.join(xs) -/
abbrev tJoin (K : PySem.W.Frag) (to te : TE) : TE := tM1 (fun x xs H Q => ∃ a p, ∃ ys : List Str, x = .str a ∧ xs = [.ref p] ∧ (SqL K H p (ys.map V.str) ∨ SqT K H p (ys.map V.str)) ∧ (ys.map (·.length)).sum + ys.length * a.length ≤ 16777216 ∧ Q (.str (Txt.join a ys)) H) to te
section
variable {P : Program} {w : World} {K : PySem.W.Frag} {mg : Str → Option Value} {base : Heap}
abbrev sMk : Stmt := topS 37
theorem scMk : FnScope ["text"] ["text"] (defScope sMk) := ⟨rfl, rfl, rfl, by decide +kernel, rfl, by decide +kernel, by decide +kernel⟩
def spMk : Sp := fun vs H Q _ => ∃ (z : List Nat), vs = [.str (T z)] ∧ Q (.str (T (mkE z))) H
theorem T_empty {z : List Nat} : (V.str (T z) = V.str (Str.ofString "")) ↔ z = [] := by
  rw [show Str.ofString "" = T [] from nil_eq]
  exact ⟨fun h => T_inj (V.str.inj h), fun h => by rw [h]⟩
theorem ok_mk {f : Addr} {fd : FuncData} {k : Nat} (F : Fun K "marked" "marked" sMk f fd) (cE : ∃ t, mg "EMPTY" = some (.str "-" t)) : FnOk P w K mg base CX0 (k + 1) f fd ["text"] spMk := by
  obtain ⟨tE, mE⟩ := cE
  refine F.ok scMk (fun vs H Q E h => ?_) (fun cdv A outer s H vs Q E hr h => ?_)
  · obtain ⟨z, rfl, _⟩ := h
    rfl
  · obtain ⟨z, rfl, q⟩ := h
    refine ⟨_, pss_cons (ps_if (pt_cmpR op_eq (pv 0) pe_str (nomark _)) (pss_one (ps_ret (pe_glob (v := .str "-") rfl mE ⟨_, rfl⟩))) pss_nil) (pss_one (ps_ret (pv 0))), ?_⟩
    refine ⟨_, rfl, rfl, _, rfl, ite2 (fun c => ?_) (fun c => ?_)⟩
    · have c := T_empty.mp (of_decide_eq_true c)
      subst c
      exact q
    · have c : ¬ z = [] := fun e => c (decide_eq_true (T_empty.mpr e))
      unfold mkE at q
      rw [if_neg c] at q
      exact ⟨_, rfl, q⟩
abbrev sUm : Stmt := topS 38
theorem scUm : FnScope ["word"] ["word"] (defScope sUm) := ⟨rfl, rfl, rfl, by decide +kernel, rfl, by decide +kernel, by decide +kernel⟩
def spUm : Sp := fun vs H Q _ => ∃ (z : List Nat), vs = [.str (T z)] ∧ Q (.str (T (umE z))) H
theorem T_dash {z : List Nat} : (V.str (T z) = V.str (Str.ofString "-")) ↔ z = [45] := by
  rw [dash_eq]
  exact ⟨fun h => T_inj (V.str.inj h), fun h => by rw [h]⟩
theorem ok_um {f : Addr} {fd : FuncData} {k : Nat} (F : Fun K "unmarked" "unmarked" sUm f fd) (cE : ∃ t, mg "EMPTY" = some (.str "-" t)) : FnOk P w K mg base CX0 (k + 1) f fd ["word"] spUm := by
  obtain ⟨tE, mE⟩ := cE
  refine F.ok scUm (fun vs H Q E h => ?_) (fun cdv A outer s H vs Q E hr h => ?_)
  · obtain ⟨z, rfl, _⟩ := h
    rfl
  · obtain ⟨z, rfl, q⟩ := h
    refine ⟨_, pss_cons (ps_if (pt_cmpR op_eq (pv 0) (pe_glob (v := .str "-") rfl mE ⟨_, rfl⟩) (nomark _)) (pss_one (ps_ret pe_str)) pss_nil) (pss_one (ps_ret (pv 0))), ?_⟩
    refine ⟨_, rfl, rfl, _, rfl, ite2 (fun c => ?_) (fun c => ?_)⟩
    · have c := T_dash.mp (of_decide_eq_true c)
      subst c
      exact q
    · have c : ¬ z = [45] := fun e => c (decide_eq_true (T_dash.mpr e))
      unfold umE at q
      rw [if_neg c] at q
      exact ⟨_, rfl, q⟩
abbrev sWt : Stmt := topS 32
abbrev nWt : List Str := ["book", "letters", "rules", "exceptions", "rows", "rule", "pair", "row", "word"]
theorem scWt : FnScope nWt ["book"] (defScope sWt) := ⟨rfl, rfl, rfl, by decide +kernel, rfl, by decide +kernel, by decide +kernel⟩
def spWt : Sp := fun vs H Q _ => ∃ (b : Addr) (L : List Nat) (rs : List Rule) (es : List Exc), vs = [.ref b] ∧ BookAt H b L rs es ∧ BookOk L rs es ∧ ∀ (H' : Hp), Same H H' → Q (.str (T (textM L rs es))) H'
theorem ok_wt {f : Addr} {fd : FuncData} (F : Fun K "written" "written" sWt f fd) (DC : Df P w K mg base "checked_book" ["book"] 5 spCh) (DM : Df P w K mg base "marked" ["text"] 1 spMk) :
    FnOk P w K mg base CX0 6 f fd ["book"] spWt := by
  obtain ⟨fC, fdC, GC, kC, bC, mC⟩ := DC
  obtain ⟨fM, fdM, GM, kM, bM, mM⟩ := DM
  refine F.ok scWt (fun vs H Q E h => ?_) (fun cdv A outer s H vs Q E hr h => ?_)
  · obtain ⟨b, L, rs, es, rfl, _⟩ := h
    rfl
  · obtain ⟨b, L, rs, es, rfl, hB, ho, q⟩ := h
    have hr1 : Room 1 _ := hr.mono (by decide)
    refine ⟨_, pss_cons (ps_asg (pe_call GC hr (by rfl) mC kC bC .nil pass0 (pa_cons (pv 0) pa_nil)) (pg_tup (by rfl) (pgs_cons (pg_name (i := 1) scWt.nd rfl (.inl rfl)) (pgs_cons (pg_name (i := 2) scWt.nd rfl (.inl rfl)) (pgs_cons (pg_name (i := 3) scWt.nd rfl (.inl rfl)) pgs_nil)))))
      (pss_cons (ps_set (i := 4) scWt.nd rfl (.inl rfl) (pe_lst (pa_cons (pe_tup (pa_cons pe_str (pa_cons (pv 1) pa_nil))) pa_nil)))
      (pss_cons (ps_expr (pe_bm PySem.F.plainAttrs_list PySem.F.slot_list_extend PySem.F.type_list_extend mt_extend (pv 4) (pa_cons (pe_lc (own := [("rule", 5)]) (g := gName 5) (te := tTup (tCons (tC (.str "rule")) (StX.tStar K (tVar 5) tNil))) rfl scWt.nd
          (pi_tup (pv 2)) (blkOk_by (N := nWt) (sc := defScope sWt) (by decide +kernel)) (fun _ _ _ _ _ => pg_name (i := 5) scWt.nd rfl (.inl rfl)) (fun _ _ _ _ _ => pts_nil) (fun _ _ _ _ _ => pe_tup (pa_cons pe_str (StX.pa_star (pv 5) pa_nil)))) pa_nil)))
      (pss_cons (ps_expr (pe_bm PySem.F.plainAttrs_list PySem.F.slot_list_extend PySem.F.type_list_extend mt_extend (pv 4) (pa_cons (pe_lc (own := [("pair", 6)]) (g := gName 6) (te := tTup (tCons (tC (.str "word")) (StX.tStar K (tVar 6) tNil))) rfl scWt.nd
          (pi_tup (pv 3)) (blkOk_by (N := nWt) (sc := defScope sWt) (by decide +kernel)) (fun _ _ _ _ _ => pg_name (i := 6) scWt.nd rfl (.inl rfl)) (fun _ _ _ _ _ => pts_nil) (fun _ _ _ _ _ => pe_tup (pa_cons pe_str (StX.pa_star (pv 6) pa_nil)))) pa_nil)))
      (pss_one (ps_ret (pe_join pe_str (pe_lc (own := [("row", 7)]) (g := gName 7) (te := tJoin K (tC (.str " ")) (tLc (iTup K (tVar 7)) (gName 8) tYes (tCall spMk [] E0 (tCons (tVar 8) tNil)) [8])) rfl scWt.nd
          (pi_list (pv 4)) (blkOk_by (N := nWt) (sc := defScope sWt) (by decide +kernel)) (fun _ _ _ _ _ => pg_name (i := 7) scWt.nd rfl (.inl rfl)) (fun _ _ _ _ _ => pts_nil)
          (fun _ _ _ _ _ => pe_join pe_str (pe_lc (own := [("word", 8)]) (g := gName 8) rfl scWt.nd (pi_tup (pv 7)) (blkOk_by (by kernel_rfl)) (fun _ _ _ _ _ => pg_name (i := 8) scWt.nd rfl (.inl rfl)) (fun _ _ _ _ _ => pts_nil)
            (fun _ _ _ _ _ => pe_call GM hr1 (by rfl) mM kM bM .nil pass0 (pa_cons (pv 8) pa_nil))))))))))), ?_⟩
    refine ⟨_, rfl, b, L, rs, es, rfl, hB, ho, fun H1 s1 => ?_⟩
    obtain ⟨R, X, hb, ⟨tsR, hR, pR⟩, ⟨tsX, hX, pX⟩⟩ := hB.kt (.of s1)
    refine ⟨b, _, rfl, .inl (.inl hb), rfl, _, _, rfl, _, _, rfl, _, _, rfl, rfl, ?_⟩
    have r12 := ho.r12
    have e8 := ho.e8
    refine ⟨_, rfl, (by show 2 ≤ sizeLine; decide), fun p0 hp0 => ⟨(by show 1 ≤ sizeLine; decide), fun W hW => ?_⟩⟩
    have s2 : Same H1 (upd H1 p0 (.tup [.str "letters", .str (T L)])) := same_new hp0 _
    have t0 : (upd H1 p0 (.tup [.str "letters", .str (T L)])) p0 = some (.tup (strV [kwL, L])) := by
      rw [upd_same]
      show some (HO.tup [.str (Str.ofString "letters"), .str (T L)]) = _
      rw [kwL_eq] <;> rfl
    generalize upd H1 p0 (.tup [.str "letters", .str (T L)]) = H2 at s2 t0 hW ⊢
    have s3 : Same H2 (upd H2 W (.lst [.ref p0])) := same_new hW _
    have hW3 : (upd H2 W (.lst [.ref p0])) W = some (.lst [.ref p0]) := upd_same
    generalize upd H2 W (.lst [.ref p0]) = H3 at s3 hW3 ⊢
    have s13 := s2.trans s3
    -- rules
    refine ⟨_, rfl, .inl ⟨rfl, _, .inl (.inl hW3)⟩, _, rfl, R, rfl, ⟨_, .inl (.inl (s13 _ _ hR))⟩, fun D hD => ?_⟩
    refine lc_it (walk_tup (xs := tsR.map V.ref)) (fun i H4 => ∃ ts : List Addr, H4 D = some (.lst (ts.map V.ref)) ∧ TRows H4 ts ((rs.take i).map ruleRow) ∧ Same H3 H4) ?_ (fun i H4 _ h => by obtain ⟨_, _, _, s⟩ := h; exact .inl (.inl ((s13.trans s) _ _ hR))) ?_ ?_
    · exact ⟨[], upd_same, .nil, same_new hD _⟩
    · rintro i x H4 H4' hi ⟨ts, e1, e2, e3⟩ ⟨rfl, hx⟩
      rw [List.getElem?_map] at hx
      obtain ⟨t, ht, e⟩ := Option.map_eq_some_iff.mp hx
      subst e
      obtain ⟨ρ, hρ, hat⟩ := paired_at pR ht
      refine ⟨rfl, _, rfl, t, _, rfl, .inl (.inl (.inl ((s13.trans e3) _ _ hat))), (by show 5 ≤ sizeLine; decide), fun p hp => ?_⟩
      have sp := same_new hp (.tup (V.str "rule" :: (ρ.vs ++ [])))
      have lt : ts.length = (rs.take i).length := by rw [paired_len e2, List.length_map]
      refine ⟨_, sp _ _ e1, ?_, ts ++ [p], ?_, ?_, ?_⟩
      · rw [List.length_map, lt, List.length_take]
        exact small1000 (by omega)
      · rw [upd_same, List.map_append]
        rfl
      · rw [take_snoc hρ, List.map_append]
        have k : KT (upd H4' p (.tup (V.str "rule" :: (ρ.vs ++ [])))) _ := kt_upd (sp _ _ e1) (o := .lst (ts.map V.ref ++ [.ref p]))
        refine paired_app ((e2.same sp).kt k) (.cons (k.1 _ _ ?_) .nil)
        rw [upd_same]
        show some (HO.tup [.str (Str.ofString "rule"), _, _, _, _]) = _
        rw [kwR_eq] <;> rfl
      · exact fun c u hc => by
          rw [upd_ne (ne_of_none hc hD)]
          exact sp _ _ (e3 _ _ hc)
    rintro H4 ⟨tsA, d4, q4, s4⟩
    rw [List.length_map, paired_len pR, List.take_length] at q4
    have hW4 := s4 _ _ hW3
    refine ⟨W, D, _, _, rfl, rfl, hW4, d4, ?_, ?_⟩
    · rw [List.length_map, paired_len q4, List.length_map]
      exact small (by show 1 + _ ≤ _; omega)
    have k5 : KT H4 (upd H4 W (.lst ([V.ref p0] ++ tsA.map V.ref))) := kt_upd hW4
    have t5 := k5.1 _ _ (s4 _ _ (s3 _ _ t0))
    have q5 := q4.kt k5
    have hW5 : (upd H4 W (.lst ([V.ref p0] ++ tsA.map V.ref))) W = some (.lst ([V.ref p0] ++ tsA.map V.ref)) := upd_same
    have hX5 := hX.kt ((KT.of (s13.trans s4)).trans k5)
    have pX5 : Paired (fun t (e : Exc) => (upd H4 W (.lst ([V.ref p0] ++ tsA.map V.ref))) t = some (.tup [.str (T e.1), .str (T e.2)])) tsX es := paired_mono (fun t e h => k5.1 _ _ ((s13.trans s4) _ _ h)) pX
    have s15 : Same H1 (upd H4 W (.lst ([V.ref p0] ++ tsA.map V.ref))) := fun c u hc => by
      rw [upd_ne (ne_of_none (s2 _ _ hc) hW)]
      exact s4 _ _ (s13 _ _ hc)
    generalize upd H4 W (.lst ([V.ref p0] ++ tsA.map V.ref)) = H5 at t5 q5 hW5 hX5 pX5 s15 ⊢
    -- exceptions
    refine ⟨_, rfl, .inl ⟨rfl, _, .inl (.inl hW5)⟩, _, rfl, X, rfl, ⟨_, .inl hX5.rd⟩, fun D2 hD2 => ?_⟩
    refine lc_it (walk_tup (xs := tsX.map V.ref)) (fun i H6 => ∃ ts : List Addr, H6 D2 = some (.lst (ts.map V.ref)) ∧ TRows H6 ts ((es.take i).map excRow) ∧ Same H5 H6) ?_ (fun i H6 _ h => by obtain ⟨_, _, _, s⟩ := h; exact .inl (hX5.kt (.of s)).rd) ?_ ?_
    · exact ⟨[], upd_same, .nil, same_new hD2 _⟩
    · rintro i x H6 H6' hi ⟨ts, e1, e2, e3⟩ ⟨rfl, hx⟩
      rw [List.getElem?_map] at hx
      obtain ⟨t, ht, e⟩ := Option.map_eq_some_iff.mp hx
      subst e
      obtain ⟨en, hen, hat⟩ := paired_at pX5 ht
      refine ⟨rfl, _, rfl, t, _, rfl, .inl (.inl (.inl (e3 _ _ hat))), (by show 3 ≤ sizeLine; decide), fun p hp => ?_⟩
      have sp := same_new hp (.tup (V.str "word" :: ([.str (T en.1), .str (T en.2)] ++ [])))
      have lt : ts.length = (es.take i).length := by rw [paired_len e2, List.length_map]
      refine ⟨_, sp _ _ e1, ?_, ts ++ [p], ?_, ?_, ?_⟩
      · rw [List.length_map, lt, List.length_take]
        exact small1000 (by omega)
      · rw [upd_same, List.map_append]
        rfl
      · rw [take_snoc hen, List.map_append]
        have k : KT (upd H6' p (.tup (V.str "word" :: ([.str (T en.1), .str (T en.2)] ++ [])))) _ := kt_upd (sp _ _ e1) (o := .lst (ts.map V.ref ++ [.ref p]))
        refine paired_app ((e2.same sp).kt k) (.cons (k.1 _ _ ?_) .nil)
        rw [upd_same]
        show some (HO.tup [.str (Str.ofString "word"), _, _]) = _
        rw [kwW_eq] <;> rfl
      · exact fun c u hc => by
          rw [upd_ne (ne_of_none hc hD2)]
          exact sp _ _ (e3 _ _ hc)
    rintro H6 ⟨tsB, d6, q6, s6⟩
    rw [List.length_map, paired_len pX, List.take_length] at q6
    have hW6 := s6 _ _ hW5
    refine ⟨W, D2, _, _, rfl, rfl, hW6, d6, ?_, ?_⟩
    · rw [List.length_append, List.length_map, List.length_map, paired_len q5, paired_len q6, List.length_map, List.length_map]
      exact small (by show 1 + _ + _ ≤ _; omega)
    have k7 : KT H6 (upd H6 W (.lst (([V.ref p0] ++ tsA.map V.ref) ++ tsB.map V.ref))) := kt_upd hW6
    have rows7 : TRows (upd H6 W (.lst (([V.ref p0] ++ tsA.map V.ref) ++ tsB.map V.ref))) (p0 :: (tsA ++ tsB)) (rowsM L rs es) :=
      .cons (k7.1 _ _ (s6 _ _ t5)) (paired_app ((q5.same s6).kt k7) (q6.kt k7))
    have hW7 : (upd H6 W (.lst (([V.ref p0] ++ tsA.map V.ref) ++ tsB.map V.ref))) W = some (.lst ((p0 :: (tsA ++ tsB)).map V.ref)) := by
      rw [upd_same, List.map_cons, List.map_append]
      rfl
    have s17 : Same H1 (upd H6 W (.lst (([V.ref p0] ++ tsA.map V.ref) ++ tsB.map V.ref))) := fun c u hc => by
      rw [upd_ne (ne_of_none (s2 _ _ hc) hW)]
      exact s6 _ _ (s15 _ _ hc)
    generalize upd H6 W (.lst (([V.ref p0] ++ tsA.map V.ref) ++ tsB.map V.ref)) = H7 at rows7 hW7 s17 ⊢
    generalize p0 :: (tsA ++ tsB) = ts7 at rows7 hW7
    -- the text
    have hl := rows_len ho
    refine ⟨⟨_, rfl⟩, _, rfl, W, rfl, ⟨_, .inl (.inl hW7)⟩, fun D3 hD3 => ?_⟩
    refine lc_it (walk_list (xs := ts7.map V.ref)) (fun i H8 => H8 D3 = some (.lst (((((rowsM L rs es).take i).map markR).map lineM).map fun l => V.str (T l))) ∧ Same H7 H8) ?_ (fun i H8 _ h => .inl (.inl (h.2 _ _ hW7))) ?_ ?_
    · exact ⟨upd_same, same_new hD3 _⟩
    · rintro i x H8 H8' hi ⟨e1, e3⟩ ⟨rfl, hx⟩
      rw [List.getElem?_map] at hx
      obtain ⟨t, ht, e⟩ := Option.map_eq_some_iff.mp hx
      subst e
      obtain ⟨r, hrr, hat⟩ := paired_at rows7 ht
      have ro := rows_ok ho r (List.mem_of_getElem? hrr)
      have hat8 := e3 _ _ hat
      refine ⟨rfl, ⟨_, rfl⟩, _, rfl, t, rfl, ⟨_, .inl (.inl hat8)⟩, fun D4 hD4 => ?_⟩
      refine lc_it (walk_tup (xs := strV r)) (fun j H9 => H9 D4 = some (.lst (strV (markR (r.take j)))) ∧ Same H8' H9) ?_ (fun j H9 _ h => .inl (.inl (h.2 _ _ hat8))) ?_ ?_
      · exact ⟨upd_same, same_new hD4 _⟩
      · rintro j x H9 H9' hj ⟨f1, f3⟩ ⟨rfl, hx⟩
        unfold strV at hx
        rw [List.map_map, List.getElem?_map] at hx
        obtain ⟨z, hz, e⟩ := Option.map_eq_some_iff.mp hx
        subst e
        refine ⟨rfl, _, rfl, z, rfl, _, f1, ?_, ?_, ?_⟩
        · have := ro.l5
          unfold strV markR
          rw [List.length_map, List.length_map, List.length_map, List.length_take]
          exact small1000 (by omega)
        · rw [upd_same, take_snoc hz]
          unfold strV markR
          rw [List.map_append, List.map_append, List.map_append]
          rfl
        · exact fun c u hc => by
            rw [upd_ne (ne_of_none hc hD4)]
            exact f3 _ _ hc
      rintro H9 ⟨f1, f3⟩
      have le : (strV r).length = r.length := by unfold strV; rw [List.length_map, List.length_map]
      rw [le, List.take_length] at f1
      refine ⟨Str.ofString " ", D4, (markR r).map T, rfl, rfl, .inl (.inl (.inl f1)), ?_, ?_⟩
      · have h1 := mark_len ro
        have h5 := ro.l5
        have e1 : ((markR r).map T).length = r.length := by unfold markR; rw [List.length_map, List.length_map]
        have e2 : (((markR r).map T).map fun x => x.length) = (markR r).map List.length := by
          rw [List.map_map]
          exact List.map_congr_left fun z _ => T_len z
        rw [e1, e2, sp_eq, T_len]
        show _ + _ * 1 ≤ _
        omega
      · rw [sp_eq, join_T]
        have e1' := f3 _ _ e1
        refine ⟨_, e1', ?_, ?_, ?_⟩
        · rw [List.length_map, List.length_map, List.length_map, List.length_take]
          exact small1000 (by omega)
        · rw [upd_same, take_snoc hrr, List.map_append, List.map_append, List.map_append]
          rfl
        · exact fun c u hc => by
            rw [upd_ne (ne_of_none hc hD3)]
            exact f3 _ _ (e3 _ _ hc)
    rintro H8 ⟨e1, e3⟩
    have le : (ts7.map V.ref).length = (rowsM L rs es).length := by rw [List.length_map, paired_len rows7]
    rw [le, List.take_length] at e1
    refine ⟨Str.ofString "\n", D3, ((wordsM L rs es).map lineM).map T, rfl, rfl, .inl (.inl (.inl (by rw [e1, List.map_map (g := V.str)]; rfl))), ?_, ?_⟩
    · have h1 := lines_len ho
      have ew : (wordsM L rs es).length = (rowsM L rs es).length := by unfold wordsM; rw [List.length_map]
      have e2 : ((((wordsM L rs es).map lineM).map T).map fun x => x.length) = ((wordsM L rs es).map lineM).map List.length := by
        rw [List.map_map]
        exact List.map_congr_left fun z _ => T_len z
      rw [e2, nl_eq, T_len, List.length_map, List.length_map, ew]
      show _ + _ * 1 ≤ _
      omega
    · rw [nl_eq, join_T]
      exact q H8 (s1.trans (s17.trans e3))
end
end Say
namespace Say
open PySem PySem.Spec PyProof.Rows L2
/-! ### written dicts with texts for keys -/
def tabV (kvs : List (Str × V)) (x : Str) : V := ((kvs.find? fun kv => kv.1 == x).map (·.2)).getD .non
theorem tab_find {x : Str} : ∀ {l : List DictEntry} {kvs : List (Str × V)}, Paired (fun (e : DictEntry) (kv : Str × V) => (∃ t, e.key = .str kv.1 t) ∧ RelV kv.2 e.val) l kvs →
    l.any (·.refKey) = false ∧ ((l.find? (·.key.isStr x) = none ∧ kvs.find? (fun kv => kv.1 == x) = none) ∨ ∃ e kv, l.find? (·.key.isStr x) = some e ∧ kvs.find? (fun kv => kv.1 == x) = some kv ∧ RelV kv.2 e.val)
  | _, _, .nil => ⟨rfl, .inl ⟨rfl, rfl⟩⟩
  | e :: l, kv :: kvs, .cons h r => by
    obtain ⟨⟨t, ht⟩, hv⟩ := h
    obtain ⟨h1, h2⟩ := tab_find (x := x) r
    have hk : e.key.isStr x = (kv.1 == x) := by rw [ht] <;> rfl
    have hr : e.refKey = false := by unfold DictEntry.refKey; rw [ht] <;> rfl
    refine ⟨by rw [List.any_cons, hr, h1] <;> rfl, ?_⟩
    rw [List.find?_cons, List.find?_cons, hk]
    cases c : kv.1 == x with
    | true => exact .inr ⟨e, kv, rfl, rfl, hv⟩
    | false => exact h2
theorem kgt_all {K : PySem.W.Frag} {w : World} {a : Addr} {es : Array DictEntry} {n : Nat} {kvs : List (Str × V)} (hl : K.lookup a = some ⟨.type "dict", none, .dict es n, #[]⟩) (hk : PySem.W.KeysLit w.params es.toList) (lo : (a == sysModules) = false)
    (h : Paired (fun (e : DictEntry) (kv : Str × V) => (∃ t, e.key = .str kv.1 t) ∧ RelV kv.2 e.val) es.toList kvs) (x : Str) : KGt K w a x (tabV kvs x) := by
  obtain ⟨h1, h2⟩ := tab_find (x := x) h
  unfold tabV
  rcases h2 with ⟨e1, e2⟩ | ⟨e, kv, e1, e2, r⟩
  · refine ⟨es, n, none, hl, hk, lo, ?_, by rw [e2] <;> rfl⟩
    unfold PySem.W.nsIn
    rw [hl]
    show (match es.toList.find? (·.key.isStr x) with | some e => some (some e.val) | none => if es.toList.any (·.refKey) then none else some none) = some none
    rw [e1, h1]
    rfl
  · refine ⟨es, n, some e.val, hl, hk, lo, ?_, by rw [e2]; exact r⟩
    unfold PySem.W.nsIn
    rw [hl]
    show (match es.toList.find? (·.key.isStr x) with | some e => some (some e.val) | none => if es.toList.any (·.refKey) then none else some none) = some (some e.val)
    rw [e1]
theorem rel_none {v : V} (h : RelV v .none) : v = .non := by
  cases v with
  | non => rfl
  | bl b => have h : Value.none = Value.bool b := h; cases h
  | int i => obtain ⟨_, z⟩ := (show ∃ t, Value.none = Value.int i t from h); cases z
  | str i => obtain ⟨_, z⟩ := (show ∃ t, Value.none = Value.str i t from h); cases z
  | byt i => obtain ⟨_, z⟩ := (show ∃ t, Value.none = Value.bytes i t from h); cases z
  | flt i => obtain ⟨_, z⟩ := (show ∃ t, Value.none = Value.float i t from h); cases z
  | ref a => have h : Value.none = Value.ref a := h; cases h
  | ty a => have h : Value.none = Value.type a := h; cases h
theorem KGt.dct {K : PySem.W.Frag} {w : World} {a : Addr} {x : Str} {v : V} (h : KGt K w a x v) (n : v ≠ .non) : KDct K w a x v := by
  obtain ⟨es, m, r, hl, hk, lo, e, rv⟩ := h
  cases r with
  | none =>
    exact absurd (rel_none rv) n
  | some u => exact ⟨es, m, u, hl, hk, e, rv⟩
/-! ### rows of words -/
def sizeV (h : List Nat) : V := if h = kwL then .int 2 else if h = kwR then .int 5 else if h = kwW then .int 3 else .non
def follM (l : List Nat) : List (List Nat) := if l = [] then [kwL] else if l = kwW then [kwW] else [kwR, kwW]
def keysN : List (List Nat) := [[], kwL, kwR, kwW]
def hdR (r : List (List Nat)) : List Nat := r.headD []
def isRowM (r : List (List Nat)) : Bool := !r.contains [] && decide (sizeV (hdR r) = .int r.length)
def rowsGood : List Nat → List (List (List Nat)) → Bool
  | _, [] => true
  | last, r :: rest => isRowM r && ((follM last).contains (hdR r) && rowsGood (hdR r) rest)
/-- what the module's two dicts hold -/
structure NoteK (K : PySem.W.Frag) (w : World) (mg : Str → Option Value) : Prop where
  sz : ∃ a es n, mg "SIZES" = some (.ref a) ∧ K.lookup a = some ⟨.type "dict", none, .dict es n, #[]⟩ ∧ PySem.W.KeysLit w.params es.toList ∧ ∀ h : List Nat, KGt K w a (T h) (sizeV h)
  fo : ∃ a, mg "FOLLOWING" = some (.ref a) ∧ ∀ l ∈ keysN, ∃ p, KDct K w a (T l) (.ref p) ∧ ∀ H : Hp, SqT K H p (strV (follM l))
theorem size_tab (h : List Nat) : tabV [("letters", .int 2), ("rule", .int 5), ("word", .int 3)] (T h) = sizeV h := by
  unfold tabV sizeV
  have e : ∀ k : List Nat, (T k == T h) = decide (h = k) := fun k => by
    rw [Bool.eq_iff_iff, beq_iff_eq, decide_eq_true_eq]
    exact ⟨fun z => (T_inj z).symm, fun z => by rw [z]⟩
  rw [List.find?_cons, List.find?_cons, List.find?_cons]
  show Option.getD (Option.map _ (match (Str.ofString "letters" == T h) with | true => _ | false => match (Str.ofString "rule" == T h) with | true => _ | false => match (Str.ofString "word" == T h) with | true => _ | false => _)) _ = _
  rw [kwL_eq, kwR_eq, kwW_eq, e, e, e]
  by_cases h1 : h = kwL
  · rw [if_pos h1, decide_eq_true h1] <;> rfl
  rw [if_neg h1, decide_eq_false h1]
  by_cases h2 : h = kwR
  · rw [if_pos h2, decide_eq_true h2] <;> rfl
  rw [if_neg h2, decide_eq_false h2]
  by_cases h3 : h = kwW
  · rw [if_pos h3, decide_eq_true h3] <;> rfl
  rw [if_neg h3, decide_eq_false h3] <;> rfl
/-- a list of lists of texts -/
def LRows (H : Hp) (D : Addr) (rows : List (List (List Nat))) : Prop := ∃ ts : List Addr, H D = some (.lst (ts.map V.ref)) ∧ Paired (fun t r => H t = some (.lst (strV r))) ts rows
theorem LRows.same {H H' : Hp} {D : Addr} {rows : List (List (List Nat))} (h : LRows H D rows) (s : Same H H') : LRows H' D rows := ⟨h.choose, s _ _ h.choose_spec.1, paired_mono (fun _ _ q => s _ _ q) h.choose_spec.2⟩
theorem strV_flat (r : List (List Nat)) : (strV r).all flatV = true := by
  unfold strV
  rw [List.all_map, List.all_map, List.all_eq_true]
  intro z _
  rfl
theorem inV_str (x : List Nat) (r : List (List Nat)) : inV (.str (T x)) (strV r) = r.contains x := by
  unfold inV strV
  rw [List.any_map, List.any_map, List.contains_eq_any_beq, Bool.eq_iff_iff, List.any_eq_true, List.any_eq_true]
  refine ⟨fun ⟨z, hz, h⟩ => ⟨z, hz, ?_⟩, fun ⟨z, hz, h⟩ => ⟨z, hz, ?_⟩⟩
  · have h : (T z == T x) = true := h
    rw [beq_iff_eq] at h ⊢
    exact (T_inj h).symm
  · rw [beq_iff_eq] at h
    show (T z == T x) = true
    rw [h, beq_self_eq_true]
theorem strV_at {r : List (List Nat)} {i : Nat} {z : List Nat} (h : r[i]? = some z) : (strV r)[i]? = some (.str (T z)) := by
  unfold strV
  rw [List.map_map, List.getElem?_map, h]
  rfl
theorem strV_len (r : List (List Nat)) : (strV r).length = r.length := by unfold strV; rw [List.length_map, List.length_map]
theorem hd_at {r : List (List Nat)} (h : r ≠ []) : r[0]? = some (hdR r) := by
  cases r with
  | nil => exact absurd rfl h
  | cons a t => rfl
section
variable {P : Program} {w : World} {K : PySem.W.Frag} {mg : Str → Option Value} {base : Heap}
abbrev sIr : Stmt := topS 35
theorem scIr : FnScope ["words"] ["words"] (defScope sIr) := ⟨rfl, rfl, rfl, by decide +kernel, rfl, by decide +kernel, by decide +kernel⟩
def spIr : Sp := fun vs H Q _ => ∃ (t : Addr) (r : List (List Nat)), vs = [.ref t] ∧ H t = some (.lst (strV r)) ∧ r ≠ [] ∧ Q (.bl (isRowM r)) H
theorem ok_ir {f : Addr} {fd : FuncData} {k : Nat} (F : Fun K "is_row" "is_row" sIr f fd) (B : Bn mg) (NK : NoteK K w mg) : FnOk P w K mg base CX0 (k + 1) f fd ["words"] spIr := by
  obtain ⟨⟨aS, es, n, mS, lS, kS, gS⟩, _⟩ := NK
  refine F.ok scIr (fun vs H Q E h => ?_) (fun cdv A outer s H vs Q E hr h => ?_)
  · obtain ⟨t, r, rfl, _⟩ := h
    rfl
  · obtain ⟨t, r, rfl, ht, hne, q⟩ := h
    refine ⟨_, pss_one (ps_ret (pe_and (pe_cmpR op_notIn_seq pe_str (pv 0) rfl) (pe_one (pe_cmpR op_eq (pe_kget (d := aS) lS kS (pe_glob (v := .ref aS) rfl mS rfl) (pe_ix ix_list (pv 0) pe_int (fun _ _ => rfl)) ⟨rfl, rfl, rfl, rfl⟩)
      (pe_callB call_len (by rfl) B.len PySem.boot_len (pa_cons (pv 0) pa_nil)) (nomark _))))), ?_⟩
    refine ⟨_, rfl, t, _, rfl, .inl (.inl (.inl ht)), rfl, strV_flat r, ?_⟩
    rw [show (V.str "") = V.str (T []) from congrArg V.str nil_eq, inV_str]
    unfold isRowM at q
    refine ⟨_, rfl, ?_⟩
    cases c : r.contains [] with
    | true =>
      rw [c] at q
      exact iteF q
    | false =>
      rw [c] at q
      refine iteT ?_
      refine ⟨rfl, _, rfl, t, _, 0, .str (T (hdR r)), rfl, rfl, .inl (.inl ht), atI_nat (j := 0) (strV_at (hd_at hne)), T (hdR r), sizeV (hdR r), rfl, gS _, ?_⟩
      refine ⟨_, rfl, _, _, rfl, .inl ⟨_, .inl (.inl ht), rfl⟩, ?_, ?_⟩
      · unfold sizeV
        split
        · rfl
        split
        · rfl
        split <;> rfl
      · rw [strV_len]
        exact q
end
end Say
namespace Say
open PySem PySem.Spec PyProof.Rows L2
theorem foll_all {K : PySem.W.Frag} {w : World} {a p0 p1 p2 p3 : Addr} {es : Array DictEntry} {n : Nat} (hl : K.lookup a = some ⟨.type "dict", none, .dict es n, #[]⟩) (hk : PySem.W.KeysLit w.params es.toList) (lo : (a == sysModules) = false)
    (h : Paired (fun (e : DictEntry) (kv : Str × V) => (∃ t, e.key = .str kv.1 t) ∧ RelV kv.2 e.val) es.toList [("", .ref p0), ("letters", .ref p1), ("rule", .ref p2), ("word", .ref p3)])
    (h0 : ∀ H : Hp, SqT K H p0 [V.str "letters"]) (h1 : ∀ H : Hp, SqT K H p1 [V.str "rule", V.str "word"]) (h2 : ∀ H : Hp, SqT K H p2 [V.str "rule", V.str "word"]) (h3 : ∀ H : Hp, SqT K H p3 [V.str "word"]) :
    ∀ l ∈ keysN, ∃ p, KDct K w a (T l) (.ref p) ∧ ∀ H : Hp, SqT K H p (strV (follM l)) := by
  have e0 : tabV [("", .ref p0), ("letters", .ref p1), ("rule", .ref p2), ("word", .ref p3)] (T []) = .ref p0 := by rw [← show Str.ofString "" = T [] from nil_eq] <;> rfl
  have e1 : tabV [("", .ref p0), ("letters", .ref p1), ("rule", .ref p2), ("word", .ref p3)] (T kwL) = .ref p1 := by rw [← kwL_eq] <;> rfl
  have e2 : tabV [("", .ref p0), ("letters", .ref p1), ("rule", .ref p2), ("word", .ref p3)] (T kwR) = .ref p2 := by rw [← kwR_eq] <;> rfl
  have e3 : tabV [("", .ref p0), ("letters", .ref p1), ("rule", .ref p2), ("word", .ref p3)] (T kwW) = .ref p3 := by rw [← kwW_eq] <;> rfl
  have w1 : ∀ H : Hp, SqT K H p0 (strV (follM [])) := fun H => by
    show SqT K H p0 [V.str (T kwL)]
    rw [← kwL_eq]; exact h0 H
  have w2 : ∀ H : Hp, SqT K H p1 (strV (follM kwL)) := fun H => by
    show SqT K H p1 [V.str (T kwR), V.str (T kwW)]
    rw [← kwR_eq, ← kwW_eq]; exact h1 H
  have w3 : ∀ H : Hp, SqT K H p2 (strV (follM kwR)) := fun H => by
    show SqT K H p2 [V.str (T kwR), V.str (T kwW)]
    rw [← kwR_eq, ← kwW_eq]; exact h2 H
  have w4 : ∀ H : Hp, SqT K H p3 (strV (follM kwW)) := fun H => by
    show SqT K H p3 [V.str (T kwW)]
    rw [← kwW_eq]; exact h3 H
  intro l hm
  simp only [keysN, List.mem_cons, List.not_mem_nil, or_false] at hm
  rcases hm with rfl | rfl | rfl | rfl
  · exact ⟨p0, (e0 ▸ kgt_all hl hk lo h (T [])).dct (fun z => by cases z), w1⟩
  · exact ⟨p1, (e1 ▸ kgt_all hl hk lo h (T kwL)).dct (fun z => by cases z), w2⟩
  · exact ⟨p2, (e2 ▸ kgt_all hl hk lo h (T kwR)).dct (fun z => by cases z), w3⟩
  · exact ⟨p3, (e3 ▸ kgt_all hl hk lo h (T kwW)).dct (fun z => by cases z), w4⟩
end Say
namespace Say
open PySem PySem.Spec PyProof.Rows L2
section
variable {X : Cx}
/-- tuple(xs) of a list: a tuple as it is made -/
theorem call_tupN : CallR X (.type "tuple") (fun xs H Q => ∃ p ys, xs = [.ref p] ∧ SqL X.K H p ys ∧ ∀ (l : Addr) (o : Obj), o.dict = none → H l = none → Q (.ref l) (upd H l (.frz o (.tup ys)))) := by
  intro pins s σ H xs us Q I r h
  obtain ⟨p, ys, rfl, hq, q⟩ := h
  obtain ⟨u, rfl, rx⟩ := vals1 r
  cases rx
  obtain ⟨its, r', pl, hz⟩ := I.list hq
  have hlen := r'.length
  refine call_tuple_list pl.isList (fun h' kp => ?_) (by simp only [List.size_toArray] <;> omega)
  have I1 : Inv X pins σ H { s with heap := h' } := I.kept (t' := s.toks) kp
  have I2 : Inv X pins σ (upd H h'.objs.size (.frz { cls := .type "tuple", data := .seq its.toArray } (.tup ys))) { s with heap := h'.push { cls := .type "tuple", data := .seq its.toArray } } :=
    I1.laid (t' := s.toks) (fun b o e => Heap.get?_push_of_some _ e) (Nat.le_refl _) (show ObjOk X.prog X.w _ _ _ (.frz _ (.tup ys)) from ⟨Heap.get?_push_size _ rfl, hz, its, r', IsTup.new _ _⟩)
  exact ⟨.ref h'.objs.size, _, I2, rfl, q _ _ rfl (I1.hok.fresh (Nat.le_refl _))⟩
theorem pairs_ofT {pins : List (Addr × Obj)} {σ : L2.St} {H : Hp} {s : Shared} (I : L2.Inv X pins σ H s) : ∀ {ps : List Addr} {kvs : List (Key × V)}, Paired (fun p kv => SqT X.K H p [kV kv.1, kv.2]) ps kvs →
    ∃ (prs : List (Key × Value)) (vs : List (Value × Value)), KV kvs prs ∧ prs.length = ps.length ∧ vs.length = ps.length ∧
      ∀ (j : Nat) (k v : Value), vs[j]? = some (k, v) → ∃ (b : Addr) (q : Key), ps[j]? = some b ∧ prs[j]? = some (q, v) ∧ IsTup s.heap b #[k, v] ∧ keyIs q k = true
  | _, _, .nil => ⟨[], [], .nil, rfl, rfl, fun j k v e => by simp at e⟩
  | _, _, .cons (a := p) (b := kv) h t => by
    obtain ⟨prs, vs, r, hl, hl2, hp⟩ := pairs_ofT I t
    obtain ⟨its, rv, ht, _⟩ := I.tuple h
    obtain ⟨u, y, ei, ru, ry⟩ := vals2 rv
    subst ei
    refine ⟨(kv.1, y) :: prs, (u, y) :: vs, .cons ⟨rfl, ry⟩ r, by rw [List.length_cons, List.length_cons, hl], by rw [List.length_cons, List.length_cons, hl2], fun j k v e => ?_⟩
    cases j with
    | zero =>
      have e' : (u, y) = (k, v) := Option.some.inj e
      cases e'
      exact ⟨p, kv.1, rfl, rfl, ht, kV_is (P := X.prog) (w := X.w) ru⟩
    | succ j =>
      obtain ⟨b, q, e1, e2, e3⟩ := hp j k v (by simpa using e)
      exact ⟨b, q, by simpa using e1, by simpa using e2, e3⟩
/-- a display, as it is made -/
def tTupN (t : TA) : TE := fun σ H Q => t σ H fun xs H1 => xs.length ≤ sizeLine ∧ ∀ (p : Addr) (o : Obj), o.dict = none → H1 p = none → Q (.ref p) (upd H1 p (.frz o (.tup xs)))
theorem pe_tupN {es : List Expr} {t : TA} {pos : Pos} {x1} (h : PA X es t) : PE X (.Tuple es x1 pos) (tTupN t) := by
  refine ⟨fun pins s σ H Q I hq => ?_⟩
  refine wpAny_Tuple_spliced (thn (h.run pos pins s σ H _ I hq) fun us s1 ⟨xs, H1, I1, r, z, q⟩ => ⟨by rw [← r.length]; exact z, ?_⟩)
  have hf : H1 s1.heap.objs.size = none := I1.hok.fresh (Nat.le_refl _)
  exact ⟨.ref s1.heap.objs.size, upd H1 s1.heap.objs.size (.frz _ (.tup xs)), I1.laid (t' := s1.toks) (fun b u e => Heap.get?_push_of_some _ e) (Nat.le_refl _) ⟨Heap.get?_push_size _ rfl, z, us, r, ⟨_, Heap.get?_push_size _ rfl, rfl, _, rfl⟩⟩, rfl, q _ _ rfl hf⟩
/-- dict(ps) of such a tuple of pairs -/
theorem call_dictT (hcalm : X.calm = true) : CallR X (.type "dict") (fun xs H Q => ∃ (a : Addr) (ps : List Addr) (kvs : List (Key × V)), xs = [.ref a] ∧ TupN H a (ps.map V.ref) ∧ Paired (fun p kv => SqT X.K H p [kV kv.1, kv.2]) ps kvs ∧
    ∀ p, H p = none → Q (.ref p) (upd H p (.dK (mergeK [] kvs)))) := by
  intro pins s σ H xs us Q I r q
  obtain ⟨a, ps, kvs, ex, hq, hp, q⟩ := q
  subst ex
  obtain ⟨u, eu, rx⟩ := vals1 r
  subst eu
  cases rx
  obtain ⟨o, hH, hd⟩ := hq
  obtain ⟨ho, hz, its, rv, ⟨o', ho', hc, n, hdat⟩⟩ : s.heap.get? a = some o ∧ (ps.map V.ref).length ≤ sizeLine ∧ ∃ its : List Value, Vals (ps.map V.ref) its ∧ IsTup s.heap a its.toArray := I.hok _ _ hH
  have eo : o' = o := Option.some.inj (ho'.symm.trans ho)
  subst eo
  have ei := refs_at rv
  subst ei
  rw [List.length_map] at hz
  obtain ⟨prs, vs, rel, hl, hl2, hpr⟩ := pairs_ofT I hp
  refine PySem.call_dict_pairs (knd := mixKind X.prog X.w) (kvs := prs) (PySem.PairArg.tuple a (ps.map Value.ref).toArray (fun j => (ps[j]?).getD 0) vs) (I.ok.hd hcalm) ⟨⟨o', n, ho, hc, hd, hdat⟩, by simp [hl2], fun j k v e => ?_⟩ ⟨by rw [hl, hl2], fun j k v e => ?_⟩ (by rw [hl2]; exact hz) fun h' tk hd' k => ?_
  · obtain ⟨b, q', e1, _, e3, _⟩ := hpr j k v e
    refine ⟨by simp [e1], .inl ?_⟩
    show s.heap.IsTuple ((ps[j]?).getD 0) _
    rw [e1]
    exact e3
  · obtain ⟨b, q', e1, e2, _, e4⟩ := hpr j k v e
    exact ⟨q', e2, e4⟩
  · have hm : (s.heap.objs.size == sysModules) = false := beq_eq_false_iff_ne.mpr (Nat.ne_of_gt I.big)
    have hlen : (mergeK [] kvs).length ≤ sizeLine := by
      refine Nat.le_trans (length_mergeK kvs []) ?_
      rw [List.length_nil, Nat.zero_add, rel.length, hl]
      exact hz
    have k' : ∀ b o, s.heap.get? b = some o → h'.get? b = some o := fun b o e => k b o (by simp) e
    exact ⟨.ref s.heap.objs.size, upd H s.heap.objs.size (.dK (mergeK [] kvs)), I.laid (t' := tk) k' (Nat.le_refl _) (show ObjOk X.prog X.w _ _ _ (.dK (mergeK [] kvs)) from ⟨hlen, hm, merged [] prs, KV.merge rel .nil, hd'⟩), rfl, q _ (I.hok.fresh (Nat.le_refl _))⟩
end
end Say
namespace Say
open PySem PySem.Spec PyProof.Rows L2
section
variable {X : Cx}
/-- t[lo:hi] of a tuple, as it is made: t itself where it is the whole -/
def rSlN (K : PySem.W.Frag) : V → Option Int → Option Int → Hp → VK → Prop := fun x lo hi H Q => ∃ a xs, x = .ref a ∧ SqT K H a xs ∧
  (HT.sIx xs.length 0 lo = 0 ∧ HT.sIx xs.length xs.length hi = xs.length → Q (.ref a) H) ∧ (¬ (HT.sIx xs.length 0 lo = 0 ∧ HT.sIx xs.length xs.length hi = xs.length) → ∀ (p : Addr) (o : Obj), o.dict = none → H p = none → Q (.ref p) (upd H p (.frz o (.tup (cutV xs lo hi)))))
theorem sl_tupN : SlR X (rSlN X.K) := by
  intro pins s σ H x v vl vu lo hi sl Q I rx hs pl pu h
  obtain ⟨a, xs, rfl, hx, q1, q2⟩ := h
  cases rx
  obtain ⟨its, r, ht, hz⟩ := I.tuple hx
  have hlen : its.toArray.size = xs.length := by rw [List.size_toArray]; exact r.length.symm
  refine ⟨"tuple", _, PyProof.Rows.slot_tuple_getitem.lookup, ht.typeIs, ?_⟩
  by_cases hw : HT.sIx xs.length 0 lo = 0 ∧ HT.sIx xs.length xs.length hi = xs.length
  · exact getItem_tuple_whole ht hs pl pu (by rw [hlen]; exact hw) ⟨.ref a, H, I, rfl, q1 hw⟩
  · refine HT.getItem_tuple_cut ht hs pl pu (by rw [hlen]; exact hw) ?_ (by rw [hlen]; exact hz)
    rw [hlen]
    have rr := (r.drop (HT.sIx xs.length 0 lo)).take (HT.sIx xs.length xs.length hi - HT.sIx xs.length 0 lo)
    exact ⟨.ref s.heap.objs.size, _, I.laid (t' := s.toks) (fun b ob e => Heap.get?_push_of_some _ e) (Nat.le_refl _) (show ObjOk X.prog X.w _ _ _ (.frz _ (.tup (cutV xs lo hi))) from ⟨Heap.get?_push_size _ rfl, Nat.le_trans (cutV_length xs lo hi) hz, _, rr, IsTup.new _ _⟩), rfl, q2 hw _ _ rfl (I.hok.fresh (Nat.le_refl _))⟩
/-- t[lo:hi] of a tuple as it was made, whatever is cut -/
theorem sl_tupQ : SlR X (fun x lo hi H Q => ∃ a xs, x = .ref a ∧ TupN H a xs ∧ ∀ (p : Addr) (H' : Hp), (∀ b o, H b = some o → H' b = some o) → TupN H' p (cutV xs lo hi) → Q (.ref p) H') := by
  intro pins s σ H x v vl vu lo hi sl Q I rx hs pl pu h
  obtain ⟨a, xs, e, ha, q⟩ := h
  refine sl_tupN pins s σ H x v vl vu lo hi sl Q I rx hs pl pu ⟨a, xs, e, .inl (.inr ⟨_, ha.choose_spec.1⟩), fun hw => ?_, fun hw p o ho hp => ?_⟩
  · refine q a H (fun _ _ h => h) ?_
    have : cutV xs lo hi = xs := by
      unfold cutV
      rw [hw.1, hw.2, List.drop_zero, Nat.sub_zero, List.take_length]
    rw [this]
    exact ha
  · refine q p _ (fun b u hb => ?_) ⟨o, upd_same, ho⟩
    rw [upd_ne (fun z => by rw [z, hp] at hb; cases hb)]
    exact hb
end
end Say
namespace Say
open PySem PySem.Spec PyProof.Rows L2
/-- what stands in the rows of a kind -/
def thingsM (rows : List (List (List Nat))) (kind : List Nat) : List (List (List Nat)) := (rows.filter fun r => decide (hdR r = kind)).map fun r => r.tail.map umE
theorem cut_tail (xs : List V) : cutV xs (some 1) none = xs.tail := by
  unfold cutV
  rw [show (some (1 : Int)) = some ((1 : Nat) : Int) from rfl, HT.sIx_nat, HT.sIx_none]
  cases xs with
  | nil => rfl
  | cons a r =>
    show ((a :: r).drop (min 1 (r.length + 1))).take ((r.length + 1) - min 1 (r.length + 1)) = r
    rw [Nat.min_eq_left (by omega)]
    show r.take (r.length + 1 - 1) = r
    rw [Nat.add_sub_cancel, List.take_length]
theorem strV_tail (r : List (List Nat)) : (strV r).tail = strV r.tail := by
  cases r <;> rfl
abbrev rTupOf (K : PySem.W.Frag) : List V → Hp → VK → Prop := fun xs H Q => ∃ p ys, xs = [.ref p] ∧ ((SqL K H p ys ∧ ∀ l, H l = none → Q (.ref l) (upd H l (.tup ys))) ∨ (SqT K H p ys ∧ Q (.ref p) H))
theorem take_filter_map {α β : Type} {l : List α} {i : Nat} {x : α} (h : l[i]? = some x) (p : α → Bool) (f : α → β) : ((l.take (i + 1)).filter p).map f = ((l.take i).filter p).map f ++ (if p x = true then [f x] else []) := by
  rw [take_snoc h, List.filter_append, List.map_append]
  congr 1
  by_cases c : p x = true
  · rw [if_pos c, List.filter_cons_of_pos c]
    rfl
  · rw [if_neg c, List.filter_cons_of_neg c]
    rfl
section
variable {P : Program} {w : World} {K : PySem.W.Frag} {mg : Str → Option Value} {base : Heap}
abbrev sTo : Stmt := topS 36
abbrev nTo : List Str := ["rows", "kind", "row", "word"]
theorem scTo : FnScope nTo ["rows", "kind"] (defScope sTo) := ⟨rfl, rfl, rfl, by decide +kernel, rfl, by decide +kernel, by decide +kernel⟩
/-- a tuple of tuples -/
def spTo (fr : Bool) : Sp := fun vs H Q _ => ∃ (D : Addr) (rows : List (List (List Nat))) (kind : List Nat), vs = [.ref D, .str (T kind)] ∧ LRows H D rows ∧ (∀ r ∈ rows, r ≠ []) ∧ rows.length ≤ 10000 ∧ (∀ r ∈ rows, r.length ≤ 10000) ∧
  ∀ (l : Addr) (ts : List Addr) (H' : Hp), Same H H' → (if fr = true then TupN H' l (ts.map V.ref) else H' l = some (.tup (ts.map V.ref))) → TRows H' ts (thingsM rows kind) → Q (.ref l) H'
theorem ok_to {f : Addr} {fd : FuncData} (fr : Bool) (F : Fun K "things_of" "things_of" sTo f fd) (B : Bn mg) (DU : Df P w K mg base "unmarked" ["word"] 1 spUm) : FnOk P w K mg base CX0 2 f fd ["rows", "kind"] (spTo fr) := by
  obtain ⟨fU, fdU, GU, kU, bU, mU⟩ := DU
  refine F.ok scTo (fun vs H Q E h => ?_) (fun cdv A outer s H vs Q E hr h => ?_)
  · obtain ⟨D, rows, kind, rfl, _⟩ := h
    rfl
  · obtain ⟨D, rows, kind, rfl, hL, hne, hlen, hlr, q⟩ := h
    suffices hh : ∀ (r : List V → Hp → VK → Prop), (∀ (D2 : Addr) (H' : Hp) (ts : List Addr), H' D2 = some (.lst (ts.map V.ref)) → Same H H' → TRows H' ts (thingsM rows kind) → r [.ref D2] H' Q) → 
        tRet (tCB r (tCons (tLc (iList K (tVar 0)) (gName 2) (tTest (tOp rEq (tOp (rIxL K) (tVar 2) (tC (.int 0))) (tVar 1))) (tCB (rTupOf K) (tCons (tLc (iList K (tSl (rSlL K) (tVar 2) (tPart (tC (.int 1))) tNoPart)) (gName 3) tYes (tCall spUm [] E0 (tCons (tVar 3) tNil)) [3]) tNil)) [2]) tNil)) { nx := fun _ H' => Q .non H', rt := Q } (start nTo [.ref D, .str (T kind)]) H by
      cases fr with
      | false =>
        refine ⟨_, pss_one (ps_ret (pe_callTy call_tuple_of (by rfl) B.tup (by decide +kernel) (pa_cons (pe_lc (own := [("row", 2)]) (g := gName 2)
          (tt := tTest (tOp rEq (tOp (rIxL K) (tVar 2) (tC (.int 0))) (tVar 1))) (te := tCB (rTupOf K) (tCons (tLc (iList K (tSl (rSlL K) (tVar 2) (tPart (tC (.int 1))) tNoPart)) (gName 3) tYes (tCall spUm [] E0 (tCons (tVar 3) tNil)) [3]) tNil)) rfl scTo.nd
          (pi_list (pv 0)) (blkOk_by (N := nTo) (sc := defScope sTo) (by decide +kernel)) (fun _ _ _ _ _ => pg_name (i := 2) scTo.nd rfl (.inl rfl)) (fun _ _ _ _ _ => pts_one (pt_cmpR op_eq (pe_ix ix_list (pv 2) pe_int (fun _ _ => rfl)) (pv 1) (nomark _)))
          (fun _ _ _ _ _ => pe_callTy call_tuple_of (by rfl) B.tup (by decide +kernel) (pa_cons (pe_lc (own := [("word", 3)]) (g := gName 3) rfl scTo.nd (pi_list (pe_slice sl_list (pv 2) (po_some pe_int) po_none)) (blkOk_by (by kernel_rfl)) (fun _ _ _ _ _ => pg_name (i := 3) scTo.nd rfl (.inl rfl)) (fun _ _ _ _ _ => pts_nil)
            (fun _ _ _ _ _ => pe_call GU hr (by rfl) mU kU bU .nil pass0 (pa_cons (pv 3) pa_nil))) pa_nil))) pa_nil))), ?_⟩
        refine hh _ fun D2 H' ts e1 e2 e3 => ⟨D2, _, rfl, .inl ⟨.inl (.inl e1), fun l hl => ?_⟩⟩
        have sl := same_new hl (.tup (ts.map V.ref))
        exact q l ts _ (e2.trans sl) upd_same (e3.same sl)
      | true =>
        refine ⟨_, pss_one (ps_ret (pe_callTy call_tupN (by rfl) B.tup (by decide +kernel) (pa_cons (pe_lc (own := [("row", 2)]) (g := gName 2)
          (tt := tTest (tOp rEq (tOp (rIxL K) (tVar 2) (tC (.int 0))) (tVar 1))) (te := tCB (rTupOf K) (tCons (tLc (iList K (tSl (rSlL K) (tVar 2) (tPart (tC (.int 1))) tNoPart)) (gName 3) tYes (tCall spUm [] E0 (tCons (tVar 3) tNil)) [3]) tNil)) rfl scTo.nd
          (pi_list (pv 0)) (blkOk_by (N := nTo) (sc := defScope sTo) (by decide +kernel)) (fun _ _ _ _ _ => pg_name (i := 2) scTo.nd rfl (.inl rfl)) (fun _ _ _ _ _ => pts_one (pt_cmpR op_eq (pe_ix ix_list (pv 2) pe_int (fun _ _ => rfl)) (pv 1) (nomark _)))
          (fun _ _ _ _ _ => pe_callTy call_tuple_of (by rfl) B.tup (by decide +kernel) (pa_cons (pe_lc (own := [("word", 3)]) (g := gName 3) rfl scTo.nd (pi_list (pe_slice sl_list (pv 2) (po_some pe_int) po_none)) (blkOk_by (by kernel_rfl)) (fun _ _ _ _ _ => pg_name (i := 3) scTo.nd rfl (.inl rfl)) (fun _ _ _ _ _ => pts_nil)
            (fun _ _ _ _ _ => pe_call GU hr (by rfl) mU kU bU .nil pass0 (pa_cons (pv 3) pa_nil))) pa_nil))) pa_nil))), ?_⟩
        refine hh _ fun D2 H' ts e1 e2 e3 => ⟨D2, _, rfl, .inl (.inl e1), fun l o ho hl => ?_⟩
        have sl := same_new hl (.frz o (.tup (ts.map V.ref)))
        exact q l ts _ (e2.trans sl) ⟨o, upd_same, ho⟩ (e3.same sl)
    intro rr fin
    obtain ⟨tr, hD, pr⟩ := id hL
    refine ⟨_, rfl, D, rfl, ⟨_, .inl (.inl hD)⟩, fun D2 hD2 => ?_⟩
    refine lc_it (walk_list (xs := tr.map V.ref)) (fun i H2 => ∃ ts : List Addr, H2 D2 = some (.lst (ts.map V.ref)) ∧ TRows H2 ts (thingsM (rows.take i) kind) ∧ Same H H2) ?_ (fun i H2 _ h => by obtain ⟨_, _, _, s⟩ := h; exact .inl (.inl (s _ _ hD))) ?_ ?_
    · exact ⟨[], upd_same, .nil, same_new hD2 _⟩
    · rintro i x H2 H2' hi ⟨ts, e1, e2, e3⟩ ⟨rfl, hx⟩
      rw [List.getElem?_map] at hx
      obtain ⟨t, ht, e⟩ := Option.map_eq_some_iff.mp hx
      subst e
      obtain ⟨r, hrr, hat⟩ := paired_at pr ht
      have hrm := List.mem_of_getElem? hrr
      have hat2 := e3 _ _ hat
      have nx := take_filter_map hrr (fun r => decide (hdR r = kind)) (fun r => r.tail.map umE)
      refine ⟨rfl, _, rfl, t, _, 0, .str (T (hdR r)), rfl, rfl, .inl (.inl hat2), atI_nat (j := 0) (strV_at (hd_at (hne r hrm))), _, rfl, rfl, _, rfl, ?_⟩
      refine ite2 (fun c => ?_) (fun c => ?_)
      · have c := T_inj (V.str.inj (of_decide_eq_true c))
        rw [if_pos (decide_eq_true c)] at nx
        refine ⟨_, rfl, _, rfl, t, _, rfl, .inl (.inl hat2), fun S hS => ?_⟩
        rw [cut_tail, strV_tail]
        have sS := same_new hS (.lst (strV r.tail))
        have hS1 : (upd H2' S (.lst (strV r.tail))) S = some (.lst (strV r.tail)) := upd_same
        generalize upd H2' S (.lst (strV r.tail)) = H3 at sS hS1 ⊢
        refine ⟨S, rfl, ⟨_, .inl (.inl hS1)⟩, fun D3 hD3 => ?_⟩
        refine lc_it (walk_list (xs := strV r.tail)) (fun j H4 => H4 D3 = some (.lst (strV ((r.tail.take j).map umE))) ∧ Same H3 H4) ?_ (fun j H4 _ h => .inl (.inl (h.2 _ _ hS1))) ?_ ?_
        · exact ⟨upd_same, same_new hD3 _⟩
        · rintro j x H4 H4' hj ⟨f1, f3⟩ ⟨rfl, hx⟩
          unfold strV at hx
          rw [List.map_map, List.getElem?_map] at hx
          obtain ⟨z, hz, e⟩ := Option.map_eq_some_iff.mp hx
          subst e
          refine ⟨rfl, _, rfl, z, rfl, _, f1, ?_, ?_, ?_⟩
          · have h1 := hlr r hrm
            have h2 := List.length_tail (l := r)
            rw [strV_len, List.length_map, List.length_take]
            exact Nat.lt_of_le_of_lt (show _ ≤ 10000 by omega) (by decide)
          · rw [upd_same, take_snoc hz]
            unfold strV
            rw [List.map_append, List.map_append, List.map_append]
            rfl
          · exact fun c u hc => by
              rw [upd_ne (ne_of_none hc hD3)]
              exact f3 _ _ hc
        rintro H4 ⟨f1, f3⟩
        rw [strV_len, List.take_length] at f1
        refine ⟨D3, _, rfl, .inl ⟨.inl (.inl f1), fun p hp => ?_⟩⟩
        have sp := same_new hp (.tup (strV (r.tail.map umE)))
        have s24 : Same H2' (upd H4 p (.tup (strV (r.tail.map umE)))) := (sS.trans f3).trans sp
        have e1' := s24 _ _ e1
        have lt : ts.length ≤ rows.length := by
          rw [paired_len e2]
          unfold thingsM
          rw [List.length_map]
          exact Nat.le_trans (List.length_filter_le _ _) (by rw [List.length_take]; omega)
        refine ⟨_, e1', ?_, ts ++ [p], ?_, ?_, ?_⟩
        · rw [List.length_map]
          exact Nat.lt_of_le_of_lt (show _ ≤ 10000 by omega) (by decide)
        · rw [upd_same, List.map_append]
          rfl
        · unfold thingsM
          rw [nx]
          have k : KT (upd H4 p (.tup (strV (r.tail.map umE)))) _ := kt_upd e1' (o := .lst (ts.map V.ref ++ [.ref p]))
          exact paired_app ((e2.same s24).kt k) (.cons (k.1 _ _ upd_same) .nil)
        · exact fun c u hc => by
            rw [upd_ne (ne_of_none hc hD2)]
            exact s24 _ _ (e3 _ _ hc)
      · have c : ¬ hdR r = kind := fun z => c (decide_eq_true (by rw [z]))
        rw [if_neg (by rw [decide_eq_false c]; exact Bool.false_ne_true), List.append_nil] at nx
        refine ⟨ts, e1, ?_, e3⟩
        unfold thingsM
        rw [nx]
        exact e2
    rintro H2 ⟨ts, e1, e2, e3⟩
    rw [List.length_map, paired_len pr, List.take_length] at e2
    exact fin D2 H2 ts e1 e3 e2
end
end Say
namespace Say
open PySem PySem.Spec PyProof.Rows L2
theorem hd_mark {r : List (List Nat)} (h : r ≠ []) (k : hdR r ≠ []) : hdR (markR r) = hdR r := by
  cases r with
  | nil => exact absurd rfl h
  | cons a t => exact mk_id k
theorem mark_no (r : List (List Nat)) : (markR r).contains [] = false := by
  rw [Bool.eq_false_iff]
  intro h
  rw [List.contains_iff_mem] at h
  obtain ⟨z, _, hz⟩ := List.mem_map.mp h
  exact mk_ne z hz
theorem good_exc : ∀ (es : List Exc) (last : List Nat), (last = kwL ∨ last = kwR ∨ last = kwW) → rowsGood last ((es.map excRow).map markR) = true
  | [], _, _ => rfl
  | e :: r, last, h => by
    have hh : hdR (markR (excRow e)) = kwW := hd_mark (r := excRow e) (by intro z; cases z) (by show kwW ≠ []; decide)
    have h1 : isRowM (markR (excRow e)) = true := by
      unfold isRowM
      rw [mark_no, hh]
      rfl
    have h2 : (follM last).contains kwW = true := by rcases h with rfl | rfl | rfl <;> decide +kernel
    show (isRowM (markR (excRow e)) && ((follM last).contains (hdR (markR (excRow e))) && rowsGood (hdR (markR (excRow e))) ((r.map excRow).map markR))) = true
    rw [h1, hh, h2, good_exc r kwW (.inr (.inr rfl))]
    rfl
theorem good_rul (es : List Exc) : ∀ (rs : List Rule) (last : List Nat), (last = kwL ∨ last = kwR) → rowsGood last ((rs.map ruleRow ++ es.map excRow).map markR) = true
  | [], last, h => good_exc es last (by rcases h with h | h <;> simp [h])
  | ρ :: r, last, h => by
    have hh : hdR (markR (ruleRow ρ)) = kwR := hd_mark (r := ruleRow ρ) (by intro z; cases z) (by show kwR ≠ []; decide)
    have h1 : isRowM (markR (ruleRow ρ)) = true := by
      unfold isRowM
      rw [mark_no, hh]
      rfl
    have h2 : (follM last).contains kwR = true := by rcases h with rfl | rfl <;> decide +kernel
    show (isRowM (markR (ruleRow ρ)) && ((follM last).contains (hdR (markR (ruleRow ρ))) && rowsGood (hdR (markR (ruleRow ρ))) ((r.map ruleRow ++ es.map excRow).map markR))) = true
    rw [h1, hh, h2, good_rul es r kwR (.inr rfl)]
    rfl
theorem good_words {L : List Nat} {rs : List Rule} {es : List Exc} (h : BookOk L rs es) : rowsGood [] (wordsM L rs es) = true := by
  have hh : hdR (markR [kwL, L]) = kwL := hd_mark (by intro z; cases z) (by show kwL ≠ []; decide)
  have h1 : isRowM (markR [kwL, L]) = true := by
    unfold isRowM
    rw [mark_no, hh]
    rfl
  show (isRowM (markR [kwL, L]) && ((follM []).contains (hdR (markR [kwL, L])) && rowsGood (hdR (markR [kwL, L])) ((rs.map ruleRow ++ es.map excRow).map markR))) = true
  rw [h1, hh, good_rul es rs kwL (.inl rfl)]
  decide +kernel
theorem things_rules {L : List Nat} {rs : List Rule} {es : List Exc} (h : BookOk L rs es) : thingsM (wordsM L rs es) kwR = rs.map fun ρ => [ρ.ah, ρ.ow, ρ.be, ρ.so] := by
  have hR : ∀ l : List Rule, (∀ ρ ∈ l, RowOk (ruleRow ρ)) → thingsM ((l.map ruleRow).map markR) kwR = l.map fun ρ => [ρ.ah, ρ.ow, ρ.be, ρ.so] := by
    intro l hl
    induction l with
    | nil => rfl
    | cons ρ t ih =>
      have hh : hdR (markR (ruleRow ρ)) = kwR := hd_mark (r := ruleRow ρ) (by intro z; cases z) (by show kwR ≠ []; decide)
      have b := row_back (hl ρ (List.mem_cons_self ..))
      unfold thingsM at ih ⊢
      rw [List.map_cons, List.map_cons, List.filter_cons_of_pos (p := fun r => decide (hdR r = kwR)) (decide_eq_true hh), List.map_cons, ih fun x hx => hl x (List.mem_cons_of_mem _ hx), List.map_cons]
      exact congrArg (fun z => z :: _) (List.cons.inj b).2
  have hE : ∀ l : List Exc, thingsM ((l.map excRow).map markR) kwR = [] := by
    intro l
    induction l with
    | nil => rfl
    | cons e t ih =>
      have hh : hdR (markR (excRow e)) = kwW := hd_mark (r := excRow e) (by intro z; cases z) (by show kwW ≠ []; decide)
      unfold thingsM at ih ⊢
      rw [List.map_cons, List.map_cons, List.filter_cons_of_neg (by rw [hh]; decide), ih]
  have hA : thingsM (wordsM L rs es) kwR = thingsM ((rs.map ruleRow).map markR) kwR ++ thingsM ((es.map excRow).map markR) kwR := by
    have hh : hdR (markR [kwL, L]) = kwL := hd_mark (by intro z; cases z) (by show kwL ≠ []; decide)
    unfold thingsM wordsM rowsM
    rw [List.map_cons, List.filter_cons_of_neg (by rw [hh]; decide), List.map_append, List.filter_append, List.map_append]
  rw [hA, hE, List.append_nil]
  exact hR rs fun ρ hρ => ruleRow_ok h.lt (h.rl ρ hρ)
theorem things_excs {L : List Nat} {rs : List Rule} {es : List Exc} (h : BookOk L rs es) : thingsM (wordsM L rs es) kwW = es.map fun e => [e.1, e.2] := by
  have hR : ∀ l : List Exc, (∀ e ∈ l, RowOk (excRow e)) → thingsM ((l.map excRow).map markR) kwW = l.map fun e => [e.1, e.2] := by
    intro l hl
    induction l with
    | nil => rfl
    | cons e t ih =>
      have hh : hdR (markR (excRow e)) = kwW := hd_mark (r := excRow e) (by intro z; cases z) (by show kwW ≠ []; decide)
      have b := row_back (hl e (List.mem_cons_self ..))
      unfold thingsM at ih ⊢
      rw [List.map_cons, List.map_cons, List.filter_cons_of_pos (p := fun r => decide (hdR r = kwW)) (decide_eq_true hh), List.map_cons, ih fun x hx => hl x (List.mem_cons_of_mem _ hx), List.map_cons]
      exact congrArg (fun z => z :: _) (List.cons.inj b).2
  have hE : ∀ l : List Rule, thingsM ((l.map ruleRow).map markR) kwW = [] := by
    intro l
    induction l with
    | nil => rfl
    | cons e t ih =>
      have hh : hdR (markR (ruleRow e)) = kwR := hd_mark (r := ruleRow e) (by intro z; cases z) (by show kwR ≠ []; decide)
      unfold thingsM at ih ⊢
      rw [List.map_cons, List.map_cons, List.filter_cons_of_neg (by rw [hh]; decide), ih]
  have hA : thingsM (wordsM L rs es) kwW = thingsM ((rs.map ruleRow).map markR) kwW ++ thingsM ((es.map excRow).map markR) kwW := by
    have hh : hdR (markR [kwL, L]) = kwL := hd_mark (by intro z; cases z) (by show kwL ≠ []; decide)
    unfold thingsM wordsM rowsM
    rw [List.map_cons, List.filter_cons_of_neg (by rw [hh]; decide), List.map_append, List.filter_append, List.map_append]
  rw [hA, hE, List.nil_append]
  exact hR es fun e he => excRow_ok h.lt (h.ex e he)
theorem paired_back {α β γ : Type} {F : α → β → Prop} {G : α → γ → Prop} {g : γ → β} (h : ∀ x c, F x (g c) → G x c) : ∀ {ts : List α} {l : List γ}, Paired F ts (l.map g) → Paired G ts l
  | _, [], .nil => .nil
  | _, _ :: _, .cons a r => .cons (h _ _ a) (paired_back h r)
theorem foll_mem {last z : List Nat} (hl : last ∈ keysN) (h : (follM last).contains z = true) : z ∈ keysN := by
  rw [List.contains_iff_mem] at h
  have : ∀ l ∈ keysN, ∀ y ∈ follM l, y ∈ keysN := by decide +kernel
  exact this last hl z h
section
variable {P : Program} {w : World} {K : PySem.W.Frag} {mg : Str → Option Value} {base : Heap}
abbrev sCr : Stmt := topS 34
abbrev nCr : List Str := ["rows", "last", "number", "words"]
theorem scCr : FnScope nCr ["rows"] (defScope sCr) := ⟨rfl, rfl, rfl, by decide +kernel, rfl, by decide +kernel, by decide +kernel⟩
def spCr : Sp := fun vs H Q _ => ∃ (D : Addr) (rows : List (List (List Nat))), vs = [.ref D] ∧ LRows H D rows ∧ (∀ r ∈ rows, r ≠ []) ∧ rowsGood [] rows = true ∧ ∀ (H' : Hp), Same H H' → Q .non H'
theorem ok_cr {f : Addr} {fd : FuncData} (F : Fun K "check_rows" "check_rows" sCr f fd) (B : Bn mg) (NK : NoteK K w mg) (DI : Df P w K mg base "is_row" ["words"] 1 spIr) : FnOk P w K mg base CX0 2 f fd ["rows"] spCr := by
  obtain ⟨fI, fdI, GI, kI, bI, mI⟩ := DI
  obtain ⟨_, ⟨aF, mF, gF⟩⟩ := NK
  refine F.ok scCr (fun vs H Q E h => ?_) (fun cdv A outer s H vs Q E hr h => ?_)
  · obtain ⟨D, rows, rfl, _⟩ := h
    rfl
  · obtain ⟨D, rows, rfl, ⟨tr, hD, pr⟩, hne, hg, q⟩ := h
    refine ⟨_, pss_cons (ps_set (i := 1) scCr.nd rfl (.inl rfl) pe_str)
      (pss_one (ps_for PassesOwn.never rfl (pi_enum (by rfl) B.enu (pa_cons (pv 0) pa_nil)) (pg_tup (by rfl) (pgs_cons (pg_name (i := 2) scCr.nd rfl (.inl rfl)) (pgs_cons (pg_name (i := 3) scCr.nd rfl (.inl rfl)) pgs_nil)))
        (pss_cons (ps_if (PW.pt (pw_or (pt_not (pt_val (pe_call GI hr (by rfl) mI kI bI .nil pass0 (pa_cons (pv 3) pa_nil))))
            (pw_or1 (pt_cmpR op_notIn_seq (pe_ix ix_list (pv 3) pe_int (fun _ _ => rfl)) (pe_ix ix_kdict (pe_glob (v := .ref aF) rfl mF rfl) (pv 1) (fun _ _ => rfl)) rfl)))) (pss_one ps_never) pss_nil)
        (pss_one (ps_set (i := 1) scCr.nd rfl (.inl rfl) (pe_ix ix_list (pv 3) pe_int (fun _ _ => rfl))))))), ?_⟩
    refine ⟨_, rfl, D, _, rfl, .inl (.inl hD), for_it (walk_enum (xs := tr.map V.ref)) (fun i σ H2 => Same H H2 ∧ ∃ last v2 v3, σ = [some (.ref D), some (.str (T last)), v2, v3] ∧ last ∈ keysN ∧ rowsGood last (rows.drop i) = true)
      ⟨Same.refl H, [], _, _, by rw [← show Str.ofString "" = T [] from nil_eq]; rfl, by decide +kernel, hg⟩ (fun i σ H2 _ h => .inl (.inl (h.1 _ _ hD))) ?_ ?_⟩
    · rintro i x σ H2 H3 hi ⟨s2, last, v2, v3, rfl, hk, hgo⟩ ⟨t, x1, x2, rfl, ht, rfl, g1, g2⟩
      cases g1
      have g2 : (tr.map V.ref)[i]? = some x2 := g2
      rw [List.getElem?_map] at g2
      obtain ⟨a, ha, e⟩ := Option.map_eq_some_iff.mp g2
      subst e
      obtain ⟨r, hrr, hat⟩ := paired_at pr ha
      have hrn := hne r (List.mem_of_getElem? hrr)
      have sm := same_new ht (.tup [.int (i : Nat), .ref a])
      have hat3 := sm _ _ (s2 _ _ hat)
      have hd : rows.drop i = r :: rows.drop (i + 1) := by
        have hi2 := (List.getElem?_eq_some_iff.mp hrr)
        rw [List.drop_eq_getElem_cons hi2.1, hi2.2]
      rw [hd] at hgo
      have hgo : (isRowM r && ((follM last).contains (hdR r) && rowsGood (hdR r) (rows.drop (i + 1)))) = true := hgo
      rw [Bool.and_eq_true, Bool.and_eq_true] at hgo
      obtain ⟨p, kd, sq⟩ := gF last hk
      refine ⟨t, _, rfl, .inl (.inl upd_same), rfl, _, _, rfl, _, _, rfl, rfl, ?_⟩
      refine ⟨_, rfl, a, r, rfl, hat3, hrn, ?_⟩
      rw [hgo.1]
      refine ⟨true, rfl, iteF ?_⟩
      refine ⟨_, rfl, a, _, 0, .str (T (hdR r)), rfl, rfl, .inl (.inl hat3), atI_nat (j := 0) (strV_at (hd_at hrn)), _, rfl, aF, T last, _, rfl, rfl, kd, p, _, rfl, .inr (sq _), rfl, strV_flat _, ?_⟩
      refine ⟨_, rfl, ?_⟩
      rw [inV_str, hgo.2.1]
      refine iteF ?_
      refine ⟨_, rfl, a, _, 0, .str (T (hdR r)), rfl, rfl, .inl (.inl hat3), atI_nat (j := 0) (strV_at (hd_at hrn)), ?_⟩
      exact ⟨s2.trans sm, hdR r, _, _, rfl, foll_mem hk hgo.2.1, hgo.2.2⟩
    · rintro σ H2 ⟨s2, last, v2, v3, rfl, _⟩
      exact q H2 s2
abbrev sRd : Stmt := topS 33
abbrev nRd : List Str := ["text", "rows", "row"]
theorem scRd : FnScope nRd ["text"] (defScope sRd) := ⟨rfl, rfl, rfl, by decide +kernel, rfl, by decide +kernel, by decide +kernel⟩
def spRd : Sp := fun vs H Q _ => ∃ (L : List Nat) (rs : List Rule) (es : List Exc), vs = [.str (T (textM L rs es))] ∧ BookOk L rs es ∧ ∀ (b : Addr) (H' : Hp), Same H H' → BookAt H' b L rs es → Q (.ref b) H'
theorem ok_rd {f fT : Addr} {fd fdT : FuncData} (F : Fun K "read" "read" sRd f fd) (B : Bn mg) (DR : Df P w K mg base "check_rows" ["rows"] 2 spCr) (DU : Df P w K mg base "unmarked" ["word"] 1 spUm)
    (GT : ∀ fr, FnOk P w K mg base CX0 2 fT fdT ["rows", "kind"] (spTo fr)) (kT : PySem.W.keepIn K (.ref fT) = true) (bT : Binds K fdT ["rows", "kind"] []) (mT : mg "things_of" = some (.ref fT))
    (DC : Df P w K mg base "checked_book" ["book"] 5 spCh) : FnOk P w K mg base CX0 6 f fd ["text"] spRd := by
  obtain ⟨fR, fdR, GR, kR, bR, mR⟩ := DR
  obtain ⟨fU, fdU, GU, kU, bU, mU⟩ := DU
  obtain ⟨fC, fdC, GC, kC, bC, mC⟩ := DC
  refine F.ok scRd (fun vs H Q E h => ?_) (fun cdv A outer s H vs Q E hr h => ?_)
  · obtain ⟨L, rs, es, rfl, _⟩ := h
    rfl
  · obtain ⟨L, rs, es, rfl, ho, q⟩ := h
    have hr1 : Room 1 _ := hr.mono (by decide)
    have hr2 : Room 2 _ := hr.mono (by decide)
    refine ⟨_, pss_cons (ps_if (pt_not (pt_val (pe_callB call_isi (by rfl) B.isi (by decide +kernel) (pa_cons (pv 0) (pa_cons (pe_bltn (v := .ty "str") rfl B.str (by decide +kernel) rfl) pa_nil))))) (pss_one ps_never) pss_nil)
      (pss_cons (ps_setLc (i := 1) (own := [("row", 2)]) (g := gName 2) rfl scRd.nd rfl rfl (sw_true rfl rfl rfl (by decide +kernel)) (pi_list (pe_split (pv 0) pe_str)) (blkOk_by (N := nRd) (sc := defScope sRd) (by decide +kernel)) (fun _ _ _ _ _ => pg_name (i := 2) scRd.nd rfl (.inl rfl)) (fun _ _ _ _ _ => pts_nil)
          (fun _ _ _ _ _ => pe_split (pv 2) pe_str))
      (pss_cons (ps_expr (pe_call GR hr2 (by rfl) mR kR bR .nil pass0 (pa_cons (pv 1) pa_nil)))
      (pss_one (ps_ret (pe_call GC hr (by rfl) mC kC bC .nil pass0 (pa_cons (pe_tup (pa_cons (pe_call GU hr1 (by rfl) mU kU bU .nil pass0 (pa_cons (pe_ix ix_list (pe_ix ix_list (pv 1) pe_int (fun _ _ => rfl)) pe_int (fun _ _ => rfl)) pa_nil))
        (pa_cons (pe_call (GT false) hr2 (by rfl) mT kT bT .nil pass0 (pa_cons (pv 1) (pa_cons pe_str pa_nil))) (pa_cons (pe_call (GT true) hr2 (by rfl) mT kT bT .nil pass0 (pa_cons (pv 1) (pa_cons pe_str pa_nil))) pa_nil)))) pa_nil)))))), ?_⟩
    have tl := text_len ho
    have hl := rows_len ho
    refine ⟨_, rfl, _, _, .type "str", _, true, rfl, ClsV.ty _, .base (.str _), kit_ty (by decide +kernel), true, rfl, iteF ?_⟩
    refine ⟨_, rfl, ⟨_, rfl⟩, _, _, rfl, rfl, (by decide +kernel), (by rw [T_len]; exact small (by omega)), fun W hW => ?_⟩
    rw [nl_eq, split_rows ho]
    have sW := same_new hW (.lst ((((wordsM L rs es).map lineM).map T).map V.str))
    have hW1 : (upd H W (.lst ((((wordsM L rs es).map lineM).map T).map V.str))) W = some (.lst ((((wordsM L rs es).map lineM).map T).map V.str)) := upd_same
    generalize upd H W (.lst ((((wordsM L rs es).map lineM).map T).map V.str)) = H1 at sW hW1 ⊢
    have lw : (wordsM L rs es).length = (rowsM L rs es).length := by unfold wordsM; rw [List.length_map]
    refine ⟨W, rfl, ⟨_, .inl (.inl hW1)⟩, fun D hD => ?_⟩
    refine lc_it (walk_list (xs := (((wordsM L rs es).map lineM).map T).map V.str)) (fun i H2 => (∃ ts : List Addr, H2 D = some (.lst (ts.map V.ref)) ∧ Paired (fun t r => H2 t = some (.lst (strV r))) ts ((wordsM L rs es).take i) ∧ ∀ t ∈ ts, t ≠ D) ∧ Same H1 H2) ?_ (fun i H2 _ h => .inl (.inl (h.2 _ _ hW1))) ?_ ?_
    · exact ⟨⟨[], upd_same, .nil, fun t h => (nomatch h)⟩, same_new hD _⟩
    · rintro i x H2 H2' hi ⟨⟨ts, e1, e2, e4⟩, e3⟩ ⟨rfl, hx⟩
      rw [List.map_map, List.map_map, List.getElem?_map] at hx
      obtain ⟨mr, hmr, e⟩ := Option.map_eq_some_iff.mp hx
      subst e
      obtain ⟨r, hrr, e⟩ := Option.map_eq_some_iff.mp (show ((rowsM L rs es)[i]?).map markR = some mr by rw [← List.getElem?_map]; exact hmr)
      subst e
      have ro := rows_ok ho r (List.mem_of_getElem? hrr)
      have ll := line_len ro
      refine ⟨rfl, _, rfl, ⟨_, rfl⟩, _, _, rfl, rfl, (by decide +kernel), (by show (T (lineM (markR r))).length + 2 ≤ _; rw [T_len]; exact small (by omega)), fun p hp => ?_⟩
      rw [sp_eq, show Txt.split (T (lineM (markR r))) (T [32]) = (markR r).map T from split_row ro]
      have sp := same_new hp (.lst (((markR r).map T).map V.str))
      have e1' := sp _ _ e1
      have npD : p ≠ D := fun z => by rw [z, e1] at hp; cases hp
      have lt : ts.length ≤ 21 := by
        rw [paired_len e2, List.length_take]
        omega
      refine ⟨_, e1', ?_, ⟨ts ++ [p], ?_, ?_, ?_⟩, ?_⟩
      · rw [List.length_map]
        exact Nat.lt_of_le_of_lt lt (by decide)
      · rw [upd_same, List.map_append]
        rfl
      · rw [take_snoc hmr]
        refine paired_app ?_ (.cons ?_ .nil)
        · have : ∀ {ts : List Addr} {l : List (List (List Nat))}, (∀ t ∈ ts, t ≠ D) → Paired (fun t r => H2' t = some (.lst (strV r))) ts l → Paired (fun t r => (upd (upd H2' p (.lst (((markR r).map T).map V.str))) D (.lst (ts.map V.ref ++ [.ref p]))) t = some (.lst (strV r))) ts l → True := fun _ _ _ => trivial
          have go : ∀ {ts' : List Addr} {l : List (List (List Nat))} {o : HO}, (∀ t ∈ ts', t ≠ D) → Paired (fun t r => H2' t = some (.lst (strV r))) ts' l → Paired (fun t r' => (upd (upd H2' p (.lst (((markR r).map T).map V.str))) D o) t = some (.lst (strV r'))) ts' l := by
            intro ts' l o hn hp'
            induction hp' with
            | nil => exact .nil
            | cons a t ih => exact .cons (by rw [upd_ne (hn _ (List.mem_cons_self ..))]; exact sp _ _ a) (ih fun x hx => hn x (List.mem_cons_of_mem _ hx))
          exact go e4 e2
        · rw [upd_ne npD, upd_same]
          rfl
      · intro t ht
        rcases List.mem_append.mp ht with ht | ht
        · exact e4 t ht
        · rw [List.mem_singleton.mp ht]; exact npD
      · exact fun c u hc => by
          rw [upd_ne (ne_of_none hc hD)]
          exact sp _ _ (e3 _ _ hc)
    rintro H2 ⟨⟨ts, e1, e2, e4⟩, e3⟩
    have le : ((((wordsM L rs es).map lineM).map T).map V.str).length = (wordsM L rs es).length := by rw [List.length_map, List.length_map, List.length_map]
    rw [le, List.take_length] at e2
    have LR : LRows H2 D (wordsM L rs es) := ⟨ts, e1, e2⟩
    have hne : ∀ r ∈ wordsM L rs es, r ≠ [] := fun r hr => by
      obtain ⟨r', h1, rfl⟩ := List.mem_map.mp hr
      have := (rows_ok ho r' h1).l1
      intro z
      unfold markR at z
      rw [List.map_eq_nil_iff.mp z] at this
      exact absurd this (by decide)
    have hlr : ∀ r ∈ wordsM L rs es, r.length ≤ 10000 := fun r hr => by
      obtain ⟨r', h1, rfl⟩ := List.mem_map.mp hr
      have := (rows_ok ho r' h1).l5
      unfold markR
      rw [List.length_map]
      omega
    refine ⟨_, rfl, D, _, rfl, LR, hne, good_words ho, fun H3 s3 => ?_⟩
    have LR3 := LR.same s3
    obtain ⟨ts3, d3, p3⟩ := id LR3
    obtain ⟨t0, ht0, hr0⟩ := paired_at' p3 (i := 0) (y := markR [kwL, L]) rfl
    have hLne : L ≠ [] := fun z => by have := ho.lt.l2; rw [z] at this; exact absurd this (by decide)
    have hL45 : L ≠ [45] := fun z => by have := ho.lt.l2; rw [z] at this; exact absurd this (by decide)
    have x0 : (ts3.map V.ref)[0]? = some (.ref t0) := by rw [List.getElem?_map, ht0]; rfl
    refine ⟨_, rfl, D, _, 0, .ref t0, rfl, rfl, .inl (.inl d3), atI_nat (j := 0) x0, t0, _, 1, .str (T L), rfl, rfl, .inl (.inl hr0), atI_nat (j := 1) (by show some (V.str (T (mkE L))) = _; rw [mk_id hLne]), L, rfl, ?_⟩
    rw [show umE L = L from if_neg hL45]
    refine ⟨_, rfl, D, _, kwR, (by rw [show (V.str "rule") = V.str (T kwR) from congrArg V.str kwR_eq] <;> rfl), LR3, hne, by rw [lw]; omega, hlr, fun R tsR H4 s4 hR pR => ?_⟩
    have hR : H4 R = some (.tup (tsR.map V.ref)) := hR
    have LR4 := LR3.same s4
    refine ⟨_, rfl, D, _, kwW, (by rw [show (V.str "word") = V.str (T kwW) from congrArg V.str kwW_eq] <;> rfl), LR4, hne, by rw [lw]; omega, hlr, fun X tsX H5 s5 hX pX => ?_⟩
    have hX : TupN H5 X (tsX.map V.ref) := hX
    rw [things_rules ho] at pR
    rw [things_excs ho] at pX
    refine ⟨(by show 3 ≤ sizeLine; decide), fun b hb => ?_⟩
    have sb := same_new hb (.tup [.str (T L), .ref R, .ref X])
    have HB : BookAt (upd H5 b (.tup [.str (T L), .ref R, .ref X])) b L rs es := ⟨R, X, upd_same, ⟨tsR, (s5.trans sb) _ _ hR, paired_back (F := fun t r => H4 t = some (.tup (strV r))) (fun t ρ h => (s5.trans sb) _ _ h) pR⟩, ⟨tsX, hX.kt (.of sb), paired_back (F := fun t r => H5 t = some (.tup (strV r))) (fun t e h => sb _ _ h) pX⟩⟩
    refine ⟨b, L, rs, es, rfl, HB, ho, fun H6 s6 => ?_⟩
    exact q b H6 (((((sW.trans e3).trans s3).trans s4).trans s5).trans (sb.trans s6)) (HB.kt (.of s6))
end
end Say
namespace Say
open PySem PySem.Spec PyProof.Rows L2
theorem eqT {a b : List Nat} : decide (V.str (T a) = V.str (T b)) = decide (a = b) := decide_eq_decide.mpr ⟨fun z => T_inj (V.str.inj z), fun z => by rw [z]⟩
end Say
namespace Say
open PySem PySem.Spec PyProof.Rows L2
theorem Same.seqT {K : PySem.W.Frag} {H H' : Hp} {a : Addr} {xs : List V} (e : Same H H') (h : SqT K H a xs) : SqT K H' a xs := by
  rcases h with (h | ⟨o, h⟩) | h
  · exact .inl (.inl (e _ _ h))
  · exact .inl (.inr ⟨o, e _ _ h⟩)
  · exact .inr h
mutual
theorem dp_same {K : PySem.W.Frag} {H H' : Hp} (e : Same H H') : ∀ {v : V} {d : PyData}, Dp K H v d → Dp K H' v d
  | _, _, .non => .non
  | _, _, .bl b => .bl b
  | _, _, .int i => .int i
  | _, _, .str x => .str x
  | _, _, .lst h a => .lst (Same.seq e h) (dpa_same e a)
  | _, _, .tup h a => .tup (Same.seqT e h) (dpa_same e a)
theorem dpa_same {K : PySem.W.Frag} {H H' : Hp} (e : Same H H') : ∀ {vs : List V} {ds : List PyData}, DpAll K H vs ds → DpAll K H' vs ds
  | _, _, .nil => .nil
  | _, _, .cons h t => .cons (dp_same e h) (dpa_same e t)
end
theorem dpa_len {K : PySem.W.Frag} {H : Hp} : ∀ {vs : List V} {ds : List PyData}, DpAll K H vs ds → vs.length = ds.length
  | _, _, .nil => rfl
  | _, _, .cons _ t => by simp [dpa_len t]
theorem dpa_at {K : PySem.W.Frag} {H : Hp} : ∀ {vs : List V} {ds : List PyData}, DpAll K H vs ds → ∀ {i : Nat} {d : PyData}, ds[i]? = some d → ∃ v, vs[i]? = some v ∧ Dp K H v d
  | _, _, .nil, i, d, h => by cases h
  | _, _, .cons a t, 0, d, h => by
    cases h
    exact ⟨_, rfl, a⟩
  | _, _, .cons a t, i + 1, d, h => dpa_at t h
/-- data with no dicts, its lists not long -/
inductive Few : PyData → Prop
  | non : Few .none
  | bl (b : Bool) : Few (.bool b)
  | int (i : Int) : Few (.int i)
  | str (x : Str) : Few (.str x)
  | lst {ds : List PyData} : ds.length ≤ 1000 → (∀ d ∈ ds, Few d) → Few (.list ds)
  | tup {ds : List PyData} : ds.length ≤ 1000 → (∀ d ∈ ds, Few d) → Few (.tuple ds)
theorem depth_mem : ∀ {ds : List PyData} {d : PyData}, d ∈ ds → d.depth ≤ PyData.depthAll ds
  | x :: r, d, h => by
    unfold PyData.depthAll
    rcases List.mem_cons.mp h with rfl | h
    · exact Nat.le_max_left _ _
    · exact Nat.le_trans (depth_mem h) (Nat.le_max_right _ _)
end Say
namespace Say
open PySem PySem.Spec PyProof.Rows L2
section
variable {P : Program} {w : World} {K : PySem.W.Frag} {mg : Str → Option Value} {base : Heap}
theorem ty_list {H : Hp} {a : Addr} {xs : List V} (h : SqL K H a xs) : TyX K H (.ref a) (.type "list") := by
  rcases h with (h | ⟨o, h⟩) | ⟨o, its, n, h, hc, _⟩
  · exact .base (.lst h)
  · exact .base (.frz h)
  · exact .kList h hc
theorem ty_tup {H : Hp} {a : Addr} {xs : List V} (h : SqT K H a xs) : TyX K H (.ref a) (.type "tuple") := by
  rcases h with (h | ⟨o, h⟩) | ⟨o, its, n, h, hc, _⟩
  · exact .base (.tup h)
  · exact .fTuple h
  · exact .kTuple h hc
abbrev sAl : Stmt := topS 48
abbrev psAl : List Str := ["_law_found", "_law_due"]
theorem scAl : FnScope ["_law_found", "_law_due", "_law_same_kind", "_law_k"] ["_law_found", "_law_due"] (defScope sAl) := ⟨rfl, rfl, rfl, by decide +kernel, rfl, by decide +kernel, by decide +kernel⟩
/-- two values of the same data, not too deep -/
def spAl (K : PySem.W.Frag) (n : Nat) : Sp := fun vs H Q _ => ∃ (x y : V) (d : PyData), vs = [x, y] ∧ Dp K H x d ∧ Dp K H y d ∧ Few d ∧ d.depth < n ∧ ∀ H', Same H H' → Q (.bl true) H'
theorem kit2 {t a b : String} {r : Bool} (h : (match kitB t a, kitB t b with | some true, _ => some true | some false, some x => some x | _, _ => none) = some r) (h2 : kitB t b ≠ none) : PySem.W.kitAny K (.type t) [.type a, .type b] = some r := by
  cases ha : kitB t a with
  | none => rw [ha] at h; cases h
  | some x =>
    rw [ha] at h
    cases x with
    | true =>
      have h : some true = some r := h
      cases h
      exact kitAny_cons (kit_ty ha) (fun z => by cases z) fun _ => rfl
    | false =>
      cases hb : kitB t b with
      | none => exact absurd hb h2
      | some y =>
        rw [hb] at h
        have h : some y = some r := h
        cases h
        refine kitAny_cons (kit_ty ha) (fun _ => ?_) fun z => by cases z
        refine kitAny_cons (kit_ty hb) (fun z => ?_) fun z => z
        rw [z]
        exact kitAny_nil
def tTL : TE := tTup (tCons (tC (.ty "tuple")) (tCons (tC (.ty "list")) tNil))
theorem ok_al {f : Addr} {fd : FuncData} {n : Nat} (F : Fun K "_law_alike" "_law_alike" sAl f fd) (G : FnOk P w K mg base CX0 n f fd psAl (spAl K n)) (bG : Binds K fd psAl []) (mG : mg "_law_alike" = some (.ref f)) (B : Bn mg) :
    FnOk P w K mg base CX0 (n + 1) f fd psAl (spAl K (n + 1)) := by
  refine F.ok scAl (fun vs H Q E h => ?_) (fun cdv A outer s H vs Q E hr h => ?_)
  · obtain ⟨x, y, d, rfl, _⟩ := h
    rfl
  · obtain ⟨x, y, d, rfl, hx, hy, hF, hd, q⟩ := h
    refine ⟨_, pss_cons (ps_if (pt_val (pe_callB call_isiT (by rfl) B.isi (by decide +kernel) (pa_cons (pv 1) (pa_cons (pe_tup (pa_cons (pe_bltn (v := .ty "tuple") rfl B.tup (by decide +kernel) rfl) (pa_cons (pe_bltn (v := .ty "list") rfl B.lst (by decide +kernel) rfl) pa_nil))) pa_nil))))
        (pss_cons (ps_if (PW.pt (pw_or (pt_cmpR op_ne (pe_callB call_isi (by rfl) B.isi (by decide +kernel) (pa_cons (pv 0) (pa_cons (pe_bltn (v := .ty "tuple") rfl B.tup (by decide +kernel) rfl) pa_nil))) (pe_callB call_isi (by rfl) B.isi (by decide +kernel) (pa_cons (pv 1) (pa_cons (pe_bltn (v := .ty "tuple") rfl B.tup (by decide +kernel) rfl) pa_nil))) (nomark _))
            (pw_or1 (pt_not (pt_val (pe_callB call_isiT (by rfl) B.isi (by decide +kernel) (pa_cons (pv 0) (pa_cons (pe_tup (pa_cons (pe_bltn (v := .ty "tuple") rfl B.tup (by decide +kernel) rfl) (pa_cons (pe_bltn (v := .ty "list") rfl B.lst (by decide +kernel) rfl) pa_nil))) pa_nil)))))))) (pss_one (ps_ret pe_bl)) pss_nil)
        (pss_cons (ps_if (pt_cmpR op_ne (pe_callB call_len (by rfl) B.len PySem.boot_len (pa_cons (pv 0) pa_nil)) (pe_callB call_len (by rfl) B.len PySem.boot_len (pa_cons (pv 1) pa_nil)) (nomark _)) (pss_one (ps_ret pe_bl)) pss_nil)
        (pss_one (ps_ret (pe_cmpR (op_eqD hr.units) (pe_lc (own := [("_law_k", 3)]) (g := gName 3) (te := tVar 3) (tt := tNot (tB (tCall (spAl K n) [] E0 (tCons (tOp (rIx K) (tVar 0) (tVar 3)) (tCons (tOp (rIx K) (tVar 1) (tVar 3)) tNil))))) rfl scAl.nd
            (pi_range1 rfl B.rng (pa_cons (pe_callB call_len (by rfl) B.len PySem.boot_len (pa_cons (pv 1) pa_nil)) pa_nil))
            (blkOk_by (N := ["_law_found", "_law_due", "_law_same_kind", "_law_k"]) (sc := defScope sAl) (by decide +kernel)) (fun _ _ _ _ _ => pg_name (i := 3) scAl.nd rfl (.inl rfl))
            (fun _ _ _ _ _ => pts_one (pt_not (pt_val (pe_call G hr (by rfl) mG F.kp bG .nil pass0 (pa_cons (pe_ix ix_seq (pv 0) (pv 3) (fun _ _ => rfl)) (pa_cons (pe_ix ix_seq (pv 1) (pv 3) (fun _ _ => rfl)) pa_nil)))))) (fun _ _ _ _ _ => pv 3)) (pe_lst pa_nil) (nomark _)))))) pss_nil)
      (pss_cons (ps_if (PW.pt (pw_or (pt_cmpR op_isN (pv 1) pe_non (nomark _)) (pw_or1 (pt_cmpR op_isN (pv 0) pe_non (nomark _))))) (pss_one (ps_ret (pe_and (pe_cmpR op_isN (pv 1) pe_non (nomark _)) (pe_one (pe_cmpR op_isN (pv 0) pe_non (nomark _)))))) pss_nil)
      (pss_cons (ps_set (i := 2) scAl.nd rfl (.inl rfl) (pe_cmpR op_eq (pe_callB call_isi (by rfl) B.isi (by decide +kernel) (pa_cons (pv 1) (pa_cons (pe_bltn (v := .ty "str") rfl B.str (by decide +kernel) rfl) pa_nil))) (pe_callB call_isi (by rfl) B.isi (by decide +kernel) (pa_cons (pv 0) (pa_cons (pe_bltn (v := .ty "str") rfl B.str (by decide +kernel) rfl) pa_nil))) (nomark _)))
      (pss_one (ps_ret (pe_and (pv 2) (pe_and (pe_cmpR op_eq (pe_callB call_isi (by rfl) B.isi (by decide +kernel) (pa_cons (pv 1) (pa_cons (pe_bltn (v := .ty "bool") rfl B.bool (by decide +kernel) rfl) pa_nil))) (pe_callB call_isi (by rfl) B.isi (by decide +kernel) (pa_cons (pv 0) (pa_cons (pe_bltn (v := .ty "bool") rfl B.bool (by decide +kernel) rfl) pa_nil))) (nomark _))
        (pe_one (pe_cmpR op_eq (pv 0) (pv 1) (nomark _))))))))), ?_⟩
    have clsTL : Paired ClsV [.ty "tuple", .ty "list"] [.type "tuple", .type "list"] := .cons (.ty _) (.cons (.ty _) .nil)
    cases d with
    | none =>
      cases hx
      cases hy
      refine ⟨_, rfl, (by show 2 ≤ sizeLine; decide), fun N hN => ?_⟩
      have sN := same_new hN (.tup [.ty "tuple", .ty "list"])
      refine ⟨_, N, _, .type "NoneType", _, false, rfl, upd_same, clsTL, .base (.non), kit2 (by decide +kernel) (by decide +kernel), false, rfl, iteF ?_⟩
      refine ⟨_, rfl, rfl, _, rfl, iteT ?_⟩
      refine ⟨_, rfl, rfl, _, rfl, iteT ?_⟩
      exact ⟨_, rfl, rfl, q _ sN⟩
    | bool v =>
      cases hx
      cases hy
      refine ⟨_, rfl, (by show 2 ≤ sizeLine; decide), fun N hN => ?_⟩
      have sN := same_new hN (.tup [.ty "tuple", .ty "list"])
      refine ⟨_, N, _, .type "bool", _, false, rfl, upd_same, clsTL, .base (.bl _), kit2 (by decide +kernel) (by decide +kernel), false, rfl, iteF ?_⟩
      have nn : decide (V.bl v = V.non) = false := decide_eq_false (fun z => by cases z)
      refine ⟨_, rfl, rfl, _, rfl, ?_⟩
      rw [nn]
      refine iteF ?_
      refine ⟨_, rfl, rfl, _, rfl, ?_⟩
      rw [nn]
      refine iteF ?_
      refine ⟨_, rfl, _, _, .type "bool", _, false, rfl, ClsV.ty _, .base (.bl _), kit_ty (by decide +kernel), _, rfl, _, _, .type "bool", _, false, rfl, ClsV.ty _, .base (.bl _), kit_ty (by decide +kernel), rfl, ?_⟩
      refine ⟨_, rfl, true, rfl, iteT ?_⟩
      refine ⟨_, rfl, _, _, .type "bool", _, true, rfl, ClsV.ty _, .base (.bl _), kit_ty (by decide +kernel), _, rfl, _, _, .type "bool", _, true, rfl, ClsV.ty _, .base (.bl _), kit_ty (by decide +kernel), rfl, true, rfl, iteT ?_⟩
      refine ⟨_, rfl, _, rfl, rfl, ?_⟩
      rw [decide_eq_true rfl]
      exact q _ sN
    | int v =>
      cases hx
      cases hy
      refine ⟨_, rfl, (by show 2 ≤ sizeLine; decide), fun N hN => ?_⟩
      have sN := same_new hN (.tup [.ty "tuple", .ty "list"])
      refine ⟨_, N, _, .type "int", _, false, rfl, upd_same, clsTL, .base (.int _), kit2 (by decide +kernel) (by decide +kernel), false, rfl, iteF ?_⟩
      have nn : decide (V.int v = V.non) = false := decide_eq_false (fun z => by cases z)
      refine ⟨_, rfl, rfl, _, rfl, ?_⟩
      rw [nn]
      refine iteF ?_
      refine ⟨_, rfl, rfl, _, rfl, ?_⟩
      rw [nn]
      refine iteF ?_
      refine ⟨_, rfl, _, _, .type "int", _, false, rfl, ClsV.ty _, .base (.int _), kit_ty (by decide +kernel), _, rfl, _, _, .type "int", _, false, rfl, ClsV.ty _, .base (.int _), kit_ty (by decide +kernel), rfl, ?_⟩
      refine ⟨_, rfl, true, rfl, iteT ?_⟩
      refine ⟨_, rfl, _, _, .type "int", _, false, rfl, ClsV.ty _, .base (.int _), kit_ty (by decide +kernel), _, rfl, _, _, .type "int", _, false, rfl, ClsV.ty _, .base (.int _), kit_ty (by decide +kernel), rfl, true, rfl, iteT ?_⟩
      refine ⟨_, rfl, _, rfl, rfl, ?_⟩
      rw [decide_eq_true rfl]
      exact q _ sN
    | str v =>
      cases hx
      cases hy
      refine ⟨_, rfl, (by show 2 ≤ sizeLine; decide), fun N hN => ?_⟩
      have sN := same_new hN (.tup [.ty "tuple", .ty "list"])
      refine ⟨_, N, _, .type "str", _, false, rfl, upd_same, clsTL, .base (.str _), kit2 (by decide +kernel) (by decide +kernel), false, rfl, iteF ?_⟩
      have nn : decide (V.str v = V.non) = false := decide_eq_false (fun z => by cases z)
      refine ⟨_, rfl, rfl, _, rfl, ?_⟩
      rw [nn]
      refine iteF ?_
      refine ⟨_, rfl, rfl, _, rfl, ?_⟩
      rw [nn]
      refine iteF ?_
      refine ⟨_, rfl, _, _, .type "str", _, true, rfl, ClsV.ty _, .base (.str _), kit_ty (by decide +kernel), _, rfl, _, _, .type "str", _, true, rfl, ClsV.ty _, .base (.str _), kit_ty (by decide +kernel), rfl, ?_⟩
      refine ⟨_, rfl, true, rfl, iteT ?_⟩
      refine ⟨_, rfl, _, _, .type "str", _, false, rfl, ClsV.ty _, .base (.str _), kit_ty (by decide +kernel), _, rfl, _, _, .type "str", _, false, rfl, ClsV.ty _, .base (.str _), kit_ty (by decide +kernel), rfl, true, rfl, iteT ?_⟩
      refine ⟨_, rfl, _, rfl, rfl, ?_⟩
      rw [decide_eq_true rfl]
      exact q _ sN
    | list ds =>
      cases hx with
      | @lst xa xs _ hxs dx =>
      cases hy with
      | @lst ya ys _ hys dy =>
      cases hF with
      | lst hlen hFs =>
      have lx := dpa_len dx
      have ly := dpa_len dy
      have hd' : PyData.depthAll ds + 1 < n + 1 := hd
      refine ⟨_, rfl, (by show 2 ≤ sizeLine; decide), fun N hN => ?_⟩
      have sN := same_new hN (.tup [.ty "tuple", .ty "list"])
      refine ⟨_, N, _, .type "list", _, true, rfl, upd_same, clsTL, ty_list (Same.seq sN hys), kit2 (by decide +kernel) (by decide +kernel), true, rfl, iteT ?_⟩
      refine ⟨_, rfl, _, _, .type "list", _, false, rfl, ClsV.ty _, ty_list (Same.seq sN hxs), kit_ty (by decide +kernel), _, rfl, _, _, .type "list", _, false, rfl, ClsV.ty _, ty_list (Same.seq sN hys), kit_ty (by decide +kernel), rfl, _, rfl, iteF ?_⟩
      refine ⟨_, rfl, (by show 2 ≤ sizeLine; decide), fun M hM => ?_⟩
      have sM := sN.trans (same_new hM (.tup [.ty "tuple", .ty "list"]))
      refine ⟨_, M, _, .type "list", _, true, rfl, upd_same, clsTL, ty_list (Same.seq sM hxs), kit2 (by decide +kernel) (by decide +kernel), true, rfl, iteF ?_⟩
      refine ⟨_, rfl, _, _, rfl, .inl ⟨_, Same.seq sM hxs, rfl⟩, _, rfl, _, _, rfl, .inl ⟨_, Same.seq sM hys, rfl⟩, rfl, _, rfl, ?_⟩
      rw [lx, ly, decide_eq_true rfl]
      refine iteF ?_
      refine ⟨_, rfl, _, _, rfl, .inl ⟨_, Same.seq sM hys, rfl⟩, _, rfl, by omega, by rw [ly]; omega, fun D hD => ?_⟩
      refine lc_it (walk_range) (fun i H2 => H2 D = some (.lst []) ∧ Same H H2) ?_ (fun _ _ _ _ => trivial) ?_ ?_
      · exact ⟨upd_same, sM.trans (same_new hD _)⟩
      · rintro i v H2 H2' hi ⟨e1, e2⟩ ⟨rfl, rfl⟩
        have hi2 : i < ds.length := by rw [ly] at hi; omega
        obtain ⟨vx, gx, px⟩ := dpa_at dx (List.getElem?_eq_getElem hi2)
        obtain ⟨vy, gy, py⟩ := dpa_at dy (List.getElem?_eq_getElem hi2)
        have hm : ds[i] ∈ ds := List.getElem_mem hi2
        refine ⟨rfl, ?_⟩
        refine ⟨_, rfl, _, rfl, .inl ⟨xa, _, _, _, rfl, rfl, Same.seq e2 hxs, atI_of gx (by omega), ?_⟩⟩
        refine ⟨_, rfl, _, rfl, .inl ⟨ya, _, _, _, rfl, rfl, Same.seq e2 hys, atI_of gy (by omega), ?_⟩⟩
        refine ⟨vx, vy, ds[i], rfl, dp_same e2 px, dp_same e2 py, hFs _ hm, by have := depth_mem hm; omega, fun H3 s3 => ?_⟩
        exact ⟨true, rfl, iteF ⟨s3 _ _ e1, e2.trans s3⟩⟩
      · rintro H2 ⟨e1, e2⟩
        refine ⟨(by show 0 ≤ sizeLine; decide), fun E' hE => ?_⟩
        have sE := same_new hE (.lst [])
        refine ⟨.list [], .list [], .lst (.inl (.inl (sE _ _ e1))) .nil, .lst (.inl (.inl upd_same)) .nil, by decide +kernel, by decide +kernel, ?_⟩
        exact q _ (e2.trans sE)
    | tuple ds =>
      cases hx with
      | @tup xa xs _ hxs dx =>
      cases hy with
      | @tup ya ys _ hys dy =>
      cases hF with
      | tup hlen hFs =>
      have lx := dpa_len dx
      have ly := dpa_len dy
      have hd' : PyData.depthAll ds + 1 < n + 1 := hd
      refine ⟨_, rfl, (by show 2 ≤ sizeLine; decide), fun N hN => ?_⟩
      have sN := same_new hN (.tup [.ty "tuple", .ty "list"])
      refine ⟨_, N, _, .type "tuple", _, true, rfl, upd_same, clsTL, ty_tup (Same.seqT sN hys), kit2 (by decide +kernel) (by decide +kernel), true, rfl, iteT ?_⟩
      refine ⟨_, rfl, _, _, .type "tuple", _, true, rfl, ClsV.ty _, ty_tup (Same.seqT sN hxs), kit_ty (by decide +kernel), _, rfl, _, _, .type "tuple", _, true, rfl, ClsV.ty _, ty_tup (Same.seqT sN hys), kit_ty (by decide +kernel), rfl, _, rfl, iteF ?_⟩
      refine ⟨_, rfl, (by show 2 ≤ sizeLine; decide), fun M hM => ?_⟩
      have sM := sN.trans (same_new hM (.tup [.ty "tuple", .ty "list"]))
      refine ⟨_, M, _, .type "tuple", _, true, rfl, upd_same, clsTL, ty_tup (Same.seqT sM hxs), kit2 (by decide +kernel) (by decide +kernel), true, rfl, iteF ?_⟩
      refine ⟨_, rfl, _, _, rfl, .inr ⟨_, Same.seqT sM hxs, rfl⟩, _, rfl, _, _, rfl, .inr ⟨_, Same.seqT sM hys, rfl⟩, rfl, _, rfl, ?_⟩
      rw [lx, ly, decide_eq_true rfl]
      refine iteF ?_
      refine ⟨_, rfl, _, _, rfl, .inr ⟨_, Same.seqT sM hys, rfl⟩, _, rfl, by omega, by rw [ly]; omega, fun D hD => ?_⟩
      refine lc_it (walk_range) (fun i H2 => H2 D = some (.lst []) ∧ Same H H2) ?_ (fun _ _ _ _ => trivial) ?_ ?_
      · exact ⟨upd_same, sM.trans (same_new hD _)⟩
      · rintro i v H2 H2' hi ⟨e1, e2⟩ ⟨rfl, rfl⟩
        have hi2 : i < ds.length := by rw [ly] at hi; omega
        obtain ⟨vx, gx, px⟩ := dpa_at dx (List.getElem?_eq_getElem hi2)
        obtain ⟨vy, gy, py⟩ := dpa_at dy (List.getElem?_eq_getElem hi2)
        have hm : ds[i] ∈ ds := List.getElem_mem hi2
        refine ⟨rfl, ?_⟩
        refine ⟨_, rfl, _, rfl, .inr (.inl ⟨xa, _, _, _, rfl, rfl, Same.seqT e2 hxs, atI_of gx (by omega), ?_⟩)⟩
        refine ⟨_, rfl, _, rfl, .inr (.inl ⟨ya, _, _, _, rfl, rfl, Same.seqT e2 hys, atI_of gy (by omega), ?_⟩)⟩
        refine ⟨vx, vy, ds[i], rfl, dp_same e2 px, dp_same e2 py, hFs _ hm, by have := depth_mem hm; omega, fun H3 s3 => ?_⟩
        exact ⟨true, rfl, iteF ⟨s3 _ _ e1, e2.trans s3⟩⟩
      · rintro H2 ⟨e1, e2⟩
        refine ⟨(by show 0 ≤ sizeLine; decide), fun E' hE => ?_⟩
        have sE := same_new hE (.lst [])
        refine ⟨.list [], .list [], .lst (.inl (.inl (sE _ _ e1))) .nil, .lst (.inl (.inl upd_same)) .nil, by decide +kernel, by decide +kernel, ?_⟩
        exact q _ (e2.trans sE)
    | dict kvs => cases hF
theorem al_all {f : Addr} {fd : FuncData} (F : Fun K "_law_alike" "_law_alike" sAl f fd) (bG : Binds K fd psAl []) (mG : mg "_law_alike" = some (.ref f)) (B : Bn mg) : ∀ n : Nat, FnOk P w K mg base CX0 n f fd psAl (spAl K n)
  | 0 => by
    have no : ∀ vs H Q E, ¬ spAl K 0 vs H Q E := fun vs H Q E h => by
      obtain ⟨x, y, d, _, _, _, _, hd, _⟩ := h
      exact Nat.not_lt_zero _ hd
    exact ⟨fun vs H Q E h => absurd h (no vs H Q E), fun A outer s H args us vs Q E _ _ _ _ h => absurd h (no vs H Q E)⟩
  | n + 1 => ok_al F (al_all F bG mG B n) bG mG B
end
end Say
namespace SrtT
open PySem PySem.Spec PyProof.Rows L2 SrtO
/-- by the first text, then by the second -/
def lexT (p q : Str × Str) : Bool := if p.1 = q.1 then decide (p.2.cps.toList < q.2.cps.toList) else decide (p.1.cps.toList < q.1.cps.toList)
theorem str_of {x y : Str} (h : x.cps.toList = y.cps.toList) : x = y := TL.ext_tl h
theorem lexT_no {p q : Str × Str} : lexT p q = false ↔ (q.1.cps.toList < p.1.cps.toList ∨ (p.1 = q.1 ∧ q.2.cps.toList ≤ p.2.cps.toList)) := by
  unfold lexT
  by_cases h : p.1 = q.1
  · rw [if_pos h]
    constructor
    · intro z
      exact .inr ⟨h, List.not_lt.mp (of_decide_eq_false z)⟩
    · rintro (z | ⟨_, z⟩)
      · rw [h] at z
        exact absurd z (List.lt_irrefl _)
      · exact decide_eq_false (List.not_lt.mpr z)
  · rw [if_neg h]
    constructor
    · intro z
      have le := List.not_lt.mp (of_decide_eq_false z)
      refine .inl ?_
      refine Decidable.byContradiction fun n => h (str_of (List.le_antisymm (List.not_lt.mp n) le))
    · rintro (z | ⟨e, _⟩)
      · exact decide_eq_false (List.not_lt.mpr (List.le_of_lt z))
      · exact absurd e h
theorem lexT_yes {p q : Str × Str} (h : lexT p q = true) : p.1.cps.toList < q.1.cps.toList ∨ (p.1 = q.1 ∧ p.2.cps.toList < q.2.cps.toList) := by
  unfold lexT at h
  by_cases e : p.1 = q.1
  · rw [if_pos e] at h
    exact .inr ⟨e, of_decide_eq_true h⟩
  · rw [if_neg e] at h
    exact .inl (of_decide_eq_true h)
theorem swoT {α : Type} (k : α → Str × Str) : Swo fun v u => lexT (k v) (k u) := by
  refine ⟨fun x y h => ?_, fun x y z h1 h2 => ?_⟩
  · refine lexT_no.mpr ?_
    rcases lexT_yes h with q | ⟨e, q⟩
    · exact .inl q
    · exact .inr ⟨e.symm, List.le_of_lt q⟩
  · refine lexT_no.mpr ?_
    rcases lexT_no.mp h1 with a | ⟨e, a⟩
    · rcases lexT_no.mp h2 with b | ⟨e', b⟩
      · exact .inl (List.lt_trans a b)
      · exact .inl (by rw [e']; exact a)
    · rcases lexT_no.mp h2 with b | ⟨e', b⟩
      · exact .inl (by rw [← e]; exact b)
      · exact .inr ⟨e'.trans e, List.le_trans a b⟩
/-- v is a tuple of the two texts -/
def IsTx (h : Heap) (v : Value) (x y : Str) : Prop := ∃ a o t u n, v = .ref a ∧ h.get? a = some o ∧ o.cls = .type "tuple" ∧ o.data = .seq #[.str x t, .str y u] n
theorem IsTx.keeps {h h' : Heap} {v : Value} {x y : Str} (p : IsTx h v x y) (k : ∀ b o, h.get? b = some o → o.cls = .type "tuple" → h'.get? b = some o) : IsTx h' v x y := by
  obtain ⟨a, o, t, u, n, e, obO, clC, dtD⟩ := p
  exact ⟨a, o, t, u, n, e, k _ _ obO clC, clC, dtD⟩
section
variable {prog : Program} {w : World} {A : Around} {E : Value → Shared → Prop} {s : Shared}
theorem tx_cmp {vs : List Value} {k : Value → Str × Str} (txP : ∀ v ∈ vs, IsTx s.heap v (k v).1 (k v).2) : Cmp prog w A s (tuples' true) (fun p => p.1 ∈ vs) (lt2 fun v u => lexT (k v) (k u)) := by
  intro p q hm hm'
  have h1 := txP _ hm
  have h2 := txP _ hm'
  show wpAny (model prog w) A (keyLt' (tuples' true) p.1 q.1) (fun r s' => s' = s ∧ r = lexT (k p.1) (k q.1)) (fun _ _ => False) s
  unfold lexT
  generalize (k p.1).1 = x at h1 ⊢
  generalize (k p.1).2 = y at h1 ⊢
  generalize (k q.1).1 = x' at h2 ⊢
  generalize (k q.1).2 = y' at h2 ⊢
  obtain ⟨a, o, t, u, n, e, obO, clC, dtD⟩ := h1
  obtain ⟨a', o', t', u', n', e', ho', hc', hd'⟩ := h2
  rw [e, e']
  refine PySem.W.kat_lt obO dtD ho' hd' ?_
  show PySem.W.KatLex prog w A true (decide (2 < 2)) _ [(.str x t, .str x' t'), (.str y u, .str y' u')] 0 s
  refine PySem.W.kat_cons (SeqAt.EqAt.str_str x t x' t' prog w _ _ ?_)
  refine PySem.W.kat_go (fun q1 => ?_) (fun q1 => ?_)
  · have ex : x = x' := by simpa using q1
    refine PySem.W.kat_yes (PySem.W.kat_cons (SeqAt.EqAt.str_str y u y' u' prog w _ _ ?_))
    refine PySem.W.kat_go (fun q2 => ?_) (fun q2 => ?_)
    · have ey : y = y' := by simpa using q2
      have q3 : (if x = x' then decide (y.cps.toList < y'.cps.toList) else decide (x.cps.toList < x'.cps.toList)) = false := by
        rw [if_pos ex, ey]
        exact decide_eq_false (List.lt_irrefl _)
      exact PySem.W.kat_yes (PySem.W.kat_nil ⟨rfl, q3.symm⟩)
    · have q3 : (if x = x' then decide (y.cps.toList < y'.cps.toList) else decide (x.cps.toList < x'.cps.toList)) = decide (y.cps.toList < y'.cps.toList) := if_pos ex
      refine PySem.W.kat_no (PySem.W.kat_one _ _ (PyProof.Rows.lt_str ?_))
      exact (show s = s ∧ decide (y.cps.toList < y'.cps.toList) = (if x = x' then decide (y.cps.toList < y'.cps.toList) else decide (x.cps.toList < x'.cps.toList)) from ⟨rfl, q3.symm⟩)
  · have ex : ¬ x = x' := by simpa using q1
    have q3 : (if x = x' then decide (y.cps.toList < y'.cps.toList) else decide (x.cps.toList < x'.cps.toList)) = decide (x.cps.toList < x'.cps.toList) := if_neg ex
    exact PySem.W.kat_no (oneLt_str ⟨rfl, q3.symm⟩)
theorem firsts_tx {h : Heap} : ∀ {vs : List Value}, (∀ v ∈ vs, ∃ x y, IsTx h v x y) → ∃ fs, PySem.W.KatTups h vs fs ∧ fs.length = vs.length ∧ ∀ f ∈ fs, ∃ x t, f = Value.str x t
  | [], _ => ⟨[], trivial, rfl, fun _ h => nomatch h⟩
  | v :: vs, txP => by
    obtain ⟨x, y, a, o, t, u, n, rfl, obO, clC, dtD⟩ := txP v (List.mem_cons_self ..)
    obtain ⟨fs, h1, h2, h3⟩ := firsts_tx (vs := vs) fun v inV => txP v (List.mem_cons_of_mem _ inV)
    refine ⟨.str x t :: fs, .cons obO clC dtD rfl h1, by simp [h2], fun f fresh0 => ?_⟩
    rcases List.mem_cons.mp fresh0 with rfl | fresh0
    · exact ⟨_, _, rfl⟩
    · exact h3 f fresh0
theorem tx_sortable {a : Addr} {vs : List Value} {k : Value → Str × Str} (h0 : 0 < vs.length) (txP : ∀ v ∈ vs, IsTx s.heap v (k v).1 (k v).2) (atA : ∀ o, s.heap.get? a = some o → o.cls ≠ .type "tuple") : SortableO prog w A s a vs fun v u => lexT (k v) (k u) := by
  intro h' keep
  have hp' : ∀ v ∈ vs, IsTx h' v (k v).1 (k v).2 := fun v hm => (txP v hm).keeps fun b o e c => keep b o (fun z => by subst z; exact atA o e c) e
  obtain ⟨fs, h1, h2, h3⟩ := firsts_tx fun v hm => ⟨_, _, hp' v hm⟩
  refine ⟨tuples' true, fun Q E isT => ?_, tx_cmp hp'⟩
  refine PySem.W.kat_kind (T := .type "str") h1 (by omega) (fun f hm => ?_) (by rfl) ?_
  · obtain ⟨x, t, rfl⟩ := h3 f hm
    exact PySem.W.Looks.now
  · have e : (Value.type "str" != Value.type "tuple") = true := by first | decide +kernel | rfl | decide
    rw [e]
    exact isT
end
/-- the texts of a tuple of two -/
def txOf (h : Heap) (v : Value) : Str × Str := match v with
  | .ref a => match h.get? a with
    | some o => match o.data with
      | .seq its _ => match its.toList with
        | [.str x _, .str y _] => (x, y)
        | _ => (Str.empty, Str.empty)
      | _ => (Str.empty, Str.empty)
    | none => (Str.empty, Str.empty)
  | _ => (Str.empty, Str.empty)
theorem IsTx.tx {h : Heap} {v : Value} {x y : Str} (p : IsTx h v x y) : txOf h v = (x, y) := by
  obtain ⟨a, o, t, u, n, rfl, obO, clC, dtD⟩ := p
  unfold txOf
  simp only [obO, dtD]
end SrtT
namespace Say
open PySem PySem.Spec PyProof.Rows L2 L2.DX
section
variable {X : Cx}
/-- d.items() of a dict with int and text keys -/
def rItemsK : V → List V → Hp → VK → Prop := fun x xs H Q => ∃ (a : Addr) (kvs : List (Key × V)), x = .ref a ∧ xs = [] ∧ H a = some (.dK kvs) ∧ ∀ p, H p = none → Q (.ref p) (upd H p (itemsO p a))
theorem mt_itemsK : MtR X "dict.items" rItemsK := by
  intro pn s σ H x xs v args Q I rx rxs h
  obtain ⟨a, kvs, rfl, rfl, atA, q⟩ := h
  cases rx
  cases rxs
  obtain ⟨szT, dtD, vs, kv, o, es, ep, obO, atI0, hdat, _⟩ := (show ObjOk X.prog X.w H s.heap a (.dK kvs) from I.hok a _ atA)
  refine DT.callItems (es := es) (ep := ep) dtD ⟨o, obO, atI0, hdat⟩ ?_
  have fresh0 : H s.heap.objs.size = none := I.hok.fresh (Nat.le_refl _)
  exact ⟨.ref s.heap.objs.size, upd H s.heap.objs.size (itemsO s.heap.objs.size a), I.laid (t' := s.toks) (fun b u e => Heap.get?_push_of_some _ e) (Nat.le_refl _) (itemsO_ok (Heap.get?_push_size _ rfl)), rfl, q _ fresh0⟩
abbrev entS (e : Str × Str) : Key × V := (Sum.inr e.1, V.str e.2)
/-- sorted(d.items()), keys and values texts -/
def rSortTx : List V → Hp → VK → Prop := fun vs H Q => ∃ (p a : Addr) (es : List (Str × Str)), vs = [.ref p] ∧ H p = some (itemsO p a) ∧ H a = some (.dK (es.map entS)) ∧ es.length ≤ 1000 ∧
  ∀ (H' : Hp) (l : Addr) (ps : List (Addr × Str × Str)), (∀ b o, H b = some o → H' b = some o) → (ps.map (·.2)).Perm es → (ps.map (·.2)).Pairwise (fun e f => SrtT.lexT f e = false) → H l = none → H' l = some (.lst (ps.map fun z => V.ref z.1)) →
    (∀ z ∈ ps, H' z.1 = some (.tup [.str z.2.1, .str z.2.2])) → Q (.ref l) H'
theorem key_txt {x : Str} {v : Value} (h : keyIs (Sum.inr x : Key) v = true) : ∃ t, v = .str x t := by
  rcases keyIs_shape h with ⟨i, t, e, rfl⟩ | ⟨y, t, e, rfl⟩
  · cases e
  · cases e
    exact ⟨t, rfl⟩
theorem ent_at {P : Program} {w : World} : ∀ {l : List DictEntry} {vs : List (Key × Value)} {ks : List (Str × Str)}, Pairs (mixKind P w) l vs → KV (ks.map entS) vs → Paired (fun (e : DictEntry) (k : Str × Str) => (∃ t, e.key = .str k.1 t) ∧ ∃ u, e.val = .str k.2 u) l ks
  | [], _, ks, .nil, kv => by
    cases ks with
    | nil => exact .nil
    | cons k r => cases kv
  | e :: l, _, ks, .cons h1 h2 h3, kv => by
    cases ks with
    | nil => cases kv
    | cons k r =>
      cases kv with
      | cons g1 g2 =>
        refine .cons ⟨?_, ?_⟩ (ent_at h3 g2)
        · obtain ⟨g3, g4⟩ := g1
          rw [← g3] at h1
          exact key_txt h1
        · rw [h2]
          exact g1.2
def adr : Value → Addr
  | .ref a => a
  | _ => 0
theorem cr_sortedTx (clC : X.calm = true) : CallR X (.builtin "sorted") rSortTx := by
  intro pn s σ H xs args Q I r h
  obtain ⟨p, a, ks, rfl, txP, atA, h64, q⟩ := h
  obtain rfl := Vals.ref1 r
  have vw : s.heap.IsItemsView p a := (show ObjOk X.prog X.w H s.heap p (itemsO p a) from I.hok p _ txP).1
  obtain ⟨szT, dtD, vs, kv, o, es, ep, obO, atI0, hdat, hKo, hPs, hn⟩ := (show ObjOk X.prog X.w H s.heap a (.dK (ks.map entS)) from I.hok a _ atA)
  have ents := ent_at hPs kv
  have l0 : es.size = ks.length := by rw [← Array.length_toList]; exact paired_len ents
  have noH : X.A.handled = none := I.ok.hd clC
  refine DT.sortedI (es := es) (ep := ep) noH vw ⟨o, obO, atI0, hdat⟩ (by rw [sizeLine_eq]; omega) fun h' tkn adrs kpT ltN lnT mdG => ?_
  have lenA : adrs.length = ks.length := by omega
  have nodupA : adrs.Nodup := List.Pairwise.imp (fun h => Nat.ne_of_lt h) mdG.rise
  have prs : ∀ (j : Nat) (b : Addr), adrs[j]? = some b → ∃ (e : Str × Str) (t u : Tok), ks[j]? = some e ∧ h'.get? b = some { cls := .type "tuple", data := .seq #[Value.str e.1 t, Value.str e.2 u] } := by
    intro j b atJ
    obtain ⟨en', hEn, gW⟩ := mdG.pairs j b atJ
    rw [← Array.getElem?_toList] at hEn
    obtain ⟨e, q1, ⟨t, q2⟩, ⟨u, q3⟩⟩ := paired_at ents hEn
    exact ⟨e, t, u, q1, by rw [gW, q2, q3]⟩
  have atL : (h'.push { cls := .type "list", data := .seq (adrs.map Value.ref).toArray }).get? h'.objs.size = some (seqObj "list" (adrs.map Value.ref).toArray 0) := Heap.get?_push_size _ rfl
  have kpS : ∀ b o, s.heap.get? b = some o → (h'.push { cls := .type "list", data := .seq (adrs.map Value.ref).toArray }).get? b = some o := fun b o e => Heap.get?_push_of_some _ (kpT b o e)
  have neL : ∀ b o, h'.get? b = some o → b ≠ h'.objs.size := fun b o e => Nat.ne_of_lt (Heap.lt_size e)
  generalize hh2 : h'.push { cls := .type "list", data := .seq (adrs.map Value.ref).toArray } = h2 at atL kpS ⊢
  have kpM : ∀ b o, h'.get? b = some o → h2.get? b = some o := fun b o e => by rw [← hh2]; exact Heap.get?_push_of_some _ e
  have pin : ∀ (j : Nat) (b : Addr) (e : Str × Str), adrs[j]? = some b → ks[j]? = some e → SrtT.IsTx h2 (.ref b) e.1 e.2 := by
    intro j b e atJ hEn
    obtain ⟨e', t, u, he', gW⟩ := prs j b atJ
    cases he'.symm.trans hEn
    exact ⟨b, _, t, u, 0, rfl, kpM _ _ gW, rfl, rfl⟩
  have allTx : ∀ v ∈ adrs.map Value.ref, SrtT.IsTx h2 v (SrtT.txOf h2 v).1 (SrtT.txOf h2 v).2 := by
    intro v hv'
    obtain ⟨b, hb, rfl⟩ := List.mem_map.mp hv'
    obtain ⟨j, atJ⟩ := List.mem_iff_getElem?.mp hb
    obtain ⟨e, t, u, hEn, _⟩ := prs j b atJ
    have := pin j b e atJ hEn
    rw [this.tx]
    exact this
  have mapTx : (adrs.map Value.ref).map (SrtT.txOf h2) = ks := by
    refine List.ext_getElem? fun j => ?_
    rw [List.getElem?_map, List.getElem?_map]
    cases atJ : adrs[j]? with
    | none =>
      have := List.getElem?_eq_none_iff.mp atJ
      rw [List.getElem?_eq_none (by omega)]
      rfl
    | some b =>
      obtain ⟨e, t, u, hEn, _⟩ := prs j b atJ
      rw [hEn]
      show some (SrtT.txOf h2 (.ref b)) = some e
      rw [(pin j b e atJ hEn).tx]
  refine wpAny_call_entry PyProof.Rows.slot_list_sort ⟨_, atL, rfl⟩ PyProof.Rows.entry_list_sort
    (SrtO.list_sort_ord (s := { s with heap := h2, toks := tkn }) (SrtT.swoT (SrtT.txOf h2)) atL (by rw [List.length_map, sizeLine_eq]; omega) (fun h2' => SrtT.tx_sortable (by omega) allTx fun o e => ?_) fun out o1 o2 => ⟨.none, rfl, ?_⟩) (PyProof.Rows.args_list_sort _)
  · have e : h2.get? h'.objs.size = some o := e
    rw [atL] at e
    cases e
    intro c
    exact absurd (Value.type.inj c) (by decide)
  · show EP X pn σ Q (.ref h'.objs.size) { s with heap := sortedHeap h2 h'.objs.size (adrs.map Value.ref) out.toArray, toks := tkn }
    have hrf : ∀ v ∈ out, v = .ref (adr v) := fun v inV => by
      obtain ⟨b, _, rfl⟩ := List.mem_map.mp (o2.perm.mem_iff.mp inV)
      rfl
    have kpF : ∀ b o, b ≠ h'.objs.size → h2.get? b = some o → (sortedHeap h2 h'.objs.size (adrs.map Value.ref) out.toArray).get? b = some o := fun b o hb e => (PyProof.Rows.sortedHeap_old hb (Heap.lt_size e)).trans e
    have kpAll : ∀ b o, s.heap.get? b = some o → (sortedHeap h2 h'.objs.size (adrs.map Value.ref) out.toArray).get? b = some o := fun b o e => kpF b o (neL _ _ (kpT b o e)) (kpS b o e)
    obtain ⟨sdF, atF⟩ := PyProof.Rows.sortedHeap_at (vs := adrs.map Value.ref) (out := out.toArray) atL
    have I1 : Inv X pn σ H { s with heap := sortedHeap h2 h'.objs.size (adrs.map Value.ref) out.toArray, toks := tkn } := I.kept (t' := tkn) kpAll
    have noL : H h'.objs.size = none := I.hok.fresh (Nat.le_of_lt ltN)
    have prm : ((out.map fun v => (adr v, SrtT.txOf h2 v)).map (·.2)).Perm ks := by
      have e := o2.perm.map (SrtT.txOf h2)
      rw [mapTx] at e
      rw [List.map_map]
      exact e
    have srtd0 : ((out.map fun v => (adr v, SrtT.txOf h2 v)).map (·.2)).Pairwise (fun e f => SrtT.lexT f e = false) := by
      rw [List.map_map, List.pairwise_map]
      exact o1
    have len0 : ((out.map fun v => (adr v, SrtT.txOf h2 v)).map fun z => V.ref z.1).length ≤ sizeLine := by
      have e := prm.length_eq
      rw [List.length_map] at e
      rw [List.length_map, sizeLine_eq]
      omega
    have rel : ∀ l : List Value, (∀ v ∈ l, v = .ref (adr v)) → Vals ((l.map fun v => (adr v, SrtT.txOf h2 v)).map fun z => V.ref z.1) l := by
      intro l
      induction l with
      | nil => intro _; exact .nil
      | cons v l ih =>
        intro inV
        refine .cons ?_ (ih fun u getU => inV u (List.mem_cons_of_mem _ getU))
        have := inV v (List.mem_cons_self ..)
        exact this
    have I2 : Inv X pn σ (upd H h'.objs.size (.lst ((out.map fun v => (adr v, SrtT.txOf h2 v)).map fun z => V.ref z.1))) { s with heap := sortedHeap h2 h'.objs.size (adrs.map Value.ref) out.toArray, toks := tkn } :=
      I1.take (h' := sortedHeap h2 h'.objs.size (adrs.map Value.ref) out.toArray) (t' := tkn) (fun b ob _ e => e) (I.fpOk (Nat.le_of_lt ltN) noL) ⟨len0, out, sdF, rel out hrf, atF⟩
    obtain ⟨H2, I3, g, tps⟩ := takeT (P := fun b vs => ∃ (j : Nat) (e : Str × Str), adrs[j]? = some b ∧ ks[j]? = some e ∧ vs = [.str e.1, .str e.2]) I adrs _ I2 nodupA fun b hb => by
      obtain ⟨j, atJ⟩ := List.mem_iff_getElem?.mp hb
      obtain ⟨e, t, u, hEn, gW⟩ := prs j b atJ
      have geB : s.heap.objs.size ≤ b := Nat.le_of_lt (mdG.above b hb)
      refine ⟨geB, ?_, [.str e.1, .str e.2], ⟨j, e, atJ, hEn, rfl⟩, fun H3 => ⟨(by rw [sizeLine_eq]; show 2 ≤ 16777216; omega), [Value.str e.1 t, Value.str e.2 u], .cons ⟨t, rfl⟩ (.cons ⟨u, rfl⟩ .nil), ⟨_, kpF _ _ (neL _ _ gW) (kpM _ _ gW), rfl, 0, rfl⟩⟩⟩
      rw [upd_ne (neL _ _ gW)]
      exact I.hok.fresh geB
    have grow : ∀ b o, H b = some o → H2 b = some o := fun b o e => g b o (by rw [upd_ne (ne_of_none e noL)]; exact e)
    refine ⟨.ref h'.objs.size, H2, I3, rfl, q H2 h'.objs.size _ grow prm srtd0 noL (g _ _ upd_same) fun z' hz' => ?_⟩
    obtain ⟨v, inV, rfl⟩ := List.mem_map.mp hz'
    obtain ⟨b, hb, e⟩ := List.mem_map.mp (o2.perm.mem_iff.mp inV)
    subst e
    obtain ⟨vs', ⟨j, e, j1, j2, ev⟩, hH⟩ := tps b hb
    show H2 b = some (.tup [.str (SrtT.txOf h2 (.ref b)).1, .str (SrtT.txOf h2 (.ref b)).2])
    rw [(pin j b e j1 j2).tx, hH, ev]
end
end Say
namespace Say
open PySem PySem.Spec PyProof.Rows L2
/-! ### the exceptions of a dict -/
def ent (e : Exc) : Key × V := (Sum.inr (T e.1), V.str (T e.2))
def putE (es : List Exc) (wd so : List Nat) : List Exc := if (es.any fun e => decide (e.1 = wd)) = true then es.map (fun e => if e.1 = wd then (e.1, so) else e) else es ++ [(wd, so)]
theorem key_eq {a b : List Nat} : ((Sum.inr (T a) : Key) = Sum.inr (T b)) ↔ a = b := ⟨fun h => T_inj (Sum.inr.inj h), fun h => by rw [h]⟩
theorem any_ent (wd : List Nat) : ∀ es : List Exc, ((es.map ent).any fun kv => decide (kv.1 = (Sum.inr (T wd) : Key))) = es.any fun e => decide (e.1 = wd)
  | [] => rfl
  | e :: r => by
    rw [List.map_cons, List.any_cons, List.any_cons, any_ent wd r]
    congr 1
    exact decide_eq_decide.mpr key_eq
theorem put_ent (es : List Exc) (wd so : List Nat) : putK (es.map ent) (Sum.inr (T wd) : Key) (V.str (T so)) = (putE es wd so).map ent := by
  unfold putK putE
  rw [any_ent]
  by_cases c : (es.any fun e => decide (e.1 = wd)) = true
  · rw [if_pos c, if_pos c, List.map_map, List.map_map]
    refine List.map_congr_left fun e _ => ?_
    show (if (ent e).1 = (Sum.inr (T wd) : Key) then ((ent e).1, V.str (T so)) else ent e) = ent (if e.1 = wd then (e.1, so) else e)
    by_cases h : e.1 = wd
    · rw [if_pos h, if_pos (show (ent e).1 = (Sum.inr (T wd) : Key) from key_eq.mpr h)]
      rfl
    · rw [if_neg h, if_neg (show ¬ (ent e).1 = (Sum.inr (T wd) : Key) from fun z => h (key_eq.mp z))]
  · rw [if_neg c, if_neg c, List.map_append]
    rfl
theorem putE_len (es : List Exc) (wd so : List Nat) : (putE es wd so).length ≤ es.length + 1 := by
  unfold putE
  split
  · rw [List.length_map]; omega
  · rw [List.length_append]; exact Nat.le_refl _
theorem putE_ok {L : List Nat} {es : List Exc} {wd so : List Nat} (h : ∀ e ∈ es, ExcOk L e) (h1 : ExcOk L (wd, so)) : ∀ e ∈ putE es wd so, ExcOk L e := by
  intro e he
  unfold putE at he
  split at he
  · obtain ⟨e', he', rfl⟩ := List.mem_map.mp he
    by_cases c : e'.1 = wd
    · rw [if_pos c, c]
      exact h1
    · rw [if_neg c]
      exact h e' he'
  · rcases List.mem_append.mp he with he | he
    · exact h e he
    · rw [List.mem_singleton.mp he]
      exact h1
theorem putE_nd {es : List Exc} {wd so : List Nat} (h : (es.map (·.1)).Nodup) : ((putE es wd so).map (·.1)).Nodup := by
  unfold putE
  split
  · rename_i c
    rw [List.map_map]
    have : es.map ((·.1) ∘ fun e : Exc => if e.1 = wd then (e.1, so) else e) = es.map (·.1) := List.map_congr_left fun e _ => by
      show (if e.1 = wd then (e.1, so) else e).1 = e.1
      split <;> rfl
    rw [this]
    exact h
  · rename_i c
    rw [List.map_append]
    refine List.nodup_append.mpr ⟨h, by simp, fun a ha b hb => ?_⟩
    intro z
    refine c (List.any_eq_true.mpr ?_)
    obtain ⟨e, he, rfl⟩ := List.mem_map.mp ha
    have hb : b = wd := by simpa using hb
    exact ⟨e, he, decide_eq_true (by rw [← hb]; exact z)⟩
/-- by its word there is one exception at most -/
theorem one_of {es : List Exc} (h : (es.map (·.1)).Nodup) {e f : Exc} (he : e ∈ es) (hf : f ∈ es) (hw : e.1 = f.1) : e = f := by
  obtain ⟨i, hi⟩ := List.mem_iff_getElem?.mp he
  obtain ⟨j, hj⟩ := List.mem_iff_getElem?.mp hf
  have e1 : (es.map (·.1))[i]? = some e.1 := by rw [List.getElem?_map, hi]; rfl
  have e2 : (es.map (·.1))[j]? = some e.1 := by rw [List.getElem?_map, hj, hw]; rfl
  have := nd_ix h e1 e2
  subst this
  exact Option.some.inj (hi.symm.trans hj)
theorem valV_ent {es : List Exc} (h : (es.map (·.1)).Nodup) {e : Exc} (he : e ∈ es) : valV (es.map ent) (Sum.inr (T e.1) : Key) = some (V.str (T e.2)) := by
  unfold valV
  cases hf : (es.map ent).find? fun kv => decide (kv.1 = (Sum.inr (T e.1) : Key)) with
  | none =>
    have := List.find?_eq_none.mp hf (ent e) (List.mem_map.mpr ⟨e, he, rfl⟩)
    exact absurd (decide_eq_true rfl) this
  | some kv =>
    have h1 := List.find?_some hf
    obtain ⟨f, hfm, rfl⟩ := List.mem_map.mp (List.mem_of_find?_eq_some hf)
    have h2 : f.1 = e.1 := key_eq.mp (of_decide_eq_true h1)
    rw [one_of h hfm he h2]
    rfl
theorem find_ent {es : List Exc} (h : (es.map (·.1)).Nodup) {e : Exc} (he : e ∈ es) : es.find? (fun f => decide (f.1 = e.1)) = some e := by
  cases hf : es.find? fun f => decide (f.1 = e.1) with
  | none => exact absurd (decide_eq_true rfl) (List.find?_eq_none.mp hf e he)
  | some f => rw [one_of h (List.mem_of_find?_eq_some hf) he (of_decide_eq_true (List.find?_some (p := fun f : Exc => decide (f.1 = e.1)) hf))]
/-! ### sorted -/
theorem uniq_sorted {α : Type} {r : α → α → Prop} (as : ∀ a b, r a b → ¬ r b a) : ∀ {l m : List α}, l.Perm m → l.Pairwise r → m.Pairwise r → l = m
  | [], m, p, _, _ => (List.Perm.eq_nil p.symm).symm
  | a :: l, [], p, _, _ => absurd p.length_eq (by simp)
  | a :: l, b :: m, p, h1, h2 => by
    have ha := p.mem_iff.mp (List.mem_cons_self (a := a) (l := l))
    have hb := p.mem_iff.mpr (List.mem_cons_self (a := b) (l := m))
    have e : a = b := by
      rcases List.mem_cons.mp ha with e | ha
      · exact e
      · rcases List.mem_cons.mp hb with e | hb
        · exact e.symm
        · exact absurd ((List.pairwise_cons.mp h1).1 b hb) (as _ _ ((List.pairwise_cons.mp h2).1 a ha))
    subst e
    rw [uniq_sorted as p.cons_inv (List.pairwise_cons.mp h1).2 (List.pairwise_cons.mp h2).2]
theorem lt_asym (a b : List Nat) (h : a < b) : ¬ b < a := List.lt_asymm h
theorem le_of_ltCps {a b : List Nat} (h : ltCps b a = false) : a ≤ b := by
  rw [ltCps_eq] at h
  exact List.not_lt.mp (of_decide_eq_false h)
theorem rising_pw : ∀ (l : List Str) (p : Str), risingS p l = true → (p :: l).Pairwise fun a b => a.cps.toList ≤ b.cps.toList
  | [], p, _ => List.pairwise_singleton _ _
  | x :: r, p, h => by
    have h : (!ltCps x.cps.toList p.cps.toList && risingS x r) = true := h
    rw [Bool.and_eq_true] at h
    have ih := rising_pw r x h.2
    have px : p.cps.toList ≤ x.cps.toList := le_of_ltCps (by simpa using h.1)
    refine List.pairwise_cons.mpr ⟨fun y hy => ?_, ih⟩
    rcases List.mem_cons.mp hy with rfl | hy
    · exact px
    · exact List.le_trans px ((List.pairwise_cons.mp ih).1 y hy)
theorem sortedS_pw : ∀ {l : List Str}, sortedS l = true → l.Pairwise fun a b => a.cps.toList ≤ b.cps.toList
  | [], _ => .nil
  | x :: r, h => rising_pw r x h
def wordsS (es : List Exc) : List Str := es.map fun e => T e.1
theorem strict_words {es : List Exc} (up : es.Pairwise fun e f => e.1 < f.1) : (wordsS es).Pairwise fun a b => a.cps.toList < b.cps.toList := by
  unfold wordsS
  rw [List.pairwise_map]
  exact up
theorem strict_of {l : List Str} (h : l.Pairwise fun a b => a.cps.toList ≤ b.cps.toList) (nd : l.Nodup) : l.Pairwise fun a b => a.cps.toList < b.cps.toList := by
  refine List.Pairwise.imp_of_mem (fun {a b} _ _ h => ?_) (List.Pairwise.and h nd)
  obtain ⟨h1, h2⟩ := h
  refine Decidable.byContradiction fun n => h2 (TL.ext_tl (List.le_antisymm h1 (List.not_lt.mp n)))
theorem nd_strict {l : List Str} (h : l.Pairwise fun a b => a.cps.toList < b.cps.toList) : l.Nodup := by
  refine List.Pairwise.imp (fun {a b} h => ?_) h
  intro z
  rw [z] at h
  exact List.lt_irrefl _ h
theorem sorted_keys {es es' : List Exc} {ys : List Str} (hp : es'.Perm es) (up : es'.Pairwise fun e f => e.1 < f.1) (hy : ys.Perm (wordsS es)) (hs : sortedS ys = true) : ys = wordsS es' := by
  have s' := strict_words up
  have p2 : ys.Perm (wordsS es') := hy.trans (hp.symm.map fun e : Exc => T e.1)
  exact uniq_sorted (r := fun a b : Str => a.cps.toList < b.cps.toList) (fun a b h => lt_asym _ _ h) p2 (strict_of (sortedS_pw hs) (p2.nodup_iff.mpr (nd_strict s'))) s'
def tt (e : Exc) : Str × Str := (T e.1, T e.2)
def bk (z : Str × Str) : Exc := (z.1.cps.toList, z.2.cps.toList)
theorem tt_bk (z : Str × Str) : tt (bk z) = z := by
  show (T z.1.cps.toList, T z.2.cps.toList) = z
  rw [T_list, T_list]
theorem bk_tt (e : Exc) : bk (tt e) = e := rfl
theorem sort_exc {es : List Exc} (nd : (es.map (·.1)).Nodup) {qs : List (Str × Str)} (hp : qs.Perm (es.map tt)) (hs : qs.Pairwise fun e f => SrtT.lexT f e = false) :
    qs = (qs.map bk).map tt ∧ (qs.map bk).Perm es ∧ (qs.map bk).Pairwise fun e f => e.1 < f.1 := by
  have e1 : qs = (qs.map bk).map tt := by
    rw [List.map_map]
    conv => lhs; rw [← List.map_id qs]
    exact List.map_congr_left fun z _ => (tt_bk z).symm
  have e2 : (qs.map bk).Perm es := by
    have := hp.map bk
    rw [List.map_map] at this
    have e3 : es.map (bk ∘ tt) = es := by
      conv => rhs; rw [← List.map_id es]
      exact List.map_congr_left fun e _ => rfl
    rwa [e3] at this
  refine ⟨e1, e2, ?_⟩
  have nd2 : ((qs.map bk).map (·.1)).Nodup := (e2.map (·.1)).nodup_iff.mpr nd
  rw [List.pairwise_map]
  have nd3 : qs.Pairwise fun a b => ¬ (bk a).1 = (bk b).1 := by
    have : ((qs.map bk).map (·.1)).Pairwise (· ≠ ·) := nd2
    rw [List.pairwise_map, List.pairwise_map] at this
    exact this
  refine List.Pairwise.imp_of_mem (fun {a b} _ _ h => ?_) (List.Pairwise.and hs nd3)
  obtain ⟨h1, h2⟩ := h
  rcases SrtT.lexT_no.mp h1 with q | ⟨q, _⟩
  · exact q
  · exact absurd (congrArg (fun z : Str => z.cps.toList) q.symm) h2
end Say
namespace Say
open PySem PySem.Spec PyProof.Rows L2
theorem paired_map {α β γ : Type} {F : α → β → Prop} {f : γ → α} {g : γ → β} : ∀ {l : List γ}, (∀ z ∈ l, F (f z) (g z)) → Paired F (l.map f) (l.map g)
  | [], _ => .nil
  | z :: l, h => .cons (h z (List.mem_cons_self ..)) (paired_map fun y hy => h y (List.mem_cons_of_mem _ hy))
theorem strOk_T {l : List Nat} (h : ∀ c ∈ l, c < 1114112) : PyData.strOk (T l) = true := by
  show l.toArray.all (· < 0x110000) = true
  rw [List.all_toArray, List.all_eq_true]
  intro c hc
  exact decide_eq_true (h c hc)
theorem shaped_two {x y : PyData} (hx : x.canLay0 = true) (hy : y.canLay0 = true) (dx : x.depth = 0) (dy : y.depth = 0) : SeqAt.shaped (.tuple [x, y]) = true := by
  unfold SeqAt.shaped
  rw [Bool.and_eq_true]
  refine ⟨?_, ?_⟩
  · show PyData.canLayAll0 [x, y] = true
    simp [PyData.canLayAll0, hx, hy]
  · refine decide_eq_true ?_
    show PyData.depthAll [x, y] + 1 ≤ 64
    simp [PyData.depthAll, dx, dy]
/-- the row stays where all but a dict does -/
theorem RowAt.stpD {K : PySem.W.Frag} {H H' : Hp} {r a F : Addr} {ns : List Int} {kvs : List (Key × V)} (R : RowAt K H r a ns) (hF : H F = some (.dK kvs)) (e : Stp F H H') : RowAt K H' r a ns := by
  obtain ⟨⟨i', c', m', q', b'⟩, sc, le⟩ := R
  refine ⟨⟨i', c', m', e _ _ q' (ne_of q' hF (by intro z; cases z)), b'⟩, ?_, le⟩
  rcases sc with (sc | ⟨o, sc⟩) | sc
  · exact .inl (.inl (e _ _ sc (ne_of sc hF (by intro z; cases z))))
  · exact .inl (.inr ⟨o, e _ _ sc (ne_of sc hF (by intro z; cases z))⟩)
  · exact .inr sc
end Say
namespace Say
open PySem PySem.Spec PyProof.Rows L2
section
variable {P : Program} {w : World} {K : PySem.W.Frag} {mg : Str → Option Value} {base : Heap}
abbrev sTaken : Stmt := topS 41
theorem scTaken : FnScope ["_law_row_here", "_law_many", "_law_found", "_law_cell"] ["_law_row_here", "_law_many"] (defScope sTaken) := ⟨rfl, rfl, rfl, by decide +kernel, rfl, by decide +kernel, by decide +kernel⟩
theorem fmod_in {x n : Int} (h : 0 < n) : 0 ≤ x.fmod n ∧ x.fmod n < n := ⟨Int.fmod_nonneg_of_pos _ h, Int.fmod_lt_of_pos _ h⟩
theorem ok_taken {f : Addr} {fd : FuncData} {k : Nat} (F : Fun K "_law_taken" "_law_taken" sTaken f fd) (ml : mg "len" = none) : FnOk P w K mg base CX0 (k + 1) f fd ["_law_row_here", "_law_many"] (spTaken K) := by
  refine F.ok scTaken (fun vs H Q E h => ?_) (fun cdv A outer s H vs Q E hr h => ?_)
  · obtain ⟨r, a, ns, n, rfl, _⟩ := h
    rfl
  · obtain ⟨r, a, ns, n, rfl, R, h0, h1, q⟩ := h
    obtain ⟨⟨i, c, m, hR, hi, hm0, hm1⟩, hS, hle⟩ := id R
    refine ⟨_, pss_cons (ps_if (pt_cmpR op_gt (pe_ix ix_list (pv 0) pe_int (fun _ _ => rfl)) pe_int (nomark _))
        (pss_cons (ps_set (i := 2) scTaken.nd rfl (.inl rfl) (pe_op op_modN (pe_ix ix_list (pv 0) pe_int (fun _ _ => rfl)) (pv 1)))
        (pss_cons (ps_asg (pe_op op_fdivN (pe_ix ix_list (pv 0) pe_int (fun _ _ => rfl)) (pv 1)) (pg_sub (pv 0) pe_int set_list))
        (pss_one (ps_ret (pv 2))))) pss_nil)
      (pss_cons (ps_if (pt_cmpR op_lt (pe_ix ix_list (pv 0) pe_int (fun _ _ => rfl)) (pe_callB call_len_seq (by rfl) ml PySem.boot_len (pa_cons (pe_ix ix_list (pv 0) pe_int (fun _ _ => rfl)) pa_nil)) (nomark _))
        (pss_cons (ps_set (i := 3) scTaken.nd rfl (.inl rfl) (pe_ix ix_list (pe_ix ix_list (pv 0) pe_int (fun _ _ => rfl)) (pe_ix ix_list (pv 0) pe_int (fun _ _ => rfl)) (fun _ _ => rfl)))
        (pss_cons (ps_asg (pe_op op_add (pe_ix ix_list (pv 0) pe_int (fun _ _ => rfl)) pe_int) (pg_sub (pv 0) pe_int set_list))
        (pss_cons (ps_if (pt_cmpR op_ge (pv 3) (pe_op op_pow pe_int pe_int) (nomark _))
          (pss_one (ps_asg (pe_op op_fdivN (pv 3) (pv 1)) (pg_sub (pv 0) pe_int set_list))) pss_nil)
        (pss_one (ps_ret (pe_op op_modN (pv 3) (pv 1))))))) pss_nil)
      (pss_cons (ps_asg (pe_op op_modN (pe_op op_add (pe_op op_mul (pe_ix ix_list (pv 0) pe_int (fun _ _ => rfl)) pe_int) pe_int) pe_int) (pg_sub (pv 0) pe_int set_list))
      (pss_one (ps_ret (pe_op op_modN (pe_op op_fdivN (pe_ix ix_list (pv 0) pe_int (fun _ _ => rfl)) pe_int) (pv 1)))))), ?_⟩
    have hL : SqL K H r [.ref a, .int i, .int c, .int m] := .inl (.inl hR)
    have gn : n ≠ 0 ∧ n.natAbs < 1073741824 := ⟨by omega, by omega⟩
    -- row[2] > 0
    refine ⟨_, rfl, r, _, 2, .int c, rfl, rfl, hL, atI_nat (j := 2) rfl, _, _, rfl, rfl, _, rfl, ite2 (fun e => ?_) (fun e => ?_)⟩
    · refine ⟨_, rfl, r, _, 2, .int c, rfl, rfl, hL, atI_nat (j := 2) rfl, _, rfl, _, _, rfl, rfl, gn.1, ?_⟩
      refine ⟨_, rfl, r, _, 2, .int c, rfl, rfl, hL, atI_nat (j := 2) rfl, _, rfl, _, _, rfl, rfl, gn, ?_⟩
      refine ⟨_, rfl, r, _, 2, 2, rfl, rfl, hR, rfl, ?_⟩
      refine ⟨_, rfl, ?_⟩
      exact q _ _ (fmod_in h0).1 (fmod_in h0).2 (stp_at _) (R.put hi hm0 hm1)
    -- row[1] < len(row[0])
    refine ⟨_, rfl, r, _, 1, .int i, rfl, rfl, hL, atI_nat (j := 1) rfl, _, rfl, r, _, 0, .ref a, rfl, rfl, hL, atI_nat (j := 0) rfl, a, _, rfl, .inl hS, _, _, rfl, rfl, _, rfl, ite2 (fun e1 => ?_) (fun e1 => ?_)⟩
    · have e2 : i < ((ns.map V.int).length : Int) := of_decide_eq_true e1
      rw [List.length_map] at e2
      have hj : i.toNat < ns.length := by omega
      have gx : (ns.map V.int)[i.toNat]? = some (.int ns[i.toNat]) := by
        rw [List.getElem?_map, List.getElem?_eq_getElem hj]
        rfl
      refine ⟨_, rfl, r, _, 0, .ref a, rfl, rfl, hL, atI_nat (j := 0) rfl, _, rfl, r, _, 1, .int i, rfl, rfl, hL, atI_nat (j := 1) rfl, a, _, i, .int ns[i.toNat], rfl, rfl, hS, at_of (j := i.toNat) (by omega) gx, ?_⟩
      refine ⟨_, rfl, r, _, 1, .int i, rfl, rfl, hL, atI_nat (j := 1) rfl, _, _, rfl, rfl, ?_⟩
      refine ⟨_, rfl, r, _, 1, 1, rfl, rfl, hR, rfl, ?_⟩
      have R1 : RowAt K (upd H r (.lst [.ref a, .int (i + 1), .int c, .int m])) r a ns := R.put (by omega) hm0 hm1
      refine ⟨_, rfl, _, _, rfl, rfl, ⟨by decide, by decide, by decide⟩, _, _, rfl, rfl, _, rfl, ite2 (fun e3 => ?_) (fun e3 => ?_)⟩
      · refine ⟨_, rfl, _, rfl, _, _, rfl, rfl, gn, ?_⟩
        refine ⟨_, rfl, r, _, 2, 2, rfl, rfl, upd_same, rfl, ?_⟩
        refine ⟨_, rfl, _, rfl, _, _, rfl, rfl, gn.1, ?_⟩
        exact q _ _ (fmod_in h0).1 (fmod_in h0).2 ((stp_at _).trans (stp_at _)) (R1.put (by omega) hm0 hm1)
      · refine ⟨_, rfl, _, rfl, _, _, rfl, rfl, gn.1, ?_⟩
        exact q _ _ (fmod_in h0).1 (fmod_in h0).2 (stp_at _) R1
    · refine ⟨_, rfl, r, _, 3, .int m, rfl, rfl, hL, atI_nat (j := 3) rfl, _, _, rfl, rfl, .inl ⟨by omega, by omega⟩, _, _, rfl, rfl, _, _, rfl, rfl, (by show (2147483647 : Int) ≠ 0; decide), ?_⟩
      refine ⟨_, rfl, r, _, 3, 3, rfl, rfl, hR, rfl, ?_⟩
      have b := fmod_in (x := m * 48271 + 12345) (n := 2147483647) (by decide)
      have R1 : RowAt K (upd H r (.lst [.ref a, .int i, .int c, .int ((m * 48271 + 12345).fmod 2147483647)])) r a ns := R.put hi b.1 b.2
      refine ⟨_, rfl, r, _, 3, .int ((m * 48271 + 12345).fmod 2147483647), rfl, rfl, .inl (.inl upd_same), atI_nat (j := 3) rfl, _, _, rfl, rfl, ⟨by decide, by decide⟩, _, rfl, _, _, rfl, rfl, gn.1, ?_⟩
      exact q _ _ (fmod_in h0).1 (fmod_in h0).2 (stp_at _) R1
end
end Say
namespace Say
open PySem PySem.Spec PyProof.Rows L2
def lets : List (List Nat) := [[97, 98], [97, 98, 99], [97, 99], [97, 98, 99, 100]]
section
variable {P : Program} {w : World} {K : PySem.W.Frag} {mg : Str → Option Value} {base : Heap}
abbrev sSide : Stmt := topS 43
theorem scSide : FnScope ["_law_row_here", "_law_letters_here", "_law_sign"] ["_law_row_here", "_law_letters_here"] (defScope sSide) := ⟨rfl, rfl, rfl, by decide +kernel, rfl, by decide +kernel, by decide +kernel⟩
def spSide (K : PySem.W.Frag) : Sp := fun vs H Q _ => ∃ (r a : Addr) (ns : List Int) (L : List Nat), vs = [.ref r, .str (T L)] ∧ RowAt K H r a ns ∧ L.length ≤ 4 ∧
  ∀ (z : List Nat) (H' : Hp), z.Sublist (35 :: L) → Stp r H H' → RowAt K H' r a ns → Q (.str (T z)) H'
theorem ok_side {f : Addr} {fd : FuncData} (F : Fun K "_law_side" "_law_side" sSide f fd) (DT : Df P w K mg base "_law_taken" ["_law_row_here", "_law_many"] 1 (spTaken K)) :
    FnOk P w K mg base CX0 2 f fd ["_law_row_here", "_law_letters_here"] (spSide K) := by
  obtain ⟨fT, fdT, GT, kT, bT, mT⟩ := DT
  refine F.ok scSide (fun vs H Q E h => ?_) (fun cdv A outer s H vs Q E hr h => ?_)
  · obtain ⟨r, a, ns, L, rfl, _⟩ := h
    rfl
  · obtain ⟨r, a, ns, L, rfl, R, hl, q⟩ := h
    refine ⟨_, pss_cons (ps_if (pt_cmpR op_eq (pe_call GT hr (by rfl) mT kT bT .nil pass0 (pa_cons (pv 0) (pa_cons pe_int pa_nil))) pe_int (nomark _)) (pss_one (ps_ret pe_str)) pss_nil)
      (pss_one (ps_ret (pe_join pe_str (pe_lc (own := [("_law_sign", 2)]) (g := gName 2) rfl scSide.nd (pi_str (pe_op op_add_str pe_str (pv 1)))
        (blkOk_by (N := ["_law_row_here", "_law_letters_here", "_law_sign"]) (sc := defScope sSide) (by decide +kernel)) (fun _ _ _ _ _ => pg_name (i := 2) scSide.nd rfl (.inl rfl))
        (fun _ _ _ _ _ => pts_one (pt_cmpR op_eq (pe_call GT hr (by rfl) mT kT bT .nil pass0 (pa_cons (pv 0) (pa_cons pe_int pa_nil))) pe_int (nomark _))) (fun _ _ _ _ _ => pv 2))))), ?_⟩
    refine ⟨_, rfl, r, a, ns, 2, rfl, R, by decide, by decide, fun k1 H1 h0 h1 s1 R1 => ?_⟩
    refine ⟨rfl, _, rfl, ite2 (fun _ => ?_) (fun _ => ?_)⟩
    · have e := q [] H1 (List.nil_sublist _) s1 R1
      exact e
    refine ⟨⟨_, rfl⟩, _, rfl, _, _, rfl, rfl, (by rw [len_hash, T_len]; exact small (by omega)), ?_⟩
    refine ⟨T (35 :: L), congrArg V.str (hash_app L), fun D hD => ?_⟩
    refine lc_it (walk_str) (fun i H2 => ∃ acc : List Nat, H2 D = some (.lst (sg acc)) ∧ acc.Sublist ((35 :: L).take i) ∧ Stp r H1 H2 ∧ RowIn H2 r a) ?_ (fun _ _ _ _ => trivial) ?_ ?_
    · exact ⟨[], upd_same, List.nil_sublist _, Stp.of (same_new hD _), R1.in.upd (R1.nw hD)⟩
    · rintro i x H2 H2' hi ⟨acc, e1, e2, e3, e4⟩ ⟨rfl, c, hc, rfl⟩
      have hc := T_at hc
      have tk := take_next hc
      refine ⟨rfl, _, rfl, r, a, ns, 2, rfl, R1.of e3 e4, by decide, by decide, fun k2 H3 h0 h1 s2 R2 => ?_⟩
      have e1' := s2.one e1 (R1.nw hD)
      refine ⟨rfl, _, rfl, ite2 (fun _ => ?_) (fun _ => ?_)⟩
      · refine ⟨_, rfl, _, e1', ?_, acc ++ [c], ?_, ?_, (e3.trans s2).put hD _, R2.in.upd (R1.nw hD)⟩
        · have := e2.length_le
          rw [sg_len]
          rw [List.length_take, List.length_cons] at this
          exact small1000 (by omega)
        · rw [upd_same]
          exact congrArg (fun l => some (HO.lst l)) (sg_app acc c)
        · rw [tk]
          exact e2.append (List.Sublist.refl [c])
      · refine ⟨acc, e1', ?_, e3.trans s2, R2.in⟩
        rw [tk]
        exact e2.trans (List.sublist_append_left _ _)
    · rintro H2 ⟨acc, e1, e2, e3, e4⟩
      rw [T_size, List.take_length] at e2
      refine ⟨Str.ofString "", D, (acc.map fun c => [c]).map T, rfl, rfl, .inl (.inl (.inl ?_)), ?_, ?_⟩
      · rw [e1, sg_map]
      · rw [sum_ones]
        have := e2.length_le
        rw [List.length_cons] at this
        show acc.length + _ * 0 ≤ _
        omega
      · rw [show Str.ofString "" = T [] from nil_eq, join_nil, map_single]
        exact q acc H2 e2 (s1.trans e3) (R1.of e3 e4)
end
end Say
namespace Say
open PySem PySem.Spec PyProof.Rows L2
section
variable {P : Program} {w : World} {K : PySem.W.Frag} {mg : Str → Option Value} {base : Heap}
abbrev sText : Stmt := topS 44
theorem scText : FnScope ["_law_row_here", "_law_signs", "_law_fewest", "_law_many", "_law_k"] ["_law_row_here", "_law_signs", "_law_fewest", "_law_many"] (defScope sText) := ⟨rfl, rfl, rfl, by decide +kernel, rfl, by decide +kernel, by decide +kernel⟩
def spText (K : PySem.W.Frag) : Sp := fun vs H Q _ => ∃ (r a : Addr) (ns : List Int) (S : List Nat) (lo hi : Nat), vs = [.ref r, .str (T S), .int lo, .int hi] ∧ RowAt K H r a ns ∧ 0 < S.length ∧ S.length ≤ 100 ∧ lo ≤ hi ∧ hi ≤ 100 ∧
  ∀ (z : List Nat) (H' : Hp), (∀ c ∈ z, c ∈ S) → lo ≤ z.length → z.length ≤ hi → Stp r H H' → RowAt K H' r a ns → Q (.str (T z)) H'
theorem ok_text {f : Addr} {fd : FuncData} (F : Fun K "_law_text" "_law_text" sText f fd) (DT : Df P w K mg base "_law_taken" ["_law_row_here", "_law_many"] 1 (spTaken K)) (ml : mg "len" = none) (mr : mg "range" = none) :
    FnOk P w K mg base CX0 2 f fd ["_law_row_here", "_law_signs", "_law_fewest", "_law_many"] (spText K) := by
  obtain ⟨fT, fdT, GT, kT, bT, mT⟩ := DT
  refine F.ok scText (fun vs H Q E h => ?_) (fun cdv A outer s H vs Q E hr h => ?_)
  · obtain ⟨r, a, ns, S, lo, hi, rfl, _⟩ := h
    rfl
  · obtain ⟨r, a, ns, S, lo, hi, rfl, R, hS0, hS1, hlh, hh, q⟩ := h
    refine ⟨_, pss_one (ps_ret (pe_join pe_str (pe_lc (own := [("_law_k", 4)]) (g := gName 4) rfl scText.nd
        (pi_range1 rfl mr (pa_cons (pe_op op_add (pv 2) (pe_call GT hr (by rfl) mT kT bT .nil pass0 (pa_cons (pv 0) (pa_cons (pe_op op_add (pe_op op_sub (pv 3) (pv 2)) pe_int) pa_nil)))) pa_nil))
        (blkOk_by (N := ["_law_row_here", "_law_signs", "_law_fewest", "_law_many", "_law_k"]) (sc := defScope sText) (by decide +kernel)) (fun _ _ _ _ _ => pg_name (i := 4) scText.nd rfl (.inl rfl))
        (fun _ _ _ _ _ => pts_nil) (fun _ _ _ _ _ => pe_ix ix_str (pv 1) (pe_call GT hr (by rfl) mT kT bT .nil pass0 (pa_cons (pv 0) (pa_cons (pe_callB call_len_str (by rfl) ml PySem.boot_len (pa_cons (pv 1) pa_nil)) pa_nil))) (fun _ _ => rfl))))), ?_⟩
    refine ⟨⟨_, rfl⟩, _, rfl, _, rfl, _, rfl, _, rfl, _, _, rfl, rfl, _, _, rfl, rfl, r, a, ns, _, rfl, R, by omega, by omega, fun k1 H1 h0 h1 s1 R1 => ?_⟩
    refine ⟨_, _, rfl, rfl, (lo : Int) + k1, rfl, by omega, by omega, fun D hD => ?_⟩
    refine lc_it (walk_range) (fun i H2 => ∃ acc : List Nat, H2 D = some (.lst (sg acc)) ∧ acc.length = i ∧ (∀ c ∈ acc, c ∈ S) ∧ Stp r H1 H2 ∧ RowIn H2 r a) ?_ (fun _ _ _ _ => trivial) ?_ ?_
    · exact ⟨[], upd_same, rfl, by simp, Stp.of (same_new hD _), R1.in.upd (R1.nw hD)⟩
    · rintro i x H2 H2' hi' ⟨acc, e1, e2, e3, e4, e5⟩ ⟨rfl, rfl⟩
      refine ⟨rfl, ?_⟩
      refine ⟨_, rfl, _, rfl, _, rfl, _, rfl, (by rw [T_len]; exact small (by omega)), r, a, ns, _, rfl, R1.of e4 e5, (by rw [T_len]; omega), (by rw [T_len]; omega), fun k2 H3 h2 h3 s2 R2 => ?_⟩
      have e1' := s2.one e1 (R1.nw hD)
      rw [T_len] at h3
      have hj : k2.toNat < S.length := by omega
      refine ⟨T S, k2, S[k2.toNat], rfl, rfl, (by rw [T_len]; exact small (by omega)), at_list hj (by omega), ?_⟩
      refine ⟨_, e1', ?_, acc ++ [S[k2.toNat]], ?_, by simp [e2], ?_, (e4.trans s2).put hD _, R2.in.upd (R1.nw hD)⟩
      · rw [sg_len]
        exact small1000 (by omega)
      · rw [upd_same]
        exact congrArg (fun l => some (HO.lst l)) (sg_app acc _)
      · intro c hc
        rcases List.mem_append.mp hc with h | h
        · exact e3 c h
        · rw [List.mem_singleton.mp h]
          exact List.getElem_mem hj
    · rintro H2 ⟨acc, e1, e2, e3, e4, e5⟩
      refine ⟨Str.ofString "", D, (acc.map fun c => [c]).map T, rfl, rfl, .inl (.inl (.inl ?_)), ?_, ?_⟩
      · rw [e1, sg_map]
      · rw [sum_ones]
        show acc.length + _ * 0 ≤ _
        omega
      · rw [show Str.ofString "" = T [] from nil_eq, join_nil, map_single]
        exact q acc H2 e3 (by omega) (by omega) (s1.trans e4) (R1.of e4 e5)
end
end Say
namespace Say
open PySem PySem.Spec PyProof.Rows L2
section
variable {P : Program} {w : World} {K : PySem.W.Frag} {mg : Str → Option Value} {base : Heap}
abbrev sRule : Stmt := topS 45
theorem scRule : FnScope ["_law_row_here", "_law_letters_here", "_law_ahead", "_law_own"] ["_law_row_here", "_law_letters_here"] (defScope sRule) := ⟨rfl, rfl, rfl, by decide +kernel, rfl, by decide +kernel, by decide +kernel⟩
def spRule (K : PySem.W.Frag) : Sp := fun vs H Q _ => ∃ (r a : Addr) (ns : List Int) (L : List Nat), vs = [.ref r, .str (T L)] ∧ RowAt K H r a ns ∧ 0 < L.length ∧ L.length ≤ 4 ∧
  ∀ (ρ : Rule) (t : Addr) (H' : Hp), RuleOk L ρ → H' t = some (.tup ρ.vs) → Stp r H H' → RowAt K H' r a ns → Q (.ref t) H'
theorem AB_eq : Str.ofString "AB" = T [65, 66] := by decide +kernel
theorem AB_ok {z : List Nat} (h : ∀ c ∈ z, c ∈ [65, 66]) : ∀ c ∈ z, 65 ≤ c ∧ c ≤ 90 := fun c hc => by
  have := h c hc
  simp at this
  omega
theorem ok_rule {f : Addr} {fd : FuncData} (F : Fun K "_law_rule" "_law_rule" sRule f fd) (DT : Df P w K mg base "_law_taken" ["_law_row_here", "_law_many"] 1 (spTaken K))
    (DS : Df P w K mg base "_law_side" ["_law_row_here", "_law_letters_here"] 2 (spSide K)) (DX : Df P w K mg base "_law_text" ["_law_row_here", "_law_signs", "_law_fewest", "_law_many"] 2 (spText K)) :
    FnOk P w K mg base CX0 3 f fd ["_law_row_here", "_law_letters_here"] (spRule K) := by
  obtain ⟨fT, fdT, GT, kT, bT, mT⟩ := DT
  obtain ⟨fS, fdS, GS, kS, bS, mS⟩ := DS
  obtain ⟨fX, fdX, GX, kX, bX, mX⟩ := DX
  refine F.ok scRule (fun vs H Q E h => ?_) (fun cdv A outer s H vs Q E hr h => ?_)
  · obtain ⟨r, a, ns, L, rfl, _⟩ := h
    rfl
  · obtain ⟨r, a, ns, L, rfl, R, hl0, hl, q⟩ := h
    have hr1 : Room 1 _ := hr.mono (by decide)
    refine ⟨_, pss_cons (ps_par (i := 2) (j := 3) (by rfl) scRule.nd rfl rfl (by decide) rfl rfl (pa_cons (pe_call GS hr (by rfl) mS kS bS .nil pass0 (pa_cons (pv 0) (pa_cons (pv 1) pa_nil)))
          (pa_cons (pe_call GX hr (by rfl) mX kX bX .nil pass0 (pa_cons (pv 0) (pa_cons (pv 1) (pa_cons pe_int (pa_cons pe_int pa_nil))))) pa_nil)) (by rfl))
      (pss_one (ps_ret (pe_tup (pa_cons (pv 2) (pa_cons (pv 3) (pa_cons (pe_call GS hr (by rfl) mS kS bS .nil pass0 (pa_cons (pv 0) (pa_cons (pv 1) pa_nil)))
        (pa_cons (pe_call GX hr (by rfl) mX kX bX .nil pass0 (pa_cons (pv 0) (pa_cons pe_str (pa_cons pe_int (pa_cons (pe_ix ix_list (pe_lst (pa_cons pe_int (pa_cons pe_int (pa_cons pe_int pa_nil)))) (pe_call GT hr1 (by rfl) mT kT bT .nil pass0 (pa_cons (pv 0) (pa_cons pe_int pa_nil))) (fun _ _ => rfl)) pa_nil))))) pa_nil))))))), ?_⟩
    refine ⟨_, rfl, _, rfl, r, a, ns, L, rfl, R, hl, fun ah H1 o1 s1 R1 => ?_⟩
    refine ⟨_, rfl, _, rfl, r, a, ns, L, 1, 2, rfl, R1, hl0, by omega, by decide, by decide, fun ow H2 o2 o3 o4 s2 R2 => ?_⟩
    refine ⟨_, _, rfl, ?_⟩
    refine ⟨_, rfl, _, rfl, _, rfl, _, rfl, r, a, ns, L, rfl, R2, hl, fun be H3 o5 s3 R3 => ?_⟩
    refine ⟨_, rfl, (by show 3 ≤ sizeLine; decide), fun p hp => ?_⟩
    have sm := same_new hp (.lst [V.int 1, .int 1, .int 3])
    refine ⟨_, rfl, r, a, ns, 3, rfl, R3.stp sm, by decide, by decide, fun k1 H4 h0 h1 s4 R4 => ?_⟩
    have hL : SqL K H4 p [V.int 1, .int 1, .int 3] := .inl (.inl (s4 _ _ upd_same (R3.nw hp).symm))
    have s34 := (Stp.of sm).trans s4
    have fin : ∀ m : Nat, m ≤ 3 → ∀ (so : List Nat) (H5 : Hp), (∀ c ∈ so, c ∈ [65, 66]) → 0 ≤ so.length → so.length ≤ m → Stp r H4 H5 → RowAt K H5 r a ns → 
        (4 ≤ sizeLine ∧ ∀ t, H5 t = none → Q (.ref t) (upd H5 t (.tup [.str (T ah), .str (T ow), .str (T be), .str (T so)]))) := fun m hm so H5 o6 _ o7 s5 R5 =>
      ⟨by decide, fun t ht => q ⟨ah, ow, be, so⟩ t _ ⟨o1, o2, o3, o4, o5, AB_ok o6, by show so.length ≤ 3; omega⟩ upd_same (s1.trans (s2.trans (s3.trans (s34.trans (s5.trans (Stp.of (same_new ht _))))))) (R5.stp (same_new ht _))⟩
    have hk : k1 = 0 ∨ k1 = 1 ∨ k1 = 2 := by omega
    rcases hk with e | e | e
    · exact ⟨p, _, k1, V.int 1, rfl, rfl, hL, at_of (j := 0) e rfl, r, a, ns, [65, 66], 0, 1, by rw [AB_eq]; rfl, R4, by decide, by decide, by decide, by decide, fin 1 (by decide)⟩
    · exact ⟨p, _, k1, V.int 1, rfl, rfl, hL, at_of (j := 1) e rfl, r, a, ns, [65, 66], 0, 1, by rw [AB_eq]; rfl, R4, by decide, by decide, by decide, by decide, fin 1 (by decide)⟩
    · exact ⟨p, _, k1, V.int 3, rfl, rfl, hL, at_of (j := 2) e rfl, r, a, ns, [65, 66], 0, 3, by rw [AB_eq]; rfl, R4, by decide, by decide, by decide, by decide, fin 3 (by decide)⟩
abbrev sRules : Stmt := topS 46
theorem scRules : FnScope ["_law_row_here", "_law_letters_here", "_law_most", "_law_found", "_law_letter", "_law_k"] ["_law_row_here", "_law_letters_here", "_law_most"] (defScope sRules) := ⟨rfl, rfl, rfl, by decide +kernel, rfl, by decide +kernel, by decide +kernel⟩
def spRules (K : PySem.W.Frag) : Sp := fun vs H Q _ => ∃ (r a : Addr) (ns : List Int) (L : List Nat) (n : Nat), vs = [.ref r, .str (T L), .int n] ∧ RowAt K H r a ns ∧ 0 < L.length ∧ L.length ≤ 4 ∧ n ≤ 20 ∧
  ∀ (rs : List Rule) (R : Addr) (H' : Hp), (∀ ρ ∈ rs, RuleOk L ρ) → rs.length ≤ n + L.length → RulesAt H' R rs → Stp r H H' → RowAt K H' r a ns → Q (.ref R) H'
theorem ok_rules {f : Addr} {fd : FuncData} (F : Fun K "_law_rules" "_law_rules" sRules f fd) (DT : Df P w K mg base "_law_taken" ["_law_row_here", "_law_many"] 1 (spTaken K))
    (DR : Df P w K mg base "_law_rule" ["_law_row_here", "_law_letters_here"] 3 (spRule K)) (mr : mg "range" = none) (mt : mg "tuple" = none) :
    FnOk P w K mg base CX0 4 f fd ["_law_row_here", "_law_letters_here", "_law_most"] (spRules K) := by
  obtain ⟨fT, fdT, GT, kT, bT, mT⟩ := DT
  obtain ⟨fR, fdR, GR, kR, bR, mR⟩ := DR
  refine F.ok scRules (fun vs H Q E h => ?_) (fun cdv A outer s H vs Q E hr h => ?_)
  · obtain ⟨r, a, ns, L, n, rfl, _⟩ := h
    rfl
  · obtain ⟨r, a, ns, L, n, rfl, R, hl0, hl, hn, q⟩ := h
    have hr1 : Room 1 _ := hr.mono (by decide)
    refine ⟨_, pss_cons (ps_setLc (i := 3) (own := [("_law_k", 5)]) (g := gName 5) rfl scRules.nd rfl rfl (sw_true rfl rfl rfl (by decide +kernel))
        (pi_range1 rfl mr (pa_cons (pe_call GT hr1 (by rfl) mT kT bT .nil pass0 (pa_cons (pv 0) (pa_cons (pe_op op_add (pv 2) pe_int) pa_nil))) pa_nil))
        (blkOk_by (N := ["_law_row_here", "_law_letters_here", "_law_most", "_law_found", "_law_letter", "_law_k"]) (sc := defScope sRules) (by decide +kernel)) (fun _ _ _ _ _ => pg_name (i := 5) scRules.nd rfl (.inl rfl))
        (fun _ _ _ _ _ => pts_nil) (fun _ _ _ _ _ => pe_call GR hr (by rfl) mR kR bR .nil pass0 (pa_cons (pv 0) (pa_cons (pv 1) pa_nil))))
      (pss_cons (ps_if (pt_cmpR op_gt (pe_call GT hr1 (by rfl) mT kT bT .nil pass0 (pa_cons (pv 0) (pa_cons pe_int pa_nil))) pe_int (nomark _))
        (pss_one (ps_for PassesOwn.never rfl (pi_str (pv 1)) (pg_name (i := 4) scRules.nd rfl (.inl rfl))
          (pss_one (ps_expr (pe_bm PySem.F.plainAttrs_list PySem.F.slot_list_append PySem.F.type_list_append mt_append (pv 3)
            (pa_cons (pe_tup (pa_cons pe_str (pa_cons (pv 4) (pa_cons pe_str (pa_cons (pe_ix ix_list (pe_lst (pa_cons pe_str (pa_cons pe_str (pa_cons pe_str (pa_cons pe_str pa_nil))))) (pe_call GT hr1 (by rfl) mT kT bT .nil pass0 (pa_cons (pv 0) (pa_cons pe_int pa_nil))) (fun _ _ => rfl)) pa_nil))))) pa_nil)))))) pss_nil)
      (pss_one (ps_ret (pe_callTy call_tuple_of (by rfl) mt (by decide +kernel) (pa_cons (pv 3) pa_nil))))), ?_⟩
    refine ⟨_, rfl, _, rfl, _, _, rfl, rfl, r, a, ns, _, rfl, R, by omega, by omega, fun k1 H1 h0 h1 s1 R1 => ?_⟩
    refine ⟨k1, rfl, by omega, by omega, fun D hD => ?_⟩
    have nD := R1.nw hD
    refine lc_it (walk_range) (fun i H2 => ∃ (ts : List Addr) (rs : List Rule), H2 D = some (.lst (ts.map V.ref)) ∧ Paired (fun t ρ => H2 t = some (.tup (Rule.vs ρ))) ts rs ∧ rs.length = i ∧ (∀ ρ ∈ rs, RuleOk L ρ) ∧ Stp r H1 H2 ∧ RowIn H2 r a) ?_ (fun _ _ _ _ => trivial) ?_ ?_
    · exact ⟨[], [], upd_same, .nil, rfl, by simp, Stp.of (same_new hD _), R1.in.upd nD⟩
    · rintro i x H2 H2' hi' ⟨ts, rs, e1, e2, e3, e4, e5, e6⟩ ⟨rfl, rfl⟩
      refine ⟨rfl, ?_⟩
      refine ⟨_, rfl, _, rfl, r, a, ns, L, rfl, R1.of e5 e6, hl0, hl, fun ρ t H3 o1 o2 s2 R2 => ?_⟩
      have e1' := s2.one e1 nD
      have kt := (s2.kt e6).trans (kt_upd e1' (o := .lst (ts.map V.ref ++ [.ref t])))
      refine ⟨_, e1', ?_, ts ++ [t], rs ++ [ρ], ?_, ?_, by simp [e3], ?_, (e5.trans s2).put hD _, R2.in.upd nD⟩
      · rw [List.length_map, paired_len e2]
        exact small1000 (by omega)
      · rw [upd_same, List.map_append]
        rfl
      · exact paired_app (paired_mono (fun t ρ h => kt.1 _ _ h) e2) (.cons ((kt_upd e1').1 _ _ o2) .nil)
      · intro c hc
        rcases List.mem_append.mp hc with h | h
        · exact e4 c h
        · rw [List.mem_singleton.mp h]
          exact o1
    · rintro H2 ⟨ts, rs, e1, e2, e3, e4, e5, e6⟩
      have e3' : rs.length ≤ n := by omega
      refine ⟨_, rfl, r, a, ns, 4, rfl, R1.of e5 e6, by decide, by decide, fun k2 H3 h2 h3 s2 R2 => ?_⟩
      have e1' := s2.one e1 nD
      have e2' := paired_mono (fun t ρ h => (s2.kt e6).1 _ _ h) e2
      have e5' := e5.trans s2
      -- the end: tuple(found)
      have fin : ∀ (H4 : Hp) (ts : List Addr) (rs : List Rule), H4 D = some (.lst (ts.map V.ref)) → Paired (fun t ρ => H4 t = some (.tup (Rule.vs ρ))) ts rs → rs.length ≤ n + L.length → (∀ ρ ∈ rs, RuleOk L ρ) → Stp r H1 H4 → RowIn H4 r a → ∀ t, H4 t = none → Q (.ref t) (upd H4 t (.tup (ts.map V.ref))) := fun H4 ts rs f1 f2 f3 f4 f5 f6 t ht =>
        q rs t _ f4 f3 ⟨ts, upd_same, paired_mono (fun t ρ h => (kt_new ht).1 _ _ h) f2⟩ (s1.trans (f5.trans (Stp.of (same_new ht _)))) ((R1.of f5 f6).stp (same_new ht _))
      refine ⟨_, _, rfl, rfl, _, rfl, ite2 (fun _ => ?_) (fun _ => ?_)⟩
      · refine ⟨_, rfl, T L, rfl, for_it (walk_str) (fun i σ H4 => ∃ (ts : List Addr) (rs : List Rule) (v : Option V), σ = [some (.ref r), some (.str (T L)), some (.int n), some (.ref D), v, none] ∧ H4 D = some (.lst (ts.map V.ref)) ∧ Paired (fun t ρ => H4 t = some (.tup (Rule.vs ρ))) ts rs ∧ rs.length ≤ n + i ∧ (∀ ρ ∈ rs, RuleOk L ρ) ∧ Stp r H1 H4 ∧ RowIn H4 r a)
          ⟨ts, rs, _, rfl, e1', e2', by omega, e4, e5', R2.in⟩ (fun _ _ _ _ _ => trivial) ?_ ?_⟩
        · rintro i x σ H4 H4' hi' ⟨ts, rs, v, rfl, e1, e2, e3, e4, e5, e6⟩ ⟨rfl, c, hc, rfl⟩
          have hc := T_at hc
          have hi2 : i < L.length := by rw [T_size] at hi'; exact hi'
          have RA := R1.of e5 e6
          refine ⟨_, rfl, .inl ⟨rfl, _, .inl (.inl e1)⟩, _, rfl, (by show 4 ≤ sizeLine; decide), fun p hp => ?_⟩
          have sm := same_new hp (.lst [V.str "A", .str "B", .str "", .str "AB"])
          refine ⟨_, rfl, r, a, ns, 4, rfl, RA.stp sm, by decide, by decide, fun k3 H5 h4 h5 s3 R3 => ?_⟩
          have s3' := (Stp.of sm).trans s3
          have hL : SqL K H5 p [V.str "A", .str "B", .str "", .str "AB"] := .inl (.inl (s3 _ _ upd_same (RA.nw hp).symm))
          have f1 := s3'.one e1 nD
          have kt3 := s3'.kt e6
          have ec : c ∈ L := List.mem_of_getElem? hc
          have ok : ∀ so : List Nat, (∀ c ∈ so, 65 ≤ c ∧ c ≤ 90) → so.length ≤ 3 → RuleOk L ⟨[], [c], [], so⟩ := fun so g1 g2 =>
            ⟨List.nil_sublist _, fun d hd => by rw [List.mem_singleton.mp hd]; exact ec, Nat.le_refl _, by show 1 ≤ 2; decide, List.nil_sublist _, g1, g2⟩
          obtain ⟨so, g1, g2, g3⟩ : ∃ so : List Nat, (∀ c ∈ so, 65 ≤ c ∧ c ≤ 90) ∧ so.length ≤ 3 ∧ atI [V.str "A", .str "B", .str "", .str "AB"] k3 = some (V.str (T so)) := by
            have hk : k3 = 0 ∨ k3 = 1 ∨ k3 = 2 ∨ k3 = 3 := by omega
            rcases hk with e | e | e | e
            · exact ⟨[65], by decide, by decide, at_of (j := 0) e (by decide +kernel)⟩
            · exact ⟨[66], by decide, by decide, at_of (j := 1) e (by decide +kernel)⟩
            · exact ⟨[], by decide, by decide, at_of (j := 2) e (by decide +kernel)⟩
            · exact ⟨[65, 66], by decide, by decide, at_of (j := 3) e (by decide +kernel)⟩
          refine ⟨p, _, k3, V.str (T so), rfl, rfl, hL, g3, (by show 4 ≤ sizeLine; decide), fun t ht => ?_⟩
          have f2 := same_new ht (.tup [.str (Str.ofString ""), .str ⟨#[c]⟩, .str (Str.ofString ""), .str (T so)])
          have f3 := f2 _ _ f1
          have kt4 := (kt3.trans (KT.of f2)).trans (kt_upd f3 (o := .lst (ts.map V.ref ++ [.ref t])))
          refine ⟨D, _, _, rfl, rfl, f3, ?_, ts ++ [t], rs ++ [⟨[], [c], [], so⟩], _, rfl, ?_, ?_, ?_, ?_, ((e5.trans s3').trans (Stp.of f2)).put hD _, ?_⟩
          · rw [List.length_map, paired_len e2]
            exact small1000 (by omega)
          · rw [upd_same, List.map_append]
            rfl
          · refine paired_app (paired_mono (fun t ρ h => kt4.1 _ _ h) e2) (.cons ((kt_upd f3).1 _ _ ?_) .nil)
            rw [upd_same, show Str.ofString "" = T [] from nil_eq]
            rfl
          · rw [List.length_append]
            show rs.length + 1 ≤ n + (i + 1)
            omega
          · intro d hd
            rcases List.mem_append.mp hd with h | h
            · exact e4 d h
            · rw [List.mem_singleton.mp h]
              exact ok so g1 g2
          · exact (R3.stp f2).in.upd nD
        · rintro σ H4 ⟨ts, rs, v, rfl, e1, e2, e3, e4, e5, e6⟩
          rw [T_size] at e3
          exact ⟨_, rfl, D, _, rfl, .inl ⟨.inl (.inl e1), fin H4 ts rs e1 e2 e3 e4 e5 e6⟩⟩
      · exact ⟨_, rfl, D, _, rfl, .inl ⟨.inl (.inl e1'), fin H3 ts rs e1' e2' (by omega) e4 e5' R2.in⟩⟩
end
end Say
namespace Say
open PySem PySem.Spec PyProof.Rows L2
section
variable {P : Program} {w : World} {K : PySem.W.Frag} {mg : Str → Option Value} {base : Heap}
abbrev sRow : Stmt := topS 40
theorem scRow : FnScope ["_law_script", "_law_mixed", "_law_cell"] ["_law_script"] (defScope sRow) := ⟨rfl, rfl, rfl, by decide +kernel, rfl, by decide +kernel, by decide +kernel⟩
def spRow (K : PySem.W.Frag) : Sp := fun vs H Q _ => ∃ (a : Addr) (ns : List Int), vs = [.ref a] ∧ SqL K H a (ns.map V.int) ∧ ns.length ≤ 63 ∧
  ∀ (r : Addr) (H' : Hp), H r = none → Same H H' → RowAt K H' r a ns → Q (.ref r) H'
theorem map_int_get {ns : List Int} {i : Nat} {x : V} (h : (ns.map V.int)[i]? = some x) : ∃ z, x = V.int z := by
  rw [List.getElem?_map] at h
  cases e : ns[i]? with
  | none => rw [e] at h; cases h
  | some z => rw [e] at h; exact ⟨z, (Option.some.inj h).symm⟩
theorem ok_row {f : Addr} {fd : FuncData} {k : Nat} (F : Fun K "_law_row" "_law_row" sRow f fd) : FnOk P w K mg base CX0 (k + 1) f fd ["_law_script"] (spRow K) := by
  refine F.ok scRow (fun vs H Q E h => ?_) (fun cdv A outer s H vs Q E hr h => ?_)
  · obtain ⟨a, ns, rfl, _⟩ := h
    rfl
  · obtain ⟨a, ns, rfl, hS, hle, q⟩ := h
    refine ⟨_, pss_cons (ps_set (i := 1) scRow.nd rfl (.inl rfl) pe_int)
      (pss_cons (ps_for PassesOwn.never rfl (pi_list (pv 0)) (pg_name (i := 2) scRow.nd rfl (.inl rfl))
        (pss_one (ps_set (i := 1) scRow.nd rfl (.inl rfl) (pe_op op_modN (pe_op op_add (pe_op op_add (pe_op op_mul (pv 1) pe_int) (pv 2)) pe_int) pe_int))))
      (pss_one (ps_ret (pe_lst (pa_cons (pv 0) (pa_cons pe_int (pa_cons pe_int (pa_cons (pv 1) pa_nil)))))))), ?_⟩
    refine ⟨_, rfl, a, rfl, ⟨_, hS⟩, for_list (K := K) (a := a) (xs := ns.map V.int) (fun i σ H2 => H2 = H ∧ ∃ (m : Int) (v : Option V), σ = [some (.ref a), some (.int m), v] ∧ 0 ≤ m ∧ m < 2147483647)
      ⟨rfl, 7, none, rfl, by decide, by decide⟩ (fun i σ H2 _ h => by obtain ⟨rfl, _⟩ := h; exact hS) ?_ ?_⟩
    · rintro i x σ H2 hx ⟨rfl, m, v, rfl, h0, h1⟩
      obtain ⟨z, rfl⟩ := map_int_get hx
      refine ⟨_, rfl, _, _, rfl, rfl, .inl ⟨by omega, by omega⟩, _, rfl, _, _, rfl, rfl, _, _, rfl, rfl, _, _, rfl, rfl, (by show (2147483647 : Int) ≠ 0; decide), ?_⟩
      exact ⟨rfl, _, _, rfl, Int.fmod_nonneg_of_pos _ (by decide), Int.fmod_lt_of_pos _ (by decide)⟩
    · rintro σ H2 ⟨rfl, m, v, rfl, h0, h1⟩
      refine ⟨_, rfl, _, rfl, (by show 4 ≤ sizeLine; decide), fun p hp => ?_⟩
      have sm := same_new hp (.lst [.ref a, .int 0, .int 0, .int m])
      exact q p _ hp sm ⟨⟨0, 0, m, upd_same, by decide, h0, h1⟩, sm.seq hS, hle⟩
end
end Say
namespace Say
open PySem PySem.Spec PyProof.Rows L2 L2.DX
theorem putE_all {p : Exc → Prop} {es : List Exc} {wd so : List Nat} (h : ∀ e ∈ es, p e) (hn : p (wd, so)) : ∀ e ∈ putE es wd so, p e := fun e he => by
  unfold putE at he
  by_cases c : (es.any fun e => decide (e.1 = wd)) = true
  · rw [if_pos c] at he
    obtain ⟨e', h1, rfl⟩ := List.mem_map.mp he
    by_cases c2 : e'.1 = wd
    · rw [if_pos c2, c2]; exact hn
    · rw [if_neg c2]; exact h _ h1
  · rw [if_neg c] at he
    rcases List.mem_append.mp he with he | he
    · exact h _ he
    · rw [List.mem_singleton.mp he]; exact hn
theorem ABD_eq : Str.ofString "ABD" = T [65, 66, 68] := by decide +kernel
theorem ABD_ok {z : List Nat} (h : ∀ c ∈ z, c ∈ [65, 66, 68]) : ∀ c ∈ z, 65 ≤ c ∧ c ≤ 90 := fun c hc => by
  have := h c hc
  simp at this
  omega
theorem RowAt.dput {K : PySem.W.Frag} {H : Hp} {r a F : Addr} {ns : List Int} {kvs : List (Key × V)} (R : RowAt K H r a ns) (hF : H F = some (.dK kvs)) (o : HO) : RowAt K (upd H F o) r a ns :=
  R.stpD hF (stp_at _)
section
variable {P : Program} {w : World} {K : PySem.W.Frag} {mg : Str → Option Value} {base : Heap}
abbrev sLEx : Stmt := topS 47
abbrev nLEx : List Str := ["_law_row_here", "_law_letters_here", "_law_most", "_law_found", "_law_k"]
theorem scLEx : FnScope nLEx ["_law_row_here", "_law_letters_here", "_law_most"] (defScope sLEx) := ⟨rfl, rfl, rfl, by decide +kernel, rfl, by decide +kernel, by decide +kernel⟩
def spLE4 (K : PySem.W.Frag) : Sp := fun vs H Q _ => ∃ (r a : Addr) (ns : List Int) (L : List Nat) (n : Nat), vs = [.ref r, .str (T L), .int n] ∧ RowAt K H r a ns ∧ LetOk L ∧ n ≤ 12 ∧
  ∀ (es : List Exc) (X : Addr) (H' : Hp), (∀ e ∈ es, ExcOk L e ∧ e.1.length ≤ 4) → es.length ≤ n → (es.Pairwise fun e f => e.1 < f.1) → ExcsAt H' X es → Stp r H H' → RowAt K H' r a ns → Q (.ref X) H'
theorem ok_LE4 {f : Addr} {fd : FuncData} (F : Fun K "_law_exceptions" "_law_exceptions" sLEx f fd) (B : Bn mg) (DT : Df P w K mg base "_law_taken" ["_law_row_here", "_law_many"] 1 (spTaken K))
    (DX : Df P w K mg base "_law_text" ["_law_row_here", "_law_signs", "_law_fewest", "_law_many"] 2 (spText K)) : FnOk P w K mg base CX0 3 f fd ["_law_row_here", "_law_letters_here", "_law_most"] (spLE4 K) := by
  obtain ⟨fT, fdT, GT, kT, bT, mT⟩ := DT
  obtain ⟨fX, fdX, GX, kX, bX, mX⟩ := DX
  refine F.ok scLEx (fun vs H Q E h => ?_) (fun cdv A outer s H vs Q E hr h => ?_)
  · obtain ⟨r, a, ns, L, n, rfl, _⟩ := h
    rfl
  · obtain ⟨r, a, ns, L, n, rfl, R, oL, hn, q⟩ := h
    have l2 := oL.l2
    have l4 := oL.l4
    have hu := hu_of hr
    have hr1 : Room 1 _ := hr.mono (by decide)
    refine ⟨_, pss_cons (ps_set (i := 3) scLEx.nd rfl (.inl rfl) pe_dnewK)
      (pss_cons (ps_for PassesOwn.never rfl (pi_range1 rfl B.rng (pa_cons (pe_call GT hr1 (by rfl) mT kT bT .nil pass0 (pa_cons (pv 0) (pa_cons (pe_op op_add (pv 2) pe_int) pa_nil))) pa_nil)) (pg_name (i := 4) scLEx.nd rfl (.inl rfl))
        (pss_one (ps_dput hu (pv 3) (pe_call GX hr (by rfl) mX kX bX .nil pass0 (pa_cons (pv 0) (pa_cons (pv 1) (pa_cons pe_int (pa_cons pe_int pa_nil)))))
          (pe_call GX hr (by rfl) mX kX bX .nil pass0 (pa_cons (pv 0) (pa_cons pe_str (pa_cons pe_int (pa_cons pe_int pa_nil))))) rfl)))
      (pss_one (ps_ret (pe_callTy call_tupN (by rfl) B.tup (by decide +kernel) (pa_cons (pe_callB (cr_sortedTx rfl) (by rfl) B.srt (by decide +kernel)
            (pa_cons (pe_bm0 PySem.F.plainAttrs_dict PySem.F.slot_dict_items PySem.F.type_dict_items mt_itemsK (pv 3)) pa_nil)) pa_nil))))), ?_⟩
    intro D hD
    have nD : D ≠ r := (R.nw hD).symm
    have R1 := R.stp (same_new hD (.dK []))
    have hD1 : (upd H D (.dK [])) D = some (.dK (([] : List Exc).map ent)) := upd_same
    have s1 : Stp r H (upd H D (.dK [])) := .of (same_new hD _)
    generalize upd H D (.dK []) = H1 at R1 hD1 s1 ⊢
    refine ⟨_, rfl, _, rfl, _, _, rfl, rfl, r, a, ns, _, rfl, R1, by omega, by omega, fun k1 H2 h0 h1 s2 R2 => ?_⟩
    refine ⟨k1, rfl, by omega, by omega, for_it (walk_range) (fun i σ H3 => ∃ (es : List Exc) (v4 : Option V), σ = [some (.ref r), some (.str (T L)), some (.int n), some (.ref D), v4] ∧ H3 D = some (.dK (es.map ent)) ∧ (∀ e ∈ es, ExcOk L e ∧ e.1.length ≤ 4) ∧ (es.map (·.1)).Nodup ∧ es.length ≤ i ∧ Stp r H H3 ∧ RowAt K H3 r a ns)
      ⟨[], _, rfl, s2 _ _ hD1 nD, by simp, by simp, Nat.le_refl _, s1.trans s2, R2⟩ (fun _ _ _ _ _ => trivial) ?_ ?_⟩
    · rintro i x σ H3 H3' hi ⟨es, v4, rfl, hD3, hes, hnd, hel, s3, R3⟩ ⟨rfl, rfl⟩
      have hi8 : i < 12 := by omega
      refine ⟨_, rfl, r, a, ns, [65, 66, 68], 0, 5, by rw [ABD_eq]; rfl, R3, by decide, by decide, by decide, by decide, fun so H4 g1 g2 g3 s4 R4 => ?_⟩
      refine ⟨_, rfl, _, rfl, _, rfl, r, a, ns, L, 1, 4, rfl, R4, by omega, by omega, by decide, by decide, fun wd H5 w1 w2 w3 s5 R5 => ?_⟩
      have hD5 := (s4.trans s5) _ _ hD3 nD
      refine ⟨D, _, rfl, DPut.k (k := Sum.inr (T wd)) hD5 (by rw [List.length_map]; exact small1000 (by omega)), ?_⟩
      refine ⟨putE es wd so, _, rfl, by rw [upd_same, put_ent], putE_all hes ⟨⟨w1, w2, by show wd.length ≤ 8; omega, ABD_ok g1, by show so.length ≤ 36; omega⟩, by show wd.length ≤ 4; omega⟩, putE_nd hnd, Nat.le_trans (putE_len _ _ _) (by omega), ?_, R5.dput hD5 _⟩
      exact (s3.trans (s4.trans s5)).put hD _
    · rintro σ H3 ⟨es, v4, rfl, hD3, hes, hnd, hel, s3, R3⟩
      have hln : es.length ≤ n := by omega
      refine ⟨_, rfl, .inr (.inr (.inl ⟨rfl, .inl ⟨_, hD3⟩⟩)), D, _, rfl, rfl, hD3, fun p hp => ?_⟩
      have sp := same_new hp (itemsO p D)
      refine ⟨p, D, es.map tt, rfl, upd_same, by rw [sp _ _ hD3, List.map_map]; rfl, by rw [List.length_map]; omega, fun H4 l ps s4 hperm hpw hln' hll hps => ?_⟩
      have s34 : Same H3 H4 := sp.trans s4
      obtain ⟨pe1, pe2, pe3⟩ := sort_exc hnd hperm hpw
      refine ⟨l, _, rfl, .inl (.inl hll), fun X oX hoX hX => ?_⟩
      have sX := same_new hX (.frz oX (.tup (ps.map fun z => V.ref z.1)))
      refine q ((ps.map (·.2)).map bk) X _ (fun e he => hes e (pe2.mem_iff.mp he)) (by rw [pe2.length_eq]; exact hln) pe3 ⟨ps.map (·.1), ⟨oX, by rw [upd_same, List.map_map]; rfl, hoX⟩, ?_⟩ (s3.trans (.of (s34.trans sX))) (R3.stp (s34.trans sX))
      rw [List.map_map]
      refine paired_map fun z hz => ?_
      have := sX _ _ (hps z hz)
      rw [this]
      show some (HO.tup [V.str z.2.1, V.str z.2.2]) = some (HO.tup [V.str (T z.2.1.cps.toList), V.str (T z.2.2.cps.toList)])
      rw [T_list, T_list]
end
end Say
namespace Say
open PySem PySem.Spec PyProof.Rows L2
section
variable {P : Program} {w : World} {K : PySem.W.Frag} {mg : Str → Option Value} {base : Heap}
abbrev sLetters : Stmt := topS 42
theorem scLetters : FnScope ["_law_row_here"] ["_law_row_here"] (defScope sLetters) := ⟨rfl, rfl, rfl, by decide +kernel, rfl, by decide +kernel, by decide +kernel⟩
def spLetters (K : PySem.W.Frag) : Sp := fun vs H Q _ => ∃ (r a : Addr) (ns : List Int), vs = [.ref r] ∧ RowAt K H r a ns ∧
  ∀ (L : List Nat) (H' : Hp), L ∈ lets → Stp r H H' → RowAt K H' r a ns → Q (.str (T L)) H'
theorem ok_letters {f : Addr} {fd : FuncData} (F : Fun K "_law_letters" "_law_letters" sLetters f fd) (DT : Df P w K mg base "_law_taken" ["_law_row_here", "_law_many"] 1 (spTaken K)) :
    FnOk P w K mg base CX0 2 f fd ["_law_row_here"] (spLetters K) := by
  obtain ⟨fT, fdT, GT, kT, bT, mT⟩ := DT
  refine F.ok scLetters (fun vs H Q E h => ?_) (fun cdv A outer s H vs Q E hr h => ?_)
  · obtain ⟨r, a, ns, rfl, _⟩ := h
    rfl
  · obtain ⟨r, a, ns, rfl, R, q⟩ := h
    refine ⟨_, pss_one (ps_ret (pe_ix ix_list (pe_lst (pa_cons pe_str (pa_cons pe_str (pa_cons pe_str (pa_cons pe_str pa_nil))))) (pe_call GT hr (by rfl) mT kT bT .nil pass0 (pa_cons (pv 0) (pa_cons pe_int pa_nil))) (fun _ _ => rfl))), ?_⟩
    refine ⟨(by show 4 ≤ sizeLine; decide), fun p hp => ?_⟩
    have sm := same_new hp (.lst [V.str "ab", .str "abc", .str "ac", .str "abcd"])
    refine ⟨_, rfl, r, a, ns, 4, rfl, R.stp sm, by decide, by decide, fun k1 H1 h0 h1 s1 R1 => ?_⟩
    have hL : SqL K H1 p [V.str "ab", .str "abc", .str "ac", .str "abcd"] := .inl (.inl (s1 _ _ upd_same (R.nw hp).symm))
    have hk : k1 = 0 ∨ k1 = 1 ∨ k1 = 2 ∨ k1 = 3 := by omega
    rcases hk with e | e | e | e
    · exact ⟨p, _, k1, V.str (T [97, 98]), rfl, rfl, hL, at_of (j := 0) e (by decide +kernel), q _ H1 (by decide) ((Stp.of sm).trans s1) R1⟩
    · exact ⟨p, _, k1, V.str (T [97, 98, 99]), rfl, rfl, hL, at_of (j := 1) e (by decide +kernel), q _ H1 (by decide) ((Stp.of sm).trans s1) R1⟩
    · exact ⟨p, _, k1, V.str (T [97, 99]), rfl, rfl, hL, at_of (j := 2) e (by decide +kernel), q _ H1 (by decide) ((Stp.of sm).trans s1) R1⟩
    · exact ⟨p, _, k1, V.str (T [97, 98, 99, 100]), rfl, rfl, hL, at_of (j := 3) e (by decide +kernel), q _ H1 (by decide) ((Stp.of sm).trans s1) R1⟩
end
end Say
namespace Say
open PySem PySem.Spec PyProof.Rows L2
theorem sl_tupW {X : Cx} : SlR X (fun x lo hi H Q => ∃ a xs, x = .ref a ∧ H a = some (.tup xs) ∧ ∀ (p : Addr) (H' : Hp), Same H H' → H' p = some (.tup (cutV xs lo hi)) → Q (.ref p) H') := by
  intro pins s σ H x v vl vu lo hi sl Q I rx hs pl pu h
  obtain ⟨a, xs, e, ha, q⟩ := h
  refine sl_tupA pins s σ H x v vl vu lo hi sl Q I rx hs pl pu ⟨a, xs, e, .inl (.inl ha), fun hw => ?_, fun hw p hp => ?_⟩
  · refine q a H (Same.refl H) ?_
    have : cutV xs lo hi = xs := by
      unfold cutV
      rw [hw.1, hw.2, List.drop_zero, Nat.sub_zero, List.take_length]
    rw [this]
    exact ha
  · exact q p _ (same_new hp _) upd_same
theorem paired_takeW {α β : Type} {F : α → β → Prop} : ∀ (m : Nat) {l : List α} {k : List β}, Paired F l k → Paired F (l.take m) (k.take m)
  | 0, _, _, _ => .nil
  | _ + 1, _, _, .nil => .nil
  | m + 1, _, _, .cons a t => .cons a (paired_takeW m t)
theorem cut_takeW (xs : List V) (k : Nat) : cutV xs none (some (k : Int)) = xs.take k := by
  unfold cutV
  rw [HT.sIx_none, HT.sIx_nat, List.drop_zero, Nat.sub_zero]
  rcases Nat.le_total k xs.length with h | h
  · rw [Nat.min_eq_left h]
  · rw [Nat.min_eq_right h, List.take_length, List.take_of_length_le h]
theorem rules_take {H H' : Hp} {R p : Addr} {rs : List Rule} {ts : List Addr} (k : Nat) (pR : Paired (fun t ρ => H t = some (.tup (Rule.vs ρ))) ts rs) (s : Same H H') (hp : H' p = some (.tup (cutV (ts.map V.ref) none (some (k : Int))))) : RulesAt H' p (rs.take k) := by
  refine ⟨ts.take k, ?_, paired_takeW k (paired_mono (fun t ρ h => s _ _ h) pR)⟩
  rw [hp, cut_takeW, List.map_take]
theorem excs_take {H H' : Hp} {p : Addr} {es : List Exc} {ts : List Addr} (k : Nat) (pX : Paired (fun t (e : Exc) => H t = some (.tup [.str (T e.1), .str (T e.2)])) ts es) (s : Same H H') (hp : TupN H' p (cutV (ts.map V.ref) none (some (k : Int)))) : ExcsAt H' p (es.take k) := by
  refine ⟨ts.take k, ?_, paired_takeW k (paired_mono (fun t ρ h => s _ _ h) pX)⟩
  rw [cut_takeW, ← List.map_take] at hp
  exact hp
end Say
namespace Say
open PySem PySem.Spec PyProof.Rows L2
/-- S is not where the script stands -/
def Off (K : PySem.W.Frag) (a S : Addr) (ns : List Int) : Prop := (∀ H : Hp, SqL K H a (ns.map V.int)) ∨ a ≠ S
theorem RowAt.off {K : PySem.W.Frag} {H : Hp} {r a S : Addr} {ns : List Int} (R : RowAt K H r a ns) (h : H S = none) : Off K a S ns := by
  obtain ⟨_, sc, _⟩ := R
  rcases sc with (sc | ⟨o, sc⟩) | sc
  · exact .inr (ne_of_none sc h)
  · exact .inr (ne_of_none sc h)
  · exact .inl fun H' => .inr sc
theorem RowAt.updS {K : PySem.W.Frag} {H : Hp} {r a S : Addr} {ns : List Int} {o : HO} (R : RowAt K H r a ns) (n : r ≠ S) (of : Off K a S ns) : RowAt K (upd H S o) r a ns := by
  obtain ⟨⟨i', c', m', q', b'⟩, sc, le⟩ := R
  refine ⟨⟨i', c', m', by rw [upd_ne n]; exact q', b'⟩, ?_, le⟩
  rcases of with of | of
  · exact of _
  · rcases sc with (sc | ⟨o, sc⟩) | sc
    · exact .inl (.inl (by rw [upd_ne of]; exact sc))
    · exact .inl (.inr ⟨o, by rw [upd_ne of]; exact sc⟩)
    · exact .inr sc
end Say
namespace Say
open PySem PySem.Spec PyProof.Rows L2 L2.DX
theorem letsB_ok {L : List Nat} (h : L ∈ lets) : LetOk L := by
  have : ∀ L ∈ lets, LetOk L := by
    intro L h
    simp only [lets, List.mem_cons, List.not_mem_nil, or_false] at h
    rcases h with rfl | rfl | rfl | rfl <;> exact ⟨by decide, by decide, by decide, by decide⟩
  exact this L h
/-! ### a book as data -/
def ruleD (ρ : Rule) : PyData := .tuple [.str (T ρ.ah), .str (T ρ.ow), .str (T ρ.be), .str (T ρ.so)]
def excD2 (e : Exc) : PyData := .tuple [.str (T e.1), .str (T e.2)]
def bookD (L : List Nat) (rs : List Rule) (es : List Exc) : PyData := .tuple [.str (T L), .tuple (rs.map ruleD), .tuple (es.map excD2)]
theorem dp_book {K : PySem.W.Frag} {H : Hp} {b : Addr} {L : List Nat} {rs : List Rule} {es : List Exc} (h : BookAt H b L rs es) : Dp K H (.ref b) (bookD L rs es) := by
  obtain ⟨R, X, hb, ⟨tsR, hR, pR⟩, ⟨tsX, hX, pX⟩⟩ := h
  have hRs : DpAll K H (tsR.map V.ref) (rs.map ruleD) := by
    clear hR
    induction pR with
    | nil => exact .nil
    | cons a b ih => exact .cons (.tup (.inl (.inl a)) (.cons (.str _) (.cons (.str _) (.cons (.str _) (.cons (.str _) .nil))))) ih
  have hXs : DpAll K H (tsX.map V.ref) (es.map excD2) := by
    clear hX
    induction pX with
    | nil => exact .nil
    | cons a b ih => exact .cons (.tup (.inl (.inl a)) (.cons (.str _) (.cons (.str _) .nil))) ih
  exact .tup (.inl (.inl hb)) (.cons (.str _) (.cons (.tup (.inl (.inl hR)) hRs) (.cons (.tup (.inl hX.rd) hXs) .nil)))
theorem few_strs {l : List PyData} (h : ∀ d ∈ l, ∃ x, d = .str x) : ∀ d ∈ l, Few d := fun d hd => by
  obtain ⟨x, rfl⟩ := h d hd
  exact .str x
theorem few_book {L : List Nat} {rs : List Rule} {es : List Exc} (h : BookOk L rs es) : Few (bookD L rs es) := by
  have r12 := h.r12
  have e8 := h.e8
  refine .tup (by show 3 ≤ 1000; decide) fun d hd => ?_
  simp only [List.mem_cons, List.not_mem_nil, or_false] at hd
  rcases hd with rfl | rfl | rfl
  · exact .str _
  · refine .tup (by rw [List.length_map]; omega) fun d hd => ?_
    obtain ⟨ρ, _, rfl⟩ := List.mem_map.mp hd
    refine .tup (by show 4 ≤ 1000; decide) fun d hd => ?_
    simp only [List.mem_cons, List.not_mem_nil, or_false] at hd
    rcases hd with rfl | rfl | rfl | rfl <;> exact .str _
  · refine .tup (by rw [List.length_map]; omega) fun d hd => ?_
    obtain ⟨ρ, _, rfl⟩ := List.mem_map.mp hd
    refine .tup (by show 2 ≤ 1000; decide) fun d hd => ?_
    simp only [List.mem_cons, List.not_mem_nil, or_false] at hd
    rcases hd with rfl | rfl <;> exact .str _
theorem depth_all {n : Nat} : ∀ {l : List PyData}, (∀ d ∈ l, d.depth ≤ n) → PyData.depthAll l ≤ n
  | [], _ => Nat.zero_le _
  | d :: r, h => by
    have h1 := h d (List.mem_cons_self ..)
    have h2 := depth_all (l := r) fun x hx => h x (List.mem_cons_of_mem _ hx)
    show max d.depth (PyData.depthAll r) ≤ n
    omega
theorem depth_book (L : List Nat) (rs : List Rule) (es : List Exc) : (bookD L rs es).depth < 4 := by
  have h1 : PyData.depthAll (rs.map ruleD) ≤ 1 := depth_all fun d hd => by
    obtain ⟨ρ, _, rfl⟩ := List.mem_map.mp hd
    exact Nat.le_refl 1
  have h2 : PyData.depthAll (es.map excD2) ≤ 1 := depth_all fun d hd => by
    obtain ⟨ρ, _, rfl⟩ := List.mem_map.mp hd
    exact Nat.le_refl 1
  show max 0 (max (PyData.depthAll (rs.map ruleD) + 1) (max (PyData.depthAll (es.map excD2) + 1) 0)) + 1 < 4
  omega
theorem bookOk_take {L : List Nat} {rs : List Rule} {es : List Exc} (hL : LetOk L) (hr : ∀ ρ ∈ rs, RuleOk L ρ) (he : ∀ e ∈ es, ExcOk L e) (up : es.Pairwise fun e f => e.1 < f.1) : BookOk L (rs.take 12) (es.take 8) :=
  ⟨hL, fun ρ h => hr ρ (List.mem_of_mem_take h), List.length_take_le 12 rs, fun e h => he e (List.mem_of_mem_take h), List.length_take_le 8 es, up.sublist (List.take_sublist 8 es)⟩
theorem line_cons (a b : List Nat) (r : List (List Nat)) : lineM (a :: b :: r) = a ++ ([32] ++ lineM (b :: r)) := rfl
theorem lineL {L : List Nat} (h : L ≠ []) : lineM (markR [kwL, L]) = (kwL ++ [32]) ++ L := by
  unfold markR
  rw [List.map_cons, List.map_cons, List.map_nil, mk_id (z := kwL) (by decide), mk_id h, line_cons, List.append_assoc]
  rfl
theorem lineE {e : Exc} (h : e.1 ≠ []) : lineM (markR (excRow e)) = (((kwW ++ [32]) ++ e.1) ++ [32]) ++ mkE e.2 := by
  unfold markR excRow
  rw [List.map_cons, List.map_cons, List.map_cons, List.map_nil, mk_id (z := kwW) (by decide), mk_id h, line_cons, line_cons, List.append_assoc, List.append_assoc, List.append_assoc]
  rfl
theorem lsp_eq : Str.ofString "letters " = T (kwL ++ [32]) := by decide +kernel
theorem wsp_eq : Str.ofString "word " = T (kwW ++ [32]) := by decide +kernel
def lnV (ls : List (List Nat)) : List V := (ls.map T).map V.str
theorem lnV_app (ls : List (List Nat)) (z : List Nat) : lnV ls ++ [.str (T z)] = lnV (ls ++ [z]) := by
  unfold lnV
  rw [List.map_append, List.map_append]
  rfl
theorem lnV_len (ls : List (List Nat)) : (lnV ls).length = ls.length := by unfold lnV; rw [List.length_map, List.length_map]
/-- the rows so far -/
def linesM (L : List Nat) (rs : List Rule) (es : List Exc) (i j : Nat) : List (List Nat) := (([kwL, L] :: ((rs.take i).map ruleRow ++ (es.take j).map excRow)).map markR).map lineM
theorem lines_rule {L : List Nat} {rs : List Rule} {es : List Exc} {i : Nat} {ρ : Rule} (h : rs[i]? = some ρ) : linesM L rs es (i + 1) 0 = linesM L rs es i 0 ++ [lineM (markR (ruleRow ρ))] := by
  unfold linesM
  rw [take_snoc h, List.take_zero, List.map_nil, List.append_nil, List.append_nil, List.map_append, List.map_cons, List.map_cons, List.map_append, List.map_append]
  rfl
theorem lines_exc {L : List Nat} {rs : List Rule} {es : List Exc} {i j : Nat} {e : Exc} (h : es[j]? = some e) : linesM L rs es i (j + 1) = linesM L rs es i j ++ [lineM (markR (excRow e))] := by
  unfold linesM
  rw [take_snoc h, List.map_append (l₁ := es.take j), ← List.append_assoc, ← List.cons_append, List.map_append (l₁ := [kwL, L] :: (List.map ruleRow (List.take i rs) ++ List.map excRow (List.take j es))), List.map_append]
  rfl
theorem lines_all (L : List Nat) (rs : List Rule) (es : List Exc) : linesM L rs es rs.length es.length = (wordsM L rs es).map lineM := by
  unfold linesM wordsM rowsM
  rw [List.take_length, List.take_length]
theorem lines_lt {L : List Nat} {rs : List Rule} {es : List Exc} (h : BookOk L rs es) (i j : Nat) : (linesM L rs es i j).length ≤ 21 := by
  have := h.r12
  have := h.e8
  unfold linesM
  rw [List.length_map, List.length_map, List.length_cons, List.length_append, List.length_map, List.length_map, List.length_take, List.length_take]
  omega
theorem ne_dash {z : List Nat} : decide (V.str (T z) = V.str (Str.ofString "")) = decide (z = []) := decide_eq_decide.mpr T_empty
section
variable {P : Program} {w : World} {K : PySem.W.Frag} {mg : Str → Option Value} {base : Heap}
abbrev sLaw : Stmt := topS 49
abbrev nLaw : List Str := ["_law_script", "_law_row_here", "_law_turn", "_law_letters_here", "_law_book", "_law_rows", "_law_rule_here", "_law_word", "_law_sounds", "_law_text_here", "_law_part"]
theorem scLaw : FnScope nLaw ["_law_script"] (defScope sLaw) := ⟨rfl, rfl, rfl, by decide +kernel, rfl, by decide +kernel, by decide +kernel⟩
theorem ok_law {f : Addr} {fd : FuncData} (F : Fun K "law" "law" sLaw f fd) (B : Bn mg) (DRo : Df P w K mg base "_law_row" ["_law_script"] 1 (spRow K))
    (DLe : Df P w K mg base "_law_letters" ["_law_row_here"] 2 (spLetters K)) (DRu : Df P w K mg base "_law_rules" ["_law_row_here", "_law_letters_here", "_law_most"] 4 (spRules K)) (DLE : Df P w K mg base "_law_exceptions" ["_law_row_here", "_law_letters_here", "_law_most"] 3 (spLE4 K))
    (DWt : Df P w K mg base "written" ["book"] 6 spWt) (DRd : Df P w K mg base "read" ["text"] 6 spRd) (DAl : Df P w K mg base "_law_alike" psAl 4 (spAl K 4)) :
    FnOk P w K mg base CX0 7 f fd ["_law_script"] (spLaw K) := by
  obtain ⟨fRo, fdRo, GRo, kRo, bRo, mRo⟩ := DRo
  obtain ⟨fLe, fdLe, GLe, kLe, bLe, mLe⟩ := DLe
  obtain ⟨fRu, fdRu, GRu, kRu, bRu, mRu⟩ := DRu
  obtain ⟨fLE, fdLE, GLE, kLE, bLE, mLE⟩ := DLE
  obtain ⟨fWt, fdWt, GWt, kWt, bWt, mWt⟩ := DWt
  obtain ⟨fRd, fdRd, GRd, kRd, bRd, mRd⟩ := DRd
  obtain ⟨fAl, fdAl, GAl, kAl, bAl, mAl⟩ := DAl
  refine F.ok scLaw (fun vs H Q E h => ?_) (fun cdv A outer s H vs Q E hr h => ?_)
  · obtain ⟨a, ns, rfl, _⟩ := h
    rfl
  · obtain ⟨a, ns, rfl, hS, hle, q⟩ := h
    have hr1 : Room 1 _ := hr.mono (by decide)
    have hr2 : Room 2 _ := hr.mono (by decide)
    have hr3 : Room 3 _ := hr.mono (by decide)
    have hr4 : Room 4 _ := hr.mono (by decide)
    have hr6 : Room 6 _ := hr
    refine ⟨_, pss_cons (ps_set (i := 1) scLaw.nd rfl (.inl rfl) (pe_call GRo hr1 (by rfl) mRo kRo bRo .nil pass0 (pa_cons (pv 0) pa_nil)))
      (pss_cons (ps_for PassesOwn.never rfl (pi_range1 (by rfl) B.rng (pa_cons pe_int pa_nil)) (pg_name (i := 2) scLaw.nd rfl (.inl rfl)) (pss_cons (ps_set (i := 3) scLaw.nd rfl (.inl rfl) (pe_call GLe hr2 (by rfl) mLe kLe bLe .nil pass0 (pa_cons (pv 1) pa_nil)))
        (pss_cons (ps_set (i := 4) scLaw.nd rfl (.inl rfl) (pe_tup (pa_cons (pv 3) (pa_cons (pe_slice sl_tupW (pe_call GRu hr4 (by rfl) mRu kRu bRu .nil pass0 (pa_cons (pv 1) (pa_cons (pv 3) (pa_cons pe_int pa_nil)))) po_none (po_some pe_int)) (pa_cons (pe_slice sl_tupQ (pe_call GLE hr3 (by rfl) mLE kLE bLE .nil pass0 (pa_cons (pv 1) (pa_cons (pv 3) (pa_cons pe_int pa_nil)))) po_none (po_some pe_int)) pa_nil)))))
        (pss_cons (ps_set (i := 5) scLaw.nd rfl (.inl rfl) (pe_lst (pa_cons (pe_op op_add_str pe_str (pv 3)) pa_nil)))
        (pss_cons (ps_for PassesOwn.never rfl (pi_tup (pe_ix ix_tup (pv 4) pe_int (fun _ _ => rfl))) (pg_name (i := 6) scLaw.nd rfl (.inl rfl)) (pss_one (ps_expr (pe_bm PySem.F.plainAttrs_list PySem.F.slot_list_append PySem.F.type_list_append mt_append (pv 5) (pa_cons (pe_join pe_str (pe_op op_cat (pe_lst (pa_cons pe_str pa_nil)) (pe_lc (own := [("_law_part", 10)]) (g := gName 10) rfl scLaw.nd (pi_tup (pv 6)) (blkOk_by (N := nLaw) (sc := defScope sLaw) (by decide +kernel)) (fun _ _ _ _ _ => pg_name (i := 10) scLaw.nd rfl (.inl rfl)) (fun _ _ _ _ _ => pts_nil) (fun _ _ _ _ _ => (pe_ifExp (pt_cmpR op_ne (pv 10) pe_str (nomark _)) (pv 10) pe_str))))) pa_nil)))))
        (pss_cons (ps_for PassesOwn.never rfl (pi_tup (pe_ix ix_tup (pv 4) pe_int (fun _ _ => rfl))) (pg_tup (by rfl) (pgs_cons (pg_name (i := 7) scLaw.nd rfl (.inl rfl)) (pgs_cons (pg_name (i := 8) scLaw.nd rfl (.inl rfl)) pgs_nil))) (pss_one (ps_expr (pe_bm PySem.F.plainAttrs_list PySem.F.slot_list_append PySem.F.type_list_append mt_append (pv 5) (pa_cons (pe_op op_add_str (pe_op op_add_str (pe_op op_add_str pe_str (pv 7)) pe_str) (pe_ifExp (pt_cmpR op_ne (pv 8) pe_str (nomark _)) (pv 8) pe_str)) pa_nil)))))
        (pss_cons (ps_set (i := 9) scLaw.nd rfl (.inl rfl) (pe_join pe_str (pv 5)))
        (pss_one (ps_if (PW.pt (pw_or (pt_not (pt_val (pe_call GAl hr4 (by rfl) mAl kAl bAl .nil pass0 (pa_cons (pe_call GWt hr6 (by rfl) mWt kWt bWt .nil pass0 (pa_cons (pv 4) pa_nil)) (pa_cons (pv 9) pa_nil))))) (pw_or1 (pt_not (pt_val (pe_call GAl hr4 (by rfl) mAl kAl bAl .nil pass0 (pa_cons (pe_call GRd hr6 (by rfl) mRd kRd bRd .nil pass0 (pa_cons (pv 9) pa_nil)) (pa_cons (pv 4) pa_nil)))))))) (pss_one (ps_ret pe_bl)) pss_nil)))))))))
      (pss_one (ps_ret pe_bl))), ?_⟩
    refine ⟨_, rfl, a, ns, rfl, hS, hle, fun r H1 hr0 s1 R1 => ?_⟩
    refine ⟨4, rfl, by decide, by decide, for_it (walk_range) (fun i σ H2 => RowAt K H2 r a ns ∧ ∃ v2 v3 v4 v5 v6 v7 v8 v9, σ = [some (.ref a), some (.ref r), v2, v3, v4, v5, v6, v7, v8, v9, none])
      ⟨R1, _, _, _, _, _, _, _, _, rfl⟩ (fun _ _ _ _ _ => trivial) ?_ ?_⟩
    · rintro i x σ H2 H2' hi ⟨R2, v2, v3, v4, v5, v6, v7, v8, v9, rfl⟩ ⟨rfl, rfl⟩
      refine ⟨_, rfl, r, a, ns, rfl, R2, fun L H3 hL s3 R3 => ?_⟩
      have oL := letsB_ok hL
      have l2 := oL.l2
      have l4 := oL.l4
      have hLne : L ≠ [] := fun z => by rw [z] at l2; exact absurd l2 (by decide)
      refine ⟨_, rfl, _, rfl, _, rfl, r, a, ns, L, 8, rfl, R3, by omega, by omega, by decide, fun rs0 R0 H4 hrs0 hlen0 hR0 s4 R4 => ?_⟩
      obtain ⟨ts0, hR0, pR0⟩ := hR0
      refine ⟨12, rfl, R0, _, rfl, hR0, fun Ra H5 s5 hRa => ?_⟩
      have hRA := rules_take (R := R0) 12 pR0 s5 hRa
      have R5 := R4.stp s5
      refine ⟨_, rfl, _, rfl, r, a, ns, L, 12, rfl, R5, oL, by decide, fun es0 X0 H6 hes0 hel0 up0 hX0 s6 R6 => ?_⟩
      obtain ⟨tx0, hX0, pX0⟩ := hX0
      refine ⟨8, rfl, X0, _, rfl, hX0, fun Xa H7 s7 hXa => ?_⟩
      have hXA := excs_take 8 pX0 s7 hXa
      have R7 := R6.stp s7
      have ho : BookOk L (rs0.take 12) (es0.take 8) := bookOk_take oL hrs0 (fun e he => (hes0 e he).1) up0
      refine ⟨(by show 3 ≤ sizeLine; decide), fun b hb => ?_⟩
      have sb := same_new hb (.tup [.str (T L), .ref Ra, .ref Xa])
      have HB : BookAt (upd H7 b (.tup [.str (T L), .ref Ra, .ref Xa])) b L (rs0.take 12) (es0.take 8) := ⟨Ra, Xa, upd_same, hRA.kt ((R5.kt s6).trans (.of (Same.trans s7 sb))), hXA.kt (.of sb)⟩
      have R8 := R7.stp sb
      generalize rs0.take 12 = rs at ho HB
      generalize es0.take 8 = es at ho HB
      generalize upd H7 b (.tup [.str (T L), .ref Ra, .ref Xa]) = H8 at HB R8 ⊢
      have r12 := ho.r12
      have e8 := ho.e8
      -- the rows
      refine ⟨_, rfl, _, _, rfl, rfl, (by show (Str.ofString "letters ").length + (T L).length ≤ _; rw [lsp_eq, T_len, T_len]; exact small (by show 8 + _ ≤ _; omega)), (by show 1 ≤ sizeLine; decide), fun W hW => ?_⟩
      have sW := same_new hW (.lst [.str ("letters " ++ T L)])
      have hW0 : (upd H8 W (.lst [.str ("letters " ++ T L)])) W = some (.lst (lnV (linesM L rs es 0 0))) := by
        rw [upd_same]
        show some (HO.lst [.str (Str.ofString "letters " ++ T L)]) = some (.lst [.str (T (lineM (markR [kwL, L])))])
        rw [lsp_eq, T_app, lineL hLne]
      have nW := R8.nw hW
      have oW := R8.off hW
      have HB9 := HB.kt (.of sW)
      have R9 := R8.stp sW
      generalize upd H8 W (.lst [.str ("letters " ++ T L)]) = H9 at HB9 R9 hW0 ⊢
      obtain ⟨Rb, Xb, hb9, ⟨tsR, hRb, pRb⟩, ⟨tsX, hXb, pXb⟩⟩ := id HB9
      refine ⟨_, rfl, b, _, 1, .ref Rb, rfl, rfl, .inl (.inl hb9), atI_nat (j := 1) rfl, Rb, rfl, ⟨_, .inl (.inl hRb)⟩, for_it (walk_tup (xs := tsR.map V.ref)) (fun i σ HX => (∃ v2 v6, σ = [some (.ref a), some (.ref r), v2, some (.str (T L)), some (.ref b), some (.ref W), v6, v7, v8, v9, none]) ∧ HX W = some (.lst (lnV (linesM L rs es i 0))) ∧ RowAt K HX r a ns ∧ KT H9 HX)
        ⟨⟨_, _, rfl⟩, hW0, R9, KT.refl _⟩ (fun i σ HX _ h => .inl (.inl (h.2.2.2.1 _ _ hRb))) ?_ ?_⟩
      · rintro i x σ HX HX' hi ⟨⟨v2, v6, rfl⟩, hWx, RX, kX⟩ ⟨rfl, hx⟩
        rw [List.getElem?_map] at hx
        obtain ⟨t, ht, e⟩ := Option.map_eq_some_iff.mp hx
        subst e
        obtain ⟨ρ, hρ, hat⟩ := paired_at pRb ht
        have hatX := kX.1 _ _ hat
        have ro := ruleRow_ok oL (ho.rl ρ (List.mem_of_getElem? hρ))
        refine ⟨_, rfl, .inl ⟨rfl, _, .inl (.inl hWx)⟩, ⟨_, rfl⟩, (by show 1 ≤ sizeLine; decide), fun p0 hp0 => ?_⟩
        have s0 := same_new hp0 (.lst [.str "rule"])
        have hp1 : (upd HX' p0 (.lst [.str "rule"])) p0 = some (.lst (lnV [kwR])) := by
          rw [upd_same]
          show some (HO.lst [.str (Str.ofString "rule")]) = _
          rw [kwR_eq] <;> rfl
        generalize upd HX' p0 (.lst [.str "rule"]) = HY at s0 hp1 ⊢
        refine ⟨_, rfl, t, rfl, ⟨_, .inl (.inl (s0 _ _ hatX))⟩, fun D hD => ?_⟩
        refine lc_it (walk_tup (xs := ρ.vs)) (fun j HZ => HZ D = some (.lst (lnV (([ρ.ah, ρ.ow, ρ.be, ρ.so].take j).map mkE))) ∧ Same HY HZ) ?_ (fun j HZ _ h => .inl (.inl (h.2 _ _ (s0 _ _ hatX)))) ?_ ?_
        · exact ⟨upd_same, same_new hD _⟩
        · rintro j x HZ HZ' hj ⟨f1, f3⟩ ⟨rfl, hx⟩
          rw [show ρ.vs = [ρ.ah, ρ.ow, ρ.be, ρ.so].map (fun z => V.str (T z)) from rfl, List.getElem?_map] at hx
          obtain ⟨z, hz, e⟩ := Option.map_eq_some_iff.mp hx
          subst e
          have app : ∀ y : V, y = .str (T (mkE z)) → ∃ acc, HZ' D = some (.lst acc) ∧ acc.length < sizeLine ∧ ((upd HZ' D (.lst (acc ++ [y]))) D = some (.lst (lnV (([ρ.ah, ρ.ow, ρ.be, ρ.so].take (j + 1)).map mkE))) ∧ Same HY (upd HZ' D (.lst (acc ++ [y])))) := fun y hy => by
            subst hy
            refine ⟨_, f1, ?_, ?_, fun c u hc => ?_⟩
            · rw [lnV_len, List.length_map, List.length_take]
              exact small1000 (Nat.le_trans (Nat.min_le_right _ _) (by show 4 ≤ 1000; decide))
            · rw [upd_same, lnV_app, take_snoc hz, List.map_append]
              rfl
            · rw [upd_ne (ne_of_none hc hD)]
              exact f3 _ _ hc
          refine ⟨rfl, _, rfl, rfl, _, rfl, ?_⟩
          rw [ne_dash]
          by_cases c : z = []
          · rw [decide_eq_true c]
            refine iteF (app _ ?_)
            rw [c]
            exact congrArg V.str dash_eq
          · rw [decide_eq_false c]
            refine iteT ⟨_, rfl, app _ ?_⟩
            rw [mk_id c]
        rintro HZ ⟨f1, f3⟩
        have f1 : HZ D = some (.lst (lnV ([ρ.ah, ρ.ow, ρ.be, ρ.so].map mkE))) := f1
        refine ⟨p0, D, _, _, rfl, rfl, f3 _ _ hp1, f1, (by rw [lnV_len, lnV_len]; exact small (by show 1 + 4 ≤ _; decide)), fun p2 hp2 => ?_⟩
        have sp2 := same_new hp2 (.lst (lnV [kwR] ++ lnV ([ρ.ah, ρ.ow, ρ.be, ρ.so].map mkE)))
        have e2 : (upd HZ p2 (.lst (lnV [kwR] ++ lnV ([ρ.ah, ρ.ow, ρ.be, ρ.so].map mkE)))) p2 = some (.lst (((markR (ruleRow ρ)).map T).map V.str)) := by
          rw [upd_same]
          rfl
        have sAll : Same HX' (upd HZ p2 (.lst (lnV [kwR] ++ lnV ([ρ.ah, ρ.ow, ρ.be, ρ.so].map mkE)))) := (s0.trans f3).trans sp2
        generalize upd HZ p2 (.lst (lnV [kwR] ++ lnV ([ρ.ah, ρ.ow, ρ.be, ρ.so].map mkE))) = H10 at e2 sAll ⊢
        refine ⟨Str.ofString " ", p2, (markR (ruleRow ρ)).map T, rfl, rfl, .inl (.inl (.inl e2)), ?_, ?_⟩
        · have h1 := mark_len ro
          have h5 := ro.l5
          have e1 : ((markR (ruleRow ρ)).map T).length = (ruleRow ρ).length := by unfold markR; rw [List.length_map, List.length_map]
          have e2 : (((markR (ruleRow ρ)).map T).map fun x => x.length) = (markR (ruleRow ρ)).map List.length := by
            rw [List.map_map]
            exact List.map_congr_left fun z _ => T_len z
          rw [e1, e2, sp_eq, T_len]
          show _ + _ * 1 ≤ _
          omega
        rw [sp_eq, join_T]
        have hW10 := sAll _ _ hWx
        refine ⟨_, _, _, rfl, rfl, hW10, ?_, ?_⟩
        · rw [lnV_len]
          have := lines_lt ho i 0
          exact small1000 (by omega)
        · refine ⟨⟨_, _, rfl⟩, ?_, (RX.stp sAll).updS nW oW, (kX.trans (.of sAll)).trans (kt_upd hW10)⟩
          rw [upd_same, show TL.joinL [32] (markR (ruleRow ρ)) = lineM (markR (ruleRow ρ)) from rfl, lnV_app, lines_rule hρ]
      · rintro σ HA ⟨⟨v2, v6, rfl⟩, hWA, RA, kA⟩
        rw [List.length_map, paired_len pRb] at hWA
        have hbA := kA.1 _ _ hb9
        have hXA := hXb.kt kA
        have pXA : Paired (fun t (e : Exc) => HA t = some (.tup [.str (T e.1), .str (T e.2)])) tsX es := paired_mono (fun t e h => kA.1 _ _ h) pXb
        refine ⟨_, rfl, b, _, 2, .ref Xb, rfl, rfl, .inl (.inl hbA), atI_nat (j := 2) rfl, Xb, rfl, ⟨_, .inl hXA.rd⟩, for_it (walk_tup (xs := tsX.map V.ref)) (fun i σ HX => (∃ v2 v6 v7 v8, σ = [some (.ref a), some (.ref r), v2, some (.str (T L)), some (.ref b), some (.ref W), v6, v7, v8, v9, none]) ∧ HX W = some (.lst (lnV (linesM L rs es rs.length i))) ∧ RowAt K HX r a ns ∧ KT HA HX)
          ⟨⟨_, _, _, _, rfl⟩, hWA, RA, KT.refl _⟩ (fun i σ HX _ h => .inl (hXA.kt h.2.2.2).rd) ?_ ?_⟩
        · rintro i x σ HX HX' hi ⟨⟨v2, v6, v7, v8, rfl⟩, hWx, RX, kX⟩ ⟨rfl, hx⟩
          rw [List.getElem?_map] at hx
          obtain ⟨t, ht, e⟩ := Option.map_eq_some_iff.mp hx
          subst e
          obtain ⟨en, hen, hat⟩ := paired_at pXA ht
          have hatX := kX.1 _ _ hat
          have eo := ho.ex en (List.mem_of_getElem? hen)
          have w8 := eo.w8
          have s36 := eo.s36
          have hne : en.1 ≠ [] := fun z => by have := eo.w1; rw [z] at this; exact absurd this (by decide)
          refine ⟨t, _, rfl, .inl (.inl hatX), rfl, _, _, rfl, _, _, rfl, rfl, ?_⟩
          refine ⟨_, rfl, .inl ⟨rfl, _, .inl (.inl hWx)⟩, _, rfl, _, _, rfl, rfl, (by show (Str.ofString "word ").length + _ ≤ _; rw [wsp_eq, T_len, T_len]; exact small (by show 5 + _ ≤ _; omega)), ?_⟩
          refine ⟨_, _, rfl, rfl, (by show (Str.ofString "word " ++ T en.1).length + (Str.ofString " ").length ≤ _; rw [wsp_eq, T_app, sp_eq, T_len, T_len, List.length_append]; exact small (by show (5 + _) + 1 ≤ _; omega)), ?_⟩
          have lh : ((Str.ofString "word " ++ T en.1) ++ Str.ofString " ") = T (((kwW ++ [32]) ++ en.1) ++ [32]) := by rw [wsp_eq, T_app, sp_eq, T_app]
          have app : ∀ y : Str, y = T (mkE en.2) → ((Str.ofString "word " ++ T en.1) ++ Str.ofString " ").length + y.length ≤ sizeLine ∧ ((Str.ofString "word " ++ T en.1) ++ Str.ofString " ") ++ y = T (lineM (markR (excRow en))) := fun y hy => by
            subst hy
            rw [lh, T_app, ← lineE hne, T_len, T_len, List.length_append, List.length_append]
            have := mk_len en.2
            exact ⟨small (by show ((5 + _) + 1) + _ ≤ _; omega), rfl⟩
          have done : ∀ z : Str, z = T (lineM (markR (excRow en))) → ∃ l xs y, V.ref W = .ref l ∧ [V.str z] = [y] ∧ HX' l = some (.lst xs) ∧ xs.length < sizeLine ∧ ((∃ u2 u6 u7 u8, ([some (.ref a), some (.ref r), v2, some (.str (T L)), some (.ref b), some (.ref W), v6, some (.str (T en.1)), some (.str (T en.2)), v9, none] : List (Option V)) = [some (.ref a), some (.ref r), u2, some (.str (T L)), some (.ref b), some (.ref W), u6, u7, u8, v9, none]) ∧ (upd HX' l (.lst (xs ++ [y]))) W = some (.lst (lnV (linesM L rs es rs.length (i + 1)))) ∧ RowAt K (upd HX' l (.lst (xs ++ [y]))) r a ns ∧ KT HA (upd HX' l (.lst (xs ++ [y])))) := fun z hz => by
            subst hz
            refine ⟨_, _, _, rfl, rfl, hWx, ?_, ⟨_, _, _, _, rfl⟩, ?_, RX.updS nW oW, kX.trans (kt_upd hWx)⟩
            · rw [lnV_len]
              have := lines_lt ho rs.length i
              exact small1000 (by omega)
            · rw [upd_same, lnV_app, lines_exc hen]
          refine ⟨_, rfl, rfl, _, rfl, ?_⟩
          rw [ne_dash]
          by_cases c : en.2 = []
          · rw [decide_eq_true c]
            obtain ⟨g1, g2⟩ := app (Str.ofString "-") (by rw [c]; exact dash_eq)
            exact iteF ⟨_, _, rfl, rfl, g1, done _ g2⟩
          · rw [decide_eq_false c]
            obtain ⟨g1, g2⟩ := app (T en.2) (by rw [mk_id c])
            exact iteT ⟨_, rfl, _, _, rfl, rfl, g1, done _ g2⟩
        · rintro σ HB2 ⟨⟨v2, v6, v7, v8, rfl⟩, hWB, RB, kB⟩
          rw [List.length_map, paired_len pXb, lines_all] at hWB
          have HBB := (HB9.kt kA).kt kB
          refine ⟨⟨_, rfl⟩, _, rfl, Str.ofString "
", W, ((wordsM L rs es).map lineM).map T, rfl, rfl, .inl (.inl (.inl hWB)), ?_, ?_⟩
          · have h1 := lines_len ho
            have hl := rows_len ho
            have ew : (wordsM L rs es).length = (rowsM L rs es).length := by unfold wordsM; rw [List.length_map]
            have e2 : ((((wordsM L rs es).map lineM).map T).map fun x => x.length) = ((wordsM L rs es).map lineM).map List.length := by
              rw [List.map_map]
              exact List.map_congr_left fun z _ => T_len z
            rw [e2, nl_eq, T_len, List.length_map, List.length_map, ew]
            show _ + _ * 1 ≤ _
            omega
          rw [nl_eq, join_T]
          refine ⟨_, rfl, b, L, rs, es, rfl, HBB, ho, fun HC sC => ?_⟩
          refine ⟨_, rfl, _, _, .str (T (textM L rs es)), rfl, .str _, .str _, .str _, by show 0 < 4; decide, fun HD sD => ?_⟩
          refine ⟨true, rfl, iteF ?_⟩
          have sCD := sC.trans sD
          refine ⟨_, rfl, L, rs, es, rfl, ho, fun b2 HE sE HBE => ?_⟩
          refine ⟨_, rfl, .ref b2, .ref b, bookD L rs es, rfl, dp_book HBE, dp_book (HBB.kt (.of (sCD.trans sE))), few_book ho, depth_book L rs es, fun HF sF => ?_⟩
          exact ⟨true, rfl, iteF ⟨RB.stp ((sCD.trans sE).trans sF), _, _, _, _, _, _, _, _, rfl⟩⟩
    · rintro σ H2 ⟨R2, _⟩
      exact q H2
end
end Say
namespace Say
open PySem PySem.Spec PyProof.Rows L2
/-- a def as the top has left it -/
structure Std (K : PySem.W.Frag) (x : Str) (st : Stmt) (f : Addr) : Prop where
  ns : PySem.W.nsIn K mainGlobals x = some (some (.ref f))
  fn : ∃ fd, Fun K x x st f fd ∧ ∃ kV dc pm an cd ct, fd = PySem.W.fnOf x x (defArgs st) (defBody st) (defScope st) .none kV dc pm an cd ct
theorem std_mk {K : PySem.W.Frag} {x : Str} {st : Stmt} {f : Addr} {oc : Value} {od an : Option Addr} {osl : Array (Option Value)} {kV dc pm cd ct : Value} (a : PySem.W.nsIn K mainGlobals x = some (some (.ref f))) (l : K.lookup f = some ⟨oc, od, .func (PySem.W.fnOf x x (defArgs st) (defBody st) (defScope st) .none kV dc pm an cd ct), osl⟩) (c : PySem.W.codeIn K cd x = true) (k : PySem.W.keepIn K (.ref f) = true) : Std K x st f :=
  ⟨a, _, fun_mk l c k, kV, dc, pm, an, cd, ct, rfl⟩
theorem all_ok {l : PySem.W.OpenLaw} {w : World} {K : PySem.W.Frag} {h : Heap} {mg : Str → Option Value} {fa f26 f27 f22 f21 f24 f25 f23 f18 f19 f20 f17 f37 f38 f32 f35 f34 f36 f33 f40 f41 f42 f43 f44 f45 f46 f47 f48 f49 aSz aFo aF0 aF1 aF2 aF3 : Addr} {t_small t_caps t_edge t_mrul t_lexc t_lrs t_lso t_imost_exceptions : Tok} {t_empty : Tok} {szE foE : Array DictEntry} {szN foN : Nat} {g0d : Option Addr} {g0i : Array Value} {g0n : Nat} {g0s : Array (Option Value)} {g1d : Option Addr} {g1i : Array Value} {g1n : Nat} {g1s : Array (Option Value)} {g2d : Option Addr} {g2i : Array Value} {g2n : Nat} {g2s : Array (Option Value)} {g3d : Option Addr} {g3i : Array Value} {g3n : Nat} {g3s : Array (Option Value)}
    (X : K.In h) (G : h.Ns mainGlobals mg) (hfa : mg "law" = some (.ref fa))
    (S26 : Std K "is_text" (topS 26) f26)
    (S27 : Std K "is_rising" (topS 27) f27)
    (S22 : Std K "is_beside" (topS 22) f22)
    (S21 : Std K "is_rule" (topS 21) f21)
    (S24 : Std K "is_excepted" (topS 24) f24)
    (S25 : Std K "is_sounds" (topS 25) f25)
    (S23 : Std K "is_exception" (topS 23) f23)
    (S18 : Std K "check_letters" (topS 18) f18)
    (S19 : Std K "check_rules" (topS 19) f19)
    (S20 : Std K "check_exceptions" (topS 20) f20)
    (S17 : Std K "checked_book" (topS 17) f17)
    (S37 : Std K "marked" (topS 37) f37)
    (S38 : Std K "unmarked" (topS 38) f38)
    (S32 : Std K "written" (topS 32) f32)
    (S35 : Std K "is_row" (topS 35) f35)
    (S34 : Std K "check_rows" (topS 34) f34)
    (S36 : Std K "things_of" (topS 36) f36)
    (S33 : Std K "read" (topS 33) f33)
    (S40 : Std K "_law_row" (topS 40) f40)
    (S41 : Std K "_law_taken" (topS 41) f41)
    (S42 : Std K "_law_letters" (topS 42) f42)
    (S43 : Std K "_law_side" (topS 43) f43)
    (S44 : Std K "_law_text" (topS 44) f44)
    (S45 : Std K "_law_rule" (topS 45) f45)
    (S46 : Std K "_law_rules" (topS 46) f46)
    (S47 : Std K "_law_exceptions" (topS 47) f47)
    (S48 : Std K "_law_alike" (topS 48) f48)
    (S49 : Std K "law" (topS 49) f49)
    (z_len : PySem.W.nsIn K mainGlobals "len" = some none)
    (z_range : PySem.W.nsIn K mainGlobals "range" = some none)
    (z_tuple : PySem.W.nsIn K mainGlobals "tuple" = some none)
    (z_list : PySem.W.nsIn K mainGlobals "list" = some none)
    (z_isinstance : PySem.W.nsIn K mainGlobals "isinstance" = some none)
    (z_str : PySem.W.nsIn K mainGlobals "str" = some none)
    (z_all : PySem.W.nsIn K mainGlobals "all" = some none)
    (z_enumerate : PySem.W.nsIn K mainGlobals "enumerate" = some none)
    (z_sorted : PySem.W.nsIn K mainGlobals "sorted" = some none)
    (z_bool : PySem.W.nsIn K mainGlobals "bool" = some none)
    (c_small : PySem.W.nsIn K mainGlobals "SMALL" = some (some (.str "abcdefghijklmnopqrstuvwxyz" t_small)))
    (c_caps : PySem.W.nsIn K mainGlobals "CAPITALS" = some (some (.str "ABCDEFGHIJKLMNOPQRSTUVWXYZ" t_caps)))
    (c_edge : PySem.W.nsIn K mainGlobals "EDGE" = some (some (.str "#" t_edge)))
    (c_mrul : PySem.W.nsIn K mainGlobals "MOST_RULES" = some (some (.int 12 t_mrul)))
    (c_lexc : PySem.W.nsIn K mainGlobals "LONGEST_EXCEPTION" = some (some (.int 8 t_lexc)))
    (c_lrs : PySem.W.nsIn K mainGlobals "LONGEST_RULE_SOUNDS" = some (some (.int 3 t_lrs)))
    (c_lso : PySem.W.nsIn K mainGlobals "LONGEST_SOUNDS" = some (some (.int 36 t_lso)))
    (c_imost_exceptions : PySem.W.nsIn K mainGlobals "MOST_EXCEPTIONS" = some (some (.int 8 t_imost_exceptions)))
    (c_empty : PySem.W.nsIn K mainGlobals "EMPTY" = some (some (.str "-" t_empty)))
    (gSIZES : PySem.W.nsIn K mainGlobals "SIZES" = some (some (.ref aSz)))
    (sz_l : K.lookup aSz = some ⟨.type "dict", none, .dict szE szN, #[]⟩)
    (sz_k : PySem.W.KeysLit w.params szE.toList)
    (sz_o : (aSz == sysModules) = false)
    (sz_v : Paired (fun (e : DictEntry) (kv : Str × V) => (∃ t, e.key = .str kv.1 t) ∧ RelV kv.2 e.val) szE.toList [("letters", .int 2), ("rule", .int 5), ("word", .int 3)])
    (gFOLL : PySem.W.nsIn K mainGlobals "FOLLOWING" = some (some (.ref aFo)))
    (fo_l : K.lookup aFo = some ⟨.type "dict", none, .dict foE foN, #[]⟩)
    (fo_k : PySem.W.KeysLit w.params foE.toList)
    (fo_o : (aFo == sysModules) = false)
    (fo_v : Paired (fun (e : DictEntry) (kv : Str × V) => (∃ t, e.key = .str kv.1 t) ∧ RelV kv.2 e.val) foE.toList [("", .ref aF0), ("letters", .ref aF1), ("rule", .ref aF2), ("word", .ref aF3)])
    (f0_l : K.lookup aF0 = some ⟨.type "tuple", g0d, .seq g0i g0n, g0s⟩)
    (f0_z : g0i.size ≤ sizeLine)
    (f0_r : Vals [V.str "letters"] g0i.toList)
    (f1_l : K.lookup aF1 = some ⟨.type "tuple", g1d, .seq g1i g1n, g1s⟩)
    (f1_z : g1i.size ≤ sizeLine)
    (f1_r : Vals [V.str "rule", V.str "word"] g1i.toList)
    (f2_l : K.lookup aF2 = some ⟨.type "tuple", g2d, .seq g2i g2n, g2s⟩)
    (f2_z : g2i.size ≤ sizeLine)
    (f2_r : Vals [V.str "rule", V.str "word"] g2i.toList)
    (f3_l : K.lookup aF3 = some ⟨.type "tuple", g3d, .seq g3i g3n, g3s⟩)
    (f3_z : g3i.size ≤ sizeLine)
    (f3_r : Vals [V.str "word"] g3i.toList)
    : ∃ fd : FuncData, (∀ (s : Shared) (v : Value), BindsTo s fd ⟨[v], []⟩ [("_law_script", v)]) ∧ ∀ base : Heap, K.In base → base.Ns mainGlobals mg → FnOk l.prog w K mg base CX0 7 fa fd ["_law_script"] (spLaw K) := by
  have e := hfa.symm.trans (PySem.W.mg_of X G S49.ns)
  cases e
  have B : Bn mg := ⟨PySem.W.mg_none_of X G z_len, PySem.W.mg_none_of X G z_range, PySem.W.mg_none_of X G z_tuple, PySem.W.mg_none_of X G z_list, PySem.W.mg_none_of X G z_isinstance, PySem.W.mg_none_of X G z_str, PySem.W.mg_none_of X G z_all, PySem.W.mg_none_of X G z_enumerate, PySem.W.mg_none_of X G z_sorted, PySem.W.mg_none_of X G z_bool⟩
  have C : Cn mg := ⟨⟨_, PySem.W.mg_of X G c_small⟩, ⟨_, PySem.W.mg_of X G c_caps⟩, ⟨_, PySem.W.mg_of X G c_edge⟩, ⟨_, PySem.W.mg_of X G c_mrul⟩, ⟨_, PySem.W.mg_of X G c_lexc⟩, ⟨_, PySem.W.mg_of X G c_lrs⟩, ⟨_, PySem.W.mg_of X G c_lso⟩⟩
  have KI_MOST_EXCEPTIONS : KI mg "MOST_EXCEPTIONS" 8 := ⟨_, PySem.W.mg_of X G c_imost_exceptions⟩
  have NK : NoteK K w mg := { sz := ⟨aSz, szE, szN, PySem.W.mg_of X G gSIZES, sz_l, sz_k, fun h => by rw [← size_tab]; exact kgt_all sz_l sz_k sz_o sz_v (T h)⟩, fo := ⟨aFo, PySem.W.mg_of X G gFOLL, foll_all fo_l fo_k fo_o fo_v (fun _ => .inr ⟨_, _, _, f0_l, rfl, rfl, f0_z, f0_r⟩) (fun _ => .inr ⟨_, _, _, f1_l, rfl, rfl, f1_z, f1_r⟩) (fun _ => .inr ⟨_, _, _, f2_l, rfl, rfl, f2_z, f2_r⟩) (fun _ => .inr ⟨_, _, _, f3_l, rfl, rfl, f3_z, f3_r⟩)⟩ }
  obtain ⟨fdL, FL, kV, dc, pm, an, cd, ct, eL⟩ := S49.fn
  refine ⟨fdL, fun s v => ?_, fun base _ _ => ?_⟩
  · subst eL
    exact .of_eq rfl
  obtain ⟨d26, F26, _⟩ := S26.fn
  have m26 := PySem.W.mg_of X G S26.ns
  have b26 := F26.binds (ps := ["text", "signs", "least", "most"]) fun _ _ _ _ _ _ us hl => match us, hl with | [_, _, _, _], _ => rfl
  have D_is_text : Df l.prog w K mg base "is_text" ["text", "signs", "least", "most"] 1 spIsText := ⟨_, _, ok_isText F26 B, F26.kp, b26, m26⟩
  obtain ⟨d27, F27, _⟩ := S27.fn
  have m27 := PySem.W.mg_of X G S27.ns
  have b27 := F27.binds (ps := ["text"]) fun _ _ _ _ _ _ us hl => match us, hl with | [_], _ => rfl
  have D_is_rising : Df l.prog w K mg base "is_rising" ["text"] 1 spRise := ⟨_, _, ok_rise F27 B, F27.kp, b27, m27⟩
  obtain ⟨d22, F22, _⟩ := S22.fn
  have m22 := PySem.W.mg_of X G S22.ns
  have b22 := F22.binds (ps := ["letters", "signs"]) fun _ _ _ _ _ _ us hl => match us, hl with | [_, _], _ => rfl
  have D_is_beside : Df l.prog w K mg base "is_beside" ["letters", "signs"] 2 spBeside := ⟨_, _, ok_beside F22 B C D_is_text D_is_rising, F22.kp, b22, m22⟩
  obtain ⟨d21, F21, _⟩ := S21.fn
  have m21 := PySem.W.mg_of X G S21.ns
  have b21 := F21.binds (ps := ["letters", "rule"]) fun _ _ _ _ _ _ us hl => match us, hl with | [_, _], _ => rfl
  have D_is_rule : Df l.prog w K mg base "is_rule" ["letters", "rule"] 3 spIsRule := ⟨_, _, ok_isRule F21 B C D_is_text D_is_beside, F21.kp, b21, m21⟩
  obtain ⟨d24, F24, _⟩ := S24.fn
  have m24 := PySem.W.mg_of X G S24.ns
  have b24 := F24.binds (ps := ["letters", "word"]) fun _ _ _ _ _ _ us hl => match us, hl with | [_, _], _ => rfl
  have D_is_excepted : Df l.prog w K mg base "is_excepted" ["letters", "word"] 2 spExcd := ⟨_, _, ok_excd F24 C D_is_text, F24.kp, b24, m24⟩
  obtain ⟨d25, F25, _⟩ := S25.fn
  have m25 := PySem.W.mg_of X G S25.ns
  have b25 := F25.binds (ps := ["sounds"]) fun _ _ _ _ _ _ us hl => match us, hl with | [_], _ => rfl
  have D_is_sounds : Df l.prog w K mg base "is_sounds" ["sounds"] 2 spIsSo := ⟨_, _, ok_isSo F25 C D_is_text, F25.kp, b25, m25⟩
  obtain ⟨d23, F23, _⟩ := S23.fn
  have m23 := PySem.W.mg_of X G S23.ns
  have b23 := F23.binds (ps := ["letters", "pair"]) fun _ _ _ _ _ _ us hl => match us, hl with | [_, _], _ => rfl
  have D_is_exception : Df l.prog w K mg base "is_exception" ["letters", "pair"] 3 spIsExc := ⟨_, _, ok_isExc F23 B D_is_excepted D_is_sounds, F23.kp, b23, m23⟩
  obtain ⟨d18, F18, _⟩ := S18.fn
  have m18 := PySem.W.mg_of X G S18.ns
  have b18 := F18.binds (ps := ["letters"]) fun _ _ _ _ _ _ us hl => match us, hl with | [_], _ => rfl
  have D_check_letters : Df l.prog w K mg base "check_letters" ["letters"] 2 spChL := ⟨_, _, ok_chL F18 C D_is_text D_is_rising, F18.kp, b18, m18⟩
  obtain ⟨d19, F19, _⟩ := S19.fn
  have m19 := PySem.W.mg_of X G S19.ns
  have b19 := F19.binds (ps := ["letters", "rules"]) fun _ _ _ _ _ _ us hl => match us, hl with | [_, _], _ => rfl
  have D_check_rules : Df l.prog w K mg base "check_rules" ["letters", "rules"] 4 spChR := ⟨_, _, ok_chR F19 B C D_is_rule, F19.kp, b19, m19⟩
  obtain ⟨d20, F20, _⟩ := S20.fn
  have m20 := PySem.W.mg_of X G S20.ns
  have b20 := F20.binds (ps := ["letters", "exceptions"]) fun _ _ _ _ _ _ us hl => match us, hl with | [_, _], _ => rfl
  have D_check_exceptions : Df l.prog w K mg base "check_exceptions" ["letters", "exceptions"] 4 spChE := ⟨_, _, ok_chE F20 B KI_MOST_EXCEPTIONS D_is_exception, F20.kp, b20, m20⟩
  obtain ⟨d17, F17, _⟩ := S17.fn
  have m17 := PySem.W.mg_of X G S17.ns
  have b17 := F17.binds (ps := ["book"]) fun _ _ _ _ _ _ us hl => match us, hl with | [_], _ => rfl
  have D_checked_book : Df l.prog w K mg base "checked_book" ["book"] 5 spCh := ⟨_, _, ok_ch F17 B D_check_letters D_check_rules D_check_exceptions, F17.kp, b17, m17⟩
  obtain ⟨d37, F37, _⟩ := S37.fn
  have m37 := PySem.W.mg_of X G S37.ns
  have b37 := F37.binds (ps := ["text"]) fun _ _ _ _ _ _ us hl => match us, hl with | [_], _ => rfl
  have D_marked : Df l.prog w K mg base "marked" ["text"] 1 spMk := ⟨_, _, ok_mk (k := 0) F37 ⟨_, PySem.W.mg_of X G c_empty⟩, F37.kp, b37, m37⟩
  obtain ⟨d38, F38, _⟩ := S38.fn
  have m38 := PySem.W.mg_of X G S38.ns
  have b38 := F38.binds (ps := ["word"]) fun _ _ _ _ _ _ us hl => match us, hl with | [_], _ => rfl
  have D_unmarked : Df l.prog w K mg base "unmarked" ["word"] 1 spUm := ⟨_, _, ok_um (k := 0) F38 ⟨_, PySem.W.mg_of X G c_empty⟩, F38.kp, b38, m38⟩
  obtain ⟨d32, F32, _⟩ := S32.fn
  have m32 := PySem.W.mg_of X G S32.ns
  have b32 := F32.binds (ps := ["book"]) fun _ _ _ _ _ _ us hl => match us, hl with | [_], _ => rfl
  have D_written : Df l.prog w K mg base "written" ["book"] 6 spWt := ⟨_, _, ok_wt F32 D_checked_book D_marked, F32.kp, b32, m32⟩
  obtain ⟨d35, F35, _⟩ := S35.fn
  have m35 := PySem.W.mg_of X G S35.ns
  have b35 := F35.binds (ps := ["words"]) fun _ _ _ _ _ _ us hl => match us, hl with | [_], _ => rfl
  have D_is_row : Df l.prog w K mg base "is_row" ["words"] 1 spIr := ⟨_, _, ok_ir (k := 0) F35 B NK, F35.kp, b35, m35⟩
  obtain ⟨d34, F34, _⟩ := S34.fn
  have m34 := PySem.W.mg_of X G S34.ns
  have b34 := F34.binds (ps := ["rows"]) fun _ _ _ _ _ _ us hl => match us, hl with | [_], _ => rfl
  have D_check_rows : Df l.prog w K mg base "check_rows" ["rows"] 2 spCr := ⟨_, _, ok_cr F34 B NK D_is_row, F34.kp, b34, m34⟩
  obtain ⟨d36, F36, _⟩ := S36.fn
  have m36 := PySem.W.mg_of X G S36.ns
  obtain ⟨d33, F33, _⟩ := S33.fn
  have m33 := PySem.W.mg_of X G S33.ns
  obtain ⟨d40, F40, _⟩ := S40.fn
  have m40 := PySem.W.mg_of X G S40.ns
  have b40 := F40.binds (ps := ["_law_script"]) fun _ _ _ _ _ _ us hl => match us, hl with | [_], _ => rfl
  have D__law_row : Df l.prog w K mg base "_law_row" ["_law_script"] 1 (spRow K) := ⟨_, _, ok_row F40, F40.kp, b40, m40⟩
  obtain ⟨d41, F41, _⟩ := S41.fn
  have m41 := PySem.W.mg_of X G S41.ns
  have b41 := F41.binds (ps := ["_law_row_here", "_law_many"]) fun _ _ _ _ _ _ us hl => match us, hl with | [_, _], _ => rfl
  have D__law_taken : Df l.prog w K mg base "_law_taken" ["_law_row_here", "_law_many"] 1 (spTaken K) := ⟨_, _, ok_taken F41 B.len, F41.kp, b41, m41⟩
  obtain ⟨d42, F42, _⟩ := S42.fn
  have m42 := PySem.W.mg_of X G S42.ns
  have b42 := F42.binds (ps := ["_law_row_here"]) fun _ _ _ _ _ _ us hl => match us, hl with | [_], _ => rfl
  have D__law_letters : Df l.prog w K mg base "_law_letters" ["_law_row_here"] 2 (spLetters K) := ⟨_, _, ok_letters F42 D__law_taken, F42.kp, b42, m42⟩
  obtain ⟨d43, F43, _⟩ := S43.fn
  have m43 := PySem.W.mg_of X G S43.ns
  have b43 := F43.binds (ps := ["_law_row_here", "_law_letters_here"]) fun _ _ _ _ _ _ us hl => match us, hl with | [_, _], _ => rfl
  have D__law_side : Df l.prog w K mg base "_law_side" ["_law_row_here", "_law_letters_here"] 2 (spSide K) := ⟨_, _, ok_side F43 D__law_taken, F43.kp, b43, m43⟩
  obtain ⟨d44, F44, _⟩ := S44.fn
  have m44 := PySem.W.mg_of X G S44.ns
  have b44 := F44.binds (ps := ["_law_row_here", "_law_signs", "_law_fewest", "_law_many"]) fun _ _ _ _ _ _ us hl => match us, hl with | [_, _, _, _], _ => rfl
  have D__law_text : Df l.prog w K mg base "_law_text" ["_law_row_here", "_law_signs", "_law_fewest", "_law_many"] 2 (spText K) := ⟨_, _, ok_text F44 D__law_taken B.len B.rng, F44.kp, b44, m44⟩
  obtain ⟨d45, F45, _⟩ := S45.fn
  have m45 := PySem.W.mg_of X G S45.ns
  have b45 := F45.binds (ps := ["_law_row_here", "_law_letters_here"]) fun _ _ _ _ _ _ us hl => match us, hl with | [_, _], _ => rfl
  have D__law_rule : Df l.prog w K mg base "_law_rule" ["_law_row_here", "_law_letters_here"] 3 (spRule K) := ⟨_, _, ok_rule F45 D__law_taken D__law_side D__law_text, F45.kp, b45, m45⟩
  obtain ⟨d46, F46, _⟩ := S46.fn
  have m46 := PySem.W.mg_of X G S46.ns
  have b46 := F46.binds (ps := ["_law_row_here", "_law_letters_here", "_law_most"]) fun _ _ _ _ _ _ us hl => match us, hl with | [_, _, _], _ => rfl
  have D__law_rules : Df l.prog w K mg base "_law_rules" ["_law_row_here", "_law_letters_here", "_law_most"] 4 (spRules K) := ⟨_, _, ok_rules F46 D__law_taken D__law_rule B.rng B.tup, F46.kp, b46, m46⟩
  obtain ⟨d47, F47, _⟩ := S47.fn
  have m47 := PySem.W.mg_of X G S47.ns
  have b47 := F47.binds (ps := ["_law_row_here", "_law_letters_here", "_law_most"]) fun _ _ _ _ _ _ us hl => match us, hl with | [_, _, _], _ => rfl
  have D__law_exceptions : Df l.prog w K mg base "_law_exceptions" ["_law_row_here", "_law_letters_here", "_law_most"] 3 (spLE4 K) := ⟨_, _, ok_LE4 F47 B D__law_taken D__law_text, F47.kp, b47, m47⟩
  obtain ⟨d48, F48, _⟩ := S48.fn
  have m48 := PySem.W.mg_of X G S48.ns
  have b48 := F48.binds (ps := ["_law_found", "_law_due"]) fun _ _ _ _ _ _ us hl => match us, hl with | [_, _], _ => rfl
  have D__law_alike : Df l.prog w K mg base "_law_alike" ["_law_found", "_law_due"] 4 (spAl K 4) := ⟨_, _, al_all F48 b48 m48 B 4, F48.kp, b48, m48⟩
  have b36 := F36.binds (ps := ["rows", "kind"]) fun _ _ _ _ _ _ us hl => match us, hl with | [_, _], _ => rfl
  have b33 := F33.binds (ps := ["text"]) fun _ _ _ _ _ _ us hl => match us, hl with | [_], _ => rfl
  have D_read : Df l.prog w K mg base "read" ["text"] 6 spRd := ⟨_, _, ok_rd F33 B D_check_rows D_unmarked (fun fr => ok_to fr F36 B D_unmarked) F36.kp b36 m36 D_checked_book, F33.kp, b33, m33⟩
  exact ok_law FL B D__law_row D__law_letters D__law_rules D__law_exceptions D_written D_read D__law_alike
end Say
open PySem PySem.W PyProof.Rows
set_option maxRecDepth 100000 in
set_option maxHeartbeats 0 in
theorem PySem.Challenge.cw_saylore_k23_written_and_read_holds : PySem.Challenge.rw_saylore_k23_written_and_read.Holds := by
  w_on; o_law; k_head; (case hw => w_witness2)
  k_fill
  refine L2.walk_of (l := PySem.Challenge.rw_saylore_k23_written_and_read) (n := 63) (k := 7) (x := "_law_script") (CX := fun _ => L2.CX0) (sp := fun w => Say.spLaw _) rfl (by decide) rfl ⟨rfl, by decide, by decide⟩ (fun w h Y => PySem.W.kIn_of Y) ?F (fun _ _ a ns hl _ hS => ⟨a, ns, rfl, hS, hl, fun _ => rfl⟩) (fun _ _ _ _ _ h => h)
  case F =>
    intro w mg fa h KX G hmg
    refine' Say.all_ok KX G hmg (Say.std_mk ?a26 ?l26 ?c26 ?k26) (Say.std_mk ?a27 ?l27 ?c27 ?k27) (Say.std_mk ?a22 ?l22 ?c22 ?k22) (Say.std_mk ?a21 ?l21 ?c21 ?k21) (Say.std_mk ?a24 ?l24 ?c24 ?k24) (Say.std_mk ?a25 ?l25 ?c25 ?k25) (Say.std_mk ?a23 ?l23 ?c23 ?k23) (Say.std_mk ?a18 ?l18 ?c18 ?k18) (Say.std_mk ?a19 ?l19 ?c19 ?k19) (Say.std_mk ?a20 ?l20 ?c20 ?k20) (Say.std_mk ?a17 ?l17 ?c17 ?k17) (Say.std_mk ?a37 ?l37 ?c37 ?k37) (Say.std_mk ?a38 ?l38 ?c38 ?k38) (Say.std_mk ?a32 ?l32 ?c32 ?k32) (Say.std_mk ?a35 ?l35 ?c35 ?k35) (Say.std_mk ?a34 ?l34 ?c34 ?k34) (Say.std_mk ?a36 ?l36 ?c36 ?k36) (Say.std_mk ?a33 ?l33 ?c33 ?k33) (Say.std_mk ?a40 ?l40 ?c40 ?k40) (Say.std_mk ?a41 ?l41 ?c41 ?k41) (Say.std_mk ?a42 ?l42 ?c42 ?k42) (Say.std_mk ?a43 ?l43 ?c43 ?k43) (Say.std_mk ?a44 ?l44 ?c44 ?k44) (Say.std_mk ?a45 ?l45 ?c45 ?k45) (Say.std_mk ?a46 ?l46 ?c46 ?k46) (Say.std_mk ?a47 ?l47 ?c47 ?k47) (Say.std_mk ?a48 ?l48 ?c48 ?k48) (Say.std_mk ?a49 ?l49 ?c49 ?k49) ?z_len ?z_range ?z_tuple ?z_list ?z_isinstance ?z_str ?z_all ?z_enumerate ?z_sorted ?z_bool ?c_small ?c_caps ?c_edge ?c_mrul ?c_lexc ?c_lrs ?c_lso ?c_imost_exceptions ?c_empty ?gSIZES ?sz_l ?sz_k ?sz_o ?sz_v ?gFOLL ?fo_l ?fo_k ?fo_o ?fo_v ?f0_l ?f0_z ?f0_r ?f1_l ?f1_z ?f1_r ?f2_l ?f2_z ?f2_r ?f3_l ?f3_z ?f3_r
    (case z_len => k_is); (case z_range => k_is); (case z_tuple => k_is); (case z_list => k_is); (case z_isinstance => k_is); (case z_str => k_is)
    (case z_all => k_is); (case z_enumerate => k_is); (case z_sorted => k_is); (case z_bool => k_is); (case c_small => k_is); (case c_caps => k_is)
    (case c_edge => k_is); (case c_mrul => k_is); (case c_lexc => k_is); (case c_lrs => k_is); (case c_lso => k_is); (case c_imost_exceptions => k_is)
    (case c_empty => k_is); (case gSIZES => k_is); (case gFOLL => k_is); (case a26 => k_is); (case l26 => k_is); (case c26 => k_is)
    (case k26 => k_is); (case a27 => k_is); (case l27 => k_is); (case c27 => k_is); (case k27 => k_is); (case a22 => k_is)
    (case l22 => k_is); (case c22 => k_is); (case k22 => k_is); (case a21 => k_is); (case l21 => k_is); (case c21 => k_is)
    (case k21 => k_is); (case a24 => k_is); (case l24 => k_is); (case c24 => k_is); (case k24 => k_is); (case a25 => k_is)
    (case l25 => k_is); (case c25 => k_is); (case k25 => k_is); (case a23 => k_is); (case l23 => k_is); (case c23 => k_is)
    (case k23 => k_is); (case a18 => k_is); (case l18 => k_is); (case c18 => k_is); (case k18 => k_is); (case a19 => k_is)
    (case l19 => k_is); (case c19 => k_is); (case k19 => k_is); (case a20 => k_is); (case l20 => k_is); (case c20 => k_is)
    (case k20 => k_is); (case a17 => k_is); (case l17 => k_is); (case c17 => k_is); (case k17 => k_is); (case a37 => k_is)
    (case l37 => k_is); (case c37 => k_is); (case k37 => k_is); (case a38 => k_is); (case l38 => k_is); (case c38 => k_is)
    (case k38 => k_is); (case a32 => k_is); (case l32 => k_is); (case c32 => k_is); (case k32 => k_is); (case a35 => k_is)
    (case l35 => k_is); (case c35 => k_is); (case k35 => k_is); (case a34 => k_is); (case l34 => k_is); (case c34 => k_is)
    (case k34 => k_is); (case a36 => k_is); (case l36 => k_is); (case c36 => k_is); (case k36 => k_is); (case a33 => k_is)
    (case l33 => k_is); (case c33 => k_is); (case k33 => k_is); (case a40 => k_is); (case l40 => k_is); (case c40 => k_is)
    (case k40 => k_is); (case a41 => k_is); (case l41 => k_is); (case c41 => k_is); (case k41 => k_is); (case a42 => k_is)
    (case l42 => k_is); (case c42 => k_is); (case k42 => k_is); (case a43 => k_is); (case l43 => k_is); (case c43 => k_is)
    (case k43 => k_is); (case a44 => k_is); (case l44 => k_is); (case c44 => k_is); (case k44 => k_is); (case a45 => k_is)
    (case l45 => k_is); (case c45 => k_is); (case k45 => k_is); (case a46 => k_is); (case l46 => k_is); (case c46 => k_is)
    (case k46 => k_is); (case a47 => k_is); (case l47 => k_is); (case c47 => k_is); (case k47 => k_is); (case a48 => k_is)
    (case l48 => k_is); (case c48 => k_is); (case k48 => k_is); (case a49 => k_is); (case l49 => k_is); (case c49 => k_is)
    (case k49 => k_is); (case sz_l => k_is); (case sz_k => k_keys); (case sz_o => kernel_rfl); (case sz_v => exact .cons ⟨⟨_, rfl⟩, ⟨_, rfl⟩⟩ (.cons ⟨⟨_, rfl⟩, ⟨_, rfl⟩⟩ (.cons ⟨⟨_, rfl⟩, ⟨_, rfl⟩⟩ .nil))); (case fo_l => k_is)
    (case fo_k => k_keys); (case fo_o => kernel_rfl); (case fo_v => exact .cons ⟨⟨_, rfl⟩, rfl⟩ (.cons ⟨⟨_, rfl⟩, rfl⟩ (.cons ⟨⟨_, rfl⟩, rfl⟩ (.cons ⟨⟨_, rfl⟩, rfl⟩ .nil)))); (case f0_l => k_is); (case f0_z => decide +kernel); (case f0_r => exact .cons ⟨_, rfl⟩ .nil)
    (case f1_l => k_is); (case f1_z => decide +kernel); (case f1_r => exact .cons ⟨_, rfl⟩ (.cons ⟨_, rfl⟩ .nil)); (case f2_l => k_is); (case f2_z => decide +kernel); (case f2_r => exact .cons ⟨_, rfl⟩ (.cons ⟨_, rfl⟩ .nil))
    (case f3_l => k_is); (case f3_z => decide +kernel); (case f3_r => exact .cons ⟨_, rfl⟩ .nil)
