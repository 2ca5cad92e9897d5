import PyProof.Rows.All
import Wide.All
import OpenK.AllK
import Wide.FinOn
import HandS.ForMost
import HandS.IsInst
import HandS.Walk
import HandS.SortRule
import HandS.DictTup
import HandS.ListItems
import HandS.Conv
import HandS.More
import KE.GoesEnum
import KE.GoesMore
import PySem.Challenge.RW_saylore_k21_batches
import HandS.Dict
import HandS.Star
import HandS.ForExc
import HandS.FStr
import HandS.ExcInit
import KE.KExcSuper
import KE.KDictPairs
import HandS.TupAny
import HandS.SetFor
import HandS.Steps
import HandS.MakeKwOnly
import HandS.Finally
import HandS.RaiseFrom
import HandS.ExcCtx
import HandS.WordsExc
import HandS.ExcIs
import HandS.ExcField
import KE.KExcIs
import HandS.Lambda
import HandS.EndOwn
import KE.KNestM
import KE.RegKSuper
import PyProof.RulesMatch
import PyProof.Rows.MatchSeqLen
import PyProof.Rows.TupIter
import HandS.SuiteRaise
import HandS.WordsDict
import HandS.Small
import KE.KDflt
set_option Elab.async false
set_option linter.all false
set_option maxRecDepth 100000
set_option maxHeartbeats 16000000
namespace Say
open PySem PySem.Spec PyProof.Rows L2
/-! ### the text by places -/
def topS (i : Nat) : Stmt := PySem.Challenge.pw_saylore_k21_batches.main.body.getD i (.Pass ⟨0, 0, 0, 0⟩)
/-! ### texts as lists of signs -/
abbrev T (l : List Nat) : Str := ⟨l.toArray⟩
theorem T_list (z : Str) : T z.cps.toList = z := by
  cases z; rfl
@[simp] theorem T_cps (l : List Nat) : (T l).cps.toList = l := rfl
theorem T_len (l : List Nat) : (T l).length = l.length := by
  show l.toArray.size = l.length
  simp
theorem T_inj {a b : List Nat} (h : T a = T b) : a = b := by
  have := congrArg (fun z : Str => z.cps.toList) h
  exact this
/-! ### heaps -/
/-- all that was tracked is as it was, but at r -/
def Stp (r : Addr) (H H' : Hp) : Prop := ∀ b o, H b = some o → b ≠ r → H' b = some o
theorem Stp.refl (r : Addr) (H : Hp) : Stp r H H := fun _ _ h _ => h
theorem Stp.trans {r : Addr} {H H1 H2 : Hp} (a : Stp r H H1) (b : Stp r H1 H2) : Stp r H H2 := fun c o h n => b c o (a c o h n) n
theorem Stp.of {r : Addr} {H H' : Hp} (e : Same H H') : Stp r H H' := fun b o h _ => e b o h
theorem Stp.seq {K : PySem.W.Frag} {r a : Addr} {H H' : Hp} {xs : List V} (e : Stp r H H') (n : a ≠ r) (h : SqL K H a xs) : SqL K H' a xs := by
  rcases h with (h | ⟨o, h⟩) | h
  · exact .inl (.inl (e _ _ h n))
  · exact .inl (.inr ⟨o, e _ _ h n⟩)
  · exact .inr h
theorem same_new {H : Hp} {p : Addr} (h : H p = none) (o : HO) : Same H (upd H p o) := fun b u q => by rw [upd_ne (ne_of_none q h)]; exact q
theorem stp_at {r : Addr} {H : Hp} (o : HO) : Stp r H (upd H r o) := fun b u q n => by rw [upd_ne n]; exact q
/-- tuples stay (frozen ones: as they were made) -/
def KT (H H' : Hp) : Prop := (∀ t xs, H t = some (.tup xs) → H' t = some (.tup xs)) ∧ ∀ t o xs, H t = some (.frz o (.tup xs)) → H' t = some (.frz o (.tup xs))
theorem KT.by {H H' : Hp} (f : ∀ t u, H t = some u → ((∃ xs, u = .tup xs) ∨ ∃ o xs, u = .frz o (.tup xs)) → H' t = some u) : KT H H' := ⟨fun t xs h => f t _ h (.inl ⟨xs, rfl⟩), fun t o xs h => f t _ h (.inr ⟨o, xs, rfl⟩)⟩
theorem KT.refl (H : Hp) : KT H H := ⟨fun _ _ h => h, fun _ _ _ h => h⟩
theorem KT.trans {H H1 H2 : Hp} (a : KT H H1) (b : KT H1 H2) : KT H H2 := ⟨fun t xs h => b.1 t xs (a.1 t xs h), fun t o xs h => b.2 t o xs (a.2 t o xs h)⟩
theorem KT.of {H H' : Hp} (e : Same H H') : KT H H' := ⟨fun t xs h => e t _ h, fun t o xs h => e t _ h⟩
/-- the row that is drawn from: the script at a -/
structure RowAt (K : PySem.W.Frag) (H : Hp) (r a : Addr) (ns : List Int) : Prop where
  row : ∃ i c m : Int, H r = some (.lst [.ref a, .int i, .int c, .int m]) ∧ 0 ≤ i ∧ 0 ≤ m ∧ m < 2147483647
  scr : SqL K H a (ns.map V.int)
  le : ns.length ≤ 63
theorem ints_ne {ns : List Int} {a : Addr} {l : List V} : ns.map V.int ≠ V.ref a :: l := by
  cases ns with
  | nil => intro z; cases z
  | cons x r => intro z; cases z
theorem Stp.scr {K : PySem.W.Frag} {r a : Addr} {H H' : Hp} {ns : List Int} {l : List V} (e : Stp r H H') (hr : H r = some (.lst (.ref a :: l))) (h : SqL K H a (ns.map V.int)) : SqL K H' a (ns.map V.int) := by
  rcases h with (h | ⟨o, h⟩) | h
  · refine .inl (.inl (e _ _ h fun z => ?_))
    subst z
    rw [hr] at h
    exact ints_ne (HO.lst.inj (Option.some.inj h)).symm
  · refine .inl (.inr ⟨o, e _ _ h fun z => ?_⟩)
    subst z
    rw [hr] at h
    cases h
  · exact .inr h
theorem RowAt.stp {K : PySem.W.Frag} {H H' : Hp} {r a : Addr} {ns : List Int} (R : RowAt K H r a ns) (e : Same H H') : RowAt K H' r a ns := by
  obtain ⟨⟨i, c, m, h, q⟩, s, l⟩ := R
  exact ⟨⟨i, c, m, e _ _ h, q⟩, e.seq s, l⟩
theorem RowAt.kt {K : PySem.W.Frag} {H H' : Hp} {r a : Addr} {ns : List Int} (R : RowAt K H r a ns) (e : Stp r H H') : KT H H' := KT.by fun t u h hu => by
  obtain ⟨⟨i, c, m, q, _⟩, _⟩ := R
  exact e t _ h (ne_of h q (by rcases hu with ⟨_, rfl⟩ | ⟨_, _, rfl⟩ <;> (intro z; cases z)))
theorem RowAt.put {K : PySem.W.Frag} {H : Hp} {r a : Addr} {ns : List Int} (R : RowAt K H r a ns) {i c m : Int} (h0 : 0 ≤ i) (h1 : 0 ≤ m) (h2 : m < 2147483647) : RowAt K (upd H r (.lst [.ref a, .int i, .int c, .int m])) r a ns := by
  obtain ⟨⟨i', c', m', q, _⟩, s, l⟩ := R
  exact ⟨⟨i, c, m, upd_same, h0, h1, h2⟩, (stp_at _).scr q s, l⟩
theorem small {n : Nat} (h : n ≤ 16000000) : n ≤ sizeLine := Nat.le_trans h (by decide)
theorem smallM {n : Nat} (h : n ≤ 16000000) : n < sizeLine := Nat.lt_of_le_of_lt h (by decide)
/-- law's promise -/
def spLaw (K : PySem.W.Frag) : Sp := fun vs H Q _ => ∃ (a : Addr) (ns : List Int), vs = [.ref a] ∧ SqL K H a (ns.map V.int) ∧ ns.length ≤ 63 ∧ ∀ H', Q (.bl true) H'
/-- _law_taken -/
def spTaken (K : PySem.W.Frag) : Sp := fun vs H Q _ => ∃ (r a : Addr) (ns : List Int) (n : Int), vs = [.ref r, .int n] ∧ RowAt K H r a ns ∧ 0 < n ∧ n < 100000 ∧
  ∀ (k : Int) (H' : Hp), 0 ≤ k → k < n → Stp r H H' → RowAt K H' r a ns → Q (.int k) H'
end Say
namespace Say
open PySem PySem.Spec PyProof.Rows L2
theorem T_app (a b : List Nat) : T a ++ T b = T (a ++ b) := TL.ext_tl (by rw [TL.tl_append])
theorem hash_eq : ("#" : Str) = T [35] := by decide +kernel
theorem nil_eq : ("" : Str) = T [] := by decide +kernel
theorem joinL_nil : ∀ ls : List (List Nat), TL.joinL [] ls = ls.flatten
  | [] => rfl
  | [p] => by simp [TL.joinL]
  | p :: q :: r => by
    show p ++ ([] ++ TL.joinL [] (q :: r)) = _
    rw [joinL_nil (q :: r)]
    simp
theorem join_nil (ls : List (List Nat)) : Txt.join (T []) (ls.map T) = T ls.flatten := by
  refine TL.ext_tl ?_
  rw [TL.join_eq, TL.tl_join]
  show TL.joinL [] ((ls.map T).map TL.tl) = ls.flatten
  rw [List.map_map, ← joinL_nil]
  congr 1
  exact List.map_id' ls
theorem map_single : ∀ l : List Nat, (l.map fun c => [c]).flatten = l
  | [] => rfl
  | c :: r => by
    show [c] ++ (r.map fun c => [c]).flatten = c :: r
    rw [map_single r]; rfl
/-- the row's own list -/
def RowIn (H : Hp) (r a : Addr) : Prop := ∃ i c m : Int, H r = some (.lst [.ref a, .int i, .int c, .int m]) ∧ 0 ≤ i ∧ 0 ≤ m ∧ m < 2147483647
theorem RowAt.in {K : PySem.W.Frag} {H : Hp} {r a : Addr} {ns : List Int} (R : RowAt K H r a ns) : RowIn H r a := R.row
theorem RowAt.of {K : PySem.W.Frag} {H H' : Hp} {r a : Addr} {ns : List Int} (R : RowAt K H r a ns) (e : Stp r H H') (w : RowIn H' r a) : RowAt K H' r a ns := by
  obtain ⟨⟨i, c, m, q, _⟩, s, l⟩ := R
  exact ⟨w, e.scr q s, l⟩
theorem RowIn.upd {H : Hp} {r a D : Addr} {o : HO} (w : RowIn H r a) (n : r ≠ D) : RowIn (upd H D o) r a := by
  obtain ⟨i, c, m, q, b⟩ := w
  exact ⟨i, c, m, by rw [upd_ne n]; exact q, b⟩
theorem RowAt.nw {K : PySem.W.Frag} {H : Hp} {r a D : Addr} {ns : List Int} (R : RowAt K H r a ns) (h : H D = none) : r ≠ D := by
  obtain ⟨⟨i, c, m, q, _⟩, s, l⟩ := R
  exact ne_of_none q h
theorem Stp.put {r D : Addr} {H H' : Hp} (e : Stp r H H') (h : H D = none) (o : HO) : Stp r H (upd H' D o) := fun b u q n => by
  rw [upd_ne (ne_of_none q h)]
  exact e b u q n
theorem Stp.one {r D : Addr} {H H' : Hp} {o : HO} (e : Stp r H H') (h : H D = some o) (n : r ≠ D) : H' D = some o := e _ _ h (Ne.symm n)
/-- signs of a text, a list of one-sign texts -/
def sg (l : List Nat) : List V := l.map fun c => V.str (T [c])
theorem sg_map (l : List Nat) : sg l = ((l.map fun c => [c]).map T).map V.str := by
  unfold sg
  rw [List.map_map, List.map_map]
  rfl
theorem sg_len (l : List Nat) : (sg l).length = l.length := by unfold sg; rw [List.length_map]
theorem sum_ones : ∀ l : List Nat, (((l.map fun c => [c]).map T).map (fun z : Str => z.length)).sum = l.length
  | [] => rfl
  | c :: r => by
    show 1 + (((r.map fun c => [c]).map T).map (fun z : Str => z.length)).sum = r.length + 1
    rw [sum_ones r]; omega
end Say
namespace Say
open PySem PySem.Spec PyProof.Rows L2
/-- a def that stands at the module's name and keeps its promise -/
def Df (P : Program) (w : World) (K : PySem.W.Frag) (mg : Str → Option Value) (base : Heap) (x : Str) (ps : List Str) (k : Nat) (sp : Sp) : Prop :=
  ∃ f fd, FnOk P w K mg base CX0 k f fd ps sp ∧ PySem.W.keepIn K (.ref f) = true ∧ Binds K fd ps [] ∧ mg x = some (.ref f)
theorem hash_app (L : List Nat) : (Str.ofString "#" ++ T L) = T (35 :: L) := by
  rw [show Str.ofString "#" = T [35] from hash_eq, T_app]
  rfl
theorem app_hash (L : List Nat) : (T L ++ Str.ofString "#") = T (L ++ [35]) := by
  rw [show Str.ofString "#" = T [35] from hash_eq, T_app]
theorem T_at {l : List Nat} {i c : Nat} (h : (T l).cps[i]? = some c) : l[i]? = some c := by
  have h : l.toArray[i]? = some c := h
  rw [List.getElem?_toArray] at h
  exact h
theorem T_at' {l : List Nat} {i c : Nat} (h : l[i]? = some c) : (T l).cps[i]? = some c := by
  show l.toArray[i]? = some c
  rw [List.getElem?_toArray]
  exact h
theorem T_size (l : List Nat) : (T l).cps.size = l.length := by
  show l.toArray.size = _
  simp
theorem take_next {l : List Nat} {i c : Nat} (h : l[i]? = some c) : l.take (i + 1) = l.take i ++ [c] := by
  rw [List.take_add_one, h]; rfl
theorem sg_app (a : List Nat) (c : Nat) : sg a ++ [V.str (T [c])] = sg (a ++ [c]) := by
  unfold sg
  rw [List.map_append]
  rfl
theorem len_hash : (Str.ofString "#").length = 1 := by decide +kernel
end Say
namespace Say
open PySem PySem.Spec PyProof.Rows L2
theorem at_list {α : Type} {l : List α} {z : Int} (h : z.toNat < l.length) (h0 : 0 ≤ z) : atI l z = some l[z.toNat] := by
  have q : l[z.toNat]? = some l[z.toNat] := List.getElem?_eq_getElem h
  have := atI_nat q
  rwa [show ((z.toNat : Nat) : Int) = z by omega] at this
end Say
namespace Say
open PySem PySem.Spec PyProof.Rows L2
/-! ### the data -/
structure Rule where
  ah : List Nat
  ow : List Nat
  be : List Nat
  so : List Nat
def Rule.vs (ρ : Rule) : List V := [.str (T ρ.ah), .str (T ρ.ow), .str (T ρ.be), .str (T ρ.so)]
/-- a rule of a book of the letters L -/
structure RuleOk (L : List Nat) (ρ : Rule) : Prop where
  ah : ρ.ah.Sublist (35 :: L)
  ow : ∀ c ∈ ρ.ow, c ∈ L
  o1 : 1 ≤ ρ.ow.length
  o2 : ρ.ow.length ≤ 2
  be : ρ.be.Sublist (35 :: L)
  so : ∀ c ∈ ρ.so, 65 ≤ c ∧ c ≤ 90
  s3 : ρ.so.length ≤ 3
/-- the tuple at R holds the rules -/
def RulesAt (H : Hp) (R : Addr) (rs : List Rule) : Prop := ∃ ts : List Addr, H R = some (.tup (ts.map V.ref)) ∧ Paired (fun t ρ => H t = some (.tup (Rule.vs ρ))) ts rs
theorem paired_mono {α β : Type} {F G : α → β → Prop} (h : ∀ x y, F x y → G x y) : ∀ {xs : List α} {ys : List β}, Paired F xs ys → Paired G xs ys
  | _, _, .nil => .nil
  | _, _, .cons a b => .cons (h _ _ a) (paired_mono h b)
theorem paired_app {α β : Type} {F : α → β → Prop} : ∀ {xs : List α} {ys : List β} {xs' : List α} {ys' : List β}, Paired F xs ys → Paired F xs' ys' → Paired F (xs ++ xs') (ys ++ ys')
  | _, _, _, _, .nil, h => h
  | _, _, _, _, .cons a b, h => .cons a (paired_app b h)
theorem paired_len {α β : Type} {F : α → β → Prop} : ∀ {xs : List α} {ys : List β}, Paired F xs ys → xs.length = ys.length
  | _, _, .nil => rfl
  | _, _, .cons a b => by simp [paired_len b]
theorem paired_at {α β : Type} {F : α → β → Prop} : ∀ {xs : List α} {ys : List β}, Paired F xs ys → ∀ {i : Nat} {x : α}, xs[i]? = some x → ∃ y, ys[i]? = some y ∧ F x y
  | _, _, .nil, i, x, h => by cases h
  | _, _, .cons r t, 0, x, h => by
    have e := Option.some.inj h
    subst e
    exact ⟨_, rfl, r⟩
  | _, _, .cons r t, i + 1, x, h => paired_at t h
theorem paired_at' {α β : Type} {F : α → β → Prop} : ∀ {xs : List α} {ys : List β}, Paired F xs ys → ∀ {i : Nat} {y : β}, ys[i]? = some y → ∃ x, xs[i]? = some x ∧ F x y
  | _, _, .nil, i, x, h => by cases h
  | _, _, .cons r t, 0, x, h => by
    have e := Option.some.inj h
    subst e
    exact ⟨_, rfl, r⟩
  | _, _, .cons r t, i + 1, x, h => paired_at' t h
theorem RulesAt.kt {H H' : Hp} {R : Addr} {rs : List Rule} (h : RulesAt H R rs) (e : KT H H') : RulesAt H' R rs := by
  obtain ⟨ts, h1, h2⟩ := h
  exact ⟨ts, e.1 _ _ h1, paired_mono (fun t ρ q => e.1 _ _ q) h2⟩
theorem Stp.kt {r a : Addr} {H H' : Hp} (e : Stp r H H') (w : RowIn H r a) : KT H H' := KT.by fun t u h hu => by
  obtain ⟨i, c, m, q, _⟩ := w
  exact e t _ h (ne_of h q (by rcases hu with ⟨_, rfl⟩ | ⟨_, _, rfl⟩ <;> (intro z; cases z)))
theorem kt_new {H : Hp} {D : Addr} {o : HO} (h : H D = none) : KT H (upd H D o) := KT.of (same_new h o)
theorem kt_upd {H : Hp} {D : Addr} {l : List V} {o : HO} (h : H D = some (.lst l)) : KT H (upd H D o) := KT.by fun t u q hu => by
  rw [upd_ne (ne_of q h (by rcases hu with ⟨_, rfl⟩ | ⟨_, _, rfl⟩ <;> (intro z; cases z)))]
  exact q
end Say
namespace Say
open PySem PySem.Spec PyProof.Rows L2
/-- the built-in names that the text leaves alone -/
structure Bn (mg : Str → Option Value) : Prop where
  len : mg "len" = none
  rng : mg "range" = none
  tup : mg "tuple" = none
  lst : mg "list" = none
  isi : mg "isinstance" = none
  str : mg "str" = none
  all : mg "all" = none
  enu : mg "enumerate" = none
  srt : mg "sorted" = none
  bool : mg "bool" = none
def isText (l S : List Nat) (lo hi : Nat) : Bool := decide (lo ≤ l.length) && (decide (l.length ≤ hi) && l.all fun c => decide (c ∈ S))
theorem isText_of {l S : List Nat} {lo hi : Nat} (h1 : lo ≤ l.length) (h2 : l.length ≤ hi) (h3 : ∀ c ∈ l, c ∈ S) : isText l S lo hi = true := by
  unfold isText
  rw [decide_eq_true h1, decide_eq_true h2]
  simp only [Bool.true_and, List.all_eq_true, decide_eq_true_eq]
  exact h3
/-- each sign is more than the one ahead -/
def rises : List Nat → Bool
  | a :: b :: r => decide (a < b) && rises (b :: r)
  | _ => true
end Say
namespace Say
open PySem PySem.Spec PyProof.Rows L2
theorem atI_of {α : Type} {xs : List α} {z : Int} {j : Nat} {v : α} (h : xs[j]? = some v) (e : z = (j : Int)) : atI xs z = some v := by
  rw [e]
  exact atI_nat h
end Say
namespace Say
open PySem PySem.Spec PyProof.Rows L2
section
variable {P : Program} {w : World} {K : PySem.W.Frag} {mg : Str → Option Value} {base : Heap}
abbrev sIsText : Stmt := topS 40
theorem scIsText : FnScope ["text", "signs", "least", "most", "sign"] ["text", "signs", "least", "most"] (defScope sIsText) := ⟨rfl, rfl, rfl, by decide +kernel, rfl, by decide +kernel, by decide +kernel⟩
def spIsText : Sp := fun vs H Q _ => ∃ (l S : List Nat) (lo hi : Nat), vs = [.str (T l), .str (T S), .int lo, .int hi] ∧ l.length ≤ 100 ∧
  ∀ (H' : Hp), Same H H' → Q (.bl (isText l S lo hi)) H'
theorem ok_isText {f : Addr} {fd : FuncData} (F : Fun K "is_text" "is_text" sIsText f fd) (B : Bn mg) :
    FnOk P w K mg base CX0 1 f fd ["text", "signs", "least", "most"] spIsText := by
  refine F.ok scIsText (fun vs H Q E h => ?_) (fun cdv A outer s H vs Q E hr h => ?_)
  · obtain ⟨l, S, lo, hi, rfl, _⟩ := h
    rfl
  · obtain ⟨l, S, lo, hi, rfl, hz, q⟩ := h
    refine ⟨_, pss_cons (ps_if (PW.pt (pw_or (pt_not (pt_val (pe_callB call_isi (by rfl) B.isi (by decide +kernel) (pa_cons (pv 0) (pa_cons (pe_bltn (v := .ty "str") rfl B.str (by decide +kernel) rfl) pa_nil)))))
          (pw_or1 (pt_not (pt_chain op_le op_le (pv 2) (pe_callB call_len_str (by rfl) B.len PySem.boot_len (pa_cons (pv 0) pa_nil)) (pv 3)))))) (pss_one (ps_ret pe_bl)) pss_nil)
      (pss_one (ps_ret (pe_callB (cr_all rfl) (by rfl) B.all (by decide +kernel) (pa_cons (pe_lc (own := [("sign", 4)]) (g := gName 4) rfl scIsText.nd (pi_str (pv 0))
        (blkOk_by (N := ["text", "signs", "least", "most", "sign"]) (sc := defScope sIsText) (by decide +kernel)) (fun _ _ _ _ _ => pg_name (i := 4) scIsText.nd rfl (.inl rfl))
        (fun _ _ _ _ _ => pts_nil) (fun _ _ _ _ _ => pe_cmpR op_in_sign (pv 4) (pv 1) rfl)) pa_nil)))), ?_⟩
    refine ⟨_, rfl, _, _, .type "str", _, true, rfl, ClsV.ty _, .base (.str _), kit_ty (by decide +kernel), true, rfl, ?_⟩
    refine iteF ?_
    have hlen : (T l).length ≤ sizeLine := by rw [T_len]; exact small (by omega)
    refine ⟨_, rfl, _, rfl, _, rfl, hlen, _, _, rfl, rfl, _, rfl, ?_⟩
    have eT : (lo : Int) ≤ ((T l).length : Int) ↔ lo ≤ l.length := by rw [T_len]; omega
    have eU : ((T l).length : Int) ≤ (hi : Int) ↔ l.length ≤ hi := by rw [T_len]; omega
    refine ite2 (fun c1 => ?_) (fun c1 => ?_)
    · refine ⟨_, rfl, _, _, rfl, rfl, _, rfl, ?_⟩
      have c1' := eT.mp (of_decide_eq_true c1)
      by_cases c2 : ((T l).length : Int) ≤ (hi : Int)
      · rw [decide_eq_true c2]
        have c2' := eU.mp c2
        refine iteF ?_
        refine ⟨_, rfl, T l, rfl, fun D hD => ?_⟩
        refine lc_it (walk_str) (fun i H2 => H2 D = some (.lst (((l.take i).map fun c => decide (c ∈ S)).map V.bl)) ∧ Same H H2) ?_ (fun _ _ _ _ => trivial) ?_ ?_
        · exact ⟨upd_same, same_new hD _⟩
        · rintro i x H2 H2' hi' ⟨e1, e2⟩ ⟨rfl, c, hc, rfl⟩
          have hc := T_at hc
          refine ⟨rfl, ?_⟩
          refine ⟨_, rfl, _, rfl, c, T S, rfl, rfl, _, e1, ?_, ?_, ?_⟩
          · rw [List.length_map, List.length_map, List.length_take]
            exact small1000 (by omega)
          · rw [upd_same, take_next hc, List.map_append, List.map_append]
            rfl
          · exact fun b u q => by
              rw [upd_ne (ne_of_none q hD)]
              exact e2 b u q
        · rintro H2 ⟨e1, e2⟩
          rw [T_size, List.take_length] at e1
          refine ⟨D, _, rfl, .inl (.inl e1), ?_⟩
          have := q H2 e2
          unfold isText at this
          rw [decide_eq_true c1', decide_eq_true c2', Bool.true_and, Bool.true_and] at this
          rw [List.all_map]
          exact this
      · rw [decide_eq_false c2]
        refine iteT ?_
        have := q H (Same.refl H)
        unfold isText at this
        rw [decide_eq_false (fun z => c2 (eU.mpr z)), Bool.false_and, Bool.and_false] at this
        exact this
    · refine ⟨_, rfl, iteT ?_⟩
      have := q H (Same.refl H)
      unfold isText at this
      rw [decide_eq_false (fun z => c1 (decide_eq_true (eT.mpr z))), Bool.false_and] at this
      exact this
end
end Say
namespace Say
open PySem PySem.Spec PyProof.Rows L2
section
variable {P : Program} {w : World} {K : PySem.W.Frag} {mg : Str → Option Value} {base : Heap}
abbrev sRise : Stmt := topS 41
theorem scRise : FnScope ["text", "at"] ["text"] (defScope sRise) := ⟨rfl, rfl, rfl, by decide +kernel, rfl, by decide +kernel, by decide +kernel⟩
/-- the j-th sign against the next, for j below n -/
def risesTo (l : List Nat) (n : Nat) : List Bool := (List.range n).map fun j => decide ((l.getD j 0) < (l.getD (j + 1) 0))
theorem rises_range : ∀ l : List Nat, (risesTo l (l.length - 1)).all id = rises l
  | [] => rfl
  | [_] => rfl
  | a :: b :: r => by
    have ih := rises_range (b :: r)
    show (risesTo (a :: b :: r) (r.length + 1)).all id = (decide (a < b) && rises (b :: r))
    rw [← ih]
    unfold risesTo
    rw [List.range_succ_eq_map, List.map_cons, List.map_map, List.all_cons]
    rfl
theorem risesTo_next (l : List Nat) (n : Nat) : risesTo l (n + 1) = risesTo l n ++ [decide ((l.getD n 0) < (l.getD (n + 1) 0))] := by
  unfold risesTo
  rw [List.range_succ, List.map_append]
  rfl
theorem risesTo_len (l : List Nat) (n : Nat) : (risesTo l n).length = n := by
  unfold risesTo
  rw [List.length_map, List.length_range]
def spRise : Sp := fun vs H Q _ => ∃ (l : List Nat), vs = [.str (T l)] ∧ l.length ≤ 100 ∧ ∀ (H' : Hp), Same H H' → Q (.bl (rises l)) H'
theorem lt_one (a b : Nat) : decide (([a] : List Nat) < [b]) = decide (a < b) := by
  by_cases h : a < b
  · rw [decide_eq_true h, decide_eq_true]
    exact List.Lex.rel h
  · rw [decide_eq_false h, decide_eq_false]
    intro z
    cases z with
    | rel q => exact h q
    | cons q => cases q
theorem ok_rise {f : Addr} {fd : FuncData} (F : Fun K "is_rising" "is_rising" sRise f fd) (B : Bn mg) : FnOk P w K mg base CX0 1 f fd ["text"] spRise := by
  refine F.ok scRise (fun vs H Q E h => ?_) (fun cdv A outer s H vs Q E hr h => ?_)
  · obtain ⟨l, rfl, _⟩ := h
    rfl
  · obtain ⟨l, rfl, hz, q⟩ := h
    have hlen : (T l).length ≤ sizeLine := by rw [T_len]; exact small (by omega)
    refine ⟨_, pss_one (ps_ret (pe_callB (cr_all rfl) (by rfl) B.all (by decide +kernel) (pa_cons (pe_lc (own := [("at", 1)]) (g := gName 1) rfl scRise.nd
        (pi_range2 rfl B.rng (pa_cons pe_int (pa_cons (pe_callB call_len_str (by rfl) B.len PySem.boot_len (pa_cons (pv 0) pa_nil)) pa_nil)))
        (blkOk_by (N := ["text", "at"]) (sc := defScope sRise) (by decide +kernel)) (fun _ _ _ _ _ => pg_name (i := 1) scRise.nd rfl (.inl rfl))
        (fun _ _ _ _ _ => pts_nil) (fun _ _ _ _ _ => pe_cmpR op_lt_str (pe_ix ix_str (pv 0) (pe_op op_sub (pv 1) pe_int) (fun _ _ => rfl)) (pe_ix ix_str (pv 0) (pv 1) (fun _ _ => rfl)) (nomark _))) pa_nil))), ?_⟩
    refine ⟨_, rfl, _, rfl, hlen, 1, _, rfl, ⟨by decide, by decide, by omega, by rw [T_len]; omega⟩, fun D hD => ?_⟩
    refine lc_it (walk_range) (fun i H2 => H2 D = some (.lst ((risesTo l i).map V.bl)) ∧ Same H H2) ?_ (fun _ _ _ _ => trivial) ?_ ?_
    · exact ⟨upd_same, same_new hD _⟩
    · rintro i x H2 H2' hi' ⟨e1, e2⟩ ⟨rfl, rfl⟩
      rw [T_len] at hi'
      have g1 : i < l.length := by omega
      have g2 : i + 1 < l.length := by omega
      refine ⟨rfl, ?_⟩
      have q1 : (T l).cps.toList[i]? = some (l.getD i 0) := by rw [T_cps, List.getD_eq_getElem?_getD, List.getElem?_eq_getElem g1]; rfl
      have q2 : (T l).cps.toList[i + 1]? = some (l.getD (i + 1) 0) := by rw [T_cps, List.getD_eq_getElem?_getD, List.getElem?_eq_getElem g2]; rfl
      refine ⟨_, rfl, _, rfl, _, _, rfl, rfl, T l, 1 + (i : Int) - 1, l.getD i 0, rfl, rfl, hlen, atI_of q1 (by omega), ?_⟩
      refine ⟨_, rfl, _, rfl, T l, 1 + (i : Int), l.getD (i + 1) 0, rfl, rfl, hlen, atI_of q2 (by omega), ?_⟩
      refine ⟨_, _, rfl, rfl, _, e1, ?_, ?_, ?_⟩
      · rw [List.length_map, risesTo_len]
        exact small1000 (by omega)
      · rw [upd_same, risesTo_next, List.map_append]
        show some (HO.lst (_ ++ [V.bl (decide (([l.getD i 0] : List Nat) < [l.getD (i + 1) 0]))])) = _
        rw [lt_one]
        rfl
      · exact fun b u q => by
          rw [upd_ne (ne_of_none q hD)]
          exact e2 b u q
    · rintro H2 ⟨e1, e2⟩
      rw [show (((T l).length : Int) - 1).toNat = l.length - 1 by rw [T_len]; omega] at e1
      refine ⟨D, _, rfl, .inl (.inl e1), ?_⟩
      rw [rises_range]
      exact q H2 e2
end
end Say
namespace Say
open PySem PySem.Spec PyProof.Rows L2
/-- the letters of a book -/
structure LetOk (L : List Nat) : Prop where
  l2 : 2 ≤ L.length
  l4 : L.length ≤ 4
  up : rises L = true
  az : ∀ c ∈ L, 97 ≤ c ∧ c ≤ 122
theorem rises_iff : ∀ l : List Nat, rises l = true ↔ l.Pairwise (· < ·)
  | [] => by simp [rises]
  | [a] => by simp [rises]
  | a :: b :: r => by
    have ih := rises_iff (b :: r)
    show (decide (a < b) && rises (b :: r)) = true ↔ _
    rw [Bool.and_eq_true, ih, List.pairwise_cons (a := a)]
    constructor
    · rintro ⟨h1, h2⟩
      have h1 := of_decide_eq_true h1
      refine ⟨fun x hx => ?_, h2⟩
      rcases List.mem_cons.mp hx with rfl | hx
      · exact h1
      · exact Nat.lt_trans h1 ((List.pairwise_cons.mp h2).1 x hx)
    · rintro ⟨h1, h2⟩
      exact ⟨decide_eq_true (h1 b (List.mem_cons_self ..)), h2⟩
theorem LetOk.hash {L : List Nat} (h : LetOk L) : rises (35 :: L) = true := (rises_iff _).mpr (List.pairwise_cons.mpr ⟨fun c hc => by have := (h.az c hc).1; omega, (rises_iff _).mp h.up⟩)
theorem side_ok {L z : List Nat} (h : LetOk L) (s : z.Sublist (35 :: L)) : (isText z (35 :: L) 0 (L.length + 1) && rises z) = true := by
  rw [Bool.and_eq_true]
  exact ⟨isText_of (Nat.zero_le _) (by have := s.length_le; simpa using this) fun c hc => s.subset hc, (rises_iff _).mpr (((rises_iff _).mp h.hash).sublist s)⟩
/-- a constant that holds a number -/
abbrev KI (mg : Str → Option Value) (x : Str) (n : Int) : Prop := ∃ t, mg x = some (.int n t)
/-- what the module's constants hold -/
structure Cn (mg : Str → Option Value) : Prop where
  small : ∃ t, mg "SMALL" = some (.str "abcdefghijklmnopqrstuvwxyz" t)
  caps : ∃ t, mg "CAPITALS" = some (.str "ABCDEFGHIJKLMNOPQRSTUVWXYZ" t)
  edge : ∃ t, mg "EDGE" = some (.str "#" t)
  mrul : ∃ t, mg "MOST_RULES" = some (.int 12 t)
  lexc : ∃ t, mg "LONGEST_EXCEPTION" = some (.int 8 t)
  lrs : ∃ t, mg "LONGEST_RULE_SOUNDS" = some (.int 3 t)
  lso : ∃ t, mg "LONGEST_SOUNDS" = some (.int 36 t)
def smallL : List Nat := (List.range 26).map (· + 97)
def capsL : List Nat := (List.range 26).map (· + 65)
theorem small_eq : Str.ofString "abcdefghijklmnopqrstuvwxyz" = T smallL := by decide +kernel
theorem caps_eq : Str.ofString "ABCDEFGHIJKLMNOPQRSTUVWXYZ" = T capsL := by decide +kernel
theorem mem_small {c : Nat} (h : 97 ≤ c ∧ c ≤ 122) : c ∈ smallL := List.mem_map.mpr ⟨c - 97, List.mem_range.mpr (by omega), by omega⟩
theorem mem_caps {c : Nat} (h : 65 ≤ c ∧ c ≤ 90) : c ∈ capsL := List.mem_map.mpr ⟨c - 65, List.mem_range.mpr (by omega), by omega⟩
section
variable {P : Program} {w : World} {K : PySem.W.Frag} {mg : Str → Option Value} {base : Heap}
abbrev psIsText : List Str := ["text", "signs", "least", "most"]
abbrev sBeside : Stmt := topS 36
theorem scBeside : FnScope ["letters", "signs"] ["letters", "signs"] (defScope sBeside) := ⟨rfl, rfl, rfl, by decide +kernel, rfl, by decide +kernel, by decide +kernel⟩
def spBeside : Sp := fun vs H Q _ => ∃ (L z : List Nat), vs = [.str (T L), .str (T z)] ∧ L.length ≤ 50 ∧ z.length ≤ 100 ∧ ∀ (H' : Hp), Same H H' → Q (.bl (isText z (35 :: L) 0 (L.length + 1) && rises z)) H'
theorem ok_beside {f : Addr} {fd : FuncData} (F : Fun K "is_beside" "is_beside" sBeside f fd) (B : Bn mg) (C : Cn mg) (DT : Df P w K mg base "is_text" psIsText 1 spIsText) (DR : Df P w K mg base "is_rising" ["text"] 1 spRise) :
    FnOk P w K mg base CX0 2 f fd ["letters", "signs"] spBeside := by
  obtain ⟨fT, fdT, GT, kT, bT, mT⟩ := DT
  obtain ⟨fR, fdR, GR, kR, bR, mR⟩ := DR
  obtain ⟨tE, mE⟩ := C.edge
  refine F.ok scBeside (fun vs H Q E h => ?_) (fun cdv A outer s H vs Q E hr h => ?_)
  · obtain ⟨L, z, rfl, _⟩ := h
    rfl
  · obtain ⟨L, z, rfl, hL, hz, q⟩ := h
    refine ⟨_, pss_one (ps_ret (pe_and (pe_call GT hr (by rfl) mT kT bT .nil pass0 (pa_cons (pv 1) (pa_cons (pe_op op_add_str (pe_glob (v := .str "#") rfl mE ⟨_, rfl⟩) (pv 0)) (pa_cons pe_int (pa_cons (pe_op op_add (pe_callB call_len_str (by rfl) B.len PySem.boot_len (pa_cons (pv 0) pa_nil)) pe_int) pa_nil)))))
        (pe_one (pe_call GR hr (by rfl) mR kR bR .nil pass0 (pa_cons (pv 1) pa_nil))))), ?_⟩
    have hl : (T L).length ≤ sizeLine := by rw [T_len]; exact small (by omega)
    refine ⟨_, rfl, _, rfl, _, _, rfl, rfl, (by rw [len_hash, T_len]; exact small (by omega)), _, rfl, _, rfl, hl, _, _, rfl, rfl, z, 35 :: L, 0, L.length + 1, ?_, hz, fun H1 s1 => ?_⟩
    · rw [hash_app, T_len]
      rfl
    refine ⟨_, rfl, ite2 (fun c => ?_) (fun c => ?_)⟩
    · refine ⟨_, rfl, z, rfl, hz, fun H2 s2 => ?_⟩
      have := q H2 (s1.trans s2)
      rw [c, Bool.true_and] at this
      exact this
    · have := q H1 s1
      rw [Bool.eq_false_iff.mpr c, Bool.false_and] at this
      exact this
abbrev sIsRule : Stmt := topS 35
theorem scIsRule : FnScope ["letters", "rule", "ahead", "own", "behind", "sounds"] ["letters", "rule"] (defScope sIsRule) := ⟨rfl, rfl, rfl, by decide +kernel, rfl, by decide +kernel, by decide +kernel⟩
def spIsRule : Sp := fun vs H Q _ => ∃ (L : List Nat) (t : Addr) (ρ : Rule), vs = [.str (T L), .ref t] ∧ H t = some (.tup ρ.vs) ∧ LetOk L ∧ RuleOk L ρ ∧ ∀ (H' : Hp), Same H H' → Q (.bl true) H'
theorem ok_isRule {f : Addr} {fd : FuncData} (F : Fun K "is_rule" "is_rule" sIsRule f fd) (B : Bn mg) (C : Cn mg) (DT : Df P w K mg base "is_text" psIsText 1 spIsText) (DB : Df P w K mg base "is_beside" ["letters", "signs"] 2 spBeside) :
    FnOk P w K mg base CX0 3 f fd ["letters", "rule"] spIsRule := by
  obtain ⟨fT, fdT, GT, kT, bT, mT⟩ := DT
  obtain ⟨fB, fdB, GB, kB, bB, mB⟩ := DB
  obtain ⟨tC, mC⟩ := C.caps
  obtain ⟨tS, mS⟩ := C.lrs
  refine F.ok scIsRule (fun vs H Q E h => ?_) (fun cdv A outer s H vs Q E hr h => ?_)
  · obtain ⟨L, t, ρ, rfl, _⟩ := h
    rfl
  · obtain ⟨L, t, ρ, rfl, ht, hL, hρ, q⟩ := h
    have hr1 : Room 1 _ := hr.mono (by decide)
    refine ⟨_, pss_cons (ps_if (PW.pt (pw_or (pt_not (pt_val (pe_callB call_isi (by rfl) B.isi (by decide +kernel) (pa_cons (pv 1) (pa_cons (pe_bltn (v := .ty "tuple") rfl B.tup (by decide +kernel) rfl) pa_nil)))))
          (pw_or1 (pt_cmpR op_ne (pe_callB call_len (by rfl) B.len PySem.boot_len (pa_cons (pv 1) pa_nil)) pe_int (nomark _))))) (pss_one (ps_ret pe_bl)) pss_nil)
      (pss_cons (ps_asg (pv 1) (pg_tup (by rfl) (pgs_cons (pg_name (i := 2) scIsRule.nd rfl (.inl rfl)) (pgs_cons (pg_name (i := 3) scIsRule.nd rfl (.inl rfl)) (pgs_cons (pg_name (i := 4) scIsRule.nd rfl (.inl rfl)) (pgs_cons (pg_name (i := 5) scIsRule.nd rfl (.inl rfl)) pgs_nil))))))
      (pss_one (ps_ret (pe_and (pe_call GB hr (by rfl) mB kB bB .nil pass0 (pa_cons (pv 0) (pa_cons (pv 2) pa_nil)))
        (pe_and (pe_call GT hr1 (by rfl) mT kT bT .nil pass0 (pa_cons (pv 3) (pa_cons (pv 0) (pa_cons pe_int (pa_cons pe_int pa_nil)))))
        (pe_and (pe_call GB hr (by rfl) mB kB bB .nil pass0 (pa_cons (pv 0) (pa_cons (pv 4) pa_nil)))
        (pe_one (pe_call GT hr1 (by rfl) mT kT bT .nil pass0 (pa_cons (pv 5) (pa_cons (pe_glob (v := .str "ABCDEFGHIJKLMNOPQRSTUVWXYZ") rfl mC ⟨_, rfl⟩) (pa_cons pe_int (pa_cons (pe_glob (v := .int 3) rfl mS ⟨_, rfl⟩) pa_nil)))))))))))), ?_⟩
    have l5 := hρ.ah.length_le
    have l6 := hρ.be.length_le
    rw [List.length_cons] at l5 l6
    have l4 := hL.l4
    refine ⟨_, rfl, _, _, .type "tuple", _, true, rfl, ClsV.ty _, .base (.tup ht), kit_ty (by decide +kernel), true, rfl, iteF ?_⟩
    refine ⟨_, rfl, _, 4, rfl, .inr ⟨_, .inl (.inl ht), rfl⟩, rfl, _, rfl, iteF ?_⟩
    refine ⟨_, rfl, t, _, rfl, .inl (.inl ht), rfl, _, _, rfl, _, _, rfl, _, _, rfl, _, _, rfl, rfl, ?_⟩
    refine ⟨_, rfl, _, rfl, L, ρ.ah, rfl, by omega, by omega, fun H1 s1 => ?_⟩
    refine ⟨_, rfl, ?_⟩
    rw [side_ok hL hρ.ah]
    refine iteT ?_
    refine ⟨_, rfl, _, rfl, ρ.ow, L, 1, 2, rfl, (by have := hρ.o2; omega), fun H2 s2 => ?_⟩
    refine ⟨_, rfl, ?_⟩
    rw [isText_of hρ.o1 hρ.o2 hρ.ow]
    refine iteT ?_
    refine ⟨_, rfl, _, rfl, L, ρ.be, rfl, by omega, by omega, fun H3 s3 => ?_⟩
    refine ⟨_, rfl, ?_⟩
    rw [side_ok hL hρ.be]
    refine iteT ?_
    refine ⟨_, rfl, ρ.so, capsL, 0, 3, (by rw [caps_eq]; rfl), (by have := hρ.s3; omega), fun H4 s4 => ?_⟩
    rw [isText_of (Nat.zero_le _) hρ.s3 fun c hc => mem_caps (hρ.so c hc)]
    exact q H4 (s1.trans (s2.trans (s3.trans s4)))
end
end Say
namespace PySem
open Sem (wp)
open AutoSeq1 (wpAny_loadPart')
/-- enumerate(tuple): what the making of it meets -/
theorem say_meets_enumT (l : Addr) (o0 : Obj) (items : Array Value) (n : Nat) (clC : o0.cls = .type "tuple") (dtD : o0.data = .seq items n) :
    Meets (Builtin.«enumerate.__new__» ⟨[.type "enumerate", .ref l], []⟩) (fun _ R s => s.heap.get? l = some o0 ∧
      R (.ok (.ret (.ref (s.heap.push { cls := .type "tuple_iterator", data := .fields #[.ref l, .int 0 0] }).objs.size)))
        { s with heap := (s.heap.push { cls := .type "tuple_iterator", data := .fields #[.ref l, .int 0 0] }).push { cls := .type "enumerate", data := .fields #[.none, .bool false, .ref s.heap.objs.size, rawInt 0, .none, .none] } }) :=
  .of_wp fun prog w A R s h => by
    obtain ⟨txP, g, d, tkn, os⟩ := s; obtain ⟨lnT, h⟩ := h
    obtain ⟨oc, od, dt, osl⟩ := o0
    replace clC : oc = .type "tuple" := clC
    replace dtD : dt = .seq items n := dtD
    subst clC dtD
    have hsub := sub_enumerate
    have hL : Heap.IsTuple (Shared.heap ⟨txP, g, d, tkn, os⟩) l items := ⟨_, lnT, rfl, n, rfl⟩
    wp_walk using wpAny_loadPart' lnT
    refine wpAny_stack_any fun sta => wpAny_pure ?_
    split
    · rename_i c _ _ _ _ _
      cases (c == Value.type "enumerate")
      · wp_walk using wpAny_loadPart' lnT, wpAny_pyIter_tuple hL
        exact ⟨_, rfl, h⟩
      · wp_walk using wpAny_loadPart' lnT, wpAny_pyIter_tuple hL
        exact ⟨_, rfl, h⟩
    · wp_walk using wpAny_loadPart' lnT, wpAny_pyIter_tuple hL
      exact ⟨_, rfl, h⟩
section
variable {prog : Program} {w : World} {A : Around} {E : Value → Shared → Prop} {s : Shared}
theorem say_call_enumT {l : Addr} {items : Array Value} {Q : Value → Shared → Prop} (hL : s.heap.IsTuple l items)
    (h : ∀ h', IsEnum h' (s.heap.objs.size + 1) s.heap.objs.size 0 .none → h'.IsTupleIter s.heap.objs.size l 0 → h'.objs.size = s.heap.objs.size + 2 →
      (∀ b o, s.heap.get? b = some o → h'.get? b = some o) → Q (.ref (s.heap.objs.size + 1)) { s with heap := h' }) :
    wpAny (model prog w) A (call (.type "enumerate") [.ref l]) Q E s := by
  obtain ⟨o0, lnT, clC, n, dtD⟩ := hL
  refine callType_new F.called_enumerate (by decide) (F.typeCall_enumerate_1 _) (F.newCall_enumerate_1 _) (fun obj => F.args_object_init_2 obj _) F.entry_enumerate_new
    (say_meets_enumT l o0 items n clC dtD) ⟨lnT, ?_⟩
  have szT : (s.heap.push { cls := .type "tuple_iterator", data := .fields #[.ref l, .int 0 0] }).objs.size = s.heap.objs.size + 1 := Heap.size_push ..
  show _ ∧ _
  rw [szT]
  have hEn : IsEnum ((s.heap.push { cls := .type "tuple_iterator", data := .fields #[.ref l, .int 0 0] }).push
      { cls := .type "enumerate", data := .fields #[.none, .bool false, .ref s.heap.objs.size, rawInt 0, .none, .none] }) (s.heap.objs.size + 1) s.heap.objs.size 0 .none := by
    have := Heap.get?_push_size (s.heap.push { cls := .type "tuple_iterator", data := .fields #[.ref l, .int 0 0] })
      (o := { cls := .type "enumerate", data := .fields #[.none, .bool false, .ref s.heap.objs.size, rawInt 0, .none, .none] }) rfl
    rw [szT] at this; exact this
  refine ⟨⟨_, hEn, rfl⟩, h _ hEn ⟨_, Heap.get?_push_of_some _ (Heap.get?_push_size _ rfl), rfl, rfl⟩ (by rw [Heap.size_push, szT]) fun b o x => Heap.get?_push_of_some _ (Heap.get?_push_of_some _ x)⟩
theorem say_enumT_end {e it l : Addr} {i : Nat} {j : Int} {items : Array Value} {was : Value} {Q : Option Value → Shared → Prop} (noH : A.handled = none)
    (hEn : IsEnum s.heap e it j was) (hTi : s.heap.IsTupleIter it l i) (lnT : s.heap.IsTuple l items) (atI0 : items[i]? = none)
    (hQ : ∀ h', Heap.ExtBut it s.heap h' → Q none { s with heap := h' }) : wpAny (model prog w) A (pyNext (.ref e)) Q E s := by
  have isTup : s.TypeIs (.ref e) "enumerate" := ⟨_, hEn, rfl⟩
  unfold pyNext
  refine wpAny_bind (wpAny_attempt (wpAny_callSpecial?_slot (name := Str.ofString "__next__") isTup F.slot_enumerate_next
    (wpAny_call_entry F.slot_enumerate_next isTup F.entry_enumerate_next ?_ (F.args_enumerate_next_1 _))))
  show wpAny _ _ (field (.ref e) 2 >>= _) _ _ _
  refine wpAny_bind (wpAny_field hEn rfl (x := .ref it) rfl ?_)
  refine wpAny_bind (wpAny_nextOf_tuple_end noH hTi lnT atI0 fun h' x he' hx' => ?_)
  obtain ⟨o, obO, clC⟩ := hx'
  refine wpAny_bind (wpAny_isInstance (T := "StopIteration") (b := true) ⟨o, obO, clC⟩ isSubtype_stop ?_)
  exact wpAny_pure (hQ _ he')
end
end PySem
namespace Say
open PySem PySem.Spec PyProof.Rows L2
/-- the tuple at a adrs it stands at each turn, each item in a new pair -/
def IteT (K : PySem.W.Frag) (a : Addr) : It :=
  ⟨fun i H => ∃ (xs : List V) (x : V), SqT K H a xs ∧ xs[i]? = some x, fun i H v H' => ∃ T x, v = .ref T ∧ H T = none ∧ H' = upd H T (.tup [.int (i : Nat), x]) ∧ ∀ xs, SqT K H a xs → xs[i]? = some x, fun i H => ∃ xs : List V, SqT K H a xs ∧ xs.length ≤ i⟩
theorem enum_ne {h : Heap} {e it a : Addr} {i : Int} {was : Value} {items : Array Value} (hEn : IsEnum h e it i was) (isTup : h.IsTuple a items) : e ≠ a := fun z => by
  subst z
  obtain ⟨o, obO, clC, _⟩ := isTup
  have hEn : h.get? e = some _ := hEn
  rw [hEn] at obO
  cases obO
  exact absurd (Value.type.inj clC) (by decide)
theorem tit_ne {h : Heap} {it a : Addr} {i : Nat} {items : Array Value} (hEn : h.IsTupleIter it a i) (isTup : h.IsTuple a items) : a ≠ it := fun z => by
  subst z
  obtain ⟨o, obO, clC, _⟩ := isTup
  obtain ⟨o', ho', hc', _⟩ := hEn
  rw [obO] at ho'
  cases ho'
  rw [clC] at hc'
  exact absurd (Value.type.inj hc') (by decide)
theorem turn_enumT {P : Program} {w : World} {K : PySem.W.Frag} {els : List Expr} {k9 : Nat} {tps0 : Pos} (a e it : Addr) :
    Turn P w K (.Tuple els k9 tps0) (IteT K a) [e, it] e (fun i h => (∃ was, IsEnum h e it ((i : Nat) : Int) was) ∧ h.IsTupleIter it a i ∧ e ≠ it) where
  mem := by simp
  obj := fun i h sta b hb => by
    obtain ⟨⟨was, hEn⟩, ⟨o, obO, clC, dtD⟩, _⟩ := sta
    have e' : b = e ∨ b = it := by simpa using hb
    rcases e' with z | z
    · rw [z]; exact ⟨_, hEn, fun v q => nomatch q⟩
    · rw [z]; exact ⟨o, obO, fun v q => by rw [dtD] at q; cases q⟩
  keep := fun i h h' sta k => let ⟨⟨was, hEn⟩, hi, hAp⟩ := sta; ⟨⟨was, k e (by simp) _ hEn⟩, hi.at fun o q => k it (by simp) o q, hAp⟩
  item := by
    intro X hP hw hK clC i pn s σ H E I fresh0 sta gW
    subst hP hw hK
    obtain ⟨⟨was, hEn⟩, hTi, hAp⟩ := sta
    obtain ⟨xs, x, isT, atI0⟩ := gW
    obtain ⟨its, rel, p, szT⟩ := I.tuple isT
    have p : s.heap.IsTuple a its.toArray := p
    obtain ⟨u, getU, relU⟩ := rel.get atI0
    have ltE : e < s.heap.objs.size := Heap.lt_size hEn
    have ltI : it < s.heap.objs.size := by obtain ⟨_, q, _⟩ := hTi; exact Heap.lt_size q
    have ltN : i < its.toArray.size := by
      have := (List.getElem?_eq_some_iff.mp getU).1
      simpa using this
    refine wpAny_pyNext_enum_itemD (Draws.tuple (show X.A.in1.handled = none from I.ok.hd clC) it a (tit_ne hTi p) its.toArray) hEn ⟨hTi, p⟩ ltN hAp (by
      simp only [List.mem_cons, List.not_mem_nil, or_false, not_or]
      exact ⟨hAp, enum_ne hEn p⟩) fun u' h' tkn hu' obO hst' isTup szH kpT => ?_
    have eu : u' = u := by
      have h1 : its.toArray[i]? = some u' := hu'
      rw [List.getElem?_toArray, getU] at h1
      exact (Option.some.inj h1).symm
    subst eu
    obtain ⟨hit', p'⟩ := hst'
    refine ⟨_, rfl, wpAny_letOwnedTupleGo_enum (s := { s with heap := h', toks := tkn + 1 }) obO fun h'' he' butE => ?_⟩
    have hT2 : h''.get? s.heap.objs.size = some { cls := .type "tuple", data := .seq #[.int i tkn, u'] } := (butE.2 _ (Nat.ne_of_gt ltE)).trans isTup
    have new : ObjOk X.prog X.w (upd H s.heap.objs.size (.tup [.int (i : Nat), x])) h'' s.heap.objs.size (.tup [.int (i : Nat), x]) :=
      ⟨by show 2 ≤ sizeLine; decide, [.int i tkn, u'], .cons ⟨_, rfl⟩ (.cons relU .nil), ⟨_, hT2, rfl, _, rfl⟩⟩
    have I1 : Inv X pn σ (upd H s.heap.objs.size (.tup [.int (i : Nat), x])) { s with heap := h'', toks := tkn + 1 } :=
      I.turnedNew (ch := [e, it]) (fun b ob hb q => (butE.2 b (fun z => hb (by simp [z]))).trans (kpT b ob (fun z => hb (by simp [z])) (fun z => hb (by simp [z])) q)) fresh0 (Nat.le_refl _) new
    refine ⟨.ref s.heap.objs.size, _, I1, rfl, ⟨_, x, rfl, I.hok.fresh (Nat.le_refl _), rfl, fun ys hy => by rw [I.tuple_inj hy isT]; exact atI0⟩, ⟨⟨u', ?_⟩, hit'.at fun o q => (butE.2 it (Ne.symm hAp)).trans q, hAp⟩, fun b hb => ?_⟩
    · have q1 : ((i + 1 : Nat) : Int) = (i : Int) + 1 := by omega
      rw [q1]; exact he'
    · have hb' : b < s.heap.objs.size := by
        have e' : b = e ∨ b = it := by simpa using hb
        rcases e' with z | z
        · rw [z]; exact ltE
        · rw [z]; exact ltI
      rw [upd_ne (Nat.ne_of_lt hb')]
      exact (fresh0 b hb).1
  done := by
    intro X hP hw hK clC i pn s σ H E I fresh0 sta gW
    subst hP hw hK
    obtain ⟨⟨was, hEn⟩, hTi, hAp⟩ := sta
    obtain ⟨xs, isT, atI0⟩ := gW
    obtain ⟨its, rel, p, szT⟩ := I.tuple isT
    have p : s.heap.IsTuple a its.toArray := p
    obtain ⟨f0, f1, f2, f3, f4, f5⟩ := fresh0 it (by simp)
    have hl := rel.length
    exact say_enumT_end (I.ok.hd clC) hEn hTi p (by rw [List.getElem?_toArray]; exact List.getElem?_eq_none (by omega)) fun h' eb => ⟨rfl, I.turned (t' := s.toks) (fun b o hb q => eb b o hb q) f0 f1 f3 f4 f5⟩
  self := fun A i s Q E sta h => let ⟨⟨_, hEn⟩, _⟩ := sta; wpAny_pyIter_enum hEn h
def iEnumT (K : PySem.W.Frag) (ta : TA) : TI := fun σ H R => ta σ H fun vs H1 => ∃ a xs, vs = [.ref a] ∧ SqT K H1 a xs ∧ R (IteT K a) H1
theorem pi_enumT {X : Cx} {e : Expr} {ta : TA} {p pos tps0 : Pos} {els : List Expr} {k9 : Nat} (gW : Gl X "enumerate") (hm : X.mg "enumerate" = none) (atA : PA X [e] ta) (hs : starEach [e] X.env = [(false, eval e X.env)] := by rfl) :
    PI X (.Tuple els k9 tps0) (.Call (.Name "enumerate" p) [e] [] pos) (iEnumT X.K ta) := by
  refine ⟨fun pn s σ H R I h => ?_⟩
  refine Call_ (ld_blt I gW hm boot_enumerate (PyProof.Rows.callWith_type1 (thn (atA.run pos pn s σ H _ I h) fun args s1 ⟨vs, H1, I1, r1, q1⟩ => ?_) hs rfl))
  obtain ⟨a, xs, ex, isT, q⟩ := q1
  subst ex
  cases r1 with
  | cons r rst =>
    cases rst
    cases r
    obtain ⟨its, rel, p', szT⟩ := I1.tuple isT
    refine say_call_enumT (show s1.heap.IsTuple a its.toArray from p') fun h' hEn hTi szH kpT => wpAny_pyIter_enum hEn ?_
    have I2 : Inv X pn σ H1 { s1 with heap := h' } := I1.kept (t' := s1.toks) kpT
    refine ⟨s1.heap.objs.size + 1, [s1.heap.objs.size + 1, s1.heap.objs.size], _, _, H1, rfl, I2, turn_enumT a (s1.heap.objs.size + 1) s1.heap.objs.size, ⟨⟨.none, hEn⟩, hTi, Nat.succ_ne_self _⟩, fun b hb => ?_, q⟩
    have e' : b = s1.heap.objs.size + 1 ∨ b = s1.heap.objs.size := by simpa using hb
    have hle : s1.heap.objs.size ≤ b := by
      rcases e' with z | z
      · rw [z]; exact Nat.le_add_right _ _
      · rw [z]; exact Nat.le_refl _
    exact I1.fpOk hle (I1.hok.fresh hle)
theorem walk_enumT {K : PySem.W.Frag} {a : Addr} {xs : List V} : Walk (IteT K a) xs.length (fun H => SqT K H a xs) (YPair (fun i => some (.int (i : Nat))) (fun i => xs[i]?)) := by
  refine ⟨fun i _ hi q => ⟨xs, xs[i], q, by simp [hi]⟩, fun _ q => ⟨xs, q, Nat.le_refl _⟩, fun i H v H' _ q y => ?_⟩
  obtain ⟨T, x, h1, h2, h3, h4⟩ := y
  exact ⟨T, .int (i : Nat), x, h1, h2, h3, rfl, h4 xs q⟩
end Say
namespace Say
open PySem PySem.Spec PyProof.Rows L2
abbrev Exc := List Nat × List Nat
/-- an exception of a book of the letters L -/
structure ExcOk (L : List Nat) (e : Exc) : Prop where
  w : ∀ c ∈ e.1, c ∈ L
  w1 : 1 ≤ e.1.length
  w8 : e.1.length ≤ 8
  s : ∀ c ∈ e.2, 65 ≤ c ∧ c ≤ 90
  s36 : e.2.length ≤ 36
/-- a tuple as it was made: with no attributes of its own -/
def TupN (H : Hp) (a : Addr) (xs : List V) : Prop := ∃ o : Obj, H a = some (.frz o (.tup xs)) ∧ o.dict = none
theorem TupN.kt {H H' : Hp} {a : Addr} {xs : List V} (h : TupN H a xs) (e : KT H H') : TupN H' a xs := ⟨h.choose, e.2 _ _ _ h.choose_spec.1, h.choose_spec.2⟩
theorem TupN.rd {H : Hp} {a : Addr} {xs : List V} (h : TupN H a xs) : Rd H a (.tup xs) := .inr ⟨_, h.choose_spec.1⟩
def ExcsAt (H : Hp) (X : Addr) (es : List Exc) : Prop := ∃ ts : List Addr, TupN H X (ts.map V.ref) ∧ Paired (fun t (e : Exc) => H t = some (.tup [.str (T e.1), .str (T e.2)])) ts es
theorem ExcsAt.kt {H H' : Hp} {X : Addr} {es : List Exc} (h : ExcsAt H X es) (e : KT H H') : ExcsAt H' X es := by
  obtain ⟨ts, h1, h2⟩ := h
  exact ⟨ts, h1.kt e, paired_mono (fun t ρ q => e.1 _ _ q) h2⟩
structure BookOk (L : List Nat) (rs : List Rule) (es : List Exc) : Prop where
  lt : LetOk L
  rl : ∀ ρ ∈ rs, RuleOk L ρ
  r12 : rs.length ≤ 12
  ex : ∀ e ∈ es, ExcOk L e
  e8 : es.length ≤ 8
  up : es.Pairwise fun e f => e.1 < f.1
def BookAt (H : Hp) (b : Addr) (L : List Nat) (rs : List Rule) (es : List Exc) : Prop := ∃ R X, H b = some (.tup [.str (T L), .ref R, .ref X]) ∧ RulesAt H R rs ∧ ExcsAt H X es
theorem BookAt.kt {H H' : Hp} {b : Addr} {L : List Nat} {rs : List Rule} {es : List Exc} (h : BookAt H b L rs es) (e : KT H H') : BookAt H' b L rs es := by
  obtain ⟨R, X, h1, h2, h3⟩ := h
  exact ⟨R, X, e.1 _ _ h1, h2.kt e, h3.kt e⟩
section
variable {P : Program} {w : World} {K : PySem.W.Frag} {mg : Str → Option Value} {base : Heap}
abbrev sExcd : Stmt := topS 38
theorem scExcd : FnScope ["letters", "word"] ["letters", "word"] (defScope sExcd) := ⟨rfl, rfl, rfl, by decide +kernel, rfl, by decide +kernel, by decide +kernel⟩
def spExcd : Sp := fun vs H Q _ => ∃ (L z : List Nat), vs = [.str (T L), .str (T z)] ∧ z.length ≤ 100 ∧ ∀ (H' : Hp), Same H H' → Q (.bl (isText z L 1 8)) H'
theorem ok_excd {f : Addr} {fd : FuncData} (F : Fun K "is_excepted" "is_excepted" sExcd f fd) (C : Cn mg) (DT : Df P w K mg base "is_text" psIsText 1 spIsText) :
    FnOk P w K mg base CX0 2 f fd ["letters", "word"] spExcd := by
  obtain ⟨fT, fdT, GT, kT, bT, mT⟩ := DT
  obtain ⟨tX, mX⟩ := C.lexc
  refine F.ok scExcd (fun vs H Q E h => ?_) (fun cdv A outer s H vs Q E hr h => ?_)
  · obtain ⟨L, z, rfl, _⟩ := h
    rfl
  · obtain ⟨L, z, rfl, hl, q⟩ := h
    refine ⟨_, pss_one (ps_ret (pe_call GT hr (by rfl) mT kT bT .nil pass0 (pa_cons (pv 1) (pa_cons (pv 0) (pa_cons pe_int (pa_cons (pe_glob (v := .int 8) rfl mX ⟨_, rfl⟩) pa_nil)))))), ?_⟩
    exact ⟨_, rfl, _, rfl, z, L, 1, 8, rfl, hl, q⟩
abbrev sIsSo : Stmt := topS 39
theorem scIsSo : FnScope ["sounds"] ["sounds"] (defScope sIsSo) := ⟨rfl, rfl, rfl, by decide +kernel, rfl, by decide +kernel, by decide +kernel⟩
def spIsSo : Sp := fun vs H Q _ => ∃ (z : List Nat), vs = [.str (T z)] ∧ z.length ≤ 100 ∧ ∀ (H' : Hp), Same H H' → Q (.bl (isText z capsL 0 36)) H'
theorem ok_isSo {f : Addr} {fd : FuncData} (F : Fun K "is_sounds" "is_sounds" sIsSo f fd) (C : Cn mg) (DT : Df P w K mg base "is_text" psIsText 1 spIsText) :
    FnOk P w K mg base CX0 2 f fd ["sounds"] spIsSo := by
  obtain ⟨fT, fdT, GT, kT, bT, mT⟩ := DT
  obtain ⟨tC, mC⟩ := C.caps
  obtain ⟨tS, mS⟩ := C.lso
  refine F.ok scIsSo (fun vs H Q E h => ?_) (fun cdv A outer s H vs Q E hr h => ?_)
  · obtain ⟨z, rfl, _⟩ := h
    rfl
  · obtain ⟨z, rfl, hl, q⟩ := h
    refine ⟨_, pss_one (ps_ret (pe_call GT hr (by rfl) mT kT bT .nil pass0 (pa_cons (pv 0) (pa_cons (pe_glob (v := .str "ABCDEFGHIJKLMNOPQRSTUVWXYZ") rfl mC ⟨_, rfl⟩) (pa_cons pe_int (pa_cons (pe_glob (v := .int 36) rfl mS ⟨_, rfl⟩) pa_nil)))))), ?_⟩
    exact ⟨_, rfl, z, capsL, 0, 36, (by rw [caps_eq]; rfl), hl, q⟩
abbrev sIsExc : Stmt := topS 37
theorem scIsExc : FnScope ["letters", "pair", "word", "sounds"] ["letters", "pair"] (defScope sIsExc) := ⟨rfl, rfl, rfl, by decide +kernel, rfl, by decide +kernel, by decide +kernel⟩
def spIsExc : Sp := fun vs H Q _ => ∃ (L : List Nat) (t : Addr) (e : Exc), vs = [.str (T L), .ref t] ∧ H t = some (.tup [.str (T e.1), .str (T e.2)]) ∧ ExcOk L e ∧ ∀ (H' : Hp), Same H H' → Q (.bl true) H'
theorem ok_isExc {f : Addr} {fd : FuncData} (F : Fun K "is_exception" "is_exception" sIsExc f fd) (B : Bn mg) (DX : Df P w K mg base "is_excepted" ["letters", "word"] 2 spExcd) (DS : Df P w K mg base "is_sounds" ["sounds"] 2 spIsSo) :
    FnOk P w K mg base CX0 3 f fd ["letters", "pair"] spIsExc := by
  obtain ⟨fX, fdX, GX, kX, bX, mX⟩ := DX
  obtain ⟨fS, fdS, GS, kS, bS, mS⟩ := DS
  refine F.ok scIsExc (fun vs H Q E h => ?_) (fun cdv A outer s H vs Q E hr h => ?_)
  · obtain ⟨L, t, e, rfl, _⟩ := h
    rfl
  · obtain ⟨L, t, e, rfl, ht, ho, q⟩ := h
    refine ⟨_, pss_cons (ps_if (PW.pt (pw_or (pt_not (pt_val (pe_callB call_isi (by rfl) B.isi (by decide +kernel) (pa_cons (pv 1) (pa_cons (pe_bltn (v := .ty "tuple") rfl B.tup (by decide +kernel) rfl) pa_nil)))))
          (pw_or1 (pt_cmpR op_ne (pe_callB call_len (by rfl) B.len PySem.boot_len (pa_cons (pv 1) pa_nil)) pe_int (nomark _))))) (pss_one (ps_ret pe_bl)) pss_nil)
      (pss_cons (ps_asg (pv 1) (pg_tup (by rfl) (pgs_cons (pg_name (i := 2) scIsExc.nd rfl (.inl rfl)) (pgs_cons (pg_name (i := 3) scIsExc.nd rfl (.inl rfl)) pgs_nil))))
      (pss_one (ps_ret (pe_and (pe_call GX hr (by rfl) mX kX bX .nil pass0 (pa_cons (pv 0) (pa_cons (pv 2) pa_nil)))
        (pe_one (pe_call GS hr (by rfl) mS kS bS .nil pass0 (pa_cons (pv 3) pa_nil))))))), ?_⟩
    refine ⟨_, rfl, _, _, .type "tuple", _, true, rfl, ClsV.ty _, .base (.tup ht), kit_ty (by decide +kernel), true, rfl, iteF ?_⟩
    refine ⟨_, rfl, _, 2, rfl, .inr ⟨_, .inl (.inl ht), rfl⟩, rfl, _, rfl, iteF ?_⟩
    refine ⟨_, rfl, t, _, rfl, .inl (.inl ht), rfl, _, _, rfl, _, _, rfl, rfl, ?_⟩
    refine ⟨_, rfl, _, rfl, L, e.1, rfl, (by have := ho.w8; omega), fun H1 s1 => ?_⟩
    refine ⟨_, rfl, ?_⟩
    rw [isText_of ho.w1 ho.w8 ho.w]
    refine iteT ?_
    refine ⟨_, rfl, e.2, rfl, (by have := ho.s36; omega), fun H4 s4 => ?_⟩
    rw [isText_of (Nat.zero_le _) ho.s36 fun c hc => mem_caps (ho.s c hc)]
    exact q H4 (s1.trans s4)
abbrev sChL : Stmt := topS 29
theorem scChL : FnScope ["letters"] ["letters"] (defScope sChL) := ⟨rfl, rfl, rfl, by decide +kernel, rfl, by decide +kernel, by decide +kernel⟩
def spChL : Sp := fun vs H Q _ => ∃ (L : List Nat), vs = [.str (T L)] ∧ LetOk L ∧ ∀ (H' : Hp), Same H H' → Q .non H'
theorem ok_chL {f : Addr} {fd : FuncData} (F : Fun K "check_letters" "check_letters" sChL f fd) (C : Cn mg) (DT : Df P w K mg base "is_text" psIsText 1 spIsText) (DR : Df P w K mg base "is_rising" ["text"] 1 spRise) :
    FnOk P w K mg base CX0 2 f fd ["letters"] spChL := by
  obtain ⟨fT, fdT, GT, kT, bT, mT⟩ := DT
  obtain ⟨fR, fdR, GR, kR, bR, mR⟩ := DR
  obtain ⟨tS, mS⟩ := C.small
  refine F.ok scChL (fun vs H Q E h => ?_) (fun cdv A outer s H vs Q E hr h => ?_)
  · obtain ⟨L, rfl, _⟩ := h
    rfl
  · obtain ⟨L, rfl, hL, q⟩ := h
    refine ⟨_, pss_one (ps_if (PW.pt (pw_or (pt_not (pt_val (pe_call GT hr (by rfl) mT kT bT .nil pass0 (pa_cons (pv 0) (pa_cons (pe_glob (v := .str "abcdefghijklmnopqrstuvwxyz") rfl mS ⟨_, rfl⟩) (pa_cons pe_int (pa_cons pe_int pa_nil)))))))
        (pw_or1 (pt_not (pt_val (pe_call GR hr (by rfl) mR kR bR .nil pass0 (pa_cons (pv 0) pa_nil))))))) (pss_one ps_never) pss_nil), ?_⟩
    have l4 := hL.l4
    refine ⟨_, rfl, L, smallL, 2, 4, (by rw [small_eq]; rfl), by omega, fun H1 s1 => ?_⟩
    rw [isText_of hL.l2 hL.l4 fun c hc => mem_small (hL.az c hc)]
    refine ⟨true, rfl, iteF ?_⟩
    refine ⟨_, rfl, L, rfl, by omega, fun H2 s2 => ?_⟩
    rw [hL.up]
    refine ⟨true, rfl, iteF ?_⟩
    exact q H2 (s1.trans s2)
abbrev sChR : Stmt := topS 30
theorem scChR : FnScope ["letters", "rules", "number", "rule"] ["letters", "rules"] (defScope sChR) := ⟨rfl, rfl, rfl, by decide +kernel, rfl, by decide +kernel, by decide +kernel⟩
def spChR : Sp := fun vs H Q _ => ∃ (L : List Nat) (R : Addr) (rs : List Rule), vs = [.str (T L), .ref R] ∧ LetOk L ∧ RulesAt H R rs ∧ (∀ ρ ∈ rs, RuleOk L ρ) ∧ rs.length ≤ 12 ∧ ∀ (H' : Hp), Same H H' → Q .non H'
theorem ok_chR {f : Addr} {fd : FuncData} (F : Fun K "check_rules" "check_rules" sChR f fd) (B : Bn mg) (C : Cn mg) (DI : Df P w K mg base "is_rule" ["letters", "rule"] 3 spIsRule) :
    FnOk P w K mg base CX0 4 f fd ["letters", "rules"] spChR := by
  obtain ⟨fI, fdI, GI, kI, bI, mI⟩ := DI
  obtain ⟨tS, mS⟩ := C.mrul
  refine F.ok scChR (fun vs H Q E h => ?_) (fun cdv A outer s H vs Q E hr h => ?_)
  · obtain ⟨L, R, rs, rfl, _⟩ := h
    rfl
  · obtain ⟨L, R, rs, rfl, hL, ⟨ts, hR, hp⟩, ho, h12, q⟩ := h
    refine ⟨_, pss_cons (ps_if (pt_not (pt_val (pe_callB call_isi (by rfl) B.isi (by decide +kernel) (pa_cons (pv 1) (pa_cons (pe_bltn (v := .ty "tuple") rfl B.tup (by decide +kernel) rfl) pa_nil))))) (pss_one ps_never) pss_nil)
      (pss_one (ps_for PassesOwn.never rfl (pi_enumT (by rfl) B.enu (pa_cons (pv 1) pa_nil)) (pg_tup (by rfl) (pgs_cons (pg_name (i := 2) scChR.nd rfl (.inl rfl)) (pgs_cons (pg_name (i := 3) scChR.nd rfl (.inl rfl)) pgs_nil)))
        (pss_one (ps_if (PW.pt (pw_or (pt_cmpR op_eq (pv 2) (pe_glob (v := .int 12) rfl mS ⟨_, rfl⟩) (nomark _)) (pw_or1 (pt_not (pt_val (pe_call GI hr (by rfl) mI kI bI .nil pass0 (pa_cons (pv 0) (pa_cons (pv 3) pa_nil)))))))) (pss_one ps_never) pss_nil)))), ?_⟩
    refine ⟨_, rfl, _, _, .type "tuple", _, true, rfl, ClsV.ty _, .base (.tup hR), kit_ty (by decide +kernel), true, rfl, iteF ?_⟩
    refine ⟨_, rfl, R, _, rfl, .inl (.inl hR), for_it (walk_enumT (xs := ts.map V.ref)) (fun i σ H2 => Same H H2 ∧ ∃ v2 v3, σ = [some (.str (T L)), some (.ref R), v2, v3]) ⟨Same.refl H, _, _, rfl⟩ (fun i σ H2 _ h => .inl (.inl (h.1 _ _ hR))) ?_ ?_⟩
    · rintro i x σ H2 H3 hi ⟨s2, v2, v3, rfl⟩ ⟨t, x1, x2, rfl, ht, rfl, g1, g2⟩
      cases g1
      have g2 : (ts.map V.ref)[i]? = some x2 := g2
      rw [List.getElem?_map] at g2
      obtain ⟨a, ha, e⟩ := Option.map_eq_some_iff.mp g2
      subst e
      obtain ⟨ρ, hρ, hat⟩ := paired_at hp ha
      have sm := same_new ht (.tup [.int (i : Nat), .ref a])
      have hi2 : i < rs.length := (List.getElem?_eq_some_iff.mp hρ).1
      refine ⟨t, _, rfl, .inl (.inl upd_same), rfl, _, _, rfl, _, _, rfl, rfl, ?_⟩
      refine ⟨_, rfl, rfl, _, rfl, ?_⟩
      have nq : ¬ V.int ((i : Nat) : Int) = V.int 12 := fun z => by
        have := V.int.inj z
        omega
      rw [decide_eq_false nq]
      refine iteF ?_
      refine ⟨_, rfl, _, rfl, L, a, ρ, rfl, sm _ _ (s2 _ _ hat), hL, ho ρ (List.mem_of_getElem? hρ), fun H4 s4 => ?_⟩
      exact ⟨true, rfl, iteF ⟨s2.trans (sm.trans s4), _, _, rfl⟩⟩
    · rintro σ H2 ⟨s2, v2, v3, rfl⟩
      exact q H2 s2
end
end Say
namespace Say
open PySem PySem.Spec PyProof.Rows L2
section
variable {P : Program} {w : World} {K : PySem.W.Frag} {mg : Str → Option Value} {base : Heap}
abbrev sChE : Stmt := topS 31
theorem scChE : FnScope ["letters", "exceptions", "last", "number", "pair"] ["letters", "exceptions"] (defScope sChE) := ⟨rfl, rfl, rfl, by decide +kernel, rfl, by decide +kernel, by decide +kernel⟩
def spChE : Sp := fun vs H Q _ => ∃ (L : List Nat) (X : Addr) (es : List Exc), vs = [.str (T L), .ref X] ∧ ExcsAt H X es ∧ (∀ e ∈ es, ExcOk L e) ∧ es.length ≤ 8 ∧ (es.Pairwise fun e f => e.1 < f.1) ∧ ∀ (H' : Hp), Same H H' → Q .non H'
theorem ok_chE {f : Addr} {fd : FuncData} (F : Fun K "check_exceptions" "check_exceptions" sChE f fd) (B : Bn mg) (cM : KI mg "MOST_EXCEPTIONS" 8) (DI : Df P w K mg base "is_exception" ["letters", "pair"] 3 spIsExc) :
    FnOk P w K mg base CX0 4 f fd ["letters", "exceptions"] spChE := by
  obtain ⟨fI, fdI, GI, kI, bI, mI⟩ := DI
  obtain ⟨tS, mS⟩ := cM
  refine F.ok scChE (fun vs H Q E h => ?_) (fun cdv A outer s H vs Q E hr h => ?_)
  · obtain ⟨L, X, es, rfl, _⟩ := h
    rfl
  · obtain ⟨L, X, es, rfl, ⟨ts, hX, hp⟩, ho, h8, up, q⟩ := h
    refine ⟨_, pss_cons (ps_if (pt_not (pt_val (pe_callB call_isi (by rfl) B.isi (by decide +kernel) (pa_cons (pv 1) (pa_cons (pe_bltn (v := .ty "tuple") rfl B.tup (by decide +kernel) rfl) pa_nil))))) (pss_one ps_never) pss_nil)
      (pss_cons (ps_set (i := 2) scChE.nd rfl (.inl rfl) pe_str)
      (pss_one (ps_for PassesOwn.never rfl (pi_enumT (by rfl) B.enu (pa_cons (pv 1) pa_nil)) (pg_tup (by rfl) (pgs_cons (pg_name (i := 3) scChE.nd rfl (.inl rfl)) (pgs_cons (pg_name (i := 4) scChE.nd rfl (.inl rfl)) pgs_nil)))
        (pss_cons (ps_if (PW.pt (pw_or (pt_cmpR op_eq (pv 3) (pe_glob (v := .int 8) rfl mS ⟨_, rfl⟩) (nomark _)) (pw_or (pt_not (pt_val (pe_call GI hr (by rfl) mI kI bI .nil pass0 (pa_cons (pv 0) (pa_cons (pv 4) pa_nil)))))
            (pw_or1 (pt_cmpR op_le_str (pe_ix ix_tup (pv 4) pe_int (fun _ _ => rfl)) (pv 2) (nomark _)))))) (pss_one ps_never) pss_nil)
        (pss_one (ps_set (i := 2) scChE.nd rfl (.inl rfl) (pe_ix ix_tup (pv 4) pe_int (fun _ _ => rfl)))))))), ?_⟩
    refine ⟨_, rfl, _, _, .type "tuple", _, true, rfl, ClsV.ty _, .fTuple hX.choose_spec.1, kit_ty (by decide +kernel), true, rfl, iteF ?_⟩
    refine ⟨_, rfl, X, _, rfl, .inl hX.rd, for_it (walk_enumT (xs := ts.map V.ref)) (fun i σ H2 => Same H H2 ∧ ∃ l v3 v4, σ = [some (.str (T L)), some (.ref X), some (.str (T l)), v3, v4] ∧ ∀ e, es[i]? = some e → l < e.1) ⟨Same.refl H, [], _, _, by rw [← show Str.ofString "" = T [] from nil_eq]; rfl, fun e he => ?_⟩ (fun i σ H2 _ h => .inl (hX.kt (.of h.1)).rd) ?_ ?_⟩
    · have := (ho e (List.mem_of_getElem? he)).w1
      cases h : e.1 with
      | nil => rw [h] at this; exact absurd this (by decide)
      | cons a r => exact List.Lex.nil
    · rintro i x σ H2 H3 hi ⟨s2, l, v3, v4, rfl, hlt⟩ ⟨t, x1, x2, rfl, ht, rfl, g1, g2⟩
      cases g1
      have g2 : (ts.map V.ref)[i]? = some x2 := g2
      rw [List.getElem?_map] at g2
      obtain ⟨a, ha, e⟩ := Option.map_eq_some_iff.mp g2
      subst e
      obtain ⟨e, he, hat⟩ := paired_at hp ha
      have sm := same_new ht (.tup [.int (i : Nat), .ref a])
      have hi2 : i < es.length := (List.getElem?_eq_some_iff.mp he).1
      refine ⟨t, _, rfl, .inl (.inl upd_same), rfl, _, _, rfl, _, _, rfl, rfl, ?_⟩
      refine ⟨_, rfl, rfl, _, rfl, ?_⟩
      have nq : ¬ V.int ((i : Nat) : Int) = V.int 8 := fun z => by
        have := V.int.inj z
        omega
      rw [decide_eq_false nq]
      refine iteF ?_
      refine ⟨_, rfl, _, rfl, L, a, e, rfl, sm _ _ (s2 _ _ hat), ho e (List.mem_of_getElem? he), fun H4 s4 => ?_⟩
      have hat4 := s4 _ _ (sm _ _ (s2 _ _ hat))
      refine ⟨true, rfl, iteF ?_⟩
      refine ⟨_, rfl, a, _, 0, .str (T e.1), rfl, rfl, .inl (.inl hat4), atI_nat (j := 0) rfl, _, rfl, _, _, rfl, rfl, _, rfl, ?_⟩
      have lt := hlt e he
      rw [show decide ((T l).cps.toList < (T e.1).cps.toList) = true from decide_eq_true lt]
      refine iteF ?_
      refine ⟨_, rfl, a, _, 0, .str (T e.1), rfl, rfl, .inl (.inl hat4), atI_nat (j := 0) rfl, ?_⟩
      refine ⟨s2.trans (sm.trans s4), e.1, _, _, rfl, fun e' he' => ?_⟩
      exact (List.pairwise_iff_getElem.mp up) i (i + 1) hi2 (List.getElem?_eq_some_iff.mp he').1 (Nat.lt_succ_self _) |> fun h => by
        rw [(List.getElem?_eq_some_iff.mp he).2, (List.getElem?_eq_some_iff.mp he').2] at h
        exact h
    · rintro σ H2 ⟨s2, l, v3, v4, rfl, _⟩
      exact q H2 s2
abbrev sCh : Stmt := topS 28
theorem scCh : FnScope ["book", "letters", "rules", "exceptions"] ["book"] (defScope sCh) := ⟨rfl, rfl, rfl, by decide +kernel, rfl, by decide +kernel, by decide +kernel⟩
def spCh : Sp := fun vs H Q _ => ∃ (b : Addr) (L : List Nat) (rs : List Rule) (es : List Exc), vs = [.ref b] ∧ BookAt H b L rs es ∧ BookOk L rs es ∧ ∀ (H' : Hp), Same H H' → Q (.ref b) H'
theorem ok_ch {f : Addr} {fd : FuncData} (F : Fun K "checked_book" "checked_book" sCh f fd) (B : Bn mg) (DL : Df P w K mg base "check_letters" ["letters"] 2 spChL) (DR : Df P w K mg base "check_rules" ["letters", "rules"] 4 spChR)
    (DE : Df P w K mg base "check_exceptions" ["letters", "exceptions"] 4 spChE) : FnOk P w K mg base CX0 5 f fd ["book"] spCh := by
  obtain ⟨fL, fdL, GL, kL, bL, mL⟩ := DL
  obtain ⟨fR, fdR, GR, kR, bR, mR⟩ := DR
  obtain ⟨fE, fdE, GE, kE, bE, mE⟩ := DE
  refine F.ok scCh (fun vs H Q E h => ?_) (fun cdv A outer s H vs Q E hr h => ?_)
  · obtain ⟨b, L, rs, es, rfl, _⟩ := h
    rfl
  · obtain ⟨b, L, rs, es, rfl, ⟨R, X, hb, hR, hX⟩, ho, q⟩ := h
    refine ⟨_, pss_cons (ps_if (PW.pt (pw_or (pt_not (pt_val (pe_callB call_isi (by rfl) B.isi (by decide +kernel) (pa_cons (pv 0) (pa_cons (pe_bltn (v := .ty "tuple") rfl B.tup (by decide +kernel) rfl) pa_nil)))))
          (pw_or1 (pt_cmpR op_ne (pe_callB call_len (by rfl) B.len PySem.boot_len (pa_cons (pv 0) pa_nil)) pe_int (nomark _))))) (pss_one ps_never) pss_nil)
      (pss_cons (ps_asg (pv 0) (pg_tup (by rfl) (pgs_cons (pg_name (i := 1) scCh.nd rfl (.inl rfl)) (pgs_cons (pg_name (i := 2) scCh.nd rfl (.inl rfl)) (pgs_cons (pg_name (i := 3) scCh.nd rfl (.inl rfl)) pgs_nil)))))
      (pss_cons (ps_expr (pe_call GL (hr.mono (by decide)) (by rfl) mL kL bL .nil pass0 (pa_cons (pv 1) pa_nil)))
      (pss_cons (ps_expr (pe_call GR hr (by rfl) mR kR bR .nil pass0 (pa_cons (pv 1) (pa_cons (pv 2) pa_nil))))
      (pss_cons (ps_expr (pe_call GE hr (by rfl) mE kE bE .nil pass0 (pa_cons (pv 1) (pa_cons (pv 3) pa_nil))))
      (pss_one (ps_ret (pv 0))))))), ?_⟩
    refine ⟨_, rfl, _, _, .type "tuple", _, true, rfl, ClsV.ty _, .base (.tup hb), kit_ty (by decide +kernel), true, rfl, iteF ?_⟩
    refine ⟨_, rfl, _, 3, rfl, .inr ⟨_, .inl (.inl hb), rfl⟩, rfl, _, rfl, iteF ?_⟩
    refine ⟨_, rfl, b, _, rfl, .inl (.inl hb), rfl, _, _, rfl, _, _, rfl, _, _, rfl, rfl, ?_⟩
    refine ⟨_, rfl, L, rfl, ho.lt, fun H1 s1 => ?_⟩
    refine ⟨_, rfl, _, rfl, L, R, rs, rfl, ho.lt, hR.kt (.of s1), ho.rl, ho.r12, fun H2 s2 => ?_⟩
    refine ⟨_, rfl, _, rfl, L, X, es, rfl, hX.kt (.of (s1.trans s2)), ho.ex, ho.e8, ho.up, fun H3 s3 => ?_⟩
    exact ⟨_, rfl, q H3 (s1.trans (s2.trans s3))⟩
end
end Say
namespace Say
open PySem PySem.Spec PyProof.Rows L2
/-- a written dict: what stands at a key, or none -/
def KGt (K : PySem.W.Frag) (w : World) (a : Addr) (x : Str) (v : V) : Prop :=
  ∃ es n r, K.lookup a = some ⟨.type "dict", none, .dict es n, #[]⟩ ∧ PySem.W.KeysLit w.params es.toList ∧ (a == sysModules) = false ∧ PySem.W.nsIn K a x = some r ∧ RelV v (r.getD .none)
section
variable {X : Cx} {o e : Expr} {apos cpos : Pos} {td ty : TE} {d : Addr}
/-- d.get(x) of a written dict -/
def tKGet (K : PySem.W.Frag) (w : World) (d : Addr) (td ty : TE) : TE := fun σ H Q => td σ H fun x H1 => x = .ref d ∧ ty σ H1 fun y H2 => ∃ (z : Str) (v : V), y = .str z ∧ KGt K w d z v ∧ Q v H2
theorem pe_kget {es : Array DictEntry} {n : Nat} (hl : X.K.lookup d = some ⟨.type "dict", none, .dict es n, #[]⟩) (hk : PySem.W.KeysLit X.w.params es.toList) (ho : PE X o td) (he : PE X e ty) (m : M1 X o "get" apos e cpos) :
    PE X (.Call (.Attribute o "get" apos) [e] [] cpos) (tKGet X.K X.w d td ty) := by
  refine ⟨fun pins s σ H Q I h => ?_⟩
  refine wpAny_Call_method m.base m.few m.line PySem.F.plainAttrs_dict PySem.F.slot_dict_get PySem.F.type_dict_get (thn (ho.run pins s σ H _ I h) fun u s1 ⟨x, H1, I1, rx, ex, q1⟩ => ?_)
  subst ex
  obtain rfl : u = Value.ref d := rx
  have hm1 := PySem.W.mapOf_K (prog := X.prog) (w := X.w) I1.kIn hl hk
  refine ⟨hm1.typeIs, fun b hb => ?_, ?_⟩
  · cases hb
    exact ⟨_, I1.kIn _ _ hl, rfl⟩
  rw [m.trees]
  refine Calls.callWith_builtin rfl (Calls.evalArgs_plain (Calls.spliced_cons (thn (he.run pins s1 σ H1 _ I1 q1) fun iv s2 ⟨y, H2, I2, ry, z, v, ey, g, q2⟩ => Calls.spliced_nil ?_)))
  subst ey
  obtain ⟨t, rfl⟩ := ry
  obtain ⟨es', n', r, hl', hk', lo, e, rv⟩ := g
  have hm := PySem.W.mapOf_K (prog := X.prog) (w := X.w) I2.kIn hl' hk'
  refine call_meetsIn PySem.F.slot_dict_get hm.typeIs PySem.F.entry_dict_get (PySem.F.args_dict_get_2 _ _) (meets_dict_get (strKind X.prog X.w) d (strKind_is X.prog X.w z t) lo) ⟨_, hm, ?_⟩
  rw [PySem.W.find_K hl' e]
  exact ⟨v, H2, I2.tok _, rv, q2⟩
end
end Say
namespace Say
open PySem PySem.Spec PyProof.Rows L2
/-! ### written dicts with texts for keys -/
def tabV (kvs : List (Str × V)) (x : Str) : V := ((kvs.find? fun kv => kv.1 == x).map (·.2)).getD .non
theorem tab_find {x : Str} : ∀ {l : List DictEntry} {kvs : List (Str × V)}, Paired (fun (e : DictEntry) (kv : Str × V) => (∃ t, e.key = .str kv.1 t) ∧ RelV kv.2 e.val) l kvs →
    l.any (·.refKey) = false ∧ ((l.find? (·.key.isStr x) = none ∧ kvs.find? (fun kv => kv.1 == x) = none) ∨ ∃ e kv, l.find? (·.key.isStr x) = some e ∧ kvs.find? (fun kv => kv.1 == x) = some kv ∧ RelV kv.2 e.val)
  | _, _, .nil => ⟨rfl, .inl ⟨rfl, rfl⟩⟩
  | e :: l, kv :: kvs, .cons h r => by
    obtain ⟨⟨t, ht⟩, hv⟩ := h
    obtain ⟨h1, h2⟩ := tab_find (x := x) r
    have hk : e.key.isStr x = (kv.1 == x) := by rw [ht] <;> rfl
    have hr : e.refKey = false := by unfold DictEntry.refKey; rw [ht] <;> rfl
    refine ⟨by rw [List.any_cons, hr, h1] <;> rfl, ?_⟩
    rw [List.find?_cons, List.find?_cons, hk]
    cases c : kv.1 == x with
    | true => exact .inr ⟨e, kv, rfl, rfl, hv⟩
    | false => exact h2
theorem kgt_all {K : PySem.W.Frag} {w : World} {a : Addr} {es : Array DictEntry} {n : Nat} {kvs : List (Str × V)} (hl : K.lookup a = some ⟨.type "dict", none, .dict es n, #[]⟩) (hk : PySem.W.KeysLit w.params es.toList) (lo : (a == sysModules) = false)
    (h : Paired (fun (e : DictEntry) (kv : Str × V) => (∃ t, e.key = .str kv.1 t) ∧ RelV kv.2 e.val) es.toList kvs) (x : Str) : KGt K w a x (tabV kvs x) := by
  obtain ⟨h1, h2⟩ := tab_find (x := x) h
  unfold tabV
  rcases h2 with ⟨e1, e2⟩ | ⟨e, kv, e1, e2, r⟩
  · refine ⟨es, n, none, hl, hk, lo, ?_, by rw [e2] <;> rfl⟩
    unfold PySem.W.nsIn
    rw [hl]
    show (match es.toList.find? (·.key.isStr x) with | some e => some (some e.val) | none => if es.toList.any (·.refKey) then none else some none) = some none
    rw [e1, h1]
    rfl
  · refine ⟨es, n, some e.val, hl, hk, lo, ?_, by rw [e2]; exact r⟩
    unfold PySem.W.nsIn
    rw [hl]
    show (match es.toList.find? (·.key.isStr x) with | some e => some (some e.val) | none => if es.toList.any (·.refKey) then none else some none) = some (some e.val)
    rw [e1]
theorem rel_none {v : V} (h : RelV v .none) : v = .non := by
  cases v with
  | non => rfl
  | bl b => have h : Value.none = Value.bool b := h; cases h
  | int i => obtain ⟨_, z⟩ := (show ∃ t, Value.none = Value.int i t from h); cases z
  | str i => obtain ⟨_, z⟩ := (show ∃ t, Value.none = Value.str i t from h); cases z
  | byt i => obtain ⟨_, z⟩ := (show ∃ t, Value.none = Value.bytes i t from h); cases z
  | flt i => obtain ⟨_, z⟩ := (show ∃ t, Value.none = Value.float i t from h); cases z
  | ref a => have h : Value.none = Value.ref a := h; cases h
  | ty a => have h : Value.none = Value.type a := h; cases h
theorem KGt.dct {K : PySem.W.Frag} {w : World} {a : Addr} {x : Str} {v : V} (h : KGt K w a x v) (n : v ≠ .non) : KDct K w a x v := by
  obtain ⟨es, m, r, hl, hk, lo, e, rv⟩ := h
  cases r with
  | none =>
    exact absurd (rel_none rv) n
  | some u => exact ⟨es, m, u, hl, hk, e, rv⟩
def strV (r : List (List Nat)) : List V := (r.map T).map V.str
theorem strV_flat (r : List (List Nat)) : (strV r).all flatV = true := by
  unfold strV
  rw [List.all_map, List.all_map, List.all_eq_true]
  intro z _
  rfl
theorem inV_str (x : List Nat) (r : List (List Nat)) : inV (.str (T x)) (strV r) = r.contains x := by
  unfold inV strV
  rw [List.any_map, List.any_map, List.contains_eq_any_beq, Bool.eq_iff_iff, List.any_eq_true, List.any_eq_true]
  refine ⟨fun ⟨z, hz, h⟩ => ⟨z, hz, ?_⟩, fun ⟨z, hz, h⟩ => ⟨z, hz, ?_⟩⟩
  · have h : (T z == T x) = true := h
    rw [beq_iff_eq] at h ⊢
    exact (T_inj h).symm
  · rw [beq_iff_eq] at h
    show (T z == T x) = true
    rw [h, beq_self_eq_true]
theorem strV_at {r : List (List Nat)} {i : Nat} {z : List Nat} (h : r[i]? = some z) : (strV r)[i]? = some (.str (T z)) := by
  unfold strV
  rw [List.map_map, List.getElem?_map, h]
  rfl
theorem strV_len (r : List (List Nat)) : (strV r).length = r.length := by unfold strV; rw [List.length_map, List.length_map]
end Say
namespace Say
open PySem PySem.Spec PyProof.Rows L2
theorem tyL {K : PySem.W.Frag} {H : Hp} {a : Addr} {xs : List V} (h : SqL K H a xs) : TyX K H (.ref a) (.type "list") := by
  rcases h with (h | ⟨o, h⟩) | ⟨o, its, n, h, hc, _⟩
  · exact .base (.lst h)
  · exact .base (.frz h)
  · exact .kList h hc
theorem tyT {K : PySem.W.Frag} {H : Hp} {a : Addr} {xs : List V} (h : SqT K H a xs) : TyX K H (.ref a) (.type "tuple") := by
  rcases h with (h | ⟨o, h⟩) | ⟨o, its, n, h, hc, _⟩
  · exact .base (.tup h)
  · exact .fTuple h
  · exact .kTuple h hc
theorem seqT_same {K : PySem.W.Frag} {H H' : Hp} {a : Addr} {xs : List V} (e : Same H H') (h : SqT K H a xs) : SqT K H' a xs := by
  rcases h with (h | ⟨o, h⟩) | h
  · exact .inl (.inl (e _ _ h))
  · exact .inl (.inr ⟨o, e _ _ h⟩)
  · exact .inr h
def NoTup (K : PySem.W.Frag) (H : Hp) (v : V) : Prop := v = .non ∨ (∃ z, v = .str z) ∨ (∃ i, v = .int i) ∨ ∃ a xs, v = .ref a ∧ SqL K H a xs
def NoLst (K : PySem.W.Frag) (H : Hp) (v : V) : Prop := v = .non ∨ (∃ z, v = .str z) ∨ (∃ i, v = .int i) ∨ ∃ a xs, v = .ref a ∧ SqT K H a xs
theorem NoTup.ty {K : PySem.W.Frag} {H : Hp} {v : V} (h : NoTup K H v) : ∃ t, TyX K H v (.type t) ∧ kitB t "tuple" = some false := by
  rcases h with rfl | ⟨z, rfl⟩ | ⟨i, rfl⟩ | ⟨a, xs, rfl, h⟩
  · exact ⟨_, .base .non, by decide +kernel⟩
  · exact ⟨_, .base (.str _), by decide +kernel⟩
  · exact ⟨_, .base (.int _), by decide +kernel⟩
  · exact ⟨_, tyL h, by decide +kernel⟩
theorem NoLst.ty {K : PySem.W.Frag} {H : Hp} {v : V} (h : NoLst K H v) : ∃ t, TyX K H v (.type t) ∧ kitB t "list" = some false := by
  rcases h with rfl | ⟨z, rfl⟩ | ⟨i, rfl⟩ | ⟨a, xs, rfl, h⟩
  · exact ⟨_, .base .non, by decide +kernel⟩
  · exact ⟨_, .base (.str _), by decide +kernel⟩
  · exact ⟨_, .base (.int _), by decide +kernel⟩
  · exact ⟨_, tyT h, by decide +kernel⟩
theorem NoTup.same {K : PySem.W.Frag} {H H' : Hp} {v : V} (h : NoTup K H v) (s : Same H H') : NoTup K H' v := by
  rcases h with h | h | h | ⟨a, xs, h1, h2⟩
  · exact .inl h
  · exact .inr (.inl h)
  · exact .inr (.inr (.inl h))
  · exact .inr (.inr (.inr ⟨a, xs, h1, Same.seq s h2⟩))
/-- no text -/
def NoStr (K : PySem.W.Frag) (H : Hp) (v : V) : Prop := v = .non ∨ (∃ i, v = .int i) ∨ (∃ a xs, v = .ref a ∧ SqL K H a xs) ∨ ∃ a xs, v = .ref a ∧ SqT K H a xs
theorem NoStr.ty {K : PySem.W.Frag} {H : Hp} {v : V} (h : NoStr K H v) : ∃ t, TyX K H v (.type t) ∧ kitB t "str" = some false := by
  rcases h with rfl | ⟨i, rfl⟩ | ⟨a, xs, rfl, h⟩ | ⟨a, xs, rfl, h⟩
  · exact ⟨_, .base .non, by decide +kernel⟩
  · exact ⟨_, .base (.int _), by decide +kernel⟩
  · exact ⟨_, tyL h, by decide +kernel⟩
  · exact ⟨_, tyT h, by decide +kernel⟩
/-- a text, not too long, or none -/
def VOk (K : PySem.W.Frag) (H : Hp) (v : V) : Prop := (∃ z : List Nat, v = .str (T z) ∧ z.length ≤ 100) ∨ NoStr K H v
theorem NoStr.same {K : PySem.W.Frag} {H H' : Hp} {v : V} (h : NoStr K H v) (s : Same H H') : NoStr K H' v := by
  rcases h with h | h | ⟨a, xs, h1, h2⟩ | ⟨a, xs, h1, h2⟩
  · exact .inl h
  · exact .inr (.inl h)
  · exact .inr (.inr (.inl ⟨a, xs, h1, Same.seq s h2⟩))
  · exact .inr (.inr (.inr ⟨a, xs, h1, seqT_same s h2⟩))
theorem VOk.same {K : PySem.W.Frag} {H H' : Hp} {v : V} (h : VOk K H v) (s : Same H H') : VOk K H' v := by
  rcases h with h | h
  · exact .inl h
  · exact .inr (h.same s)
end Say
namespace PySem
namespace XBadDeed
open PySem.W PySem.Calls PyProof.Rows PySem.HandSPX
/-! ### the text of BadDeed.__init__ -/
abbrev sEx : Stmt := L2.inClass (Say.topS 11) 0
abbrev iA : Arguments := L2.defArgs sEx
abbrev iB : List Stmt := L2.defBody sEx
abbrev iS : Scope := L2.defScope sEx
def eF : Expr := match iB with
  | .Expr (.Call _ (e :: _) _ _) _ :: _ => e
  | _ => .Constant .none 0 ⟨0, 0, 0, 0⟩
theorem eF_eq : ∃ c1 c2 d2 c3 c0, eF = .JoinedStr [.Constant (.str "deed ") 0 c1, .FormattedValue (.Name "number" c2) (-1) none d2, .Constant (.str " can't be") 0 c3] c0 := ⟨_, _, _, _, _, rfl⟩
theorem slen (x y : Str) : (x ++ y).length = x.length + y.length := by rw [TL.len_tl, TL.tl_append, List.length_append, ← TL.len_tl, ← TL.len_tl]
theorem iS_cell : ∀ y ∈ iS.names, y.2 ≠ .cell := by decide +kernel
/-- what the written part says of BadDeed, at C, and of its __init__, at fI -/
structure ExTxt (P : Program) (K : Frag) (mg : Str → Option Value) (C fI : Addr) : Prop where
  gC : mg "BadDeed" = some (.ref C)
  sB : mg "super" = none
  cls : ∃ nm q N bs bm sn sub ab col dd k0 k1 k2 k3 k5, K.lookup C = some (excClassObj nm q C N bs bm true sn sub ab col dd k0 k1 k2 k3 k5 "ValueError.__new__") ∧ refsVE bm = true
  sa : findIn K (.ref C) "__setattr__" = some (some (.builtin "object.__setattr__"))
  noP0 : findIn K (.ref C) "number" = some none
  iC : findIn K (.ref C) "__init__" = some (some (.ref fI))
  tC : typeIn K (.ref fI) = some (.type "function")
  kC : keepIn K (.ref C) = true
  exC : subIn K (.ref C) (.type "BaseException") = some true
  tyC : typeIn K (.ref C) = some (.type "type")
  sup : ks_superIn K C C "__init__" = some (some (.builtin "ValueError.__init__"))
  subV : subIn K (.ref C) (.type "ValueError") = some true
  any : nsIn K cStatics "thirdparty.any" = some none
  main : (P.main.scope.names.lookup ("super" : Str)).isSome = false
  fn : ∃ (oc : Value) (od : Option Addr) (doc pm : Value) (an : Option Addr) (cda cc : Addr) (ct : Value) (osl : Array (Option Value)),
    K.lookup fI = some ⟨oc, od, .func (ksFn "__init__" "BadDeed.__init__" iA iB iS .none .none doc pm an (.ref cda) ct cc), osl⟩ ∧ codeIn K (.ref cda) "BadDeed.__init__" = true ∧
    (∃ cl cld csl, K.lookup cc = some ⟨cl, cld, .cell (some (.ref C)), csl⟩) ∧ ∃ ccl cdd vs ccs file tf, K.lookup cda = some ⟨ccl, cdd, .fields vs, ccs⟩ ∧ vs[2]? = some (.str file tf) ∧ ((P.main.file : Str) == file) = true
/-- what __init__ leaves of a fresh exception at x -/
structure InitEnd (h h' : Heap) (x C dx : Addr) (v0 : Value) : Prop where
  keep : ∀ b o, b ≠ x → h.get? b = some o → h'.get? b = some o
  obj : ∃ t1 : Addr, h'.get? x = some { cls := .ref C, dict := some dx, data := .fields #[.ref t1, .none, .none, .none, .bool false, .none] }
  dbig : h.objs.size ≤ dx
  dne : dx ≠ x
  ns : h'.Ns1 dx (fun y => if y = "number" then some v0 else none)
section
variable {prog : Program} {w : World} {A : Around} {E : Value → Shared → Prop} {R : Result → Shared → Prop} {s : Shared} {K : Frag} {mg : Str → Option Value} {C fI : Addr} {base : Heap}
theorem ld {M : Model} {s : Shared} {env : Env} {m : Str → Option Value} {x : Str} {pos : Pos} {v : Value} {Q : Value → Shared → Prop} {A : Around} {E : Value → Shared → Prop} (hn : s.heap.Ns env.locals m) (hv : m x = some v) (h : Q v s)
    (hk : env.scope.kind = .function) (hl : env.kindOf x = some .local) (hd : (x == ("__debug__" : Str)) = false := by decide) :
    wpAny M A (eval (.Name x pos) env) Q E s := wpAny_Name (wpAny_loadName_local hk hl hn hv h) hd
theorem ex_init (T : ExTxt prog K mg C fI) {x t0 : Addr} {i : Int} {ti : Tok} (B : L2.Mod K mg base) (kb : ∀ b o, base.get? b = some o → s.heap.get? b = some o) (hx : s.heap.get? x = some (excO C t0)) (hnx : base.get? x = none) (hi : i.natAbs.log2 < 1920) (hi2 : (toString i : Str).length ≤ 1000) (hroom : A.depth < recursionLimit)
    (hq : ∀ h' tk dx, InitEnd s.heap h' x C dx (.int i ti) → R (.ok (.ret .none)) { s with heap := h', toks := tk }) :
    codeAny (model prog w) A (.call (.ref fI) ⟨[.ref x, .int i ti], []⟩) R s := by
  obtain ⟨oc, od, doc, pm, an, cda, cc, ct, osl, ho, hcd, ⟨cl, cld, csl, hcell⟩, ccl, cdd, vs, ccs, file, tf, hcode, hvs, hfile⟩ := T.fn
  obtain ⟨nm, q, N, bs, bm, sn, sub, ab, col, dd, k0, k1', k2, k3, k5, hC, hbm⟩ := T.cls
  obtain ⟨hp, g, dr, tk0, os⟩ := s
  have hcl : clsIn K C = some { name := nm, bases := bs, mro := .ref C :: bm, ns := N, qualname := q, hasDict := true, slotNames := sn, subclasses := sub, abstract := ab, collection := col, hasDel := false } := by unfold clsIn; rw [hC] <;> rfl
  have X : K.In hp := B.kin.keeps kb
  have nl : hp.NoLimit := B.nolimit.keeps kb
  refine ks_codeAny_call_defAt (fd := ksFn "__init__" "BadDeed.__init__" iA iB iS .none .none doc pm an (.ref cda) ct cc) (body := iB) (binds := [("self", .ref x), ("number", .int i ti)])
    hroom (X _ _ ho) rfl nl (codeRec_of X hcd) rfl (BindsTo.of_eq (by first | rfl | with_unfolding_all rfl)) iS_cell (fun y hy => ?_) (fun h₀ hns k => ?_)
  · have e : y = (PySem.Str.ofString "self", Value.ref x) ∨ y = (PySem.Str.ofString "number", Value.int i ti) := by simpa using hy
    rcases e with rfl | rfl
    · exact (by decide +kernel : iS.names.lookup (PySem.Str.ofString "self") = some .local)
    · exact (by decide +kernel : iS.names.lookup (PySem.Str.ofString "number") = some .local)
  generalize hL : (Shared.heap ⟨hp, g, dr, tk0, os⟩).objs.size = L at hns ⊢
  have henv : callEnv (ksFn "__init__" "BadDeed.__init__" iA iB iS .none .none doc pm an (.ref cda) ct cc) L fI = ksEnv "BadDeed.__init__" iS L fI (.ref cda) cc := rfl
  rw [henv]
  have X0 : K.In h₀ := X.keeps k
  have hx0 := k _ _ hx
  have kb0 : ∀ b o, base.get? b = some o → h₀.get? b = some o := fun b o e => k b o (kb b o e)
  obtain ⟨oC, hC0, hC1⟩ : ∃ oC, h₀.get? C = some oC ∧ oC.data = .cls { name := nm, bases := bs, mro := .ref C :: bm, ns := N, qualname := q, hasDict := true, slotNames := sn, subclasses := sub, abstract := ab, collection := col, hasDel := false } := ⟨_, X0 _ _ hC, rfl⟩
  have I0 : InstAt h₀ x (excO C t0) C none := ⟨hx0, rfl, rfl, trivial⟩
  obtain ⟨mb, hb1, hb2⟩ := B.blt
  have hxC : x ≠ C := fun z => by
    rw [z, hC0] at hx0
    cases hx0
    cases hC1
  have hsub : mroIn K C (.ref C) = some true := by
    unfold mroIn
    rw [hcl]
    simp
  have nS : iS.names.lookup (PySem.Str.ofString "super") = some .globalImplicit := by decide +kernel
  have nC : iS.names.lookup (PySem.Str.ofString "__class__") = some .free := by decide +kernel
  have nx : iS.names.lookup (PySem.Str.ofString "self") = some .local := by decide +kernel
  have np0 : iS.names.lookup (PySem.Str.ofString "number") = some .local := by decide +kernel
  have hLx : L ≠ x := by
    rw [← hL]
    exact Nat.ne_of_gt (Heap.lt_size hx)
  refine ks_wpAt_execs_cons (ks_wpAt_Expr_any (ks_wpAt_MethodCall (ks_wpAt_super_base nS nC (by decide +kernel) rfl (X0 _ _ ho) rfl rfl rfl (X0 _ _ hcode) rfl hvs hfile T.main ?_)))
  refine ks_loadName_global rfl nS (loadGlobal_builtin (B.glob.keeps kb0) T.sB (hb1.keeps kb0) ((hb2 _ (by decide +kernel)).trans (by decide +kernel)) ⟨rfl, ?_⟩)
  refine wpAny_loadName_free rfl nC rfl ⟨_, X0 _ _ hcell, rfl⟩ ?_
  refine wpAny_loadName_local rfl nx hns rfl ?_
  refine ks_wpAny_isType_cls hC0 hC1 ⟨rfl, ?_⟩
  refine ks_wpAny_call_super hC0 hC1 hx0 rfl (fun c e => by cases e) (looks_mroIn X0 hsub) (fun h1 e1 k1 => ?_)
  have X1 : K.In h1 := X0.keeps k1
  have hx1 := k1 _ _ hx0
  have I1 : InstAt h1 x (excO C t0) C none := ⟨hx1, rfl, rfl, trivial⟩
  have hf : alongIn K "__init__" (((Value.ref C :: bm).dropWhile (· != .ref C)).drop 1) = some (some (.builtin "ValueError.__init__")) := by
    have := T.sup
    unfold ks_superIn at this
    rw [hcl] at this
    exact this
  refine kxs_getMethod kxs_ValueError e1 (looks_opaque X1 T.any) (l₀ := .ref C :: bm) (fun A Q E s k q => wpAny_bind ((looks_clsIn X1 hcl) A _ E s k (wpAny_pure q))) rfl X1 hf (I1.type.andThen (looks_subIn X1 T.subV)) hxC (by decide +kernel) ?_
  have hu : (h1.push (kxs_mw "ValueError.__init__" x)).get? h1.objs.size = some (kxs_mw "ValueError.__init__" x) := Heap.get?_push_size _ rfl
  have k2' : ∀ b o, h₀.get? b = some o → (h1.push (kxs_mw "ValueError.__init__" x)).get? b = some o := fun b o e => Heap.get?_push_of_some _ (k1 b o e)
  generalize h1.push (kxs_mw "ValueError.__init__" x) = h2 at hu k2' ⊢
  generalize h1.objs.size = u at hu ⊢
  have X2 : K.In h2 := X0.keeps k2'
  have hx2 := k2' _ _ hx0
  have hns2 := hns.keeps k2'
  -- the text that is handed on
  show wpAny _ _ (callWith _ (.ref u) [] _ []) _ _ _
  refine kxs_callWith (i := "ValueError.__init__") (x := x) rfl (evalArgs_plain ?_)
  show wpAny _ _ (spliced ((false, eval eF (ksEnv "BadDeed.__init__" iS L fI (.ref cda) cc)) :: [])) _ _ _
  obtain ⟨c1, c2, d2, c3, c0, eFe⟩ := eF_eq
  rw [eFe]
  have z0 : Str.empty.length = 0 := by decide +kernel
  have z1 : (PySem.Str.ofString "deed ").length = 5 := by decide +kernel
  have z2 : (PySem.Str.ofString " can't be").length = 9 := by decide +kernel
  refine Calls.spliced_cons (wpAny_JoinedStr ?_)
  refine wpAny_Constant_str ⟨_, _, rfl, (by show ((Str.empty ++ PySem.Str.ofString "deed ")).length ≤ sizeLine; simp only [slen, z0, z1, z2, sizeLine_eq]; omega), ?_⟩
  refine wpAny_FormattedValue_plain (ld hns2 rfl ?_ rfl np0)
  refine wpAny_formatField_int hi ⟨_, _, rfl, (by show (((Str.empty ++ PySem.Str.ofString "deed ") ++ (toString i : Str))).length ≤ sizeLine; simp only [slen, z0, z1, z2, sizeLine_eq]; omega), ?_⟩
  refine wpAny_Constant_str ⟨_, _, rfl, (by show ((((Str.empty ++ PySem.Str.ofString "deed ") ++ (toString i : Str)) ++ PySem.Str.ofString " can't be")).length ≤ sizeLine; simp only [slen, z0, z1, z2, sizeLine_eq]; omega), ?_⟩
  refine ⟨(by show ((((Str.empty ++ PySem.Str.ofString "deed ") ++ (toString i : Str)) ++ PySem.Str.ofString " can't be")).length ≤ sizeLine; simp only [slen, z0, z1, z2, sizeLine_eq]; omega), ?_⟩
  refine Calls.spliced_nil ⟨hu, ?_⟩
  refine wpAny_call (codeAny_of_tree ?_)
  show wpAny _ _ (callAny (.ref u) ⟨_, []⟩) _ _ _
  simp only [callAny]
  refine wpAny_bind (wpAny_load hu ?_)
  simp only [kxs_mw, show (Value.type "method-wrapper" == Value.type "method" || Value.type "method-wrapper" == Value.type "builtin_function_or_method" || Value.type "method-wrapper" == Value.type "method-wrapper") = true by decide, if_true]
  refine KFB.if_so (by decide) ?_
  refine wpAny_bind (check_bound_init F.excBase_ValueError.toExcCallFacts (X2 _ _ hC) hx2 rfl ?_)
  refine wpAny_bind (wpAny_pure (wpAny_pure ?_))
  refine ⟨plainId_quiet F.excBase_ValueError.init.plain _, codeAny_builtin F.excBase_ValueError.initEntry ?_⟩
  refine exc_init_tree (cls := .ref C) (t0 := t0) (dv := none) (c2 := .none) (c3 := .none) (b4 := .bool false) hx2 (by rw [sizeLine_eq]; show 1 ≤ 16777216; decide) fun h3 k3 e3 _ => ?_
  have k3' : ∀ b o, b ≠ x → h₀.get? b = some o → h3.get? b = some o := fun b o hb e => k3 b o hb (k2' b o e)
  have X3 : K.In h3 := fun b o e => k3' b o (fun z => by
    have := B.kin b o e
    rw [z, hnx] at this
    cases this) (X0 b o e)
  have hns3 : h3.Ns L (fun y => (([("self", Value.ref x), ("number", .int i ti)] : List (Str × Value)).reverse.lookup y)) := hns.at fun o e => k3' L o hLx e
  show wpAt _ _ _ (execs (_ :: []) _) _ _ _
  refine ks_wpAt_execs_cons (ks_wpAt_Assign_Attr (wpAt_of_wpAny (ld hns3 rfl (ld hns3 rfl ?_ rfl nx) rfl np0)))
  refine set_plain X3 (ox := excO C h2.objs.size) (od := none) ⟨e3, rfl, rfl, trivial⟩ T.sa ?_
  refine exc_osa X3 e3 hcl (show refsVE (.ref C :: bm) = true from hbm) rfl T.noP0 (fun h4 tk4 dx k4 dn dne hx4 hn4 => ?_)
  show wpAt _ _ _ (execs [] _) _ _ _
  refine wpAt_of_wpAny (wpAny_execs_nil ?_)
  have big : hp.objs.size ≤ dx := by
    have h1 : L < h3.objs.size := hns3.lt
    have h2 : hp.objs.size = L := hL
    exact Nat.le_trans (Nat.le_of_eq h2) (Nat.le_trans (Nat.le_of_lt h1) dn)
  exact hq h4 _ dx ⟨fun b o hb e => k4 b o hb (k3' b o hb (k b o e)), ⟨_, hx4⟩, big, dne, hn4⟩
end
end XBadDeed
end PySem
namespace PySem
namespace XBadDeed
open PySem.W PySem.Calls PyProof.Rows PySem.HandSPX
/-- a made BadDeed -/
structure OwnMade (h h' : Heap) (e C d : Addr) (v0 : Value) : Prop where
  keep : ∀ b o, h.get? b = some o → h'.get? b = some o
  new : h.objs.size ≤ e
  obj : ∃ oe vs, h'.get? e = some oe ∧ oe.cls = .ref C ∧ oe.dict = some d ∧ oe.data = .fields vs ∧ vs[1]? = some .none
  dbig : h.objs.size ≤ d
  dne : d ≠ e
  ns : h'.Ns1 d (fun y => if y = "number" then some v0 else none)
theorem one_size (v0 : Value) : [v0].length ≤ sizeLine := by
  rw [sizeLine_eq]
  exact (by decide : 1 ≤ 16777216)
section
variable {prog : Program} {w : World} {A : Around} {E : Value → Shared → Prop} {R : Result → Shared → Prop} {s : Shared} {K : Frag} {mg : Str → Option Value} {C fI : Addr} {base : Heap}
theorem ex_made (T : ExTxt prog K mg C fI) {i : Int} {ti : Tok} (B : L2.Mod K mg base) (kb : ∀ b o, base.get? b = some o → s.heap.get? b = some o) (hi : i.natAbs.log2 < 1920) (hi2 : (toString i : Str).length ≤ 1000) (hroom : A.depth + 1 < recursionLimit)
    (hq : ∀ h' tk e d, OwnMade s.heap h' e C d (.int i ti) → R (.ok (.ret (.ref e))) { s with heap := h', toks := tk }) :
    codeAny (model prog w) A (.call (.ref C) ⟨[.int i ti], []⟩) R s := by
  obtain ⟨nm, q, N, bs, bm, sn, sub, ab, col, dd, k0, k1, k2, k3, k5, hC, hbm⟩ := T.cls
  have X : K.In s.heap := B.kin.keeps kb
  obtain ⟨hp, g, dr, tk, os⟩ := s
  have k : ∀ b o, hp.get? b = some o → ((hp.push (kdv_tup [.int i ti])).push (excO C hp.objs.size)).get? b = some o := fun b o e => Heap.get?_push_of_some _ (Heap.get?_push_of_some _ e)
  have hget : ((hp.push (kdv_tup [.int i ti])).push (excO C hp.objs.size)).get? (hp.objs.size + 1) = some (excO C hp.objs.size) := by heap_get
  have hnx : base.get? (hp.objs.size + 1) = none := by
    cases e : base.get? (hp.objs.size + 1) with
    | none => rfl
    | some o =>
      have z : hp.get? (hp.objs.size + 1) = some o := kb _ _ e
      exact absurd (Nat.lt_of_succ_lt (Heap.lt_size z)) (Nat.lt_irrefl _)
  refine call_own F.excBase_ValueError (fun X => refsVE_contains X bm hbm) (X _ _ hC) (looks_findIn X T.iC) (fun self => bind_fn X self T.tC) (one_size (.int i ti)) ?_
  refine ex_init (s := ⟨(hp.push (kdv_tup [.int i ti])).push (excO C hp.objs.size), g, dr, tk, os⟩) T B (fun b o e => k b o (kb b o e)) hget hnx hi hi2 ?_ fun h' tk' dx ⟨k', ⟨t1, hx⟩, dn, dne, hns⟩ => ?_
  · show A.depth + 1 < recursionLimit
    exact hroom
  · have old : ∀ b o, hp.get? b = some o → h'.get? b = some o := fun b o e => k' b o (Nat.ne_of_lt (Nat.lt_succ_of_lt (Heap.lt_size e))) (k b o e)
    have z : hp.objs.size + 1 + 1 ≤ dx := by
      first
        | (simpa only [Heap.size_push] using dn)
        | exact dn
        | (have q := dn; rw [Heap.size_push, Heap.size_push] at q; exact q)
    exact ⟨rfl, hq h' tk' (hp.objs.size + 1) dx ⟨old, Nat.le_succ _, ⟨_, _, hx, rfl, rfl, rfl, rfl⟩, Nat.le_trans (Nat.le_trans (Nat.le_succ _) (Nat.le_succ _)) z, dne, hns⟩⟩
end
end XBadDeed
end PySem
namespace Say
open PySem PySem.Spec PyProof.Rows L2
theorem rel_BadDeed {i : Int} {ti : Tok} (f : Str) : RelO (List.lookup f ([(("number" : Str), .int i)] : List (Str × V))) (if f = "number" then some (Value.int i ti) else none) := by
  refine relO_put (f := "number") (mA := fun _ => none) (y := .int i) (u := .int i ti) (fs := []) ⟨_, rfl⟩ (fun g => ?_) f
  exact True.intro
section
variable {X : Cx} {C fI : Addr}
/-- BadDeed(e) -/
def tMkBadDeed (C : Addr) (ta : TA) : L2.St → Hp → XK → Prop := fun σ H Q => ta σ H fun vs H1 => ∃ i : Int, vs = [.int i] ∧ (-1 ≤ i ∧ i ≤ 100) ∧ ∀ d, H1 d = none → Q (.ref C) (some d) (upd H1 d (.xd [(("number" : Str), .int i)]))
theorem small_BadDeed {i : Int} (h : -1 ≤ i ∧ i ≤ 100) : i.natAbs.log2 < 1920 ∧ (toString i : Str).length ≤ 1000 := by
  have key : ∀ q : Fin 102, ((q.1 : Int) - 1).natAbs.log2 < 1920 ∧ (toString ((q.1 : Int) - 1) : Str).length ≤ 1000 := by decide +kernel
  have e : i = (((i + 1).toNat : Nat) : Int) - 1 := by omega
  rw [e]
  exact key ⟨(i + 1).toNat, by omega⟩
theorem pmk_BadDeed {a : Expr} {ta : TA} {p pos : Pos} {k : Nat} (T : PySem.XBadDeed.ExTxt X.prog X.K X.mg C fI) (hr : Room k X.A) (ha : PA X [a] ta) (hg : Gl X "BadDeed" := by rfl)
    (he : starEach (a :: []) X.env = (false, eval a X.env) :: starEach [] X.env := by rfl) (hpl : (backTo pos (starEach [] X.env)).any (·.1) = false := by rfl) :
    PMk X (.Call (.Name "BadDeed" p) [a] [] pos) (tMkBadDeed C ta) := by
  intro pins s σ H Q I h
  unfold tMkBadDeed at h
  refine wpAny_Call_Name_kw (ld_glob I hg T.gC ?_)
  refine PySem.W.callWith_K (h₀ := X.base) I.ok.mod.kin T.kC (thn (ha.run pos pins s σ H _ I h) fun us s1 hh => ?_) he hpl
  obtain ⟨vs, H1, I1, r1, i, ev, ni, q1⟩ := hh
  subst ev
  refine ⟨I1.kIn, ?_⟩
  obtain ⟨v', rfl, rv⟩ := vals1 r1
  obtain ⟨ti, rfl⟩ := rv
  show wpAny _ _ (call (.ref C) [.int i ti]) _ _ _
  have b1 := I1.mod
  have b2 := I1.bk
  obtain ⟨hp, g, dr, tk, os⟩ := s1
  refine wpAny_call (PySem.XBadDeed.ex_made T b1 b2 (small_BadDeed ni).1 (small_BadDeed ni).2 (by have := hr.dp; omega) fun h' tk' e d M => ?_)
  show MkP X pins σ Q (.ref e) ⟨h', g, dr, tk', os⟩
  obtain ⟨oe, fv, hoe, hc, hd, hdat, h1⟩ := M.obj
  have hns := M.ns
  obtain ⟨G', g1, g2⟩ := restrict h' fun b => decide (b ≠ e)
  have gk : ∀ b, b ≠ e → G'.get? b = h'.get? b := fun b hb => g1 b (decide_eq_true hb)
  have ge : G'.get? e = none := g2 e (by simp)
  have old : ∀ b o, hp.get? b = some o → G'.get? b = some o := fun b o q => (gk b (Nat.ne_of_lt (Nat.lt_of_lt_of_le (Heap.lt_size q) M.new))).trans (M.keep b o q)
  have ob : ObjOk X.prog X.w (upd H1 d (.xd [(("number" : Str), .int i)])) G' d (.xd [(("number" : Str), .int i)]) :=
    ⟨_, hns.at (fun o q => (gk d M.dne).trans q), fun f => rel_BadDeed f⟩
  have J : Inv X pins σ (upd H1 d (.xd [(("number" : Str), .int i)])) ⟨G', g, dr, tk', os⟩ := I1.laid (t' := tk') old M.dbig ob
  refine ⟨e, oe, fv, ⟨G', g, dr, tk', os⟩, _, .ref C, some d, rfl, J, fun b o q => ?_, ge, hoe, ⟨hc, hd⟩, hdat, h1, ?_, rfl, I1.bare, raises_own T.exC T.tyC, q1 d (I1.hok.fresh M.dbig)⟩
  · by_cases hb : b = e
    · have q' : G'.get? b = some o := q
      rw [hb, ge] at q'; cases q'
    · exact (gk b hb).symm.trans q
  · rw [upd_ne (Ne.symm M.dne)]
    exact I1.hok.fresh M.new
/-- raise BadDeed(e) -/
def tRaiseBadDeed (C : Addr) (W : WX) (ta : TA) : TS := fun _ σ H => tMkBadDeed C ta σ H fun cls d H' => W cls d σ H'
theorem ps_raiseBadDeed {a : Expr} {ta : TA} {W : WX} {p pos pos2 : Pos} {k : Nat} (hc : X.calm = true) (T : PySem.XBadDeed.ExTxt X.prog X.K X.mg C fI) (hr : Room k X.A) (tk : Takes X W) (ha : PA X [a] ta) (hg : Gl X "BadDeed" := by rfl)
    (he : starEach (a :: []) X.env = (false, eval a X.env) :: starEach [] X.env := by rfl) (hpl : (backTo pos (starEach [] X.env)).any (·.1) = false := by rfl) :
    PS X (.Raise (some (.Call (.Name "BadDeed" p) [a] [] pos)) none pos2) (tRaiseBadDeed C W ta) := ps_raise hc tk (pmk_BadDeed T hr ha hg he hpl)
end
end Say
namespace Say
open PySem PySem.Spec PyProof.Rows L2
/-- does the rule fit at the place of the signs -/
def fitsL (ρ : Rule) (z : List Nat) (i : Nat) : Bool :=
  if (z.drop i).take ρ.ow.length = ρ.ow then (decide (ρ.ah = []) || decide (z.getD (i - 1) 0 ∈ ρ.ah)) && (decide (ρ.be = []) || decide (z.getD (i + ρ.ow.length) 0 ∈ ρ.be)) else false
/-- a word between its edges -/
def sgn (wd : List Nat) : List Nat := 35 :: (wd ++ [35])
theorem sgn_len (wd : List Nat) : (sgn wd).length = wd.length + 2 := by simp [sgn]
theorem sgn_last (wd : List Nat) : (sgn wd)[wd.length + 1]? = some 35 := by
  unfold sgn
  rw [List.getElem?_cons_succ, List.getElem?_append_right (Nat.le_refl _), Nat.sub_self]
  rfl
theorem cut_at {z : List Nat} {i n : Nat} (h : i ≤ z.length) : cutS (T z) (some (i : Int)) (some ((i + n : Nat) : Int)) = T ((z.drop i).take n) := by
  unfold cutS
  rw [T_len, HT.sIx_nat, HT.sIx_nat, Nat.min_eq_left h]
  show T ((z.drop i).take (min (i + n) z.length - i)) = _
  congr 1
  by_cases c : i + n ≤ z.length
  · rw [Nat.min_eq_left c, Nat.add_sub_cancel_left]
  · rw [Nat.min_eq_right (by omega), List.take_of_length_le (by rw [List.length_drop]; omega), List.take_of_length_le (by rw [List.length_drop]; omega)]
theorem fit_room {wd ow : List Nat} {i : Nat} (h : ((sgn wd).drop i).take ow.length = ow) (h1 : 1 ≤ ow.length) (h35 : 35 ∉ ow) : i + ow.length ≤ wd.length + 1 := by
  have hl := congrArg List.length h
  rw [List.length_take, List.length_drop, sgn_len] at hl
  refine Decidable.byContradiction fun n => h35 ?_
  have e : i + ow.length = wd.length + 2 := by omega
  have g : ow[ow.length - 1]? = some 35 := by
    rw [← h, List.getElem?_take_of_lt (by rw [h]; omega), List.getElem?_drop]
    rw [show i + ((((sgn wd).drop i).take ow.length).length - 1) = wd.length + 1 by rw [h]; omega]
    exact sgn_last wd
  exact List.mem_of_getElem? g
theorem dec_nil (l : List Nat) : decide (V.str (T l) = V.str (Str.ofString "")) = decide (l = []) := by
  rw [show Str.ofString "" = T [] from nil_eq]
  refine decide_eq_decide.mpr ⟨fun z => T_inj (V.str.inj z), fun z => by rw [z]⟩
section
variable {P : Program} {w : World} {K : PySem.W.Frag} {mg : Str → Option Value} {base : Heap}
abbrev sFits : Stmt := topS 46
theorem scFits : FnScope ["rule", "signs", "at", "ahead", "own", "behind", "_", "past"] ["rule", "signs", "at"] (defScope sFits) := ⟨rfl, rfl, rfl, by decide +kernel, rfl, by decide +kernel, by decide +kernel⟩
/-- where its letters stand, the sign behind them stands, too -/
def RoomAt (ρ : Rule) (z : List Nat) (i : Nat) : Prop := (z.drop i).take ρ.ow.length = ρ.ow → i + ρ.ow.length < z.length
def spFits : Sp := fun vs H Q _ => ∃ (t : Addr) (ρ : Rule) (z : List Nat) (i : Nat), vs = [.ref t, .str (T z), .int i] ∧ H t = some (.tup ρ.vs) ∧ ρ.ow.length ≤ 2 ∧ 1 ≤ i ∧ i ≤ z.length ∧ z.length ≤ 100 ∧ RoomAt ρ z i ∧
  Q (.bl (fitsL ρ z i)) H
theorem ok_fits {f : Addr} {fd : FuncData} (F : Fun K "fits" "fits" sFits f fd) (B : Bn mg) : FnOk P w K mg base CX0 1 f fd ["rule", "signs", "at"] spFits := by
  refine F.ok scFits (fun vs H Q E h => ?_) (fun cdv A outer s H vs Q E hr h => ?_)
  · obtain ⟨t, ρ, z, i, rfl, _⟩ := h
    rfl
  · obtain ⟨t, ρ, z, i, rfl, ht, h2, hi1, hi, hw, hroom, q⟩ := h
    refine ⟨_, pss_cons (ps_asg (pv 0) (pg_tup (by rfl) (pgs_cons (pg_name (i := 3) scFits.nd rfl (.inl rfl)) (pgs_cons (pg_name (i := 4) scFits.nd rfl (.inl rfl)) (pgs_cons (pg_name (i := 5) scFits.nd rfl (.inl rfl)) (pgs_cons (pg_name (i := 6) scFits.nd rfl (.inl rfl)) pgs_nil))))))
      (pss_cons (ps_set (i := 7) scFits.nd rfl (.inl rfl) (pe_op op_add (pv 2) (pe_callB call_len_str (by rfl) B.len PySem.boot_len (pa_cons (pv 4) pa_nil))))
      (pss_cons (ps_if (pt_cmpR op_ne (pe_slice sl_str (pv 1) (po_some (pv 2)) (po_some (pv 7))) (pv 4) (nomark _)) (pss_one (ps_ret pe_bl)) pss_nil)
      (pss_one (ps_ret (pe_and (pe_or (pe_cmpR op_eq (pv 3) pe_str (nomark _)) (pe_one (pe_cmpR op_in_sign (pe_ix ix_str (pv 1) (pe_op op_sub (pv 2) pe_int) (fun _ _ => rfl)) (pv 3) rfl)))
        (pe_one (pe_or (pe_cmpR op_eq (pv 5) pe_str (nomark _)) (pe_one (pe_cmpR op_in_sign (pe_ix ix_str (pv 1) (pv 7) (fun _ _ => rfl)) (pv 5) rfl))))))))), ?_⟩
    have hzl : (T z).length ≤ sizeLine := by rw [T_len]; exact small (by omega)
    have hol : (T ρ.ow).length ≤ sizeLine := by rw [T_len]; exact small (by omega)
    refine ⟨_, rfl, t, _, rfl, .inl (.inl ht), rfl, _, _, rfl, _, _, rfl, _, _, rfl, _, _, rfl, rfl, ?_⟩
    refine ⟨_, rfl, _, rfl, _, rfl, hol, _, _, rfl, rfl, ?_⟩
    refine ⟨_, rfl, _, rfl, _, rfl, _, rfl, _, rfl, T z, rfl, hzl, _, rfl, ?_⟩
    rw [show ((i : Nat) : Int) + ((T ρ.ow).length : Int) = ((i + ρ.ow.length : Nat) : Int) by rw [T_len]; omega, cut_at (by omega)]
    refine ⟨rfl, _, rfl, ?_⟩
    have eow : (V.str (T ((z.drop i).take ρ.ow.length)) = V.str (T ρ.ow)) ↔ (z.drop i).take ρ.ow.length = ρ.ow :=
      ⟨fun z => T_inj (V.str.inj z), fun z => by rw [z]⟩
    by_cases c : (z.drop i).take ρ.ow.length = ρ.ow
    · rw [decide_eq_true (eow.mpr c)]
      refine iteF ?_
      have room := hroom c
      unfold fitsL at q
      rw [if_pos c] at q
      -- ahead
      refine ⟨_, rfl, rfl, _, rfl, ?_⟩
      rw [dec_nil]
      have g1 : (T z).cps.toList[i - 1]? = some (z.getD (i - 1) 0) := by rw [T_cps, List.getD_eq_getElem?_getD, List.getElem?_eq_getElem (by omega)]; rfl
      have g2 : (T z).cps.toList[i + ρ.ow.length]? = some (z.getD (i + ρ.ow.length) 0) := by rw [T_cps, List.getD_eq_getElem?_getD, List.getElem?_eq_getElem (by omega)]; rfl
      refine ite2 (fun c1 => ?_) (fun c1 => ?_)
      · refine ⟨true, rfl, iteT ?_⟩
        have q2 : Q (.bl (decide (ρ.be = []) || decide (z.getD (i + ρ.ow.length) 0 ∈ ρ.be))) H := by
          rw [c1, Bool.true_or, Bool.true_and] at q; exact q
        refine ⟨_, rfl, rfl, _, rfl, ?_⟩
        rw [dec_nil]
        refine ite2 (fun d1 => ?_) (fun d1 => ?_)
        · rw [d1, Bool.true_or] at q2
          exact q2
        · rw [Bool.eq_false_iff.mpr d1, Bool.false_or] at q2
          exact ⟨_, rfl, _, rfl, T z, _, _, rfl, rfl, hzl, atI_of g2 (by rw [T_len]; omega), _, rfl, _, T ρ.be, rfl, rfl, q2⟩
      · rw [Bool.eq_false_iff.mpr c1, Bool.false_or] at q
        refine ⟨_, rfl, _, rfl, _, _, rfl, rfl, T z, _, _, rfl, rfl, hzl, atI_of g1 (by omega), _, rfl, _, T ρ.ah, rfl, rfl, _, rfl, ?_⟩
        refine ite2 (fun c2 => ?_) (fun c2 => ?_)
        · have q2 : Q (.bl (decide (ρ.be = []) || decide (z.getD (i + ρ.ow.length) 0 ∈ ρ.be))) H := by
            rw [show decide (z.getD (i - 1) 0 ∈ ρ.ah) = true from c2, Bool.true_and] at q; exact q
          refine ⟨_, rfl, rfl, _, rfl, ?_⟩
          rw [dec_nil]
          refine ite2 (fun d1 => ?_) (fun d1 => ?_)
          · rw [d1, Bool.true_or] at q2
            exact q2
          · rw [Bool.eq_false_iff.mpr d1, Bool.false_or] at q2
            exact ⟨_, rfl, _, rfl, T z, _, _, rfl, rfl, hzl, atI_of g2 (by rw [T_len]; omega), _, rfl, _, T ρ.be, rfl, rfl, q2⟩
        · rw [show decide (z.getD (i - 1) 0 ∈ ρ.ah) = false from Bool.eq_false_iff.mpr c2, Bool.false_and] at q
          exact q
    · rw [decide_eq_false fun z => c (eow.mp z)]
      refine iteT ?_
      unfold fitsL at q
      rw [if_neg c] at q
      exact q
end
end Say
namespace Say
open PySem PySem.Spec PyProof.Rows L2
/-- the number of the first rule that fits -/
def ff (rs : List Rule) (z : List Nat) (i : Nat) : Option Nat := rs.findIdx? fun ρ => fitsL ρ z i
def ruleAt (rs : List Rule) (k : Nat) : Rule := rs.getD k ⟨[], [], [], []⟩
/-- the steps from a place on, and where it is stuck -/
def wk (rs : List Rule) (z : List Nat) : Nat → Nat → List (Nat × Nat) × Option Nat
  | 0, _ => ([], none)
  | m + 1, i => if i < z.length - 1 then
      match ff rs z i with
      | none => ([], some (i - 1))
      | some k => ((i - 1, k) :: (wk rs z m (i + (ruleAt rs k).ow.length)).1, (wk rs z m (i + (ruleAt rs k).ow.length)).2)
    else ([], none)
def W (rs : List Rule) (wd : List Nat) : List (Nat × Nat) × Option Nat := wk rs (sgn wd) (wd.length + 1) 1
theorem wk_end (rs : List Rule) (z : List Nat) (m i : Nat) (h : ¬ i < z.length - 1) : wk rs z m i = ([], none) := by
  cases m with
  | zero => rfl
  | succ m =>
    unfold wk
    rw [if_neg h]
theorem wk_none {rs : List Rule} {z : List Nat} {m i : Nat} (h : i < z.length - 1) (e : ff rs z i = none) : wk rs z (m + 1) i = ([], some (i - 1)) := by
  rw [wk, if_pos h, e]
theorem wk_some {rs : List Rule} {z : List Nat} {m i k : Nat} (h : i < z.length - 1) (e : ff rs z i = some k) : wk rs z (m + 1) i = ((i - 1, k) :: (wk rs z m (i + (ruleAt rs k).ow.length)).1, (wk rs z m (i + (ruleAt rs k).ow.length)).2) := by
  rw [wk, if_pos h, e]
theorem wk_len (rs : List Rule) (z : List Nat) : ∀ m i : Nat, (wk rs z m i).1.length ≤ m
  | 0, _ => Nat.le_refl 0
  | m + 1, i => by
    by_cases h : i < z.length - 1
    · cases e : ff rs z i with
      | none => rw [wk_none h e]; exact Nat.zero_le _
      | some k =>
        rw [wk_some h e]
        exact Nat.succ_le_succ (wk_len rs z m _)
    · rw [wk_end rs z _ i h]
      exact Nat.zero_le _
theorem ff_lt {rs : List Rule} {z : List Nat} {i k : Nat} (e : ff rs z i = some k) : k < rs.length := by
  obtain ⟨h, _⟩ := List.findIdx?_eq_some_iff_getElem.mp e
  exact h
theorem ruleAt_eq {rs : List Rule} {k : Nat} {ρ : Rule} (h : rs[k]? = some ρ) : ruleAt rs k = ρ := by
  unfold ruleAt
  rw [List.getD_eq_getElem?_getD, h]
  rfl
/-- what rules ask for the walk -/
structure RlOk (ρ : Rule) : Prop where
  o1 : 1 ≤ ρ.ow.length
  o2 : ρ.ow.length ≤ 2
  h35 : 35 ∉ ρ.ow
  s3 : ρ.so.length ≤ 3
theorem RuleOk.rl {L : List Nat} {ρ : Rule} (hL : LetOk L) (h : RuleOk L ρ) : RlOk ρ := ⟨h.o1, h.o2, fun z => by have := (hL.az _ (h.ow _ z)).1; omega, h.s3⟩
theorem BookOk.rls {L : List Nat} {rs : List Rule} {es : List Exc} (h : BookOk L rs es) : ∀ ρ ∈ rs, RlOk ρ := fun ρ hρ => (h.rl ρ hρ).rl h.lt
theorem eqT {a b : List Nat} : decide (V.str (T a) = V.str (T b)) = decide (a = b) := decide_eq_decide.mpr ⟨fun z => T_inj (V.str.inj z), fun z => by rw [z]⟩
theorem wk_stuck (rs : List Rule) (z : List Nat) : ∀ m i p : Nat, 1 ≤ i → (wk rs z m i).2 = some p → p + 2 ≤ z.length
  | 0, i, p, _, h => by cases h
  | m + 1, i, p, hi, h => by
    by_cases c : i < z.length - 1
    · cases e : ff rs z i with
      | none =>
        rw [wk_none c e] at h
        cases h
        omega
      | some k =>
        rw [wk_some c e] at h
        exact wk_stuck rs z m _ p (by omega) h
    · rw [wk_end rs z _ i c] at h
      cases h
theorem W_stuck {rs : List Rule} {wd : List Nat} {p : Nat} (h : (W rs wd).2 = some p) : p ≤ wd.length := by
  have := wk_stuck rs (sgn wd) _ 1 p (Nat.le_refl 1) h
  rw [sgn_len] at this
  omega
section
variable {P : Program} {w : World} {K : PySem.W.Frag} {mg : Str → Option Value} {base : Heap}
abbrev sFF : Stmt := topS 47
theorem scFF : FnScope ["rules", "signs", "at", "number", "rule"] ["rules", "signs", "at"] (defScope sFF) := ⟨rfl, rfl, rfl, by decide +kernel, rfl, by decide +kernel, by decide +kernel⟩
def optI : Option Nat → V
  | none => .non
  | some k => .int k
def spFF : Sp := fun vs H Q _ => ∃ (R : Addr) (rs : List Rule) (z : List Nat) (i : Nat), vs = [.ref R, .str (T z), .int i] ∧ RulesAt H R rs ∧ (∀ ρ ∈ rs, RlOk ρ) ∧ 1 ≤ i ∧ i ≤ z.length ∧ z.length ≤ 100 ∧ (∀ ρ ∈ rs, RoomAt ρ z i) ∧
  ∀ H', Same H H' → Q (optI (ff rs z i)) H'
theorem room_sgn {rs : List Rule} (h : ∀ ρ ∈ rs, RlOk ρ) (wd : List Nat) (i : Nat) : ∀ ρ ∈ rs, RoomAt ρ (sgn wd) i := fun ρ hρ c => by
  have := fit_room c (h ρ hρ).o1 (h ρ hρ).h35
  rw [sgn_len]
  omega
theorem ok_FF {f : Addr} {fd : FuncData} (F : Fun K "first_fit" "first_fit" sFF f fd) (B : Bn mg) (DF : Df P w K mg base "fits" ["rule", "signs", "at"] 1 spFits) : FnOk P w K mg base CX0 2 f fd ["rules", "signs", "at"] spFF := by
  obtain ⟨fF, fdF, GF, kF, bF, mF⟩ := DF
  refine F.ok scFF (fun vs H Q E h => ?_) (fun cdv A outer s H vs Q E hr h => ?_)
  · obtain ⟨R, rs, z, i, rfl, _⟩ := h
    rfl
  · obtain ⟨R, rs, z, i, rfl, ⟨ts, hR, hp⟩, ho, hi1, hi, hw, hrm, q⟩ := h
    refine ⟨_, pss_cons (ps_for PassesOwn.never rfl (pi_enumT (by rfl) B.enu (pa_cons (pv 0) pa_nil)) (pg_tup (by rfl) (pgs_cons (pg_name (i := 3) scFF.nd rfl (.inl rfl)) (pgs_cons (pg_name (i := 4) scFF.nd rfl (.inl rfl)) pgs_nil)))
        (pss_one (ps_if (pt_val (pe_call GF hr (by rfl) mF kF bF .nil pass0 (pa_cons (pv 4) (pa_cons (pv 1) (pa_cons (pv 2) pa_nil))))) (pss_one (ps_ret (pv 3))) pss_nil)))
      (pss_one (ps_ret pe_non)), ?_⟩
    refine ⟨_, rfl, R, _, rfl, .inl (.inl hR), for_it (walk_enumT (xs := ts.map V.ref)) (fun j σ H2 => Same H H2 ∧ (∃ v3 v4, σ = [some (.ref R), some (.str (T z)), some (.int i), v3, v4]) ∧ ∀ k ρ, k < j → rs[k]? = some ρ → fitsL ρ z i = false)
      ⟨Same.refl H, ⟨_, _, rfl⟩, fun k ρ h => absurd h (Nat.not_lt_zero k)⟩ (fun j σ H2 _ h => .inl (.inl (h.1 _ _ hR))) ?_ ?_⟩
    · rintro j x σ H2 H3 hj ⟨s2, ⟨v3, v4, rfl⟩, hn⟩ ⟨t, x1, x2, rfl, ht, rfl, g1, g2⟩
      cases g1
      have g2 : (ts.map V.ref)[j]? = some x2 := g2
      rw [List.getElem?_map] at g2
      obtain ⟨a, ha, e⟩ := Option.map_eq_some_iff.mp g2
      subst e
      obtain ⟨ρ, hρ, hat⟩ := paired_at hp ha
      have hm := ho ρ (List.mem_of_getElem? hρ)
      have sm := same_new ht (.tup [.int (j : Nat), .ref a])
      refine ⟨t, _, rfl, .inl (.inl upd_same), rfl, _, _, rfl, _, _, rfl, rfl, ?_⟩
      refine ⟨_, rfl, _, rfl, _, rfl, a, ρ, z, i, rfl, sm _ _ (s2 _ _ hat), hm.o2, hi1, hi, hw, hrm ρ (List.mem_of_getElem? hρ), _, rfl, ite2 (fun c => ?_) (fun c => ?_)⟩
      · refine ⟨_, rfl, ?_⟩
        have := q _ (s2.trans sm)
        have e : ff rs z i = some j := by
          refine List.findIdx?_eq_some_iff_getElem.mpr ⟨(List.getElem?_eq_some_iff.mp hρ).1, ?_, fun k hk => ?_⟩
          · rw [(List.getElem?_eq_some_iff.mp hρ).2]
            exact c
          · rw [hn k _ hk (List.getElem?_eq_getElem (by have := (List.getElem?_eq_some_iff.mp hρ).1; omega))]
            exact Bool.false_ne_true
        rw [e] at this
        exact this
      · refine ⟨s2.trans sm, ⟨_, _, rfl⟩, fun k ρ' hk hk' => ?_⟩
        by_cases e : k = j
        · subst e
          rw [hρ] at hk'
          cases hk'
          exact Bool.eq_false_iff.mpr c
        · exact hn k ρ' (by omega) hk'
    · rintro σ H2 ⟨s2, ⟨v3, v4, rfl⟩, hn⟩
      have := q _ s2
      have e : ff rs z i = none := by
        refine List.findIdx?_eq_none_iff.mpr fun ρ hρ => ?_
        obtain ⟨k, hk⟩ := List.mem_iff_getElem?.mp hρ
        have hl := (List.getElem?_eq_some_iff.mp hk).1
        exact hn k ρ (by rw [List.length_map, paired_len hp]; exact hl) hk
      rw [e] at this
      exact this
abbrev sSt : Stmt := topS 48
theorem scSt : FnScope ["rules", "tail", "signs", "steps", "at", "number"] ["rules", "tail"] (defScope sSt) := ⟨rfl, rfl, rfl, by decide +kernel, rfl, by decide +kernel, by decide +kernel⟩
/-- the list at D holds steps -/
def StepsAt (H : Hp) (D : Addr) (ss : List (Nat × Nat)) : Prop := ∃ ts : List Addr, H D = some (.lst (ts.map V.ref)) ∧ Paired (fun t (s : Nat × Nat) => H t = some (.tup [.int (s.1 : Nat), .int (s.2 : Nat)])) ts ss
theorem StepsAt.same {H H' : Hp} {D : Addr} {ss : List (Nat × Nat)} (h : StepsAt H D ss) (e : Same H H') : StepsAt H' D ss := by
  obtain ⟨ts, h1, h2⟩ := h
  exact ⟨ts, e _ _ h1, paired_mono (fun t ρ q => e _ _ q) h2⟩
theorem len1 (tl : List Nat) : (tl ++ [35]).length = tl.length + 1 := by simp
/-- a tail's steps, and where it is stuck -/
def Wt (rs : List Rule) (tl : List Nat) : List (Nat × Nat) × Option Nat := wk rs (tl ++ [35]) tl.length 1
theorem W_Wt (rs : List Rule) (wd : List Nat) : W rs wd = Wt rs (35 :: wd) := rfl
theorem fit_roomT {tl ow : List Nat} {i : Nat} (h : ((tl ++ [35]).drop i).take ow.length = ow) (h1 : 1 ≤ ow.length) (h35 : 35 ∉ ow) : i + ow.length ≤ tl.length := by
  have hl := congrArg List.length h
  rw [List.length_take, List.length_drop, List.length_append, List.length_singleton] at hl
  refine Decidable.byContradiction fun n => h35 ?_
  have e : i + ow.length = tl.length + 1 := by omega
  have g : ow[ow.length - 1]? = some 35 := by
    rw [← h, List.getElem?_take_of_lt (by rw [h]; omega), List.getElem?_drop]
    rw [show i + ((((tl ++ [35] : List Nat).drop i).take ow.length).length - 1) = tl.length by rw [h]; omega]
    rw [List.getElem?_append_right (Nat.le_refl _), Nat.sub_self]
    rfl
  exact List.mem_of_getElem? g
theorem room_tl {rs : List Rule} (h : ∀ ρ ∈ rs, RlOk ρ) (tl : List Nat) (i : Nat) : ∀ ρ ∈ rs, RoomAt ρ (tl ++ [35]) i := fun ρ hρ c => by
  have := fit_roomT c (h ρ hρ).o1 (h ρ hρ).h35
  rw [List.length_append, List.length_singleton]
  omega
def spSt : Sp := fun vs H Q _ => ∃ (R : Addr) (rs : List Rule) (tl : List Nat), vs = [.ref R, .str (T tl)] ∧ RulesAt H R rs ∧ (∀ ρ ∈ rs, RlOk ρ) ∧ 1 ≤ tl.length ∧ tl.length ≤ 81 ∧
  ∀ (t D : Addr) (H' : Hp), Same H H' → H D = none → H' t = some (.tup [.ref D, optI (Wt rs tl).2]) → StepsAt H' D (Wt rs tl).1 → Q (.ref t) H'
theorem ok_St {f : Addr} {fd : FuncData} (F : Fun K "steps_of" "steps_of" sSt f fd) (B : Bn mg) (C : Cn mg) (cO : KI mg "OWN" 1) (DF : Df P w K mg base "first_fit" ["rules", "signs", "at"] 2 spFF) : FnOk P w K mg base CX0 3 f fd ["rules", "tail"] spSt := by
  obtain ⟨fF, fdF, GF, kF, bF, mF⟩ := DF
  obtain ⟨tE, mE⟩ := C.edge
  obtain ⟨tO, mO⟩ := cO
  refine F.ok scSt (fun vs H Q E h => ?_) (fun cdv A outer s H vs Q E hr h => ?_)
  · obtain ⟨R, rs, tl, rfl, _⟩ := h
    rfl
  · obtain ⟨R, rs, tl, rfl, hR, ho, hl1, hw, q⟩ := h
    refine ⟨_, pss_cons (ps_set (i := 2) scSt.nd rfl (.inl rfl) (pe_op op_add_str (pv 1) (pe_glob (v := .str "#") rfl mE ⟨_, rfl⟩)))
      (pss_cons (ps_set (i := 3) scSt.nd rfl (.inl rfl) (pe_lst pa_nil))
      (pss_cons (ps_set (i := 4) scSt.nd rfl (.inl rfl) pe_int)
      (pss_cons (ps_while PassesOwn.never (pt_cmpR op_lt (pv 4) (pe_op op_sub (pe_callB call_len_str (by rfl) B.len PySem.boot_len (pa_cons (pv 2) pa_nil)) pe_int) (nomark _))
        (pss_cons (ps_set (i := 5) scSt.nd rfl (.inl rfl) (pe_call GF hr (by rfl) mF kF bF .nil pass0 (pa_cons (pv 0) (pa_cons (pv 2) (pa_cons (pv 4) pa_nil)))))
        (pss_cons (ps_if (pt_cmpR op_isN (pv 5) pe_non (nomark _)) (pss_one (ps_ret (pe_tup (pa_cons (pv 3) (pa_cons (pe_op op_sub (pv 4) pe_int) pa_nil))))) pss_nil)
        (pss_cons (ps_expr (pe_bm PySem.F.plainAttrs_list PySem.F.slot_list_append PySem.F.type_list_append mt_append (pv 3) (pa_cons (pe_tup (pa_cons (pe_op op_sub (pv 4) pe_int) (pa_cons (pv 5) pa_nil))) pa_nil)))
        (pss_one (ps_aug (i := 4) scSt.nd rfl (.inl rfl) (pe_callB call_len_str (by rfl) B.len PySem.boot_len (pa_cons (pe_ix ix_tup (pe_ix ix_tup (pv 0) (pv 5) (fun _ _ => rfl)) (pe_glob (v := .int 1) rfl mO ⟨_, rfl⟩) (fun _ _ => rfl)) pa_nil)) ip_add))))))
      (pss_one (ps_ret (pe_tup (pa_cons (pv 3) (pa_cons pe_non pa_nil)))))))), ?_⟩
    refine ⟨_, rfl, _, _, rfl, rfl, (by rw [len_hash, T_len]; exact small (by omega)), ?_⟩
    rw [app_hash]
    show tSeq _ _ _ _ _
    refine ⟨(by show 0 ≤ sizeLine; decide), fun D hD => ?_⟩
    obtain ⟨rts, hRt, hRp⟩ := id hR
    have zl : (T (tl ++ [35])).length = tl.length + 1 := by rw [T_len, len1]
    have hz0 : (T (tl ++ [35])).length ≤ sizeLine := by rw [zl]; exact small (by omega)
    refine ⟨fun m σ H2 => ∃ (i : Nat) (acc : List (Nat × Nat)) (v5 : Option V), σ = [some (.ref R), some (.str (T tl)), some (.str (T (tl ++ [35]))), some (.ref D), some (.int i), v5] ∧ 1 ≤ i ∧ tl.length + 1 ≤ i + m ∧ Same H H2 ∧ StepsAt H2 D acc ∧
      Wt rs tl = (acc ++ (wk rs (tl ++ [35]) m i).1, (wk rs (tl ++ [35]) m i).2), ⟨tl.length, 1, [], _, rfl, Nat.le_refl _, by omega, same_new hD _, ⟨[], upd_same, .nil⟩, rfl⟩, fun m σ H2 hW => ?_⟩
    obtain ⟨i, acc, v5, rfl, hi1, hm, s2, hS, hW⟩ := hW
    refine ⟨_, rfl, _, rfl, _, rfl, hz0, _, _, rfl, rfl, _, _, rfl, rfl, _, rfl, ite2 (fun c => ?_) (fun c => ?_)⟩
    · have c' : (i : Int) < ((T (tl ++ [35])).length : Int) - 1 := of_decide_eq_true c
      rw [zl] at c'
      have hi : i < tl.length := by omega
      have hlt : i < (tl ++ [35]).length - 1 := by rw [len1]; omega
      obtain ⟨m', rfl⟩ : ∃ m', m = m' + 1 := ⟨m - 1, by omega⟩
      refine ⟨fun σ' H' => ∃ (i : Nat) (acc : List (Nat × Nat)) (v5 : Option V), σ' = [some (.ref R), some (.str (T tl)), some (.str (T (tl ++ [35]))), some (.ref D), some (.int i), v5] ∧ 1 ≤ i ∧ tl.length + 1 ≤ i + m' ∧ Same H H' ∧ StepsAt H' D acc ∧
        Wt rs tl = (acc ++ (wk rs (tl ++ [35]) m' i).1, (wk rs (tl ++ [35]) m' i).2), fun σ' H' h => ⟨m', Nat.lt_succ_self _, h⟩, ?_⟩
      refine ⟨_, rfl, _, rfl, _, rfl, R, rs, tl ++ [35], i, rfl, hR.kt (.of s2), ho, hi1, by rw [len1]; omega, by rw [len1]; omega, room_tl ho tl i, fun H3 s3 => ?_⟩
      have s23 := s2.trans s3
      obtain ⟨ts, hDl, hDp⟩ := hS.same s3
      cases e : ff rs (tl ++ [35]) i with
      | none =>
        rw [wk_none hlt e] at hW
        refine ⟨_, rfl, rfl, _, rfl, iteT ?_⟩
        refine ⟨_, rfl, _, rfl, _, _, rfl, rfl, (by show 2 ≤ sizeLine; decide), fun t ht => ?_⟩
        have sm := same_new ht (.tup [.ref D, .int ((i : Int) - 1)])
        refine q t D _ (s23.trans sm) hD ?_ ?_
        · rw [upd_same, hW]
          show some (HO.tup [V.ref D, V.int ((i : Int) - 1)]) = some (HO.tup [V.ref D, V.int ((i - 1 : Nat) : Int)])
          rw [show ((i - 1 : Nat) : Int) = (i : Int) - 1 by omega]
        · rw [hW, List.append_nil]
          exact StepsAt.same ⟨ts, hDl, hDp⟩ sm
      | some k =>
        rw [wk_some hlt e] at hW
        have hk := ff_lt e
        obtain ⟨a, ha, hat⟩ := paired_at' hRp (List.getElem?_eq_getElem hk)
        have hm2 := ho _ (List.getElem_mem hk)
        have er : ruleAt rs k = rs[k] := ruleAt_eq (List.getElem?_eq_getElem hk)
        refine ⟨_, rfl, rfl, _, rfl, ?_⟩
        rw [show decide (optI (some k) = V.non) = false from decide_eq_false (fun z => by cases z)]
        refine iteF ?_
        refine ⟨_, rfl, .inl ⟨rfl, _, .inl (.inl hDl)⟩, _, rfl, _, _, rfl, rfl, _, rfl, (by show 2 ≤ sizeLine; decide), fun t ht => ?_⟩
        have sm := same_new ht (.tup [.int ((i : Int) - 1), .int (k : Nat)])
        have hDl' := sm _ _ hDl
        have sall : Same H (upd (upd H3 t (.tup [.int ((i : Int) - 1), .int (k : Nat)])) D (.lst (ts.map V.ref ++ [.ref t]))) := fun b u e => by
          rw [upd_ne (ne_of_none e hD)]
          exact sm _ _ (s23 _ _ e)
        refine ⟨D, _, _, rfl, rfl, hDl', ?_, ?_⟩
        · rw [List.length_map, paired_len hDp]
          have l1 : (Wt rs tl).1.length ≤ tl.length := wk_len rs (tl ++ [35]) tl.length 1
          rw [hW] at l1
          simp at l1
          exact small1000 (by omega)
        · have kR : Same H3 (upd (upd H3 t (.tup [.int ((i : Int) - 1), .int (k : Nat)])) D (.lst (ts.map V.ref ++ [.ref t]))) → True := fun _ => trivial
          have atR := sall _ _ hRt
          have ata := sall _ _ hat
          refine ⟨_, rfl, _, rfl, _, rfl, R, _, (k : Int), .ref a, rfl, rfl, .inl (.inl atR), atI_nat (by rw [List.getElem?_map, ha]; rfl), a, _, 1, .str (T rs[k].ow), rfl, rfl, .inl (.inl ata), atI_nat (j := 1) rfl, _, rfl, (by rw [T_len]; have := hm2.o2; exact small (by omega)), _, _, rfl, rfl, ?_⟩
          refine ⟨i + rs[k].ow.length, acc ++ [(i - 1, k)], some (.int (k : Nat)), ?_, by omega, by have := hm2.o1; omega, sall, ?_, ?_⟩
          · have ee : ((i + rs[k].ow.length : Nat) : Int) = (i : Int) + ((T rs[k].ow).length : Int) := by rw [T_len]; omega
            rw [ee]
            rfl
          · refine ⟨ts ++ [t], by rw [upd_same, List.map_append]; rfl, paired_app (paired_mono (fun t' s h => ?_) hDp) (.cons ?_ .nil)⟩
            · rw [upd_ne (ne_of h hDl (by intro z; cases z))]
              exact sm _ _ h
            · rw [upd_ne (ne_of_none hDl ht).symm, upd_same]
              show some (HO.tup [V.int ((i : Int) - 1), V.int (k : Nat)]) = some (HO.tup [V.int ((i - 1 : Nat) : Int), V.int (k : Nat)])
              rw [show ((i - 1 : Nat) : Int) = (i : Int) - 1 by omega]
          · rw [hW, er, List.append_assoc]
            rfl
    · have c' : ¬ (i : Int) < ((T (tl ++ [35])).length : Int) - 1 := of_decide_eq_false (Bool.eq_false_iff.mpr c)
      rw [zl] at c'
      rw [wk_end rs (tl ++ [35]) m i (by rw [len1]; omega)] at hW
      refine ⟨_, rfl, (by show 2 ≤ sizeLine; decide), fun t ht => ?_⟩
      have sm := same_new ht (.tup [.ref D, .non])
      refine q t D _ (s2.trans sm) hD ?_ ?_
      · rw [upd_same, hW]
        rfl
      · rw [hW, List.append_nil]
        exact hS.same sm
def LWAt (H : Hp) (t : Addr) (q : List (Nat × Nat) × Option Nat) : Prop := match q.2 with
  | some p => H t = some (.tup [.str (Str.ofString "unsaid"), .int (p : Nat)])
  | none => ∃ D, H t = some (.tup [.str (T []), .ref D]) ∧ StepsAt H D q.1
theorem LWAt.same {H H' : Hp} {t : Addr} {q : List (Nat × Nat) × Option Nat} (h : LWAt H t q) (e : Same H H') : LWAt H' t q := by
  obtain ⟨l, o⟩ := q
  cases o with
  | some p => exact e _ _ h
  | none =>
    obtain ⟨D', h1, h2⟩ := h
    exact ⟨D', e _ _ h1, h2.same e⟩
end
end Say
namespace Say
open PySem PySem.Spec PyProof.Rows L2
theorem Same.seqT {K : PySem.W.Frag} {H H' : Hp} {a : Addr} {xs : List V} (e : Same H H') (h : SqT K H a xs) : SqT K H' a xs := by
  rcases h with (h | ⟨o, h⟩) | h
  · exact .inl (.inl (e _ _ h))
  · exact .inl (.inr ⟨o, e _ _ h⟩)
  · exact .inr h
mutual
theorem dp_same {K : PySem.W.Frag} {H H' : Hp} (e : Same H H') : ∀ {v : V} {d : PyData}, Dp K H v d → Dp K H' v d
  | _, _, .non => .non
  | _, _, .bl b => .bl b
  | _, _, .int i => .int i
  | _, _, .str x => .str x
  | _, _, .lst h a => .lst (Same.seq e h) (dpa_same e a)
  | _, _, .tup h a => .tup (Same.seqT e h) (dpa_same e a)
theorem dpa_same {K : PySem.W.Frag} {H H' : Hp} (e : Same H H') : ∀ {vs : List V} {ds : List PyData}, DpAll K H vs ds → DpAll K H' vs ds
  | _, _, .nil => .nil
  | _, _, .cons h t => .cons (dp_same e h) (dpa_same e t)
end
theorem dpa_len {K : PySem.W.Frag} {H : Hp} : ∀ {vs : List V} {ds : List PyData}, DpAll K H vs ds → vs.length = ds.length
  | _, _, .nil => rfl
  | _, _, .cons _ t => by simp [dpa_len t]
theorem dpa_at {K : PySem.W.Frag} {H : Hp} : ∀ {vs : List V} {ds : List PyData}, DpAll K H vs ds → ∀ {i : Nat} {d : PyData}, ds[i]? = some d → ∃ v, vs[i]? = some v ∧ Dp K H v d
  | _, _, .nil, i, d, h => by cases h
  | _, _, .cons a t, 0, d, h => by
    cases h
    exact ⟨_, rfl, a⟩
  | _, _, .cons a t, i + 1, d, h => dpa_at t h
/-- data with no dicts, its lists not long -/
inductive Few : PyData → Prop
  | non : Few .none
  | bl (b : Bool) : Few (.bool b)
  | int (i : Int) : Few (.int i)
  | str (x : Str) : Few (.str x)
  | lst {ds : List PyData} : ds.length ≤ 1000 → (∀ d ∈ ds, Few d) → Few (.list ds)
  | tup {ds : List PyData} : ds.length ≤ 1000 → (∀ d ∈ ds, Few d) → Few (.tuple ds)
theorem depth_mem : ∀ {ds : List PyData} {d : PyData}, d ∈ ds → d.depth ≤ PyData.depthAll ds
  | x :: r, d, h => by
    unfold PyData.depthAll
    rcases List.mem_cons.mp h with rfl | h
    · exact Nat.le_max_left _ _
    · exact Nat.le_trans (depth_mem h) (Nat.le_max_right _ _)
end Say
namespace Say
open PySem PySem.Spec PyProof.Rows L2
section
variable {P : Program} {w : World} {K : PySem.W.Frag} {mg : Str → Option Value} {base : Heap}
theorem ty_list {H : Hp} {a : Addr} {xs : List V} (h : SqL K H a xs) : TyX K H (.ref a) (.type "list") := by
  rcases h with (h | ⟨o, h⟩) | ⟨o, its, n, h, hc, _⟩
  · exact .base (.lst h)
  · exact .base (.frz h)
  · exact .kList h hc
theorem ty_tup {H : Hp} {a : Addr} {xs : List V} (h : SqT K H a xs) : TyX K H (.ref a) (.type "tuple") := by
  rcases h with (h | ⟨o, h⟩) | ⟨o, its, n, h, hc, _⟩
  · exact .base (.tup h)
  · exact .fTuple h
  · exact .kTuple h hc
abbrev sAl : Stmt := topS 82
abbrev psAl : List Str := ["_law_found", "_law_due"]
theorem scAl : FnScope ["_law_found", "_law_due", "_law_same_kind", "_law_k"] ["_law_found", "_law_due"] (defScope sAl) := ⟨rfl, rfl, rfl, by decide +kernel, rfl, by decide +kernel, by decide +kernel⟩
/-- two values of the same data, not too deep -/
def spAl (K : PySem.W.Frag) (n : Nat) : Sp := fun vs H Q _ => ∃ (x y : V) (d : PyData), vs = [x, y] ∧ Dp K H x d ∧ Dp K H y d ∧ Few d ∧ d.depth < n ∧ ∀ H', Same H H' → Q (.bl true) H'
theorem kit2 {t a b : String} {r : Bool} (h : (match kitB t a, kitB t b with | some true, _ => some true | some false, some x => some x | _, _ => none) = some r) (h2 : kitB t b ≠ none) : PySem.W.kitAny K (.type t) [.type a, .type b] = some r := by
  cases ha : kitB t a with
  | none => rw [ha] at h; cases h
  | some x =>
    rw [ha] at h
    cases x with
    | true =>
      have h : some true = some r := h
      cases h
      exact kitAny_cons (kit_ty ha) (fun z => by cases z) fun _ => rfl
    | false =>
      cases hb : kitB t b with
      | none => exact absurd hb h2
      | some y =>
        rw [hb] at h
        have h : some y = some r := h
        cases h
        refine kitAny_cons (kit_ty ha) (fun _ => ?_) fun z => by cases z
        refine kitAny_cons (kit_ty hb) (fun z => ?_) fun z => z
        rw [z]
        exact kitAny_nil
def tTL : TE := tTup (tCons (tC (.ty "tuple")) (tCons (tC (.ty "list")) tNil))
theorem ok_al {f : Addr} {fd : FuncData} {n : Nat} (F : Fun K "_law_alike" "_law_alike" sAl f fd) (G : FnOk P w K mg base CX0 n f fd psAl (spAl K n)) (bG : Binds K fd psAl []) (mG : mg "_law_alike" = some (.ref f)) (B : Bn mg) :
    FnOk P w K mg base CX0 (n + 1) f fd psAl (spAl K (n + 1)) := by
  refine F.ok scAl (fun vs H Q E h => ?_) (fun cdv A outer s H vs Q E hr h => ?_)
  · obtain ⟨x, y, d, rfl, _⟩ := h
    rfl
  · obtain ⟨x, y, d, rfl, hx, hy, hF, hd, q⟩ := h
    refine ⟨_, pss_cons (ps_if (pt_val (pe_callB call_isiT (by rfl) B.isi (by decide +kernel) (pa_cons (pv 1) (pa_cons (pe_tup (pa_cons (pe_bltn (v := .ty "tuple") rfl B.tup (by decide +kernel) rfl) (pa_cons (pe_bltn (v := .ty "list") rfl B.lst (by decide +kernel) rfl) pa_nil))) pa_nil))))
        (pss_cons (ps_if (PW.pt (pw_or (pt_cmpR op_ne (pe_callB call_isi (by rfl) B.isi (by decide +kernel) (pa_cons (pv 0) (pa_cons (pe_bltn (v := .ty "tuple") rfl B.tup (by decide +kernel) rfl) pa_nil))) (pe_callB call_isi (by rfl) B.isi (by decide +kernel) (pa_cons (pv 1) (pa_cons (pe_bltn (v := .ty "tuple") rfl B.tup (by decide +kernel) rfl) pa_nil))) (nomark _))
            (pw_or1 (pt_not (pt_val (pe_callB call_isiT (by rfl) B.isi (by decide +kernel) (pa_cons (pv 0) (pa_cons (pe_tup (pa_cons (pe_bltn (v := .ty "tuple") rfl B.tup (by decide +kernel) rfl) (pa_cons (pe_bltn (v := .ty "list") rfl B.lst (by decide +kernel) rfl) pa_nil))) pa_nil)))))))) (pss_one (ps_ret pe_bl)) pss_nil)
        (pss_cons (ps_if (pt_cmpR op_ne (pe_callB call_len (by rfl) B.len PySem.boot_len (pa_cons (pv 0) pa_nil)) (pe_callB call_len (by rfl) B.len PySem.boot_len (pa_cons (pv 1) pa_nil)) (nomark _)) (pss_one (ps_ret pe_bl)) pss_nil)
        (pss_one (ps_ret (pe_cmpR (op_eqD hr.units) (pe_lc (own := [("_law_k", 3)]) (g := gName 3) (te := tVar 3) (tt := tNot (tB (tCall (spAl K n) [] E0 (tCons (tOp (rIx K) (tVar 0) (tVar 3)) (tCons (tOp (rIx K) (tVar 1) (tVar 3)) tNil))))) rfl scAl.nd
            (pi_range1 rfl B.rng (pa_cons (pe_callB call_len (by rfl) B.len PySem.boot_len (pa_cons (pv 1) pa_nil)) pa_nil))
            (blkOk_by (N := ["_law_found", "_law_due", "_law_same_kind", "_law_k"]) (sc := defScope sAl) (by decide +kernel)) (fun _ _ _ _ _ => pg_name (i := 3) scAl.nd rfl (.inl rfl))
            (fun _ _ _ _ _ => pts_one (pt_not (pt_val (pe_call G hr (by rfl) mG F.kp bG .nil pass0 (pa_cons (pe_ix ix_seq (pv 0) (pv 3) (fun _ _ => rfl)) (pa_cons (pe_ix ix_seq (pv 1) (pv 3) (fun _ _ => rfl)) pa_nil)))))) (fun _ _ _ _ _ => pv 3)) (pe_lst pa_nil) (nomark _)))))) pss_nil)
      (pss_cons (ps_if (PW.pt (pw_or (pt_cmpR op_isN (pv 1) pe_non (nomark _)) (pw_or1 (pt_cmpR op_isN (pv 0) pe_non (nomark _))))) (pss_one (ps_ret (pe_and (pe_cmpR op_isN (pv 1) pe_non (nomark _)) (pe_one (pe_cmpR op_isN (pv 0) pe_non (nomark _)))))) pss_nil)
      (pss_cons (ps_set (i := 2) scAl.nd rfl (.inl rfl) (pe_cmpR op_eq (pe_callB call_isi (by rfl) B.isi (by decide +kernel) (pa_cons (pv 1) (pa_cons (pe_bltn (v := .ty "str") rfl B.str (by decide +kernel) rfl) pa_nil))) (pe_callB call_isi (by rfl) B.isi (by decide +kernel) (pa_cons (pv 0) (pa_cons (pe_bltn (v := .ty "str") rfl B.str (by decide +kernel) rfl) pa_nil))) (nomark _)))
      (pss_one (ps_ret (pe_and (pv 2) (pe_and (pe_cmpR op_eq (pe_callB call_isi (by rfl) B.isi (by decide +kernel) (pa_cons (pv 1) (pa_cons (pe_bltn (v := .ty "bool") rfl B.bool (by decide +kernel) rfl) pa_nil))) (pe_callB call_isi (by rfl) B.isi (by decide +kernel) (pa_cons (pv 0) (pa_cons (pe_bltn (v := .ty "bool") rfl B.bool (by decide +kernel) rfl) pa_nil))) (nomark _))
        (pe_one (pe_cmpR op_eq (pv 0) (pv 1) (nomark _))))))))), ?_⟩
    have clsTL : Paired ClsV [.ty "tuple", .ty "list"] [.type "tuple", .type "list"] := .cons (.ty _) (.cons (.ty _) .nil)
    cases d with
    | none =>
      cases hx
      cases hy
      refine ⟨_, rfl, (by show 2 ≤ sizeLine; decide), fun N hN => ?_⟩
      have sN := same_new hN (.tup [.ty "tuple", .ty "list"])
      refine ⟨_, N, _, .type "NoneType", _, false, rfl, upd_same, clsTL, .base (.non), kit2 (by decide +kernel) (by decide +kernel), false, rfl, iteF ?_⟩
      refine ⟨_, rfl, rfl, _, rfl, iteT ?_⟩
      refine ⟨_, rfl, rfl, _, rfl, iteT ?_⟩
      exact ⟨_, rfl, rfl, q _ sN⟩
    | bool v =>
      cases hx
      cases hy
      refine ⟨_, rfl, (by show 2 ≤ sizeLine; decide), fun N hN => ?_⟩
      have sN := same_new hN (.tup [.ty "tuple", .ty "list"])
      refine ⟨_, N, _, .type "bool", _, false, rfl, upd_same, clsTL, .base (.bl _), kit2 (by decide +kernel) (by decide +kernel), false, rfl, iteF ?_⟩
      have nn : decide (V.bl v = V.non) = false := decide_eq_false (fun z => by cases z)
      refine ⟨_, rfl, rfl, _, rfl, ?_⟩
      rw [nn]
      refine iteF ?_
      refine ⟨_, rfl, rfl, _, rfl, ?_⟩
      rw [nn]
      refine iteF ?_
      refine ⟨_, rfl, _, _, .type "bool", _, false, rfl, ClsV.ty _, .base (.bl _), kit_ty (by decide +kernel), _, rfl, _, _, .type "bool", _, false, rfl, ClsV.ty _, .base (.bl _), kit_ty (by decide +kernel), rfl, ?_⟩
      refine ⟨_, rfl, true, rfl, iteT ?_⟩
      refine ⟨_, rfl, _, _, .type "bool", _, true, rfl, ClsV.ty _, .base (.bl _), kit_ty (by decide +kernel), _, rfl, _, _, .type "bool", _, true, rfl, ClsV.ty _, .base (.bl _), kit_ty (by decide +kernel), rfl, true, rfl, iteT ?_⟩
      refine ⟨_, rfl, _, rfl, rfl, ?_⟩
      rw [decide_eq_true rfl]
      exact q _ sN
    | int v =>
      cases hx
      cases hy
      refine ⟨_, rfl, (by show 2 ≤ sizeLine; decide), fun N hN => ?_⟩
      have sN := same_new hN (.tup [.ty "tuple", .ty "list"])
      refine ⟨_, N, _, .type "int", _, false, rfl, upd_same, clsTL, .base (.int _), kit2 (by decide +kernel) (by decide +kernel), false, rfl, iteF ?_⟩
      have nn : decide (V.int v = V.non) = false := decide_eq_false (fun z => by cases z)
      refine ⟨_, rfl, rfl, _, rfl, ?_⟩
      rw [nn]
      refine iteF ?_
      refine ⟨_, rfl, rfl, _, rfl, ?_⟩
      rw [nn]
      refine iteF ?_
      refine ⟨_, rfl, _, _, .type "int", _, false, rfl, ClsV.ty _, .base (.int _), kit_ty (by decide +kernel), _, rfl, _, _, .type "int", _, false, rfl, ClsV.ty _, .base (.int _), kit_ty (by decide +kernel), rfl, ?_⟩
      refine ⟨_, rfl, true, rfl, iteT ?_⟩
      refine ⟨_, rfl, _, _, .type "int", _, false, rfl, ClsV.ty _, .base (.int _), kit_ty (by decide +kernel), _, rfl, _, _, .type "int", _, false, rfl, ClsV.ty _, .base (.int _), kit_ty (by decide +kernel), rfl, true, rfl, iteT ?_⟩
      refine ⟨_, rfl, _, rfl, rfl, ?_⟩
      rw [decide_eq_true rfl]
      exact q _ sN
    | str v =>
      cases hx
      cases hy
      refine ⟨_, rfl, (by show 2 ≤ sizeLine; decide), fun N hN => ?_⟩
      have sN := same_new hN (.tup [.ty "tuple", .ty "list"])
      refine ⟨_, N, _, .type "str", _, false, rfl, upd_same, clsTL, .base (.str _), kit2 (by decide +kernel) (by decide +kernel), false, rfl, iteF ?_⟩
      have nn : decide (V.str v = V.non) = false := decide_eq_false (fun z => by cases z)
      refine ⟨_, rfl, rfl, _, rfl, ?_⟩
      rw [nn]
      refine iteF ?_
      refine ⟨_, rfl, rfl, _, rfl, ?_⟩
      rw [nn]
      refine iteF ?_
      refine ⟨_, rfl, _, _, .type "str", _, true, rfl, ClsV.ty _, .base (.str _), kit_ty (by decide +kernel), _, rfl, _, _, .type "str", _, true, rfl, ClsV.ty _, .base (.str _), kit_ty (by decide +kernel), rfl, ?_⟩
      refine ⟨_, rfl, true, rfl, iteT ?_⟩
      refine ⟨_, rfl, _, _, .type "str", _, false, rfl, ClsV.ty _, .base (.str _), kit_ty (by decide +kernel), _, rfl, _, _, .type "str", _, false, rfl, ClsV.ty _, .base (.str _), kit_ty (by decide +kernel), rfl, true, rfl, iteT ?_⟩
      refine ⟨_, rfl, _, rfl, rfl, ?_⟩
      rw [decide_eq_true rfl]
      exact q _ sN
    | list ds =>
      cases hx with
      | @lst xa xs _ hxs dx =>
      cases hy with
      | @lst ya ys _ hys dy =>
      cases hF with
      | lst hlen hFs =>
      have lx := dpa_len dx
      have ly := dpa_len dy
      have hd' : PyData.depthAll ds + 1 < n + 1 := hd
      refine ⟨_, rfl, (by show 2 ≤ sizeLine; decide), fun N hN => ?_⟩
      have sN := same_new hN (.tup [.ty "tuple", .ty "list"])
      refine ⟨_, N, _, .type "list", _, true, rfl, upd_same, clsTL, ty_list (Same.seq sN hys), kit2 (by decide +kernel) (by decide +kernel), true, rfl, iteT ?_⟩
      refine ⟨_, rfl, _, _, .type "list", _, false, rfl, ClsV.ty _, ty_list (Same.seq sN hxs), kit_ty (by decide +kernel), _, rfl, _, _, .type "list", _, false, rfl, ClsV.ty _, ty_list (Same.seq sN hys), kit_ty (by decide +kernel), rfl, _, rfl, iteF ?_⟩
      refine ⟨_, rfl, (by show 2 ≤ sizeLine; decide), fun M hM => ?_⟩
      have sM := sN.trans (same_new hM (.tup [.ty "tuple", .ty "list"]))
      refine ⟨_, M, _, .type "list", _, true, rfl, upd_same, clsTL, ty_list (Same.seq sM hxs), kit2 (by decide +kernel) (by decide +kernel), true, rfl, iteF ?_⟩
      refine ⟨_, rfl, _, _, rfl, .inl ⟨_, Same.seq sM hxs, rfl⟩, _, rfl, _, _, rfl, .inl ⟨_, Same.seq sM hys, rfl⟩, rfl, _, rfl, ?_⟩
      rw [lx, ly, decide_eq_true rfl]
      refine iteF ?_
      refine ⟨_, rfl, _, _, rfl, .inl ⟨_, Same.seq sM hys, rfl⟩, _, rfl, by omega, by rw [ly]; omega, fun D hD => ?_⟩
      refine lc_it (walk_range) (fun i H2 => H2 D = some (.lst []) ∧ Same H H2) ?_ (fun _ _ _ _ => trivial) ?_ ?_
      · exact ⟨upd_same, sM.trans (same_new hD _)⟩
      · rintro i v H2 H2' hi ⟨e1, e2⟩ ⟨rfl, rfl⟩
        have hi2 : i < ds.length := by rw [ly] at hi; omega
        obtain ⟨vx, gx, px⟩ := dpa_at dx (List.getElem?_eq_getElem hi2)
        obtain ⟨vy, gy, py⟩ := dpa_at dy (List.getElem?_eq_getElem hi2)
        have hm : ds[i] ∈ ds := List.getElem_mem hi2
        refine ⟨rfl, ?_⟩
        refine ⟨_, rfl, _, rfl, .inl ⟨xa, _, _, _, rfl, rfl, Same.seq e2 hxs, atI_of gx (by omega), ?_⟩⟩
        refine ⟨_, rfl, _, rfl, .inl ⟨ya, _, _, _, rfl, rfl, Same.seq e2 hys, atI_of gy (by omega), ?_⟩⟩
        refine ⟨vx, vy, ds[i], rfl, dp_same e2 px, dp_same e2 py, hFs _ hm, by have := depth_mem hm; omega, fun H3 s3 => ?_⟩
        exact ⟨true, rfl, iteF ⟨s3 _ _ e1, e2.trans s3⟩⟩
      · rintro H2 ⟨e1, e2⟩
        refine ⟨(by show 0 ≤ sizeLine; decide), fun E' hE => ?_⟩
        have sE := same_new hE (.lst [])
        refine ⟨.list [], .list [], .lst (.inl (.inl (sE _ _ e1))) .nil, .lst (.inl (.inl upd_same)) .nil, by decide +kernel, by decide +kernel, ?_⟩
        exact q _ (e2.trans sE)
    | tuple ds =>
      cases hx with
      | @tup xa xs _ hxs dx =>
      cases hy with
      | @tup ya ys _ hys dy =>
      cases hF with
      | tup hlen hFs =>
      have lx := dpa_len dx
      have ly := dpa_len dy
      have hd' : PyData.depthAll ds + 1 < n + 1 := hd
      refine ⟨_, rfl, (by show 2 ≤ sizeLine; decide), fun N hN => ?_⟩
      have sN := same_new hN (.tup [.ty "tuple", .ty "list"])
      refine ⟨_, N, _, .type "tuple", _, true, rfl, upd_same, clsTL, ty_tup (Same.seqT sN hys), kit2 (by decide +kernel) (by decide +kernel), true, rfl, iteT ?_⟩
      refine ⟨_, rfl, _, _, .type "tuple", _, true, rfl, ClsV.ty _, ty_tup (Same.seqT sN hxs), kit_ty (by decide +kernel), _, rfl, _, _, .type "tuple", _, true, rfl, ClsV.ty _, ty_tup (Same.seqT sN hys), kit_ty (by decide +kernel), rfl, _, rfl, iteF ?_⟩
      refine ⟨_, rfl, (by show 2 ≤ sizeLine; decide), fun M hM => ?_⟩
      have sM := sN.trans (same_new hM (.tup [.ty "tuple", .ty "list"]))
      refine ⟨_, M, _, .type "tuple", _, true, rfl, upd_same, clsTL, ty_tup (Same.seqT sM hxs), kit2 (by decide +kernel) (by decide +kernel), true, rfl, iteF ?_⟩
      refine ⟨_, rfl, _, _, rfl, .inr ⟨_, Same.seqT sM hxs, rfl⟩, _, rfl, _, _, rfl, .inr ⟨_, Same.seqT sM hys, rfl⟩, rfl, _, rfl, ?_⟩
      rw [lx, ly, decide_eq_true rfl]
      refine iteF ?_
      refine ⟨_, rfl, _, _, rfl, .inr ⟨_, Same.seqT sM hys, rfl⟩, _, rfl, by omega, by rw [ly]; omega, fun D hD => ?_⟩
      refine lc_it (walk_range) (fun i H2 => H2 D = some (.lst []) ∧ Same H H2) ?_ (fun _ _ _ _ => trivial) ?_ ?_
      · exact ⟨upd_same, sM.trans (same_new hD _)⟩
      · rintro i v H2 H2' hi ⟨e1, e2⟩ ⟨rfl, rfl⟩
        have hi2 : i < ds.length := by rw [ly] at hi; omega
        obtain ⟨vx, gx, px⟩ := dpa_at dx (List.getElem?_eq_getElem hi2)
        obtain ⟨vy, gy, py⟩ := dpa_at dy (List.getElem?_eq_getElem hi2)
        have hm : ds[i] ∈ ds := List.getElem_mem hi2
        refine ⟨rfl, ?_⟩
        refine ⟨_, rfl, _, rfl, .inr (.inl ⟨xa, _, _, _, rfl, rfl, Same.seqT e2 hxs, atI_of gx (by omega), ?_⟩)⟩
        refine ⟨_, rfl, _, rfl, .inr (.inl ⟨ya, _, _, _, rfl, rfl, Same.seqT e2 hys, atI_of gy (by omega), ?_⟩)⟩
        refine ⟨vx, vy, ds[i], rfl, dp_same e2 px, dp_same e2 py, hFs _ hm, by have := depth_mem hm; omega, fun H3 s3 => ?_⟩
        exact ⟨true, rfl, iteF ⟨s3 _ _ e1, e2.trans s3⟩⟩
      · rintro H2 ⟨e1, e2⟩
        refine ⟨(by show 0 ≤ sizeLine; decide), fun E' hE => ?_⟩
        have sE := same_new hE (.lst [])
        refine ⟨.list [], .list [], .lst (.inl (.inl (sE _ _ e1))) .nil, .lst (.inl (.inl upd_same)) .nil, by decide +kernel, by decide +kernel, ?_⟩
        exact q _ (e2.trans sE)
    | dict kvs => cases hF
theorem al_all {f : Addr} {fd : FuncData} (F : Fun K "_law_alike" "_law_alike" sAl f fd) (bG : Binds K fd psAl []) (mG : mg "_law_alike" = some (.ref f)) (B : Bn mg) : ∀ n : Nat, FnOk P w K mg base CX0 n f fd psAl (spAl K n)
  | 0 => by
    have no : ∀ vs H Q E, ¬ spAl K 0 vs H Q E := fun vs H Q E h => by
      obtain ⟨x, y, d, _, _, _, _, hd, _⟩ := h
      exact Nat.not_lt_zero _ hd
    exact ⟨fun vs H Q E h => absurd h (no vs H Q E), fun A outer s H args us vs Q E _ _ _ _ h => absurd h (no vs H Q E)⟩
  | n + 1 => ok_al F (al_all F bG mG B n) bG mG B
end
end Say
namespace Say
open PySem PySem.Spec PyProof.Rows L2
def dkTab : List (Str × V) := [("put", .int 3), ("drop", .int 2), ("move", .int 3), ("learn", .int 3), ("forget", .int 2)]
/-- what the module's dict of sizes holds -/
structure DeedK (K : PySem.W.Frag) (w : World) (mg : Str → Option Value) : Prop where
  sz : ∃ a es n, mg "SIZES" = some (.ref a) ∧ K.lookup a = some ⟨.type "dict", none, .dict es n, #[]⟩ ∧ PySem.W.KeysLit w.params es.toList ∧ ∀ h : Str, KGt K w a h (tabV dkTab h)
def isDeedM (xs : List V) : Bool := match xs with
  | .str z :: r => decide (tabV dkTab z = .int (r.length + 1 : Nat))
  | _ => false
def HeadOk (xs : List V) : Prop := ∀ y r, xs = y :: r → (∃ z, y = .str z) ∨ ∃ i, y = .int i
/-- x is a deed, or none -/
def DV (K : PySem.W.Frag) (H : Hp) (x : V) (b : Bool) : Prop := (∃ a ys, x = .ref a ∧ SqT K H a ys ∧ HeadOk ys ∧ isDeedM ys = b) ∨ (NoTup K H x ∧ b = false)
theorem DV.same {K : PySem.W.Frag} {H H' : Hp} {x : V} {b : Bool} (h : DV K H x b) (s : Same H H') : DV K H' x b := by
  rcases h with ⟨a, ys, h1, h2, h3, h4⟩ | ⟨h1, h2⟩
  · exact .inl ⟨a, ys, h1, Same.seqT s h2, h3, h4⟩
  · exact .inr ⟨h1.same s, h2⟩
section
variable {P : Program} {w : World} {K : PySem.W.Frag} {mg : Str → Option Value} {base : Heap}
abbrev sIsD : Stmt := topS 62
theorem scIsD : FnScope ["deed"] ["deed"] (defScope sIsD) := ⟨rfl, rfl, rfl, by decide +kernel, rfl, by decide +kernel, by decide +kernel⟩
def spIsD (K : PySem.W.Frag) : Sp := fun vs H Q _ => ∃ (v : V) (b : Bool), vs = [v] ∧ DV K H v b ∧ Q (.bl b) H
theorem ok_isD {f : Addr} {fd : FuncData} {k : Nat} (F : Fun K "is_deed" "is_deed" sIsD f fd) (B : Bn mg) (DK : DeedK K w mg) : FnOk P w K mg base CX0 (k + 1) f fd ["deed"] (spIsD K) := by
  obtain ⟨aS, es, n, mS, lS, kS, gS⟩ := DK
  refine F.ok scIsD (fun vs H Q E h => ?_) (fun cdv A outer s H vs Q E hr h => ?_)
  · obtain ⟨v, b, rfl, _⟩ := h
    rfl
  · obtain ⟨v, b, rfl, hv, q⟩ := h
    refine ⟨_, pss_cons (ps_if (PW.pt (pw_or (pt_not (pt_val (pe_callB call_isi (by rfl) B.isi (by decide +kernel) (pa_cons (pv 0) (pa_cons (pe_bltn (v := .ty "tuple") rfl B.tup (by decide +kernel) rfl) pa_nil)))))
          (pw_or (pt_cmpR op_eq (pe_callB call_len (by rfl) B.len PySem.boot_len (pa_cons (pv 0) pa_nil)) pe_int (nomark _))
          (pw_or1 (pt_not (pt_val (pe_callB call_isi (by rfl) B.isi (by decide +kernel) (pa_cons (pe_ix ix_tup (pv 0) pe_int (fun _ _ => rfl)) (pa_cons (pe_bltn (v := .ty "str") rfl B.str (by decide +kernel) rfl) pa_nil))))))))) (pss_one (ps_ret pe_bl)) pss_nil)
      (pss_one (ps_ret (pe_cmpR op_eq (pe_kget (d := aS) lS kS (pe_glob (v := .ref aS) rfl mS rfl) (pe_ix ix_tup (pv 0) pe_int (fun _ _ => rfl)) ⟨rfl, rfl, rfl, rfl⟩) (pe_callB call_len (by rfl) B.len PySem.boot_len (pa_cons (pv 0) pa_nil)) (nomark _)))), ?_⟩
    rcases hv with ⟨a, ys, rfl, ht, hh, rfl⟩ | ⟨hn, rfl⟩
    · refine ⟨_, rfl, _, _, .type "tuple", _, true, rfl, ClsV.ty _, ty_tup ht, kit_ty (by decide +kernel), true, rfl, iteF ?_⟩
      cases ys with
      | nil =>
        refine ⟨_, rfl, _, _, rfl, .inr ⟨_, ht, rfl⟩, rfl, _, rfl, ?_⟩
        exact iteT q
      | cons y r =>
        refine ⟨_, rfl, _, _, rfl, .inr ⟨_, ht, rfl⟩, rfl, _, rfl, ?_⟩
        rw [show decide (V.int (((y :: r).length : Nat) : Int) = V.int 0) = false from decide_eq_false fun z => by
          have := V.int.inj z
          rw [List.length_cons] at this
          omega]
        refine iteF ?_
        rcases hh y r rfl with ⟨z, rfl⟩ | ⟨i, rfl⟩
        · refine ⟨_, rfl, a, _, 0, .str z, rfl, rfl, ht, atI_nat (j := 0) rfl, _, _, .type "str", _, true, rfl, ClsV.ty _, .base (.str _), kit_ty (by decide +kernel), true, rfl, iteF ?_⟩
          refine ⟨rfl, _, rfl, a, _, 0, .str z, rfl, rfl, ht, atI_nat (j := 0) rfl, z, tabV dkTab z, rfl, gS z, ?_⟩
          refine ⟨_, rfl, _, _, rfl, .inr ⟨_, ht, rfl⟩, ?_, q⟩
          unfold tabV
          generalize hf : (dkTab.find? fun kv => kv.1 == z) = o
          cases o with
          | none => rfl
          | some kv =>
            have hm := List.mem_of_find?_eq_some hf
            simp only [dkTab, List.mem_cons, List.not_mem_nil, or_false] at hm
            rcases hm with rfl | rfl | rfl | rfl | rfl <;> rfl
        · refine ⟨_, rfl, a, _, 0, .int i, rfl, rfl, ht, atI_nat (j := 0) rfl, _, _, .type "int", _, false, rfl, ClsV.ty _, .base (.int _), kit_ty (by decide +kernel), false, rfl, iteT ?_⟩
          exact q
    · obtain ⟨t, h1, h2⟩ := hn.ty
      exact ⟨_, rfl, v, _, .type t, _, false, rfl, ClsV.ty _, h1, kit_ty h2, false, rfl, iteT q⟩
abbrev sCd : Stmt := topS 61
abbrev nCd : List Str := ["deeds", "number", "deed"]
theorem scCd : FnScope nCd ["deeds"] (defScope sCd) := ⟨rfl, rfl, rfl, by decide +kernel, rfl, by decide +kernel, by decide +kernel⟩
/-- the list's deeds, by which is one -/
def spCd (K : PySem.W.Frag) (CD : Addr) : Sp := fun vs H Q E => ∃ v, vs = [v] ∧
  ((NoLst K H v ∧ ∀ d H', Same H H' → H d = none → H' d = some (.xd [(("number" : Str), .int 0)]) → E (.ref CD) (some d) H') ∨
   ∃ (D : Addr) (xs : List V) (bs : List Bool), v = .ref D ∧ SqL K H D xs ∧ xs.length ≤ 100 ∧ Paired (DV K H) xs bs ∧
    ((∀ b ∈ bs, b = true) → ∀ H', Same H H' → Q .non H') ∧
    (∀ n : Nat, bs[n]? = some false → (∀ m, m < n → bs[m]? = some true) → ∀ d H', Same H H' → H d = none → H' d = some (.xd [(("number" : Str), .int (n : Nat))]) → E (.ref CD) (some d) H'))
theorem ok_cd {f CD fI : Addr} {fd : FuncData} (F : Fun K "check_deeds" "check_deeds" sCd f fd) (B : Bn mg) (O : PySem.XBadDeed.ExTxt P K mg CD fI) (DI : Df P w K mg base "is_deed" ["deed"] 1 (spIsD K)) : FnOk P w K mg base (L2.CX P w) 2 f fd ["deeds"] (spCd K CD) := by
  obtain ⟨fI, fdI, GI, kI, bI, mI⟩ := DI
  refine F.okX scCd (fun vs H Q E h => ?_) (fun cdv A outer s H vs Q E hr h => ?_)
  · obtain ⟨v, rfl, _⟩ := h
    rfl
  · obtain ⟨v, rfl, h⟩ := h
    have px : PassesOwn (model P w) (A.deeper (envOfC "check_deeds" (defScope sCd) s.heap.objs.size f cdv)) (envOfC "check_deeds" (defScope sCd) s.heap.objs.size f cdv) (cxOf (L2.CX P w) P w K mg base nCd "check_deeds" (defScope sCd) f cdv A outer s H E).xe := PassesOwn.leaving
    refine ⟨_, pss_cons (ps_if (pt_not (pt_val (pe_callB call_isi (by rfl) B.isi (by decide +kernel) (pa_cons (pv 0) (pa_cons (pe_bltn (v := .ty "list") rfl B.lst (by decide +kernel) rfl) pa_nil))))) (pss_one (ps_raiseBadDeed rfl O hr (takes_of rfl rfl rfl rfl) (by exact (pa_cons pe_int pa_nil)))) pss_nil)
      (pss_one (ps_for px rfl (pi_enum (by rfl) B.enu (pa_cons (pv 0) pa_nil)) (pg_tup (by rfl) (pgs_cons (pg_name (i := 1) scCd.nd rfl (.inl rfl)) (pgs_cons (pg_name (i := 2) scCd.nd rfl (.inl rfl)) pgs_nil)))
        (pss_one (ps_if (pt_not (pt_val (pe_call GI hr (by rfl) mI kI bI .nil pass0 (pa_cons (pv 2) pa_nil)))) (pss_one (ps_raiseBadDeed rfl O hr (takes_of rfl rfl rfl rfl) (by exact (pa_cons (pv 1) pa_nil)))) pss_nil)))), ?_⟩
    rcases h with ⟨hn, q⟩ | ⟨D, xs, bs, rfl, hD, h100, hp, q1, q2⟩
    · obtain ⟨t, h1, h2⟩ := hn.ty
      refine ⟨_, rfl, v, _, .type t, _, false, rfl, ClsV.ty _, h1, kit_ty h2, false, rfl, iteT ?_⟩
      exact ⟨0, rfl, ⟨by decide, by decide⟩, fun d hd => q d _ (same_new hd _) hd upd_same⟩
    · refine ⟨_, rfl, _, _, .type "list", _, true, rfl, ClsV.ty _, ty_list hD, kit_ty (by decide +kernel), true, rfl, iteF ?_⟩
      refine ⟨_, rfl, D, _, rfl, hD, for_it (walk_enum (xs := xs)) (fun i σ H2 => Same H H2 ∧ (∃ v1 v2, σ = [some (.ref D), v1, v2]) ∧ ∀ m, m < i → bs[m]? = some true) ⟨Same.refl H, ⟨_, _, rfl⟩, fun m hm => absurd hm (Nat.not_lt_zero m)⟩ (fun i σ H2 _ h => Same.seq h.1 hD) ?_ ?_⟩
      · rintro i x σ H2 H3 hi ⟨s2, ⟨v1, v2, rfl⟩, hb⟩ ⟨t, x1, x2, rfl, ht, rfl, g1, g2⟩
        cases g1
        have g2 : xs[i]? = some x2 := g2
        obtain ⟨b, hbi, hv⟩ := paired_at hp g2
        have sm := same_new ht (.tup [.int (i : Nat), x2])
        refine ⟨t, _, rfl, .inl (.inl upd_same), rfl, _, _, rfl, _, _, rfl, rfl, ?_⟩
        refine ⟨_, rfl, x2, b, rfl, hv.same (s2.trans sm), ?_⟩
        cases b with
        | true =>
          refine ⟨true, rfl, iteF ⟨s2.trans sm, ⟨_, _, rfl⟩, fun m hm => ?_⟩⟩
          rcases Nat.lt_or_eq_of_le (Nat.le_of_lt_succ hm) with h | h
          · exact hb m h
          · rw [h]; exact hbi
        | false =>
          refine ⟨false, rfl, iteT ?_⟩
          exact ⟨_, rfl, (i : Nat), rfl, ⟨by omega, by omega⟩, fun d hd => q2 i hbi hb d _ ((s2.trans sm).trans (same_new hd _)) ((s2.trans sm).free hd) upd_same⟩
      · rintro σ H2 ⟨s2, _, hb⟩
        refine q1 (fun b hbm => ?_) H2 s2
        obtain ⟨m, hm⟩ := List.mem_iff_getElem?.mp hbm
        have := (List.getElem?_eq_some_iff.mp hm).1
        have hl := paired_len hp
        have e := hb m (by omega)
        rw [hm] at e
        exact Option.some.inj e
end
end Say
namespace SrtT
open PySem PySem.Spec PyProof.Rows L2 SrtO
/-- by the first text, then by the second -/
def lexT (p q : Str × Str) : Bool := if p.1 = q.1 then decide (p.2.cps.toList < q.2.cps.toList) else decide (p.1.cps.toList < q.1.cps.toList)
theorem str_of {x y : Str} (h : x.cps.toList = y.cps.toList) : x = y := TL.ext_tl h
theorem lexT_no {p q : Str × Str} : lexT p q = false ↔ (q.1.cps.toList < p.1.cps.toList ∨ (p.1 = q.1 ∧ q.2.cps.toList ≤ p.2.cps.toList)) := by
  unfold lexT
  by_cases h : p.1 = q.1
  · rw [if_pos h]
    constructor
    · intro z
      exact .inr ⟨h, List.not_lt.mp (of_decide_eq_false z)⟩
    · rintro (z | ⟨_, z⟩)
      · rw [h] at z
        exact absurd z (List.lt_irrefl _)
      · exact decide_eq_false (List.not_lt.mpr z)
  · rw [if_neg h]
    constructor
    · intro z
      have le := List.not_lt.mp (of_decide_eq_false z)
      refine .inl ?_
      refine Decidable.byContradiction fun n => h (str_of (List.le_antisymm (List.not_lt.mp n) le))
    · rintro (z | ⟨e, _⟩)
      · exact decide_eq_false (List.not_lt.mpr (List.le_of_lt z))
      · exact absurd e h
theorem lexT_yes {p q : Str × Str} (h : lexT p q = true) : p.1.cps.toList < q.1.cps.toList ∨ (p.1 = q.1 ∧ p.2.cps.toList < q.2.cps.toList) := by
  unfold lexT at h
  by_cases e : p.1 = q.1
  · rw [if_pos e] at h
    exact .inr ⟨e, of_decide_eq_true h⟩
  · rw [if_neg e] at h
    exact .inl (of_decide_eq_true h)
theorem swoT {α : Type} (k : α → Str × Str) : Swo fun v u => lexT (k v) (k u) := by
  refine ⟨fun x y h => ?_, fun x y z h1 h2 => ?_⟩
  · refine lexT_no.mpr ?_
    rcases lexT_yes h with q | ⟨e, q⟩
    · exact .inl q
    · exact .inr ⟨e.symm, List.le_of_lt q⟩
  · refine lexT_no.mpr ?_
    rcases lexT_no.mp h1 with a | ⟨e, a⟩
    · rcases lexT_no.mp h2 with b | ⟨e', b⟩
      · exact .inl (List.lt_trans a b)
      · exact .inl (by rw [e']; exact a)
    · rcases lexT_no.mp h2 with b | ⟨e', b⟩
      · exact .inl (by rw [← e]; exact b)
      · exact .inr ⟨e'.trans e, List.le_trans a b⟩
/-- v is a tuple of the two texts -/
def IsTx (h : Heap) (v : Value) (x y : Str) : Prop := ∃ a o t u n, v = .ref a ∧ h.get? a = some o ∧ o.cls = .type "tuple" ∧ o.data = .seq #[.str x t, .str y u] n
theorem IsTx.keeps {h h' : Heap} {v : Value} {x y : Str} (p : IsTx h v x y) (k : ∀ b o, h.get? b = some o → o.cls = .type "tuple" → h'.get? b = some o) : IsTx h' v x y := by
  obtain ⟨a, o, t, u, n, e, obO, clC, dtD⟩ := p
  exact ⟨a, o, t, u, n, e, k _ _ obO clC, clC, dtD⟩
section
variable {prog : Program} {w : World} {A : Around} {E : Value → Shared → Prop} {s : Shared}
theorem tx_cmp {vs : List Value} {k : Value → Str × Str} (txP : ∀ v ∈ vs, IsTx s.heap v (k v).1 (k v).2) : Cmp prog w A s (tuples' true) (fun p => p.1 ∈ vs) (lt2 fun v u => lexT (k v) (k u)) := by
  intro p q hm hm'
  have h1 := txP _ hm
  have h2 := txP _ hm'
  show wpAny (model prog w) A (keyLt' (tuples' true) p.1 q.1) (fun r s' => s' = s ∧ r = lexT (k p.1) (k q.1)) (fun _ _ => False) s
  unfold lexT
  generalize (k p.1).1 = x at h1 ⊢
  generalize (k p.1).2 = y at h1 ⊢
  generalize (k q.1).1 = x' at h2 ⊢
  generalize (k q.1).2 = y' at h2 ⊢
  obtain ⟨a, o, t, u, n, e, obO, clC, dtD⟩ := h1
  obtain ⟨a', o', t', u', n', e', ho', hc', hd'⟩ := h2
  rw [e, e']
  refine PySem.W.kat_lt obO dtD ho' hd' ?_
  show PySem.W.KatLex prog w A true (decide (2 < 2)) _ [(.str x t, .str x' t'), (.str y u, .str y' u')] 0 s
  refine PySem.W.kat_cons (SeqAt.EqAt.str_str x t x' t' prog w _ _ ?_)
  refine PySem.W.kat_go (fun q1 => ?_) (fun q1 => ?_)
  · have ex : x = x' := by simpa using q1
    refine PySem.W.kat_yes (PySem.W.kat_cons (SeqAt.EqAt.str_str y u y' u' prog w _ _ ?_))
    refine PySem.W.kat_go (fun q2 => ?_) (fun q2 => ?_)
    · have ey : y = y' := by simpa using q2
      have q3 : (if x = x' then decide (y.cps.toList < y'.cps.toList) else decide (x.cps.toList < x'.cps.toList)) = false := by
        rw [if_pos ex, ey]
        exact decide_eq_false (List.lt_irrefl _)
      exact PySem.W.kat_yes (PySem.W.kat_nil ⟨rfl, q3.symm⟩)
    · have q3 : (if x = x' then decide (y.cps.toList < y'.cps.toList) else decide (x.cps.toList < x'.cps.toList)) = decide (y.cps.toList < y'.cps.toList) := if_pos ex
      refine PySem.W.kat_no (PySem.W.kat_one _ _ (PyProof.Rows.lt_str ?_))
      exact (show s = s ∧ decide (y.cps.toList < y'.cps.toList) = (if x = x' then decide (y.cps.toList < y'.cps.toList) else decide (x.cps.toList < x'.cps.toList)) from ⟨rfl, q3.symm⟩)
  · have ex : ¬ x = x' := by simpa using q1
    have q3 : (if x = x' then decide (y.cps.toList < y'.cps.toList) else decide (x.cps.toList < x'.cps.toList)) = decide (x.cps.toList < x'.cps.toList) := if_neg ex
    exact PySem.W.kat_no (oneLt_str ⟨rfl, q3.symm⟩)
theorem firsts_tx {h : Heap} : ∀ {vs : List Value}, (∀ v ∈ vs, ∃ x y, IsTx h v x y) → ∃ fs, PySem.W.KatTups h vs fs ∧ fs.length = vs.length ∧ ∀ f ∈ fs, ∃ x t, f = Value.str x t
  | [], _ => ⟨[], trivial, rfl, fun _ h => nomatch h⟩
  | v :: vs, txP => by
    obtain ⟨x, y, a, o, t, u, n, rfl, obO, clC, dtD⟩ := txP v (List.mem_cons_self ..)
    obtain ⟨fs, h1, h2, h3⟩ := firsts_tx (vs := vs) fun v inV => txP v (List.mem_cons_of_mem _ inV)
    refine ⟨.str x t :: fs, .cons obO clC dtD rfl h1, by simp [h2], fun f fresh0 => ?_⟩
    rcases List.mem_cons.mp fresh0 with rfl | fresh0
    · exact ⟨_, _, rfl⟩
    · exact h3 f fresh0
theorem tx_sortable {a : Addr} {vs : List Value} {k : Value → Str × Str} (h0 : 0 < vs.length) (txP : ∀ v ∈ vs, IsTx s.heap v (k v).1 (k v).2) (atA : ∀ o, s.heap.get? a = some o → o.cls ≠ .type "tuple") : SortableO prog w A s a vs fun v u => lexT (k v) (k u) := by
  intro h' keep
  have hp' : ∀ v ∈ vs, IsTx h' v (k v).1 (k v).2 := fun v hm => (txP v hm).keeps fun b o e c => keep b o (fun z => by subst z; exact atA o e c) e
  obtain ⟨fs, h1, h2, h3⟩ := firsts_tx fun v hm => ⟨_, _, hp' v hm⟩
  refine ⟨tuples' true, fun Q E isT => ?_, tx_cmp hp'⟩
  refine PySem.W.kat_kind (T := .type "str") h1 (by omega) (fun f hm => ?_) (by rfl) ?_
  · obtain ⟨x, t, rfl⟩ := h3 f hm
    exact PySem.W.Looks.now
  · have e : (Value.type "str" != Value.type "tuple") = true := by first | decide +kernel | rfl | decide
    rw [e]
    exact isT
end
/-- the texts of a tuple of two -/
def txOf (h : Heap) (v : Value) : Str × Str := match v with
  | .ref a => match h.get? a with
    | some o => match o.data with
      | .seq its _ => match its.toList with
        | [.str x _, .str y _] => (x, y)
        | _ => (Str.empty, Str.empty)
      | _ => (Str.empty, Str.empty)
    | none => (Str.empty, Str.empty)
  | _ => (Str.empty, Str.empty)
theorem IsTx.tx {h : Heap} {v : Value} {x y : Str} (p : IsTx h v x y) : txOf h v = (x, y) := by
  obtain ⟨a, o, t, u, n, rfl, obO, clC, dtD⟩ := p
  unfold txOf
  simp only [obO, dtD]
end SrtT
namespace Say
open PySem PySem.Spec PyProof.Rows L2 L2.DX
section
variable {X : Cx}
/-- d.items() of a dict with int and text keys -/
def rItemsK : V → List V → Hp → VK → Prop := fun x xs H Q => ∃ (a : Addr) (kvs : List (Key × V)), x = .ref a ∧ xs = [] ∧ H a = some (.dK kvs) ∧ ∀ p, H p = none → Q (.ref p) (upd H p (itemsO p a))
theorem mt_itemsK : MtR X "dict.items" rItemsK := by
  intro pn s σ H x xs v args Q I rx rxs h
  obtain ⟨a, kvs, rfl, rfl, atA, q⟩ := h
  cases rx
  cases rxs
  obtain ⟨szT, dtD, vs, kv, o, es, ep, obO, atI0, hdat, _⟩ := (show ObjOk X.prog X.w H s.heap a (.dK kvs) from I.hok a _ atA)
  refine DT.callItems (es := es) (ep := ep) dtD ⟨o, obO, atI0, hdat⟩ ?_
  have fresh0 : H s.heap.objs.size = none := I.hok.fresh (Nat.le_refl _)
  exact ⟨.ref s.heap.objs.size, upd H s.heap.objs.size (itemsO s.heap.objs.size a), I.laid (t' := s.toks) (fun b u e => Heap.get?_push_of_some _ e) (Nat.le_refl _) (itemsO_ok (Heap.get?_push_size _ rfl)), rfl, q _ fresh0⟩
abbrev entS (e : Str × Str) : Key × V := (Sum.inr e.1, V.str e.2)
/-- sorted(d.items()), keys and values texts -/
def rSortTx : List V → Hp → VK → Prop := fun vs H Q => ∃ (p a : Addr) (es : List (Str × Str)), vs = [.ref p] ∧ H p = some (itemsO p a) ∧ H a = some (.dK (es.map entS)) ∧ es.length ≤ 1000 ∧
  ∀ (H' : Hp) (l : Addr) (ps : List (Addr × Str × Str)), (∀ b o, H b = some o → H' b = some o) → (ps.map (·.2)).Perm es → (ps.map (·.2)).Pairwise (fun e f => SrtT.lexT f e = false) → H l = none → H' l = some (.lst (ps.map fun z => V.ref z.1)) →
    (∀ z ∈ ps, H' z.1 = some (.tup [.str z.2.1, .str z.2.2])) → Q (.ref l) H'
theorem key_txt {x : Str} {v : Value} (h : keyIs (Sum.inr x : Key) v = true) : ∃ t, v = .str x t := by
  rcases keyIs_shape h with ⟨i, t, e, rfl⟩ | ⟨y, t, e, rfl⟩
  · cases e
  · cases e
    exact ⟨t, rfl⟩
theorem ent_at {P : Program} {w : World} : ∀ {l : List DictEntry} {vs : List (Key × Value)} {ks : List (Str × Str)}, Pairs (mixKind P w) l vs → KV (ks.map entS) vs → Paired (fun (e : DictEntry) (k : Str × Str) => (∃ t, e.key = .str k.1 t) ∧ ∃ u, e.val = .str k.2 u) l ks
  | [], _, ks, .nil, kv => by
    cases ks with
    | nil => exact .nil
    | cons k r => cases kv
  | e :: l, _, ks, .cons h1 h2 h3, kv => by
    cases ks with
    | nil => cases kv
    | cons k r =>
      cases kv with
      | cons g1 g2 =>
        refine .cons ⟨?_, ?_⟩ (ent_at h3 g2)
        · obtain ⟨g3, g4⟩ := g1
          rw [← g3] at h1
          exact key_txt h1
        · rw [h2]
          exact g1.2
def adr : Value → Addr
  | .ref a => a
  | _ => 0
theorem cr_sortedTx (clC : X.calm = true) : CallR X (.builtin "sorted") rSortTx := by
  intro pn s σ H xs args Q I r h
  obtain ⟨p, a, ks, rfl, txP, atA, h64, q⟩ := h
  obtain rfl := Vals.ref1 r
  have vw : s.heap.IsItemsView p a := (show ObjOk X.prog X.w H s.heap p (itemsO p a) from I.hok p _ txP).1
  obtain ⟨szT, dtD, vs, kv, o, es, ep, obO, atI0, hdat, hKo, hPs, hn⟩ := (show ObjOk X.prog X.w H s.heap a (.dK (ks.map entS)) from I.hok a _ atA)
  have ents := ent_at hPs kv
  have l0 : es.size = ks.length := by rw [← Array.length_toList]; exact paired_len ents
  have noH : X.A.handled = none := I.ok.hd clC
  refine DT.sortedI (es := es) (ep := ep) noH vw ⟨o, obO, atI0, hdat⟩ (by rw [sizeLine_eq]; omega) fun h' tkn adrs kpT ltN lnT mdG => ?_
  have lenA : adrs.length = ks.length := by omega
  have nodupA : adrs.Nodup := List.Pairwise.imp (fun h => Nat.ne_of_lt h) mdG.rise
  have prs : ∀ (j : Nat) (b : Addr), adrs[j]? = some b → ∃ (e : Str × Str) (t u : Tok), ks[j]? = some e ∧ h'.get? b = some { cls := .type "tuple", data := .seq #[Value.str e.1 t, Value.str e.2 u] } := by
    intro j b atJ
    obtain ⟨en', hEn, gW⟩ := mdG.pairs j b atJ
    rw [← Array.getElem?_toList] at hEn
    obtain ⟨e, q1, ⟨t, q2⟩, ⟨u, q3⟩⟩ := paired_at ents hEn
    exact ⟨e, t, u, q1, by rw [gW, q2, q3]⟩
  have atL : (h'.push { cls := .type "list", data := .seq (adrs.map Value.ref).toArray }).get? h'.objs.size = some (seqObj "list" (adrs.map Value.ref).toArray 0) := Heap.get?_push_size _ rfl
  have kpS : ∀ b o, s.heap.get? b = some o → (h'.push { cls := .type "list", data := .seq (adrs.map Value.ref).toArray }).get? b = some o := fun b o e => Heap.get?_push_of_some _ (kpT b o e)
  have neL : ∀ b o, h'.get? b = some o → b ≠ h'.objs.size := fun b o e => Nat.ne_of_lt (Heap.lt_size e)
  generalize hh2 : h'.push { cls := .type "list", data := .seq (adrs.map Value.ref).toArray } = h2 at atL kpS ⊢
  have kpM : ∀ b o, h'.get? b = some o → h2.get? b = some o := fun b o e => by rw [← hh2]; exact Heap.get?_push_of_some _ e
  have pin : ∀ (j : Nat) (b : Addr) (e : Str × Str), adrs[j]? = some b → ks[j]? = some e → SrtT.IsTx h2 (.ref b) e.1 e.2 := by
    intro j b e atJ hEn
    obtain ⟨e', t, u, he', gW⟩ := prs j b atJ
    cases he'.symm.trans hEn
    exact ⟨b, _, t, u, 0, rfl, kpM _ _ gW, rfl, rfl⟩
  have allTx : ∀ v ∈ adrs.map Value.ref, SrtT.IsTx h2 v (SrtT.txOf h2 v).1 (SrtT.txOf h2 v).2 := by
    intro v hv'
    obtain ⟨b, hb, rfl⟩ := List.mem_map.mp hv'
    obtain ⟨j, atJ⟩ := List.mem_iff_getElem?.mp hb
    obtain ⟨e, t, u, hEn, _⟩ := prs j b atJ
    have := pin j b e atJ hEn
    rw [this.tx]
    exact this
  have mapTx : (adrs.map Value.ref).map (SrtT.txOf h2) = ks := by
    refine List.ext_getElem? fun j => ?_
    rw [List.getElem?_map, List.getElem?_map]
    cases atJ : adrs[j]? with
    | none =>
      have := List.getElem?_eq_none_iff.mp atJ
      rw [List.getElem?_eq_none (by omega)]
      rfl
    | some b =>
      obtain ⟨e, t, u, hEn, _⟩ := prs j b atJ
      rw [hEn]
      show some (SrtT.txOf h2 (.ref b)) = some e
      rw [(pin j b e atJ hEn).tx]
  refine wpAny_call_entry PyProof.Rows.slot_list_sort ⟨_, atL, rfl⟩ PyProof.Rows.entry_list_sort
    (SrtO.list_sort_ord (s := { s with heap := h2, toks := tkn }) (SrtT.swoT (SrtT.txOf h2)) atL (by rw [List.length_map, sizeLine_eq]; omega) (fun h2' => SrtT.tx_sortable (by omega) allTx fun o e => ?_) fun out o1 o2 => ⟨.none, rfl, ?_⟩) (PyProof.Rows.args_list_sort _)
  · have e : h2.get? h'.objs.size = some o := e
    rw [atL] at e
    cases e
    intro c
    exact absurd (Value.type.inj c) (by decide)
  · show EP X pn σ Q (.ref h'.objs.size) { s with heap := sortedHeap h2 h'.objs.size (adrs.map Value.ref) out.toArray, toks := tkn }
    have hrf : ∀ v ∈ out, v = .ref (adr v) := fun v inV => by
      obtain ⟨b, _, rfl⟩ := List.mem_map.mp (o2.perm.mem_iff.mp inV)
      rfl
    have kpF : ∀ b o, b ≠ h'.objs.size → h2.get? b = some o → (sortedHeap h2 h'.objs.size (adrs.map Value.ref) out.toArray).get? b = some o := fun b o hb e => (PyProof.Rows.sortedHeap_old hb (Heap.lt_size e)).trans e
    have kpAll : ∀ b o, s.heap.get? b = some o → (sortedHeap h2 h'.objs.size (adrs.map Value.ref) out.toArray).get? b = some o := fun b o e => kpF b o (neL _ _ (kpT b o e)) (kpS b o e)
    obtain ⟨sdF, atF⟩ := PyProof.Rows.sortedHeap_at (vs := adrs.map Value.ref) (out := out.toArray) atL
    have I1 : Inv X pn σ H { s with heap := sortedHeap h2 h'.objs.size (adrs.map Value.ref) out.toArray, toks := tkn } := I.kept (t' := tkn) kpAll
    have noL : H h'.objs.size = none := I.hok.fresh (Nat.le_of_lt ltN)
    have prm : ((out.map fun v => (adr v, SrtT.txOf h2 v)).map (·.2)).Perm ks := by
      have e := o2.perm.map (SrtT.txOf h2)
      rw [mapTx] at e
      rw [List.map_map]
      exact e
    have srtd0 : ((out.map fun v => (adr v, SrtT.txOf h2 v)).map (·.2)).Pairwise (fun e f => SrtT.lexT f e = false) := by
      rw [List.map_map, List.pairwise_map]
      exact o1
    have len0 : ((out.map fun v => (adr v, SrtT.txOf h2 v)).map fun z => V.ref z.1).length ≤ sizeLine := by
      have e := prm.length_eq
      rw [List.length_map] at e
      rw [List.length_map, sizeLine_eq]
      omega
    have rel : ∀ l : List Value, (∀ v ∈ l, v = .ref (adr v)) → Vals ((l.map fun v => (adr v, SrtT.txOf h2 v)).map fun z => V.ref z.1) l := by
      intro l
      induction l with
      | nil => intro _; exact .nil
      | cons v l ih =>
        intro inV
        refine .cons ?_ (ih fun u getU => inV u (List.mem_cons_of_mem _ getU))
        have := inV v (List.mem_cons_self ..)
        exact this
    have I2 : Inv X pn σ (upd H h'.objs.size (.lst ((out.map fun v => (adr v, SrtT.txOf h2 v)).map fun z => V.ref z.1))) { s with heap := sortedHeap h2 h'.objs.size (adrs.map Value.ref) out.toArray, toks := tkn } :=
      I1.take (h' := sortedHeap h2 h'.objs.size (adrs.map Value.ref) out.toArray) (t' := tkn) (fun b ob _ e => e) (I.fpOk (Nat.le_of_lt ltN) noL) ⟨len0, out, sdF, rel out hrf, atF⟩
    obtain ⟨H2, I3, g, tps⟩ := takeT (P := fun b vs => ∃ (j : Nat) (e : Str × Str), adrs[j]? = some b ∧ ks[j]? = some e ∧ vs = [.str e.1, .str e.2]) I adrs _ I2 nodupA fun b hb => by
      obtain ⟨j, atJ⟩ := List.mem_iff_getElem?.mp hb
      obtain ⟨e, t, u, hEn, gW⟩ := prs j b atJ
      have geB : s.heap.objs.size ≤ b := Nat.le_of_lt (mdG.above b hb)
      refine ⟨geB, ?_, [.str e.1, .str e.2], ⟨j, e, atJ, hEn, rfl⟩, fun H3 => ⟨(by rw [sizeLine_eq]; show 2 ≤ 16777216; omega), [Value.str e.1 t, Value.str e.2 u], .cons ⟨t, rfl⟩ (.cons ⟨u, rfl⟩ .nil), ⟨_, kpF _ _ (neL _ _ gW) (kpM _ _ gW), rfl, 0, rfl⟩⟩⟩
      rw [upd_ne (neL _ _ gW)]
      exact I.hok.fresh geB
    have grow : ∀ b o, H b = some o → H2 b = some o := fun b o e => g b o (by rw [upd_ne (ne_of_none e noL)]; exact e)
    refine ⟨.ref h'.objs.size, H2, I3, rfl, q H2 h'.objs.size _ grow prm srtd0 noL (g _ _ upd_same) fun z' hz' => ?_⟩
    obtain ⟨v, inV, rfl⟩ := List.mem_map.mp hz'
    obtain ⟨b, hb, e⟩ := List.mem_map.mp (o2.perm.mem_iff.mp inV)
    subst e
    obtain ⟨vs', ⟨j, e, j1, j2, ev⟩, hH⟩ := tps b hb
    show H2 b = some (.tup [.str (SrtT.txOf h2 (.ref b)).1, .str (SrtT.txOf h2 (.ref b)).2])
    rw [(pin j b e j1 j2).tx, hH, ev]
end
end Say
namespace Say
open PySem PySem.Spec PyProof.Rows L2
/-! ### the exceptions of a dict -/
def ent (e : Exc) : Key × V := (Sum.inr (T e.1), V.str (T e.2))
def putE (es : List Exc) (wd so : List Nat) : List Exc := if (es.any fun e => decide (e.1 = wd)) = true then es.map (fun e => if e.1 = wd then (e.1, so) else e) else es ++ [(wd, so)]
theorem key_eq {a b : List Nat} : ((Sum.inr (T a) : Key) = Sum.inr (T b)) ↔ a = b := ⟨fun h => T_inj (Sum.inr.inj h), fun h => by rw [h]⟩
theorem any_ent (wd : List Nat) : ∀ es : List Exc, ((es.map ent).any fun kv => decide (kv.1 = (Sum.inr (T wd) : Key))) = es.any fun e => decide (e.1 = wd)
  | [] => rfl
  | e :: r => by
    rw [List.map_cons, List.any_cons, List.any_cons, any_ent wd r]
    congr 1
    exact decide_eq_decide.mpr key_eq
theorem put_ent (es : List Exc) (wd so : List Nat) : putK (es.map ent) (Sum.inr (T wd) : Key) (V.str (T so)) = (putE es wd so).map ent := by
  unfold putK putE
  rw [any_ent]
  by_cases c : (es.any fun e => decide (e.1 = wd)) = true
  · rw [if_pos c, if_pos c, List.map_map, List.map_map]
    refine List.map_congr_left fun e _ => ?_
    show (if (ent e).1 = (Sum.inr (T wd) : Key) then ((ent e).1, V.str (T so)) else ent e) = ent (if e.1 = wd then (e.1, so) else e)
    by_cases h : e.1 = wd
    · rw [if_pos h, if_pos (show (ent e).1 = (Sum.inr (T wd) : Key) from key_eq.mpr h)]
      rfl
    · rw [if_neg h, if_neg (show ¬ (ent e).1 = (Sum.inr (T wd) : Key) from fun z => h (key_eq.mp z))]
  · rw [if_neg c, if_neg c, List.map_append]
    rfl
theorem putE_len (es : List Exc) (wd so : List Nat) : (putE es wd so).length ≤ es.length + 1 := by
  unfold putE
  split
  · rw [List.length_map]; omega
  · rw [List.length_append]; exact Nat.le_refl _
theorem putE_ok {L : List Nat} {es : List Exc} {wd so : List Nat} (h : ∀ e ∈ es, ExcOk L e) (h1 : ExcOk L (wd, so)) : ∀ e ∈ putE es wd so, ExcOk L e := by
  intro e he
  unfold putE at he
  split at he
  · obtain ⟨e', he', rfl⟩ := List.mem_map.mp he
    by_cases c : e'.1 = wd
    · rw [if_pos c, c]
      exact h1
    · rw [if_neg c]
      exact h e' he'
  · rcases List.mem_append.mp he with he | he
    · exact h e he
    · rw [List.mem_singleton.mp he]
      exact h1
theorem putE_nd {es : List Exc} {wd so : List Nat} (h : (es.map (·.1)).Nodup) : ((putE es wd so).map (·.1)).Nodup := by
  unfold putE
  split
  · rename_i c
    rw [List.map_map]
    have : es.map ((·.1) ∘ fun e : Exc => if e.1 = wd then (e.1, so) else e) = es.map (·.1) := List.map_congr_left fun e _ => by
      show (if e.1 = wd then (e.1, so) else e).1 = e.1
      split <;> rfl
    rw [this]
    exact h
  · rename_i c
    rw [List.map_append]
    refine List.nodup_append.mpr ⟨h, by simp, fun a ha b hb => ?_⟩
    intro z
    refine c (List.any_eq_true.mpr ?_)
    obtain ⟨e, he, rfl⟩ := List.mem_map.mp ha
    have hb : b = wd := by simpa using hb
    exact ⟨e, he, decide_eq_true (by rw [← hb]; exact z)⟩
/-- by its word there is one exception at most -/
theorem one_of {es : List Exc} (h : (es.map (·.1)).Nodup) {e f : Exc} (he : e ∈ es) (hf : f ∈ es) (hw : e.1 = f.1) : e = f := by
  obtain ⟨i, hi⟩ := List.mem_iff_getElem?.mp he
  obtain ⟨j, hj⟩ := List.mem_iff_getElem?.mp hf
  have e1 : (es.map (·.1))[i]? = some e.1 := by rw [List.getElem?_map, hi]; rfl
  have e2 : (es.map (·.1))[j]? = some e.1 := by rw [List.getElem?_map, hj, hw]; rfl
  have := nd_ix h e1 e2
  subst this
  exact Option.some.inj (hi.symm.trans hj)
theorem valV_ent {es : List Exc} (h : (es.map (·.1)).Nodup) {e : Exc} (he : e ∈ es) : valV (es.map ent) (Sum.inr (T e.1) : Key) = some (V.str (T e.2)) := by
  unfold valV
  cases hf : (es.map ent).find? fun kv => decide (kv.1 = (Sum.inr (T e.1) : Key)) with
  | none =>
    have := List.find?_eq_none.mp hf (ent e) (List.mem_map.mpr ⟨e, he, rfl⟩)
    exact absurd (decide_eq_true rfl) this
  | some kv =>
    have h1 := List.find?_some hf
    obtain ⟨f, hfm, rfl⟩ := List.mem_map.mp (List.mem_of_find?_eq_some hf)
    have h2 : f.1 = e.1 := key_eq.mp (of_decide_eq_true h1)
    rw [one_of h hfm he h2]
    rfl
theorem find_ent {es : List Exc} (h : (es.map (·.1)).Nodup) {e : Exc} (he : e ∈ es) : es.find? (fun f => decide (f.1 = e.1)) = some e := by
  cases hf : es.find? fun f => decide (f.1 = e.1) with
  | none => exact absurd (decide_eq_true rfl) (List.find?_eq_none.mp hf e he)
  | some f => rw [one_of h (List.mem_of_find?_eq_some hf) he (of_decide_eq_true (List.find?_some (p := fun f : Exc => decide (f.1 = e.1)) hf))]
/-! ### sorted -/
theorem uniq_sorted {α : Type} {r : α → α → Prop} (as : ∀ a b, r a b → ¬ r b a) : ∀ {l m : List α}, l.Perm m → l.Pairwise r → m.Pairwise r → l = m
  | [], m, p, _, _ => (List.Perm.eq_nil p.symm).symm
  | a :: l, [], p, _, _ => absurd p.length_eq (by simp)
  | a :: l, b :: m, p, h1, h2 => by
    have ha := p.mem_iff.mp (List.mem_cons_self (a := a) (l := l))
    have hb := p.mem_iff.mpr (List.mem_cons_self (a := b) (l := m))
    have e : a = b := by
      rcases List.mem_cons.mp ha with e | ha
      · exact e
      · rcases List.mem_cons.mp hb with e | hb
        · exact e.symm
        · exact absurd ((List.pairwise_cons.mp h1).1 b hb) (as _ _ ((List.pairwise_cons.mp h2).1 a ha))
    subst e
    rw [uniq_sorted as p.cons_inv (List.pairwise_cons.mp h1).2 (List.pairwise_cons.mp h2).2]
theorem lt_asym (a b : List Nat) (h : a < b) : ¬ b < a := List.lt_asymm h
theorem le_of_ltCps {a b : List Nat} (h : ltCps b a = false) : a ≤ b := by
  rw [ltCps_eq] at h
  exact List.not_lt.mp (of_decide_eq_false h)
theorem rising_pw : ∀ (l : List Str) (p : Str), risingS p l = true → (p :: l).Pairwise fun a b => a.cps.toList ≤ b.cps.toList
  | [], p, _ => List.pairwise_singleton _ _
  | x :: r, p, h => by
    have h : (!ltCps x.cps.toList p.cps.toList && risingS x r) = true := h
    rw [Bool.and_eq_true] at h
    have ih := rising_pw r x h.2
    have px : p.cps.toList ≤ x.cps.toList := le_of_ltCps (by simpa using h.1)
    refine List.pairwise_cons.mpr ⟨fun y hy => ?_, ih⟩
    rcases List.mem_cons.mp hy with rfl | hy
    · exact px
    · exact List.le_trans px ((List.pairwise_cons.mp ih).1 y hy)
theorem sortedS_pw : ∀ {l : List Str}, sortedS l = true → l.Pairwise fun a b => a.cps.toList ≤ b.cps.toList
  | [], _ => .nil
  | x :: r, h => rising_pw r x h
def wordsS (es : List Exc) : List Str := es.map fun e => T e.1
theorem strict_words {es : List Exc} (up : es.Pairwise fun e f => e.1 < f.1) : (wordsS es).Pairwise fun a b => a.cps.toList < b.cps.toList := by
  unfold wordsS
  rw [List.pairwise_map]
  exact up
theorem strict_of {l : List Str} (h : l.Pairwise fun a b => a.cps.toList ≤ b.cps.toList) (nd : l.Nodup) : l.Pairwise fun a b => a.cps.toList < b.cps.toList := by
  refine List.Pairwise.imp_of_mem (fun {a b} _ _ h => ?_) (List.Pairwise.and h nd)
  obtain ⟨h1, h2⟩ := h
  refine Decidable.byContradiction fun n => h2 (TL.ext_tl (List.le_antisymm h1 (List.not_lt.mp n)))
theorem nd_strict {l : List Str} (h : l.Pairwise fun a b => a.cps.toList < b.cps.toList) : l.Nodup := by
  refine List.Pairwise.imp (fun {a b} h => ?_) h
  intro z
  rw [z] at h
  exact List.lt_irrefl _ h
theorem sorted_keys {es es' : List Exc} {ys : List Str} (hp : es'.Perm es) (up : es'.Pairwise fun e f => e.1 < f.1) (hy : ys.Perm (wordsS es)) (hs : sortedS ys = true) : ys = wordsS es' := by
  have s' := strict_words up
  have p2 : ys.Perm (wordsS es') := hy.trans (hp.symm.map fun e : Exc => T e.1)
  exact uniq_sorted (r := fun a b : Str => a.cps.toList < b.cps.toList) (fun a b h => lt_asym _ _ h) p2 (strict_of (sortedS_pw hs) (p2.nodup_iff.mpr (nd_strict s'))) s'
def tt (e : Exc) : Str × Str := (T e.1, T e.2)
def bk (z : Str × Str) : Exc := (z.1.cps.toList, z.2.cps.toList)
theorem tt_bk (z : Str × Str) : tt (bk z) = z := by
  show (T z.1.cps.toList, T z.2.cps.toList) = z
  rw [T_list, T_list]
theorem bk_tt (e : Exc) : bk (tt e) = e := rfl
theorem sort_exc {es : List Exc} (nd : (es.map (·.1)).Nodup) {qs : List (Str × Str)} (hp : qs.Perm (es.map tt)) (hs : qs.Pairwise fun e f => SrtT.lexT f e = false) :
    qs = (qs.map bk).map tt ∧ (qs.map bk).Perm es ∧ (qs.map bk).Pairwise fun e f => e.1 < f.1 := by
  have e1 : qs = (qs.map bk).map tt := by
    rw [List.map_map]
    conv => lhs; rw [← List.map_id qs]
    exact List.map_congr_left fun z _ => (tt_bk z).symm
  have e2 : (qs.map bk).Perm es := by
    have := hp.map bk
    rw [List.map_map] at this
    have e3 : es.map (bk ∘ tt) = es := by
      conv => rhs; rw [← List.map_id es]
      exact List.map_congr_left fun e _ => rfl
    rwa [e3] at this
  refine ⟨e1, e2, ?_⟩
  have nd2 : ((qs.map bk).map (·.1)).Nodup := (e2.map (·.1)).nodup_iff.mpr nd
  rw [List.pairwise_map]
  have nd3 : qs.Pairwise fun a b => ¬ (bk a).1 = (bk b).1 := by
    have : ((qs.map bk).map (·.1)).Pairwise (· ≠ ·) := nd2
    rw [List.pairwise_map, List.pairwise_map] at this
    exact this
  refine List.Pairwise.imp_of_mem (fun {a b} _ _ h => ?_) (List.Pairwise.and hs nd3)
  obtain ⟨h1, h2⟩ := h
  rcases SrtT.lexT_no.mp h1 with q | ⟨q, _⟩
  · exact q
  · exact absurd (congrArg (fun z : Str => z.cps.toList) q.symm) h2
end Say
namespace Say
open PySem PySem.Spec PyProof.Rows L2
theorem paired_map {α β γ : Type} {F : α → β → Prop} {f : γ → α} {g : γ → β} : ∀ {l : List γ}, (∀ z ∈ l, F (f z) (g z)) → Paired F (l.map f) (l.map g)
  | [], _ => .nil
  | z :: l, h => .cons (h z (List.mem_cons_self ..)) (paired_map fun y hy => h y (List.mem_cons_of_mem _ hy))
theorem strOk_T {l : List Nat} (h : ∀ c ∈ l, c < 1114112) : PyData.strOk (T l) = true := by
  show l.toArray.all (· < 0x110000) = true
  rw [List.all_toArray, List.all_eq_true]
  intro c hc
  exact decide_eq_true (h c hc)
theorem shaped_two {x y : PyData} (hx : x.canLay0 = true) (hy : y.canLay0 = true) (dx : x.depth = 0) (dy : y.depth = 0) : SeqAt.shaped (.tuple [x, y]) = true := by
  unfold SeqAt.shaped
  rw [Bool.and_eq_true]
  refine ⟨?_, ?_⟩
  · show PyData.canLayAll0 [x, y] = true
    simp [PyData.canLayAll0, hx, hy]
  · refine decide_eq_true ?_
    show PyData.depthAll [x, y] + 1 ≤ 64
    simp [PyData.depthAll, dx, dy]
/-- the row stays where all but a dict does -/
theorem RowAt.stpD {K : PySem.W.Frag} {H H' : Hp} {r a F : Addr} {ns : List Int} {kvs : List (Key × V)} (R : RowAt K H r a ns) (hF : H F = some (.dK kvs)) (e : Stp F H H') : RowAt K H' r a ns := by
  obtain ⟨⟨i', c', m', q', b'⟩, sc, le⟩ := R
  refine ⟨⟨i', c', m', e _ _ q' (ne_of q' hF (by intro z; cases z)), b'⟩, ?_, le⟩
  rcases sc with (sc | ⟨o, sc⟩) | sc
  · exact .inl (.inl (e _ _ sc (ne_of sc hF (by intro z; cases z))))
  · exact .inl (.inr ⟨o, e _ _ sc (ne_of sc hF (by intro z; cases z))⟩)
  · exact .inr sc
end Say
namespace Say
open PySem PySem.Spec PyProof.Rows L2
/-! ### lists of texts as data -/
theorem dp_texts {K : PySem.W.Frag} {H : Hp} : ∀ ws : List (List Nat), DpAll K H (strV ws) (ws.map fun w => .str (T w))
  | [] => .nil
  | w :: r => .cons (.str _) (dp_texts r)
theorem lay_texts : ∀ {ws : List (List Nat)}, (∀ w ∈ ws, ∀ c ∈ w, c < 1114112) → PyData.canLayAll0 (ws.map fun w => PyData.str (T w)) = true ∧ PyData.depthAll (ws.map fun w => PyData.str (T w)) = 0
  | [], _ => ⟨rfl, rfl⟩
  | w :: r, h => by
    obtain ⟨h1, h2⟩ := lay_texts (ws := r) fun x hx => h x (List.mem_cons_of_mem _ hx)
    constructor
    · show (PyData.strOk (T w) && PyData.canLayAll0 (r.map fun w => PyData.str (T w))) = true
      rw [h1, strOk_T (h w (List.mem_cons_self ..))]
      rfl
    · show max 0 (PyData.depthAll (r.map fun w => PyData.str (T w))) = 0
      rw [h2]
      rfl
theorem shaped_texts {ws : List (List Nat)} (h : ∀ w ∈ ws, ∀ c ∈ w, c < 1114112) : SeqAt.shaped (.list (ws.map fun w => PyData.str (T w))) = true := by
  obtain ⟨h1, h2⟩ := lay_texts h
  unfold SeqAt.shaped
  rw [Bool.and_eq_true]
  refine ⟨h1, decide_eq_true ?_⟩
  show PyData.depthAll (ws.map fun w => PyData.str (T w)) + 1 ≤ 64
  omega
theorem eqv_nilT (ws : List (List Nat)) : PyData.eqv (.list (ws.map fun w => PyData.str (T w))) (.list []) = decide (ws = []) := by
  cases ws with
  | nil => rfl
  | cons w r => rfl
end Say
namespace Say
open PySem PySem.Spec PyProof.Rows L2
section
variable {P : Program} {w : World} {K : PySem.W.Frag} {mg : Str → Option Value} {base : Heap}
abbrev sTaken : Stmt := topS 68
theorem scTaken : FnScope ["_law_row_here", "_law_many", "_law_found", "_law_cell"] ["_law_row_here", "_law_many"] (defScope sTaken) := ⟨rfl, rfl, rfl, by decide +kernel, rfl, by decide +kernel, by decide +kernel⟩
theorem fmod_in {x n : Int} (h : 0 < n) : 0 ≤ x.fmod n ∧ x.fmod n < n := ⟨Int.fmod_nonneg_of_pos _ h, Int.fmod_lt_of_pos _ h⟩
theorem ok_taken {f : Addr} {fd : FuncData} {k : Nat} (F : Fun K "_law_taken" "_law_taken" sTaken f fd) (ml : mg "len" = none) : FnOk P w K mg base CX0 (k + 1) f fd ["_law_row_here", "_law_many"] (spTaken K) := by
  refine F.ok scTaken (fun vs H Q E h => ?_) (fun cdv A outer s H vs Q E hr h => ?_)
  · obtain ⟨r, a, ns, n, rfl, _⟩ := h
    rfl
  · obtain ⟨r, a, ns, n, rfl, R, h0, h1, q⟩ := h
    obtain ⟨⟨i, c, m, hR, hi, hm0, hm1⟩, hS, hle⟩ := id R
    refine ⟨_, pss_cons (ps_if (pt_cmpR op_gt (pe_ix ix_list (pv 0) pe_int (fun _ _ => rfl)) pe_int (nomark _))
        (pss_cons (ps_set (i := 2) scTaken.nd rfl (.inl rfl) (pe_op op_modN (pe_ix ix_list (pv 0) pe_int (fun _ _ => rfl)) (pv 1)))
        (pss_cons (ps_asg (pe_op op_fdivN (pe_ix ix_list (pv 0) pe_int (fun _ _ => rfl)) (pv 1)) (pg_sub (pv 0) pe_int set_list))
        (pss_one (ps_ret (pv 2))))) pss_nil)
      (pss_cons (ps_if (pt_cmpR op_lt (pe_ix ix_list (pv 0) pe_int (fun _ _ => rfl)) (pe_callB call_len_seq (by rfl) ml PySem.boot_len (pa_cons (pe_ix ix_list (pv 0) pe_int (fun _ _ => rfl)) pa_nil)) (nomark _))
        (pss_cons (ps_set (i := 3) scTaken.nd rfl (.inl rfl) (pe_ix ix_list (pe_ix ix_list (pv 0) pe_int (fun _ _ => rfl)) (pe_ix ix_list (pv 0) pe_int (fun _ _ => rfl)) (fun _ _ => rfl)))
        (pss_cons (ps_asg (pe_op op_add (pe_ix ix_list (pv 0) pe_int (fun _ _ => rfl)) pe_int) (pg_sub (pv 0) pe_int set_list))
        (pss_cons (ps_if (pt_cmpR op_ge (pv 3) (pe_op op_pow pe_int pe_int) (nomark _))
          (pss_one (ps_asg (pe_op op_fdivN (pv 3) (pv 1)) (pg_sub (pv 0) pe_int set_list))) pss_nil)
        (pss_one (ps_ret (pe_op op_modN (pv 3) (pv 1))))))) pss_nil)
      (pss_cons (ps_asg (pe_op op_modN (pe_op op_add (pe_op op_mul (pe_ix ix_list (pv 0) pe_int (fun _ _ => rfl)) pe_int) pe_int) pe_int) (pg_sub (pv 0) pe_int set_list))
      (pss_one (ps_ret (pe_op op_modN (pe_op op_fdivN (pe_ix ix_list (pv 0) pe_int (fun _ _ => rfl)) pe_int) (pv 1)))))), ?_⟩
    have hL : SqL K H r [.ref a, .int i, .int c, .int m] := .inl (.inl hR)
    have gn : n ≠ 0 ∧ n.natAbs < 1073741824 := ⟨by omega, by omega⟩
    -- row[2] > 0
    refine ⟨_, rfl, r, _, 2, .int c, rfl, rfl, hL, atI_nat (j := 2) rfl, _, _, rfl, rfl, _, rfl, ite2 (fun e => ?_) (fun e => ?_)⟩
    · refine ⟨_, rfl, r, _, 2, .int c, rfl, rfl, hL, atI_nat (j := 2) rfl, _, rfl, _, _, rfl, rfl, gn.1, ?_⟩
      refine ⟨_, rfl, r, _, 2, .int c, rfl, rfl, hL, atI_nat (j := 2) rfl, _, rfl, _, _, rfl, rfl, gn, ?_⟩
      refine ⟨_, rfl, r, _, 2, 2, rfl, rfl, hR, rfl, ?_⟩
      refine ⟨_, rfl, ?_⟩
      exact q _ _ (fmod_in h0).1 (fmod_in h0).2 (stp_at _) (R.put hi hm0 hm1)
    -- row[1] < len(row[0])
    refine ⟨_, rfl, r, _, 1, .int i, rfl, rfl, hL, atI_nat (j := 1) rfl, _, rfl, r, _, 0, .ref a, rfl, rfl, hL, atI_nat (j := 0) rfl, a, _, rfl, .inl hS, _, _, rfl, rfl, _, rfl, ite2 (fun e1 => ?_) (fun e1 => ?_)⟩
    · have e2 : i < ((ns.map V.int).length : Int) := of_decide_eq_true e1
      rw [List.length_map] at e2
      have hj : i.toNat < ns.length := by omega
      have gx : (ns.map V.int)[i.toNat]? = some (.int ns[i.toNat]) := by
        rw [List.getElem?_map, List.getElem?_eq_getElem hj]
        rfl
      refine ⟨_, rfl, r, _, 0, .ref a, rfl, rfl, hL, atI_nat (j := 0) rfl, _, rfl, r, _, 1, .int i, rfl, rfl, hL, atI_nat (j := 1) rfl, a, _, i, .int ns[i.toNat], rfl, rfl, hS, at_of (j := i.toNat) (by omega) gx, ?_⟩
      refine ⟨_, rfl, r, _, 1, .int i, rfl, rfl, hL, atI_nat (j := 1) rfl, _, _, rfl, rfl, ?_⟩
      refine ⟨_, rfl, r, _, 1, 1, rfl, rfl, hR, rfl, ?_⟩
      have R1 : RowAt K (upd H r (.lst [.ref a, .int (i + 1), .int c, .int m])) r a ns := R.put (by omega) hm0 hm1
      refine ⟨_, rfl, _, _, rfl, rfl, ⟨by decide, by decide, by decide⟩, _, _, rfl, rfl, _, rfl, ite2 (fun e3 => ?_) (fun e3 => ?_)⟩
      · refine ⟨_, rfl, _, rfl, _, _, rfl, rfl, gn, ?_⟩
        refine ⟨_, rfl, r, _, 2, 2, rfl, rfl, upd_same, rfl, ?_⟩
        refine ⟨_, rfl, _, rfl, _, _, rfl, rfl, gn.1, ?_⟩
        exact q _ _ (fmod_in h0).1 (fmod_in h0).2 ((stp_at _).trans (stp_at _)) (R1.put (by omega) hm0 hm1)
      · refine ⟨_, rfl, _, rfl, _, _, rfl, rfl, gn.1, ?_⟩
        exact q _ _ (fmod_in h0).1 (fmod_in h0).2 (stp_at _) R1
    · refine ⟨_, rfl, r, _, 3, .int m, rfl, rfl, hL, atI_nat (j := 3) rfl, _, _, rfl, rfl, .inl ⟨by omega, by omega⟩, _, _, rfl, rfl, _, _, rfl, rfl, (by show (2147483647 : Int) ≠ 0; decide), ?_⟩
      refine ⟨_, rfl, r, _, 3, 3, rfl, rfl, hR, rfl, ?_⟩
      have b := fmod_in (x := m * 48271 + 12345) (n := 2147483647) (by decide)
      have R1 : RowAt K (upd H r (.lst [.ref a, .int i, .int c, .int ((m * 48271 + 12345).fmod 2147483647)])) r a ns := R.put hi b.1 b.2
      refine ⟨_, rfl, r, _, 3, .int ((m * 48271 + 12345).fmod 2147483647), rfl, rfl, .inl (.inl upd_same), atI_nat (j := 3) rfl, _, _, rfl, rfl, ⟨by decide, by decide⟩, _, rfl, _, _, rfl, rfl, gn.1, ?_⟩
      exact q _ _ (fmod_in h0).1 (fmod_in h0).2 (stp_at _) R1
end
end Say
namespace Say
open PySem PySem.Spec PyProof.Rows L2
def lets : List (List Nat) := [[97, 98], [97, 98, 99], [97, 99], [97, 98, 99, 100]]
section
variable {P : Program} {w : World} {K : PySem.W.Frag} {mg : Str → Option Value} {base : Heap}
abbrev sSide : Stmt := topS 70
theorem scSide : FnScope ["_law_row_here", "_law_letters_here", "_law_sign"] ["_law_row_here", "_law_letters_here"] (defScope sSide) := ⟨rfl, rfl, rfl, by decide +kernel, rfl, by decide +kernel, by decide +kernel⟩
def spSide (K : PySem.W.Frag) : Sp := fun vs H Q _ => ∃ (r a : Addr) (ns : List Int) (L : List Nat), vs = [.ref r, .str (T L)] ∧ RowAt K H r a ns ∧ L.length ≤ 4 ∧
  ∀ (z : List Nat) (H' : Hp), z.Sublist (35 :: L) → Stp r H H' → RowAt K H' r a ns → Q (.str (T z)) H'
theorem ok_side {f : Addr} {fd : FuncData} (F : Fun K "_law_side" "_law_side" sSide f fd) (DT : Df P w K mg base "_law_taken" ["_law_row_here", "_law_many"] 1 (spTaken K)) :
    FnOk P w K mg base CX0 2 f fd ["_law_row_here", "_law_letters_here"] (spSide K) := by
  obtain ⟨fT, fdT, GT, kT, bT, mT⟩ := DT
  refine F.ok scSide (fun vs H Q E h => ?_) (fun cdv A outer s H vs Q E hr h => ?_)
  · obtain ⟨r, a, ns, L, rfl, _⟩ := h
    rfl
  · obtain ⟨r, a, ns, L, rfl, R, hl, q⟩ := h
    refine ⟨_, pss_cons (ps_if (pt_cmpR op_eq (pe_call GT hr (by rfl) mT kT bT .nil pass0 (pa_cons (pv 0) (pa_cons pe_int pa_nil))) pe_int (nomark _)) (pss_one (ps_ret pe_str)) pss_nil)
      (pss_one (ps_ret (pe_join pe_str (pe_lc (own := [("_law_sign", 2)]) (g := gName 2) rfl scSide.nd (pi_str (pe_op op_add_str pe_str (pv 1)))
        (blkOk_by (N := ["_law_row_here", "_law_letters_here", "_law_sign"]) (sc := defScope sSide) (by decide +kernel)) (fun _ _ _ _ _ => pg_name (i := 2) scSide.nd rfl (.inl rfl))
        (fun _ _ _ _ _ => pts_one (pt_cmpR op_eq (pe_call GT hr (by rfl) mT kT bT .nil pass0 (pa_cons (pv 0) (pa_cons pe_int pa_nil))) pe_int (nomark _))) (fun _ _ _ _ _ => pv 2))))), ?_⟩
    refine ⟨_, rfl, r, a, ns, 2, rfl, R, by decide, by decide, fun k1 H1 h0 h1 s1 R1 => ?_⟩
    refine ⟨rfl, _, rfl, ite2 (fun _ => ?_) (fun _ => ?_)⟩
    · have e := q [] H1 (List.nil_sublist _) s1 R1
      exact e
    refine ⟨⟨_, rfl⟩, _, rfl, _, _, rfl, rfl, (by rw [len_hash, T_len]; exact small (by omega)), ?_⟩
    refine ⟨T (35 :: L), congrArg V.str (hash_app L), fun D hD => ?_⟩
    refine lc_it (walk_str) (fun i H2 => ∃ acc : List Nat, H2 D = some (.lst (sg acc)) ∧ acc.Sublist ((35 :: L).take i) ∧ Stp r H1 H2 ∧ RowIn H2 r a) ?_ (fun _ _ _ _ => trivial) ?_ ?_
    · exact ⟨[], upd_same, List.nil_sublist _, Stp.of (same_new hD _), R1.in.upd (R1.nw hD)⟩
    · rintro i x H2 H2' hi ⟨acc, e1, e2, e3, e4⟩ ⟨rfl, c, hc, rfl⟩
      have hc := T_at hc
      have tk := take_next hc
      refine ⟨rfl, _, rfl, r, a, ns, 2, rfl, R1.of e3 e4, by decide, by decide, fun k2 H3 h0 h1 s2 R2 => ?_⟩
      have e1' := s2.one e1 (R1.nw hD)
      refine ⟨rfl, _, rfl, ite2 (fun _ => ?_) (fun _ => ?_)⟩
      · refine ⟨_, rfl, _, e1', ?_, acc ++ [c], ?_, ?_, (e3.trans s2).put hD _, R2.in.upd (R1.nw hD)⟩
        · have := e2.length_le
          rw [sg_len]
          rw [List.length_take, List.length_cons] at this
          exact small1000 (by omega)
        · rw [upd_same]
          exact congrArg (fun l => some (HO.lst l)) (sg_app acc c)
        · rw [tk]
          exact e2.append (List.Sublist.refl [c])
      · refine ⟨acc, e1', ?_, e3.trans s2, R2.in⟩
        rw [tk]
        exact e2.trans (List.sublist_append_left _ _)
    · rintro H2 ⟨acc, e1, e2, e3, e4⟩
      rw [T_size, List.take_length] at e2
      refine ⟨Str.ofString "", D, (acc.map fun c => [c]).map T, rfl, rfl, .inl (.inl (.inl ?_)), ?_, ?_⟩
      · rw [e1, sg_map]
      · rw [sum_ones]
        have := e2.length_le
        rw [List.length_cons] at this
        show acc.length + _ * 0 ≤ _
        omega
      · rw [show Str.ofString "" = T [] from nil_eq, join_nil, map_single]
        exact q acc H2 e2 (s1.trans e3) (R1.of e3 e4)
end
end Say
namespace Say
open PySem PySem.Spec PyProof.Rows L2
section
variable {P : Program} {w : World} {K : PySem.W.Frag} {mg : Str → Option Value} {base : Heap}
abbrev sText : Stmt := topS 71
theorem scText : FnScope ["_law_row_here", "_law_signs", "_law_fewest", "_law_many", "_law_k"] ["_law_row_here", "_law_signs", "_law_fewest", "_law_many"] (defScope sText) := ⟨rfl, rfl, rfl, by decide +kernel, rfl, by decide +kernel, by decide +kernel⟩
def spText (K : PySem.W.Frag) : Sp := fun vs H Q _ => ∃ (r a : Addr) (ns : List Int) (S : List Nat) (lo hi : Nat), vs = [.ref r, .str (T S), .int lo, .int hi] ∧ RowAt K H r a ns ∧ 0 < S.length ∧ S.length ≤ 100 ∧ lo ≤ hi ∧ hi ≤ 100 ∧
  ∀ (z : List Nat) (H' : Hp), (∀ c ∈ z, c ∈ S) → lo ≤ z.length → z.length ≤ hi → Stp r H H' → RowAt K H' r a ns → Q (.str (T z)) H'
theorem ok_text {f : Addr} {fd : FuncData} (F : Fun K "_law_text" "_law_text" sText f fd) (DT : Df P w K mg base "_law_taken" ["_law_row_here", "_law_many"] 1 (spTaken K)) (ml : mg "len" = none) (mr : mg "range" = none) :
    FnOk P w K mg base CX0 2 f fd ["_law_row_here", "_law_signs", "_law_fewest", "_law_many"] (spText K) := by
  obtain ⟨fT, fdT, GT, kT, bT, mT⟩ := DT
  refine F.ok scText (fun vs H Q E h => ?_) (fun cdv A outer s H vs Q E hr h => ?_)
  · obtain ⟨r, a, ns, S, lo, hi, rfl, _⟩ := h
    rfl
  · obtain ⟨r, a, ns, S, lo, hi, rfl, R, hS0, hS1, hlh, hh, q⟩ := h
    refine ⟨_, pss_one (ps_ret (pe_join pe_str (pe_lc (own := [("_law_k", 4)]) (g := gName 4) rfl scText.nd
        (pi_range1 rfl mr (pa_cons (pe_op op_add (pv 2) (pe_call GT hr (by rfl) mT kT bT .nil pass0 (pa_cons (pv 0) (pa_cons (pe_op op_add (pe_op op_sub (pv 3) (pv 2)) pe_int) pa_nil)))) pa_nil))
        (blkOk_by (N := ["_law_row_here", "_law_signs", "_law_fewest", "_law_many", "_law_k"]) (sc := defScope sText) (by decide +kernel)) (fun _ _ _ _ _ => pg_name (i := 4) scText.nd rfl (.inl rfl))
        (fun _ _ _ _ _ => pts_nil) (fun _ _ _ _ _ => pe_ix ix_str (pv 1) (pe_call GT hr (by rfl) mT kT bT .nil pass0 (pa_cons (pv 0) (pa_cons (pe_callB call_len_str (by rfl) ml PySem.boot_len (pa_cons (pv 1) pa_nil)) pa_nil))) (fun _ _ => rfl))))), ?_⟩
    refine ⟨⟨_, rfl⟩, _, rfl, _, rfl, _, rfl, _, rfl, _, _, rfl, rfl, _, _, rfl, rfl, r, a, ns, _, rfl, R, by omega, by omega, fun k1 H1 h0 h1 s1 R1 => ?_⟩
    refine ⟨_, _, rfl, rfl, (lo : Int) + k1, rfl, by omega, by omega, fun D hD => ?_⟩
    refine lc_it (walk_range) (fun i H2 => ∃ acc : List Nat, H2 D = some (.lst (sg acc)) ∧ acc.length = i ∧ (∀ c ∈ acc, c ∈ S) ∧ Stp r H1 H2 ∧ RowIn H2 r a) ?_ (fun _ _ _ _ => trivial) ?_ ?_
    · exact ⟨[], upd_same, rfl, by simp, Stp.of (same_new hD _), R1.in.upd (R1.nw hD)⟩
    · rintro i x H2 H2' hi' ⟨acc, e1, e2, e3, e4, e5⟩ ⟨rfl, rfl⟩
      refine ⟨rfl, ?_⟩
      refine ⟨_, rfl, _, rfl, _, rfl, _, rfl, (by rw [T_len]; exact small (by omega)), r, a, ns, _, rfl, R1.of e4 e5, (by rw [T_len]; omega), (by rw [T_len]; omega), fun k2 H3 h2 h3 s2 R2 => ?_⟩
      have e1' := s2.one e1 (R1.nw hD)
      rw [T_len] at h3
      have hj : k2.toNat < S.length := by omega
      refine ⟨T S, k2, S[k2.toNat], rfl, rfl, (by rw [T_len]; exact small (by omega)), at_list hj (by omega), ?_⟩
      refine ⟨_, e1', ?_, acc ++ [S[k2.toNat]], ?_, by simp [e2], ?_, (e4.trans s2).put hD _, R2.in.upd (R1.nw hD)⟩
      · rw [sg_len]
        exact small1000 (by omega)
      · rw [upd_same]
        exact congrArg (fun l => some (HO.lst l)) (sg_app acc _)
      · intro c hc
        rcases List.mem_append.mp hc with h | h
        · exact e3 c h
        · rw [List.mem_singleton.mp h]
          exact List.getElem_mem hj
    · rintro H2 ⟨acc, e1, e2, e3, e4, e5⟩
      refine ⟨Str.ofString "", D, (acc.map fun c => [c]).map T, rfl, rfl, .inl (.inl (.inl ?_)), ?_, ?_⟩
      · rw [e1, sg_map]
      · rw [sum_ones]
        show acc.length + _ * 0 ≤ _
        omega
      · rw [show Str.ofString "" = T [] from nil_eq, join_nil, map_single]
        exact q acc H2 e3 (by omega) (by omega) (s1.trans e4) (R1.of e4 e5)
end
end Say
namespace Say
open PySem PySem.Spec PyProof.Rows L2
section
variable {P : Program} {w : World} {K : PySem.W.Frag} {mg : Str → Option Value} {base : Heap}
abbrev sRule : Stmt := topS 72
theorem scRule : FnScope ["_law_row_here", "_law_letters_here", "_law_ahead", "_law_own"] ["_law_row_here", "_law_letters_here"] (defScope sRule) := ⟨rfl, rfl, rfl, by decide +kernel, rfl, by decide +kernel, by decide +kernel⟩
def spRule (K : PySem.W.Frag) : Sp := fun vs H Q _ => ∃ (r a : Addr) (ns : List Int) (L : List Nat), vs = [.ref r, .str (T L)] ∧ RowAt K H r a ns ∧ 0 < L.length ∧ L.length ≤ 4 ∧
  ∀ (ρ : Rule) (t : Addr) (H' : Hp), RuleOk L ρ → H' t = some (.tup ρ.vs) → Stp r H H' → RowAt K H' r a ns → Q (.ref t) H'
theorem AB_eq : Str.ofString "AB" = T [65, 66] := by decide +kernel
theorem AB_ok {z : List Nat} (h : ∀ c ∈ z, c ∈ [65, 66]) : ∀ c ∈ z, 65 ≤ c ∧ c ≤ 90 := fun c hc => by
  have := h c hc
  simp at this
  omega
theorem ok_rule {f : Addr} {fd : FuncData} (F : Fun K "_law_rule" "_law_rule" sRule f fd) (DT : Df P w K mg base "_law_taken" ["_law_row_here", "_law_many"] 1 (spTaken K))
    (DS : Df P w K mg base "_law_side" ["_law_row_here", "_law_letters_here"] 2 (spSide K)) (DX : Df P w K mg base "_law_text" ["_law_row_here", "_law_signs", "_law_fewest", "_law_many"] 2 (spText K)) :
    FnOk P w K mg base CX0 3 f fd ["_law_row_here", "_law_letters_here"] (spRule K) := by
  obtain ⟨fT, fdT, GT, kT, bT, mT⟩ := DT
  obtain ⟨fS, fdS, GS, kS, bS, mS⟩ := DS
  obtain ⟨fX, fdX, GX, kX, bX, mX⟩ := DX
  refine F.ok scRule (fun vs H Q E h => ?_) (fun cdv A outer s H vs Q E hr h => ?_)
  · obtain ⟨r, a, ns, L, rfl, _⟩ := h
    rfl
  · obtain ⟨r, a, ns, L, rfl, R, hl0, hl, q⟩ := h
    have hr1 : Room 1 _ := hr.mono (by decide)
    refine ⟨_, pss_cons (ps_par (i := 2) (j := 3) (by rfl) scRule.nd rfl rfl (by decide) rfl rfl (pa_cons (pe_call GS hr (by rfl) mS kS bS .nil pass0 (pa_cons (pv 0) (pa_cons (pv 1) pa_nil)))
          (pa_cons (pe_call GX hr (by rfl) mX kX bX .nil pass0 (pa_cons (pv 0) (pa_cons (pv 1) (pa_cons pe_int (pa_cons pe_int pa_nil))))) pa_nil)) (by rfl))
      (pss_one (ps_ret (pe_tup (pa_cons (pv 2) (pa_cons (pv 3) (pa_cons (pe_call GS hr (by rfl) mS kS bS .nil pass0 (pa_cons (pv 0) (pa_cons (pv 1) pa_nil)))
        (pa_cons (pe_call GX hr (by rfl) mX kX bX .nil pass0 (pa_cons (pv 0) (pa_cons pe_str (pa_cons pe_int (pa_cons (pe_ix ix_list (pe_lst (pa_cons pe_int (pa_cons pe_int (pa_cons pe_int pa_nil)))) (pe_call GT hr1 (by rfl) mT kT bT .nil pass0 (pa_cons (pv 0) (pa_cons pe_int pa_nil))) (fun _ _ => rfl)) pa_nil))))) pa_nil))))))), ?_⟩
    refine ⟨_, rfl, _, rfl, r, a, ns, L, rfl, R, hl, fun ah H1 o1 s1 R1 => ?_⟩
    refine ⟨_, rfl, _, rfl, r, a, ns, L, 1, 2, rfl, R1, hl0, by omega, by decide, by decide, fun ow H2 o2 o3 o4 s2 R2 => ?_⟩
    refine ⟨_, _, rfl, ?_⟩
    refine ⟨_, rfl, _, rfl, _, rfl, _, rfl, r, a, ns, L, rfl, R2, hl, fun be H3 o5 s3 R3 => ?_⟩
    refine ⟨_, rfl, (by show 3 ≤ sizeLine; decide), fun p hp => ?_⟩
    have sm := same_new hp (.lst [V.int 1, .int 1, .int 3])
    refine ⟨_, rfl, r, a, ns, 3, rfl, R3.stp sm, by decide, by decide, fun k1 H4 h0 h1 s4 R4 => ?_⟩
    have hL : SqL K H4 p [V.int 1, .int 1, .int 3] := .inl (.inl (s4 _ _ upd_same (R3.nw hp).symm))
    have s34 := (Stp.of sm).trans s4
    have fin : ∀ m : Nat, m ≤ 3 → ∀ (so : List Nat) (H5 : Hp), (∀ c ∈ so, c ∈ [65, 66]) → 0 ≤ so.length → so.length ≤ m → Stp r H4 H5 → RowAt K H5 r a ns → 
        (4 ≤ sizeLine ∧ ∀ t, H5 t = none → Q (.ref t) (upd H5 t (.tup [.str (T ah), .str (T ow), .str (T be), .str (T so)]))) := fun m hm so H5 o6 _ o7 s5 R5 =>
      ⟨by decide, fun t ht => q ⟨ah, ow, be, so⟩ t _ ⟨o1, o2, o3, o4, o5, AB_ok o6, by show so.length ≤ 3; omega⟩ upd_same (s1.trans (s2.trans (s3.trans (s34.trans (s5.trans (Stp.of (same_new ht _))))))) (R5.stp (same_new ht _))⟩
    have hk : k1 = 0 ∨ k1 = 1 ∨ k1 = 2 := by omega
    rcases hk with e | e | e
    · exact ⟨p, _, k1, V.int 1, rfl, rfl, hL, at_of (j := 0) e rfl, r, a, ns, [65, 66], 0, 1, by rw [AB_eq]; rfl, R4, by decide, by decide, by decide, by decide, fin 1 (by decide)⟩
    · exact ⟨p, _, k1, V.int 1, rfl, rfl, hL, at_of (j := 1) e rfl, r, a, ns, [65, 66], 0, 1, by rw [AB_eq]; rfl, R4, by decide, by decide, by decide, by decide, fin 1 (by decide)⟩
    · exact ⟨p, _, k1, V.int 3, rfl, rfl, hL, at_of (j := 2) e rfl, r, a, ns, [65, 66], 0, 3, by rw [AB_eq]; rfl, R4, by decide, by decide, by decide, by decide, fin 3 (by decide)⟩
abbrev sRules : Stmt := topS 73
theorem scRules : FnScope ["_law_row_here", "_law_letters_here", "_law_most", "_law_found", "_law_letter", "_law_k"] ["_law_row_here", "_law_letters_here", "_law_most"] (defScope sRules) := ⟨rfl, rfl, rfl, by decide +kernel, rfl, by decide +kernel, by decide +kernel⟩
def spRules (K : PySem.W.Frag) : Sp := fun vs H Q _ => ∃ (r a : Addr) (ns : List Int) (L : List Nat) (n : Nat), vs = [.ref r, .str (T L), .int n] ∧ RowAt K H r a ns ∧ 0 < L.length ∧ L.length ≤ 4 ∧ n ≤ 20 ∧
  ∀ (rs : List Rule) (R : Addr) (H' : Hp), (∀ ρ ∈ rs, RuleOk L ρ) → rs.length ≤ n + L.length → RulesAt H' R rs → Stp r H H' → RowAt K H' r a ns → Q (.ref R) H'
theorem ok_rules {f : Addr} {fd : FuncData} (F : Fun K "_law_rules" "_law_rules" sRules f fd) (DT : Df P w K mg base "_law_taken" ["_law_row_here", "_law_many"] 1 (spTaken K))
    (DR : Df P w K mg base "_law_rule" ["_law_row_here", "_law_letters_here"] 3 (spRule K)) (mr : mg "range" = none) (mt : mg "tuple" = none) :
    FnOk P w K mg base CX0 4 f fd ["_law_row_here", "_law_letters_here", "_law_most"] (spRules K) := by
  obtain ⟨fT, fdT, GT, kT, bT, mT⟩ := DT
  obtain ⟨fR, fdR, GR, kR, bR, mR⟩ := DR
  refine F.ok scRules (fun vs H Q E h => ?_) (fun cdv A outer s H vs Q E hr h => ?_)
  · obtain ⟨r, a, ns, L, n, rfl, _⟩ := h
    rfl
  · obtain ⟨r, a, ns, L, n, rfl, R, hl0, hl, hn, q⟩ := h
    have hr1 : Room 1 _ := hr.mono (by decide)
    refine ⟨_, pss_cons (ps_setLc (i := 3) (own := [("_law_k", 5)]) (g := gName 5) rfl scRules.nd rfl rfl (sw_true rfl rfl rfl (by decide +kernel))
        (pi_range1 rfl mr (pa_cons (pe_call GT hr1 (by rfl) mT kT bT .nil pass0 (pa_cons (pv 0) (pa_cons (pe_op op_add (pv 2) pe_int) pa_nil))) pa_nil))
        (blkOk_by (N := ["_law_row_here", "_law_letters_here", "_law_most", "_law_found", "_law_letter", "_law_k"]) (sc := defScope sRules) (by decide +kernel)) (fun _ _ _ _ _ => pg_name (i := 5) scRules.nd rfl (.inl rfl))
        (fun _ _ _ _ _ => pts_nil) (fun _ _ _ _ _ => pe_call GR hr (by rfl) mR kR bR .nil pass0 (pa_cons (pv 0) (pa_cons (pv 1) pa_nil))))
      (pss_cons (ps_if (pt_cmpR op_gt (pe_call GT hr1 (by rfl) mT kT bT .nil pass0 (pa_cons (pv 0) (pa_cons pe_int pa_nil))) pe_int (nomark _))
        (pss_one (ps_for PassesOwn.never rfl (pi_str (pv 1)) (pg_name (i := 4) scRules.nd rfl (.inl rfl))
          (pss_one (ps_expr (pe_bm PySem.F.plainAttrs_list PySem.F.slot_list_append PySem.F.type_list_append mt_append (pv 3)
            (pa_cons (pe_tup (pa_cons pe_str (pa_cons (pv 4) (pa_cons pe_str (pa_cons (pe_ix ix_list (pe_lst (pa_cons pe_str (pa_cons pe_str (pa_cons pe_str (pa_cons pe_str pa_nil))))) (pe_call GT hr1 (by rfl) mT kT bT .nil pass0 (pa_cons (pv 0) (pa_cons pe_int pa_nil))) (fun _ _ => rfl)) pa_nil))))) pa_nil)))))) pss_nil)
      (pss_one (ps_ret (pe_callTy call_tuple_of (by rfl) mt (by decide +kernel) (pa_cons (pv 3) pa_nil))))), ?_⟩
    refine ⟨_, rfl, _, rfl, _, _, rfl, rfl, r, a, ns, _, rfl, R, by omega, by omega, fun k1 H1 h0 h1 s1 R1 => ?_⟩
    refine ⟨k1, rfl, by omega, by omega, fun D hD => ?_⟩
    have nD := R1.nw hD
    refine lc_it (walk_range) (fun i H2 => ∃ (ts : List Addr) (rs : List Rule), H2 D = some (.lst (ts.map V.ref)) ∧ Paired (fun t ρ => H2 t = some (.tup (Rule.vs ρ))) ts rs ∧ rs.length = i ∧ (∀ ρ ∈ rs, RuleOk L ρ) ∧ Stp r H1 H2 ∧ RowIn H2 r a) ?_ (fun _ _ _ _ => trivial) ?_ ?_
    · exact ⟨[], [], upd_same, .nil, rfl, by simp, Stp.of (same_new hD _), R1.in.upd nD⟩
    · rintro i x H2 H2' hi' ⟨ts, rs, e1, e2, e3, e4, e5, e6⟩ ⟨rfl, rfl⟩
      refine ⟨rfl, ?_⟩
      refine ⟨_, rfl, _, rfl, r, a, ns, L, rfl, R1.of e5 e6, hl0, hl, fun ρ t H3 o1 o2 s2 R2 => ?_⟩
      have e1' := s2.one e1 nD
      have kt := (s2.kt e6).trans (kt_upd e1' (o := .lst (ts.map V.ref ++ [.ref t])))
      refine ⟨_, e1', ?_, ts ++ [t], rs ++ [ρ], ?_, ?_, by simp [e3], ?_, (e5.trans s2).put hD _, R2.in.upd nD⟩
      · rw [List.length_map, paired_len e2]
        exact small1000 (by omega)
      · rw [upd_same, List.map_append]
        rfl
      · exact paired_app (paired_mono (fun t ρ h => kt.1 _ _ h) e2) (.cons ((kt_upd e1').1 _ _ o2) .nil)
      · intro c hc
        rcases List.mem_append.mp hc with h | h
        · exact e4 c h
        · rw [List.mem_singleton.mp h]
          exact o1
    · rintro H2 ⟨ts, rs, e1, e2, e3, e4, e5, e6⟩
      have e3' : rs.length ≤ n := by omega
      refine ⟨_, rfl, r, a, ns, 4, rfl, R1.of e5 e6, by decide, by decide, fun k2 H3 h2 h3 s2 R2 => ?_⟩
      have e1' := s2.one e1 nD
      have e2' := paired_mono (fun t ρ h => (s2.kt e6).1 _ _ h) e2
      have e5' := e5.trans s2
      -- the end: tuple(found)
      have fin : ∀ (H4 : Hp) (ts : List Addr) (rs : List Rule), H4 D = some (.lst (ts.map V.ref)) → Paired (fun t ρ => H4 t = some (.tup (Rule.vs ρ))) ts rs → rs.length ≤ n + L.length → (∀ ρ ∈ rs, RuleOk L ρ) → Stp r H1 H4 → RowIn H4 r a → ∀ t, H4 t = none → Q (.ref t) (upd H4 t (.tup (ts.map V.ref))) := fun H4 ts rs f1 f2 f3 f4 f5 f6 t ht =>
        q rs t _ f4 f3 ⟨ts, upd_same, paired_mono (fun t ρ h => (kt_new ht).1 _ _ h) f2⟩ (s1.trans (f5.trans (Stp.of (same_new ht _)))) ((R1.of f5 f6).stp (same_new ht _))
      refine ⟨_, _, rfl, rfl, _, rfl, ite2 (fun _ => ?_) (fun _ => ?_)⟩
      · refine ⟨_, rfl, T L, rfl, for_it (walk_str) (fun i σ H4 => ∃ (ts : List Addr) (rs : List Rule) (v : Option V), σ = [some (.ref r), some (.str (T L)), some (.int n), some (.ref D), v, none] ∧ H4 D = some (.lst (ts.map V.ref)) ∧ Paired (fun t ρ => H4 t = some (.tup (Rule.vs ρ))) ts rs ∧ rs.length ≤ n + i ∧ (∀ ρ ∈ rs, RuleOk L ρ) ∧ Stp r H1 H4 ∧ RowIn H4 r a)
          ⟨ts, rs, _, rfl, e1', e2', by omega, e4, e5', R2.in⟩ (fun _ _ _ _ _ => trivial) ?_ ?_⟩
        · rintro i x σ H4 H4' hi' ⟨ts, rs, v, rfl, e1, e2, e3, e4, e5, e6⟩ ⟨rfl, c, hc, rfl⟩
          have hc := T_at hc
          have hi2 : i < L.length := by rw [T_size] at hi'; exact hi'
          have RA := R1.of e5 e6
          refine ⟨_, rfl, .inl ⟨rfl, _, .inl (.inl e1)⟩, _, rfl, (by show 4 ≤ sizeLine; decide), fun p hp => ?_⟩
          have sm := same_new hp (.lst [V.str "A", .str "B", .str "", .str "AB"])
          refine ⟨_, rfl, r, a, ns, 4, rfl, RA.stp sm, by decide, by decide, fun k3 H5 h4 h5 s3 R3 => ?_⟩
          have s3' := (Stp.of sm).trans s3
          have hL : SqL K H5 p [V.str "A", .str "B", .str "", .str "AB"] := .inl (.inl (s3 _ _ upd_same (RA.nw hp).symm))
          have f1 := s3'.one e1 nD
          have kt3 := s3'.kt e6
          have ec : c ∈ L := List.mem_of_getElem? hc
          have ok : ∀ so : List Nat, (∀ c ∈ so, 65 ≤ c ∧ c ≤ 90) → so.length ≤ 3 → RuleOk L ⟨[], [c], [], so⟩ := fun so g1 g2 =>
            ⟨List.nil_sublist _, fun d hd => by rw [List.mem_singleton.mp hd]; exact ec, Nat.le_refl _, by show 1 ≤ 2; decide, List.nil_sublist _, g1, g2⟩
          obtain ⟨so, g1, g2, g3⟩ : ∃ so : List Nat, (∀ c ∈ so, 65 ≤ c ∧ c ≤ 90) ∧ so.length ≤ 3 ∧ atI [V.str "A", .str "B", .str "", .str "AB"] k3 = some (V.str (T so)) := by
            have hk : k3 = 0 ∨ k3 = 1 ∨ k3 = 2 ∨ k3 = 3 := by omega
            rcases hk with e | e | e | e
            · exact ⟨[65], by decide, by decide, at_of (j := 0) e (by decide +kernel)⟩
            · exact ⟨[66], by decide, by decide, at_of (j := 1) e (by decide +kernel)⟩
            · exact ⟨[], by decide, by decide, at_of (j := 2) e (by decide +kernel)⟩
            · exact ⟨[65, 66], by decide, by decide, at_of (j := 3) e (by decide +kernel)⟩
          refine ⟨p, _, k3, V.str (T so), rfl, rfl, hL, g3, (by show 4 ≤ sizeLine; decide), fun t ht => ?_⟩
          have f2 := same_new ht (.tup [.str (Str.ofString ""), .str ⟨#[c]⟩, .str (Str.ofString ""), .str (T so)])
          have f3 := f2 _ _ f1
          have kt4 := (kt3.trans (KT.of f2)).trans (kt_upd f3 (o := .lst (ts.map V.ref ++ [.ref t])))
          refine ⟨D, _, _, rfl, rfl, f3, ?_, ts ++ [t], rs ++ [⟨[], [c], [], so⟩], _, rfl, ?_, ?_, ?_, ?_, ((e5.trans s3').trans (Stp.of f2)).put hD _, ?_⟩
          · rw [List.length_map, paired_len e2]
            exact small1000 (by omega)
          · rw [upd_same, List.map_append]
            rfl
          · refine paired_app (paired_mono (fun t ρ h => kt4.1 _ _ h) e2) (.cons ((kt_upd f3).1 _ _ ?_) .nil)
            rw [upd_same, show Str.ofString "" = T [] from nil_eq]
            rfl
          · rw [List.length_append]
            show rs.length + 1 ≤ n + (i + 1)
            omega
          · intro d hd
            rcases List.mem_append.mp hd with h | h
            · exact e4 d h
            · rw [List.mem_singleton.mp h]
              exact ok so g1 g2
          · exact (R3.stp f2).in.upd nD
        · rintro σ H4 ⟨ts, rs, v, rfl, e1, e2, e3, e4, e5, e6⟩
          rw [T_size] at e3
          exact ⟨_, rfl, D, _, rfl, .inl ⟨.inl (.inl e1), fin H4 ts rs e1 e2 e3 e4 e5 e6⟩⟩
      · exact ⟨_, rfl, D, _, rfl, .inl ⟨.inl (.inl e1'), fin H3 ts rs e1' e2' (by omega) e4 e5' R2.in⟩⟩
end
end Say
namespace Say
open PySem PySem.Spec PyProof.Rows L2
/-- S is not where the script stands -/
def Off (K : PySem.W.Frag) (a S : Addr) (ns : List Int) : Prop := (∀ H : Hp, SqL K H a (ns.map V.int)) ∨ a ≠ S
theorem RowAt.off {K : PySem.W.Frag} {H : Hp} {r a S : Addr} {ns : List Int} (R : RowAt K H r a ns) (h : H S = none) : Off K a S ns := by
  obtain ⟨_, sc, _⟩ := R
  rcases sc with (sc | ⟨o, sc⟩) | sc
  · exact .inr (ne_of_none sc h)
  · exact .inr (ne_of_none sc h)
  · exact .inl fun H' => .inr sc
theorem RowAt.updS {K : PySem.W.Frag} {H : Hp} {r a S : Addr} {ns : List Int} {o : HO} (R : RowAt K H r a ns) (n : r ≠ S) (of : Off K a S ns) : RowAt K (upd H S o) r a ns := by
  obtain ⟨⟨i', c', m', q', b'⟩, sc, le⟩ := R
  refine ⟨⟨i', c', m', by rw [upd_ne n]; exact q', b'⟩, ?_, le⟩
  rcases of with of | of
  · exact of _
  · rcases sc with (sc | ⟨o, sc⟩) | sc
    · exact .inl (.inl (by rw [upd_ne of]; exact sc))
    · exact .inl (.inr ⟨o, by rw [upd_ne of]; exact sc⟩)
    · exact .inr sc
end Say
namespace Say
open PySem PySem.Spec PyProof.Rows L2
section
variable {X : Cx}
/-- tuple(xs) of a list: a tuple as it is made -/
theorem call_tupN : CallR X (.type "tuple") (fun xs H Q => ∃ p ys, xs = [.ref p] ∧ SqL X.K H p ys ∧ ∀ (l : Addr) (o : Obj), o.dict = none → H l = none → Q (.ref l) (upd H l (.frz o (.tup ys)))) := by
  intro pins s σ H xs us Q I r h
  obtain ⟨p, ys, rfl, hq, q⟩ := h
  obtain ⟨u, rfl, rx⟩ := vals1 r
  cases rx
  obtain ⟨its, r', pl, hz⟩ := I.list hq
  have hlen := r'.length
  refine call_tuple_list pl.isList (fun h' kp => ?_) (by simp only [List.size_toArray] <;> omega)
  have I1 : Inv X pins σ H { s with heap := h' } := I.kept (t' := s.toks) kp
  have I2 : Inv X pins σ (upd H h'.objs.size (.frz { cls := .type "tuple", data := .seq its.toArray } (.tup ys))) { s with heap := h'.push { cls := .type "tuple", data := .seq its.toArray } } :=
    I1.laid (t' := s.toks) (fun b o e => Heap.get?_push_of_some _ e) (Nat.le_refl _) (show ObjOk X.prog X.w _ _ _ (.frz _ (.tup ys)) from ⟨Heap.get?_push_size _ rfl, hz, its, r', IsTup.new _ _⟩)
  exact ⟨.ref h'.objs.size, _, I2, rfl, q _ _ rfl (I1.hok.fresh (Nat.le_refl _))⟩
theorem pairs_ofT {pins : List (Addr × Obj)} {σ : L2.St} {H : Hp} {s : Shared} (I : L2.Inv X pins σ H s) : ∀ {ps : List Addr} {kvs : List (Key × V)}, Paired (fun p kv => SqT X.K H p [kV kv.1, kv.2]) ps kvs →
    ∃ (prs : List (Key × Value)) (vs : List (Value × Value)), KV kvs prs ∧ prs.length = ps.length ∧ vs.length = ps.length ∧
      ∀ (j : Nat) (k v : Value), vs[j]? = some (k, v) → ∃ (b : Addr) (q : Key), ps[j]? = some b ∧ prs[j]? = some (q, v) ∧ IsTup s.heap b #[k, v] ∧ keyIs q k = true
  | _, _, .nil => ⟨[], [], .nil, rfl, rfl, fun j k v e => by simp at e⟩
  | _, _, .cons (a := p) (b := kv) h t => by
    obtain ⟨prs, vs, r, hl, hl2, hp⟩ := pairs_ofT I t
    obtain ⟨its, rv, ht, _⟩ := I.tuple h
    obtain ⟨u, y, ei, ru, ry⟩ := vals2 rv
    subst ei
    refine ⟨(kv.1, y) :: prs, (u, y) :: vs, .cons ⟨rfl, ry⟩ r, by rw [List.length_cons, List.length_cons, hl], by rw [List.length_cons, List.length_cons, hl2], fun j k v e => ?_⟩
    cases j with
    | zero =>
      have e' : (u, y) = (k, v) := Option.some.inj e
      cases e'
      exact ⟨p, kv.1, rfl, rfl, ht, kV_is (P := X.prog) (w := X.w) ru⟩
    | succ j =>
      obtain ⟨b, q, e1, e2, e3⟩ := hp j k v (by simpa using e)
      exact ⟨b, q, by simpa using e1, by simpa using e2, e3⟩
/-- a display, as it is made -/
def tTupN (t : TA) : TE := fun σ H Q => t σ H fun xs H1 => xs.length ≤ sizeLine ∧ ∀ (p : Addr) (o : Obj), o.dict = none → H1 p = none → Q (.ref p) (upd H1 p (.frz o (.tup xs)))
theorem pe_tupN {es : List Expr} {t : TA} {pos : Pos} {x1} (h : PA X es t) : PE X (.Tuple es x1 pos) (tTupN t) := by
  refine ⟨fun pins s σ H Q I hq => ?_⟩
  refine wpAny_Tuple_spliced (thn (h.run pos pins s σ H _ I hq) fun us s1 ⟨xs, H1, I1, r, z, q⟩ => ⟨by rw [← r.length]; exact z, ?_⟩)
  have hf : H1 s1.heap.objs.size = none := I1.hok.fresh (Nat.le_refl _)
  exact ⟨.ref s1.heap.objs.size, upd H1 s1.heap.objs.size (.frz _ (.tup xs)), I1.laid (t' := s1.toks) (fun b u e => Heap.get?_push_of_some _ e) (Nat.le_refl _) ⟨Heap.get?_push_size _ rfl, z, us, r, ⟨_, Heap.get?_push_size _ rfl, rfl, _, rfl⟩⟩, rfl, q _ _ rfl hf⟩
/-- dict(ps) of such a tuple of pairs -/
theorem call_dictT (hcalm : X.calm = true) : CallR X (.type "dict") (fun xs H Q => ∃ (a : Addr) (ps : List Addr) (kvs : List (Key × V)), xs = [.ref a] ∧ TupN H a (ps.map V.ref) ∧ Paired (fun p kv => SqT X.K H p [kV kv.1, kv.2]) ps kvs ∧
    ∀ p, H p = none → Q (.ref p) (upd H p (.dK (mergeK [] kvs)))) := by
  intro pins s σ H xs us Q I r q
  obtain ⟨a, ps, kvs, ex, hq, hp, q⟩ := q
  subst ex
  obtain ⟨u, eu, rx⟩ := vals1 r
  subst eu
  cases rx
  obtain ⟨o, hH, hd⟩ := hq
  obtain ⟨ho, hz, its, rv, ⟨o', ho', hc, n, hdat⟩⟩ : s.heap.get? a = some o ∧ (ps.map V.ref).length ≤ sizeLine ∧ ∃ its : List Value, Vals (ps.map V.ref) its ∧ IsTup s.heap a its.toArray := I.hok _ _ hH
  have eo : o' = o := Option.some.inj (ho'.symm.trans ho)
  subst eo
  have ei := refs_at rv
  subst ei
  rw [List.length_map] at hz
  obtain ⟨prs, vs, rel, hl, hl2, hpr⟩ := pairs_ofT I hp
  refine PySem.call_dict_pairs (knd := mixKind X.prog X.w) (kvs := prs) (PySem.PairArg.tuple a (ps.map Value.ref).toArray (fun j => (ps[j]?).getD 0) vs) (I.ok.hd hcalm) ⟨⟨o', n, ho, hc, hd, hdat⟩, by simp [hl2], fun j k v e => ?_⟩ ⟨by rw [hl, hl2], fun j k v e => ?_⟩ (by rw [hl2]; exact hz) fun h' tk hd' k => ?_
  · obtain ⟨b, q', e1, _, e3, _⟩ := hpr j k v e
    refine ⟨by simp [e1], .inl ?_⟩
    show s.heap.IsTuple ((ps[j]?).getD 0) _
    rw [e1]
    exact e3
  · obtain ⟨b, q', e1, e2, _, e4⟩ := hpr j k v e
    exact ⟨q', e2, e4⟩
  · have hm : (s.heap.objs.size == sysModules) = false := beq_eq_false_iff_ne.mpr (Nat.ne_of_gt I.big)
    have hlen : (mergeK [] kvs).length ≤ sizeLine := by
      refine Nat.le_trans (length_mergeK kvs []) ?_
      rw [List.length_nil, Nat.zero_add, rel.length, hl]
      exact hz
    have k' : ∀ b o, s.heap.get? b = some o → h'.get? b = some o := fun b o e => k b o (by simp) e
    exact ⟨.ref s.heap.objs.size, upd H s.heap.objs.size (.dK (mergeK [] kvs)), I.laid (t' := tk) k' (Nat.le_refl _) (show ObjOk X.prog X.w _ _ _ (.dK (mergeK [] kvs)) from ⟨hlen, hm, merged [] prs, KV.merge rel .nil, hd'⟩), rfl, q _ (I.hok.fresh (Nat.le_refl _))⟩
end
end Say
namespace Say
open PySem PySem.Spec PyProof.Rows L2
section
variable {P : Program} {w : World} {K : PySem.W.Frag} {mg : Str → Option Value} {base : Heap}
abbrev sRow : Stmt := topS 67
theorem scRow : FnScope ["_law_script", "_law_mixed", "_law_cell"] ["_law_script"] (defScope sRow) := ⟨rfl, rfl, rfl, by decide +kernel, rfl, by decide +kernel, by decide +kernel⟩
def spRow (K : PySem.W.Frag) : Sp := fun vs H Q _ => ∃ (a : Addr) (ns : List Int), vs = [.ref a] ∧ SqL K H a (ns.map V.int) ∧ ns.length ≤ 63 ∧
  ∀ (r : Addr) (H' : Hp), H r = none → Same H H' → RowAt K H' r a ns → Q (.ref r) H'
theorem map_int_get {ns : List Int} {i : Nat} {x : V} (h : (ns.map V.int)[i]? = some x) : ∃ z, x = V.int z := by
  rw [List.getElem?_map] at h
  cases e : ns[i]? with
  | none => rw [e] at h; cases h
  | some z => rw [e] at h; exact ⟨z, (Option.some.inj h).symm⟩
theorem ok_row {f : Addr} {fd : FuncData} {k : Nat} (F : Fun K "_law_row" "_law_row" sRow f fd) : FnOk P w K mg base CX0 (k + 1) f fd ["_law_script"] (spRow K) := by
  refine F.ok scRow (fun vs H Q E h => ?_) (fun cdv A outer s H vs Q E hr h => ?_)
  · obtain ⟨a, ns, rfl, _⟩ := h
    rfl
  · obtain ⟨a, ns, rfl, hS, hle, q⟩ := h
    refine ⟨_, pss_cons (ps_set (i := 1) scRow.nd rfl (.inl rfl) pe_int)
      (pss_cons (ps_for PassesOwn.never rfl (pi_list (pv 0)) (pg_name (i := 2) scRow.nd rfl (.inl rfl))
        (pss_one (ps_set (i := 1) scRow.nd rfl (.inl rfl) (pe_op op_modN (pe_op op_add (pe_op op_add (pe_op op_mul (pv 1) pe_int) (pv 2)) pe_int) pe_int))))
      (pss_one (ps_ret (pe_lst (pa_cons (pv 0) (pa_cons pe_int (pa_cons pe_int (pa_cons (pv 1) pa_nil)))))))), ?_⟩
    refine ⟨_, rfl, a, rfl, ⟨_, hS⟩, for_list (K := K) (a := a) (xs := ns.map V.int) (fun i σ H2 => H2 = H ∧ ∃ (m : Int) (v : Option V), σ = [some (.ref a), some (.int m), v] ∧ 0 ≤ m ∧ m < 2147483647)
      ⟨rfl, 7, none, rfl, by decide, by decide⟩ (fun i σ H2 _ h => by obtain ⟨rfl, _⟩ := h; exact hS) ?_ ?_⟩
    · rintro i x σ H2 hx ⟨rfl, m, v, rfl, h0, h1⟩
      obtain ⟨z, rfl⟩ := map_int_get hx
      refine ⟨_, rfl, _, _, rfl, rfl, .inl ⟨by omega, by omega⟩, _, rfl, _, _, rfl, rfl, _, _, rfl, rfl, _, _, rfl, rfl, (by show (2147483647 : Int) ≠ 0; decide), ?_⟩
      exact ⟨rfl, _, _, rfl, Int.fmod_nonneg_of_pos _ (by decide), Int.fmod_lt_of_pos _ (by decide)⟩
    · rintro σ H2 ⟨rfl, m, v, rfl, h0, h1⟩
      refine ⟨_, rfl, _, rfl, (by show 4 ≤ sizeLine; decide), fun p hp => ?_⟩
      have sm := same_new hp (.lst [.ref a, .int 0, .int 0, .int m])
      exact q p _ hp sm ⟨⟨0, 0, m, upd_same, by decide, h0, h1⟩, sm.seq hS, hle⟩
end
end Say
namespace Say
open PySem PySem.Spec PyProof.Rows L2 L2.DX
theorem putE_all {p : Exc → Prop} {es : List Exc} {wd so : List Nat} (h : ∀ e ∈ es, p e) (hn : p (wd, so)) : ∀ e ∈ putE es wd so, p e := fun e he => by
  unfold putE at he
  by_cases c : (es.any fun e => decide (e.1 = wd)) = true
  · rw [if_pos c] at he
    obtain ⟨e', h1, rfl⟩ := List.mem_map.mp he
    by_cases c2 : e'.1 = wd
    · rw [if_pos c2, c2]; exact hn
    · rw [if_neg c2]; exact h _ h1
  · rw [if_neg c] at he
    rcases List.mem_append.mp he with he | he
    · exact h _ he
    · rw [List.mem_singleton.mp he]; exact hn
theorem ABD_eq : Str.ofString "ABD" = T [65, 66, 68] := by decide +kernel
theorem ABD_ok {z : List Nat} (h : ∀ c ∈ z, c ∈ [65, 66, 68]) : ∀ c ∈ z, 65 ≤ c ∧ c ≤ 90 := fun c hc => by
  have := h c hc
  simp at this
  omega
theorem RowAt.dput {K : PySem.W.Frag} {H : Hp} {r a F : Addr} {ns : List Int} {kvs : List (Key × V)} (R : RowAt K H r a ns) (hF : H F = some (.dK kvs)) (o : HO) : RowAt K (upd H F o) r a ns :=
  R.stpD hF (stp_at _)
section
variable {P : Program} {w : World} {K : PySem.W.Frag} {mg : Str → Option Value} {base : Heap}
abbrev sLEx : Stmt := topS 74
abbrev nLEx : List Str := ["_law_row_here", "_law_letters_here", "_law_most", "_law_found", "_law_k"]
theorem scLEx : FnScope nLEx ["_law_row_here", "_law_letters_here", "_law_most"] (defScope sLEx) := ⟨rfl, rfl, rfl, by decide +kernel, rfl, by decide +kernel, by decide +kernel⟩
def spLE4 (K : PySem.W.Frag) : Sp := fun vs H Q _ => ∃ (r a : Addr) (ns : List Int) (L : List Nat) (n : Nat), vs = [.ref r, .str (T L), .int n] ∧ RowAt K H r a ns ∧ LetOk L ∧ n ≤ 12 ∧
  ∀ (es : List Exc) (X : Addr) (H' : Hp), (∀ e ∈ es, ExcOk L e ∧ e.1.length ≤ 4) → es.length ≤ n → (es.Pairwise fun e f => e.1 < f.1) → ExcsAt H' X es → Stp r H H' → RowAt K H' r a ns → Q (.ref X) H'
theorem ok_LE4 {f : Addr} {fd : FuncData} (F : Fun K "_law_exceptions" "_law_exceptions" sLEx f fd) (B : Bn mg) (DT : Df P w K mg base "_law_taken" ["_law_row_here", "_law_many"] 1 (spTaken K))
    (DX : Df P w K mg base "_law_text" ["_law_row_here", "_law_signs", "_law_fewest", "_law_many"] 2 (spText K)) : FnOk P w K mg base CX0 3 f fd ["_law_row_here", "_law_letters_here", "_law_most"] (spLE4 K) := by
  obtain ⟨fT, fdT, GT, kT, bT, mT⟩ := DT
  obtain ⟨fX, fdX, GX, kX, bX, mX⟩ := DX
  refine F.ok scLEx (fun vs H Q E h => ?_) (fun cdv A outer s H vs Q E hr h => ?_)
  · obtain ⟨r, a, ns, L, n, rfl, _⟩ := h
    rfl
  · obtain ⟨r, a, ns, L, n, rfl, R, oL, hn, q⟩ := h
    have l2 := oL.l2
    have l4 := oL.l4
    have hu := hu_of hr
    have hr1 : Room 1 _ := hr.mono (by decide)
    refine ⟨_, pss_cons (ps_set (i := 3) scLEx.nd rfl (.inl rfl) pe_dnewK)
      (pss_cons (ps_for PassesOwn.never rfl (pi_range1 rfl B.rng (pa_cons (pe_call GT hr1 (by rfl) mT kT bT .nil pass0 (pa_cons (pv 0) (pa_cons (pe_op op_add (pv 2) pe_int) pa_nil))) pa_nil)) (pg_name (i := 4) scLEx.nd rfl (.inl rfl))
        (pss_one (ps_dput hu (pv 3) (pe_call GX hr (by rfl) mX kX bX .nil pass0 (pa_cons (pv 0) (pa_cons (pv 1) (pa_cons pe_int (pa_cons pe_int pa_nil)))))
          (pe_call GX hr (by rfl) mX kX bX .nil pass0 (pa_cons (pv 0) (pa_cons pe_str (pa_cons pe_int (pa_cons pe_int pa_nil))))) rfl)))
      (pss_one (ps_ret (pe_callTy call_tupN (by rfl) B.tup (by decide +kernel) (pa_cons (pe_callB (cr_sortedTx rfl) (by rfl) B.srt (by decide +kernel)
            (pa_cons (pe_bm0 PySem.F.plainAttrs_dict PySem.F.slot_dict_items PySem.F.type_dict_items mt_itemsK (pv 3)) pa_nil)) pa_nil))))), ?_⟩
    intro D hD
    have nD : D ≠ r := (R.nw hD).symm
    have R1 := R.stp (same_new hD (.dK []))
    have hD1 : (upd H D (.dK [])) D = some (.dK (([] : List Exc).map ent)) := upd_same
    have s1 : Stp r H (upd H D (.dK [])) := .of (same_new hD _)
    generalize upd H D (.dK []) = H1 at R1 hD1 s1 ⊢
    refine ⟨_, rfl, _, rfl, _, _, rfl, rfl, r, a, ns, _, rfl, R1, by omega, by omega, fun k1 H2 h0 h1 s2 R2 => ?_⟩
    refine ⟨k1, rfl, by omega, by omega, for_it (walk_range) (fun i σ H3 => ∃ (es : List Exc) (v4 : Option V), σ = [some (.ref r), some (.str (T L)), some (.int n), some (.ref D), v4] ∧ H3 D = some (.dK (es.map ent)) ∧ (∀ e ∈ es, ExcOk L e ∧ e.1.length ≤ 4) ∧ (es.map (·.1)).Nodup ∧ es.length ≤ i ∧ Stp r H H3 ∧ RowAt K H3 r a ns)
      ⟨[], _, rfl, s2 _ _ hD1 nD, by simp, by simp, Nat.le_refl _, s1.trans s2, R2⟩ (fun _ _ _ _ _ => trivial) ?_ ?_⟩
    · rintro i x σ H3 H3' hi ⟨es, v4, rfl, hD3, hes, hnd, hel, s3, R3⟩ ⟨rfl, rfl⟩
      have hi8 : i < 12 := by omega
      refine ⟨_, rfl, r, a, ns, [65, 66, 68], 0, 5, by rw [ABD_eq]; rfl, R3, by decide, by decide, by decide, by decide, fun so H4 g1 g2 g3 s4 R4 => ?_⟩
      refine ⟨_, rfl, _, rfl, _, rfl, r, a, ns, L, 1, 4, rfl, R4, by omega, by omega, by decide, by decide, fun wd H5 w1 w2 w3 s5 R5 => ?_⟩
      have hD5 := (s4.trans s5) _ _ hD3 nD
      refine ⟨D, _, rfl, DPut.k (k := Sum.inr (T wd)) hD5 (by rw [List.length_map]; exact small1000 (by omega)), ?_⟩
      refine ⟨putE es wd so, _, rfl, by rw [upd_same, put_ent], putE_all hes ⟨⟨w1, w2, by show wd.length ≤ 8; omega, ABD_ok g1, by show so.length ≤ 36; omega⟩, by show wd.length ≤ 4; omega⟩, putE_nd hnd, Nat.le_trans (putE_len _ _ _) (by omega), ?_, R5.dput hD5 _⟩
      exact (s3.trans (s4.trans s5)).put hD _
    · rintro σ H3 ⟨es, v4, rfl, hD3, hes, hnd, hel, s3, R3⟩
      have hln : es.length ≤ n := by omega
      refine ⟨_, rfl, .inr (.inr (.inl ⟨rfl, .inl ⟨_, hD3⟩⟩)), D, _, rfl, rfl, hD3, fun p hp => ?_⟩
      have sp := same_new hp (itemsO p D)
      refine ⟨p, D, es.map tt, rfl, upd_same, by rw [sp _ _ hD3, List.map_map]; rfl, by rw [List.length_map]; omega, fun H4 l ps s4 hperm hpw hln' hll hps => ?_⟩
      have s34 : Same H3 H4 := sp.trans s4
      obtain ⟨pe1, pe2, pe3⟩ := sort_exc hnd hperm hpw
      refine ⟨l, _, rfl, .inl (.inl hll), fun X oX hoX hX => ?_⟩
      have sX := same_new hX (.frz oX (.tup (ps.map fun z => V.ref z.1)))
      refine q ((ps.map (·.2)).map bk) X _ (fun e he => hes e (pe2.mem_iff.mp he)) (by rw [pe2.length_eq]; exact hln) pe3 ⟨ps.map (·.1), ⟨oX, by rw [upd_same, List.map_map]; rfl, hoX⟩, ?_⟩ (s3.trans (.of (s34.trans sX))) (R3.stp (s34.trans sX))
      rw [List.map_map]
      refine paired_map fun z hz => ?_
      have := sX _ _ (hps z hz)
      rw [this]
      show some (HO.tup [V.str z.2.1, V.str z.2.2]) = some (HO.tup [V.str (T z.2.1.cps.toList), V.str (T z.2.2.cps.toList)])
      rw [T_list, T_list]
end
end Say
namespace Say
open PySem PySem.Spec PyProof.Rows L2
section
variable {P : Program} {w : World} {K : PySem.W.Frag} {mg : Str → Option Value} {base : Heap}
abbrev sLetters : Stmt := topS 69
theorem scLetters : FnScope ["_law_row_here"] ["_law_row_here"] (defScope sLetters) := ⟨rfl, rfl, rfl, by decide +kernel, rfl, by decide +kernel, by decide +kernel⟩
def spLetters (K : PySem.W.Frag) : Sp := fun vs H Q _ => ∃ (r a : Addr) (ns : List Int), vs = [.ref r] ∧ RowAt K H r a ns ∧
  ∀ (L : List Nat) (H' : Hp), L ∈ lets → Stp r H H' → RowAt K H' r a ns → Q (.str (T L)) H'
theorem ok_letters {f : Addr} {fd : FuncData} (F : Fun K "_law_letters" "_law_letters" sLetters f fd) (DT : Df P w K mg base "_law_taken" ["_law_row_here", "_law_many"] 1 (spTaken K)) :
    FnOk P w K mg base CX0 2 f fd ["_law_row_here"] (spLetters K) := by
  obtain ⟨fT, fdT, GT, kT, bT, mT⟩ := DT
  refine F.ok scLetters (fun vs H Q E h => ?_) (fun cdv A outer s H vs Q E hr h => ?_)
  · obtain ⟨r, a, ns, rfl, _⟩ := h
    rfl
  · obtain ⟨r, a, ns, rfl, R, q⟩ := h
    refine ⟨_, pss_one (ps_ret (pe_ix ix_list (pe_lst (pa_cons pe_str (pa_cons pe_str (pa_cons pe_str (pa_cons pe_str pa_nil))))) (pe_call GT hr (by rfl) mT kT bT .nil pass0 (pa_cons (pv 0) (pa_cons pe_int pa_nil))) (fun _ _ => rfl))), ?_⟩
    refine ⟨(by show 4 ≤ sizeLine; decide), fun p hp => ?_⟩
    have sm := same_new hp (.lst [V.str "ab", .str "abc", .str "ac", .str "abcd"])
    refine ⟨_, rfl, r, a, ns, 4, rfl, R.stp sm, by decide, by decide, fun k1 H1 h0 h1 s1 R1 => ?_⟩
    have hL : SqL K H1 p [V.str "ab", .str "abc", .str "ac", .str "abcd"] := .inl (.inl (s1 _ _ upd_same (R.nw hp).symm))
    have hk : k1 = 0 ∨ k1 = 1 ∨ k1 = 2 ∨ k1 = 3 := by omega
    rcases hk with e | e | e | e
    · exact ⟨p, _, k1, V.str (T [97, 98]), rfl, rfl, hL, at_of (j := 0) e (by decide +kernel), q _ H1 (by decide) ((Stp.of sm).trans s1) R1⟩
    · exact ⟨p, _, k1, V.str (T [97, 98, 99]), rfl, rfl, hL, at_of (j := 1) e (by decide +kernel), q _ H1 (by decide) ((Stp.of sm).trans s1) R1⟩
    · exact ⟨p, _, k1, V.str (T [97, 99]), rfl, rfl, hL, at_of (j := 2) e (by decide +kernel), q _ H1 (by decide) ((Stp.of sm).trans s1) R1⟩
    · exact ⟨p, _, k1, V.str (T [97, 98, 99, 100]), rfl, rfl, hL, at_of (j := 3) e (by decide +kernel), q _ H1 (by decide) ((Stp.of sm).trans s1) R1⟩
end
end Say
namespace Say
open PySem PySem.Spec PyProof.Rows L2
section
variable {X : Cx}
/-- t[lo:hi] of a tuple, as it is made: t itself where it is the whole -/
def rSlN (K : PySem.W.Frag) : V → Option Int → Option Int → Hp → VK → Prop := fun x lo hi H Q => ∃ a xs, x = .ref a ∧ SqT K H a xs ∧
  (HT.sIx xs.length 0 lo = 0 ∧ HT.sIx xs.length xs.length hi = xs.length → Q (.ref a) H) ∧ (¬ (HT.sIx xs.length 0 lo = 0 ∧ HT.sIx xs.length xs.length hi = xs.length) → ∀ (p : Addr) (o : Obj), o.dict = none → H p = none → Q (.ref p) (upd H p (.frz o (.tup (cutV xs lo hi)))))
theorem sl_tupN : SlR X (rSlN X.K) := by
  intro pins s σ H x v vl vu lo hi sl Q I rx hs pl pu h
  obtain ⟨a, xs, rfl, hx, q1, q2⟩ := h
  cases rx
  obtain ⟨its, r, ht, hz⟩ := I.tuple hx
  have hlen : its.toArray.size = xs.length := by rw [List.size_toArray]; exact r.length.symm
  refine ⟨"tuple", _, PyProof.Rows.slot_tuple_getitem.lookup, ht.typeIs, ?_⟩
  by_cases hw : HT.sIx xs.length 0 lo = 0 ∧ HT.sIx xs.length xs.length hi = xs.length
  · exact getItem_tuple_whole ht hs pl pu (by rw [hlen]; exact hw) ⟨.ref a, H, I, rfl, q1 hw⟩
  · refine HT.getItem_tuple_cut ht hs pl pu (by rw [hlen]; exact hw) ?_ (by rw [hlen]; exact hz)
    rw [hlen]
    have rr := (r.drop (HT.sIx xs.length 0 lo)).take (HT.sIx xs.length xs.length hi - HT.sIx xs.length 0 lo)
    exact ⟨.ref s.heap.objs.size, _, I.laid (t' := s.toks) (fun b ob e => Heap.get?_push_of_some _ e) (Nat.le_refl _) (show ObjOk X.prog X.w _ _ _ (.frz _ (.tup (cutV xs lo hi))) from ⟨Heap.get?_push_size _ rfl, Nat.le_trans (cutV_length xs lo hi) hz, _, rr, IsTup.new _ _⟩), rfl, q2 hw _ _ rfl (I.hok.fresh (Nat.le_refl _))⟩
/-- t[lo:hi] of a tuple as it was made, whatever is cut -/
theorem sl_tupQ : SlR X (fun x lo hi H Q => ∃ a xs, x = .ref a ∧ TupN H a xs ∧ ∀ (p : Addr) (H' : Hp), (∀ b o, H b = some o → H' b = some o) → TupN H' p (cutV xs lo hi) → Q (.ref p) H') := by
  intro pins s σ H x v vl vu lo hi sl Q I rx hs pl pu h
  obtain ⟨a, xs, e, ha, q⟩ := h
  refine sl_tupN pins s σ H x v vl vu lo hi sl Q I rx hs pl pu ⟨a, xs, e, .inl (.inr ⟨_, ha.choose_spec.1⟩), fun hw => ?_, fun hw p o ho hp => ?_⟩
  · refine q a H (fun _ _ h => h) ?_
    have : cutV xs lo hi = xs := by
      unfold cutV
      rw [hw.1, hw.2, List.drop_zero, Nat.sub_zero, List.take_length]
    rw [this]
    exact ha
  · refine q p _ (fun b u hb => ?_) ⟨o, upd_same, ho⟩
    rw [upd_ne (fun z => by rw [z, hp] at hb; cases hb)]
    exact hb
end
end Say
namespace Say
open PySem PySem.Spec PyProof.Rows L2
theorem sl_tupW {X : Cx} : SlR X (fun x lo hi H Q => ∃ a xs, x = .ref a ∧ H a = some (.tup xs) ∧ ∀ (p : Addr) (H' : Hp), Same H H' → H' p = some (.tup (cutV xs lo hi)) → Q (.ref p) H') := by
  intro pins s σ H x v vl vu lo hi sl Q I rx hs pl pu h
  obtain ⟨a, xs, e, ha, q⟩ := h
  refine sl_tupA pins s σ H x v vl vu lo hi sl Q I rx hs pl pu ⟨a, xs, e, .inl (.inl ha), fun hw => ?_, fun hw p hp => ?_⟩
  · refine q a H (Same.refl H) ?_
    have : cutV xs lo hi = xs := by
      unfold cutV
      rw [hw.1, hw.2, List.drop_zero, Nat.sub_zero, List.take_length]
    rw [this]
    exact ha
  · exact q p _ (same_new hp _) upd_same
theorem paired_takeW {α β : Type} {F : α → β → Prop} : ∀ (m : Nat) {l : List α} {k : List β}, Paired F l k → Paired F (l.take m) (k.take m)
  | 0, _, _, _ => .nil
  | _ + 1, _, _, .nil => .nil
  | m + 1, _, _, .cons a t => .cons a (paired_takeW m t)
theorem cut_takeW (xs : List V) (k : Nat) : cutV xs none (some (k : Int)) = xs.take k := by
  unfold cutV
  rw [HT.sIx_none, HT.sIx_nat, List.drop_zero, Nat.sub_zero]
  rcases Nat.le_total k xs.length with h | h
  · rw [Nat.min_eq_left h]
  · rw [Nat.min_eq_right h, List.take_length, List.take_of_length_le h]
theorem rules_take {H H' : Hp} {R p : Addr} {rs : List Rule} {ts : List Addr} (k : Nat) (pR : Paired (fun t ρ => H t = some (.tup (Rule.vs ρ))) ts rs) (s : Same H H') (hp : H' p = some (.tup (cutV (ts.map V.ref) none (some (k : Int))))) : RulesAt H' p (rs.take k) := by
  refine ⟨ts.take k, ?_, paired_takeW k (paired_mono (fun t ρ h => s _ _ h) pR)⟩
  rw [hp, cut_takeW, List.map_take]
theorem excs_take {H H' : Hp} {p : Addr} {es : List Exc} {ts : List Addr} (k : Nat) (pX : Paired (fun t (e : Exc) => H t = some (.tup [.str (T e.1), .str (T e.2)])) ts es) (s : Same H H') (hp : TupN H' p (cutV (ts.map V.ref) none (some (k : Int)))) : ExcsAt H' p (es.take k) := by
  refine ⟨ts.take k, ?_, paired_takeW k (paired_mono (fun t ρ h => s _ _ h) pX)⟩
  rw [cut_takeW, ← List.map_take] at hp
  exact hp
end Say
namespace Say
open PySem PySem.Spec PyProof.Rows L2
section
variable {X : Cx}
/-- dict(ps) of a frozen tuple of pairs, not to be changed -/
theorem call_dictF (hcalm : X.calm = true) : CallR X (.type "dict") (fun xs H Q => ∃ (a : Addr) (ps : List Addr) (kvs : List (Key × V)), xs = [.ref a] ∧ TupN H a (ps.map V.ref) ∧ Paired (fun p kv => SqT X.K H p [kV kv.1, kv.2]) ps kvs ∧
    ∀ (p : Addr) (o : Obj), H p = none → Q (.ref p) (upd H p (.frz o (.dK (mergeK [] kvs))))) := by
  intro pins s σ H xs us Q I r q
  obtain ⟨a, ps, kvs, ex, hq, hp, q⟩ := q
  subst ex
  obtain ⟨u, eu, rx⟩ := vals1 r
  subst eu
  cases rx
  obtain ⟨o, hH, hd⟩ := hq
  obtain ⟨ho, hz, its, rv, ⟨o', ho', hc, n, hdat⟩⟩ : s.heap.get? a = some o ∧ (ps.map V.ref).length ≤ sizeLine ∧ ∃ its : List Value, Vals (ps.map V.ref) its ∧ IsTup s.heap a its.toArray := I.hok _ _ hH
  have eo : o' = o := Option.some.inj (ho'.symm.trans ho)
  subst eo
  have ei := refs_at rv
  subst ei
  rw [List.length_map] at hz
  obtain ⟨prs, vs, rel, hl, hl2, hpr⟩ := pairs_ofT I hp
  refine PySem.call_dict_pairs (knd := mixKind X.prog X.w) (kvs := prs) (PySem.PairArg.tuple a (ps.map Value.ref).toArray (fun j => (ps[j]?).getD 0) vs) (I.ok.hd hcalm) ⟨⟨o', n, ho, hc, hd, hdat⟩, by simp [hl2], fun j k v e => ?_⟩ ⟨by rw [hl, hl2], fun j k v e => ?_⟩ (by rw [hl2]; exact hz) fun h' tk hd' k => ?_
  · obtain ⟨b, q', e1, _, e3, _⟩ := hpr j k v e
    refine ⟨by simp [e1], .inl ?_⟩
    show s.heap.IsTuple ((ps[j]?).getD 0) _
    rw [e1]
    exact e3
  · obtain ⟨b, q', e1, e2, _, e4⟩ := hpr j k v e
    exact ⟨q', e2, e4⟩
  · have hm : (s.heap.objs.size == sysModules) = false := beq_eq_false_iff_ne.mpr (Nat.ne_of_gt I.big)
    have hlen : (mergeK [] kvs).length ≤ sizeLine := by
      refine Nat.le_trans (length_mergeK kvs []) ?_
      rw [List.length_nil, Nat.zero_add, rel.length, hl]
      exact hz
    have k' : ∀ b o, s.heap.get? b = some o → h'.get? b = some o := fun b o e => k b o (by simp) e
    obtain ⟨od, es, ep, hod, _⟩ := id hd'
    exact ⟨.ref s.heap.objs.size, upd H s.heap.objs.size (.frz od (.dK (mergeK [] kvs))), I.laid (t' := tk) k' (Nat.le_refl _) (show ObjOk X.prog X.w _ _ _ (.frz od (.dK (mergeK [] kvs))) from ⟨hod, hlen, hm, merged [] prs, KV.merge rel .nil, hd'⟩), rfl, q _ _ (I.hok.fresh (Nat.le_refl _))⟩
/-! ### list.count of texts -/
def eqs (k : Str) (v : Value) : Bool := match v with
  | .str n _ => n.cps.toList == k.cps.toList
  | _ => false
theorem vals_strs : ∀ {zs : List Str} {us : List Value}, Vals (zs.map V.str) us → ∀ y ∈ us, ∃ z t, y = .str z t
  | [], _, .nil, y, h => nomatch h
  | z :: zs, _, .cons a b, y, h => by
    rcases List.mem_cons.mp h with e | e
    · obtain ⟨t, rfl⟩ := a
      exact ⟨z, t, e⟩
    · exact vals_strs b y e
theorem eqs_count {k : Str} : ∀ {zs : List Str} {us : List Value}, Vals (zs.map V.str) us → us.countP (eqs k) = zs.countP fun z => z.cps.toList == k.cps.toList
  | [], _, .nil => rfl
  | z :: zs, _, .cons a b => by
    have ih := eqs_count (k := k) b
    obtain ⟨t, rfl⟩ := a
    rw [List.countP_cons, List.countP_cons, ih] <;> rfl
def rCntS (K : PySem.W.Frag) : V → List V → Hp → VK → Prop := fun x xs H Q => ∃ (p : Addr) (zs : List Str) (k : Str), x = .ref p ∧ xs = [.str k] ∧ SqL K H p (zs.map V.str) ∧ Q (.int ((zs.countP fun z => z.cps.toList == k.cps.toList : Nat) : Int)) H
theorem mt_lcountS : MtR X "list.count" (rCntS X.K) := by
  intro pins s σ H x xs v us Q I rx rxs h
  obtain ⟨p, zs, k, rfl, rfl, hs, q⟩ := h
  cases rx
  obtain ⟨u, rfl, ru⟩ := rxs.one
  obtain ⟨t, rfl⟩ := ru
  obtain ⟨its, rv, ⟨⟨cls, dd, data, sl⟩, n, ho, hc, hdn, hd⟩, hlen⟩ := I.list hs
  simp only at hc hd
  subst hc hd
  refine call_meets PySem.F.slot_list_count ⟨_, ho, rfl⟩ PySem.F.entry_list_count (PySem.F.args_list_count_2 _ _)
    (SeqAt.list_countAt p its.toArray n dd sl (.str k t) (eqs k)) ⟨ho, fun y hy => ?_, ?_⟩
  · obtain ⟨z, tz, rfl⟩ := vals_strs rv y (by simpa using hy)
    exact (PySem.SeqRoads2.EqGives.str z k tz t).at _ _
  have ec : its.toArray.toList.countP (eqs k) = zs.countP fun z => z.cps.toList == k.cps.toList := eqs_count rv
  refine ⟨.int ((zs.countP fun z => z.cps.toList == k.cps.toList : Nat) : Int), H, I.tok _, ⟨s.toks, ?_⟩, q⟩
  show Value.int ((its.toArray.toList.countP (eqs k) : Nat) : Int) s.toks = Value.int ((zs.countP fun z => z.cps.toList == k.cps.toList : Nat) : Int) s.toks
  rw [ec]
end
/-! ### a dict of exceptions -/
theorem merge_new : ∀ (more : List (Key × V)) (acc : List (Key × V)), (∀ p ∈ acc, ∀ q ∈ more, p.1 ≠ q.1) → (more.Pairwise fun p q => p.1 ≠ q.1) → mergeK acc more = acc ++ more
  | [], acc, _, _ => by rw [List.append_nil]; rfl
  | p :: r, acc, h, hp => by
    have hv : valV acc p.1 = none := by
      unfold valV
      rw [List.find?_eq_none.mpr fun q hq => by simpa using h q hq p (List.mem_cons_self ..)]
      rfl
    show mergeK (putK acc p.1 p.2) r = _
    rw [putK_new p.2 hv, merge_new r _ ?_ (List.pairwise_cons.mp hp).2, List.append_assoc]
    · rfl
    · intro a ha b hb
      rcases List.mem_append.mp ha with ha | ha
      · exact h a ha b (List.mem_cons_of_mem _ hb)
      · rw [List.mem_singleton.mp ha]
        exact (List.pairwise_cons.mp hp).1 b hb
theorem merge_exc {es : List Exc} (up : es.Pairwise fun e f => e.1 < f.1) : mergeK [] (es.map ent) = es.map ent := by
  rw [merge_new _ [] (fun p h => nomatch h), List.nil_append]
  rw [List.pairwise_map]
  exact up.imp fun {e f} h z => by
    have : e.1 = f.1 := key_eq.mp z
    rw [this] at h
    exact List.lt_irrefl _ h
theorem val_exc {es : List Exc} (up : es.Pairwise fun e f => e.1 < f.1) {e : Exc} (h : e ∈ es) : valV (es.map ent) (Sum.inr (T e.1)) = some (.str (T e.2)) := by
  induction es with
  | nil => cases h
  | cons a r ih =>
    obtain ⟨p1, p2⟩ := List.pairwise_cons.mp up
    rw [List.map_cons]
    rcases List.mem_cons.mp h with rfl | h
    · exact valV_pos rfl
    · rw [valV_neg, ih p2 h]
      intro z
      have z : a.1 = e.1 := key_eq.mp z
      have := p1 e h
      rw [z] at this
      exact List.lt_irrefl _ this
theorem val_exc_some (es : List Exc) (wd : List Nat) : (valV (es.map ent) (Sum.inr (T wd))).isSome = es.any fun e => decide (e.1 = wd) := by
  induction es with
  | nil => rfl
  | cons a r ih =>
    rw [List.map_cons, List.any_cons]
    by_cases c : a.1 = wd
    · rw [valV_pos (key_eq.mpr c), decide_eq_true c]; rfl
    · rw [valV_neg (fun z => c (key_eq.mp z)), decide_eq_false c, Bool.false_or, ih]
end Say
namespace Say
open PySem PySem.Spec PyProof.Rows L2 L2.DX
theorem paired_entD {K : PySem.W.Frag} {H : Hp} : ∀ {ts : List Addr} {es : List Exc}, Paired (fun t (e : Exc) => H t = some (.tup [.str (T e.1), .str (T e.2)])) ts es → Paired (fun p (kv : Key × V) => SqT K H p [kV kv.1, kv.2]) ts (es.map ent)
  | _, _, .nil => .nil
  | _, _, .cons a r => .cons (.inl (.inl a)) (paired_entD r)
theorem letsD_ok {L : List Nat} (h : L ∈ lets) : LetOk L := by
  have : ∀ L ∈ lets, LetOk L := by
    intro L h
    simp only [lets, List.mem_cons, List.not_mem_nil, or_false] at h
    rcases h with rfl | rfl | rfl | rfl <;> exact ⟨by decide, by decide, by decide, by decide⟩
  exact this L h
theorem RowAt.neD {K : PySem.W.Frag} {H : Hp} {r a D : Addr} {ns : List Int} {kvs : List (Key × V)} (R : RowAt K H r a ns) (h : H D = some (.dK kvs)) : r ≠ D := by
  obtain ⟨⟨i, c, m, q, _⟩, _⟩ := R
  exact ne_of q h (by intro z; cases z)
theorem kt_dk {H : Hp} {D : Addr} {kvs : List (Key × V)} {o : HO} (h : H D = some (.dK kvs)) : KT H (upd H D o) := KT.by fun t u q hu => by
  rw [upd_ne (ne_of q h (by rcases hu with ⟨_, rfl⟩ | ⟨_, _, rfl⟩ <;> (intro z; cases z)))]
  exact q
/-- the rules' tuples in a list -/
def RListAt (H : Hp) (R : Addr) (rs : List Rule) : Prop := ∃ ts : List Addr, H R = some (.lst (ts.map V.ref)) ∧ Paired (fun t ρ => H t = some (.tup (Rule.vs ρ))) ts rs
theorem RListAt.stp {H H' : Hp} {R : Addr} {rs : List Rule} (h : RListAt H R rs) (k : KT H H') (e : ∀ l, H R = some (.lst l) → H' R = some (.lst l)) : RListAt H' R rs := by
  obtain ⟨ts, h1, h2⟩ := h
  exact ⟨ts, e _ h1, paired_mono (fun t ρ q => k.1 _ _ q) h2⟩
theorem merge_ld (x y z : V) : mergeK [] [((Sum.inr "letters" : Key), x), (Sum.inr "rules", y), (Sum.inr "excepted", z)] = [((Sum.inr "letters" : Key), x), (Sum.inr "rules", y), (Sum.inr "excepted", z)] := by
  refine (merge_new _ [] (fun p h => nomatch h) ?_).trans (List.nil_append _)
  have k1 : (Sum.inr "letters" : Key) ≠ (Sum.inr "rules" : Key) := by decide +kernel
  have k2 : (Sum.inr "letters" : Key) ≠ (Sum.inr "excepted" : Key) := by decide +kernel
  have k3 : (Sum.inr "rules" : Key) ≠ (Sum.inr "excepted" : Key) := by decide +kernel
  refine .cons (fun p hp => ?_) (.cons (fun p hp => ?_) (.cons (fun p hp => nomatch hp) .nil))
  · simp only [List.mem_cons, List.not_mem_nil, or_false] at hp
    rcases hp with rfl | rfl
    · exact k1
    · exact k2
  · rw [List.mem_singleton.mp hp]; exact k3
/-- the law's own desk -/
structure LdAt (H : Hp) (wD RL XD : Addr) (L : List Nat) (rs : List Rule) (es : List Exc) : Prop where
  d : H wD = some (.dK [(Sum.inr "letters", .str (T L)), (Sum.inr "rules", .ref RL), (Sum.inr "excepted", .ref XD)])
  r : RListAt H RL rs
  x : H XD = some (.dK (es.map ent))
theorem LdAt.same {H H' : Hp} {wD RL XD : Addr} {L : List Nat} {rs : List Rule} {es : List Exc} (h : LdAt H wD RL XD L rs es) (s : Same H H') : LdAt H' wD RL XD L rs es :=
  ⟨s _ _ h.d, h.r.stp (.of s) (fun l q => s _ _ q), s _ _ h.x⟩
section
variable {P : Program} {w : World} {K : PySem.W.Frag} {mg : Str → Option Value} {base : Heap}
abbrev sLDk : Stmt := topS 75
abbrev nLDk : List Str := ["_law_row_here", "_law_letters_here", "_law_rules_here", "_law_book"]
theorem scLDk : FnScope nLDk ["_law_row_here", "_law_letters_here"] (defScope sLDk) := ⟨rfl, rfl, rfl, by decide +kernel, rfl, by decide +kernel, by decide +kernel⟩
def spLDk (K : PySem.W.Frag) : Sp := fun vs H Q _ => ∃ (r a : Addr) (ns : List Int) (L : List Nat), vs = [.ref r, .str (T L)] ∧ RowAt K H r a ns ∧ LetOk L ∧
  ∀ (p b wD RL XD : Addr) (rs : List Rule) (es : List Exc) (H' : Hp), BookOk L rs es → (∀ e ∈ es, e.1.length ≤ 4) → H' p = some (.tup [.ref b, .ref wD]) → BookAt H' b L rs es → LdAt H' wD RL XD L rs es → H wD = none → H RL = none → H XD = none → Stp r H H' → RowAt K H' r a ns → Q (.ref p) H'
theorem ok_LDk {f : Addr} {fd : FuncData} (F : Fun K "_law_desk" "_law_desk" sLDk f fd) (B : Bn mg) (hdict : mg "dict" = none) (DT : Df P w K mg base "_law_taken" ["_law_row_here", "_law_many"] 1 (spTaken K))
    (DRu : Df P w K mg base "_law_rules" ["_law_row_here", "_law_letters_here", "_law_most"] 4 (spRules K)) (DLE : Df P w K mg base "_law_exceptions" ["_law_row_here", "_law_letters_here", "_law_most"] 3 (spLE4 K)) :
    FnOk P w K mg base CX0 5 f fd ["_law_row_here", "_law_letters_here"] (spLDk K) := by
  obtain ⟨fT, fdT, GT, kT, bT, mT⟩ := DT
  obtain ⟨fRu, fdRu, GRu, kRu, bRu, mRu⟩ := DRu
  obtain ⟨fLE, fdLE, GLE, kLE, bLE, mLE⟩ := DLE
  refine F.ok scLDk (fun vs H Q E h => ?_) (fun cdv A outer s H vs Q E hr h => ?_)
  · obtain ⟨r, a, ns, L, rfl, _⟩ := h
    rfl
  · obtain ⟨r, a, ns, L, rfl, R, oL, q⟩ := h
    have hr1 : Room 1 _ := hr.mono (by decide)
    have hr3 : Room 3 _ := hr.mono (by decide)
    have hr4 : Room 4 _ := hr
    have l2 := oL.l2
    have l4 := oL.l4
    refine ⟨_, pss_cons (ps_set (i := 2) scLDk.nd rfl (.inl rfl) (pe_call GRu hr4 (by rfl) mRu kRu bRu .nil pass0 (pa_cons (pv 0) (pa_cons (pv 1) (pa_cons (pe_ix ix_list (pe_lst (pa_cons pe_int (pa_cons pe_int pa_nil))) (pe_call GT hr1 (by rfl) mT kT bT .nil pass0 (pa_cons (pv 0) (pa_cons pe_int pa_nil))) (fun _ _ => rfl)) pa_nil)))))
      (pss_cons (ps_set (i := 3) scLDk.nd rfl (.inl rfl) (pe_tup (pa_cons (pv 1) (pa_cons (pv 2) (pa_cons (pe_slice sl_tupQ (pe_call GLE hr3 (by rfl) mLE kLE bLE .nil pass0 (pa_cons (pv 0) (pa_cons (pv 1) (pa_cons (pe_ix ix_list (pe_lst (pa_cons pe_int (pa_cons pe_int pa_nil))) (pe_call GT hr1 (by rfl) mT kT bT .nil pass0 (pa_cons (pv 0) (pa_cons pe_int pa_nil))) (fun _ _ => rfl)) pa_nil)))) po_none (po_some pe_int)) pa_nil)))))
      (pss_one (ps_ret (pe_tup (pa_cons (pv 3) (pa_cons (pe_disp (pps_cons pe_str (pv 1) (pps_cons pe_str (pe_callTy call_list_of (by rfl) B.lst (by decide +kernel) (pa_cons (pe_ix ix_tup (pv 3) pe_int (fun _ _ => rfl)) pa_nil)) (pps_cons pe_str (pe_callTy (call_dictT rfl) (by rfl) hdict (by decide +kernel) (pa_cons (pe_ix ix_tup (pv 3) pe_int (fun _ _ => rfl)) pa_nil)) pps_nil))) (by rfl) (by rfl) (fun z => by cases z) (by decide)) pa_nil)))))), ?_⟩
    -- rules
    refine ⟨_, rfl, _, rfl, (by show 2 ≤ sizeLine; decide), fun p1 hp1 => ?_⟩
    have sm1 := same_new hp1 (.lst [V.int 4, .int 8])
    refine ⟨_, rfl, r, a, ns, 2, rfl, R.stp sm1, by decide, by decide, fun k1 H1 h0 h1 s1 R1 => ?_⟩
    have hL1 : SqL K H1 p1 [V.int 4, .int 8] := .inl (.inl (s1 _ _ upd_same (R.nw hp1).symm))
    have hk1 : k1 = 0 ∨ k1 = 1 := by omega
    rcases hk1 with e1 | e1
    case' inl => refine ⟨p1, _, k1, V.int 4, rfl, rfl, hL1, at_of (j := 0) e1 rfl, r, a, ns, L, 4, rfl, R1, by omega, by omega, by decide, ?_⟩
    case' inr => refine ⟨p1, _, k1, V.int 8, rfl, rfl, hL1, at_of (j := 1) e1 rfl, r, a, ns, L, 8, rfl, R1, by omega, by omega, by decide, ?_⟩
    all_goals
      intro rs Ra H2 hrs hlen hRa s2 R2
      have r12 : rs.length ≤ 12 := by omega
      clear hlen
      have s02 : Stp r H H2 := (Stp.of sm1).trans (s1.trans s2)
      -- exceptions
      refine ⟨_, rfl, _, rfl, _, rfl, _, rfl, (by show 2 ≤ sizeLine; decide), fun p2 hp2 => ?_⟩
      have sm2 := same_new hp2 (.lst [V.int 3, .int 12])
      refine ⟨_, rfl, r, a, ns, 2, rfl, R2.stp sm2, by decide, by decide, fun k2 H3 h2 h3 s3 R3 => ?_⟩
      have hL2 : SqL K H3 p2 [V.int 3, .int 12] := .inl (.inl (s3 _ _ upd_same (R2.nw hp2).symm))
      have hk2 : k2 = 0 ∨ k2 = 1 := by omega
      rcases hk2 with e2 | e2
      case' inl => refine ⟨p2, _, k2, V.int 3, rfl, rfl, hL2, at_of (j := 0) e2 rfl, r, a, ns, L, 3, rfl, R3, oL, by decide, ?_⟩
      case' inr => refine ⟨p2, _, k2, V.int 12, rfl, rfl, hL2, at_of (j := 1) e2 rfl, r, a, ns, L, 12, rfl, R3, oL, by decide, ?_⟩
      all_goals
        intro es0 X0 H4 hes0 hel0 up0 hX0 s4 R4
        clear hel0
        obtain ⟨tx0, hX0, pX0⟩ := hX0
        refine ⟨8, rfl, X0, _, rfl, hX0, fun Xa H5 s5 hXa => ?_⟩
        have hXA := excs_take 8 pX0 s5 hXa
        have R5 := R4.stp s5
        have hup : (es0.take 8).Pairwise fun e f => e.1 < f.1 := up0.sublist (List.take_sublist 8 es0)
        have ho : BookOk L rs (es0.take 8) := ⟨oL, hrs, r12, fun e h => (hes0 e (List.mem_of_mem_take h)).1, List.length_take_le 8 es0, hup⟩
        have hes4 : ∀ e ∈ es0.take 8, e.1.length ≤ 4 := fun e h => (hes0 e (List.mem_of_mem_take h)).2
        generalize es0.take 8 = es at hXA hup ho hes4
        have s05 : Stp r H H5 := s02.trans ((Stp.of sm2).trans (s3.trans (s4.trans (.of s5))))
        have hRa5 := hRa.kt ((R2.kt ((Stp.of sm2).trans (s3.trans (s4.trans (.of s5))))))
        refine ⟨(by show 3 ≤ sizeLine; decide), fun b hb => ?_⟩
        have sb := same_new hb (.tup [.str (T L), .ref Ra, .ref Xa])
        have HB : BookAt (upd H5 b (.tup [.str (T L), .ref Ra, .ref Xa])) b L rs es := ⟨Ra, Xa, upd_same, hRa5.kt (.of sb), hXA.kt (.of sb)⟩
        have hb6 : (upd H5 b (.tup [.str (T L), .ref Ra, .ref Xa])) b = some (.tup [.str (T L), .ref Ra, .ref Xa]) := upd_same
        have R6 := R5.stp sb
        have s06 : Stp r H (upd H5 b (.tup [.str (T L), .ref Ra, .ref Xa])) := s05.trans (.of sb)
        generalize upd H5 b (.tup [.str (T L), .ref Ra, .ref Xa]) = H6 at HB R6 s06 hb6 ⊢
        -- the desk
        refine ⟨_, rfl, fun wD hwD => ?_⟩
        have sw := same_new hwD (.dK [])
        have hw7 : (upd H6 wD (.dK [])) wD = some (.dK []) := upd_same
        have HB7 := HB.kt (.of sw)
        have R7 := R6.stp sw
        have hb7 := sw _ _ hb6
        have s07 := s06.trans (.of sw)
        generalize upd H6 wD (.dK []) = H7 at sw hw7 HB7 R7 hb7 s07 ⊢
        obtain ⟨Ra', Xa', hb7', ⟨tsR, hR7, pR7⟩, ⟨tsX, hX7, pX7⟩⟩ := id HB7
        have eb := hb7.symm.trans hb7'
        have eb := HO.tup.inj (Option.some.inj eb)
        have eR : Ra = Ra' := V.ref.inj (List.cons.inj (List.cons.inj eb).2).1
        have eX : Xa = Xa' := V.ref.inj (List.cons.inj (List.cons.inj (List.cons.inj eb).2).2).1
        subst eR
        subst eX
        have nwD : H wD = none := by
          cases hh : H wD with
          | none => rfl
          | some o =>
            have := s06 wD o hh (fun z => by
              obtain ⟨i, c, m, hq, _⟩ := R6.in
              rw [← z, hwD] at hq; cases hq)
            rw [hwD] at this; cases this
        refine ⟨_, rfl, _, rfl, b, _, 1, .ref Ra, rfl, rfl, .inl (.inl hb7), atI_nat (j := 1) rfl, Ra, _, rfl, .inr (.inl (.inl hR7)), fun RL hRL => ?_⟩
        have sr := same_new hRL (.lst (tsR.map V.ref))
        have hRL8 : (upd H7 RL (.lst (tsR.map V.ref))) RL = some (.lst (tsR.map V.ref)) := upd_same
        have nRL : H RL = none := by
          cases hh : H RL with
          | none => rfl
          | some o =>
            have := s07 RL o hh (fun z => by
              obtain ⟨i, c, m, hq, _⟩ := R7.in
              rw [← z, hRL] at hq; cases hq)
            rw [hRL] at this; cases this
        have nRw : RL ≠ wD := fun z => by rw [z, hw7] at hRL; cases hRL
        have HB8 := HB7.kt (.of sr)
        have R8 := R7.stp sr
        have hb8 := sr _ _ hb7
        have hw8 := sr _ _ hw7
        have pR8 : Paired (fun t ρ => (upd H7 RL (.lst (tsR.map V.ref))) t = some (.tup (Rule.vs ρ))) tsR rs := paired_mono (fun t ρ q => sr _ _ q) pR7
        have hX8 := hX7.kt (.of sr)
        have pX8 : Paired (fun t (e : Exc) => (upd H7 RL (.lst (tsR.map V.ref))) t = some (.tup [.str (T e.1), .str (T e.2)])) tsX es := paired_mono (fun t ρ q => sr _ _ q) pX7
        have s08 := s07.trans (.of sr)
        generalize upd H7 RL (.lst (tsR.map V.ref)) = H8 at hRL8 HB8 R8 hb8 hw8 pR8 hX8 pX8 s08 sr ⊢
        refine ⟨_, rfl, b, _, 2, .ref Xa, rfl, rfl, .inl (.inl hb8), atI_nat (j := 2) rfl, Xa, tsX, es.map ent, rfl, hX8, paired_entD pX8, fun XD hXD => ?_⟩
        rw [merge_exc hup]
        have sx := same_new hXD (.dK (es.map ent))
        have hXD9 : (upd H8 XD (.dK (es.map ent))) XD = some (.dK (es.map ent)) := upd_same
        have nXD : H XD = none := by
          cases hh : H XD with
          | none => rfl
          | some o =>
            have := s08 XD o hh (fun z => by
              obtain ⟨i, c, m, hq, _⟩ := R8.in
              rw [← z, hXD] at hq; cases hq)
            rw [hXD] at this; cases this
        have nXw : XD ≠ wD := fun z => by rw [z, hw8] at hXD; cases hXD
        have HB9 := HB8.kt (.of sx)
        have R9 := R8.stp sx
        have hw9 := sx _ _ hw8
        have hRL9 := sx _ _ hRL8
        have pR9 : Paired (fun t ρ => (upd H8 XD (.dK (es.map ent))) t = some (.tup (Rule.vs ρ))) tsR rs := paired_mono (fun t ρ q => sx _ _ q) pR8
        have s09 := s08.trans (.of sx)
        generalize upd H8 XD (.dK (es.map ent)) = H9 at hXD9 HB9 R9 hw9 hRL9 pR9 s09 ⊢
        refine ⟨hw9, [(Sum.inr "letters", .str (T L)), (Sum.inr "rules", .ref RL), (Sum.inr "excepted", .ref XD)], rfl, (by show 3 ≤ 15; decide), ?_⟩
        rw [merge_ld]
        have R10 := R9.dput hw9 (.dK [((Sum.inr "letters" : Key), .str (T L)), (Sum.inr "rules", .ref RL), (Sum.inr "excepted", .ref XD)])
        have nrw : r ≠ wD := R9.neD hw9
        have k10 : KT H9 (upd H9 wD (.dK [((Sum.inr "letters" : Key), .str (T L)), (Sum.inr "rules", .ref RL), (Sum.inr "excepted", .ref XD)])) := kt_dk hw9
        have LD : LdAt (upd H9 wD (.dK [((Sum.inr "letters" : Key), .str (T L)), (Sum.inr "rules", .ref RL), (Sum.inr "excepted", .ref XD)])) wD RL XD L rs es := ⟨upd_same, ⟨tsR, by rw [upd_ne nRw]; exact hRL9, paired_mono (fun t ρ q => k10.1 _ _ q) pR9⟩, by rw [upd_ne nXw]; exact hXD9⟩
        have HB10 := HB9.kt k10
        have s10 : Stp r H (upd H9 wD (.dK [((Sum.inr "letters" : Key), .str (T L)), (Sum.inr "rules", .ref RL), (Sum.inr "excepted", .ref XD)])) := s09.put nwD _
        generalize upd H9 wD (.dK [((Sum.inr "letters" : Key), .str (T L)), (Sum.inr "rules", .ref RL), (Sum.inr "excepted", .ref XD)]) = H10 at R10 LD HB10 s10 ⊢
        refine ⟨(by show 2 ≤ sizeLine; decide), fun p hp => ?_⟩
        have sp := same_new hp (.tup [.ref b, .ref wD])
        exact q p b wD RL XD rs es _ ho hes4 upd_same (HB10.kt (.of sp)) (LD.same sp) nwD nRL nXD (s10.trans (.of sp)) (R10.stp sp)
end
end Say
namespace Say
open PySem PySem.Spec PyProof.Rows L2
/-- a deed of a desk -/
inductive Deed where
  | put (p : Nat) (ρ : Rule)
  | drop (p : Nat)
  | move (p q : Nat)
  | learn (w s : List Nat)
  | learnN (w : List Nat)
  | forget (w : List Nat)
def DeedAt (H : Hp) (t : Addr) : Deed → Prop
  | .put p ρ => ∃ a, H t = some (.tup [.str "put", .int p, .ref a]) ∧ H a = some (.tup ρ.vs)
  | .drop p => H t = some (.tup [.str "drop", .int p])
  | .move p q => H t = some (.tup [.str "move", .int p, .int q])
  | .learn w s => H t = some (.tup [.str "learn", .str (T w), .str (T s)])
  | .learnN w => H t = some (.tup [.str "learn", .str (T w), .non])
  | .forget w => H t = some (.tup [.str "forget", .str (T w)])
theorem DeedAt.kt {H H' : Hp} {t : Addr} {d : Deed} (h : DeedAt H t d) (k : KT H H') : DeedAt H' t d := by
  cases d with
  | put p ρ =>
    obtain ⟨a, h1, h2⟩ := h
    exact ⟨a, k.1 _ _ h1, k.1 _ _ h2⟩
  | drop p => exact k.1 _ _ h
  | move p q => exact k.1 _ _ h
  | learn w s => exact k.1 _ _ h
  | learnN w => exact k.1 _ _ h
  | forget w => exact k.1 _ _ h
structure WordOk (L w : List Nat) : Prop where
  c : ∀ c ∈ w, c ∈ L
  l1 : 1 ≤ w.length
  l8 : w.length ≤ 8
def DeedOk (L : List Nat) (n : Nat) : Deed → Prop
  | .put p ρ => p ≤ n + 1 ∧ RuleOk L ρ
  | .drop p => p ≤ n + 1
  | .move p q => p ≤ n + 1 ∧ q ≤ n
  | .learn w s => WordOk L w ∧ (∀ c ∈ s, 65 ≤ c ∧ c ≤ 90) ∧ s.length ≤ 3
  | .learnN w => WordOk L w
  | .forget w => WordOk L w
theorem isD_of {z : Str} {r : List V} (n : Nat) (h : decide (tabV dkTab z = .int (n + 1 : Nat)) = true) (hl : r.length = n) : isDeedM (.str z :: r) = true := by
  show decide (tabV dkTab z = .int (r.length + 1 : Nat)) = true
  rw [hl]
  exact h
theorem DeedAt.dv {K : PySem.W.Frag} {H : Hp} {t : Addr} {d : Deed} (h : DeedAt H t d) : DV K H (.ref t) true := by
  have hh : ∀ (z : Str) (r : List V), HeadOk (.str z :: r) := fun z r y r' e => .inl ⟨z, (List.cons.inj e).1.symm⟩
  cases d with
  | put p ρ =>
    obtain ⟨a, h1, h2⟩ := h
    exact .inl ⟨t, _, rfl, .inl (.inl h1), hh _ _, isD_of 2 (by decide +kernel) rfl⟩
  | drop p => exact .inl ⟨t, _, rfl, .inl (.inl h), hh _ _, isD_of 1 (by decide +kernel) rfl⟩
  | move p q => exact .inl ⟨t, _, rfl, .inl (.inl h), hh _ _, isD_of 2 (by decide +kernel) rfl⟩
  | learn w s => exact .inl ⟨t, _, rfl, .inl (.inl h), hh _ _, isD_of 2 (by decide +kernel) rfl⟩
  | learnN w => exact .inl ⟨t, _, rfl, .inl (.inl h), hh _ _, isD_of 2 (by decide +kernel) rfl⟩
  | forget w => exact .inl ⟨t, _, rfl, .inl (.inl h), hh _ _, isD_of 1 (by decide +kernel) rfl⟩
section
variable {P : Program} {w : World} {K : PySem.W.Frag} {mg : Str → Option Value} {base : Heap}
abbrev sLDd : Stmt := topS 76
abbrev nLDd : List Str := ["_law_row_here", "_law_letters_here", "_law_many", "_law_words", "_law_way", "_law_place", "_law_word_here"]
theorem scLDd : FnScope nLDd ["_law_row_here", "_law_letters_here", "_law_many", "_law_words"] (defScope sLDd) := ⟨rfl, rfl, rfl, by decide +kernel, rfl, by decide +kernel, by decide +kernel⟩
def spLDd (K : PySem.W.Frag) : Sp := fun vs H Q _ => ∃ (r a : Addr) (ns : List Int) (L : List Nat) (n : Nat) (W : Addr) (ws : List (List Nat)), vs = [.ref r, .str (T L), .int n, .ref W] ∧ RowAt K H r a ns ∧ LetOk L ∧ n ≤ 12 ∧ H W = some (.lst (strV ws)) ∧ r ≠ W ∧ (∀ w ∈ ws, WordOk L w) ∧ ws.length ≤ 8 ∧
  ∀ (t : Addr) (d : Deed) (H' : Hp), DeedAt H' t d → DeedOk L n d → Stp r H H' → RowAt K H' r a ns → Q (.ref t) H'
theorem ok_LDd {f : Addr} {fd : FuncData} (F : Fun K "_law_deed" "_law_deed" sLDd f fd) (B : Bn mg) (DT : Df P w K mg base "_law_taken" ["_law_row_here", "_law_many"] 1 (spTaken K))
    (DRl : Df P w K mg base "_law_rule" ["_law_row_here", "_law_letters_here"] 3 (spRule K)) (DX : Df P w K mg base "_law_text" ["_law_row_here", "_law_signs", "_law_fewest", "_law_many"] 2 (spText K)) :
    FnOk P w K mg base CX0 4 f fd ["_law_row_here", "_law_letters_here", "_law_many", "_law_words"] (spLDd K) := by
  obtain ⟨fT, fdT, GT, kT, bT, mT⟩ := DT
  obtain ⟨fRl, fdRl, GRl, kRl, bRl, mRl⟩ := DRl
  obtain ⟨fX, fdX, GX, kX, bX, mX⟩ := DX
  refine F.ok scLDd (fun vs H Q E h => ?_) (fun cdv A outer s H vs Q E hr h => ?_)
  · obtain ⟨r, a, ns, L, n, W, ws, rfl, _⟩ := h
    rfl
  · obtain ⟨r, a, ns, L, n, W, ws, rfl, R, oL, hn, hW, nrW, hws, h8, q⟩ := h
    have hr1 : Room 1 _ := hr.mono (by decide)
    have hr2 : Room 2 _ := hr.mono (by decide)
    have hr3 : Room 3 _ := hr
    have l2 := oL.l2
    have l4 := oL.l4
    obtain ⟨tR, psR, qR⟩ : ∃ tR : TS, PSs (cxOf CX0 P w K mg base nLDd "_law_deed" (defScope sLDd) f cdv A outer s H E).nox ((defBody sLDd).drop 7) tR ∧ ∀ (k1 : Int) (p : Nat) (wd : List Nat) (H4 : Hp), WordOk L wd → Stp r H H4 → RowAt K H4 r a ns → tR { nx := fun _ H' => Q .non H', rt := Q } [some (.ref r), some (.str (T L)), some (.int n), some (.ref W), some (.int k1), some (.int p), some (.str (T wd))] H4 := by
      refine ⟨_, pss_cons (ps_if (pt_cmpR op_lt (pv 4) pe_int (nomark _)) (pss_one (ps_ret (pe_tup (pa_cons pe_str (pa_cons (pv 6) (pa_cons (pe_call GX hr2 (by rfl) mX kX bX .nil pass0 (pa_cons (pv 0) (pa_cons pe_str (pa_cons pe_int (pa_cons pe_int pa_nil))))) pa_nil)))))) pss_nil)
      (pss_one (ps_ret (pe_ifExp (pt_cmpR op_eq (pv 4) pe_int (nomark _)) (pe_tup (pa_cons pe_str (pa_cons (pv 6) pa_nil))) (pe_tup (pa_cons pe_str (pa_cons (pv 6) (pa_cons pe_non pa_nil))))))), ?_⟩
      intro k1 p wd H4 hw s4 R4
      refine ⟨_, rfl, _, _, rfl, rfl, _, rfl, ite2 (fun _ => ?_) (fun _ => ?_)⟩
      · refine ⟨_, rfl, _, rfl, r, a, ns, [65, 66], 0, 3, by rw [AB_eq]; rfl, R4, by decide, by decide, by decide, by decide, fun so H5 o1 o2 o3 s5 R5 => ?_⟩
        refine ⟨(by show 3 ≤ sizeLine; decide), fun t ht => ?_⟩
        have st := same_new ht (.tup [.str "learn", .str (T wd), .str (T so)])
        exact q t (.learn wd so) _ upd_same ⟨hw, AB_ok o1, o3⟩ (s4.trans (s5.trans (.of st))) (R5.stp st)
      refine ⟨_, rfl, rfl, _, rfl, ite2 (fun _ => ?_) (fun _ => ?_)⟩
      · refine ⟨_, rfl, (by show 2 ≤ sizeLine; decide), fun t ht => ?_⟩
        have st := same_new ht (.tup [.str "forget", .str (T wd)])
        exact q t (.forget wd) _ upd_same hw (s4.trans (.of st)) (R4.stp st)
      · refine ⟨_, rfl, (by show 3 ≤ sizeLine; decide), fun t ht => ?_⟩
        have st := same_new ht (.tup [.str "learn", .str (T wd), .non])
        exact q t (.learnN wd) _ upd_same hw (s4.trans (.of st)) (R4.stp st)
    refine ⟨_, pss_cons (ps_set (i := 4) scLDd.nd rfl (.inl rfl) (pe_call GT hr1 (by rfl) mT kT bT .nil pass0 (pa_cons (pv 0) (pa_cons pe_int pa_nil))))
      (pss_cons (ps_set (i := 5) scLDd.nd rfl (.inl rfl) (pe_call GT hr1 (by rfl) mT kT bT .nil pass0 (pa_cons (pv 0) (pa_cons (pe_op op_add (pv 2) pe_int) pa_nil))))
      (pss_cons (ps_if (pt_cmpR op_lt (pv 4) pe_int (nomark _)) (pss_one (ps_ret (pe_tup (pa_cons pe_str (pa_cons (pv 5) (pa_cons (pe_call GRl hr3 (by rfl) mRl kRl bRl .nil pass0 (pa_cons (pv 0) (pa_cons (pv 1) pa_nil))) pa_nil)))))) pss_nil)
      (pss_cons (ps_if (pt_cmpR op_eq (pv 4) pe_int (nomark _)) (pss_one (ps_ret (pe_tup (pa_cons pe_str (pa_cons (pv 5) pa_nil))))) pss_nil)
      (pss_cons (ps_if (pt_cmpR op_eq (pv 4) pe_int (nomark _)) (pss_one (ps_ret (pe_tup (pa_cons pe_str (pa_cons (pv 5) (pa_cons (pe_call GT hr1 (by rfl) mT kT bT .nil pass0 (pa_cons (pv 0) (pa_cons (pe_op op_add (pv 2) pe_int) pa_nil))) pa_nil)))))) pss_nil)
      (pss_cons (ps_set (i := 6) scLDd.nd rfl (.inl rfl) (pe_call GX hr2 (by rfl) mX kX bX .nil pass0 (pa_cons (pv 0) (pa_cons (pv 1) (pa_cons pe_int (pa_cons pe_int pa_nil))))))
      (pss_cons (ps_if (PW.pt (pw_and (pt_cmpR (op_neD hr.units) (pv 3) (pe_lst pa_nil) (nomark _)) (pw_and1 (pt_cmpR op_eq (pe_call GT hr1 (by rfl) mT kT bT .nil pass0 (pa_cons (pv 0) (pa_cons pe_int pa_nil))) pe_int (nomark _))))) (pss_one (ps_set (i := 6) scLDd.nd rfl (.inl rfl) (pe_ix ix_list (pv 3) (pe_call GT hr1 (by rfl) mT kT bT .nil pass0 (pa_cons (pv 0) (pa_cons (pe_callB call_len (by rfl) B.len PySem.boot_len (pa_cons (pv 3) pa_nil)) pa_nil))) (fun _ _ => rfl)))) pss_nil)
      psR)))))), ?_⟩
    refine ⟨_, rfl, r, a, ns, 8, rfl, R, by decide, by decide, fun k1 H1 a1 b1 s1 R1 => ?_⟩
    refine ⟨_, rfl, _, rfl, _, _, rfl, rfl, r, a, ns, _, rfl, R1, by omega, by omega, fun k2 H2 a2 b2 s2 R2 => ?_⟩
    have s02 := s1.trans s2
    obtain ⟨p, rfl⟩ : ∃ p : Nat, k2 = p := ⟨k2.toNat, by omega⟩
    have hp : p ≤ n + 1 := by omega
    refine ⟨_, rfl, _, _, rfl, rfl, _, rfl, ite2 (fun _ => ?_) (fun _ => ?_)⟩
    · refine ⟨_, rfl, _, rfl, _, rfl, r, a, ns, L, rfl, R2, by omega, by omega, fun ρ u H3 o1 h3 s3 R3 => ?_⟩
      refine ⟨(by show 3 ≤ sizeLine; decide), fun t ht => ?_⟩
      have st := same_new ht (.tup [.str "put", .int p, .ref u])
      exact q t (.put p ρ) _ ⟨u, upd_same, st _ _ h3⟩ ⟨hp, o1⟩ (s02.trans (s3.trans (.of st))) (R3.stp st)
    refine ⟨_, rfl, rfl, _, rfl, ite2 (fun _ => ?_) (fun _ => ?_)⟩
    · refine ⟨_, rfl, (by show 2 ≤ sizeLine; decide), fun t ht => ?_⟩
      have st := same_new ht (.tup [.str "drop", .int p])
      exact q t (.drop p) _ upd_same hp (s02.trans (.of st)) (R2.stp st)
    refine ⟨_, rfl, rfl, _, rfl, ite2 (fun _ => ?_) (fun _ => ?_)⟩
    · refine ⟨_, rfl, _, rfl, _, rfl, _, _, rfl, rfl, r, a, ns, _, rfl, R2, by omega, by omega, fun k3 H3 a3 b3 s3 R3 => ?_⟩
      obtain ⟨p2, rfl⟩ : ∃ p : Nat, k3 = p := ⟨k3.toNat, by omega⟩
      refine ⟨(by show 3 ≤ sizeLine; decide), fun t ht => ?_⟩
      have st := same_new ht (.tup [.str "move", .int p, .int p2])
      exact q t (.move p p2) _ upd_same ⟨hp, by omega⟩ (s02.trans (s3.trans (.of st))) (R3.stp st)
    refine ⟨_, rfl, _, rfl, r, a, ns, L, 1, 5, rfl, R2, by omega, by omega, by decide, by decide, fun wd H3 w1 w2 w3 s3 R3 => ?_⟩
    have s03 := s02.trans s3
    have hW3 : H3 W = some (.lst (strV ws)) := s03 _ _ hW (Ne.symm nrW)
    have hw0 : WordOk L wd := ⟨w1, w2, by omega⟩
    have sg : ∀ w ∈ ws, ∀ c ∈ w, c < 1114112 := fun w hm c hc => by have := oL.az c ((hws w hm).c c hc); omega
    refine ⟨_, rfl, (by show 0 ≤ sizeLine; decide), fun e0 he0 => ?_⟩
    have se := same_new he0 (.lst [])
    refine ⟨.list (ws.map fun w => PyData.str (T w)), .list [], .lst (.inl (.inl (se _ _ hW3))) (dp_texts ws), .lst (.inl (.inl upd_same)) .nil, shaped_texts sg, by decide +kernel, ?_⟩
    refine ⟨_, rfl, ?_⟩
    rw [eqv_nilT]
    cases ws with
    | nil => exact iteF (qR k1 p wd _ hw0 (s03.trans (.of se)) (R3.stp se))
    | cons w0 wr =>
      refine iteT ?_
      refine ⟨_, rfl, r, a, ns, 2, rfl, R3.stp se, by decide, by decide, fun k4 H4 a4 b4 s4 R4 => ?_⟩
      refine ⟨rfl, _, rfl, ite2 (fun _ => ?_) (fun _ => ?_)⟩
      · have hW4 := ((Stp.of se).trans s4) _ _ hW3 (Ne.symm nrW)
        refine ⟨_, rfl, _, rfl, _, rfl, _, _, rfl, .inl ⟨_, .inl (.inl hW4), rfl⟩, r, a, ns, _, rfl, R4, ?_, ?_, fun k5 H5 a5 b5 s5 R5 => ?_⟩
        · rw [strV_len, List.length_cons]; omega
        · rw [strV_len]; omega
        rw [strV_len] at b5
        have hj : k5.toNat < (w0 :: wr).length := by omega
        have hW5 := s5 _ _ hW4 (Ne.symm nrW)
        refine ⟨W, _, k5, .str (T ((w0 :: wr)[k5.toNat])), rfl, rfl, .inl (.inl hW5), at_of (j := k5.toNat) (by omega) (strV_at (List.getElem?_eq_getElem hj)), ?_⟩
        exact qR k1 p _ _ (hws _ (List.getElem_mem hj)) (s03.trans ((Stp.of se).trans (s4.trans s5))) R5
      · exact qR k1 p wd _ hw0 (s03.trans ((Stp.of se).trans s4)) R4
end
end Say
namespace L2
open PySem PySem.Spec PyProof.Rows
section
variable {X : Cx}
/-- o.f as one of several targets -/
def gAttr (K : PySem.W.Frag) (f : Str) (to : TE) : TG := fun v σ H Q => to σ H fun x H1 => ∃ a C dx fs, x = .ref a ∧ H1 a = some (.ins C dx fs) ∧ Cls K C ∧ NoAttr K C f ∧ fs.length < 1000 ∧ Q σ (upd H1 a (.ins C dx (putF f v fs)))
theorem pg_attr {o : Expr} {to : TE} {f : Str} {pos : Pos} (ho : PE X o to) : PG X (.Attribute o f pos) (gAttr X.K f to) := by
  refine ⟨fun pins s σ H v u Q I r h => ?_⟩
  rw [show assign (.Attribute o f pos) X.env u = (do
    let ov ← holding [u] (eval o X.env)
    standAt pos.atName
    holding [u, ov] (setAttr ov f u)
    release [u, ov] []) from assign_Attribute ..]
  refine wpAny_bind (wpAny_holding (thn (ho.run pins s σ H _ I h) fun ov s1 ⟨x, H1, I1, r1, a, C, dx, fs, ex, ea, c, n, l, q⟩ => ?_))
  subst ex
  obtain rfl : ov = Value.ref a := r1
  exact wpAny_bind (wpAny_standAt (wpAny_bind (wpAny_holding (setattr_ok I1 ea c n l r fun s2 I2 => wpAny_release ⟨σ, _, I2, q⟩))))
end
end L2
namespace Say
open PySem PySem.Spec PyProof.Rows L2
abbrev sDk (j : Nat) : Stmt := inClass (topS 59) j
/-- the three fields, as __init__ lays them -/
def fldD (b t : Addr) (i : Bool) : List (Str × V) := [("_book", .ref b), ("_told", .ref t), ("_idle", .bl i)]
theorem d_bk {b t : Addr} {i : Bool} : (fldD b t i).lookup ("_book" : Str) = some (.ref b) := rfl
theorem d_to {b t : Addr} {i : Bool} : (fldD b t i).lookup ("_told" : Str) = some (.ref t) := rfl
theorem d_id {b t : Addr} {i : Bool} : (fldD b t i).lookup ("_idle" : Str) = some (.bl i) := rfl
theorem p_bk {b t b' : Addr} {i : Bool} : putF "_book" (.ref b') (fldD b t i) = fldD b' t i := rfl
theorem p_id {b t : Addr} {i i' : Bool} : putF "_idle" (.bl i') (fldD b t i) = fldD b t i' := rfl
structure DkC (K : PySem.W.Frag) (C : Addr) : Prop where
  cl : Cls K C
  nB : NoAttr K C "_book"
  nT : NoAttr K C "_told"
  nI : NoAttr K C "_idle"
def wordsV (ws : List Str) : List V := ws.map V.str
/-- a desk at y: its book, what it told -/
structure DkAt (C : Addr) (H : Hp) (y b t : Addr) (L : List Nat) (rs : List Rule) (es : List Exc) (ws : List Str) (i : Bool) : Prop where
  ins : ∃ dx, H y = some (.ins C dx (fldD b t i))
  bk : BookAt H b L rs es
  told : H t = some (.lst (wordsV ws))
theorem DkAt.same {C : Addr} {H H' : Hp} {y b t : Addr} {L : List Nat} {rs : List Rule} {es : List Exc} {ws : List Str} {i : Bool} (h : DkAt C H y b t L rs es ws i) (e : Same H H') : DkAt C H' y b t L rs es ws i := by
  obtain ⟨⟨dx, h1⟩, h2, h3⟩ := h
  exact ⟨⟨dx, e _ _ h1⟩, h2.kt (.of e), e _ _ h3⟩
/-- all stays but the desk and what it told -/
def Kd (y t : Addr) (H H' : Hp) : Prop := ∀ b o, H b = some o → b ≠ y → b ≠ t → H' b = some o
theorem Kd.of {y t : Addr} {H H' : Hp} (e : Same H H') : Kd y t H H' := fun b o h _ _ => e b o h
theorem Kd.trans {y t : Addr} {H H1 H2 : Hp} (a : Kd y t H H1) (b : Kd y t H1 H2) : Kd y t H H2 := fun c o h n m => b c o (a c o h n m) n m
theorem Kd.y {y t : Addr} {H : Hp} (o : HO) : Kd y t H (upd H y o) := fun b u q n _ => by rw [upd_ne n]; exact q
theorem Kd.t {y t : Addr} {H : Hp} (o : HO) : Kd y t H (upd H t o) := fun b u q _ n => by rw [upd_ne n]; exact q
theorem Kd.kt {y t C dx : Addr} {fs : List (Str × V)} {l : List V} {H H' : Hp} (e : Kd y t H H') (hy : H y = some (.ins C dx fs)) (hp : H t = some (.lst l)) : KT H H' := KT.by fun a u h hu =>
  e a _ h (ne_of h hy (by rcases hu with ⟨_, rfl⟩ | ⟨_, _, rfl⟩ <;> (intro z; cases z))) (ne_of h hp (by rcases hu with ⟨_, rfl⟩ | ⟨_, _, rfl⟩ <;> (intro z; cases z)))
theorem DkAt.ne {C : Addr} {H : Hp} {y b t : Addr} {L : List Nat} {rs : List Rule} {es : List Exc} {ws : List Str} {i : Bool} (h : DkAt C H y b t L rs es ws i) : y ≠ t := by
  obtain ⟨⟨dx, h1⟩, _, h3⟩ := h
  exact ne_of h1 h3 (by intro z; cases z)
theorem DkAt.kt {C : Addr} {H H' : Hp} {y b t : Addr} {L : List Nat} {rs : List Rule} {es : List Exc} {ws : List Str} {i : Bool} (h : DkAt C H y b t L rs es ws i) (e : Kd y t H H') : KT H H' := by
  obtain ⟨⟨dx, h1⟩, _, h3⟩ := h
  exact e.kt h1 h3
section
variable {P : Program} {w : World} {K : PySem.W.Frag} {mg : Str → Option Value} {base : Heap}
theorem scDIn : FnScope ["self", "book"] ["self", "book"] (defScope (sDk 0)) := ⟨rfl, rfl, rfl, by decide +kernel, rfl, by decide +kernel, by decide +kernel⟩
def spDIn (C : Addr) : Sp := fun vs H Q _ => ∃ (y dx b : Addr) (L : List Nat) (rs : List Rule) (es : List Exc), vs = [.ref y, .ref b] ∧ H y = some (.ins C dx []) ∧ BookAt H b L rs es ∧ BookOk L rs es ∧
  ∀ (t : Addr) (H' : Hp), H t = none → Stp y H H' → DkAt C H' y b t L rs es [] true → Q .non H'
theorem ok_dIn {f C : Addr} {fd : FuncData} (F : Fun K "__init__" "Desk.__init__" (sDk 0) f fd) (S : DkC K C) (DCh : Df P w K mg base "checked_book" ["book"] 5 spCh) : FnOk P w K mg base CX0 6 f fd ["self", "book"] (spDIn C) := by
  obtain ⟨fCh, fdCh, GCh, kCh, bCh, mCh⟩ := DCh
  refine F.ok scDIn (fun vs H Q E h => ?_) (fun cdv A outer s H vs Q E hr h => ?_)
  · obtain ⟨y, dx, b, L, rs, es, rfl, _⟩ := h
    rfl
  · obtain ⟨y, dx, b, L, rs, es, rfl, hy, hB, oB, q⟩ := h
    refine ⟨_, pss_cons (ps_fld (pv 0) (pe_call GCh hr (by rfl) mCh kCh bCh .nil pass0 (pa_cons (pv 1) pa_nil)) rfl)
      (pss_cons (ps_fld (pv 0) (pe_lst pa_nil) rfl)
      (pss_one (ps_fld (pv 0) pe_bl rfl))), ?_⟩
    refine ⟨_, rfl, b, L, rs, es, rfl, hB, oB, fun H1 s1 => ?_⟩
    have hy1 := s1 _ _ hy
    have hB1 := hB.kt (.of s1)
    refine ⟨_, rfl, y, C, dx, _, rfl, hy1, S.cl, S.nB, (by show 0 < 1000; decide), ?_⟩
    refine ⟨(by show 0 ≤ sizeLine; decide), fun t ht => ?_⟩
    have nty : t ≠ y := fun z => by rw [z, upd_same] at ht; cases ht
    have ht1 : H1 t = none := by rw [upd_ne nty] at ht; exact ht
    have ht0 : H t = none := s1.free ht1
    refine ⟨_, rfl, y, C, dx, _, rfl, (by rw [upd_ne nty.symm]; exact upd_same), S.cl, S.nT, (by show 1 < 1000; decide), ?_⟩
    refine ⟨_, rfl, y, C, dx, _, rfl, upd_same, S.cl, S.nI, (by show 2 < 1000; decide), ?_⟩
    have st1 : ∀ c o, H1 c = some o → c ≠ y → (upd (upd (upd (upd H1 y (.ins C dx (putF "_book" (.ref b) []))) t (.lst [])) y (.ins C dx (putF "_told" (.ref t) (putF "_book" (.ref b) [])))) y (.ins C dx (putF "_idle" (.bl true) (putF "_told" (.ref t) (putF "_book" (.ref b) []))))) c = some o := fun c o hc n => by
      rw [upd_ne n, upd_ne n, upd_ne (ne_of_none hc ht1), upd_ne n]
      exact hc
    refine q t _ ht0 (fun c o hc n => st1 c o (s1 _ _ hc) n) ⟨⟨dx, upd_same⟩, hB1.kt (KT.by fun a u h hu => st1 a u h (ne_of h hy1 (by rcases hu with ⟨_, rfl⟩ | ⟨_, _, rfl⟩ <;> (intro z; cases z)))), ?_⟩
    rw [upd_ne nty, upd_ne nty, upd_same]
    rfl
theorem scDBk : FnScope ["self"] ["self"] (defScope (sDk 1)) := ⟨rfl, rfl, rfl, by decide +kernel, rfl, by decide +kernel, by decide +kernel⟩
def spDBk (C : Addr) : Sp := fun vs H Q _ => ∃ (y dx b t : Addr) (i : Bool), vs = [.ref y] ∧ H y = some (.ins C dx (fldD b t i)) ∧ Q (.ref b) H
theorem ok_dBk {f C : Addr} {fd : FuncData} {k : Nat} (F : Fun K "book" "Desk.book" (sDk 1) f fd) (S : DkC K C) : FnOk P w K mg base CX0 (k + 1) f fd ["self"] (spDBk C) := by
  refine F.ok scDBk (fun vs H Q E h => ?_) (fun cdv A outer s H vs Q E hr h => ?_)
  · obtain ⟨y, dx, b, t, i, rfl, _⟩ := h
    rfl
  · obtain ⟨y, dx, b, t, i, rfl, h1, q⟩ := h
    refine ⟨_, pss_one (ps_ret (pe_fld (pv 0) rfl)), ?_⟩
    exact ⟨_, rfl, y, C, dx, _, _, rfl, h1, S.cl, S.nB, d_bk, q⟩
end
/-! ### a method called with keywords -/
def tMethN (C : Addr) (m : Str) (n k : Nat) (sp : Sp) (gV : List V → List V → List V) (E : XK) (ta : TE) (t tk : TA) : TE := fun σ H Q => ta σ H fun x H1 => ∃ a dx fs, x = .ref a ∧ H1 a = some (.ins C dx fs) ∧ fs.lookup m = none ∧
  t σ H1 fun vs H2 => tk σ H2 fun zs H3 => vs.length = n ∧ zs.length = k ∧ sp (gV (.ref a :: vs) zs) H3 Q E
section
variable {X : Cx} {CX : CXT} {k n : Nat} {f C : Addr} {fd : FuncData} {ps ks : List Str} {sp : Sp} {E : XK} {m : Str} {apos pos : Pos} {o e : Expr} {es : List Expr} {kws : List Keyword} {ta : TE} {t tk : TA} {g : List Value → List Value → List Value} {gV : List V → List V → List V}
theorem pe_methN {pl : Sem Bool} (he : PE X o ta) (c : Cls X.K C) (hm : Meth X.K C m f) (F : FnOk X.prog X.w X.K X.mg X.base CX k f fd ps sp) (hr : Room k X.A) (hb : KBn X.K fd ps (n + 1) ks g gV) (hx : Passes CX X E)
    (ha : PA X (e :: es) t) (hkw : PK X kws tk) (hall : (backToKw pos (keywordEach kws X.env)).all (·.1.isSome) = true := by rfl) (hks : (backToKw pos (keywordEach kws X.env)).filterMap (·.1) = ks := by rfl)
    (hst : starEach (e :: es) X.env = (false, eval e X.env) :: starEach es X.env := by rfl)
    (hpl : ((backTo pos (starEach (e :: es) X.env)).any (·.1) || (backToKw pos (keywordEach kws X.env)).any (·.1.isNone)) = false := by rfl)
    (ht : eval (.Call (.Attribute o m apos) (e :: es) kws pos) X.env = (do
      let ov ← eval o X.env
      standAt apos.atName
      let (f, first) ← holding [ov] (getMethod ov m pl)
      callWith pos f first (backTo pos (starEach (e :: es) X.env)) (backToKw pos (keywordEach kws X.env))) := by rfl) :
    PE X (.Call (.Attribute o m apos) (e :: es) kws pos) (tMethN C m n ks.length sp gV E ta t tk) := by
  refine ⟨fun pins s σ H Q I h => ?_⟩
  refine PySem.W.methodCall_KW (pl := pl) (thn (he.run pins s σ H _ I h) fun u s1 ⟨x, H1, I1, rx, a, dx, fs, ex, ea, l, q⟩ => ?_) ht
  subst ex
  obtain rfl : u = Value.ref a := rx
  refine getmeth_ok I1 ea c hm l ?_
  refine PySem.W.callWith_KW (first := [.ref a]) (h₀ := X.base) I.ok.mod.kin hm.kp hall (thn (ha.run pos pins s1 σ H1 _ I1 q) fun us s2 ⟨vs, H2, I2, r, q2⟩ => ?_) hpl hst
  refine thn (hkw.run pos pins s2 σ H2 _ I2 q2) fun ws s3 ⟨zs, H3, I3, rz, l1, l2, q3⟩ => ⟨I3.kIn, ?_⟩
  rw [hks]
  exact run_fnN (us := .ref a :: us) (vs := .ref a :: vs) F hr hb hx I3 (.cons rfl r) rz (by rw [List.length_cons, l1]) l2 q3
end
end Say
namespace PySem
namespace XBadBook
open PySem.W PySem.Calls PyProof.Rows PySem.HandSPX
/-! ### the text of BadBook.__init__ -/
abbrev sEx : Stmt := L2.inClass (Say.topS 2) 0
abbrev iA : Arguments := L2.defArgs sEx
abbrev iB : List Stmt := L2.defBody sEx
abbrev iS : Scope := L2.defScope sEx
def eF : Expr := match iB with
  | .Expr (.Call _ (e :: _) _ _) _ :: _ => e
  | _ => .Constant .none 0 ⟨0, 0, 0, 0⟩
theorem eF_eq : ∃ c1 c2 d2 c3 c4 d4 c0, eF = .JoinedStr [.Constant (.str "the book can't be: part ") 0 c1, .FormattedValue (.Name "part" c2) (-1) none d2, .Constant (.str ", number ") 0 c3, .FormattedValue (.Name "number" c4) (-1) none d4] c0 := ⟨_, _, _, _, _, _, _, rfl⟩
theorem slen (x y : Str) : (x ++ y).length = x.length + y.length := by rw [TL.len_tl, TL.tl_append, List.length_append, ← TL.len_tl, ← TL.len_tl]
theorem iS_cell : ∀ y ∈ iS.names, y.2 ≠ .cell := by decide +kernel
/-- what the written part says of BadBook, at C, and of its __init__, at fI -/
structure ExTxt (P : Program) (K : Frag) (mg : Str → Option Value) (C fI : Addr) : Prop where
  gC : mg "BadBook" = some (.ref C)
  sB : mg "super" = none
  cls : ∃ nm q N bs bm sn sub ab col dd k0 k1 k2 k3 k5, K.lookup C = some (excClassObj nm q C N bs bm true sn sub ab col dd k0 k1 k2 k3 k5 "ValueError.__new__") ∧ refsVE bm = true
  sa : findIn K (.ref C) "__setattr__" = some (some (.builtin "object.__setattr__"))
  noP0 : findIn K (.ref C) "part" = some none
  noP1 : findIn K (.ref C) "number" = some none
  iC : findIn K (.ref C) "__init__" = some (some (.ref fI))
  tC : typeIn K (.ref fI) = some (.type "function")
  kC : keepIn K (.ref C) = true
  exC : subIn K (.ref C) (.type "BaseException") = some true
  tyC : typeIn K (.ref C) = some (.type "type")
  sup : ks_superIn K C C "__init__" = some (some (.builtin "ValueError.__init__"))
  subV : subIn K (.ref C) (.type "ValueError") = some true
  any : nsIn K cStatics "thirdparty.any" = some none
  main : (P.main.scope.names.lookup ("super" : Str)).isSome = false
  fn : ∃ (oc : Value) (od : Option Addr) (doc pm : Value) (an : Option Addr) (cda cc : Addr) (ct : Value) (osl : Array (Option Value)),
    K.lookup fI = some ⟨oc, od, .func (ksFn "__init__" "BadBook.__init__" iA iB iS .none .none doc pm an (.ref cda) ct cc), osl⟩ ∧ codeIn K (.ref cda) "BadBook.__init__" = true ∧
    (∃ cl cld csl, K.lookup cc = some ⟨cl, cld, .cell (some (.ref C)), csl⟩) ∧ ∃ ccl cdd vs ccs file tf, K.lookup cda = some ⟨ccl, cdd, .fields vs, ccs⟩ ∧ vs[2]? = some (.str file tf) ∧ ((P.main.file : Str) == file) = true
/-- what __init__ leaves of a fresh exception at x -/
structure InitEnd (h h' : Heap) (x C dx : Addr) (v0 v1 : Value) : Prop where
  keep : ∀ b o, b ≠ x → h.get? b = some o → h'.get? b = some o
  obj : ∃ t1 : Addr, h'.get? x = some { cls := .ref C, dict := some dx, data := .fields #[.ref t1, .none, .none, .none, .bool false, .none] }
  dbig : h.objs.size ≤ dx
  dne : dx ≠ x
  ns : h'.Ns1 dx (fun y => if y = "number" then some v1 else if y = "part" then some v0 else none)
section
variable {prog : Program} {w : World} {A : Around} {E : Value → Shared → Prop} {R : Result → Shared → Prop} {s : Shared} {K : Frag} {mg : Str → Option Value} {C fI : Addr} {base : Heap}
theorem ld {M : Model} {s : Shared} {env : Env} {m : Str → Option Value} {x : Str} {pos : Pos} {v : Value} {Q : Value → Shared → Prop} {A : Around} {E : Value → Shared → Prop} (hn : s.heap.Ns env.locals m) (hv : m x = some v) (h : Q v s)
    (hk : env.scope.kind = .function) (hl : env.kindOf x = some .local) (hd : (x == ("__debug__" : Str)) = false := by decide) :
    wpAny M A (eval (.Name x pos) env) Q E s := wpAny_Name (wpAny_loadName_local hk hl hn hv h) hd
theorem ex_init (T : ExTxt prog K mg C fI) {x t0 : Addr} {i : Int} {ti : Tok} {j : Int} {tj : Tok} (B : L2.Mod K mg base) (kb : ∀ b o, base.get? b = some o → s.heap.get? b = some o) (hx : s.heap.get? x = some (excO C t0)) (hnx : base.get? x = none) (hi : i.natAbs.log2 < 1920) (hi2 : (toString i : Str).length ≤ 1000) (hj : j.natAbs.log2 < 1920) (hj2 : (toString j : Str).length ≤ 1000) (hroom : A.depth < recursionLimit)
    (hq : ∀ h' tk dx, InitEnd s.heap h' x C dx (.int i ti) (.int j tj) → R (.ok (.ret .none)) { s with heap := h', toks := tk }) :
    codeAny (model prog w) A (.call (.ref fI) ⟨[.ref x, .int i ti, .int j tj], []⟩) R s := by
  obtain ⟨oc, od, doc, pm, an, cda, cc, ct, osl, ho, hcd, ⟨cl, cld, csl, hcell⟩, ccl, cdd, vs, ccs, file, tf, hcode, hvs, hfile⟩ := T.fn
  obtain ⟨nm, q, N, bs, bm, sn, sub, ab, col, dd, k0, k1', k2, k3, k5, hC, hbm⟩ := T.cls
  obtain ⟨hp, g, dr, tk0, os⟩ := s
  have hcl : clsIn K C = some { name := nm, bases := bs, mro := .ref C :: bm, ns := N, qualname := q, hasDict := true, slotNames := sn, subclasses := sub, abstract := ab, collection := col, hasDel := false } := by unfold clsIn; rw [hC] <;> rfl
  have X : K.In hp := B.kin.keeps kb
  have nl : hp.NoLimit := B.nolimit.keeps kb
  refine ks_codeAny_call_defAt (fd := ksFn "__init__" "BadBook.__init__" iA iB iS .none .none doc pm an (.ref cda) ct cc) (body := iB) (binds := [("self", .ref x), ("part", .int i ti), ("number", .int j tj)])
    hroom (X _ _ ho) rfl nl (codeRec_of X hcd) rfl (BindsTo.of_eq (by first | rfl | with_unfolding_all rfl)) iS_cell (fun y hy => ?_) (fun h₀ hns k => ?_)
  · have e : y = (PySem.Str.ofString "self", Value.ref x) ∨ y = (PySem.Str.ofString "part", Value.int i ti) ∨ y = (PySem.Str.ofString "number", Value.int j tj) := by simpa using hy
    rcases e with rfl | rfl | rfl
    · exact (by decide +kernel : iS.names.lookup (PySem.Str.ofString "self") = some .local)
    · exact (by decide +kernel : iS.names.lookup (PySem.Str.ofString "part") = some .local)
    · exact (by decide +kernel : iS.names.lookup (PySem.Str.ofString "number") = some .local)
  generalize hL : (Shared.heap ⟨hp, g, dr, tk0, os⟩).objs.size = L at hns ⊢
  have henv : callEnv (ksFn "__init__" "BadBook.__init__" iA iB iS .none .none doc pm an (.ref cda) ct cc) L fI = ksEnv "BadBook.__init__" iS L fI (.ref cda) cc := rfl
  rw [henv]
  have X0 : K.In h₀ := X.keeps k
  have hx0 := k _ _ hx
  have kb0 : ∀ b o, base.get? b = some o → h₀.get? b = some o := fun b o e => k b o (kb b o e)
  obtain ⟨oC, hC0, hC1⟩ : ∃ oC, h₀.get? C = some oC ∧ oC.data = .cls { name := nm, bases := bs, mro := .ref C :: bm, ns := N, qualname := q, hasDict := true, slotNames := sn, subclasses := sub, abstract := ab, collection := col, hasDel := false } := ⟨_, X0 _ _ hC, rfl⟩
  have I0 : InstAt h₀ x (excO C t0) C none := ⟨hx0, rfl, rfl, trivial⟩
  obtain ⟨mb, hb1, hb2⟩ := B.blt
  have hxC : x ≠ C := fun z => by
    rw [z, hC0] at hx0
    cases hx0
    cases hC1
  have hsub : mroIn K C (.ref C) = some true := by
    unfold mroIn
    rw [hcl]
    simp
  have nS : iS.names.lookup (PySem.Str.ofString "super") = some .globalImplicit := by decide +kernel
  have nC : iS.names.lookup (PySem.Str.ofString "__class__") = some .free := by decide +kernel
  have nx : iS.names.lookup (PySem.Str.ofString "self") = some .local := by decide +kernel
  have np0 : iS.names.lookup (PySem.Str.ofString "part") = some .local := by decide +kernel
  have np1 : iS.names.lookup (PySem.Str.ofString "number") = some .local := by decide +kernel
  have hLx : L ≠ x := by
    rw [← hL]
    exact Nat.ne_of_gt (Heap.lt_size hx)
  refine ks_wpAt_execs_cons (ks_wpAt_Expr_any (ks_wpAt_MethodCall (ks_wpAt_super_base nS nC (by decide +kernel) rfl (X0 _ _ ho) rfl rfl rfl (X0 _ _ hcode) rfl hvs hfile T.main ?_)))
  refine ks_loadName_global rfl nS (loadGlobal_builtin (B.glob.keeps kb0) T.sB (hb1.keeps kb0) ((hb2 _ (by decide +kernel)).trans (by decide +kernel)) ⟨rfl, ?_⟩)
  refine wpAny_loadName_free rfl nC rfl ⟨_, X0 _ _ hcell, rfl⟩ ?_
  refine wpAny_loadName_local rfl nx hns rfl ?_
  refine ks_wpAny_isType_cls hC0 hC1 ⟨rfl, ?_⟩
  refine ks_wpAny_call_super hC0 hC1 hx0 rfl (fun c e => by cases e) (looks_mroIn X0 hsub) (fun h1 e1 k1 => ?_)
  have X1 : K.In h1 := X0.keeps k1
  have hx1 := k1 _ _ hx0
  have I1 : InstAt h1 x (excO C t0) C none := ⟨hx1, rfl, rfl, trivial⟩
  have hf : alongIn K "__init__" (((Value.ref C :: bm).dropWhile (· != .ref C)).drop 1) = some (some (.builtin "ValueError.__init__")) := by
    have := T.sup
    unfold ks_superIn at this
    rw [hcl] at this
    exact this
  refine kxs_getMethod kxs_ValueError e1 (looks_opaque X1 T.any) (l₀ := .ref C :: bm) (fun A Q E s k q => wpAny_bind ((looks_clsIn X1 hcl) A _ E s k (wpAny_pure q))) rfl X1 hf (I1.type.andThen (looks_subIn X1 T.subV)) hxC (by decide +kernel) ?_
  have hu : (h1.push (kxs_mw "ValueError.__init__" x)).get? h1.objs.size = some (kxs_mw "ValueError.__init__" x) := Heap.get?_push_size _ rfl
  have k2' : ∀ b o, h₀.get? b = some o → (h1.push (kxs_mw "ValueError.__init__" x)).get? b = some o := fun b o e => Heap.get?_push_of_some _ (k1 b o e)
  generalize h1.push (kxs_mw "ValueError.__init__" x) = h2 at hu k2' ⊢
  generalize h1.objs.size = u at hu ⊢
  have X2 : K.In h2 := X0.keeps k2'
  have hx2 := k2' _ _ hx0
  have hns2 := hns.keeps k2'
  -- the text that is handed on
  show wpAny _ _ (callWith _ (.ref u) [] _ []) _ _ _
  refine kxs_callWith (i := "ValueError.__init__") (x := x) rfl (evalArgs_plain ?_)
  show wpAny _ _ (spliced ((false, eval eF (ksEnv "BadBook.__init__" iS L fI (.ref cda) cc)) :: [])) _ _ _
  obtain ⟨c1, c2, d2, c3, c4, d4, c0, eFe⟩ := eF_eq
  rw [eFe]
  have z0 : Str.empty.length = 0 := by decide +kernel
  have z1 : (PySem.Str.ofString "the book can't be: part ").length = 24 := by decide +kernel
  have z2 : (PySem.Str.ofString ", number ").length = 9 := by decide +kernel
  refine Calls.spliced_cons (wpAny_JoinedStr ?_)
  refine wpAny_Constant_str ⟨_, _, rfl, (by show ((Str.empty ++ PySem.Str.ofString "the book can't be: part ")).length ≤ sizeLine; simp only [slen, z0, z1, z2, sizeLine_eq]; omega), ?_⟩
  refine wpAny_FormattedValue_plain (ld hns2 rfl ?_ rfl np0)
  refine wpAny_formatField_int hi ⟨_, _, rfl, (by show (((Str.empty ++ PySem.Str.ofString "the book can't be: part ") ++ (toString i : Str))).length ≤ sizeLine; simp only [slen, z0, z1, z2, sizeLine_eq]; omega), ?_⟩
  refine wpAny_Constant_str ⟨_, _, rfl, (by show ((((Str.empty ++ PySem.Str.ofString "the book can't be: part ") ++ (toString i : Str)) ++ PySem.Str.ofString ", number ")).length ≤ sizeLine; simp only [slen, z0, z1, z2, sizeLine_eq]; omega), ?_⟩
  refine wpAny_FormattedValue_plain (ld hns2 rfl ?_ rfl np1)
  refine wpAny_formatField_int hj ⟨_, _, rfl, (by show (((((Str.empty ++ PySem.Str.ofString "the book can't be: part ") ++ (toString i : Str)) ++ PySem.Str.ofString ", number ") ++ (toString j : Str))).length ≤ sizeLine; simp only [slen, z0, z1, z2, sizeLine_eq]; omega), ?_⟩
  refine ⟨(by show (((((Str.empty ++ PySem.Str.ofString "the book can't be: part ") ++ (toString i : Str)) ++ PySem.Str.ofString ", number ") ++ (toString j : Str))).length ≤ sizeLine; simp only [slen, z0, z1, z2, sizeLine_eq]; omega), ?_⟩
  refine Calls.spliced_nil ⟨hu, ?_⟩
  refine wpAny_call (codeAny_of_tree ?_)
  show wpAny _ _ (callAny (.ref u) ⟨_, []⟩) _ _ _
  simp only [callAny]
  refine wpAny_bind (wpAny_load hu ?_)
  simp only [kxs_mw, show (Value.type "method-wrapper" == Value.type "method" || Value.type "method-wrapper" == Value.type "builtin_function_or_method" || Value.type "method-wrapper" == Value.type "method-wrapper") = true by decide, if_true]
  refine KFB.if_so (by decide) ?_
  refine wpAny_bind (check_bound_init F.excBase_ValueError.toExcCallFacts (X2 _ _ hC) hx2 rfl ?_)
  refine wpAny_bind (wpAny_pure (wpAny_pure ?_))
  refine ⟨plainId_quiet F.excBase_ValueError.init.plain _, codeAny_builtin F.excBase_ValueError.initEntry ?_⟩
  refine exc_init_tree (cls := .ref C) (t0 := t0) (dv := none) (c2 := .none) (c3 := .none) (b4 := .bool false) hx2 (by rw [sizeLine_eq]; show 1 ≤ 16777216; decide) fun h3 k3 e3 _ => ?_
  have k3' : ∀ b o, b ≠ x → h₀.get? b = some o → h3.get? b = some o := fun b o hb e => k3 b o hb (k2' b o e)
  have X3 : K.In h3 := fun b o e => k3' b o (fun z => by
    have := B.kin b o e
    rw [z, hnx] at this
    cases this) (X0 b o e)
  have hns3 : h3.Ns L (fun y => (([("self", Value.ref x), ("part", .int i ti), ("number", .int j tj)] : List (Str × Value)).reverse.lookup y)) := hns.at fun o e => k3' L o hLx e
  show wpAt _ _ _ (execs (_ :: _ :: []) _) _ _ _
  refine ks_wpAt_execs_cons (ks_wpAt_Assign_Attr (wpAt_of_wpAny (ld hns3 rfl (ld hns3 rfl ?_ rfl nx) rfl np0)))
  refine set_plain X3 (ox := excO C h2.objs.size) (od := none) ⟨e3, rfl, rfl, trivial⟩ T.sa ?_
  refine exc_osa X3 e3 hcl (show refsVE (.ref C :: bm) = true from hbm) rfl T.noP0 (fun h4 tk4 dx k4 dn dne hx4 hn4 => ?_)
  have X4 : K.In h4 := fun b o e => k4 b o (fun z => by
    have := B.kin b o e
    rw [z, hnx] at this
    cases this) (X3 b o e)
  have hns4 : h4.Ns L (fun y => (([("self", Value.ref x), ("part", .int i ti), ("number", .int j tj)] : List (Str × Value)).reverse.lookup y)) := hns3.at fun o e => k4 L o hLx e
  have hLd : L ≠ dx := Nat.ne_of_lt (Nat.lt_of_lt_of_le hns3.lt dn)
  have hw4 : Within (fun y => if y = "part" then some (Value.int i ti) else none) ["part"] := fun y hy => by
    by_cases c : y = "part"
    · rw [c]; exact List.mem_singleton.mpr rfl
    · exact absurd (if_neg c) hy
  obtain ⟨oD, _, _, hoD, _, _⟩ := hn4.count hw4
  show wpAt _ _ _ (execs (_ :: []) _) _ _ _
  refine ks_wpAt_execs_cons (ks_wpAt_Assign_Attr (wpAt_of_wpAny (ld hns4 rfl (ld hns4 rfl ?_ rfl nx) rfl np1)))
  refine set_plain X4 (ox := { cls := .ref C, dict := some dx, data := .fields #[.ref h2.objs.size, .none, .none, .none, .bool false, .none] }) (od := some oD) ⟨hx4, rfl, rfl, hoD⟩ T.sa ?_
  refine PySem.OEX.osa_old X4 hx4 hn4 hw4 (by decide) hcl (show refsVE (.ref C :: bm) = true from hbm) rfl T.noP1 (fun h5 tk5 k5 hn5 => ?_)
  show wpAt _ _ _ (execs [] _) _ _ _
  refine wpAt_of_wpAny (wpAny_execs_nil ?_)
  have big : hp.objs.size ≤ dx := by
    have h1 : L < h3.objs.size := hns3.lt
    have h2 : hp.objs.size = L := hL
    exact Nat.le_trans (Nat.le_of_eq h2) (Nat.le_trans (Nat.le_of_lt h1) dn)
  refine hq h5 _ dx ⟨fun b o hb e => k5 b o (fun z => ?_) (k4 b o hb (k3' b o hb (k b o e))), ⟨_, k5 x _ (Ne.symm dne) hx4⟩, big, dne, hn5⟩
  have : b < hp.objs.size := Heap.lt_size e
  rw [z] at this
  exact absurd big (Nat.not_le.mpr this)
end
end XBadBook
end PySem
namespace PySem
namespace XBadBook
open PySem.W PySem.Calls PyProof.Rows PySem.HandSPX
/-- a made BadBook -/
structure OwnMade (h h' : Heap) (e C d : Addr) (v0 v1 : Value) : Prop where
  keep : ∀ b o, h.get? b = some o → h'.get? b = some o
  new : h.objs.size ≤ e
  obj : ∃ oe vs, h'.get? e = some oe ∧ oe.cls = .ref C ∧ oe.dict = some d ∧ oe.data = .fields vs ∧ vs[1]? = some .none ∧ vs[2]? = some .none ∧ 4 < vs.size
  dbig : h.objs.size ≤ d
  dne : d ≠ e
  ns : h'.Ns1 d (fun y => if y = "number" then some v1 else if y = "part" then some v0 else none)
theorem one_size (v0 v1 : Value) : [v0, v1].length ≤ sizeLine := by
  rw [sizeLine_eq]
  exact (by decide : 2 ≤ 16777216)
section
variable {prog : Program} {w : World} {A : Around} {E : Value → Shared → Prop} {R : Result → Shared → Prop} {s : Shared} {K : Frag} {mg : Str → Option Value} {C fI : Addr} {base : Heap}
theorem ex_made (T : ExTxt prog K mg C fI) {i : Int} {ti : Tok} {j : Int} {tj : Tok} (B : L2.Mod K mg base) (kb : ∀ b o, base.get? b = some o → s.heap.get? b = some o) (hi : i.natAbs.log2 < 1920) (hi2 : (toString i : Str).length ≤ 1000) (hj : j.natAbs.log2 < 1920) (hj2 : (toString j : Str).length ≤ 1000) (hroom : A.depth + 1 < recursionLimit)
    (hq : ∀ h' tk e d, OwnMade s.heap h' e C d (.int i ti) (.int j tj) → R (.ok (.ret (.ref e))) { s with heap := h', toks := tk }) :
    codeAny (model prog w) A (.call (.ref C) ⟨[.int i ti, .int j tj], []⟩) R s := by
  obtain ⟨nm, q, N, bs, bm, sn, sub, ab, col, dd, k0, k1, k2, k3, k5, hC, hbm⟩ := T.cls
  have X : K.In s.heap := B.kin.keeps kb
  obtain ⟨hp, g, dr, tk, os⟩ := s
  have k : ∀ b o, hp.get? b = some o → ((hp.push (kdv_tup [.int i ti, .int j tj])).push (excO C hp.objs.size)).get? b = some o := fun b o e => Heap.get?_push_of_some _ (Heap.get?_push_of_some _ e)
  have hget : ((hp.push (kdv_tup [.int i ti, .int j tj])).push (excO C hp.objs.size)).get? (hp.objs.size + 1) = some (excO C hp.objs.size) := by heap_get
  have hnx : base.get? (hp.objs.size + 1) = none := by
    cases e : base.get? (hp.objs.size + 1) with
    | none => rfl
    | some o =>
      have z : hp.get? (hp.objs.size + 1) = some o := kb _ _ e
      exact absurd (Nat.lt_of_succ_lt (Heap.lt_size z)) (Nat.lt_irrefl _)
  refine call_own F.excBase_ValueError (fun X => refsVE_contains X bm hbm) (X _ _ hC) (looks_findIn X T.iC) (fun self => bind_fn X self T.tC) (one_size (.int i ti) (.int j tj)) ?_
  refine ex_init (s := ⟨(hp.push (kdv_tup [.int i ti, .int j tj])).push (excO C hp.objs.size), g, dr, tk, os⟩) T B (fun b o e => k b o (kb b o e)) hget hnx hi hi2 hj hj2 ?_ fun h' tk' dx ⟨k', ⟨t1, hx⟩, dn, dne, hns⟩ => ?_
  · show A.depth + 1 < recursionLimit
    exact hroom
  · have old : ∀ b o, hp.get? b = some o → h'.get? b = some o := fun b o e => k' b o (Nat.ne_of_lt (Nat.lt_succ_of_lt (Heap.lt_size e))) (k b o e)
    have z : hp.objs.size + 1 + 1 ≤ dx := by
      first
        | (simpa only [Heap.size_push] using dn)
        | exact dn
        | (have q := dn; rw [Heap.size_push, Heap.size_push] at q; exact q)
    exact ⟨rfl, hq h' tk' (hp.objs.size + 1) dx ⟨old, Nat.le_succ _, ⟨_, _, hx, rfl, rfl, rfl, rfl, rfl, by show 4 < 6; decide⟩, Nat.le_trans (Nat.le_trans (Nat.le_succ _) (Nat.le_succ _)) z, dne, hns⟩⟩
end
end XBadBook
end PySem
namespace Say
open PySem PySem.Spec PyProof.Rows L2
theorem rel_BadBook {i j : Int} {ti tj : Tok} (f : Str) : RelO (List.lookup f ([(("number" : Str), .int j), (("part" : Str), .int i)] : List (Str × V))) (if f = "number" then some (Value.int j tj) else if f = "part" then some (Value.int i ti) else none) := by
  refine relO_put (f := "number") (mA := fun f => if f = "part" then some (Value.int i ti) else none) (y := .int j) (u := .int j tj) (fs := [(("part" : Str), .int i)]) ⟨_, rfl⟩ (fun g => ?_) f
  exact relO_put (f := "part") (mA := fun _ => none) (y := .int i) (u := .int i ti) (fs := []) ⟨_, rfl⟩ (fun _ => True.intro) g
section
variable {X : Cx} {C fI : Addr}
/-- BadBook(e) -/
def tMkBadBook (C : Addr) (ta : TA) : L2.St → Hp → XK → Prop := fun σ H Q => ta σ H fun vs H1 => ∃ i j : Int, vs = [.int i, .int j] ∧ (-1 ≤ i ∧ i ≤ 100) ∧ (-1 ≤ j ∧ j ≤ 100) ∧ ∀ d, H1 d = none → Q (.ref C) (some d) (upd H1 d (.xd [(("number" : Str), .int j), (("part" : Str), .int i)]))
theorem small_BadBook {i : Int} (h : -1 ≤ i ∧ i ≤ 100) : i.natAbs.log2 < 1920 ∧ (toString i : Str).length ≤ 1000 := by
  have key : ∀ q : Fin 102, ((q.1 : Int) - 1).natAbs.log2 < 1920 ∧ (toString ((q.1 : Int) - 1) : Str).length ≤ 1000 := by decide +kernel
  have e : i = (((i + 1).toNat : Nat) : Int) - 1 := by omega
  rw [e]
  exact key ⟨(i + 1).toNat, by omega⟩
theorem pmk5_BadBook {a b : Expr} {ta : TA} {p pos : Pos} {k : Nat} (T : PySem.XBadBook.ExTxt X.prog X.K X.mg C fI) (hr : L2H.RoomH k X.A) (ha : PA X [a, b] ta) (hg : Gl X "BadBook" := by rfl)
    (he : starEach (a :: [b]) X.env = (false, eval a X.env) :: starEach [b] X.env := by rfl) (hpl : (backTo pos (starEach [b] X.env)).any (·.1) = false := by rfl) :
    L2H.PMk5 X (.Call (.Name "BadBook" p) [a, b] [] pos) (tMkBadBook C ta) := by
  intro pins s σ H Q I h
  unfold tMkBadBook at h
  refine wpAny_Call_Name_kw (ld_glob I hg T.gC ?_)
  refine PySem.W.callWith_K (h₀ := X.base) I.ok.mod.kin T.kC (thn (ha.run pos pins s σ H _ I h) fun us s1 hh => ?_) he hpl
  obtain ⟨vs, H1, I1, r1, i, j, ev, ni, nj, q1⟩ := hh
  subst ev
  refine ⟨I1.kIn, ?_⟩
  obtain ⟨v', u', rfl, rv, ru⟩ := vals2 r1
  obtain ⟨ti, rfl⟩ := rv
  obtain ⟨tj, rfl⟩ := ru
  show wpAny _ _ (call (.ref C) [.int i ti, .int j tj]) _ _ _
  have b1 := I1.mod
  have b2 := I1.bk
  obtain ⟨hp, g, dr, tk, os⟩ := s1
  refine wpAny_call (PySem.XBadBook.ex_made T b1 b2 (small_BadBook ni).1 (small_BadBook ni).2 (small_BadBook nj).1 (small_BadBook nj).2 (by have := hr.dp; omega) fun h' tk' e d M => ?_)
  show L2N.MkP X pins σ Q (.ref e) ⟨h', g, dr, tk', os⟩ ∧ L2H.Six (.ref e) ⟨h', g, dr, tk', os⟩
  obtain ⟨oe, fv, hoe, hc, hd, hdat, h1, h2, h5⟩ := M.obj
  have hns := M.ns
  obtain ⟨G', g1, g2⟩ := restrict h' fun b => decide (b ≠ e)
  have gk : ∀ b, b ≠ e → G'.get? b = h'.get? b := fun b hb => g1 b (decide_eq_true hb)
  have ge : G'.get? e = none := g2 e (by simp)
  have old : ∀ b o, hp.get? b = some o → G'.get? b = some o := fun b o q => (gk b (Nat.ne_of_lt (Nat.lt_of_lt_of_le (Heap.lt_size q) M.new))).trans (M.keep b o q)
  have ob : ObjOk X.prog X.w (upd H1 d (.xd [(("number" : Str), .int j), (("part" : Str), .int i)])) G' d (.xd [(("number" : Str), .int j), (("part" : Str), .int i)]) :=
    ⟨_, hns.at (fun o q => (gk d M.dne).trans q), fun f => rel_BadBook f⟩
  have J : Inv X pins σ (upd H1 d (.xd [(("number" : Str), .int j), (("part" : Str), .int i)])) ⟨G', g, dr, tk', os⟩ := I1.laid (t' := tk') old M.dbig ob
  refine ⟨⟨e, oe, fv, ⟨G', g, dr, tk', os⟩, _, .ref C, some d, rfl, J, fun b o q => ?_, ge, hoe, ⟨hc, hd, fun ws z => by rw [hdat] at z; cases z; exact h2⟩, hdat, h1, ?_, rfl, I1.bare, raises_own T.exC T.tyC, q1 d (I1.hok.fresh M.dbig)⟩, fun a oe2 ws ea hg hd2 => ?_⟩
  · by_cases hb : b = e
    · have q' : G'.get? b = some o := q
      rw [hb, ge] at q'; cases q'
    · exact (gk b hb).symm.trans q
  · rw [upd_ne (Ne.symm M.dne)]
    exact I1.hok.fresh M.new
  · cases ea
    have hg2 : h'.get? e = some oe2 := hg
    rw [hoe] at hg2
    cases hg2
    rw [hdat] at hd2
    cases hd2
    exact h5
theorem pmk_BadBook {a b : Expr} {ta : TA} {p pos : Pos} {k : Nat} (T : PySem.XBadBook.ExTxt X.prog X.K X.mg C fI) (hr : Room k X.A) (ha : PA X [a, b] ta) (hg : Gl X "BadBook" := by rfl)
    (he : starEach (a :: [b]) X.env = (false, eval a X.env) :: starEach [b] X.env := by rfl) (hpl : (backTo pos (starEach [b] X.env)).any (·.1) = false := by rfl) :
    PMk X (.Call (.Name "BadBook" p) [a, b] [] pos) (tMkBadBook C ta) := fun pins s σ H Q I h => thn (pmk5_BadBook T (L2H.roomH_of hr) ha hg he hpl pins s σ H Q I h) fun u s1 ⟨⟨e, oe, vs, sI, H', cls, d, e1, J, k, hne, ha, hz, hd, h1, na, os, ag, r, q⟩, _⟩ => ⟨e, oe, vs, sI, H', cls, d, e1, J, k, hne, ha, hz.zc, hd, h1, na, os, ag, r, q⟩
/-- raise BadBook(e) -/
def tRaiseBadBook (C : Addr) (W : WX) (ta : TA) : TS := fun _ σ H => tMkBadBook C ta σ H fun cls d H' => W cls d σ H'
theorem ps_raiseBadBook {a b : Expr} {ta : TA} {W : WX} {p pos pos2 : Pos} {k : Nat} (hc : X.calm = true) (T : PySem.XBadBook.ExTxt X.prog X.K X.mg C fI) (hr : Room k X.A) (tk : Takes X W) (ha : PA X [a, b] ta) (hg : Gl X "BadBook" := by rfl)
    (he : starEach (a :: [b]) X.env = (false, eval a X.env) :: starEach [b] X.env := by rfl) (hpl : (backTo pos (starEach [b] X.env)).any (·.1) = false := by rfl) :
    PS X (.Raise (some (.Call (.Name "BadBook" p) [a, b] [] pos)) none pos2) (tRaiseBadBook C W ta) := ps_raise hc tk (pmk_BadBook T hr ha hg he hpl)
theorem ps_raiseBadBookN {a b : Expr} {ta : TA} {W : WX} {p pos pos2 : Pos} {k : Nat} (hc : X.calm = true) (T : PySem.XBadBook.ExTxt X.prog X.K X.mg C fI) (hr : Room k X.A) (tk : L2N.Takes X W) (ha : PA X [a, b] ta) (hg : Gl X "BadBook" := by rfl)
    (he : starEach (a :: [b]) X.env = (false, eval a X.env) :: starEach [b] X.env := by rfl) (hpl : (backTo pos (starEach [b] X.env)).any (·.1) = false := by rfl) :
    PS X (.Raise (some (.Call (.Name "BadBook" p) [a, b] [] pos)) none pos2) (tRaiseBadBook C W ta) := L2N.ps_raise hc tk (pmk5_BadBook T (L2H.roomH_of hr) ha hg he hpl).pmk
end
end Say
namespace Say
open PySem PySem.Spec PyProof.Rows L2
/-! ### any values held against what a book's parts are -/
def txV (v : V) (S : List Nat) (lo hi : Nat) : Bool := match v with
  | .str z => isText z.cps.toList S lo hi
  | _ => false
def riV (v : V) : Bool := match v with
  | .str z => rises z.cps.toList
  | _ => false
def besV (L : List Nat) (v : V) : Bool := txV v (35 :: L) 0 (L.length + 1) && riV v
def rulV (L : List Nat) (a o e s : V) : Bool := besV L a && (txV o L 1 2 && (besV L e && txV s capsL 0 3))
def excV (L : List Nat) (a s : V) : Bool := txV a L 1 8 && txV s capsL 0 36
/-- v as a rule: b tells whether it is one -/
def RulR (K : PySem.W.Frag) (H : Hp) (L : List Nat) (v : V) (b : Bool) : Prop := (NoTup K H v ∧ b = false) ∨ (∃ t xs, v = .ref t ∧ SqT K H t xs ∧ xs.length ≠ 4 ∧ b = false) ∨
  ∃ t a o e s, v = .ref t ∧ SqT K H t [a, o, e, s] ∧ VOk K H a ∧ VOk K H o ∧ VOk K H e ∧ VOk K H s ∧ b = rulV L a o e s
/-- v as an exception: its word, if it is one -/
def ExcR (K : PySem.W.Frag) (H : Hp) (L : List Nat) (v : V) (w : Option (List Nat)) : Prop := (NoTup K H v ∧ w = none) ∨ (∃ t xs, v = .ref t ∧ SqT K H t xs ∧ xs.length ≠ 2 ∧ w = none) ∨
  ∃ t a s, v = .ref t ∧ SqT K H t [a, s] ∧ VOk K H a ∧ VOk K H s ∧ ((excV L a s = false ∧ w = none) ∨ ∃ z, a = .str (T z) ∧ excV L a s = true ∧ w = some z)
theorem RulR.same {K : PySem.W.Frag} {H H' : Hp} {L : List Nat} {v : V} {b : Bool} (h : RulR K H L v b) (s : Same H H') : RulR K H' L v b := by
  rcases h with ⟨h, e⟩ | ⟨t, xs, h1, h2, h3, e⟩ | ⟨t, a, o, e, z, h1, h2, h3, h4, h5, h6, h7⟩
  · exact .inl ⟨h.same s, e⟩
  · exact .inr (.inl ⟨t, xs, h1, seqT_same s h2, h3, e⟩)
  · exact .inr (.inr ⟨t, a, o, e, z, h1, seqT_same s h2, h3.same s, h4.same s, h5.same s, h6.same s, h7⟩)
theorem ExcR.same {K : PySem.W.Frag} {H H' : Hp} {L : List Nat} {v : V} {b : Option (List Nat)} (h : ExcR K H L v b) (s : Same H H') : ExcR K H' L v b := by
  rcases h with ⟨h, e⟩ | ⟨t, xs, h1, h2, h3, e⟩ | ⟨t, a, z, h1, h2, h3, h4, h5⟩
  · exact .inl ⟨h.same s, e⟩
  · exact .inr (.inl ⟨t, xs, h1, seqT_same s h2, h3, e⟩)
  · exact .inr (.inr ⟨t, a, z, h1, seqT_same s h2, h3.same s, h4.same s, h5⟩)
/-- the first rule that can't be -/
def badR (bs : List Bool) (n : Nat) : Prop := n < bs.length ∧ (n = 12 ∨ bs[n]? = some false)
/-- the first exception that can't be -/
def lastW (ws : List (Option (List Nat))) : Nat → List Nat
  | 0 => []
  | n + 1 => (ws.getD n none).getD []
def badE (ws : List (Option (List Nat))) (n : Nat) : Prop := n < ws.length ∧ (n = 8 ∨ ws[n]? = some none ∨ ∃ w, ws[n]? = some (some w) ∧ ¬ lastW ws n < w)
/-- refused with a part and a number -/
def refB (CB : Addr) (H : Hp) (E : XK) (p n : Int) : Prop := ∀ d H', Same H H' → H d = none → H' d = some (.xd [(("number" : Str), .int n), (("part" : Str), .int p)]) → E (.ref CB) (some d) H'
theorem FnOk.orX {P : Program} {w : World} {K : PySem.W.Frag} {mg : Str → Option Value} {base : Heap} {CX : CXT} {k : Nat} {f : Addr} {fd : FuncData} {ps : List Str} {s1 s2 : Sp} (a : FnOk P w K mg base CX k f fd ps s1) (b : FnOk P w K mg base CX k f fd ps s2) :
    FnOk P w K mg base CX k f fd ps (fun vs H Q E => s1 vs H Q E ∨ s2 vs H Q E) :=
  ⟨fun vs H Q E h => h.elim (a.len vs H Q E) (b.len vs H Q E), fun A outer s H args us vs Q E hr e hb hv h => h.elim (a.run A outer s H args us vs Q E hr e hb hv) (b.run A outer s H args us vs Q E hr e hb hv)⟩
section
variable {P : Program} {w : World} {K : PySem.W.Frag} {mg : Str → Option Value} {base : Heap}
def spTxV (K : PySem.W.Frag) : Sp := fun vs H Q _ => ∃ (v : V) (S : List Nat) (lo hi : Nat), vs = [v, .str (T S), .int lo, .int hi] ∧ VOk K H v ∧ ∀ (H' : Hp), Same H H' → Q (.bl (txV v S lo hi)) H'
theorem ok_txV {f : Addr} {fd : FuncData} (F : Fun K "is_text" "is_text" sIsText f fd) (B : Bn mg) : FnOk P w K mg base CX0 1 f fd ["text", "signs", "least", "most"] (spTxV K) := by
  have G := ok_isText (P := P) (w := w) (base := base) F B
  have G2 : FnOk P w K mg base CX0 1 f fd ["text", "signs", "least", "most"] (fun vs H Q _ => ∃ (v : V) (S : List Nat) (lo hi : Nat), vs = [v, .str (T S), .int lo, .int hi] ∧ NoStr K H v ∧ Q (.bl false) H) := by
    refine F.ok scIsText (fun vs H Q E h => ?_) (fun cdv A outer s H vs Q E hr h => ?_)
    · obtain ⟨v, S, lo, hi, rfl, _⟩ := h
      rfl
    · obtain ⟨v, S, lo, hi, rfl, hz, q⟩ := h
      refine ⟨_, pss_cons (ps_if (PW.pt (pw_or (pt_not (pt_val (pe_callB call_isi (by rfl) B.isi (by decide +kernel) (pa_cons (pv 0) (pa_cons (pe_bltn (v := .ty "str") rfl B.str (by decide +kernel) rfl) pa_nil)))))
            (pw_or1 (pt_not (pt_chain op_le op_le (pv 2) (pe_callB call_len_str (by rfl) B.len PySem.boot_len (pa_cons (pv 0) pa_nil)) (pv 3)))))) (pss_one (ps_ret pe_bl)) pss_nil)
        (pss_one ps_never), ?_⟩
      obtain ⟨t, h1, h2⟩ := hz.ty
      exact ⟨_, rfl, _, _, .type t, _, false, rfl, ClsV.ty _, h1, kit_ty h2, false, rfl, iteT q⟩
  refine (FnOk.orX G G2).imp ?_
  rintro vs H Q E ⟨v, S, lo, hi, rfl, hv, q⟩
  rcases hv with ⟨z, rfl, hz⟩ | hv
  · exact .inl ⟨z, S, lo, hi, rfl, hz, q⟩
  · refine .inr ⟨v, S, lo, hi, rfl, hv, ?_⟩
    have := q H (Same.refl H)
    rcases hv with rfl | ⟨i, rfl⟩ | ⟨a, xs, rfl, h⟩ | ⟨a, xs, rfl, h⟩ <;> exact this
def spBesV (K : PySem.W.Frag) : Sp := fun vs H Q _ => ∃ (L : List Nat) (v : V), vs = [.str (T L), v] ∧ L.length ≤ 50 ∧ VOk K H v ∧ ∀ (H' : Hp), Same H H' → Q (.bl (besV L v)) H'
theorem ok_besV {f : Addr} {fd : FuncData} (F : Fun K "is_beside" "is_beside" sBeside f fd) (B : Bn mg) (C : Cn mg) (DT : Df P w K mg base "is_text" psIsText 1 (spTxV K)) (DR : Df P w K mg base "is_rising" ["text"] 1 spRise) :
    FnOk P w K mg base CX0 2 f fd ["letters", "signs"] (spBesV K) := by
  obtain ⟨fT, fdT, GT, kT, bT, mT⟩ := DT
  obtain ⟨fR, fdR, GR, kR, bR, mR⟩ := DR
  obtain ⟨tE, mE⟩ := C.edge
  refine F.ok scBeside (fun vs H Q E h => ?_) (fun cdv A outer s H vs Q E hr h => ?_)
  · obtain ⟨L, v, rfl, _⟩ := h
    rfl
  · obtain ⟨L, v, rfl, hL, hv, q⟩ := h
    refine ⟨_, pss_one (ps_ret (pe_and (pe_call GT hr (by rfl) mT kT bT .nil pass0 (pa_cons (pv 1) (pa_cons (pe_op op_add_str (pe_glob (v := .str "#") rfl mE ⟨_, rfl⟩) (pv 0)) (pa_cons pe_int (pa_cons (pe_op op_add (pe_callB call_len_str (by rfl) B.len PySem.boot_len (pa_cons (pv 0) pa_nil)) pe_int) pa_nil)))))
        (pe_one (pe_call GR hr (by rfl) mR kR bR .nil pass0 (pa_cons (pv 1) pa_nil))))), ?_⟩
    have hl : (T L).length ≤ sizeLine := by rw [T_len]; exact small (by omega)
    refine ⟨_, rfl, _, rfl, _, _, rfl, rfl, (by rw [len_hash, T_len]; exact small (by omega)), _, rfl, _, rfl, hl, _, _, rfl, rfl, v, 35 :: L, 0, L.length + 1, ?_, hv, fun H1 s1 => ?_⟩
    · rw [hash_app, T_len]
      rfl
    refine ⟨_, rfl, ite2 (fun c => ?_) (fun c => ?_)⟩
    · obtain ⟨z, rfl, hz⟩ : ∃ z : List Nat, v = .str (T z) ∧ z.length ≤ 100 := by
        rcases hv with h | h
        · exact h
        · rcases h with rfl | ⟨i, rfl⟩ | ⟨a, xs, rfl, h⟩ | ⟨a, xs, rfl, h⟩ <;> cases c
      refine ⟨_, rfl, z, rfl, hz, fun H2 s2 => ?_⟩
      have := q H2 (s1.trans s2)
      unfold besV at this
      rw [c, Bool.true_and] at this
      exact this
    · have := q H1 s1
      unfold besV at this
      rw [Bool.eq_false_iff.mpr c, Bool.false_and] at this
      exact this
def spIsRuV (K : PySem.W.Frag) : Sp := fun vs H Q _ => ∃ (L : List Nat) (v : V) (b : Bool), vs = [.str (T L), v] ∧ L.length ≤ 50 ∧ RulR K H L v b ∧ ∀ (H' : Hp), Same H H' → Q (.bl b) H'
theorem ok_isRuV {f : Addr} {fd : FuncData} (F : Fun K "is_rule" "is_rule" sIsRule f fd) (B : Bn mg) (C : Cn mg) (DT : Df P w K mg base "is_text" psIsText 1 (spTxV K)) (DB : Df P w K mg base "is_beside" ["letters", "signs"] 2 (spBesV K)) :
    FnOk P w K mg base CX0 3 f fd ["letters", "rule"] (spIsRuV K) := by
  obtain ⟨fT, fdT, GT, kT, bT, mT⟩ := DT
  obtain ⟨fB, fdB, GB, kB, bB, mB⟩ := DB
  obtain ⟨tC, mC⟩ := C.caps
  obtain ⟨tS, mS⟩ := C.lrs
  refine F.ok scIsRule (fun vs H Q E h => ?_) (fun cdv A outer s H vs Q E hr h => ?_)
  · obtain ⟨L, v, b, rfl, _⟩ := h
    rfl
  · obtain ⟨L, v, b, rfl, hL, hv, q⟩ := h
    have hr1 : Room 1 _ := hr.mono (by decide)
    refine ⟨_, pss_cons (ps_if (PW.pt (pw_or (pt_not (pt_val (pe_callB call_isi (by rfl) B.isi (by decide +kernel) (pa_cons (pv 1) (pa_cons (pe_bltn (v := .ty "tuple") rfl B.tup (by decide +kernel) rfl) pa_nil)))))
          (pw_or1 (pt_cmpR op_ne (pe_callB call_len (by rfl) B.len PySem.boot_len (pa_cons (pv 1) pa_nil)) pe_int (nomark _))))) (pss_one (ps_ret pe_bl)) pss_nil)
      (pss_cons (ps_asg (pv 1) (pg_tup (by rfl) (pgs_cons (pg_name (i := 2) scIsRule.nd rfl (.inl rfl)) (pgs_cons (pg_name (i := 3) scIsRule.nd rfl (.inl rfl)) (pgs_cons (pg_name (i := 4) scIsRule.nd rfl (.inl rfl)) (pgs_cons (pg_name (i := 5) scIsRule.nd rfl (.inl rfl)) pgs_nil))))))
      (pss_one (ps_ret (pe_and (pe_call GB hr (by rfl) mB kB bB .nil pass0 (pa_cons (pv 0) (pa_cons (pv 2) pa_nil)))
        (pe_and (pe_call GT hr1 (by rfl) mT kT bT .nil pass0 (pa_cons (pv 3) (pa_cons (pv 0) (pa_cons pe_int (pa_cons pe_int pa_nil)))))
        (pe_and (pe_call GB hr (by rfl) mB kB bB .nil pass0 (pa_cons (pv 0) (pa_cons (pv 4) pa_nil)))
        (pe_one (pe_call GT hr1 (by rfl) mT kT bT .nil pass0 (pa_cons (pv 5) (pa_cons (pe_glob (v := .str "ABCDEFGHIJKLMNOPQRSTUVWXYZ") rfl mC ⟨_, rfl⟩) (pa_cons pe_int (pa_cons (pe_glob (v := .int 3) rfl mS ⟨_, rfl⟩) pa_nil)))))))))))), ?_⟩
    rcases hv with ⟨hn, rfl⟩ | ⟨t, xs, rfl, ht, hl, rfl⟩ | ⟨t, a, o, e, z, rfl, ht, ha, ho, he, hz, rfl⟩
    · obtain ⟨t, h1, h2⟩ := hn.ty
      exact ⟨_, rfl, v, _, .type t, _, false, rfl, ClsV.ty _, h1, kit_ty h2, false, rfl, iteT (q H (Same.refl H))⟩
    · refine ⟨_, rfl, _, _, .type "tuple", _, true, rfl, ClsV.ty _, tyT ht, kit_ty (by decide +kernel), true, rfl, iteF ?_⟩
      refine ⟨_, rfl, _, _, rfl, .inr ⟨_, ht, rfl⟩, rfl, _, rfl, ?_⟩
      rw [show decide (V.int ((xs.length : Nat) : Int) = V.int 4) = false from decide_eq_false fun z => hl (by have := V.int.inj z; omega)]
      exact iteT (q H (Same.refl H))
    · refine ⟨_, rfl, _, _, .type "tuple", _, true, rfl, ClsV.ty _, tyT ht, kit_ty (by decide +kernel), true, rfl, iteF ?_⟩
      refine ⟨_, rfl, _, 4, rfl, .inr ⟨_, ht, rfl⟩, rfl, _, rfl, iteF ?_⟩
      refine ⟨_, rfl, t, _, rfl, ht, rfl, _, _, rfl, _, _, rfl, _, _, rfl, _, _, rfl, rfl, ?_⟩
      unfold rulV at q
      refine ⟨_, rfl, _, rfl, L, a, rfl, hL, ha, fun H1 s1 => ?_⟩
      refine ⟨_, rfl, ?_⟩
      cases c1 : besV L a with
      | false => rw [c1, Bool.false_and] at q; exact iteF (q H1 s1)
      | true =>
        rw [c1, Bool.true_and] at q
        refine iteT ?_
        refine ⟨_, rfl, _, rfl, o, L, 1, 2, rfl, ho.same s1, fun H2 s2 => ?_⟩
        refine ⟨_, rfl, ?_⟩
        cases c2 : txV o L 1 2 with
        | false => rw [c2, Bool.false_and] at q; exact iteF (q H2 (s1.trans s2))
        | true =>
          rw [c2, Bool.true_and] at q
          refine iteT ?_
          refine ⟨_, rfl, _, rfl, L, e, rfl, hL, he.same (s1.trans s2), fun H3 s3 => ?_⟩
          refine ⟨_, rfl, ?_⟩
          cases c3 : besV L e with
          | false => rw [c3, Bool.false_and] at q; exact iteF (q H3 ((s1.trans s2).trans s3))
          | true =>
            rw [c3, Bool.true_and] at q
            refine iteT ?_
            refine ⟨_, rfl, z, capsL, 0, 3, (by rw [caps_eq]; rfl), hz.same ((s1.trans s2).trans s3), fun H4 s4 => ?_⟩
            exact q H4 (((s1.trans s2).trans s3).trans s4)
def spExdV (K : PySem.W.Frag) : Sp := fun vs H Q _ => ∃ (L : List Nat) (v : V), vs = [.str (T L), v] ∧ VOk K H v ∧ ∀ (H' : Hp), Same H H' → Q (.bl (txV v L 1 8)) H'
theorem ok_exdV {f : Addr} {fd : FuncData} (F : Fun K "is_excepted" "is_excepted" sExcd f fd) (C : Cn mg) (DT : Df P w K mg base "is_text" psIsText 1 (spTxV K)) : FnOk P w K mg base CX0 2 f fd ["letters", "word"] (spExdV K) := by
  obtain ⟨fT, fdT, GT, kT, bT, mT⟩ := DT
  obtain ⟨tX, mX⟩ := C.lexc
  refine F.ok scExcd (fun vs H Q E h => ?_) (fun cdv A outer s H vs Q E hr h => ?_)
  · obtain ⟨L, z, rfl, _⟩ := h
    rfl
  · obtain ⟨L, z, rfl, hl, q⟩ := h
    refine ⟨_, pss_one (ps_ret (pe_call GT hr (by rfl) mT kT bT .nil pass0 (pa_cons (pv 1) (pa_cons (pv 0) (pa_cons pe_int (pa_cons (pe_glob (v := .int 8) rfl mX ⟨_, rfl⟩) pa_nil)))))), ?_⟩
    exact ⟨_, rfl, _, rfl, z, L, 1, 8, rfl, hl, q⟩
def spSoV (K : PySem.W.Frag) : Sp := fun vs H Q _ => ∃ (v : V), vs = [v] ∧ VOk K H v ∧ ∀ (H' : Hp), Same H H' → Q (.bl (txV v capsL 0 36)) H'
theorem ok_soV {f : Addr} {fd : FuncData} (F : Fun K "is_sounds" "is_sounds" sIsSo f fd) (C : Cn mg) (DT : Df P w K mg base "is_text" psIsText 1 (spTxV K)) : FnOk P w K mg base CX0 2 f fd ["sounds"] (spSoV K) := by
  obtain ⟨fT, fdT, GT, kT, bT, mT⟩ := DT
  obtain ⟨tC, mC⟩ := C.caps
  obtain ⟨tS, mS⟩ := C.lso
  refine F.ok scIsSo (fun vs H Q E h => ?_) (fun cdv A outer s H vs Q E hr h => ?_)
  · obtain ⟨z, rfl, _⟩ := h
    rfl
  · obtain ⟨z, rfl, hl, q⟩ := h
    refine ⟨_, pss_one (ps_ret (pe_call GT hr (by rfl) mT kT bT .nil pass0 (pa_cons (pv 0) (pa_cons (pe_glob (v := .str "ABCDEFGHIJKLMNOPQRSTUVWXYZ") rfl mC ⟨_, rfl⟩) (pa_cons pe_int (pa_cons (pe_glob (v := .int 36) rfl mS ⟨_, rfl⟩) pa_nil)))))), ?_⟩
    exact ⟨_, rfl, z, capsL, 0, 36, (by rw [caps_eq]; rfl), hl, q⟩
def spIsExV (K : PySem.W.Frag) : Sp := fun vs H Q _ => ∃ (L : List Nat) (v : V) (w : Option (List Nat)), vs = [.str (T L), v] ∧ ExcR K H L v w ∧ ∀ (H' : Hp), Same H H' → Q (.bl w.isSome) H'
theorem ok_isExV {f : Addr} {fd : FuncData} (F : Fun K "is_exception" "is_exception" sIsExc f fd) (B : Bn mg) (DX : Df P w K mg base "is_excepted" ["letters", "word"] 2 (spExdV K)) (DS : Df P w K mg base "is_sounds" ["sounds"] 2 (spSoV K)) :
    FnOk P w K mg base CX0 3 f fd ["letters", "pair"] (spIsExV K) := by
  obtain ⟨fX, fdX, GX, kX, bX, mX⟩ := DX
  obtain ⟨fS, fdS, GS, kS, bS, mS⟩ := DS
  refine F.ok scIsExc (fun vs H Q E h => ?_) (fun cdv A outer s H vs Q E hr h => ?_)
  · obtain ⟨L, v, w, rfl, _⟩ := h
    rfl
  · obtain ⟨L, v, w, rfl, hv, q⟩ := h
    refine ⟨_, pss_cons (ps_if (PW.pt (pw_or (pt_not (pt_val (pe_callB call_isi (by rfl) B.isi (by decide +kernel) (pa_cons (pv 1) (pa_cons (pe_bltn (v := .ty "tuple") rfl B.tup (by decide +kernel) rfl) pa_nil)))))
          (pw_or1 (pt_cmpR op_ne (pe_callB call_len (by rfl) B.len PySem.boot_len (pa_cons (pv 1) pa_nil)) pe_int (nomark _))))) (pss_one (ps_ret pe_bl)) pss_nil)
      (pss_cons (ps_asg (pv 1) (pg_tup (by rfl) (pgs_cons (pg_name (i := 2) scIsExc.nd rfl (.inl rfl)) (pgs_cons (pg_name (i := 3) scIsExc.nd rfl (.inl rfl)) pgs_nil))))
      (pss_one (ps_ret (pe_and (pe_call GX hr (by rfl) mX kX bX .nil pass0 (pa_cons (pv 0) (pa_cons (pv 2) pa_nil)))
        (pe_one (pe_call GS hr (by rfl) mS kS bS .nil pass0 (pa_cons (pv 3) pa_nil))))))), ?_⟩
    rcases hv with ⟨hn, rfl⟩ | ⟨t, xs, rfl, ht, hl, rfl⟩ | ⟨t, a, z, rfl, ht, ha, hz, hw⟩
    · obtain ⟨t, h1, h2⟩ := hn.ty
      exact ⟨_, rfl, v, _, .type t, _, false, rfl, ClsV.ty _, h1, kit_ty h2, false, rfl, iteT (q H (Same.refl H))⟩
    · refine ⟨_, rfl, _, _, .type "tuple", _, true, rfl, ClsV.ty _, tyT ht, kit_ty (by decide +kernel), true, rfl, iteF ?_⟩
      refine ⟨_, rfl, _, _, rfl, .inr ⟨_, ht, rfl⟩, rfl, _, rfl, ?_⟩
      rw [show decide (V.int ((xs.length : Nat) : Int) = V.int 2) = false from decide_eq_false fun z => hl (by have := V.int.inj z; omega)]
      exact iteT (q H (Same.refl H))
    · have hq : w.isSome = excV L a z := by
        rcases hw with ⟨h1, rfl⟩ | ⟨_, _, h1, rfl⟩ <;> rw [h1] <;> rfl
      rw [hq] at q
      unfold excV at q
      refine ⟨_, rfl, _, _, .type "tuple", _, true, rfl, ClsV.ty _, tyT ht, kit_ty (by decide +kernel), true, rfl, iteF ?_⟩
      refine ⟨_, rfl, _, 2, rfl, .inr ⟨_, ht, rfl⟩, rfl, _, rfl, iteF ?_⟩
      refine ⟨_, rfl, t, _, rfl, ht, rfl, _, _, rfl, _, _, rfl, rfl, ?_⟩
      refine ⟨_, rfl, _, rfl, L, a, rfl, ha, fun H1 s1 => ?_⟩
      refine ⟨_, rfl, ?_⟩
      cases c1 : txV a L 1 8 with
      | false => rw [c1, Bool.false_and] at q; exact iteF (q H1 s1)
      | true =>
        rw [c1, Bool.true_and] at q
        refine iteT ?_
        exact ⟨_, rfl, z, rfl, hz.same s1, fun H4 s4 => q H4 (s1.trans s4)⟩
end
end Say
namespace PySem
namespace UnsX
open PySem.W PySem.Calls PyProof.Rows PySem.HandSPX
/-! ### the text of Unsaid.__init__ -/
abbrev sUns : Stmt := L2.inClass (Say.topS 6) 0
abbrev iA : Arguments := L2.defArgs sUns
abbrev iB : List Stmt := L2.defBody sUns
abbrev iS : Scope := L2.defScope sUns
def eF : Expr := match iB with
  | .Expr (.Call _ (e :: _) _ _) _ :: _ => e
  | _ => .Constant .none 0 ⟨0, 0, 0, 0⟩
theorem eF_eq : ∃ c1 c2 c3 c4, eF = .JoinedStr [.Constant (.str "no rule fits at place ") 0 c1, .FormattedValue (.Name "place" c2) (-1) none c3] c4 := ⟨_, _, _, _, rfl⟩
theorem iS_cell : ∀ y ∈ iS.names, y.2 ≠ .cell := by decide +kernel
/-- what the written part says of Unsaid, at C, and of its __init__, at fI -/
structure UnsTxt (P : Program) (K : Frag) (mg : Str → Option Value) (C fI : Addr) : Prop where
  gC : mg "Unsaid" = some (.ref C)
  sB : mg "super" = none
  cls : ∃ nm q N bs bm sn sub ab col dd k0 k1 k2 k3 k5, K.lookup C = some (excClassObj nm q C N bs bm true sn sub ab col dd k0 k1 k2 k3 k5 "ValueError.__new__") ∧ refsVE bm = true
  sa : findIn K (.ref C) "__setattr__" = some (some (.builtin "object.__setattr__"))
  noP : findIn K (.ref C) "place" = some none
  iC : findIn K (.ref C) "__init__" = some (some (.ref fI))
  tC : typeIn K (.ref fI) = some (.type "function")
  kC : keepIn K (.ref C) = true
  exC : subIn K (.ref C) (.type "BaseException") = some true
  tyC : typeIn K (.ref C) = some (.type "type")
  sup : ks_superIn K C C "__init__" = some (some (.builtin "ValueError.__init__"))
  subV : subIn K (.ref C) (.type "ValueError") = some true
  any : nsIn K cStatics "thirdparty.any" = some none
  main : (P.main.scope.names.lookup ("super" : Str)).isSome = false
  fn : ∃ (oc : Value) (od : Option Addr) (doc pm : Value) (an : Option Addr) (cda cc : Addr) (ct : Value) (osl : Array (Option Value)),
    K.lookup fI = some ⟨oc, od, .func (ksFn "__init__" "Unsaid.__init__" iA iB iS .none .none doc pm an (.ref cda) ct cc), osl⟩ ∧ codeIn K (.ref cda) "Unsaid.__init__" = true ∧
    (∃ cl cld csl, K.lookup cc = some ⟨cl, cld, .cell (some (.ref C)), csl⟩) ∧ ∃ ccl cdd vs ccs file tf, K.lookup cda = some ⟨ccl, cdd, .fields vs, ccs⟩ ∧ vs[2]? = some (.str file tf) ∧ ((P.main.file : Str) == file) = true
/-- what __init__ leaves of a fresh exception at x -/
structure InitEnd (h h' : Heap) (x C dx : Addr) (v : Value) : Prop where
  keep : ∀ b o, b ≠ x → h.get? b = some o → h'.get? b = some o
  obj : ∃ t1 : Addr, h'.get? x = some { cls := .ref C, dict := some dx, data := .fields #[.ref t1, .none, .none, .none, .bool false, .none] }
  dbig : h.objs.size ≤ dx
  dne : dx ≠ x
  ns : h'.Ns1 dx (fun y => if y = "place" then some v else none)
section
variable {prog : Program} {w : World} {A : Around} {E : Value → Shared → Prop} {R : Result → Shared → Prop} {s : Shared} {K : Frag} {mg : Str → Option Value} {C fI : Addr} {base : Heap}
theorem ld {M : Model} {s : Shared} {env : Env} {m : Str → Option Value} {x : Str} {pos : Pos} {v : Value} {Q : Value → Shared → Prop} {A : Around} {E : Value → Shared → Prop} (hn : s.heap.Ns env.locals m) (hv : m x = some v) (h : Q v s)
    (hk : env.scope.kind = .function) (hl : env.kindOf x = some .local) (hd : (x == ("__debug__" : Str)) = false := by decide) :
    wpAny M A (eval (.Name x pos) env) Q E s := wpAny_Name (wpAny_loadName_local hk hl hn hv h) hd
theorem uns_init (T : UnsTxt prog K mg C fI) {x t0 : Addr} {i : Int} {ti : Tok} (B : L2.Mod K mg base) (kb : ∀ b o, base.get? b = some o → s.heap.get? b = some o) (hx : s.heap.get? x = some (excO C t0)) (hnx : base.get? x = none) (hi : i.natAbs.log2 < 1920) (hi2 : (toString i : Str).length ≤ 1000) (hroom : A.depth < recursionLimit)
    (hq : ∀ h' tk dx, InitEnd s.heap h' x C dx (.int i ti) → R (.ok (.ret .none)) { s with heap := h', toks := tk }) :
    codeAny (model prog w) A (.call (.ref fI) ⟨[.ref x, .int i ti], []⟩) R s := by
  obtain ⟨oc, od, doc, pm, an, cda, cc, ct, osl, ho, hcd, ⟨cl, cld, csl, hcell⟩, ccl, cdd, vs, ccs, file, tf, hcode, hvs, hfile⟩ := T.fn
  obtain ⟨nm, q, N, bs, bm, sn, sub, ab, col, dd, k0, k1', k2, k3, k5, hC, hbm⟩ := T.cls
  obtain ⟨hp, g, dr, tk0, os⟩ := s
  have hcl : clsIn K C = some { name := nm, bases := bs, mro := .ref C :: bm, ns := N, qualname := q, hasDict := true, slotNames := sn, subclasses := sub, abstract := ab, collection := col, hasDel := false } := by unfold clsIn; rw [hC] <;> rfl
  have X : K.In hp := B.kin.keeps kb
  have nl : hp.NoLimit := B.nolimit.keeps kb
  refine ks_codeAny_call_defAt (fd := ksFn "__init__" "Unsaid.__init__" iA iB iS .none .none doc pm an (.ref cda) ct cc) (body := iB) (binds := [("self", .ref x), ("place", .int i ti)])
    hroom (X _ _ ho) rfl nl (codeRec_of X hcd) rfl (BindsTo.of_eq (by first | rfl | with_unfolding_all rfl)) iS_cell (fun y hy => ?_) (fun h₀ hns k => ?_)
  · have e : y = (PySem.Str.ofString "self", Value.ref x) ∨ y = (PySem.Str.ofString "place", Value.int i ti) := by simpa using hy
    rcases e with rfl | rfl
    · exact (by decide +kernel : iS.names.lookup (PySem.Str.ofString "self") = some .local)
    · exact (by decide +kernel : iS.names.lookup (PySem.Str.ofString "place") = some .local)
  generalize hL : (Shared.heap ⟨hp, g, dr, tk0, os⟩).objs.size = L at hns ⊢
  have henv : callEnv (ksFn "__init__" "Unsaid.__init__" iA iB iS .none .none doc pm an (.ref cda) ct cc) L fI = ksEnv "Unsaid.__init__" iS L fI (.ref cda) cc := rfl
  rw [henv]
  have X0 : K.In h₀ := X.keeps k
  have hx0 := k _ _ hx
  have kb0 : ∀ b o, base.get? b = some o → h₀.get? b = some o := fun b o e => k b o (kb b o e)
  obtain ⟨oC, hC0, hC1⟩ : ∃ oC, h₀.get? C = some oC ∧ oC.data = .cls { name := nm, bases := bs, mro := .ref C :: bm, ns := N, qualname := q, hasDict := true, slotNames := sn, subclasses := sub, abstract := ab, collection := col, hasDel := false } := ⟨_, X0 _ _ hC, rfl⟩
  have I0 : InstAt h₀ x (excO C t0) C none := ⟨hx0, rfl, rfl, trivial⟩
  obtain ⟨mb, hb1, hb2⟩ := B.blt
  have hxC : x ≠ C := fun z => by
    rw [z, hC0] at hx0
    cases hx0
    cases hC1
  have hsub : mroIn K C (.ref C) = some true := by
    unfold mroIn
    rw [hcl]
    simp
  have nS : iS.names.lookup (PySem.Str.ofString "super") = some .globalImplicit := by decide +kernel
  have nC : iS.names.lookup (PySem.Str.ofString "__class__") = some .free := by decide +kernel
  have nx : iS.names.lookup (PySem.Str.ofString "self") = some .local := by decide +kernel
  have np : iS.names.lookup (PySem.Str.ofString "place") = some .local := by decide +kernel
  have hLx : L ≠ x := by
    rw [← hL]
    exact Nat.ne_of_gt (Heap.lt_size hx)
  refine ks_wpAt_execs_cons (ks_wpAt_Expr_any (ks_wpAt_MethodCall (ks_wpAt_super_base nS nC (by decide +kernel) rfl (X0 _ _ ho) rfl rfl rfl (X0 _ _ hcode) rfl hvs hfile T.main ?_)))
  refine ks_loadName_global rfl nS (loadGlobal_builtin (B.glob.keeps kb0) T.sB (hb1.keeps kb0) ((hb2 _ (by decide +kernel)).trans (by decide +kernel)) ⟨rfl, ?_⟩)
  refine wpAny_loadName_free rfl nC rfl ⟨_, X0 _ _ hcell, rfl⟩ ?_
  refine wpAny_loadName_local rfl nx hns rfl ?_
  refine ks_wpAny_isType_cls hC0 hC1 ⟨rfl, ?_⟩
  refine ks_wpAny_call_super hC0 hC1 hx0 rfl (fun c e => by cases e) (looks_mroIn X0 hsub) (fun h1 e1 k1 => ?_)
  have X1 : K.In h1 := X0.keeps k1
  have hx1 := k1 _ _ hx0
  have I1 : InstAt h1 x (excO C t0) C none := ⟨hx1, rfl, rfl, trivial⟩
  have hf : alongIn K "__init__" (((Value.ref C :: bm).dropWhile (· != .ref C)).drop 1) = some (some (.builtin "ValueError.__init__")) := by
    have := T.sup
    unfold ks_superIn at this
    rw [hcl] at this
    exact this
  refine kxs_getMethod kxs_ValueError e1 (looks_opaque X1 T.any) (l₀ := .ref C :: bm) (fun A Q E s k q => wpAny_bind ((looks_clsIn X1 hcl) A _ E s k (wpAny_pure q))) rfl X1 hf (I1.type.andThen (looks_subIn X1 T.subV)) hxC (by decide +kernel) ?_
  have hu : (h1.push (kxs_mw "ValueError.__init__" x)).get? h1.objs.size = some (kxs_mw "ValueError.__init__" x) := Heap.get?_push_size _ rfl
  have k2' : ∀ b o, h₀.get? b = some o → (h1.push (kxs_mw "ValueError.__init__" x)).get? b = some o := fun b o e => Heap.get?_push_of_some _ (k1 b o e)
  generalize h1.push (kxs_mw "ValueError.__init__" x) = h2 at hu k2' ⊢
  generalize h1.objs.size = u at hu ⊢
  have X2 : K.In h2 := X0.keeps k2'
  have hx2 := k2' _ _ hx0
  have hns2 := hns.keeps k2'
  -- the text that is handed on
  show wpAny _ _ (callWith _ (.ref u) [] _ []) _ _ _
  refine kxs_callWith (i := "ValueError.__init__") (x := x) rfl (evalArgs_plain ?_)
  show wpAny _ _ (spliced ((false, eval eF (ksEnv "Unsaid.__init__" iS L fI (.ref cda) cc)) :: [])) _ _ _
  obtain ⟨c1, c2, c3, c4, eFe⟩ := eF_eq
  rw [eFe]
  refine Calls.spliced_cons (wpAny_JoinedStr ?_)
  refine wpAny_Constant_str ⟨_, _, rfl, by decide +kernel, ?_⟩
  refine wpAny_FormattedValue_plain (ld hns2 rfl ?_ rfl np) 
  have hlen : (Str.empty ++ PySem.Str.ofString "no rule fits at place " ++ (toString i : Str)).length ≤ sizeLine := by
    rw [TL.len_tl, TL.tl_append, List.length_append, ← TL.len_tl, ← TL.len_tl, sizeLine_eq]
    have : (Str.empty ++ PySem.Str.ofString "no rule fits at place ").length = 22 := by decide +kernel
    omega
  refine wpAny_formatField_int hi ⟨_, _, rfl, hlen, ?_⟩
  refine ⟨hlen, ?_⟩
  refine Calls.spliced_nil ⟨hu, ?_⟩
  refine wpAny_call (codeAny_of_tree ?_)
  show wpAny _ _ (callAny (.ref u) ⟨_, []⟩) _ _ _
  simp only [callAny]
  refine wpAny_bind (wpAny_load hu ?_)
  simp only [kxs_mw, show (Value.type "method-wrapper" == Value.type "method" || Value.type "method-wrapper" == Value.type "builtin_function_or_method" || Value.type "method-wrapper" == Value.type "method-wrapper") = true by decide, if_true]
  refine KFB.if_so (by decide) ?_
  refine wpAny_bind (check_bound_init F.excBase_ValueError.toExcCallFacts (X2 _ _ hC) hx2 rfl ?_)
  refine wpAny_bind (wpAny_pure (wpAny_pure ?_))
  refine ⟨plainId_quiet F.excBase_ValueError.init.plain _, codeAny_builtin F.excBase_ValueError.initEntry ?_⟩
  refine exc_init_tree (cls := .ref C) (t0 := t0) (dv := none) (c2 := .none) (c3 := .none) (b4 := .bool false) hx2 (by rw [sizeLine_eq]; show 1 ≤ 16777216; decide) fun h3 k3 e3 _ => ?_
  have k3' : ∀ b o, b ≠ x → h₀.get? b = some o → h3.get? b = some o := fun b o hb e => k3 b o hb (k2' b o e)
  have X3 : K.In h3 := fun b o e => k3' b o (fun z => by
    have := B.kin b o e
    rw [z, hnx] at this
    cases this) (X0 b o e)
  have hns3 : h3.Ns L (fun y => (([("self", Value.ref x), ("place", .int i ti)] : List (Str × Value)).reverse.lookup y)) := hns.at fun o e => k3' L o hLx e
  show wpAt _ _ _ (execs (_ :: []) _) _ _ _
  refine ks_wpAt_execs_cons (ks_wpAt_Assign_Attr (wpAt_of_wpAny (ld hns3 rfl (ld hns3 rfl ?_ rfl nx) rfl np)))
  refine set_plain X3 (ox := excO C h2.objs.size) (od := none) ⟨e3, rfl, rfl, trivial⟩ T.sa ?_
  refine exc_osa X3 e3 hcl (show refsVE (.ref C :: bm) = true from hbm) rfl T.noP (fun h4 tk4 dx k4 dn dne hx4 hn4 => ?_)
  show wpAt _ _ _ (execs [] _) _ _ _
  refine wpAt_of_wpAny (wpAny_execs_nil ?_)
  have big : hp.objs.size ≤ dx := by
    have h1 : L < h3.objs.size := hns3.lt
    have h2 : hp.objs.size = L := hL
    exact Nat.le_trans (Nat.le_of_eq h2) (Nat.le_trans (Nat.le_of_lt h1) dn)
  exact hq h4 _ dx ⟨fun b o hb e => k4 b o hb (k3' b o hb (k b o e)), ⟨_, hx4⟩, big, dne, hn4⟩
end
end UnsX
end PySem
namespace PySem
namespace UnsX
open PySem.W PySem.Calls PyProof.Rows PySem.HandSPX
/-- a made Unsaid -/
structure OwnMade (h h' : Heap) (e C d : Addr) (v : Value) : Prop where
  keep : ∀ b o, h.get? b = some o → h'.get? b = some o
  new : h.objs.size ≤ e
  obj : ∃ oe vs, h'.get? e = some oe ∧ oe.cls = .ref C ∧ oe.dict = some d ∧ oe.data = .fields vs ∧ vs[1]? = some .none
  dbig : h.objs.size ≤ d
  dne : d ≠ e
  ns : h'.Ns1 d (fun y => if y = "place" then some v else none)
theorem one_size (v : Value) : [v].length ≤ sizeLine := by
  rw [sizeLine_eq]
  exact (by decide : 1 ≤ 16777216)
section
variable {prog : Program} {w : World} {A : Around} {E : Value → Shared → Prop} {R : Result → Shared → Prop} {s : Shared} {K : Frag} {mg : Str → Option Value} {C fI : Addr} {base : Heap}
theorem uns_made (T : UnsTxt prog K mg C fI) {i : Int} {ti : Tok} (B : L2.Mod K mg base) (kb : ∀ b o, base.get? b = some o → s.heap.get? b = some o) (hi : i.natAbs.log2 < 1920) (hi2 : (toString i : Str).length ≤ 1000) (hroom : A.depth + 1 < recursionLimit)
    (hq : ∀ h' tk e d, OwnMade s.heap h' e C d (.int i ti) → R (.ok (.ret (.ref e))) { s with heap := h', toks := tk }) :
    codeAny (model prog w) A (.call (.ref C) ⟨[.int i ti], []⟩) R s := by
  obtain ⟨nm, q, N, bs, bm, sn, sub, ab, col, dd, k0, k1, k2, k3, k5, hC, hbm⟩ := T.cls
  have X : K.In s.heap := B.kin.keeps kb
  obtain ⟨hp, g, dr, tk, os⟩ := s
  have k : ∀ b o, hp.get? b = some o → ((hp.push (kdv_tup [.int i ti])).push (excO C hp.objs.size)).get? b = some o := fun b o e => Heap.get?_push_of_some _ (Heap.get?_push_of_some _ e)
  have hget : ((hp.push (kdv_tup [.int i ti])).push (excO C hp.objs.size)).get? (hp.objs.size + 1) = some (excO C hp.objs.size) := by heap_get
  have hnx : base.get? (hp.objs.size + 1) = none := by
    cases e : base.get? (hp.objs.size + 1) with
    | none => rfl
    | some o =>
      have z : hp.get? (hp.objs.size + 1) = some o := kb _ _ e
      exact absurd (Nat.lt_of_succ_lt (Heap.lt_size z)) (Nat.lt_irrefl _)
  refine call_own F.excBase_ValueError (fun X => refsVE_contains X bm hbm) (X _ _ hC) (looks_findIn X T.iC) (fun self => bind_fn X self T.tC) (one_size (.int i ti)) ?_
  refine uns_init (s := ⟨(hp.push (kdv_tup [.int i ti])).push (excO C hp.objs.size), g, dr, tk, os⟩) T B (fun b o e => k b o (kb b o e)) hget hnx hi hi2 ?_ fun h' tk' dx ⟨k', ⟨t1, hx⟩, dn, dne, hns⟩ => ?_
  · show A.depth + 1 < recursionLimit
    exact hroom
  · have old : ∀ b o, hp.get? b = some o → h'.get? b = some o := fun b o e => k' b o (Nat.ne_of_lt (Nat.lt_succ_of_lt (Heap.lt_size e))) (k b o e)
    have z : hp.objs.size + 1 + 1 ≤ dx := by
      first
        | (simpa only [Heap.size_push] using dn)
        | exact dn
        | (have q := dn; rw [Heap.size_push, Heap.size_push] at q; exact q)
    exact ⟨rfl, hq h' tk' (hp.objs.size + 1) dx ⟨old, Nat.le_succ _, ⟨_, _, hx, rfl, rfl, rfl, rfl⟩, Nat.le_trans (Nat.le_trans (Nat.le_succ _) (Nat.le_succ _)) z, dne, hns⟩⟩
end
end UnsX
end PySem
namespace Say
open PySem PySem.Spec PyProof.Rows L2
theorem relO_pl {v : V} {v' : Value} (r : RelV v v') (f : Str) : RelO (List.lookup f [(("place" : Str), v)]) (if f = "place" then some v' else none) := by
  by_cases hw : f = "place"
  · subst hw
    rw [if_pos rfl]
    have q : List.lookup ("place" : Str) [(("place" : Str), v)] = some v := by simp [List.lookup]
    rw [q]
    exact r
  · rw [if_neg hw]
    have qw : (f == ("place" : Str)) = false := by simpa using hw
    have q2 : List.lookup f [(("place" : Str), v)] = none := by simp [List.lookup, qw]
    rw [q2]
    trivial
section
variable {X : Cx} {C fI : Addr}
/-- Unsaid(e) -/
def tMkUns (C : Addr) (ta : TA) : L2.St → Hp → XK → Prop := fun σ H Q => ta σ H fun vs H1 => ∃ p : Nat, vs = [.int p] ∧ p ≤ 100 ∧ ∀ d, H1 d = none → Q (.ref C) (some d) (upd H1 d (.xd [(("place" : Str), .int p)]))
theorem small_num {p : Nat} (h : p ≤ 100) : (p : Int).natAbs.log2 < 1920 ∧ (toString (p : Int) : Str).length ≤ 1000 := by
  have key : ∀ q : Fin 101, ((q.1 : Int)).natAbs.log2 < 1920 ∧ (toString (q.1 : Int) : Str).length ≤ 1000 := by decide +kernel
  exact key ⟨p, by omega⟩
theorem pmk_uns {a : Expr} {ta : TA} {p pos : Pos} {k : Nat} (T : PySem.UnsX.UnsTxt X.prog X.K X.mg C fI) (hr : Room k X.A) (ha : PA X [a] ta) (hg : Gl X "Unsaid" := by rfl)
    (he : starEach (a :: []) X.env = (false, eval a X.env) :: starEach [] X.env := by rfl) (hpl : (backTo pos (starEach [] X.env)).any (·.1) = false := by rfl) :
    PMk X (.Call (.Name "Unsaid" p) [a] [] pos) (tMkUns C ta) := by
  intro pins s σ H Q I h
  unfold tMkUns at h
  refine wpAny_Call_Name_kw (ld_glob I hg T.gC ?_)
  refine PySem.W.callWith_K (h₀ := X.base) I.ok.mod.kin T.kC (thn (ha.run pos pins s σ H _ I h) fun us s1 hh => ?_) he hpl
  obtain ⟨vs, H1, I1, r1, n, ev, hn, q1⟩ := hh
  subst ev
  refine ⟨I1.kIn, ?_⟩
  cases r1 with
  | cons rv rn =>
    rename_i v' us'
    cases rn
    obtain ⟨tv, rfl⟩ := rv
    show wpAny _ _ (call (.ref C) [.int n tv]) _ _ _
    have b1 := I1.mod
    have b2 := I1.bk
    obtain ⟨hp, g, dr, tk, os⟩ := s1
    refine wpAny_call (PySem.UnsX.uns_made T b1 b2 (small_num hn).1 (small_num hn).2 (by have := hr.dp; omega) fun h' tk' e d M => ?_)
    show MkP X pins σ Q (.ref e) ⟨h', g, dr, tk', os⟩
    obtain ⟨oe, fv, hoe, hc, hd, hdat, h1⟩ := M.obj
    have hns := M.ns
    obtain ⟨G', g1, g2⟩ := restrict h' fun b => decide (b ≠ e)
    have gk : ∀ b, b ≠ e → G'.get? b = h'.get? b := fun b hb => g1 b (decide_eq_true hb)
    have ge : G'.get? e = none := g2 e (by simp)
    have old : ∀ b o, hp.get? b = some o → G'.get? b = some o := fun b o q => (gk b (Nat.ne_of_lt (Nat.lt_of_lt_of_le (Heap.lt_size q) M.new))).trans (M.keep b o q)
    have ob : ObjOk X.prog X.w (upd H1 d (.xd [(("place" : Str), .int n)])) G' d (.xd [(("place" : Str), .int n)]) :=
      ⟨_, hns.at (fun o q => (gk d M.dne).trans q), fun f => relO_pl (v := .int n) ⟨tv, rfl⟩ f⟩
    have J : Inv X pins σ (upd H1 d (.xd [(("place" : Str), .int n)])) ⟨G', g, dr, tk', os⟩ := I1.laid (t' := tk') old M.dbig ob
    refine ⟨e, oe, fv, ⟨G', g, dr, tk', os⟩, _, .ref C, some d, rfl, J, fun b o q => ?_, ge, hoe, ⟨hc, hd⟩, hdat, h1, ?_, rfl, I1.bare, raises_own T.exC T.tyC, q1 d (I1.hok.fresh M.dbig)⟩
    · by_cases hb : b = e
      · have q' : G'.get? b = some o := q
        rw [hb, ge] at q'; cases q'
      · exact (gk b hb).symm.trans q
    · rw [upd_ne (Ne.symm M.dne)]
      exact I1.hok.fresh M.new
/-- raise Unsaid(e) -/
def tRaiseUns (C : Addr) (W : WX) (ta : TA) : TS := fun _ σ H => tMkUns C ta σ H fun cls d H' => W cls d σ H'
theorem ps_raiseUns {a : Expr} {ta : TA} {W : WX} {p pos pos2 : Pos} {k : Nat} (hc : X.calm = true) (T : PySem.UnsX.UnsTxt X.prog X.K X.mg C fI) (hr : Room k X.A) (tk : Takes X W) (ha : PA X [a] ta) (hg : Gl X "Unsaid" := by rfl)
    (he : starEach (a :: []) X.env = (false, eval a X.env) :: starEach [] X.env := by rfl) (hpl : (backTo pos (starEach [] X.env)).any (·.1) = false := by rfl) :
    PS X (.Raise (some (.Call (.Name "Unsaid" p) [a] [] pos)) none pos2) (tRaiseUns C W ta) := ps_raise hc tk (pmk_uns T hr ha hg he hpl)
end
end Say
namespace Say
open PySem PySem.Spec PyProof.Rows L2
section
variable {P : Program} {w : World} {K : PySem.W.Frag} {mg : Str → Option Value} {base : Heap} {C fI : Addr}
abbrev sWd : Stmt := topS 56
theorem scWd : FnScope ["rules", "word", "steps", "stuck"] ["rules", "word"] (defScope sWd) := ⟨rfl, rfl, rfl, by decide +kernel, rfl, by decide +kernel, by decide +kernel⟩
/-- the steps, or Unsaid with the place -/
def toldW (C : Addr) (rs : List Rule) (wd : List Nat) (H : Hp) (Q : VK) (E : XK) : Prop :=
  ((W rs wd).2 = none → ∀ (D : Addr) (H' : Hp), Same H H' → H D = none → StepsAt H' D (W rs wd).1 → Q (.ref D) H') ∧
  (∀ p : Nat, (W rs wd).2 = some p → ∀ (d : Addr) (H' : Hp), Same H H' → H d = none → H' d = some (.xd [(("place" : Str), .int p)]) → E (.ref C) (some d) H')
def spWdR (C : Addr) : Sp := fun vs H Q E => ∃ (R : Addr) (rs : List Rule) (wd : List Nat), vs = [.ref R, .str (T wd)] ∧ RulesAt H R rs ∧ (∀ ρ ∈ rs, RlOk ρ) ∧ wd.length ≤ 80 ∧ toldW C rs wd H Q E
theorem ok_wdR {f : Addr} {fd : FuncData} (F : Fun K "walked" "walked" sWd f fd) (Cs : Cn mg) (U : PySem.UnsX.UnsTxt P K mg C fI) (DS : Df P w K mg base "steps_of" ["rules", "tail"] 3 spSt) : FnOk P w K mg base (L2.CX P w) 4 f fd ["rules", "word"] (spWdR C) := by
  obtain ⟨fS, fdS, GS, kS, bS, mS⟩ := DS
  obtain ⟨tE, mE⟩ := Cs.edge
  refine F.okX scWd (fun vs H Q E h => ?_) (fun cdv A outer s H vs Q E hr h => ?_)
  · obtain ⟨R, rs, wd, rfl, _⟩ := h
    rfl
  · obtain ⟨R, rs, wd, rfl, hR, ho, hw, q1, q2⟩ := h
    refine ⟨_, pss_cons (ps_asg (pe_call GS hr (by rfl) mS kS bS .nil pass0 (pa_cons (pv 0) (pa_cons (pe_op op_add_str (pe_glob (v := .str "#") rfl mE ⟨_, rfl⟩) (pv 1)) pa_nil))) (pg_tup (by rfl) (pgs_cons (pg_name (i := 2) scWd.nd rfl (.inl rfl)) (pgs_cons (pg_name (i := 3) scWd.nd rfl (.inl rfl)) pgs_nil))))
      (pss_cons (ps_if (pt_cmpR op_notN (pv 3) pe_non (nomark _)) (pss_one (ps_raiseUns rfl U hr (takes_of rfl rfl rfl rfl) (by exact (pa_cons (pv 3) pa_nil)))) pss_nil)
      (pss_one (ps_ret (pv 2)))), ?_⟩
    refine ⟨_, rfl, _, rfl, _, _, rfl, rfl, (by rw [len_hash, T_len]; exact small (by omega)), R, rs, 35 :: wd, (by rw [hash_app]; rfl), hR, ho, by simp, by simp; omega, fun t D H1 s1 hD ht hS => ?_⟩
    rw [← W_Wt] at ht hS
    cases hN : (W rs wd).2 with
    | none =>
      rw [hN] at ht
      refine ⟨t, _, rfl, .inl (.inl ht), rfl, _, _, rfl, _, _, rfl, rfl, ?_⟩
      refine ⟨_, rfl, rfl, _, rfl, iteF ?_⟩
      exact ⟨_, rfl, q1 hN D H1 s1 hD hS⟩
    | some p =>
      rw [hN] at ht
      refine ⟨t, _, rfl, .inl (.inl ht), rfl, _, _, rfl, _, _, rfl, rfl, ?_⟩
      refine ⟨_, rfl, rfl, _, rfl, iteT ?_⟩
      refine ⟨_, rfl, p, rfl, by have := W_stuck hN; omega, fun d hd => ?_⟩
      exact q2 p hN d _ (s1.trans (same_new hd _)) (s1.free hd) upd_same
end
end Say
namespace Say
open PySem PySem.Spec PyProof.Rows L2
/-- the sounds of the rules of these numbers -/
def soL (rs : List Rule) (ks : List Nat) : List Nat := (ks.map fun k => (ruleAt rs k).so).flatten
/-- how rules say a word -/
def sayW (rs : List Rule) (wd : List Nat) : Option (List Nat) := if (W rs wd).2 = none then some (soL rs ((W rs wd).1.map (·.2))) else none
def optT : Option (List Nat) → V
  | none => .non
  | some s => .str (T s)
/-- how a book says a word -/
def saidM (rs : List Rule) (es : List Exc) (wd : List Nat) : Option (List Nat) := match es.find? fun e => decide (e.1 = wd) with
  | some e => some e.2
  | none => sayW rs wd
theorem sum_T : ∀ ls : List (List Nat), ((ls.map T).map fun z : Str => z.length).sum = ls.flatten.length
  | [] => rfl
  | l :: r => by
    show (T l).length + ((r.map T).map fun z : Str => z.length).sum = (l ++ r.flatten).length
    rw [sum_T r, T_len, List.length_append]
theorem flat_len {rs : List Rule} (h : ∀ ρ ∈ rs, RlOk ρ) : ∀ ks : List Nat, (∀ k ∈ ks, k < rs.length) → (soL rs ks).length ≤ 3 * ks.length
  | [], _ => Nat.zero_le _
  | k :: r, hk => by
    have ih := flat_len h r fun j hj => hk j (List.mem_cons_of_mem _ hj)
    have hl := hk k (List.mem_cons_self ..)
    have e : ruleAt rs k = rs[k] := ruleAt_eq (List.getElem?_eq_getElem hl)
    have h3 := (h _ (List.getElem_mem hl)).s3
    show ((ruleAt rs k).so ++ soL rs r).length ≤ 3 * (r.length + 1)
    rw [List.length_append, e]
    omega
theorem wk_lt {rs : List Rule} {z : List Nat} : ∀ (m i : Nat), ∀ s ∈ (wk rs z m i).1, s.2 < rs.length
  | 0, _, s, h => by cases h
  | m + 1, i, s, h => by
    by_cases c : i < z.length - 1
    · cases e : ff rs z i with
      | none => rw [wk_none c e] at h; cases h
      | some k =>
        rw [wk_some c e] at h
        rcases List.mem_cons.mp h with rfl | h
        · exact ff_lt e
        · exact wk_lt m _ s h
    · rw [wk_end rs z _ i c] at h
      cases h
section
variable {P : Program} {w : World} {K : PySem.W.Frag} {mg : Str → Option Value} {base : Heap}
abbrev sNum : Stmt := topS 52
theorem scNum : FnScope ["steps", "_", "number"] ["steps"] (defScope sNum) := ⟨rfl, rfl, rfl, by decide +kernel, rfl, by decide +kernel, by decide +kernel⟩
def spNum : Sp := fun vs H Q _ => ∃ (D : Addr) (ss : List (Nat × Nat)), vs = [.ref D] ∧ StepsAt H D ss ∧ ss.length ≤ 200 ∧ ∀ (D' : Addr) (H' : Hp), Same H H' → H D' = none → H' D' = some (.lst (ss.map fun s => V.int (s.2 : Nat))) → Q (.ref D') H'
theorem ok_num {f : Addr} {fd : FuncData} {k : Nat} (F : Fun K "numbers_of" "numbers_of" sNum f fd) : FnOk P w K mg base CX0 (k + 1) f fd ["steps"] spNum := by
  refine F.ok scNum (fun vs H Q E h => ?_) (fun cdv A outer s H vs Q E hr h => ?_)
  · obtain ⟨D, ss, rfl, _⟩ := h
    rfl
  · obtain ⟨D, ss, rfl, ⟨ts, hD, hp⟩, hl, q⟩ := h
    refine ⟨_, pss_one (ps_ret (pe_lc (own := [("_", 1), ("number", 2)]) (g := gTup K 2 (gCons (gName 1) (gCons (gName 2) gNil))) rfl scNum.nd (pi_list (pv 0))
        (blkOk_by (N := ["steps", "_", "number"]) (sc := defScope sNum) (by decide +kernel)) (fun _ _ _ _ _ => pg_tup (by rfl) (pgs_cons (pg_name (i := 1) scNum.nd rfl (.inl rfl)) (pgs_cons (pg_name (i := 2) scNum.nd rfl (.inl rfl)) pgs_nil)))
        (fun _ _ _ _ _ => pts_nil) (fun _ _ _ _ _ => pv 2))), ?_⟩
    refine ⟨_, rfl, D, rfl, ⟨_, .inl (.inl hD)⟩, fun D' hD' => ?_⟩
    refine lc_it (walk_list (xs := ts.map V.ref)) (fun i H2 => H2 D' = some (.lst ((ss.take i).map fun s => V.int (s.2 : Nat))) ∧ Same H H2) ?_ (fun i H2 _ h => .inl (.inl (h.2 _ _ hD))) ?_ ?_
    · exact ⟨upd_same, same_new hD' _⟩
    · rintro i x H2 H2' hi ⟨e1, e2⟩ ⟨rfl, hx⟩
      rw [List.getElem?_map] at hx
      obtain ⟨a, ha, e⟩ := Option.map_eq_some_iff.mp hx
      subst e
      obtain ⟨st, hst, hat⟩ := paired_at hp ha
      have hi2 : i < ss.length := (List.getElem?_eq_some_iff.mp hst).1
      refine ⟨a, _, rfl, .inl (.inl (e2 _ _ hat)), rfl, _, _, rfl, _, _, rfl, rfl, ?_⟩
      refine ⟨rfl, _, rfl, _, e1, ?_, ?_, ?_⟩
      · rw [List.length_map, List.length_take]
        exact small1000 (by omega)
      · rw [upd_same, List.take_add_one, hst, List.map_append]
        rfl
      · exact fun b u q => by
          rw [upd_ne (ne_of_none q hD')]
          exact e2 b u q
    · rintro H2 ⟨e1, e2⟩
      rw [List.length_map, paired_len hp, List.take_length] at e1
      exact q D' H2 e2 hD' e1
end
end Say
namespace Say
open PySem PySem.Spec PyProof.Rows L2
section
variable {P : Program} {w : World} {K : PySem.W.Frag} {mg : Str → Option Value} {base : Heap}
abbrev sSou : Stmt := topS 53
theorem scSou : FnScope ["rules", "numbers", "number"] ["rules", "numbers"] (defScope sSou) := ⟨rfl, rfl, rfl, by decide +kernel, rfl, by decide +kernel, by decide +kernel⟩
def spSou : Sp := fun vs H Q _ => ∃ (R D : Addr) (rs : List Rule) (ks : List Nat), vs = [.ref R, .ref D] ∧ RulesAt H R rs ∧ (∀ ρ ∈ rs, RlOk ρ) ∧ H D = some (.lst (ks.map fun k => V.int (k : Nat))) ∧ (∀ k ∈ ks, k < rs.length) ∧ ks.length ≤ 200 ∧
  ∀ (H' : Hp), Same H H' → Q (.str (T (soL rs ks))) H'
theorem ok_sou {f : Addr} {fd : FuncData} {k : Nat} (F : Fun K "sounds_of" "sounds_of" sSou f fd) (cS : KI mg "SOUNDS" 3) : FnOk P w K mg base CX0 (k + 1) f fd ["rules", "numbers"] spSou := by
  obtain ⟨tS, mS⟩ := cS
  refine F.ok scSou (fun vs H Q E h => ?_) (fun cdv A outer s H vs Q E hr h => ?_)
  · obtain ⟨R, D, rs, ks, rfl, _⟩ := h
    rfl
  · obtain ⟨R, D, rs, ks, rfl, ⟨rts, hR, hRp⟩, ho, hD, hk, hl, q⟩ := h
    refine ⟨_, pss_one (ps_ret (pe_join pe_str (pe_lc (own := [("number", 2)]) (g := gName 2) (te := tOp (rIxT K) (tOp (rIxT K) (tVar 0) (tVar 2)) (tC (.int 3))) rfl scSou.nd (pi_list (pv 1))
        (blkOk_by (N := ["rules", "numbers", "number"]) (sc := defScope sSou) (by decide +kernel)) (fun _ _ _ _ _ => pg_name (i := 2) scSou.nd rfl (.inl rfl))
        (fun _ _ _ _ _ => pts_nil) (fun _ _ _ _ _ => pe_ix ix_tup (pe_ix ix_tup (pv 0) (pv 2) (fun _ _ => rfl)) (pe_glob (v := .int 3) rfl mS ⟨_, rfl⟩) (fun _ _ => rfl))))), ?_⟩
    refine ⟨⟨_, rfl⟩, _, rfl, D, rfl, ⟨_, .inl (.inl hD)⟩, fun D' hD' => ?_⟩
    refine lc_it (walk_list (xs := ks.map fun k => V.int (k : Nat))) (fun i H2 => H2 D' = some (.lst ((((ks.take i).map fun k => (ruleAt rs k).so).map T).map V.str)) ∧ Same H H2) ?_ (fun i H2 _ h => .inl (.inl (h.2 _ _ hD))) ?_ ?_
    · exact ⟨upd_same, same_new hD' _⟩
    · rintro i x H2 H2' hi ⟨e1, e2⟩ ⟨rfl, hx⟩
      rw [List.getElem?_map] at hx
      obtain ⟨j, hj, e⟩ := Option.map_eq_some_iff.mp hx
      subst e
      have hjl := hk j (List.mem_of_getElem? hj)
      have hi2 : i < ks.length := (List.getElem?_eq_some_iff.mp hj).1
      obtain ⟨a, ha, hat⟩ := paired_at' hRp (List.getElem?_eq_getElem hjl)
      have er : ruleAt rs j = rs[j] := ruleAt_eq (List.getElem?_eq_getElem hjl)
      refine ⟨rfl, ?_⟩
      refine ⟨_, rfl, _, rfl, R, _, (j : Int), .ref a, rfl, rfl, .inl (.inl (e2 _ _ hR)), atI_nat (by rw [List.getElem?_map, ha]; rfl), a, _, 3, .str (T rs[j].so), rfl, rfl, .inl (.inl (e2 _ _ hat)), atI_nat (j := 3) rfl, _, e1, ?_, ?_, ?_⟩
      · rw [List.length_map, List.length_map, List.length_map, List.length_take]
        exact small1000 (by omega)
      · rw [upd_same, List.take_add_one, hj]
        simp only [Option.toList_some, List.map_append, List.map_cons, List.map_nil, er]
      · exact fun b u q => by
          rw [upd_ne (ne_of_none q hD')]
          exact e2 b u q
    · rintro H2 ⟨e1, e2⟩
      rw [List.length_map, List.take_length] at e1
      refine ⟨Str.ofString "", D', (ks.map fun k => (ruleAt rs k).so).map T, rfl, rfl, .inl (.inl (.inl e1)), ?_, ?_⟩
      · rw [sum_T]
        have := flat_len ho ks hk
        show (soL rs ks).length + _ * 0 ≤ _
        omega
      · rw [show Str.ofString "" = T [] from nil_eq, join_nil]
        exact q H2 e2
end
end Say
namespace Say
open PySem PySem.Spec PyProof.Rows L2
section
variable {P : Program} {w : World} {K : PySem.W.Frag} {mg : Str → Option Value} {base : Heap}
abbrev sChW : Stmt := topS 32
theorem scChW : FnScope ["letters", "word"] ["letters", "word"] (defScope sChW) := ⟨rfl, rfl, rfl, by decide +kernel, rfl, by decide +kernel, by decide +kernel⟩
def spChW : Sp := fun vs H Q _ => ∃ (L z : List Nat), vs = [.str (T L), .str (T z)] ∧ (∀ c ∈ z, c ∈ L) ∧ z.length ≤ 12 ∧ ∀ (H' : Hp), Same H H' → Q .non H'
theorem ok_chW {f : Addr} {fd : FuncData} (F : Fun K "check_word" "check_word" sChW f fd) (cL : KI mg "LONGEST_WORD" 12) (DT : Df P w K mg base "is_text" psIsText 1 spIsText) :
    FnOk P w K mg base CX0 2 f fd ["letters", "word"] spChW := by
  obtain ⟨fT, fdT, GT, kT, bT, mT⟩ := DT
  obtain ⟨tS, mS⟩ := cL
  refine F.ok scChW (fun vs H Q E h => ?_) (fun cdv A outer s H vs Q E hr h => ?_)
  · obtain ⟨L, z, rfl, _⟩ := h
    rfl
  · obtain ⟨L, z, rfl, h1, h2, q⟩ := h
    refine ⟨_, pss_one (ps_if (pt_not (pt_val (pe_call GT hr (by rfl) mT kT bT .nil pass0 (pa_cons (pv 1) (pa_cons (pv 0) (pa_cons pe_int (pa_cons (pe_glob (v := .int 12) rfl mS ⟨_, rfl⟩) pa_nil))))))) (pss_one ps_never) pss_nil), ?_⟩
    refine ⟨_, rfl, _, rfl, z, L, 0, 12, rfl, by omega, fun H1 s1 => ?_⟩
    rw [isText_of (Nat.zero_le _) h2 h1]
    exact ⟨true, rfl, iteF (q H1 s1)⟩
end
end Say
namespace Say
open PySem PySem.Spec PyProof.Rows L2
section
variable {P : Program} {w : World} {K : PySem.W.Frag} {mg : Str → Option Value} {base : Heap} {C fI : Addr}
abbrev sSaid : Stmt := topS 55
theorem scSaid : FnScope ["book", "word", "letters", "rules", "exceptions", "written", "sounds"] ["book", "word"] (defScope sSaid) := ⟨rfl, rfl, rfl, by decide +kernel, rfl, by decide +kernel, by decide +kernel⟩
/-- the sounds, or Unsaid with the place -/
def toldS (C : Addr) (rs : List Rule) (es : List Exc) (wd : List Nat) (H : Hp) (Q : VK) (E : XK) : Prop :=
  (∀ so, saidM rs es wd = some so → ∀ (H' : Hp), Same H H' → Q (.str (T so)) H') ∧
  (saidM rs es wd = none → ∀ p : Nat, (W rs wd).2 = some p → ∀ (d : Addr) (H' : Hp), Same H H' → H d = none → H' d = some (.xd [(("place" : Str), .int p)]) → E (.ref C) (some d) H')
def spSaidR (C : Addr) : Sp := fun vs H Q E => ∃ (b : Addr) (L : List Nat) (rs : List Rule) (es : List Exc) (wd : List Nat), vs = [.ref b, .str (T wd)] ∧ BookAt H b L rs es ∧ BookOk L rs es ∧ (∀ c ∈ wd, c ∈ L) ∧ wd.length ≤ 12 ∧ toldS C rs es wd H Q E
theorem ok_saidR {f fD : Addr} {fd fdD : FuncData} (F : Fun K "said" "said" sSaid f fd) (DC : Df P w K mg base "checked_book" ["book"] 5 spCh) (DW : Df P w K mg base "check_word" ["letters", "word"] 2 spChW)
    (GD : FnOk P w K mg base (L2.CX P w) 4 fD fdD ["rules", "word"] (spWdR C)) (kD : PySem.W.keepIn K (.ref fD) = true) (bD : Binds K fdD ["rules", "word"] []) (mD : mg "walked" = some (.ref fD))
    (DN : Df P w K mg base "numbers_of" ["steps"] 1 spNum) (DS : Df P w K mg base "sounds_of" ["rules", "numbers"] 1 spSou) : FnOk P w K mg base (L2.CX P w) 6 f fd ["book", "word"] (spSaidR C) := by
  obtain ⟨fC, fdC, GC, kC, bC, mC⟩ := DC
  obtain ⟨fW, fdW, GW, kW, bW, mW⟩ := DW
  obtain ⟨fN, fdN, GN, kN, bN, mN⟩ := DN
  obtain ⟨fS, fdS, GS, kS, bS, mS⟩ := DS
  refine F.okX scSaid (fun vs H Q E h => ?_) (fun cdv A outer s H vs Q E hr h => ?_)
  · obtain ⟨b, L, rs, es, wd, rfl, _⟩ := h
    rfl
  · obtain ⟨b, L, rs, es, wd, rfl, hB, ho, hw, hl, q1, q2⟩ := h
    have tk : Takes _ (fun cls d _ H => E cls d H) := takes_of (X := cxOf (L2.CX P w) P w K mg base ["book", "word", "letters", "rules", "exceptions", "written", "sounds"] "said" (defScope sSaid) f cdv A outer s H E) rfl rfl rfl rfl
    have px : PassesOwn (model P w) (A.deeper (envOfC "said" (defScope sSaid) s.heap.objs.size f cdv)) (envOfC "said" (defScope sSaid) s.heap.objs.size f cdv) (cxOf (L2.CX P w) P w K mg base ["book", "word", "letters", "rules", "exceptions", "written", "sounds"] "said" (defScope sSaid) f cdv A outer s H E).xe := PassesOwn.leaving
    refine ⟨_, pss_cons (ps_asg (pe_call GC hr (by rfl) mC kC bC .nil pass0 (pa_cons (pv 0) pa_nil)) (pg_tup (by rfl) (pgs_cons (pg_name (i := 2) scSaid.nd rfl (.inl rfl)) (pgs_cons (pg_name (i := 3) scSaid.nd rfl (.inl rfl)) (pgs_cons (pg_name (i := 4) scSaid.nd rfl (.inl rfl)) pgs_nil)))))
      (pss_cons (ps_expr (pe_call GW (hr.mono (by decide)) (by rfl) mW kW bW .nil pass0 (pa_cons (pv 2) (pa_cons (pv 1) pa_nil))))
      (pss_cons (ps_for px rfl (pi_tup (pv 4)) (pg_tup (by rfl) (pgs_cons (pg_name (i := 5) scSaid.nd rfl (.inl rfl)) (pgs_cons (pg_name (i := 6) scSaid.nd rfl (.inl rfl)) pgs_nil)))
        (pss_one (ps_if (pt_cmpR op_eq (pv 5) (pv 1) (nomark _)) (pss_one (ps_ret (pv 6))) pss_nil)))
      (pss_one (ps_ret (pe_call GS (hr.mono (by decide)) (by rfl) mS kS bS .nil pass0 (pa_cons (pv 3) (pa_cons (pe_call GN (hr.mono (by decide)) (by rfl) mN kN bN .nil pass0 (pa_cons (pe_callS GD (hr.mono (by decide)) (by rfl) mD kD bD (fun σ => passAt tk σ) (by exact (pa_cons (pv 3) (pa_cons (pv 1) pa_nil)))) pa_nil)) pa_nil))))))), ?_⟩
    refine ⟨_, rfl, b, L, rs, es, rfl, hB, ho, fun H1 s1 => ?_⟩
    obtain ⟨R, X, hb, hR, hX⟩ := hB.kt (.of s1)
    obtain ⟨ts, hXl, hXp⟩ := id hX
    refine ⟨b, _, rfl, .inl (.inl hb), rfl, _, _, rfl, _, _, rfl, _, _, rfl, rfl, ?_⟩
    refine ⟨_, rfl, _, rfl, L, wd, rfl, hw, hl, fun H2 s2 => ?_⟩
    have hXl2 := hXl.kt (.of s2)
    refine ⟨_, rfl, X, rfl, ⟨_, .inl hXl2.rd⟩, for_it (walk_tup (xs := ts.map V.ref)) (fun i σ H3 => Same H2 H3 ∧ (∃ v5 v6, σ = [some (.ref b), some (.str (T wd)), some (.str (T L)), some (.ref R), some (.ref X), v5, v6]) ∧ ∀ j e, j < i → es[j]? = some e → ¬ e.1 = wd)
      ⟨Same.refl _, ⟨_, _, rfl⟩, fun j e h => absurd h (Nat.not_lt_zero j)⟩ (fun i σ H3 _ h => .inl (hXl2.kt (.of h.1)).rd) ?_ ?_⟩
    · rintro i x σ H3 H4 hi ⟨s3, ⟨v5, v6, rfl⟩, hn⟩ ⟨rfl, hx⟩
      rw [List.getElem?_map] at hx
      obtain ⟨a, ha, e⟩ := Option.map_eq_some_iff.mp hx
      subst e
      obtain ⟨e, he, hat⟩ := paired_at hXp ha
      have hat' := s3 _ _ (s2 _ _ hat)
      refine ⟨a, _, rfl, .inl (.inl hat'), rfl, _, _, rfl, _, _, rfl, rfl, ?_⟩
      refine ⟨_, rfl, _, rfl, rfl, _, rfl, ?_⟩
      rw [eqT]
      refine ite2 (fun c => ?_) (fun c => ?_)
      · have c := of_decide_eq_true c
        have ef : es.find? (fun e => decide (e.1 = wd)) = some e := by
          refine List.find?_eq_some_iff_getElem.mpr ⟨decide_eq_true c, i, (List.getElem?_eq_some_iff.mp he).1, (List.getElem?_eq_some_iff.mp he).2, fun j hj => ?_⟩
          have := hn j _ hj (List.getElem?_eq_getElem (by have := (List.getElem?_eq_some_iff.mp he).1; omega))
          simp only [this, decide_false, Bool.not_false]
        exact ⟨_, rfl, q1 e.2 (by unfold saidM; rw [ef]) _ (s1.trans (s2.trans s3))⟩
      · have c := of_decide_eq_false (Bool.eq_false_iff.mpr c)
        refine ⟨s3, ⟨_, _, rfl⟩, fun j e' hj he' => ?_⟩
        by_cases ej : j = i
        · subst ej
          rw [he] at he'
          cases he'
          exact c
        · exact hn j e' (by omega) he'
    · rintro σ H3 ⟨s3, ⟨v5, v6, rfl⟩, hn⟩
      have ef : es.find? (fun e => decide (e.1 = wd)) = none := by
        refine List.find?_eq_none.mpr fun e he => ?_
        obtain ⟨j, hj⟩ := List.mem_iff_getElem?.mp he
        have := hn j e (by rw [List.length_map, paired_len hXp]; exact (List.getElem?_eq_some_iff.mp hj).1) hj
        simpa using this
      have eM : saidM rs es wd = sayW rs wd := by
        unfold saidM
        rw [ef]
      have hR3 := hR.kt (.of (s2.trans s3))
      have hlw : (W rs wd).1.length ≤ wd.length + 1 := wk_len rs (sgn wd) (wd.length + 1) 1
      have s13 := s1.trans (s2.trans s3)
      refine ⟨_, rfl, _, rfl, _, rfl, R, rs, wd, rfl, hR3, ho.rls, by omega, fun hN D H4 s4 hD hS => ?_, fun p hp d H4 s4 hd hH => ?_⟩
      · refine ⟨D, _, rfl, hS, by omega, fun D' H5 s5 _ hD' => ?_⟩
        refine ⟨R, D', rs, ((W rs wd).1.map fun s : Nat × Nat => s.2), rfl, hR3.kt (.of (s4.trans s5)), ho.rls, by rw [hD', List.map_map]; rfl, fun k hk => ?_, by rw [List.length_map]; omega, fun H6 s6 => ?_⟩
        · obtain ⟨st, hst, rfl⟩ := List.mem_map.mp hk
          exact wk_lt _ _ st hst
        · exact q1 _ (by rw [eM]; unfold sayW; rw [if_pos hN]) H6 (s13.trans (s4.trans (s5.trans s6)))
      · refine q2 ?_ p hp d H4 (s13.trans s4) (s13.free hd) hH
        rw [eM]
        unfold sayW
        rw [if_neg (by rw [hp]; intro z; cases z)]
end
end Say
/-! ### defs whose exceptions have no context -/
namespace L2
open PySem PySem.Spec PyProof.Rows
section
variable {P : Program} {w : World} {K : PySem.W.Frag} {mg : Str → Option Value} {base : Heap}
theorem Fun.okN {x qual : Str} {st : Stmt} {f : Addr} {fd : FuncData} {N ps : List Str} {k : Nat} {sp : Sp} (F : Fun K x qual st f fd) (S : FnScope N ps (defScope st)) (len : ∀ vs H Q E, sp vs H Q E → vs.length = ps.length)
    (hb : ∀ (cdv : Value) (A : Around) (outer : List Env) (s : Shared) (H : Hp) (vs : List V) (Q : VK) (E : XK), Room k (A.deeper (envOfC qual (defScope st) s.heap.objs.size f cdv)) → sp vs H Q E →
      ∃ t, PSs (cxOf (L2N.CX P w) P w K mg base N qual (defScope st) f cdv A outer s H E) (defBody st) t ∧ t { nx := fun _ H' => Q .non H', rt := Q } (start N vs) H) : FnOk P w K mg base (L2N.CX P w) (k + 1) f fd ps sp := by
  obtain ⟨oc, od, kV, doc, pm, an, cdv, ct, osl, rfl, lk, hcd⟩ := F.ex
  exact fn_of lk hcd S len fun A outer s H vs Q E hr hsp => hb cdv A outer s H vs Q E hr hsp
end
end L2
namespace Say
open PySem PySem.Spec PyProof.Rows L2
/-! ### what desks refuse -/
/-- what the top says of a refusal without fields -/
structure RaQ (K : PySem.W.Frag) (mg : Str → Option Value) (x : Str) (C : Addr) : Prop where
  ex : PySem.W.excIn K C [.type "ValueError", .type "Exception", .type "BaseException", .type "object"] "ValueError.__new__" = true
  g : mg x = some (.ref C)
  k : PySem.W.keepIn K (.ref C) = true
  b : PySem.W.subIn K (.ref C) (.type "BaseException") = some true
  t : PySem.W.typeIn K (.ref C) = some (.type "type")
def NumV (v : V) : Prop := v = .non ∨ (∃ i, v = .int i) ∨ (∃ b, v = .bl b) ∨ ∃ z, v = .str z
def cntV : V → Int → Bool
  | .int i, m => decide (0 ≤ i) && decide (i ≤ m)
  | _, _ => false
theorem cntV_int {v : V} {m : Int} (h : cntV v m = true) : ∃ p : Int, v = .int p ∧ 0 ≤ p ∧ p ≤ m := by
  cases v with
  | int i =>
    unfold cntV at h
    rw [Bool.and_eq_true, decide_eq_true_eq, decide_eq_true_eq] at h
    exact ⟨i, rfl, h.1, h.2⟩
  | _ => cases h
section
variable {P : Program} {w : World} {K : PySem.W.Frag} {mg : Str → Option Value} {base : Heap}
abbrev sCnq : Stmt := topS 42
theorem scCnq : FnScope ["number", "most"] ["number", "most"] (defScope sCnq) := ⟨rfl, rfl, rfl, by decide +kernel, rfl, by decide +kernel, by decide +kernel⟩
def spCnV : Sp := fun vs H Q _ => ∃ (v : V) (m : Int), vs = [v, .int m] ∧ NumV v ∧ Q (.bl (cntV v m)) H
theorem ok_cnV {f : Addr} {fd : FuncData} (F : Fun K "is_count" "is_count" sCnq f fd) (B : Bn mg) (hi : mg "int" = none) : FnOk P w K mg base CX0 1 f fd ["number", "most"] spCnV := by
  refine F.ok scCnq (fun vs H Q E h => ?_) (fun cdv A outer s H vs Q E hr h => ?_)
  · obtain ⟨v, m, rfl, _⟩ := h
    rfl
  · obtain ⟨v, m, rfl, hv, q⟩ := h
    refine ⟨_, pss_cons (ps_if (PW.pt (pw_or (pt_not (pt_val (pe_callB call_isi (by rfl) B.isi (by decide +kernel) (pa_cons (pv 0) (pa_cons (pe_bltn (v := .ty "int") rfl hi (by decide +kernel) rfl) pa_nil)))))
        (pw_or1 (pt_val (pe_callB call_isi (by rfl) B.isi (by decide +kernel) (pa_cons (pv 0) (pa_cons (pe_bltn (v := .ty "bool") rfl B.bool (by decide +kernel) rfl) pa_nil)))))))
        (pss_one (ps_ret pe_bl)) pss_nil)
      (pss_one (ps_ret (pe_chain op_le op_le pe_int (pv 0) (pv 1)))), ?_⟩
    rcases hv with rfl | ⟨i, rfl⟩ | ⟨b, rfl⟩ | ⟨z, rfl⟩
    · exact ⟨_, rfl, _, _, .type _, _, false, rfl, ClsV.ty _, .base .non, kit_ty (by decide +kernel), false, rfl, iteT q⟩
    · refine ⟨_, rfl, _, _, .type "int", _, true, rfl, ClsV.ty _, .base (.int _), kit_ty (by decide +kernel), true, rfl, iteF ?_⟩
      refine ⟨_, rfl, _, _, .type "int", _, false, rfl, ClsV.ty _, .base (.int _), kit_ty (by decide +kernel), false, rfl, iteF ?_⟩
      have q : Q (V.bl (decide (0 ≤ i) && decide (i ≤ m))) H := q
      refine ⟨_, rfl, _, _, rfl, rfl, decide ((0 : Int) ≤ i), rfl, ?_⟩
      cases c : decide ((0 : Int) ≤ i) with
      | false => rw [c] at q; exact iteF q
      | true => rw [c] at q; exact iteT ⟨_, rfl, _, _, rfl, rfl, q⟩
    · refine ⟨_, rfl, _, _, .type "bool", _, true, rfl, ClsV.ty _, .base (.bl _), kit_ty (by decide +kernel), true, rfl, iteF ?_⟩
      exact ⟨_, rfl, _, _, .type "bool", _, true, rfl, ClsV.ty _, .base (.bl _), kit_ty (by decide +kernel), true, rfl, iteT q⟩
    · exact ⟨_, rfl, _, _, .type "str", _, false, rfl, ClsV.ty _, .base (.str _), kit_ty (by decide +kernel), false, rfl, iteT q⟩
abbrev sCp : Stmt := topS 60
theorem scCp : FnScope ["place", "most"] ["place", "most"] (defScope sCp) := ⟨rfl, rfl, rfl, by decide +kernel, rfl, by decide +kernel, by decide +kernel⟩
def spCp (CC : Addr) : Sp := fun vs H Q E => ∃ (v : V) (m : Int), vs = [v, .int m] ∧ NumV v ∧ (cntV v m = true → Q .non H) ∧ (cntV v m = false → E (.ref CC) none H)
theorem ok_cp {f CC : Addr} {fd : FuncData} (F : Fun K "check_place" "check_place" sCp f fd) (R : RaQ K mg "BadCount" CC) (D : Df P w K mg base "is_count" ["number", "most"] 1 spCnV) : FnOk P w K mg base (L2N.CX P w) 2 f fd ["place", "most"] (spCp CC) := by
  obtain ⟨fT, fdT, GT, kT, bT, mT⟩ := D
  refine F.okN scCp (fun vs H Q E h => ?_) (fun cdv A outer s H vs Q E hr h => ?_)
  · obtain ⟨v, m, rfl, _⟩ := h
    rfl
  · obtain ⟨v, m, rfl, hv, q1, q2⟩ := h
    refine ⟨_, pss_one (ps_if (pt_not (pt_val (pe_call GT hr (by rfl) mT kT bT .nil pass0 (pa_cons (pv 0) (pa_cons (pv 1) pa_nil))))) (pss_one (L2N.ps_raise rfl (L2N.takes_of rfl rfl rfl rfl) (L2N.pmk_own PySem.F.excBase_ValueError R.ex R.g R.k (raises_own R.b R.t) rfl))) pss_nil), ?_⟩
    refine ⟨_, rfl, _, rfl, v, m, rfl, hv, _, rfl, ?_⟩
    cases c : cntV v m with
    | true => exact iteF (q1 c)
    | false => exact iteT (q2 c)
abbrev sCx : Stmt := topS 33
theorem scCx : FnScope ["letters", "word"] ["letters", "word"] (defScope sCx) := ⟨rfl, rfl, rfl, by decide +kernel, rfl, by decide +kernel, by decide +kernel⟩
def spCx (K : PySem.W.Frag) (CW : Addr) : Sp := fun vs H Q E => ∃ (L : List Nat) (v : V), vs = [.str (T L), v] ∧ VOk K H v ∧ (txV v L 1 8 = true → ∀ H', Same H H' → Q .non H') ∧ (txV v L 1 8 = false → ∀ H', Same H H' → E (.ref CW) none H')
theorem ok_cx {f CW : Addr} {fd : FuncData} (F : Fun K "check_excepted" "check_excepted" sCx f fd) (R : RaQ K mg "BadWord" CW) (D : Df P w K mg base "is_excepted" ["letters", "word"] 2 (spExdV K)) : FnOk P w K mg base (L2N.CX P w) 3 f fd ["letters", "word"] (spCx K CW) := by
  obtain ⟨fT, fdT, GT, kT, bT, mT⟩ := D
  refine F.okN scCx (fun vs H Q E h => ?_) (fun cdv A outer s H vs Q E hr h => ?_)
  · obtain ⟨L, v, rfl, _⟩ := h
    rfl
  · obtain ⟨L, v, rfl, hv, q1, q2⟩ := h
    refine ⟨_, pss_one (ps_if (pt_not (pt_val (pe_call GT hr (by rfl) mT kT bT .nil pass0 (pa_cons (pv 0) (pa_cons (pv 1) pa_nil))))) (pss_one (L2N.ps_raise rfl (L2N.takes_of rfl rfl rfl rfl) (L2N.pmk_own PySem.F.excBase_ValueError R.ex R.g R.k (raises_own R.b R.t) rfl))) pss_nil), ?_⟩
    refine ⟨_, rfl, _, rfl, L, v, rfl, hv, fun H1 s1 => ⟨_, rfl, ?_⟩⟩
    cases c : txV v L 1 8 with
    | true => exact iteF (q1 c H1 s1)
    | false => exact iteT (q2 c H1 s1)
abbrev sCs : Stmt := topS 34
theorem scCs : FnScope ["sounds"] ["sounds"] (defScope sCs) := ⟨rfl, rfl, rfl, by decide +kernel, rfl, by decide +kernel, by decide +kernel⟩
def spCs (K : PySem.W.Frag) (CS : Addr) : Sp := fun vs H Q E => ∃ (v : V), vs = [v] ∧ VOk K H v ∧ (txV v capsL 0 36 = true → ∀ H', Same H H' → Q .non H') ∧ (txV v capsL 0 36 = false → ∀ H', Same H H' → E (.ref CS) none H')
theorem ok_cs {f CS : Addr} {fd : FuncData} (F : Fun K "check_sounds" "check_sounds" sCs f fd) (R : RaQ K mg "BadSounds" CS) (D : Df P w K mg base "is_sounds" ["sounds"] 2 (spSoV K)) : FnOk P w K mg base (L2N.CX P w) 3 f fd ["sounds"] (spCs K CS) := by
  obtain ⟨fT, fdT, GT, kT, bT, mT⟩ := D
  refine F.okN scCs (fun vs H Q E h => ?_) (fun cdv A outer s H vs Q E hr h => ?_)
  · obtain ⟨v, rfl, _⟩ := h
    rfl
  · obtain ⟨v, rfl, hv, q1, q2⟩ := h
    refine ⟨_, pss_one (ps_if (pt_not (pt_val (pe_call GT hr (by rfl) mT kT bT .nil pass0 (pa_cons (pv 0) pa_nil)))) (pss_one (L2N.ps_raise rfl (L2N.takes_of rfl rfl rfl rfl) (L2N.pmk_own PySem.F.excBase_ValueError R.ex R.g R.k (raises_own R.b R.t) rfl))) pss_nil), ?_⟩
    refine ⟨_, rfl, v, rfl, hv, fun H1 s1 => ⟨_, rfl, ?_⟩⟩
    cases c : txV v capsL 0 36 with
    | true => exact iteF (q1 c H1 s1)
    | false => exact iteT (q2 c H1 s1)
/-! ### the methods -/
abbrev nPu : List Str := ["self", "place", "rule", "letters", "rules", "exceptions"]
theorem scPu : FnScope nPu ["self", "place", "rule"] (defScope (sDk 3)) := ⟨rfl, rfl, rfl, by decide +kernel, rfl, by decide +kernel, by decide +kernel⟩
def spPuR (K : PySem.W.Frag) (C CC CB : Addr) : Sp := fun vs H Q E => ∃ (y b t : Addr) (L : List Nat) (rs : List Rule) (es : List Exc) (ws : List Str) (i : Bool) (v r : V), vs = [.ref y, v, r] ∧ DkAt C H y b t L rs es ws i ∧ BookOk L rs es ∧ NumV v ∧
  (cntV v rs.length = false → ∀ H', Same H H' → E (.ref CC) none H') ∧ (∀ p : Int, v = .int p → cntV v rs.length = true → RulR K H L r false ∧ refB CB H E 1 p)
theorem ok_puR {f C CC CB fI fP : Addr} {fd fdP : FuncData} (F : Fun K "put" "Desk.put" (sDk 3) f fd) (S : DkC K C) (B : Bn mg) (Cs : Cn mg) (cR : KI mg "RULES" 1) (O : PySem.XBadBook.ExTxt P K mg CB fI) (GP : FnOk P w K mg base (L2N.CX P w) 2 fP fdP ["place", "most"] (spCp CC)) (kP : PySem.W.keepIn K (.ref fP) = true) (bP : Binds K fdP ["place", "most"] []) (mP : mg "check_place" = some (.ref fP))
    (DI : Df P w K mg base "is_rule" ["letters", "rule"] 3 (spIsRuV K)) : FnOk P w K mg base (L2N.CX P w) 4 f fd ["self", "place", "rule"] (spPuR K C CC CB) := by
  obtain ⟨fT, fdT, GT, kT, bT, mT⟩ := DI
  obtain ⟨tR, mR⟩ := cR
  refine F.okN scPu (fun vs H Q E h => ?_) (fun cdv A outer s H vs Q E hr h => ?_)
  · obtain ⟨y, b, t, L, rs, es, ws, i, v, r, rfl, _⟩ := h
    rfl
  · obtain ⟨y, b, t, L, rs, es, ws, i, v, r, rfl, hk, ho, hv, q1, q2⟩ := h
    have tk : L2N.Takes _ (fun cls d _ H => E cls d H) := L2N.takes_of (X := cxOf (L2N.CX P w) P w K mg base nPu "Desk.put" (defScope (sDk 3)) f cdv A outer s H E) rfl rfl rfl rfl
    refine ⟨_, pss_cons (ps_asg (pe_fld (pv 0) rfl) (pg_tup (by rfl) (pgs_cons (pg_name (i := 3) scPu.nd rfl (.inl rfl)) (pgs_cons (pg_name (i := 4) scPu.nd rfl (.inl rfl)) (pgs_cons (pg_name (i := 5) scPu.nd rfl (.inl rfl)) pgs_nil)))))
      (pss_cons (ps_expr (pe_callS GP (hr.mono (by decide)) (by rfl) mP kP bP (fun σ => L2N.passAt tk σ) (by exact (pa_cons (pv 1) (pa_cons (pe_callB call_len (by rfl) B.len PySem.boot_len (pa_cons (pv 4) pa_nil)) pa_nil)))))
      (pss_cons (ps_if (PW.pt (pw_or (pt_cmpR op_eq (pe_callB call_len (by rfl) B.len PySem.boot_len (pa_cons (pv 4) pa_nil)) (pe_glob (v := .int 12) rfl Cs.mrul.choose_spec ⟨_, rfl⟩) (nomark _)) (pw_or1 (pt_not (pt_val (pe_call GT hr (by rfl) mT kT bT .nil pass0 (pa_cons (pv 3) (pa_cons (pv 2) pa_nil))))))))
        (pss_one (ps_raiseBadBookN rfl O hr tk (by exact (pa_cons (pe_glob (v := .int 1) rfl mR ⟨_, rfl⟩) (pa_cons (pv 1) pa_nil))))) pss_nil)
      (pss_one ps_never))), ?_⟩
    obtain ⟨⟨dx, hy⟩, hB, hto⟩ := id hk
    obtain ⟨R, X, hb, hR, hX⟩ := id hB
    obtain ⟨rts, hRl, hRp⟩ := id hR
    have lr := paired_len hRp
    refine ⟨_, rfl, y, C, dx, _, _, rfl, hy, S.cl, S.nB, d_bk, ?_⟩
    refine ⟨b, _, rfl, .inl (.inl hb), rfl, _, _, rfl, _, _, rfl, _, _, rfl, rfl, ?_⟩
    refine ⟨_, rfl, _, rfl, _, _, rfl, .inr ⟨_, .inl (.inl hRl), rfl⟩, v, _, rfl, hv, fun c => ?_, fun c => ?_⟩
    · rw [List.length_map, lr] at c
      obtain ⟨p, rfl, p0, p1⟩ := cntV_int c
      obtain ⟨hr0, hB0⟩ := q2 p rfl c
      have r12 := ho.r12
      have rais : ∀ (H1 : Hp), Same H H1 → ∃ p_1 n : Int, ([V.int 1, V.int p] : List V) = [V.int p_1, V.int n] ∧ (-1 ≤ p_1 ∧ p_1 ≤ 100) ∧ (-1 ≤ n ∧ n ≤ 100) ∧ ∀ d, H1 d = none → E (.ref CB) (some d) (upd H1 d (.xd [(("number" : Str), .int n), (("part" : Str), .int p_1)])) := fun H1 s1 =>
        ⟨1, p, rfl, ⟨by decide, by decide⟩, ⟨by omega, by omega⟩, fun d hd => hB0 d _ (s1.trans (same_new hd _)) (s1.free hd) upd_same⟩
      refine ⟨_, rfl, _, _, rfl, .inr ⟨_, .inl (.inl hRl), rfl⟩, rfl, _, rfl, ite2 (fun _ => ?_) (fun _ => ?_)⟩
      · exact ⟨_, rfl, rais H (Same.refl H)⟩
      · refine ⟨_, rfl, _, rfl, L, r, false, rfl, by have := ho.lt.l4; omega, hr0, fun H1 s1 => ⟨false, rfl, iteT ?_⟩⟩
        exact ⟨_, rfl, rais H1 s1⟩
    · rw [List.length_map, lr] at c
      exact q1 c H (Same.refl H)
abbrev nDr : List Str := ["self", "place", "letters", "rules", "exceptions"]
theorem scDr : FnScope nDr ["self", "place"] (defScope (sDk 4)) := ⟨rfl, rfl, rfl, by decide +kernel, rfl, by decide +kernel, by decide +kernel⟩
def spDrR (C CC : Addr) : Sp := fun vs H Q E => ∃ (y b t : Addr) (L : List Nat) (rs : List Rule) (es : List Exc) (ws : List Str) (i : Bool) (v : V), vs = [.ref y, v] ∧ DkAt C H y b t L rs es ws i ∧ NumV v ∧ cntV v (rs.length - 1) = false ∧ E (.ref CC) none H
theorem ok_drR {f C CC fP : Addr} {fd fdP : FuncData} (F : Fun K "drop" "Desk.drop" (sDk 4) f fd) (S : DkC K C) (B : Bn mg) (GP : FnOk P w K mg base (L2N.CX P w) 2 fP fdP ["place", "most"] (spCp CC)) (kP : PySem.W.keepIn K (.ref fP) = true) (bP : Binds K fdP ["place", "most"] []) (mP : mg "check_place" = some (.ref fP)) :
    FnOk P w K mg base (L2N.CX P w) 3 f fd ["self", "place"] (spDrR C CC) := by
  refine F.okN scDr (fun vs H Q E h => ?_) (fun cdv A outer s H vs Q E hr h => ?_)
  · obtain ⟨y, b, t, L, rs, es, ws, i, v, rfl, _⟩ := h
    rfl
  · obtain ⟨y, b, t, L, rs, es, ws, i, v, rfl, hk, hv, hc, q⟩ := h
    have tk : L2N.Takes _ (fun cls d _ H => E cls d H) := L2N.takes_of (X := cxOf (L2N.CX P w) P w K mg base nDr "Desk.drop" (defScope (sDk 4)) f cdv A outer s H E) rfl rfl rfl rfl
    refine ⟨_, pss_cons (ps_asg (pe_fld (pv 0) rfl) (pg_tup (by rfl) (pgs_cons (pg_name (i := 2) scDr.nd rfl (.inl rfl)) (pgs_cons (pg_name (i := 3) scDr.nd rfl (.inl rfl)) (pgs_cons (pg_name (i := 4) scDr.nd rfl (.inl rfl)) pgs_nil)))))
      (pss_cons (ps_expr (pe_callS GP hr (by rfl) mP kP bP (fun σ => L2N.passAt tk σ) (by exact (pa_cons (pv 1) (pa_cons (pe_op op_sub (pe_callB call_len (by rfl) B.len PySem.boot_len (pa_cons (pv 3) pa_nil)) pe_int) pa_nil)))))
      (pss_cons ps_never (pss_one ps_never))), ?_⟩
    obtain ⟨⟨dx, hy⟩, hB, hto⟩ := id hk
    obtain ⟨R, X, hb, hR, hX⟩ := id hB
    obtain ⟨rts, hRl, hRp⟩ := id hR
    have lr := paired_len hRp
    refine ⟨_, rfl, y, C, dx, _, _, rfl, hy, S.cl, S.nB, d_bk, ?_⟩
    refine ⟨b, _, rfl, .inl (.inl hb), rfl, _, _, rfl, _, _, rfl, _, _, rfl, rfl, ?_⟩
    refine ⟨_, rfl, _, rfl, _, _, rfl, .inr ⟨_, .inl (.inl hRl), rfl⟩, _, _, rfl, rfl, v, _, rfl, hv, fun c => ?_, fun _ => q⟩
    rw [List.length_map, lr, hc] at c
    cases c
abbrev nMv : List Str := ["self", "place", "other", "letters", "rules", "exceptions"]
theorem scMv : FnScope nMv ["self", "place", "other"] (defScope (sDk 5)) := ⟨rfl, rfl, rfl, by decide +kernel, rfl, by decide +kernel, by decide +kernel⟩
def spMvR (C CC : Addr) : Sp := fun vs H Q E => ∃ (y b t : Addr) (L : List Nat) (rs : List Rule) (es : List Exc) (ws : List Str) (i : Bool) (v u : V), vs = [.ref y, v, u] ∧ DkAt C H y b t L rs es ws i ∧ NumV v ∧ NumV u ∧ (cntV v (rs.length - 1) = false ∨ cntV u (rs.length - 1) = false) ∧ E (.ref CC) none H
theorem ok_mvR {f C CC fP : Addr} {fd fdP : FuncData} (F : Fun K "move" "Desk.move" (sDk 5) f fd) (S : DkC K C) (B : Bn mg) (GP : FnOk P w K mg base (L2N.CX P w) 2 fP fdP ["place", "most"] (spCp CC)) (kP : PySem.W.keepIn K (.ref fP) = true) (bP : Binds K fdP ["place", "most"] []) (mP : mg "check_place" = some (.ref fP)) :
    FnOk P w K mg base (L2N.CX P w) 3 f fd ["self", "place", "other"] (spMvR C CC) := by
  refine F.okN scMv (fun vs H Q E h => ?_) (fun cdv A outer s H vs Q E hr h => ?_)
  · obtain ⟨y, b, t, L, rs, es, ws, i, v, u, rfl, _⟩ := h
    rfl
  · obtain ⟨y, b, t, L, rs, es, ws, i, v, u, rfl, hk, hv, hu, hc, q⟩ := h
    have tk : L2N.Takes _ (fun cls d _ H => E cls d H) := L2N.takes_of (X := cxOf (L2N.CX P w) P w K mg base nMv "Desk.move" (defScope (sDk 5)) f cdv A outer s H E) rfl rfl rfl rfl
    refine ⟨_, pss_cons (ps_asg (pe_fld (pv 0) rfl) (pg_tup (by rfl) (pgs_cons (pg_name (i := 3) scMv.nd rfl (.inl rfl)) (pgs_cons (pg_name (i := 4) scMv.nd rfl (.inl rfl)) (pgs_cons (pg_name (i := 5) scMv.nd rfl (.inl rfl)) pgs_nil)))))
      (pss_cons (ps_expr (pe_callS GP hr (by rfl) mP kP bP (fun σ => L2N.passAt tk σ) (by exact (pa_cons (pv 1) (pa_cons (pe_op op_sub (pe_callB call_len (by rfl) B.len PySem.boot_len (pa_cons (pv 4) pa_nil)) pe_int) pa_nil)))))
      (pss_cons (ps_expr (pe_callS GP hr (by rfl) mP kP bP (fun σ => L2N.passAt tk σ) (by exact (pa_cons (pv 2) (pa_cons (pe_op op_sub (pe_callB call_len (by rfl) B.len PySem.boot_len (pa_cons (pv 4) pa_nil)) pe_int) pa_nil)))))
      (pss_one ps_never))), ?_⟩
    obtain ⟨⟨dx, hy⟩, hB, hto⟩ := id hk
    obtain ⟨R, X, hb, hR, hX⟩ := id hB
    obtain ⟨rts, hRl, hRp⟩ := id hR
    have lr := paired_len hRp
    refine ⟨_, rfl, y, C, dx, _, _, rfl, hy, S.cl, S.nB, d_bk, ?_⟩
    refine ⟨b, _, rfl, .inl (.inl hb), rfl, _, _, rfl, _, _, rfl, _, _, rfl, rfl, ?_⟩
    refine ⟨_, rfl, _, rfl, _, _, rfl, .inr ⟨_, .inl (.inl hRl), rfl⟩, _, _, rfl, rfl, v, _, rfl, hv, fun c => ?_, fun _ => q⟩
    rw [List.length_map, lr] at c
    have hc := hc.resolve_left (by rw [c]; exact fun z => by cases z)
    refine ⟨_, rfl, _, rfl, _, _, rfl, .inr ⟨_, .inl (.inl hRl), rfl⟩, _, _, rfl, rfl, u, _, rfl, hu, fun c => ?_, fun _ => q⟩
    rw [List.length_map, lr, hc] at c
    cases c
abbrev nLn : List Str := ["self", "word", "sounds", "letters", "rules", "exceptions", "others"]
theorem scLn : FnScope nLn ["self", "word", "sounds"] (defScope (sDk 6)) := ⟨rfl, rfl, rfl, by decide +kernel, rfl, by decide +kernel, by decide +kernel⟩
def spLnR (K : PySem.W.Frag) (C CW CS : Addr) : Sp := fun vs H Q E => ∃ (y b t : Addr) (L : List Nat) (rs : List Rule) (es : List Exc) (ws : List Str) (i : Bool) (v u : V), vs = [.ref y, v, u] ∧ DkAt C H y b t L rs es ws i ∧ VOk K H v ∧ VOk K H u ∧
  (txV v L 1 8 = false → ∀ H', Same H H' → E (.ref CW) none H') ∧ (txV v L 1 8 = true → txV u capsL 0 36 = false ∧ ∀ H', Same H H' → E (.ref CS) none H')
theorem ok_lnR {f C CW CS fX fS : Addr} {fd fdX fdS : FuncData} (F : Fun K "learn" "Desk.learn" (sDk 6) f fd) (S : DkC K C) (GX : FnOk P w K mg base (L2N.CX P w) 3 fX fdX ["letters", "word"] (spCx K CW)) (kX : PySem.W.keepIn K (.ref fX) = true) (bX : Binds K fdX ["letters", "word"] []) (mX : mg "check_excepted" = some (.ref fX))
    (GS : FnOk P w K mg base (L2N.CX P w) 3 fS fdS ["sounds"] (spCs K CS)) (kS : PySem.W.keepIn K (.ref fS) = true) (bS : Binds K fdS ["sounds"] []) (mS : mg "check_sounds" = some (.ref fS)) :
    FnOk P w K mg base (L2N.CX P w) 4 f fd ["self", "word", "sounds"] (spLnR K C CW CS) := by
  refine F.okN scLn (fun vs H Q E h => ?_) (fun cdv A outer s H vs Q E hr h => ?_)
  · obtain ⟨y, b, t, L, rs, es, ws, i, v, u, rfl, _⟩ := h
    rfl
  · obtain ⟨y, b, t, L, rs, es, ws, i, v, u, rfl, hk, hv, hu, q1, q2⟩ := h
    have tk : L2N.Takes _ (fun cls d _ H => E cls d H) := L2N.takes_of (X := cxOf (L2N.CX P w) P w K mg base nLn "Desk.learn" (defScope (sDk 6)) f cdv A outer s H E) rfl rfl rfl rfl
    refine ⟨_, pss_cons (ps_asg (pe_fld (pv 0) rfl) (pg_tup (by rfl) (pgs_cons (pg_name (i := 3) scLn.nd rfl (.inl rfl)) (pgs_cons (pg_name (i := 4) scLn.nd rfl (.inl rfl)) (pgs_cons (pg_name (i := 5) scLn.nd rfl (.inl rfl)) pgs_nil)))))
      (pss_cons (ps_expr (pe_callS GX hr (by rfl) mX kX bX (fun σ => L2N.passAt tk σ) (by exact (pa_cons (pv 3) (pa_cons (pv 1) pa_nil)))))
      (pss_cons (ps_expr (pe_callS GS hr (by rfl) mS kS bS (fun σ => L2N.passAt tk σ) (by exact (pa_cons (pv 2) pa_nil))))
      (pss_cons ps_never (pss_cons ps_never (pss_cons ps_never (pss_cons ps_never (pss_one ps_never))))))), ?_⟩
    obtain ⟨⟨dx, hy⟩, hB, hto⟩ := id hk
    obtain ⟨R, X, hb, hR, hX⟩ := id hB
    refine ⟨_, rfl, y, C, dx, _, _, rfl, hy, S.cl, S.nB, d_bk, ?_⟩
    refine ⟨b, _, rfl, .inl (.inl hb), rfl, _, _, rfl, _, _, rfl, _, _, rfl, rfl, ?_⟩
    refine ⟨_, rfl, _, rfl, L, v, rfl, hv, fun c H1 s1 => ?_, fun c H1 s1 => q1 c H1 s1⟩
    obtain ⟨c2, q2⟩ := q2 c
    refine ⟨_, rfl, u, rfl, hu.same s1, fun c => ?_, fun c H2 s2 => q2 H2 (s1.trans s2)⟩
    rw [c2] at c
    cases c
abbrev nFg : List Str := ["self", "word", "letters", "rules", "exceptions", "written", "sounds"]
theorem scFg : FnScope nFg ["self", "word"] (defScope (sDk 7)) := ⟨rfl, rfl, rfl, by decide +kernel, rfl, by decide +kernel, by decide +kernel⟩
def spFgR (K : PySem.W.Frag) (C CN : Addr) : Sp := fun vs H Q E => ∃ (y b t : Addr) (L : List Nat) (rs : List Rule) (es : List Exc) (ws : List Str) (i : Bool) (v : V) (d : PyData), vs = [.ref y, v] ∧ DkAt C H y b t L rs es ws i ∧ BookOk L rs es ∧ (∀ H', Same H H' → Dp K H' v d) ∧ SeqAt.shaped d = true ∧
  (∀ e ∈ es, PyData.eqv (.str (T e.1)) d = false) ∧ ∀ H', Same H H' → E (.ref CN) none H'
theorem ok_fgR {f C CN : Addr} {fd : FuncData} (F : Fun K "forget" "Desk.forget" (sDk 7) f fd) (S : DkC K C) (RN : RaQ K mg "NoException" CN) : FnOk P w K mg base (L2N.CX P w) 1 f fd ["self", "word"] (spFgR K C CN) := by
  refine F.okN scFg (fun vs H Q E h => ?_) (fun cdv A outer s H vs Q E hr h => ?_)
  · obtain ⟨y, b, t, L, rs, es, ws, i, v, d, rfl, _⟩ := h
    rfl
  · obtain ⟨y, b, t, L, rs, es, ws, i, v, d, rfl, hk, ho, hd, hs, hn, q⟩ := h
    have px : PassesOwn (model P w) (A.deeper (envOfC "Desk.forget" (defScope (sDk 7)) s.heap.objs.size f cdv)) (envOfC "Desk.forget" (defScope (sDk 7)) s.heap.objs.size f cdv) (cxOf (L2N.CX P w) P w K mg base nFg "Desk.forget" (defScope (sDk 7)) f cdv A outer s H E).xe := PassesOwn.leaving
    refine ⟨_, pss_cons (ps_asg (pe_fld (pv 0) rfl) (pg_tup (by rfl) (pgs_cons (pg_name (i := 2) scFg.nd rfl (.inl rfl)) (pgs_cons (pg_name (i := 3) scFg.nd rfl (.inl rfl)) (pgs_cons (pg_name (i := 4) scFg.nd rfl (.inl rfl)) pgs_nil)))))
      (pss_cons (ps_for px rfl (pi_tup (pv 4)) (pg_tup (by rfl) (pgs_cons (pg_name (i := 5) scFg.nd rfl (.inl rfl)) (pgs_cons (pg_name (i := 6) scFg.nd rfl (.inl rfl)) pgs_nil)))
        (pss_one (ps_if (pt_cmpR (op_eqD hr.units) (pv 5) (pv 1) (nomark _)) (pss_cons ps_never (pss_one ps_never)) pss_nil)))
      (pss_one (L2N.ps_raise rfl (L2N.takes_of rfl rfl rfl rfl) (L2N.pmk_own PySem.F.excBase_ValueError RN.ex RN.g RN.k (raises_own RN.b RN.t) rfl)))), ?_⟩
    obtain ⟨⟨dx, hy⟩, hB, hto⟩ := id hk
    obtain ⟨R, X, hb, hR, hX⟩ := id hB
    obtain ⟨ts, hXl, hXp⟩ := id hX
    refine ⟨_, rfl, y, C, dx, _, _, rfl, hy, S.cl, S.nB, d_bk, ?_⟩
    refine ⟨b, _, rfl, .inl (.inl hb), rfl, _, _, rfl, _, _, rfl, _, _, rfl, rfl, ?_⟩
    refine ⟨_, rfl, X, rfl, ⟨_, .inl hXl.rd⟩, for_it (walk_tup (xs := ts.map V.ref)) (fun i σ H3 => Same H H3 ∧ ∃ v5 v6, σ = [some (.ref y), some v, some (.str (T L)), some (.ref R), some (.ref X), v5, v6])
      ⟨Same.refl _, _, _, rfl⟩ (fun i σ H3 _ h => .inl (hXl.kt (.of h.1)).rd) ?_ ?_⟩
    · rintro i x σ H3 H4 hi ⟨s3, v5, v6, rfl⟩ ⟨rfl, hx⟩
      rw [List.getElem?_map] at hx
      obtain ⟨a, ha, e⟩ := Option.map_eq_some_iff.mp hx
      subst e
      obtain ⟨e, he, hat⟩ := paired_at hXp ha
      have hem := List.mem_of_getElem? he
      refine ⟨a, _, rfl, .inl (.inl (s3 _ _ hat)), rfl, _, _, rfl, _, _, rfl, rfl, ?_⟩
      have sz : SeqAt.shaped (.str (T e.1)) = true := by
        unfold SeqAt.shaped
        rw [Bool.and_eq_true]
        exact ⟨strOk_T fun c hc => by have := ho.lt.az c ((ho.ex e hem).w c hc); omega, by rfl⟩
      refine ⟨_, rfl, _, rfl, .str (T e.1), d, .str _, hd _ s3, sz, hs, _, rfl, ?_⟩
      rw [hn e hem]
      exact iteF ⟨s3, _, _, rfl⟩
    · rintro σ H3 ⟨s3, _⟩
      exact q H3 s3
end
end Say
namespace Say
open PySem PySem.Spec PyProof.Rows L2
section
variable {X : Cx}
/-- tuples of this text: t + u -/
theorem op_catV : OpR X (binaryOp .Add) (fun x y H Q => ∃ a b xs ys, x = .ref a ∧ y = .ref b ∧ H a = some (.tup xs) ∧ H b = some (.tup ys) ∧ xs.length + ys.length ≤ sizeLine ∧ ∀ (p : Addr) (H' : Hp), Same H H' → H' p = some (.tup (xs ++ ys)) → Q (.ref p) H') := by
  intro pins s σ H x y v u Q I rx ry h
  obtain ⟨a, b, xs, ys, e1, e2, ha, hb, hz, q⟩ := h
  refine op_catA pins s σ H x y v u Q I rx ry ⟨a, b, xs, ys, e1, e2, .inl (.inl ha), .inl (.inl hb), hz, fun e => ?_, fun _ e => ?_, fun _ _ p hp => ?_⟩
  · subst e
    exact q b H (Same.refl H) hb
  · subst e
    refine q a H (Same.refl H) ?_
    rw [List.append_nil]
    exact ha
  · exact q p _ (same_new hp _) upd_same
end
end Say
namespace Say
open PySem PySem.Spec PyProof.Rows L2
/-! ### rules put in, left out -/
theorem cut_dropG (xs : List V) (k : Nat) : cutV xs (some (k : Int)) none = xs.drop k := by
  unfold cutV
  rw [HT.sIx_none, HT.sIx_nat]
  by_cases h : k ≤ xs.length
  · rw [Nat.min_eq_left h, List.take_of_length_le]
    rw [List.length_drop]
    omega
  · rw [Nat.min_eq_right (by omega), List.drop_eq_nil_of_le (Nat.le_refl _), List.drop_eq_nil_of_le (by omega)]
    exact List.take_nil
theorem paired_dropG {α β : Type} {F : α → β → Prop} : ∀ (m : Nat) {l : List α} {k : List β}, Paired F l k → Paired F (l.drop m) (k.drop m)
  | 0, _, _, h => h
  | _ + 1, _, _, .nil => .nil
  | m + 1, _, _, .cons _ t => paired_dropG m t
section
variable {P : Program} {w : World} {K : PySem.W.Frag} {mg : Str → Option Value} {base : Heap}
abbrev sWr1 : Stmt := topS 63
theorem scWr1 : FnScope ["rules", "place", "rule"] ["rules", "place", "rule"] (defScope sWr1) := ⟨rfl, rfl, rfl, by decide +kernel, rfl, by decide +kernel, by decide +kernel⟩
def spWr1 : Sp := fun vs H Q _ => ∃ (R : Addr) (rs : List Rule) (p : Nat) (t : Addr) (ρ : Rule), vs = [.ref R, .int p, .ref t] ∧ RulesAt H R rs ∧ rs.length ≤ 100 ∧ H t = some (.tup ρ.vs) ∧
  ∀ (R' : Addr) (H' : Hp), Same H H' → RulesAt H' R' (rs.take p ++ [ρ] ++ rs.drop p) → Q (.ref R') H'
theorem ok_wr1 {f : Addr} {fd : FuncData} {k : Nat} (F : Fun K "with_rule" "with_rule" sWr1 f fd) : FnOk P w K mg base CX0 (k + 1) f fd ["rules", "place", "rule"] spWr1 := by
  refine F.ok scWr1 (fun vs H Q E h => ?_) (fun cdv A outer s H vs Q E hr h => ?_)
  · obtain ⟨R, rs, p, t, ρ, rfl, _⟩ := h
    rfl
  · obtain ⟨R, rs, p, t, ρ, rfl, hR, hl, ht, q⟩ := h
    obtain ⟨ts, h1, h2⟩ := id hR
    have lr := paired_len h2
    refine ⟨_, pss_one (ps_ret (pe_op op_catV (pe_op op_catV (pe_slice sl_tupW (pv 0) po_none (po_some (pv 1))) (pe_tup (pa_cons (pv 2) pa_nil))) (pe_slice sl_tupW (pv 0) (po_some (pv 1)) po_none))), ?_⟩
    refine ⟨_, rfl, _, rfl, p, rfl, R, _, rfl, h1, fun a H1 s1 g1 => ?_⟩
    rw [cut_takeW] at g1
    refine ⟨_, rfl, (by show 1 ≤ sizeLine; decide), fun b nb => ?_⟩
    have s2 := same_new nb (.tup [.ref t])
    have g2 : (upd H1 b (.tup [.ref t])) b = some (.tup [.ref t]) := upd_same
    refine ⟨a, b, _, _, rfl, rfl, s2 _ _ g1, g2, ?_, fun c H3 s3 g3 => ?_⟩
    · rw [List.length_take, List.length_map]
      show _ + 1 ≤ _
      exact small (by omega)
    have s03 := s1.trans (s2.trans s3)
    refine ⟨_, rfl, _, rfl, p, rfl, R, _, rfl, s03 _ _ h1, fun d H4 s4 g4 => ?_⟩
    rw [cut_dropG] at g4
    refine ⟨c, d, _, _, rfl, rfl, s4 _ _ g3, g4, ?_, fun e H5 s5 g5 => ?_⟩
    · rw [List.length_append, List.length_take, List.length_drop, List.length_map]
      show _ + 1 + _ ≤ _
      exact small (by omega)
    have s05 := s03.trans (s4.trans s5)
    refine q e H5 s05 ⟨ts.take p ++ [t] ++ ts.drop p, ?_, ?_⟩
    · rw [g5, List.map_append, List.map_append, List.map_take, List.map_drop]
      rfl
    · exact paired_app (paired_app (paired_takeW p (paired_mono (fun _ _ h => s05 _ _ h) h2)) (.cons (s05 _ _ ht) .nil)) (paired_dropG p (paired_mono (fun _ _ h => s05 _ _ h) h2))
abbrev sWo1 : Stmt := topS 64
theorem scWo1 : FnScope ["rules", "place"] ["rules", "place"] (defScope sWo1) := ⟨rfl, rfl, rfl, by decide +kernel, rfl, by decide +kernel, by decide +kernel⟩
def spWo1 : Sp := fun vs H Q _ => ∃ (R : Addr) (rs : List Rule) (p : Nat), vs = [.ref R, .int p] ∧ RulesAt H R rs ∧ rs.length ≤ 100 ∧
  ∀ (R' : Addr) (H' : Hp), Same H H' → RulesAt H' R' (rs.take p ++ rs.drop (p + 1)) → Q (.ref R') H'
theorem ok_wo1 {f : Addr} {fd : FuncData} {k : Nat} (F : Fun K "without_rule" "without_rule" sWo1 f fd) : FnOk P w K mg base CX0 (k + 1) f fd ["rules", "place"] spWo1 := by
  refine F.ok scWo1 (fun vs H Q E h => ?_) (fun cdv A outer s H vs Q E hr h => ?_)
  · obtain ⟨R, rs, p, rfl, _⟩ := h
    rfl
  · obtain ⟨R, rs, p, rfl, hR, hl, q⟩ := h
    obtain ⟨ts, h1, h2⟩ := id hR
    have lr := paired_len h2
    refine ⟨_, pss_one (ps_ret (pe_op op_catV (pe_slice sl_tupW (pv 0) po_none (po_some (pv 1))) (pe_slice sl_tupW (pv 0) (po_some (pe_op op_add (pv 1) pe_int)) po_none))), ?_⟩
    refine ⟨_, rfl, _, rfl, p, rfl, R, _, rfl, h1, fun a H1 s1 g1 => ?_⟩
    rw [cut_takeW] at g1
    refine ⟨_, rfl, _, rfl, _, _, rfl, rfl, (p : Int) + 1, rfl, R, _, rfl, s1 _ _ h1, fun d H4 s4 g4 => ?_⟩
    rw [show ((p : Int) + 1) = ((p + 1 : Nat) : Int) from rfl, cut_dropG] at g4
    refine ⟨a, d, _, _, rfl, rfl, s4 _ _ g1, g4, ?_, fun e H5 s5 g5 => ?_⟩
    · rw [List.length_take, List.length_drop, List.length_map]
      exact small (by omega)
    have s05 := s1.trans (s4.trans s5)
    refine q e H5 s05 ⟨ts.take p ++ ts.drop (p + 1), ?_, ?_⟩
    · rw [g5, List.map_append, List.map_take, List.map_drop]
    · exact paired_app (paired_takeW p (paired_mono (fun _ _ h => s05 _ _ h) h2)) (paired_dropG (p + 1) (paired_mono (fun _ _ h => s05 _ _ h) h2))
end
end Say
namespace Say
open PySem PySem.Spec PyProof.Rows L2
section
variable {P : Program} {w : World} {K : PySem.W.Frag} {mg : Str → Option Value} {base : Heap}
/-! ### the methods, where they change the book -/
/-- the desk's book put in place -/
theorem DkAt.putB {C : Addr} {H H1 : Hp} {y b t b' dx : Addr} {L : List Nat} {rs rs' : List Rule} {es es' : List Exc} {ws : List Str} {i : Bool} (h : DkAt C H y b t L rs es ws i) (hy : H y = some (.ins C dx (fldD b t i))) (s : Same H H1) (hb : BookAt H1 b' L rs' es') :
    DkAt C (upd H1 y (.ins C dx (fldD b' t i))) y b' t L rs' es' ws i ∧ Kd y t H (upd H1 y (.ins C dx (fldD b' t i))) := by
  have hy1 := s _ _ hy
  have k : Kd y t H (upd H1 y (.ins C dx (fldD b' t i))) := (Kd.of s).trans (Kd.y _)
  refine ⟨⟨⟨dx, upd_same⟩, hb.kt (KT.by fun a u q hu => ?_), ?_⟩, k⟩
  · rw [upd_ne (ne_of q hy1 (by rcases hu with ⟨_, rfl⟩ | ⟨_, _, rfl⟩ <;> (intro z; cases z)))]
    exact q
  · rw [upd_ne (Ne.symm h.ne)]
    exact s _ _ h.told
def spPuG (C : Addr) : Sp := fun vs H Q _ => ∃ (y b t : Addr) (L : List Nat) (rs : List Rule) (es : List Exc) (ws : List Str) (i : Bool) (p : Nat) (r : Addr) (ρ : Rule), vs = [.ref y, .int p, .ref r] ∧ DkAt C H y b t L rs es ws i ∧ BookOk L rs es ∧ p ≤ rs.length ∧ rs.length < 12 ∧ RuleOk L ρ ∧ H r = some (.tup ρ.vs) ∧
  ∀ (b' : Addr) (H' : Hp), Kd y t H H' → DkAt C H' y b' t L (rs.take p ++ [ρ] ++ rs.drop p) es ws i → Q .non H'
theorem ok_puG {f C CC fP : Addr} {fd fdP : FuncData} (F : Fun K "put" "Desk.put" (sDk 3) f fd) (S : DkC K C) (B : Bn mg) (Cs : Cn mg) (GP : FnOk P w K mg base (L2N.CX P w) 2 fP fdP ["place", "most"] (spCp CC)) (kP : PySem.W.keepIn K (.ref fP) = true) (bP : Binds K fdP ["place", "most"] []) (mP : mg "check_place" = some (.ref fP))
    (DI : Df P w K mg base "is_rule" ["letters", "rule"] 3 spIsRule) (DW : Df P w K mg base "with_rule" ["rules", "place", "rule"] 1 spWr1) : FnOk P w K mg base (L2N.CX P w) 4 f fd ["self", "place", "rule"] (spPuG C) := by
  obtain ⟨fT, fdT, GT, kT, bT, mT⟩ := DI
  obtain ⟨fW, fdW, GW, kW, bW, mW⟩ := DW
  refine F.okN scPu (fun vs H Q E h => ?_) (fun cdv A outer s H vs Q E hr h => ?_)
  · obtain ⟨y, b, t, L, rs, es, ws, i, p, r, ρ, rfl, _⟩ := h
    rfl
  · obtain ⟨y, b, t, L, rs, es, ws, i, p, r, ρ, rfl, hk, ho, hp, h12, hρ, hr', q⟩ := h
    have tk : L2N.Takes _ (fun cls d _ H => E cls d H) := L2N.takes_of (X := cxOf (L2N.CX P w) P w K mg base nPu "Desk.put" (defScope (sDk 3)) f cdv A outer s H E) rfl rfl rfl rfl
    refine ⟨_, pss_cons (ps_asg (pe_fld (pv 0) rfl) (pg_tup (by rfl) (pgs_cons (pg_name (i := 3) scPu.nd rfl (.inl rfl)) (pgs_cons (pg_name (i := 4) scPu.nd rfl (.inl rfl)) (pgs_cons (pg_name (i := 5) scPu.nd rfl (.inl rfl)) pgs_nil)))))
      (pss_cons (ps_expr (pe_callS GP (hr.mono (by decide)) (by rfl) mP kP bP (fun σ => L2N.passAt tk σ) (by exact (pa_cons (pv 1) (pa_cons (pe_callB call_len (by rfl) B.len PySem.boot_len (pa_cons (pv 4) pa_nil)) pa_nil)))))
      (pss_cons (ps_if (PW.pt (pw_or (pt_cmpR op_eq (pe_callB call_len (by rfl) B.len PySem.boot_len (pa_cons (pv 4) pa_nil)) (pe_glob (v := .int 12) rfl Cs.mrul.choose_spec ⟨_, rfl⟩) (nomark _)) (pw_or1 (pt_not (pt_val (pe_call GT hr (by rfl) mT kT bT .nil pass0 (pa_cons (pv 3) (pa_cons (pv 2) pa_nil))))))))
        (pss_one ps_never) pss_nil)
      (pss_one (ps_fld (pv 0) (pe_tup (pa_cons (pv 3) (pa_cons (pe_call GW (hr.mono (by decide)) (by rfl) mW kW bW .nil pass0 (pa_cons (pv 4) (pa_cons (pv 1) (pa_cons (pv 2) pa_nil)))) (pa_cons (pv 5) pa_nil)))) rfl)))), ?_⟩
    obtain ⟨⟨dx, hy⟩, hB, hto⟩ := id hk
    obtain ⟨R, X, hb, hR, hX⟩ := id hB
    obtain ⟨rts, hRl, hRp⟩ := id hR
    have lr := paired_len hRp
    refine ⟨_, rfl, y, C, dx, _, _, rfl, hy, S.cl, S.nB, d_bk, ?_⟩
    refine ⟨b, _, rfl, .inl (.inl hb), rfl, _, _, rfl, _, _, rfl, _, _, rfl, rfl, ?_⟩
    refine ⟨_, rfl, _, rfl, _, _, rfl, .inr ⟨_, .inl (.inl hRl), rfl⟩, .int (p : Nat), _, rfl, .inr (.inl ⟨_, rfl⟩), fun c => ?_, fun c => ?_⟩
    · refine ⟨_, rfl, _, _, rfl, .inr ⟨_, .inl (.inl hRl), rfl⟩, rfl, _, rfl, ite2 (fun c => ?_) (fun _ => ?_)⟩
      · have := V.int.inj (of_decide_eq_true c)
        rw [List.length_map, lr] at this
        omega
      · refine ⟨_, rfl, _, rfl, L, r, ρ, rfl, hr', ho.lt, hρ, fun H1 s1 => ⟨true, rfl, iteF ?_⟩⟩
        have hB1 := hB.kt (.of s1)
        refine ⟨_, rfl, _, rfl, _, rfl, _, rfl, R, rs, p, r, ρ, rfl, hR.kt (.of s1), by have := ho.r12; omega, s1 _ _ hr', fun R' H2 s2 hR' => ?_⟩
        refine ⟨_, rfl, (by show 3 ≤ sizeLine; decide), fun b' nb' => ?_⟩
        have s3 := same_new nb' (.tup [.str (T L), .ref R', .ref X])
        have s03 := s1.trans (s2.trans s3)
        refine ⟨_, rfl, y, C, dx, _, rfl, s03 _ _ hy, S.cl, S.nB, (by show 3 < 1000; decide), ?_⟩
        obtain ⟨k1, k2⟩ := hk.putB (b' := b') hy s03 ⟨R', X, upd_same, hR'.kt (.of s3), hX.kt (.of s03)⟩
        exact q b' _ k2 k1
    · rw [List.length_map, lr] at c
      unfold cntV at c
      rw [Bool.and_eq_false_iff, decide_eq_false_iff_not, decide_eq_false_iff_not] at c
      omega
def spDrG (C : Addr) : Sp := fun vs H Q _ => ∃ (y b t : Addr) (L : List Nat) (rs : List Rule) (es : List Exc) (ws : List Str) (i : Bool) (p : Nat), vs = [.ref y, .int p] ∧ DkAt C H y b t L rs es ws i ∧ BookOk L rs es ∧ p < rs.length ∧
  ∀ (b' r : Addr) (ρ : Rule) (H' : Hp), rs[p]? = some ρ → H' r = some (.tup ρ.vs) → Kd y t H H' → DkAt C H' y b' t L (rs.take p ++ rs.drop (p + 1)) es ws i → Q (.ref r) H'
theorem ok_drG {f C CC fP : Addr} {fd fdP : FuncData} (F : Fun K "drop" "Desk.drop" (sDk 4) f fd) (S : DkC K C) (B : Bn mg) (GP : FnOk P w K mg base (L2N.CX P w) 2 fP fdP ["place", "most"] (spCp CC)) (kP : PySem.W.keepIn K (.ref fP) = true) (bP : Binds K fdP ["place", "most"] []) (mP : mg "check_place" = some (.ref fP))
    (DW : Df P w K mg base "without_rule" ["rules", "place"] 1 spWo1) : FnOk P w K mg base (L2N.CX P w) 3 f fd ["self", "place"] (spDrG C) := by
  obtain ⟨fW, fdW, GW, kW, bW, mW⟩ := DW
  refine F.okN scDr (fun vs H Q E h => ?_) (fun cdv A outer s H vs Q E hr h => ?_)
  · obtain ⟨y, b, t, L, rs, es, ws, i, p, rfl, _⟩ := h
    rfl
  · obtain ⟨y, b, t, L, rs, es, ws, i, p, rfl, hk, ho, hp, q⟩ := h
    have tk : L2N.Takes _ (fun cls d _ H => E cls d H) := L2N.takes_of (X := cxOf (L2N.CX P w) P w K mg base nDr "Desk.drop" (defScope (sDk 4)) f cdv A outer s H E) rfl rfl rfl rfl
    refine ⟨_, pss_cons (ps_asg (pe_fld (pv 0) rfl) (pg_tup (by rfl) (pgs_cons (pg_name (i := 2) scDr.nd rfl (.inl rfl)) (pgs_cons (pg_name (i := 3) scDr.nd rfl (.inl rfl)) (pgs_cons (pg_name (i := 4) scDr.nd rfl (.inl rfl)) pgs_nil)))))
      (pss_cons (ps_expr (pe_callS GP hr (by rfl) mP kP bP (fun σ => L2N.passAt tk σ) (by exact (pa_cons (pv 1) (pa_cons (pe_op op_sub (pe_callB call_len (by rfl) B.len PySem.boot_len (pa_cons (pv 3) pa_nil)) pe_int) pa_nil)))))
      (pss_cons (ps_fld (pv 0) (pe_tup (pa_cons (pv 2) (pa_cons (pe_call GW (hr.mono (by decide)) (by rfl) mW kW bW .nil pass0 (pa_cons (pv 3) (pa_cons (pv 1) pa_nil))) (pa_cons (pv 4) pa_nil)))) rfl)
      (pss_one (ps_ret (pe_ix ix_tup (pv 3) (pv 1) (fun _ _ => rfl)))))), ?_⟩
    obtain ⟨⟨dx, hy⟩, hB, hto⟩ := id hk
    obtain ⟨R, X, hb, hR, hX⟩ := id hB
    obtain ⟨rts, hRl, hRp⟩ := id hR
    have lr := paired_len hRp
    have r12 := ho.r12
    refine ⟨_, rfl, y, C, dx, _, _, rfl, hy, S.cl, S.nB, d_bk, ?_⟩
    refine ⟨b, _, rfl, .inl (.inl hb), rfl, _, _, rfl, _, _, rfl, _, _, rfl, rfl, ?_⟩
    refine ⟨_, rfl, _, rfl, _, _, rfl, .inr ⟨_, .inl (.inl hRl), rfl⟩, _, _, rfl, rfl, .int (p : Nat), _, rfl, .inr (.inl ⟨_, rfl⟩), fun c => ?_, fun c => ?_⟩
    · refine ⟨_, rfl, _, rfl, _, rfl, R, rs, p, rfl, hR, by omega, fun R' H2 s2 hR' => ?_⟩
      refine ⟨_, rfl, (by show 3 ≤ sizeLine; decide), fun b' nb' => ?_⟩
      have s3 := same_new nb' (.tup [.str (T L), .ref R', .ref X])
      have s03 := s2.trans s3
      refine ⟨_, rfl, y, C, dx, _, rfl, s03 _ _ hy, S.cl, S.nB, (by show 3 < 1000; decide), ?_⟩
      obtain ⟨k1, k2⟩ := hk.putB (b' := b') hy s03 ⟨R', X, upd_same, hR'.kt (.of s3), hX.kt (.of s03)⟩
      have kt := hk.kt k2
      obtain ⟨ρ, hρ⟩ : ∃ ρ, rs[p]? = some ρ := ⟨_, List.getElem?_eq_getElem hp⟩
      obtain ⟨r, h1, h2⟩ := paired_at' hRp hρ
      have x0 : (rts.map V.ref)[p]? = some (.ref r) := by rw [List.getElem?_map, h1]; rfl
      exact ⟨_, rfl, _, rfl, R, _, (p : Int), .ref r, rfl, rfl, .inl (.inl (kt.1 _ _ hRl)), atI_nat x0, q b' r ρ _ hρ (kt.1 _ _ h2) k2 k1⟩
    · rw [List.length_map, lr] at c
      unfold cntV at c
      rw [Bool.and_eq_false_iff, decide_eq_false_iff_not, decide_eq_false_iff_not] at c
      omega
def spMvG (C : Addr) : Sp := fun vs H Q _ => ∃ (y b t : Addr) (L : List Nat) (rs : List Rule) (es : List Exc) (ws : List Str) (i : Bool) (p o : Nat), vs = [.ref y, .int p, .int o] ∧ DkAt C H y b t L rs es ws i ∧ BookOk L rs es ∧ p < rs.length ∧ o < rs.length ∧
  ∀ (b' : Addr) (ρ : Rule) (H' : Hp), rs[p]? = some ρ → Kd y t H H' → DkAt C H' y b' t L ((rs.take p ++ rs.drop (p + 1)).take o ++ [ρ] ++ (rs.take p ++ rs.drop (p + 1)).drop o) es ws i → Q .non H'
theorem ok_mvG {f C CC fP : Addr} {fd fdP : FuncData} (F : Fun K "move" "Desk.move" (sDk 5) f fd) (S : DkC K C) (B : Bn mg) (GP : FnOk P w K mg base (L2N.CX P w) 2 fP fdP ["place", "most"] (spCp CC)) (kP : PySem.W.keepIn K (.ref fP) = true) (bP : Binds K fdP ["place", "most"] []) (mP : mg "check_place" = some (.ref fP))
    (DV : Df P w K mg base "with_rule" ["rules", "place", "rule"] 1 spWr1) (DW : Df P w K mg base "without_rule" ["rules", "place"] 1 spWo1) : FnOk P w K mg base (L2N.CX P w) 3 f fd ["self", "place", "other"] (spMvG C) := by
  obtain ⟨fW, fdW, GW, kW, bW, mW⟩ := DW
  obtain ⟨fV, fdV, GV, kV, bV, mV⟩ := DV
  refine F.okN scMv (fun vs H Q E h => ?_) (fun cdv A outer s H vs Q E hr h => ?_)
  · obtain ⟨y, b, t, L, rs, es, ws, i, p, o, rfl, _⟩ := h
    rfl
  · obtain ⟨y, b, t, L, rs, es, ws, i, p, o, rfl, hk, ho, hp, hoo, q⟩ := h
    have tk : L2N.Takes _ (fun cls d _ H => E cls d H) := L2N.takes_of (X := cxOf (L2N.CX P w) P w K mg base nMv "Desk.move" (defScope (sDk 5)) f cdv A outer s H E) rfl rfl rfl rfl
    refine ⟨_, pss_cons (ps_asg (pe_fld (pv 0) rfl) (pg_tup (by rfl) (pgs_cons (pg_name (i := 3) scMv.nd rfl (.inl rfl)) (pgs_cons (pg_name (i := 4) scMv.nd rfl (.inl rfl)) (pgs_cons (pg_name (i := 5) scMv.nd rfl (.inl rfl)) pgs_nil)))))
      (pss_cons (ps_expr (pe_callS GP hr (by rfl) mP kP bP (fun σ => L2N.passAt tk σ) (by exact (pa_cons (pv 1) (pa_cons (pe_op op_sub (pe_callB call_len (by rfl) B.len PySem.boot_len (pa_cons (pv 4) pa_nil)) pe_int) pa_nil)))))
      (pss_cons (ps_expr (pe_callS GP hr (by rfl) mP kP bP (fun σ => L2N.passAt tk σ) (by exact (pa_cons (pv 2) (pa_cons (pe_op op_sub (pe_callB call_len (by rfl) B.len PySem.boot_len (pa_cons (pv 4) pa_nil)) pe_int) pa_nil)))))
      (pss_one (ps_fld (pv 0) (pe_tup (pa_cons (pv 3) (pa_cons (pe_call GV (hr.mono (by decide)) (by rfl) mV kV bV .nil pass0 (pa_cons (pe_call GW (hr.mono (by decide)) (by rfl) mW kW bW .nil pass0 (pa_cons (pv 4) (pa_cons (pv 1) pa_nil))) (pa_cons (pv 2) (pa_cons (pe_ix ix_tup (pv 4) (pv 1) (fun _ _ => rfl)) pa_nil)))) (pa_cons (pv 5) pa_nil)))) rfl)))), ?_⟩
    obtain ⟨⟨dx, hy⟩, hB, hto⟩ := id hk
    obtain ⟨R, X, hb, hR, hX⟩ := id hB
    obtain ⟨rts, hRl, hRp⟩ := id hR
    have lr := paired_len hRp
    have r12 := ho.r12
    refine ⟨_, rfl, y, C, dx, _, _, rfl, hy, S.cl, S.nB, d_bk, ?_⟩
    refine ⟨b, _, rfl, .inl (.inl hb), rfl, _, _, rfl, _, _, rfl, _, _, rfl, rfl, ?_⟩
    have fits : ∀ n : Nat, n < rs.length → cntV (.int (n : Nat)) (((rts.map V.ref).length : Nat) - 1) = false → False := fun n h c => by
      rw [List.length_map, lr] at c
      unfold cntV at c
      rw [Bool.and_eq_false_iff, decide_eq_false_iff_not, decide_eq_false_iff_not] at c
      omega
    refine ⟨_, rfl, _, rfl, _, _, rfl, .inr ⟨_, .inl (.inl hRl), rfl⟩, _, _, rfl, rfl, .int (p : Nat), _, rfl, .inr (.inl ⟨_, rfl⟩), fun c => ?_, fun c => (fits p hp c).elim⟩
    refine ⟨_, rfl, _, rfl, _, _, rfl, .inr ⟨_, .inl (.inl hRl), rfl⟩, _, _, rfl, rfl, .int (o : Nat), _, rfl, .inr (.inl ⟨_, rfl⟩), fun c => ?_, fun c => (fits o hoo c).elim⟩
    obtain ⟨ρ, hρ⟩ : ∃ ρ, rs[p]? = some ρ := ⟨_, List.getElem?_eq_getElem hp⟩
    obtain ⟨r, h1, h2⟩ := paired_at' hRp hρ
    have x0 : (rts.map V.ref)[p]? = some (.ref r) := by rw [List.getElem?_map, h1]; rfl
    refine ⟨_, rfl, _, rfl, _, rfl, R, rs, p, rfl, hR, by omega, fun R1 H1 s1 hR1 => ?_⟩
    refine ⟨_, rfl, _, rfl, _, rfl, R, _, (p : Int), .ref r, rfl, rfl, .inl (.inl (s1 _ _ hRl)), atI_nat x0, R1, _, o, r, ρ, rfl, hR1, ?_, s1 _ _ h2, fun R' H2 s2 hR' => ?_⟩
    · rw [List.length_append, List.length_take, List.length_drop]
      omega
    refine ⟨_, rfl, (by show 3 ≤ sizeLine; decide), fun b' nb' => ?_⟩
    have s3 := same_new nb' (.tup [.str (T L), .ref R', .ref X])
    have s03 := s1.trans (s2.trans s3)
    refine ⟨_, rfl, y, C, dx, _, rfl, s03 _ _ hy, S.cl, S.nB, (by show 3 < 1000; decide), ?_⟩
    obtain ⟨k1, k2⟩ := hk.putB (b' := b') hy s03 ⟨R', X, upd_same, hR'.kt (.of s3), hX.kt (.of s03)⟩
    exact q b' ρ _ hρ k2 k1
end
end Say
namespace Say
open PySem PySem.Spec PyProof.Rows L2
def dropW (es : List Exc) (wd : List Nat) : List Exc := es.filter fun e => decide (e.1 ≠ wd)
section
variable {P : Program} {w : World} {K : PySem.W.Frag} {mg : Str → Option Value} {base : Heap}
abbrev sWw : Stmt := topS 65
abbrev nWw : List Str := ["exceptions", "word", "pair"]
theorem scWw : FnScope nWw ["exceptions", "word"] (defScope sWw) := ⟨rfl, rfl, rfl, by decide +kernel, rfl, by decide +kernel, by decide +kernel⟩
def spWw : Sp := fun vs H Q _ => ∃ (X : Addr) (es : List Exc) (wd : List Nat), vs = [.ref X, .str (T wd)] ∧ ExcsAt H X es ∧ es.length ≤ 100 ∧ ∀ (X' : Addr) (H' : Hp), Same H H' → ExcsAt H' X' (dropW es wd) → Q (.ref X') H'
theorem ok_ww {f : Addr} {fd : FuncData} {k : Nat} (F : Fun K "without_word" "without_word" sWw f fd) (B : Bn mg) : FnOk P w K mg base CX0 (k + 1) f fd ["exceptions", "word"] spWw := by
  refine F.ok scWw (fun vs H Q E h => ?_) (fun cdv A outer s H vs Q E hr h => ?_)
  · obtain ⟨X, es, wd, rfl, _⟩ := h
    rfl
  · obtain ⟨X, es, wd, rfl, hX, hl, q⟩ := h
    obtain ⟨ts, h1, h2⟩ := id hX
    have lr := paired_len h2
    refine ⟨_, pss_one (ps_ret (pe_callTy call_tupN (by rfl) B.tup (by decide +kernel) (pa_cons (pe_lc (own := [("pair", 2)]) (g := gName 2) (tt := tTest (tOp rNe (tOp (rIxT K) (tVar 2) (tC (.int 0))) (tVar 1))) (te := tVar 2) rfl scWw.nd (pi_tup (pv 0)) (blkOk_by (N := nWw) (sc := defScope sWw) (by decide +kernel)) (fun _ _ _ _ _ => pg_name (i := 2) scWw.nd rfl (.inl rfl)) (fun _ _ _ _ _ => pts_one (pt_cmpR op_ne (pe_ix ix_tup (pv 2) pe_int (fun _ _ => rfl)) (pv 1) (nomark _))) (fun _ _ _ _ _ => pv 2)) pa_nil))), ?_⟩
    refine ⟨_, rfl, X, rfl, ⟨_, .inl h1.rd⟩, fun D hD => ?_⟩
    refine lc_it (walk_tup (xs := ts.map V.ref)) (fun i HX => (∃ us : List Addr, HX D = some (.lst (us.map V.ref)) ∧ Paired (fun t (e : Exc) => HX t = some (.tup [.str (T e.1), .str (T e.2)])) us (dropW (es.take i) wd)) ∧ Same H HX) ⟨⟨[], upd_same, .nil⟩, same_new hD _⟩ (fun i HX _ h => .inl (h1.kt (.of h.2)).rd) ?_ ?_
    · rintro i x HX HX' hi ⟨⟨us, g1, g2⟩, sX⟩ ⟨rfl, hx⟩
      rw [List.getElem?_map] at hx
      obtain ⟨t, ht, e⟩ := Option.map_eq_some_iff.mp hx
      subst e
      obtain ⟨en, hen, hat⟩ := paired_at h2 ht
      have hatX := sX _ _ hat
      have lu : us.length ≤ 100 := by
        rw [paired_len g2]
        exact Nat.le_trans (List.length_filter_le _ _) (Nat.le_trans (List.length_take_le' _ _) hl)
      have nx : dropW (es.take (i + 1)) wd = dropW (es.take i) wd ++ (if decide (en.1 ≠ wd) = true then [en] else []) := by
        have : es.take (i + 1) = es.take i ++ [en] := by
          obtain ⟨hlt, e⟩ := List.getElem?_eq_some_iff.mp hen
          rw [List.take_succ, hen]
          rfl
        unfold dropW
        rw [this, List.filter_append]
        congr 1
        cases hc : decide (en.1 ≠ wd) with
        | true => rw [if_pos rfl, List.filter_cons_of_pos (by exact hc)]; rfl
        | false => rw [if_neg Bool.false_ne_true, List.filter_cons_of_neg (by show ¬ decide (en.1 ≠ wd) = true; rw [hc]; exact Bool.false_ne_true)]; rfl
      refine ⟨rfl, _, rfl, t, _, 0, .str (T en.1), rfl, rfl, .inl (.inl hatX), atI_nat (j := 0) rfl, _, rfl, rfl, _, rfl, ?_⟩
      rw [eqT]
      by_cases c : en.1 = wd
      · rw [decide_eq_true c]
        refine iteF ⟨⟨us, g1, ?_⟩, sX⟩
        rw [nx, if_neg (by simp [c]), List.append_nil]
        exact g2
      · rw [decide_eq_false c]
        have kt := kt_upd g1 (o := .lst (us.map V.ref ++ [.ref t]))
        refine iteT ⟨_, rfl, _, g1, by rw [List.length_map]; exact smallM (by omega), ⟨us ++ [t], by rw [upd_same, List.map_append]; rfl, ?_⟩, fun b u hb => ?_⟩
        · rw [nx, if_pos (by simp [c])]
          exact paired_app (paired_mono (fun _ _ h => kt.1 _ _ h) g2) (.cons (kt.1 _ _ hatX) .nil)
        · rw [upd_ne (ne_of_none hb hD)]
          exact sX _ _ hb
    · rintro HX ⟨⟨us, g1, g2⟩, sX⟩
      rw [List.length_map, lr, List.take_length] at g2
      refine ⟨D, _, rfl, .inl (.inl g1), fun l o ho hl' => ?_⟩
      have sl := same_new hl' (.frz o (.tup (us.map V.ref)))
      exact q l _ (sX.trans sl) ⟨us, ⟨o, upd_same, ho⟩, paired_mono (fun _ _ h => sl _ _ h) g2⟩
end
end Say
namespace Say
open PySem PySem.Spec PyProof.Rows L2
section
variable {P : Program} {w : World} {K : PySem.W.Frag} {mg : Str → Option Value} {base : Heap}
abbrev sEnd : Stmt := topS 49
theorem scEnd : FnScope ["rules", "tail", "steps", "stuck"] ["rules", "tail"] (defScope sEnd) := ⟨rfl, rfl, rfl, by decide +kernel, rfl, by decide +kernel, by decide +kernel⟩
/-- the numbers by which a tail is said -/
def endM (rs : List Rule) : Option (List Nat) → Option (List Nat)
  | none => none
  | some t => if (Wt rs t).2 = none then some ((Wt rs t).1.map (·.2)) else none
def ensM (rs : List Rule) (tl : Option (List Nat)) : Option (List Nat) := (endM rs tl).map (soL rs)
theorem sayW_ens (rs : List Rule) (wd : List Nat) : sayW rs wd = ensM rs (some (35 :: wd)) := by
  unfold sayW ensM endM
  rw [W_Wt]
  by_cases c : (Wt rs (35 :: wd)).2 = none
  · rw [if_pos c]
    simp only [c, if_true, Option.map_some]
  · rw [if_neg c]
    simp only [c, if_false, Option.map_none]
def EndV (H : Hp) (v : V) : Option (List Nat) → Prop
  | none => v = .non
  | some ks => ∃ D, v = .ref D ∧ H D = some (.lst (ks.map fun k => V.int (k : Nat)))
/-- a tail, not long -/
def TlOk (tl : Option (List Nat)) : Prop := ∀ t, tl = some t → 1 ≤ t.length ∧ t.length ≤ 81
def spEnd : Sp := fun vs H Q _ => ∃ (R : Addr) (rs : List Rule) (tl : Option (List Nat)), vs = [.ref R, optT tl] ∧ RulesAt H R rs ∧ (∀ ρ ∈ rs, RlOk ρ) ∧ TlOk tl ∧
  ∀ (v : V) (H' : Hp), Same H H' → EndV H' v (endM rs tl) → Q v H'
theorem ok_end {f : Addr} {fd : FuncData} (F : Fun K "ending" "ending" sEnd f fd) (DS : Df P w K mg base "steps_of" ["rules", "tail"] 3 spSt) (DN : Df P w K mg base "numbers_of" ["steps"] 1 spNum) : FnOk P w K mg base CX0 4 f fd ["rules", "tail"] spEnd := by
  obtain ⟨fS, fdS, GS, kS, bS, mS⟩ := DS
  obtain ⟨fN, fdN, GN, kN, bN, mN⟩ := DN
  refine F.ok scEnd (fun vs H Q E h => ?_) (fun cdv A outer s H vs Q E hr h => ?_)
  · obtain ⟨R, rs, tl, rfl, _⟩ := h
    rfl
  · obtain ⟨R, rs, tl, rfl, hR, ho, hw, q⟩ := h
    have hr1 : Room 1 _ := hr.mono (by decide)
    refine ⟨_, pss_cons (ps_if (pt_cmpR op_isN (pv 1) pe_non (nomark _)) (pss_one (ps_ret pe_non)) pss_nil)
      (pss_cons (ps_asg (pe_call GS hr (by rfl) mS kS bS .nil pass0 (pa_cons (pv 0) (pa_cons (pv 1) pa_nil))) (pg_tup (by rfl) (pgs_cons (pg_name (i := 2) scEnd.nd rfl (.inl rfl)) (pgs_cons (pg_name (i := 3) scEnd.nd rfl (.inl rfl)) pgs_nil))))
      (pss_cons (ps_if (pt_cmpR op_notN (pv 3) pe_non (nomark _)) (pss_one (ps_ret pe_non)) pss_nil)
      (pss_one (ps_ret (pe_call GN hr1 (by rfl) mN kN bN .nil pass0 (pa_cons (pv 2) pa_nil)))))), ?_⟩
    cases tl with
    | none =>
      refine ⟨_, rfl, rfl, _, rfl, iteT ?_⟩
      exact q _ H (Same.refl H) rfl
    | some tl =>
    obtain ⟨h1, h81⟩ := hw tl rfl
    refine ⟨_, rfl, rfl, _, rfl, ?_⟩
    rw [show decide (optT (some tl) = V.non) = false from decide_eq_false (fun z => by cases z)]
    refine iteF ?_
    refine ⟨_, rfl, _, rfl, R, rs, tl, rfl, hR, ho, h1, h81, fun t D H1 s1 hD ht hS => ?_⟩
    refine ⟨t, _, rfl, .inl (.inl ht), rfl, _, _, rfl, _, _, rfl, rfl, ?_⟩
    refine ⟨_, rfl, rfl, _, rfl, ?_⟩
    simp only [endM] at q
    cases e : (Wt rs tl).2 with
    | some p =>
      rw [e, if_neg (fun z => by cases z)] at q
      rw [show decide (optI (some p) = V.non) = false from decide_eq_false (fun z => by cases z)]
      refine iteT ?_
      exact q _ H1 s1 rfl
    | none =>
      rw [e, if_pos rfl] at q
      refine iteF ?_
      have hl : (Wt rs tl).1.length ≤ tl.length := wk_len rs (tl ++ [35]) tl.length 1
      refine ⟨_, rfl, D, _, rfl, hS, by omega, fun D' H2 s2 _ h2 => ?_⟩
      refine q _ H2 (s1.trans s2) ⟨D', rfl, ?_⟩
      rw [h2, List.map_map]
      rfl
end
end Say
namespace Say
open PySem PySem.Spec PyProof.Rows L2
section
variable {P : Program} {w : World} {K : PySem.W.Frag} {mg : Str → Option Value} {base : Heap}
abbrev sEnS : Stmt := topS 50
theorem scEnS : FnScope ["rules", "tail", "numbers"] ["rules", "tail"] (defScope sEnS) := ⟨rfl, rfl, rfl, by decide +kernel, rfl, by decide +kernel, by decide +kernel⟩
def spEnS : Sp := fun vs H Q _ => ∃ (R : Addr) (rs : List Rule) (tl : Option (List Nat)), vs = [.ref R, optT tl] ∧ RulesAt H R rs ∧ (∀ ρ ∈ rs, RlOk ρ) ∧ TlOk tl ∧
  ∀ (H' : Hp), Same H H' → Q (optT (ensM rs tl)) H'
theorem end_ks {rs : List Rule} {tl : Option (List Nat)} {ks : List Nat} (h : endM rs tl = some ks) (hw : TlOk tl) : (∀ k ∈ ks, k < rs.length) ∧ ks.length ≤ 81 := by
  cases tl with
  | none => cases h
  | some t =>
    unfold endM at h
    by_cases c : (Wt rs t).2 = none
    · simp only [c, if_true] at h
      cases h
      refine ⟨fun k hk => ?_, ?_⟩
      · obtain ⟨st, hst, rfl⟩ := List.mem_map.mp hk
        exact wk_lt _ _ st hst
      · have hl : (Wt rs t).1.length ≤ t.length := wk_len rs (t ++ [35]) t.length 1
        have := (hw t rfl).2
        rw [List.length_map]
        omega
    · simp only [c, if_false] at h
      cases h
theorem ok_enS {f : Addr} {fd : FuncData} (F : Fun K "ending_sounds" "ending_sounds" sEnS f fd) (DE : Df P w K mg base "ending" ["rules", "tail"] 4 spEnd) (DN : Df P w K mg base "sounds_of" ["rules", "numbers"] 1 spSou) : FnOk P w K mg base CX0 5 f fd ["rules", "tail"] spEnS := by
  obtain ⟨fS, fdS, GS, kS, bS, mS⟩ := DE
  obtain ⟨fN, fdN, GN, kN, bN, mN⟩ := DN
  refine F.ok scEnS (fun vs H Q E h => ?_) (fun cdv A outer s H vs Q E hr h => ?_)
  · obtain ⟨R, rs, tl, rfl, _⟩ := h
    rfl
  · obtain ⟨R, rs, tl, rfl, hR, ho, hw, q⟩ := h
    have hr1 : Room 1 _ := hr.mono (by decide)
    refine ⟨_, pss_cons (ps_set (i := 2) scEnS.nd rfl (.inl rfl) (pe_call GS hr (by rfl) mS kS bS .nil pass0 (pa_cons (pv 0) (pa_cons (pv 1) pa_nil))))
      (pss_cons (ps_if (pt_cmpR op_isN (pv 2) pe_non (nomark _)) (pss_one (ps_ret pe_non)) pss_nil)
      (pss_one (ps_ret (pe_call GN hr1 (by rfl) mN kN bN .nil pass0 (pa_cons (pv 0) (pa_cons (pv 2) pa_nil)))))), ?_⟩
    refine ⟨_, rfl, _, rfl, R, rs, tl, rfl, hR, ho, hw, fun v H1 s1 hv => ?_⟩
    unfold ensM at q
    cases e : endM rs tl with
    | none =>
      rw [e] at hv q
      cases hv
      refine ⟨_, rfl, rfl, _, rfl, iteT ?_⟩
      exact q H1 s1
    | some ks =>
      rw [e] at hv q
      obtain ⟨D, rfl, hD⟩ := hv
      obtain ⟨hk, hl⟩ := end_ks e hw
      refine ⟨_, rfl, rfl, _, rfl, ?_⟩
      rw [show decide (V.ref D = V.non) = false from decide_eq_false (fun z => by cases z)]
      refine iteF ?_
      exact ⟨_, rfl, _, rfl, R, D, rs, ks, rfl, hR.kt (.of s1), ho, hD, hk, by omega, fun H2 s2 => q H2 (s1.trans s2)⟩
end
end Say
namespace Say
open PySem PySem.Spec PyProof.Rows L2
section
variable {P : Program} {w : World} {K : PySem.W.Frag} {mg : Str → Option Value} {base : Heap}
abbrev sWS : Stmt := topS 51
theorem scWS : FnScope ["rules", "word"] ["rules", "word"] (defScope sWS) := ⟨rfl, rfl, rfl, by decide +kernel, rfl, by decide +kernel, by decide +kernel⟩
def spWS : Sp := fun vs H Q _ => ∃ (R : Addr) (rs : List Rule) (wd : List Nat), vs = [.ref R, .str (T wd)] ∧ RulesAt H R rs ∧ (∀ ρ ∈ rs, RlOk ρ) ∧ wd.length ≤ 80 ∧
  ∀ (H' : Hp), Same H H' → Q (optT (sayW rs wd)) H'
theorem ok_WS {f : Addr} {fd : FuncData} (F : Fun K "word_sounds" "word_sounds" sWS f fd) (C : Cn mg) (DE : Df P w K mg base "ending_sounds" ["rules", "tail"] 5 spEnS) : FnOk P w K mg base CX0 6 f fd ["rules", "word"] spWS := by
  obtain ⟨fE, fdE, GE, kE, bE, mE⟩ := DE
  obtain ⟨tE, mG⟩ := C.edge
  refine F.ok scWS (fun vs H Q E h => ?_) (fun cdv A outer s H vs Q E hr h => ?_)
  · obtain ⟨R, rs, wd, rfl, _⟩ := h
    rfl
  · obtain ⟨R, rs, wd, rfl, hR, ho, hw, q⟩ := h
    refine ⟨_, pss_one (ps_ret (pe_call GE hr (by rfl) mE kE bE .nil pass0 (pa_cons (pv 0) (pa_cons (pe_op op_add_str (pe_glob (v := .str "#") rfl mG ⟨_, rfl⟩) (pv 1)) pa_nil)))), ?_⟩
    exact ⟨_, rfl, _, rfl, _, _, rfl, rfl, (by rw [len_hash, T_len]; exact small (by omega)), R, rs, some (35 :: wd), (by rw [hash_app]; rfl), hR, ho, (fun t e => by cases e; exact ⟨by simp, by simp; omega⟩), fun H1 s1 => by have := q H1 s1; rw [sayW_ens] at this; exact this⟩
end
end Say
namespace Say
open PySem PySem.Spec PyProof.Rows L2
section
variable {X : Cx}
theorem map_tx {H : Hp} {h : Heap} (one : ∀ (t : Addr) (e : Exc), H t = some (.tup [.str (T e.1), .str (T e.2)]) → SrtT.IsTx h (.ref t) (T e.1) (T e.2)) : ∀ {ts : List Addr} {es : List Exc}, Paired (fun t (e : Exc) => H t = some (.tup [.str (T e.1), .str (T e.2)])) ts es → ts.map (SrtT.txOf h ∘ Value.ref) = es.map tt
  | _, _, .nil => rfl
  | _, _, .cons (a := t) (b := e) hH r => by
    rw [List.map_cons, List.map_cons, map_tx one r]
    congr 1
    exact (one t e hH).tx
/-- sorted(ps) of a list of pairs of texts, the first texts unlike -/
def rSortTL (K : PySem.W.Frag) : List V → Hp → VK → Prop := fun vs H Q => ∃ (a : Addr) (ts : List Addr) (es : List Exc), vs = [.ref a] ∧ SqL K H a (ts.map V.ref) ∧ Paired (fun t (e : Exc) => H t = some (.tup [.str (T e.1), .str (T e.2)])) ts es ∧ (es.map (·.1)).Nodup ∧
  ∀ (ts' : List Addr) (es' : List Exc) (p : Addr), es'.Perm es → (es'.Pairwise fun e f => e.1 < f.1) → Paired (fun t (e : Exc) => H t = some (.tup [.str (T e.1), .str (T e.2)])) ts' es' → H p = none → Q (.ref p) (upd H p (.lst (ts'.map V.ref)))
theorem cr_sortTL : CallR X (.builtin "sorted") (rSortTL X.K) := by
  intro pins s σ H vs us Q I r h
  obtain ⟨a, ts, es, rfl, hs, hp, nd, q⟩ := h
  obtain ⟨its, rv, hl, hz⟩ := I.list hs
  obtain ⟨u, rfl, ru⟩ := vals1 r
  obtain rfl : u = Value.ref a := ru
  obtain rfl := refs_at rv
  rw [List.length_map] at hz
  have one : ∀ (t : Addr) (e : Exc), H t = some (.tup [.str (T e.1), .str (T e.2)]) → SrtT.IsTx s.heap (.ref t) (T e.1) (T e.2) := fun t e ht => by
    obtain ⟨_, its2, r2, o, ho, hc, n, hd⟩ := I.hok _ _ ht
    obtain ⟨u1, u2, rfl, ri, rj⟩ := vals2 r2
    obtain ⟨t1, rfl⟩ := ri
    obtain ⟨t2, rfl⟩ := rj
    exact ⟨t, o, t1, t2, n, rfl, ho, hc, hd⟩
  have each : ∀ v ∈ ts.map Value.ref, ∃ (t : Addr) (e : Exc), v = .ref t ∧ H t = some (.tup [.str (T e.1), .str (T e.2)]) ∧ SrtT.txOf s.heap v = tt e := fun v hv => by
    obtain ⟨t, ht, rfl⟩ := List.mem_map.mp hv
    obtain ⟨j, hj⟩ := List.mem_iff_getElem?.mp ht
    obtain ⟨e, he, hH⟩ := paired_at hp hj
    exact ⟨t, e, rfl, hH, (one t e hH).tx⟩
  have allTx : ∀ v ∈ ts.map Value.ref, SrtT.IsTx s.heap v (SrtT.txOf s.heap v).1 (SrtT.txOf s.heap v).2 := fun v hv => by
    obtain ⟨t, e, rfl, hH, ht⟩ := each v hv
    rw [ht]
    exact one t e hH
  have mapTx : (ts.map Value.ref).map (SrtT.txOf s.heap) = es.map tt := by
    rw [List.map_map]
    exact map_tx one hp
  refine SrtO.sorted_ord (SrtT.swoT (SrtT.txOf s.heap)) hl.isList (by rw [List.length_map]; exact hz) (fun h2 h₁ a' ha' keep => ?_) fun out o1 o2 => ?_
  · exact SrtT.tx_sortable (by omega) (fun v hv => (allTx v hv).keeps fun b o e _ => (keep b o e).2) fun o e c => by
      have e : h₁.get? a' = some o := e
      rw [ha'] at e
      cases e
      exact absurd (Value.type.inj c) (by decide)
  · obtain ⟨ep, he'⟩ := PyProof.Rows.sortedAll_at s.heap (ts.map Value.ref) out.toArray
    have hm : ∀ v ∈ out, v ∈ ts.map Value.ref := fun v hv => o2.perm.mem_iff.mp hv
    have perm : (out.map (SrtT.txOf s.heap)).Perm (es.map tt) := by
      have := o2.perm.map (SrtT.txOf s.heap)
      rwa [mapTx] at this
    have srt : (out.map (SrtT.txOf s.heap)).Pairwise fun e f => SrtT.lexT f e = false := by
      rw [List.pairwise_map]
      exact o1
    obtain ⟨p1, p2, p3⟩ := sort_exc nd perm srt
    have lo : out.length = ts.length := by rw [o2.perm.length_eq, List.length_map]
    have hvals : Vals ((out.map adr).map V.ref) out := by
      clear o1 o2 ep he' perm srt p1 p2 p3 lo
      induction out with
      | nil => exact .nil
      | cons v r ih =>
        refine .cons ?_ (ih fun u hu => hm u (List.mem_cons_of_mem _ hu))
        obtain ⟨t, e, rfl, _, _⟩ := each v (hm v (List.mem_cons_self ..))
        exact rfl
    refine ⟨.ref _, upd H (s.heap.objs.size + 1) (.lst ((out.map adr).map V.ref)), I.laid (t' := s.toks) (fun _ _ => PyProof.Rows.sortedAll_old) (Nat.le_succ _) ⟨by rw [List.length_map, List.length_map, lo]; exact hz, out, ep, hvals, he'⟩, rfl, q _ ((out.map (SrtT.txOf s.heap)).map bk) _ p2 p3 ?_ (I.hok.fresh (Nat.le_succ _))⟩
    rw [List.map_map]
    refine paired_map fun v hv => ?_
    obtain ⟨t, e, rfl, hH, ht⟩ := each v (hm v hv)
    show H t = some (.tup [.str (T (bk (SrtT.txOf s.heap (.ref t))).1), .str (T (bk (SrtT.txOf s.heap (.ref t))).2)])
    rw [ht, bk_tt]
    exact hH
end
end Say
namespace Say
open PySem PySem.Spec PyProof.Rows L2
theorem dropW_nd {es : List Exc} (up : es.Pairwise fun e f => e.1 < f.1) (wd so : List Nat) : ((dropW es wd ++ [(wd, so)]).map (·.1)).Nodup := by
  rw [List.map_append]
  refine List.nodup_append.mpr ⟨?_, (by simp), fun a ha b hb => ?_⟩
  · have := (up.filter (fun e => decide (e.1 ≠ wd)))
    unfold dropW
    refine List.pairwise_map.mpr (this.imp fun {e f} h z => ?_)
    rw [z] at h
    exact List.lt_irrefl _ h
  · rw [List.mem_singleton.mp hb]
    obtain ⟨e, he, rfl⟩ := List.mem_map.mp ha
    unfold dropW at he
    exact of_decide_eq_true (List.mem_filter.mp he).2
theorem dropW_mem {es : List Exc} {wd : List Nat} {e : Exc} (h : e ∈ dropW es wd) : e ∈ es := (List.mem_filter.mp h).1
section
variable {P : Program} {w : World} {K : PySem.W.Frag} {mg : Str → Option Value} {base : Heap}
def spLnG (C CB : Addr) : Sp := fun vs H Q E => ∃ (y b t : Addr) (L : List Nat) (rs : List Rule) (es : List Exc) (ws : List Str) (i : Bool) (wd so : List Nat), vs = [.ref y, .str (T wd), .str (T so)] ∧ DkAt C H y b t L rs es ws i ∧ BookOk L rs es ∧ ExcOk L (wd, so) ∧
  (sayW rs wd = some so → ∀ (b' : Addr) (H' : Hp), Kd y t H H' → DkAt C H' y b' t L rs (dropW es wd) ws i → Q (.bl false) H') ∧
  (sayW rs wd ≠ some so → (dropW es wd).length = 8 → refB CB H E 2 8) ∧
  (sayW rs wd ≠ some so → (dropW es wd).length < 8 → ∀ (b' : Addr) (es' : List Exc) (H' : Hp), es'.Perm (dropW es wd ++ [(wd, so)]) → (es'.Pairwise fun e f => e.1 < f.1) → Kd y t H H' → DkAt C H' y b' t L rs es' ws i → Q (.bl true) H')
theorem ok_lnG {f C CB CW CS fX fS fI : Addr} {fd fdX fdS : FuncData} (F : Fun K "learn" "Desk.learn" (sDk 6) f fd) (S : DkC K C) (B : Bn mg) (cE : KI mg "EXCEPTIONS" 2) (cM : KI mg "MOST_EXCEPTIONS" 8) (O : PySem.XBadBook.ExTxt P K mg CB fI)
    (GX : FnOk P w K mg base (L2N.CX P w) 3 fX fdX ["letters", "word"] (spCx K CW)) (kX : PySem.W.keepIn K (.ref fX) = true) (bX : Binds K fdX ["letters", "word"] []) (mX : mg "check_excepted" = some (.ref fX))
    (GS : FnOk P w K mg base (L2N.CX P w) 3 fS fdS ["sounds"] (spCs K CS)) (kS : PySem.W.keepIn K (.ref fS) = true) (bS : Binds K fdS ["sounds"] []) (mS : mg "check_sounds" = some (.ref fS))
    (DW : Df P w K mg base "without_word" ["exceptions", "word"] 1 spWw) (DE : Df P w K mg base "word_sounds" ["rules", "word"] 6 spWS) :
    FnOk P w K mg base (L2N.CX P w) 7 f fd ["self", "word", "sounds"] (spLnG C CB) := by
  obtain ⟨fW, fdW, GW, kW, bW, mW⟩ := DW
  obtain ⟨fE, fdE, GE, kE, bE, mE⟩ := DE
  obtain ⟨tE, mX2⟩ := cE
  obtain ⟨tM, mM⟩ := cM
  refine F.okN scLn (fun vs H Q E h => ?_) (fun cdv A outer s H vs Q E hr h => ?_)
  · obtain ⟨y, b, t, L, rs, es, ws, i, wd, so, rfl, _⟩ := h
    rfl
  · obtain ⟨y, b, t, L, rs, es, ws, i, wd, so, rfl, hk, ho, hx, q1, q2, q3⟩ := h
    have tk : L2N.Takes _ (fun cls d _ H => E cls d H) := L2N.takes_of (X := cxOf (L2N.CX P w) P w K mg base nLn "Desk.learn" (defScope (sDk 6)) f cdv A outer s H E) rfl rfl rfl rfl
    refine ⟨_, pss_cons (ps_asg (pe_fld (pv 0) rfl) (pg_tup (by rfl) (pgs_cons (pg_name (i := 3) scLn.nd rfl (.inl rfl)) (pgs_cons (pg_name (i := 4) scLn.nd rfl (.inl rfl)) (pgs_cons (pg_name (i := 5) scLn.nd rfl (.inl rfl)) pgs_nil)))))
      (pss_cons (ps_expr (pe_callS GX (hr.mono (by decide)) (by rfl) mX kX bX (fun σ => L2N.passAt tk σ) (by exact (pa_cons (pv 3) (pa_cons (pv 1) pa_nil)))))
      (pss_cons (ps_expr (pe_callS GS (hr.mono (by decide)) (by rfl) mS kS bS (fun σ => L2N.passAt tk σ) (by exact (pa_cons (pv 2) pa_nil))))
      (pss_cons (ps_set (i := 6) scLn.nd rfl (.inl rfl) (pe_call GW (hr.mono (by decide)) (by rfl) mW kW bW .nil pass0 (pa_cons (pv 5) (pa_cons (pv 1) pa_nil))))
      (pss_cons (ps_if (pt_cmpR op_eq (pe_call GE hr (by rfl) mE kE bE .nil pass0 (pa_cons (pv 4) (pa_cons (pv 1) pa_nil))) (pv 2) (nomark _))
        (pss_cons (ps_fld (pv 0) (pe_tup (pa_cons (pv 3) (pa_cons (pv 4) (pa_cons (pv 6) pa_nil)))) rfl) (pss_one (ps_ret pe_bl))) pss_nil)
      (pss_cons (ps_if (pt_cmpR op_eq (pe_callB call_len (by rfl) B.len PySem.boot_len (pa_cons (pv 6) pa_nil)) (pe_glob (v := .int 8) rfl mM ⟨_, rfl⟩) (nomark _))
        (pss_one (ps_raiseBadBookN rfl O hr tk (by exact (pa_cons (pe_glob (v := .int 2) rfl mX2 ⟨_, rfl⟩) (pa_cons (pe_glob (v := .int 8) rfl mM ⟨_, rfl⟩) pa_nil))))) pss_nil)
      (pss_cons (ps_fld (pv 0) (pe_tup (pa_cons (pv 3) (pa_cons (pv 4) (pa_cons (pe_callTy call_tupN (by rfl) B.tup (by decide +kernel) (pa_cons (pe_callB cr_sortTL (by rfl) B.srt (by decide +kernel) (pa_cons (pe_lst (StX.pa_star (pv 6) (pa_cons (pe_tup (pa_cons (pv 1) (pa_cons (pv 2) pa_nil))) pa_nil))) pa_nil)) pa_nil)) pa_nil)))) rfl)
      (pss_one (ps_ret pe_bl)))))))), ?_⟩
    obtain ⟨⟨dx, hy⟩, hB, hto⟩ := id hk
    obtain ⟨R, X, hb, hR, hX⟩ := id hB
    have e8 := ho.e8
    have lw := hx.w8
    have ls := hx.s36
    have tw : txV (.str (T wd)) L 1 8 = true := isText_of hx.w1 hx.w8 hx.w
    have ts : txV (.str (T so)) capsL 0 36 = true := isText_of (Nat.zero_le _) hx.s36 fun c hc => mem_caps (hx.s c hc)
    refine ⟨_, rfl, y, C, dx, _, _, rfl, hy, S.cl, S.nB, d_bk, ?_⟩
    refine ⟨b, _, rfl, .inl (.inl hb), rfl, _, _, rfl, _, _, rfl, _, _, rfl, rfl, ?_⟩
    refine ⟨_, rfl, _, rfl, L, _, rfl, .inl ⟨wd, rfl, by show wd.length ≤ 100; have : wd.length ≤ 8 := lw; omega⟩, fun _ H1 s1 => ?_, fun c => by rw [tw] at c; cases c⟩
    refine ⟨_, rfl, _, rfl, .inl ⟨so, rfl, by have : so.length ≤ 36 := ls; omega⟩, fun _ H2 s2 => ?_, fun c => by rw [ts] at c; cases c⟩
    have s02 := s1.trans s2
    refine ⟨_, rfl, _, rfl, X, es, wd, rfl, hX.kt (.of s02), by omega, fun X' H3 s3 hX' => ?_⟩
    have s03 := s02.trans s3
    refine ⟨_, rfl, _, rfl, R, rs, wd, rfl, hR.kt (.of s03), ho.rls, by have : wd.length ≤ 8 := lw; omega, fun H4 s4 => ?_⟩
    have s04 := s03.trans s4
    have put : ∀ (es' : List Exc) (X2 : Addr) (H5 : Hp), Same H H5 → ExcsAt H5 X2 es' → ∀ b' : Addr, H5 b' = none → Kd y t H (upd (upd H5 b' (.tup [.str (T L), .ref R, .ref X2])) y (.ins C dx (fldD b' t i))) ∧ DkAt C (upd (upd H5 b' (.tup [.str (T L), .ref R, .ref X2])) y (.ins C dx (fldD b' t i))) y b' t L rs es' ws i := fun es' X2 H5 s5 h5 b' nb' => by
      have s6 := same_new nb' (.tup [.str (T L), .ref R, .ref X2])
      have s06 := s5.trans s6
      obtain ⟨k1, k2⟩ := hk.putB (b' := b') hy s06 ⟨R, X2, upd_same, hR.kt (.of s06), h5.kt (.of s6)⟩
      exact ⟨k2, k1⟩
    refine ⟨_, rfl, ?_, _, rfl, ?_⟩
    · cases sayW rs wd <;> rfl
    by_cases c : sayW rs wd = some so
    · rw [show decide (optT (sayW rs wd) = V.str (T so)) = true from decide_eq_true (by rw [c]; rfl)]
      refine iteT ?_
      refine ⟨_, rfl, _, rfl, _, rfl, (by show 3 ≤ sizeLine; decide), fun b' nb' => ?_⟩
      refine ⟨_, rfl, y, C, dx, _, rfl, (same_new nb' _) _ _ (s04 _ _ hy), S.cl, S.nB, (by show 3 < 1000; decide), ?_⟩
      obtain ⟨k1, k2⟩ := put _ X' H4 s04 (hX'.kt (.of s4)) b' nb'
      exact q1 c b' _ k1 k2
    · rw [show decide (optT (sayW rs wd) = V.str (T so)) = false from decide_eq_false fun z => c (by
        cases e : sayW rs wd with
        | none => rw [e] at z; cases z
        | some u => rw [e] at z; rw [T_inj (V.str.inj z)])]
      refine iteF ?_
      obtain ⟨ts', hXl, hXp⟩ := id (hX'.kt (.of s4))
      have lX := paired_len hXp
      have ld : (dropW es wd).length ≤ es.length := List.length_filter_le _ _
      refine ⟨_, rfl, _, _, rfl, .inr ⟨_, .inl hXl.rd, rfl⟩, rfl, _, rfl, ?_⟩
      rw [List.length_map, lX]
      by_cases c8 : (dropW es wd).length = 8
      · rw [show decide (V.int (((dropW es wd).length : Nat) : Int) = V.int 8) = true from decide_eq_true (by rw [c8] <;> rfl)]
        refine iteT ?_
        exact ⟨2, 8, rfl, ⟨by decide, by decide⟩, ⟨by decide, by decide⟩, fun d hd => q2 c c8 d _ (s04.trans (same_new hd _)) (s04.free hd) upd_same⟩
      · rw [show decide (V.int (((dropW es wd).length : Nat) : Int) = V.int 8) = false from decide_eq_false fun z => c8 (by have := V.int.inj z; omega)]
        refine iteF ?_
        refine ⟨_, rfl, _, rfl, _, rfl, X', _, rfl, .inl (.inl hXl.rd), _, rfl, _, rfl, (by show 2 ≤ sizeLine; decide), fun p np => ?_⟩
        have sp := same_new np (.tup [.str (T wd), .str (T so)])
        have s0p := s04.trans sp
        have hXp2 : Paired (fun t (e : Exc) => (upd H4 p (.tup [.str (T wd), .str (T so)])) t = some (.tup [.str (T e.1), .str (T e.2)])) (ts' ++ [p]) (dropW es wd ++ [(wd, so)]) := paired_app (paired_mono (fun _ _ h => sp _ _ h) hXp) (.cons upd_same .nil)
        refine ⟨(by rw [List.length_append, List.length_map]; show _ + 1 ≤ _; exact small (by omega)), fun ul nul => ?_⟩
        have sl := same_new nul (.lst (ts'.map V.ref ++ [.ref p]))
        refine ⟨ul, ts' ++ [p], dropW es wd ++ [(wd, so)], rfl, .inl (.inl (by rw [List.map_append]; exact upd_same)), paired_mono (fun _ _ h => sl _ _ h) hXp2, dropW_nd ho.up wd so, fun us es2 q0 pm st pr nq => ?_⟩
        have sq := same_new nq (.lst (us.map V.ref))
        refine ⟨q0, _, rfl, .inl (.inl upd_same), fun X2 o ho2 nX2 => ?_⟩
        have sX := same_new nX2 (.frz o (.tup (us.map V.ref)))
        refine ⟨(by show 3 ≤ sizeLine; decide), fun b' nb' => ?_⟩
        have s5 := s0p.trans (sl.trans (sq.trans sX))
        refine ⟨_, rfl, y, C, dx, _, rfl, (s5.trans (same_new nb' _)) _ _ hy, S.cl, S.nB, (by show 3 < 1000; decide), ?_⟩
        obtain ⟨k1, k2⟩ := put es2 X2 _ s5 ⟨us, ⟨o, upd_same, ho2⟩, paired_mono (fun _ _ h => (sq.trans sX) _ _ h) pr⟩ b' nb'
        exact q3 c (by omega) b' es2 _ pm st k1 k2
def spPu12 (C CB : Addr) : Sp := fun vs H Q E => ∃ (y b t : Addr) (L : List Nat) (rs : List Rule) (es : List Exc) (ws : List Str) (i : Bool) (p : Nat) (r : V), vs = [.ref y, .int p, r] ∧ DkAt C H y b t L rs es ws i ∧ BookOk L rs es ∧ p ≤ rs.length ∧ rs.length = 12 ∧ refB CB H E 1 p
theorem ok_pu12 {f C CC CB fI fP : Addr} {fd fdP : FuncData} (F : Fun K "put" "Desk.put" (sDk 3) f fd) (S : DkC K C) (B : Bn mg) (Cs : Cn mg) (cR : KI mg "RULES" 1) (O : PySem.XBadBook.ExTxt P K mg CB fI) (GP : FnOk P w K mg base (L2N.CX P w) 2 fP fdP ["place", "most"] (spCp CC)) (kP : PySem.W.keepIn K (.ref fP) = true) (bP : Binds K fdP ["place", "most"] []) (mP : mg "check_place" = some (.ref fP))
    (DI : Df P w K mg base "is_rule" ["letters", "rule"] 3 spIsRule) : FnOk P w K mg base (L2N.CX P w) 4 f fd ["self", "place", "rule"] (spPu12 C CB) := by
  obtain ⟨fT, fdT, GT, kT, bT, mT⟩ := DI
  obtain ⟨tR, mR⟩ := cR
  refine F.okN scPu (fun vs H Q E h => ?_) (fun cdv A outer s H vs Q E hr h => ?_)
  · obtain ⟨y, b, t, L, rs, es, ws, i, p, r, rfl, _⟩ := h
    rfl
  · obtain ⟨y, b, t, L, rs, es, ws, i, p, r, rfl, hk, ho, hp, h12, q⟩ := h
    have tk : L2N.Takes _ (fun cls d _ H => E cls d H) := L2N.takes_of (X := cxOf (L2N.CX P w) P w K mg base nPu "Desk.put" (defScope (sDk 3)) f cdv A outer s H E) rfl rfl rfl rfl
    refine ⟨_, pss_cons (ps_asg (pe_fld (pv 0) rfl) (pg_tup (by rfl) (pgs_cons (pg_name (i := 3) scPu.nd rfl (.inl rfl)) (pgs_cons (pg_name (i := 4) scPu.nd rfl (.inl rfl)) (pgs_cons (pg_name (i := 5) scPu.nd rfl (.inl rfl)) pgs_nil)))))
      (pss_cons (ps_expr (pe_callS GP (hr.mono (by decide)) (by rfl) mP kP bP (fun σ => L2N.passAt tk σ) (by exact (pa_cons (pv 1) (pa_cons (pe_callB call_len (by rfl) B.len PySem.boot_len (pa_cons (pv 4) pa_nil)) pa_nil)))))
      (pss_cons (ps_if (PW.pt (pw_or (pt_cmpR op_eq (pe_callB call_len (by rfl) B.len PySem.boot_len (pa_cons (pv 4) pa_nil)) (pe_glob (v := .int 12) rfl Cs.mrul.choose_spec ⟨_, rfl⟩) (nomark _)) (pw_or1 (pt_not (pt_val (pe_call GT hr (by rfl) mT kT bT .nil pass0 (pa_cons (pv 3) (pa_cons (pv 2) pa_nil))))))))
        (pss_one (ps_raiseBadBookN rfl O hr tk (by exact (pa_cons (pe_glob (v := .int 1) rfl mR ⟨_, rfl⟩) (pa_cons (pv 1) pa_nil))))) pss_nil)
      (pss_one ps_never))), ?_⟩
    obtain ⟨⟨dx, hy⟩, hB, hto⟩ := id hk
    obtain ⟨R, X, hb, hR, hX⟩ := id hB
    obtain ⟨rts, hRl, hRp⟩ := id hR
    have lr := paired_len hRp
    refine ⟨_, rfl, y, C, dx, _, _, rfl, hy, S.cl, S.nB, d_bk, ?_⟩
    refine ⟨b, _, rfl, .inl (.inl hb), rfl, _, _, rfl, _, _, rfl, _, _, rfl, rfl, ?_⟩
    refine ⟨_, rfl, _, rfl, _, _, rfl, .inr ⟨_, .inl (.inl hRl), rfl⟩, .int (p : Nat), _, rfl, .inr (.inl ⟨_, rfl⟩), fun c => ?_, fun c => ?_⟩
    · refine ⟨_, rfl, _, _, rfl, .inr ⟨_, .inl (.inl hRl), rfl⟩, rfl, _, rfl, ?_⟩
      rw [List.length_map, lr, h12]
      refine iteT ?_
      exact ⟨_, rfl, 1, (p : Nat), rfl, ⟨by decide, by decide⟩, ⟨by omega, by omega⟩, fun d hd => q d _ (same_new hd _) hd upd_same⟩
    · rw [List.length_map, lr] at c
      unfold cntV at c
      rw [Bool.and_eq_false_iff, decide_eq_false_iff_not, decide_eq_false_iff_not] at c
      omega
end
end Say
namespace Say
open PySem PySem.Spec PyProof.Rows L2
/-- what the law's own saying hands back -/
def saidV (rs : List Rule) (es : List Exc) (wd : List Nat) : List V := match saidM rs es wd with
  | some s => [.str (T []), .str (T s)]
  | none => [.str (Str.ofString "unsaid"), optI (W rs wd).2]
/-- what is said are capitals, three a letter at the most -/
theorem say_caps {L : List Nat} {rs : List Rule} (ho : ∀ ρ ∈ rs, RuleOk L ρ) (hL : LetOk L) {wd so : List Nat} (h : sayW rs wd = some so) : (∀ c ∈ so, 65 ≤ c ∧ c ≤ 90) ∧ so.length ≤ 3 * (wd.length + 1) := by
  unfold sayW at h
  by_cases e : (W rs wd).2 = none
  · rw [if_pos e] at h
    have h := (Option.some.inj h).symm
    subst h
    have hl : (W rs wd).1.length ≤ wd.length + 1 := wk_len rs (sgn wd) (wd.length + 1) 1
    have hk : ∀ k ∈ (W rs wd).1.map (fun s : Nat × Nat => s.2), k < rs.length := fun k hk => by
      obtain ⟨st, hst, rfl⟩ := List.mem_map.mp hk
      exact wk_lt _ _ st hst
    have h3 := flat_len (fun ρ hρ => (ho ρ hρ).rl hL) _ hk
    rw [List.length_map] at h3
    refine ⟨fun c hc => ?_, by omega⟩
    obtain ⟨l, hl, hcl⟩ := List.mem_flatten.mp hc
    obtain ⟨k, hkm, rfl⟩ := List.mem_map.mp hl
    have hkl := hk k hkm
    rw [ruleAt_eq (List.getElem?_eq_getElem hkl)] at hcl
    exact (ho _ (List.getElem_mem hkl)).so c hcl
  · rw [if_neg e] at h
    cases h
theorem said_stuck' {rs : List Rule} {es : List Exc} {wd : List Nat} (h : saidM rs es wd = none) : ∃ p, (W rs wd).2 = some p := by
  cases hq : (W rs wd).2 with
  | some p => exact ⟨p, rfl⟩
  | none =>
    unfold saidM at h
    cases hf : es.find? fun e => decide (e.1 = wd) with
    | some e => rw [hf] at h; cases h
    | none =>
      rw [hf] at h
      have h : sayW rs wd = none := h
      unfold sayW at h
      rw [if_pos hq] at h
      cases h
end Say
namespace Say
open PySem PySem.Spec PyProof.Rows L2
/-! ### a book as data -/
def ruleD (ρ : Rule) : PyData := .tuple [.str (T ρ.ah), .str (T ρ.ow), .str (T ρ.be), .str (T ρ.so)]
def excD2 (e : Exc) : PyData := .tuple [.str (T e.1), .str (T e.2)]
def bookD (L : List Nat) (rs : List Rule) (es : List Exc) : PyData := .tuple [.str (T L), .tuple (rs.map ruleD), .tuple (es.map excD2)]
theorem dp_book {K : PySem.W.Frag} {H : Hp} {b : Addr} {L : List Nat} {rs : List Rule} {es : List Exc} (h : BookAt H b L rs es) : Dp K H (.ref b) (bookD L rs es) := by
  obtain ⟨R, X, hb, ⟨tsR, hR, pR⟩, ⟨tsX, hX, pX⟩⟩ := h
  have hRs : DpAll K H (tsR.map V.ref) (rs.map ruleD) := by
    clear hR
    induction pR with
    | nil => exact .nil
    | cons a b ih => exact .cons (.tup (.inl (.inl a)) (.cons (.str _) (.cons (.str _) (.cons (.str _) (.cons (.str _) .nil))))) ih
  have hXs : DpAll K H (tsX.map V.ref) (es.map excD2) := by
    clear hX
    induction pX with
    | nil => exact .nil
    | cons a b ih => exact .cons (.tup (.inl (.inl a)) (.cons (.str _) (.cons (.str _) .nil))) ih
  exact .tup (.inl (.inl hb)) (.cons (.str _) (.cons (.tup (.inl (.inl hR)) hRs) (.cons (.tup (.inl hX.rd) hXs) .nil)))
theorem few_strs {l : List PyData} (h : ∀ d ∈ l, ∃ x, d = .str x) : ∀ d ∈ l, Few d := fun d hd => by
  obtain ⟨x, rfl⟩ := h d hd
  exact .str x
theorem few_book {L : List Nat} {rs : List Rule} {es : List Exc} (h : BookOk L rs es) : Few (bookD L rs es) := by
  have r12 := h.r12
  have e8 := h.e8
  refine .tup (by show 3 ≤ 1000; decide) fun d hd => ?_
  simp only [List.mem_cons, List.not_mem_nil, or_false] at hd
  rcases hd with rfl | rfl | rfl
  · exact .str _
  · refine .tup (by rw [List.length_map]; omega) fun d hd => ?_
    obtain ⟨ρ, _, rfl⟩ := List.mem_map.mp hd
    refine .tup (by show 4 ≤ 1000; decide) fun d hd => ?_
    simp only [List.mem_cons, List.not_mem_nil, or_false] at hd
    rcases hd with rfl | rfl | rfl | rfl <;> exact .str _
  · refine .tup (by rw [List.length_map]; omega) fun d hd => ?_
    obtain ⟨ρ, _, rfl⟩ := List.mem_map.mp hd
    refine .tup (by show 2 ≤ 1000; decide) fun d hd => ?_
    simp only [List.mem_cons, List.not_mem_nil, or_false] at hd
    rcases hd with rfl | rfl <;> exact .str _
theorem depth_all {n : Nat} : ∀ {l : List PyData}, (∀ d ∈ l, d.depth ≤ n) → PyData.depthAll l ≤ n
  | [], _ => Nat.zero_le _
  | d :: r, h => by
    have h1 := h d (List.mem_cons_self ..)
    have h2 := depth_all (l := r) fun x hx => h x (List.mem_cons_of_mem _ hx)
    show max d.depth (PyData.depthAll r) ≤ n
    omega
theorem depth_book (L : List Nat) (rs : List Rule) (es : List Exc) : (bookD L rs es).depth < 4 := by
  have h1 : PyData.depthAll (rs.map ruleD) ≤ 1 := depth_all fun d hd => by
    obtain ⟨ρ, _, rfl⟩ := List.mem_map.mp hd
    exact Nat.le_refl 1
  have h2 : PyData.depthAll (es.map excD2) ≤ 1 := depth_all fun d hd => by
    obtain ⟨ρ, _, rfl⟩ := List.mem_map.mp hd
    exact Nat.le_refl 1
  show max 0 (max (PyData.depthAll (rs.map ruleD) + 1) (max (PyData.depthAll (es.map excD2) + 1) 0)) + 1 < 4
  omega
end Say
namespace Say
open PySem PySem.Spec PyProof.Rows L2
/-! ### what a deed tells, and what it leaves -/
inductive Res where
  | non (k : Str)
  | book (p n : Int)
  | rule (ρ : Rule)
  | text (s : List Nat)
  | bl (b : Bool)
def ResAt (H : Hp) (u : Addr) : Res → Prop
  | .non k => H u = some (.tup [.str k, .non])
  | .book p n => ∃ q, H u = some (.tup [.str "book", .ref q]) ∧ H q = some (.tup [.int p, .int n])
  | .rule ρ => ∃ a, H u = some (.tup [.str "", .ref a]) ∧ H a = some (.tup ρ.vs)
  | .text s => H u = some (.tup [.str "", .str (T s)])
  | .bl b => H u = some (.tup [.str "", .bl b])
def resD : Res → PyData
  | .non k => .tuple [.str k, .none]
  | .book p n => .tuple [.str "book", .tuple [.int p, .int n]]
  | .rule ρ => .tuple [.str "", ruleD ρ]
  | .text s => .tuple [.str "", .str (T s)]
  | .bl b => .tuple [.str "", .bool b]
theorem ResAt.kt {H H' : Hp} {u : Addr} {r : Res} (h : ResAt H u r) (k : KT H H') : ResAt H' u r := by
  cases r with
  | non z => exact k.1 _ _ h
  | book p n => obtain ⟨q, h1, h2⟩ := h; exact ⟨q, k.1 _ _ h1, k.1 _ _ h2⟩
  | rule ρ => obtain ⟨q, h1, h2⟩ := h; exact ⟨q, k.1 _ _ h1, k.1 _ _ h2⟩
  | text s => exact k.1 _ _ h
  | bl b => exact k.1 _ _ h
theorem ResAt.dp {K : PySem.W.Frag} {H : Hp} {u : Addr} {r : Res} (h : ResAt H u r) : Dp K H (.ref u) (resD r) := by
  cases r with
  | non z => exact .tup (.inl (.inl h)) (.cons (.str _) (.cons .non .nil))
  | book p n => obtain ⟨q, h1, h2⟩ := h; exact .tup (.inl (.inl h1)) (.cons (.str _) (.cons (.tup (.inl (.inl h2)) (.cons (.int _) (.cons (.int _) .nil))) .nil))
  | rule ρ => obtain ⟨q, h1, h2⟩ := h; exact .tup (.inl (.inl h1)) (.cons (.str _) (.cons (.tup (.inl (.inl h2)) (.cons (.str _) (.cons (.str _) (.cons (.str _) (.cons (.str _) .nil))))) .nil))
  | text s => exact .tup (.inl (.inl h)) (.cons (.str _) (.cons (.str _) .nil))
  | bl b => exact .tup (.inl (.inl h)) (.cons (.str _) (.cons (.bl _) .nil))
theorem few2 {a b : PyData} (ha : Few a) (hb : Few b) : Few (.tuple [a, b]) := .tup (by show 2 ≤ 1000; decide) fun d hd => by
  rcases List.mem_cons.mp hd with rfl | hd
  · exact ha
  · rw [List.mem_singleton.mp hd]
    exact hb
theorem res_few (r : Res) : Few (resD r) := by
  cases r with
  | non z => exact few2 (.str _) .non
  | book p n => exact few2 (.str _) (few2 (.int _) (.int _))
  | rule ρ => exact few2 (.str _) (.tup (by show 4 ≤ 1000; decide) (few_strs fun d hd => by
      simp only [List.mem_cons, List.not_mem_nil, or_false] at hd
      rcases hd with rfl | rfl | rfl | rfl <;> exact ⟨_, rfl⟩))
  | text s => exact few2 (.str _) (.str _)
  | bl b => exact few2 (.str _) (.bl _)
theorem res_depth (r : Res) : (resD r).depth < 4 := by
  cases r with
  | non z => show 1 < 4; decide
  | book p n => show 2 < 4; decide
  | rule ρ => show 2 < 4; decide
  | text s => show 1 < 4; decide
  | bl b => show 1 < 4; decide
def resM (rs : List Rule) (es : List Exc) : Deed → Res
  | .put p ρ => if rs.length < p then .non "count" else if rs.length = 12 then .book 1 p else .non ""
  | .drop p => match rs[p]? with
    | some ρ => .rule ρ
    | none => .non "count"
  | .move p q => if p < rs.length ∧ q < rs.length then .non "" else .non "count"
  | .learn w s => if sayW rs w = some s then .bl false else if (dropW es w).length = 8 then .book 2 8 else .bl true
  | .learnN w => .non "sounds"
  | .forget w => match es.find? fun e => decide (e.1 = w) with
    | some e => .text e.2
    | none => .non "exception"
def moveL (rs : List Rule) (p q : Nat) : List Rule := match rs[p]? with
  | some ρ => (rs.take p ++ rs.drop (p + 1)).take q ++ [ρ] ++ (rs.take p ++ rs.drop (p + 1)).drop q
  | none => rs
def rsM (rs : List Rule) : Deed → List Rule
  | .put p ρ => if rs.length < p then rs else if rs.length = 12 then rs else rs.take p ++ [ρ] ++ rs.drop p
  | .drop p => if p < rs.length then rs.take p ++ rs.drop (p + 1) else rs
  | .move p q => if p < rs.length ∧ q < rs.length then moveL rs p q else rs
  | _ => rs
def esM (rs : List Rule) (es : List Exc) : Deed → List Exc
  | .learn w s => if sayW rs w = some s then dropW es w else if (dropW es w).length = 8 then es else dropW es w ++ [(w, s)]
  | .forget w => dropW es w
  | _ => es
/-! ### no matter in which order the exceptions stand -/
theorem find_perm {es es' : List Exc} (h : es'.Perm es) (nd : (es.map (·.1)).Nodup) (w : List Nat) : es'.find? (fun e => decide (e.1 = w)) = es.find? fun e => decide (e.1 = w) := by
  have key : ∀ {a b : List Exc}, (b.map (·.1)).Nodup → ∀ e, e ∈ b → e.1 = w → b.find? (fun e => decide (e.1 = w)) = some e := fun {a b} nd e he hw => by
    clear h
    induction b with
    | nil => cases he
    | cons x r ih =>
      rw [List.map_cons, List.nodup_cons] at nd
      by_cases c : x.1 = w
      · rw [List.find?_cons_of_pos (by exact decide_eq_true c)]
        rcases List.mem_cons.mp he with rfl | he
        · rfl
        · exact absurd (List.mem_map.mpr ⟨e, he, hw.trans c.symm⟩) nd.1
      · rw [List.find?_cons_of_neg (by simpa using c)]
        rcases List.mem_cons.mp he with rfl | he
        · exact absurd hw c
        · exact ih nd.2 he
  have nd' : (es'.map (·.1)).Nodup := (h.map (·.1)).nodup_iff.mpr nd
  cases hf : es.find? (fun e => decide (e.1 = w)) with
  | some e =>
    have he := List.mem_of_find?_eq_some hf
    have hw : e.1 = w := by have := List.find?_some hf; simpa using this
    exact key (a := es) nd' e (h.mem_iff.mpr he) hw
  | none =>
    rw [List.find?_eq_none] at hf ⊢
    exact fun e he => hf e (h.mem_iff.mp he)
theorem drop_perm {es es' : List Exc} (h : es'.Perm es) (w : List Nat) : (dropW es' w).Perm (dropW es w) := h.filter _
theorem resM_perm {rs : List Rule} {es es' : List Exc} (h : es'.Perm es) (nd : (es.map (·.1)).Nodup) (d : Deed) : resM rs es' d = resM rs es d := by
  cases d with
  | learn w s => show (if _ then _ else if _ then _ else _) = _; rw [(drop_perm h w).length_eq]; rfl
  | forget w => show (match es'.find? _ with | some e => Res.text e.2 | none => .non "exception") = _; rw [find_perm h nd w]; rfl
  | _ => rfl
theorem esM_perm {rs : List Rule} {es es' : List Exc} (h : es'.Perm es) (d : Deed) : (esM rs es' d).Perm (esM rs es d) := by
  cases d with
  | learn w s =>
    show List.Perm (if sayW rs w = some s then dropW es' w else if (dropW es' w).length = 8 then es' else dropW es' w ++ [(w, s)]) (if sayW rs w = some s then dropW es w else if (dropW es w).length = 8 then es else dropW es w ++ [(w, s)])
    rw [(drop_perm h w).length_eq]
    by_cases c : sayW rs w = some s
    · rw [if_pos c, if_pos c]; exact drop_perm h w
    · rw [if_neg c, if_neg c]
      by_cases c8 : (dropW es w).length = 8
      · rw [if_pos c8, if_pos c8]; exact h
      · rw [if_neg c8, if_neg c8]; exact (drop_perm h w).append_right _
  | forget w => exact drop_perm h w
  | _ => exact h
theorem put_perm {es : List Exc} (nd : (es.map (·.1)).Nodup) (w s : List Nat) : (putE es w s).Perm (dropW es w ++ [(w, s)]) := by
  unfold putE dropW
  by_cases c : (es.any fun e => decide (e.1 = w)) = true
  · rw [if_pos c]
    induction es with
    | nil => cases c
    | cons x r ih =>
      rw [List.map_cons, List.nodup_cons] at nd
      by_cases cx : x.1 = w
      · have no : ∀ e ∈ r, e.1 ≠ w := fun e he z => nd.1 (List.mem_map.mpr ⟨e, he, z.trans cx.symm⟩)
        have e1 : r.map (fun e => if e.1 = w then (e.1, s) else e) = r := by
          conv => rhs; rw [← List.map_id r]
          exact List.map_congr_left fun e he => if_neg (no e he)
        have e2 : r.filter (fun e => decide (e.1 ≠ w)) = r := List.filter_eq_self.mpr fun e he => decide_eq_true (no e he)
        rw [List.map_cons, if_pos cx, List.filter_cons_of_neg (by simp [cx]), e1, e2, cx]
        exact (List.perm_append_comm (l₁ := [(w, s)]) (l₂ := r))
      · rw [List.any_cons, decide_eq_false cx, Bool.false_or] at c
        rw [List.map_cons, if_neg cx, List.filter_cons_of_pos (by simp [cx]), List.cons_append]
        exact (ih nd.2 c).cons _
  · rw [if_neg c]
    have no : ∀ e ∈ es, e.1 ≠ w := fun e he z => c (List.any_eq_true.mpr ⟨e, he, decide_eq_true z⟩)
    rw [List.filter_eq_self.mpr fun e he => decide_eq_true (no e he)]
theorem drop_ent (es : List Exc) (w : List Nat) : dropK (es.map ent) (Sum.inr (T w) : Key) = (dropW es w).map ent := by
  unfold dropK dropW
  rw [List.filter_map]
  congr 1
  refine List.filter_congr fun e _ => ?_
  show decide ((Sum.inr (T e.1) : Key) ≠ Sum.inr (T w)) = decide (e.1 ≠ w)
  exact decide_eq_decide.mpr (not_congr key_eq)
theorem val_ent2 (es : List Exc) (w : List Nat) : valV (es.map ent) (Sum.inr (T w) : Key) = (es.find? fun e => decide (e.1 = w)).map fun e => V.str (T e.2) := by
  unfold valV
  rw [List.find?_map, Option.map_map]
  have : ((fun kv : Key × V => decide (kv.1 = (Sum.inr (T w) : Key))) ∘ ent) = fun e : Exc => decide (e.1 = w) := funext fun e => decide_eq_decide.mpr key_eq
  rw [this]
  rfl
theorem seqIx_nat {p n : Nat} (h : p < n) : seqIndex? (p : Int) n = some p := by
  unfold seqIndex?
  have h1 : ¬ ((p : Int) < 0) := by omega
  rw [if_neg h1]
  show (if (decide (0 ≤ (p : Int)) && decide ((p : Int) < (n : Int))) = true then some (p : Int).toNat else none) = some p
  rw [decide_eq_true (by omega : (0 : Int) ≤ p), decide_eq_true (by omega : (p : Int) < n)]
  rfl
theorem said_stuckD {rs : List Rule} {es : List Exc} {wd : List Nat} (h : saidM rs es wd = none) : ∃ p, (W rs wd).2 = some p := by
  unfold saidM at h
  cases hf : es.find? fun e => decide (e.1 = wd) with
  | some e => rw [hf] at h; cases h
  | none =>
    rw [hf] at h
    have h : sayW rs wd = none := h
    unfold sayW at h
    cases hw : (W rs wd).2 with
    | some p => exact ⟨p, rfl⟩
    | none => rw [if_pos hw] at h; cases h
theorem said_dueD {K : PySem.W.Frag} {H : Hp} {t u : Addr} {rs : List Rule} {es : List Exc} {wd so : List Nat} (ht : H t = some (.tup (saidV rs es wd))) (hu : H u = some (.tup [.str (Str.ofString ""), .str (T so)]))
    (ok : ∀ s, saidM rs es wd = some s → ∀ c ∈ s, c < 1114112) (oks : ∀ c ∈ so, c < 1114112) :
    ∃ d1 d2, Dp K H (.ref t) d1 ∧ Dp K H (.ref u) d2 ∧ SeqAt.shaped d1 = true ∧ SeqAt.shaped d2 = true ∧ PyData.eqv d1 d2 = decide (saidM rs es wd = some so) := by
  cases hM : saidM rs es wd with
  | some s =>
    refine ⟨.tuple [.str (T []), .str (T s)], .tuple [.str (Str.ofString ""), .str (T so)], ?_, .tup (.inl (.inl hu)) (.cons (.str _) (.cons (.str _) .nil)), shaped_two (by decide +kernel) (strOk_T (ok s hM)) rfl rfl, shaped_two (by decide +kernel) (strOk_T oks) rfl rfl, ?_⟩
    · unfold saidV at ht
      rw [hM] at ht
      exact .tup (.inl (.inl ht)) (.cons (.str _) (.cons (.str _) .nil))
    · rw [show Str.ofString "" = T [] from nil_eq]
      show ((T [] == T []) && ((T s == T so) && true)) = _
      rw [beq_self_eq_true, Bool.true_and, Bool.and_true]
      rw [Bool.eq_iff_iff, decide_eq_true_eq, beq_iff_eq]
      exact ⟨fun z => by rw [T_inj z], fun z => by rw [Option.some.inj z]⟩
  | none =>
    obtain ⟨p, hp⟩ := said_stuckD hM
    refine ⟨.tuple [.str (Str.ofString "unsaid"), .int (p : Nat)], .tuple [.str (Str.ofString ""), .str (T so)], ?_, .tup (.inl (.inl hu)) (.cons (.str _) (.cons (.str _) .nil)), shaped_two (by decide +kernel) rfl rfl rfl, shaped_two (by decide +kernel) (strOk_T oks) rfl rfl, ?_⟩
    · unfold saidV at ht
      rw [hM, hp] at ht
      exact .tup (.inl (.inl ht)) (.cons (.str _) (.cons (.int _) .nil))
    · show ((Str.ofString "unsaid" == Str.ofString "") && PyData.eqvAll [.int (p : Nat)] [.str (T so)]) = _
      rw [show (Str.ofString "unsaid" == Str.ofString "") = false by decide +kernel, Bool.false_and]
      rfl
end Say
namespace Say
open PySem PySem.Spec PyProof.Rows L2
section
variable {P : Program} {w : World} {K : PySem.W.Frag} {mg : Str → Option Value} {base : Heap}
def spFgG (C : Addr) : Sp := fun vs H Q _ => ∃ (y b t : Addr) (L : List Nat) (rs : List Rule) (es : List Exc) (ws : List Str) (i : Bool) (wd : List Nat), vs = [.ref y, .str (T wd)] ∧ DkAt C H y b t L rs es ws i ∧ BookOk L rs es ∧ (∃ e ∈ es, e.1 = wd) ∧
  ∀ (b' : Addr) (en : Exc) (H' : Hp), en ∈ es → en.1 = wd → Kd y t H H' → DkAt C H' y b' t L rs (dropW es wd) ws i → Q (.str (T en.2)) H'
theorem ok_fgG {f C : Addr} {fd : FuncData} (F : Fun K "forget" "Desk.forget" (sDk 7) f fd) (S : DkC K C) (DW : Df P w K mg base "without_word" ["exceptions", "word"] 1 spWw) : FnOk P w K mg base (L2N.CX P w) 2 f fd ["self", "word"] (spFgG C) := by
  obtain ⟨fW, fdW, GW, kW, bW, mW⟩ := DW
  refine F.okN scFg (fun vs H Q E h => ?_) (fun cdv A outer s H vs Q E hr h => ?_)
  · obtain ⟨y, b, t, L, rs, es, ws, i, wd, rfl, _⟩ := h
    rfl
  · obtain ⟨y, b, t, L, rs, es, ws, i, wd, rfl, hk, ho, hin, q⟩ := h
    have px : PassesOwn (model P w) (A.deeper (envOfC "Desk.forget" (defScope (sDk 7)) s.heap.objs.size f cdv)) (envOfC "Desk.forget" (defScope (sDk 7)) s.heap.objs.size f cdv) (cxOf (L2N.CX P w) P w K mg base nFg "Desk.forget" (defScope (sDk 7)) f cdv A outer s H E).xe := PassesOwn.leaving
    refine ⟨_, pss_cons (ps_asg (pe_fld (pv 0) rfl) (pg_tup (by rfl) (pgs_cons (pg_name (i := 2) scFg.nd rfl (.inl rfl)) (pgs_cons (pg_name (i := 3) scFg.nd rfl (.inl rfl)) (pgs_cons (pg_name (i := 4) scFg.nd rfl (.inl rfl)) pgs_nil)))))
      (pss_cons (ps_for px rfl (pi_tup (pv 4)) (pg_tup (by rfl) (pgs_cons (pg_name (i := 5) scFg.nd rfl (.inl rfl)) (pgs_cons (pg_name (i := 6) scFg.nd rfl (.inl rfl)) pgs_nil)))
        (pss_one (ps_if (pt_cmpR op_eq (pv 5) (pv 1) (nomark _)) (pss_cons (ps_fld (pv 0) (pe_tup (pa_cons (pv 2) (pa_cons (pv 3) (pa_cons (pe_call GW (hr.mono (by decide)) (by rfl) mW kW bW .nil pass0 (pa_cons (pv 4) (pa_cons (pv 1) pa_nil))) pa_nil)))) rfl) (pss_one (ps_ret (pv 6)))) pss_nil)))
      (pss_one ps_never)), ?_⟩
    obtain ⟨⟨dx, hy⟩, hB, hto⟩ := id hk
    obtain ⟨R, X, hb, hR, hX⟩ := id hB
    obtain ⟨ts, hXl, hXp⟩ := id hX
    have e8 := ho.e8
    refine ⟨_, rfl, y, C, dx, _, _, rfl, hy, S.cl, S.nB, d_bk, ?_⟩
    refine ⟨b, _, rfl, .inl (.inl hb), rfl, _, _, rfl, _, _, rfl, _, _, rfl, rfl, ?_⟩
    refine ⟨_, rfl, X, rfl, ⟨_, .inl hXl.rd⟩, for_it (walk_tup (xs := ts.map V.ref)) (fun j σ H3 => Same H H3 ∧ (∃ v5 v6, σ = [some (.ref y), some (.str (T wd)), some (.str (T L)), some (.ref R), some (.ref X), v5, v6]) ∧ ∀ m e, m < j → es[m]? = some e → e.1 ≠ wd)
      ⟨Same.refl _, ⟨_, _, rfl⟩, fun m e h => absurd h (Nat.not_lt_zero m)⟩ (fun j σ H3 _ h => .inl (hXl.kt (.of h.1)).rd) ?_ ?_⟩
    · rintro j x σ H3 H4 hi ⟨s3, ⟨v5, v6, rfl⟩, hn⟩ ⟨rfl, hx⟩
      rw [List.getElem?_map] at hx
      obtain ⟨a, ha, e⟩ := Option.map_eq_some_iff.mp hx
      subst e
      obtain ⟨en, hen, hat⟩ := paired_at hXp ha
      refine ⟨a, _, rfl, .inl (.inl (s3 _ _ hat)), rfl, _, _, rfl, _, _, rfl, rfl, ?_⟩
      refine ⟨_, rfl, _, rfl, rfl, _, rfl, ?_⟩
      rw [eqT]
      by_cases c : en.1 = wd
      · rw [decide_eq_true c]
        refine iteT ?_
        refine ⟨_, rfl, _, rfl, _, rfl, _, rfl, X, es, wd, rfl, hX.kt (.of s3), by omega, fun X' H5 s5 hX' => ?_⟩
        refine ⟨(by show 3 ≤ sizeLine; decide), fun b' nb' => ?_⟩
        have s6 := same_new nb' (.tup [.str (T L), .ref R, .ref X'])
        have s06 := s3.trans (s5.trans s6)
        refine ⟨_, rfl, y, C, dx, _, rfl, s06 _ _ hy, S.cl, S.nB, (by show 3 < 1000; decide), ?_⟩
        obtain ⟨k1, k2⟩ := hk.putB (b' := b') hy s06 ⟨R, X', upd_same, hR.kt (.of s06), hX'.kt (.of s6)⟩
        exact ⟨_, rfl, q b' en _ (List.mem_of_getElem? hen) c k2 k1⟩
      · rw [decide_eq_false c]
        refine iteF ⟨s3, ⟨_, _, rfl⟩, fun m e hm he => ?_⟩
        rcases Nat.lt_or_eq_of_le (Nat.le_of_lt_succ hm) with h | h
        · exact hn m e h he
        · subst h
          rw [hen] at he
          cases he
          exact c
    · rintro σ H3 ⟨s3, _, hn⟩
      obtain ⟨e, he, hw⟩ := hin
      obtain ⟨m, hm⟩ := List.mem_iff_getElem?.mp he
      have := (List.getElem?_eq_some_iff.mp hm).1
      exact absurd hw (hn m e (by rw [List.length_map, paired_len hXp]; exact this) hm)
end
end Say
namespace Say
open PySem PySem.Spec PyProof.Rows L2
theorem count_eqU {x : V} : ∀ {xs : List V} {us : List Value}, Vals xs us → xs.all flatV = true → us.countP (eqU x) = xs.countP fun y => eqV y x
  | _, _, .nil, _ => rfl
  | y :: xs, u :: us, .cons r t, f => by
    rw [List.all_cons, Bool.and_eq_true] at f
    have ih := count_eqU (x := x) t f.2
    rw [List.countP_cons, List.countP_cons, ih, eqU_of r f.1]
section
variable {X : Cx}
/-- l.count(y) of plain values -/
def rCntV (K : PySem.W.Frag) : V → List V → Hp → VK → Prop := fun x xs H Q => ∃ (p : Addr) (ys : List V) (y : V), x = .ref p ∧ xs = [y] ∧ SqL K H p ys ∧ flatV y = true ∧ ys.all flatV = true ∧ Q (.int ((ys.countP fun z => eqV z y : Nat) : Int)) H
theorem mt_countV : MtR X "list.count" (rCntV X.K) := by
  intro pins s σ H x xs v us Q I rx rxs h
  obtain ⟨p, ys, y, rfl, rfl, hs, fy, fys, q⟩ := h
  cases rx
  obtain ⟨u, rfl, ru⟩ := rxs.one
  obtain ⟨its, rv, ⟨⟨cls, dd, data, sl⟩, n, ho, hc, hdn, hd⟩, hlen⟩ := I.list hs
  simp only at hc hd
  subst hc hd
  refine call_meets PySem.F.slot_list_count ⟨_, ho, rfl⟩ PySem.F.entry_list_count (PySem.F.args_list_count_2 _ _)
    (SeqAt.list_countAt p its.toArray n dd sl u (eqU y)) ⟨ho, fun u' hu' => mem_eqAt ru fy rv fys u' (by simpa using hu'), ?_⟩
  have ec : its.toArray.toList.countP (eqU y) = ys.countP fun z => eqV z y := count_eqU rv fys
  refine ⟨.int _, H, I.tok _, ⟨s.toks, ?_⟩, q⟩
  rw [ec]
/-- isinstance(e, c), e the caught one, an instance of D with a dict -/
def rIsED (K : PySem.W.Frag) (D a : Addr) (cls : Value) (d : Option Addr) : List V → Hp → VK → Prop := fun xs H Q => ∃ (c : V) (cv : Value) (b : Bool) (dd : Addr) (fs : List (Str × V)), xs = [.ref a, c] ∧ ClsV c cv ∧ cls = .ref D ∧ d = some dd ∧ H dd = some (.xd fs) ∧ PySem.W.kitOne K (.ref D) cv = some b ∧ Q (.bl b) H
theorem call_isED {a D : Addr} {oe : Obj} {cls : Value} {d : Option Addr} {pn : List (Addr × Obj)} (C : ExcC X.K D) (hz : Zc cls d oe) (hf : ∃ vs, oe.data = .fields vs) : CallR (X.suite a ((a, oe) :: pn)) (.builtin "isinstance") (rIsED X.K D a cls d) := by
  intro pins s σ H xs us Q I r h
  obtain ⟨c, cv, b, dd, fs, rfl, hcv, ecl, ed, hH, e, q⟩ := h
  subst ed
  subst ecl
  obtain ⟨u1, u2, rfl, r1, r2⟩ := vals2 r
  cases (show u1 = Value.ref a from r1)
  have ec := hcv.eq r2
  subst ec
  obtain ⟨hget, _⟩ := I.pin (a, oe) (List.mem_append.mpr (.inl List.mem_cons_self))
  obtain ⟨vs, hv⟩ := hf
  have hx : ObjOk X.prog X.w H s.heap dd (.xd fs) := I.hok dd _ hH
  obtain ⟨mA, hns, hr⟩ := hx
  obtain ⟨od, ho, hl⟩ := lookIn_ns hns
  have J : PySem.W.InstAt s.heap a oe D (some od) := ⟨hget, hz.1, by unfold PySem.W.notCls; rw [hv] <;> rfl, by rw [hz.2]; exact ho⟩
  have hcl : (PySem.W.clsIn X.K D).isSome = true := by
    obtain ⟨cd, hc, _⟩ := PySem.W.any_some C.hd
    rw [hc]; rfl
  exact PySem.W.kia_one (PySem.W.kitx_exc hcl C.hg C.hk C.hs C.ha C.hn C.ht C.hm) I.kIn J e (fun z => nomatch z) fun tk => ⟨.bl b, H, I.kept (t' := tk) fun _ _ z => z, rfl, q⟩
/-- what may be known of the caught one's dict -/
def Held (H : Hp) (d : Option Addr) : Prop := d = none ∨ ∃ (dd : Addr) (fs : List (Str × V)), d = some dd ∧ H dd = some (.xd fs)
theorem Held.same {H H' : Hp} {d : Option Addr} (h : Held H d) (e : ∀ b o, H b = some o → H' b = some o) : Held H' d := by
  rcases h with h | ⟨dd, fs, h1, h2⟩
  · exact .inl h
  · exact .inr ⟨dd, fs, h1, e _ _ h2⟩
/-- isinstance(e, c), e the caught one, an instance of D -/
def rIsEA (K : PySem.W.Frag) (D a : Addr) (cls : Value) (d : Option Addr) : List V → Hp → VK → Prop := fun xs H Q => ∃ (c : V) (cv : Value) (b : Bool), xs = [.ref a, c] ∧ ClsV c cv ∧ cls = .ref D ∧ Held H d ∧ PySem.W.kitOne K (.ref D) cv = some b ∧ Q (.bl b) H
theorem call_isEA {a D : Addr} {oe : Obj} {cls : Value} {d : Option Addr} {pn : List (Addr × Obj)} (C : ExcC X.K D) (hz : Zc cls d oe) (hf : ∃ vs, oe.data = .fields vs) : CallR (X.suite a ((a, oe) :: pn)) (.builtin "isinstance") (rIsEA X.K D a cls d) := by
  intro pins s σ H xs us Q I r h
  obtain ⟨c, cv, b, rfl, hcv, ecl, hH, e, q⟩ := h
  subst ecl
  obtain ⟨u1, u2, rfl, r1, r2⟩ := vals2 r
  cases (show u1 = Value.ref a from r1)
  have ec := hcv.eq r2
  subst ec
  obtain ⟨hget, _⟩ := I.pin (a, oe) (List.mem_append.mpr (.inl List.mem_cons_self))
  obtain ⟨vs, hv⟩ := hf
  have hcl : (PySem.W.clsIn X.K D).isSome = true := by
    obtain ⟨cd, hc, _⟩ := PySem.W.any_some C.hd
    rw [hc]; rfl
  obtain ⟨od, J⟩ : ∃ od, PySem.W.InstAt s.heap a oe D od := by
    rcases hH with ed | ⟨dd, fs, ed, hH⟩
    · subst ed
      obtain ⟨oc, od, oda, osl⟩ := oe
      obtain ⟨h1, h2⟩ := hz
      dsimp only at h1 h2 hv
      subst h1 h2 hv
      exact ⟨none, hget, rfl, rfl, trivial⟩
    · subst ed
      have hx : ObjOk X.prog X.w H s.heap dd (.xd fs) := I.hok dd _ hH
      obtain ⟨mA, hns, hr⟩ := hx
      obtain ⟨od, ho, hl⟩ := lookIn_ns hns
      exact ⟨some od, hget, hz.1, by unfold PySem.W.notCls; rw [hv] <;> rfl, by rw [hz.2]; exact ho⟩
  exact PySem.W.kia_one (PySem.W.kitx_exc hcl C.hg C.hk C.hs C.ha C.hn C.ht C.hm) I.kIn J e (fun z => nomatch z) fun tk => ⟨.bl b, H, I.kept (t' := tk) fun _ _ z => z, rfl, q⟩
end
end Say
namespace Say
open PySem PySem.Spec PyProof.Rows L2
/-- what the top says of the classes that are asked for, the caught one's class at CU, the j-th of the twelve -/
structure WordC (K : PySem.W.Frag) (mg : Str → Option Value) (CU : Addr) (j : Nat) : Prop where
  say : ∃ c, mg "SayError" = some (.ref c) ∧ PySem.W.exmOne K (.ref CU) (.ref c) = some true
  book : ∃ c, mg "BadBook" = some (.ref c) ∧ PySem.W.kitOne K (.ref CU) (.ref c) = some (decide (0 = j))
  word : ∃ c, mg "BadWord" = some (.ref c) ∧ PySem.W.kitOne K (.ref CU) (.ref c) = some (decide (1 = j))
  snds : ∃ c, mg "BadSounds" = some (.ref c) ∧ PySem.W.kitOne K (.ref CU) (.ref c) = some (decide (2 = j))
  coun : ∃ c, mg "BadCount" = some (.ref c) ∧ PySem.W.kitOne K (.ref CU) (.ref c) = some (decide (3 = j))
  uns : ∃ c, mg "Unsaid" = some (.ref c) ∧ PySem.W.kitOne K (.ref CU) (.ref c) = some (decide (4 = j))
  lett : ∃ c, mg "NoLetter" = some (.ref c) ∧ PySem.W.kitOne K (.ref CU) (.ref c) = some (decide (5 = j))
  exce : ∃ c, mg "NoException" = some (.ref c) ∧ PySem.W.kitOne K (.ref CU) (.ref c) = some (decide (6 = j))
  othe : ∃ c, mg "OtherLetters" = some (.ref c) ∧ PySem.W.kitOne K (.ref CU) (.ref c) = some (decide (7 = j))
  samp : ∃ c, mg "BadSamples" = some (.ref c) ∧ PySem.W.kitOne K (.ref CU) (.ref c) = some (decide (8 = j))
  deed : ∃ c, mg "BadDeed" = some (.ref c) ∧ PySem.W.kitOne K (.ref CU) (.ref c) = some (decide (9 = j))
  halt : ∃ c, mg "Halted" = some (.ref c) ∧ PySem.W.kitOne K (.ref CU) (.ref c) = some (decide (10 = j))
  text : ∃ c, mg "BadText" = some (.ref c) ∧ PySem.W.kitOne K (.ref CU) (.ref c) = some (decide (11 = j))
  val : mg "ValueError" = none
  kv : PySem.W.kitOne K (.ref CU) (.type "ValueError") = some true
  exc : ExcC K CU
  xf : XfC K CU
  noP : PySem.W.findIn K (.ref CU) "place" = some none
  noN : PySem.W.findIn K (.ref CU) "number" = some none
  noA : PySem.W.findIn K (.ref CU) "part" = some none
  noD : PySem.W.findIn K (.ref CU) "done" = some none
  noR : PySem.W.findIn K (.ref CU) "row" = some none
/-- the name of the j-th -/
def nmJ (j : Nat) : Str := (["book", "word", "sounds", "count", "unsaid", "letter", "exception", "others", "samples", "deed", "halted", "text"] : List Str).getD j ""
def plainJ (j : Nat) : Bool := decide (j = 1) || (decide (j = 2) || (decide (j = 3) || (decide (j = 5) || (decide (j = 6) || decide (j = 7)))))
def toldJ (j : Nat) : Bool := decide (j < 12)
def bsJ (j : Nat) : List V := [.bl (decide (0 = j)), .bl (decide (1 = j)), .bl (decide (2 = j)), .bl (decide (3 = j)), .bl (decide (4 = j)), .bl (decide (5 = j)), .bl (decide (6 = j)), .bl (decide (7 = j)), .bl (decide (8 = j)), .bl (decide (9 = j)), .bl (decide (10 = j)), .bl (decide (11 = j))]
theorem plain_cases {j : Nat} (h : plainJ j = true) : j = 1 ∨ j = 2 ∨ j = 3 ∨ j = 5 ∨ j = 6 ∨ j = 7 := by
  unfold plainJ at h
  simpa using h
theorem told_cases {j : Nat} (h : toldJ j = true) : j = 0 ∨ j = 1 ∨ j = 2 ∨ j = 3 ∨ j = 4 ∨ j = 5 ∨ j = 6 ∨ j = 7 ∨ j = 8 ∨ j = 9 ∨ j = 10 ∨ j = 11 := by
  have h := of_decide_eq_true h
  omega
theorem told_facts {j : Nat} (h : toldJ j = true) : (bsJ j).all flatV = true ∧ ((bsJ j).countP fun z => eqV z (.bl true)) = 1 ∧ (bsJ j)[j]? = some (.bl true) ∧ (∀ (m : Nat) (z : V), m < j → (bsJ j)[m]? = some z → eqV z (.bl true) = false) ∧
    atI ([.str "book", .str "word", .str "sounds", .str "count", .str "unsaid", .str "letter", .str "exception", .str "others", .str "samples", .str "deed"] ++ [.str "halted", .str "text"] : List V) (j : Nat) = some (.str (nmJ j)) := by
  have key : ∀ (m : Nat) (z : V), m < j → (bsJ j)[m]? = some z → eqV z (.bl true) = false := fun m z hm hz => by
    have hj := of_decide_eq_true h
    have hk : ∀ a b : Nat, a ≠ b → eqV (.bl (decide (a = b))) (.bl true) = false := fun a b n => by rw [decide_eq_false n]; rfl
    match m, hm, hz with
    | 0, hm, e => cases e; exact hk _ _ (Nat.ne_of_lt hm)
    | 1, hm, e => cases e; exact hk _ _ (Nat.ne_of_lt hm)
    | 2, hm, e => cases e; exact hk _ _ (Nat.ne_of_lt hm)
    | 3, hm, e => cases e; exact hk _ _ (Nat.ne_of_lt hm)
    | 4, hm, e => cases e; exact hk _ _ (Nat.ne_of_lt hm)
    | 5, hm, e => cases e; exact hk _ _ (Nat.ne_of_lt hm)
    | 6, hm, e => cases e; exact hk _ _ (Nat.ne_of_lt hm)
    | 7, hm, e => cases e; exact hk _ _ (Nat.ne_of_lt hm)
    | 8, hm, e => cases e; exact hk _ _ (Nat.ne_of_lt hm)
    | 9, hm, e => cases e; exact hk _ _ (Nat.ne_of_lt hm)
    | 10, hm, e => cases e; exact hk _ _ (Nat.ne_of_lt hm)
    | 11, hm, e => cases e; exact hk _ _ (Nat.ne_of_lt hm)
    | m + 12, hm, e => omega
  rcases told_cases h with rfl | rfl | rfl | rfl | rfl | rfl | rfl | rfl | rfl | rfl | rfl | rfl
  all_goals exact ⟨rfl, rfl, rfl, key, rfl⟩
theorem plain_facts {j : Nat} (h : plainJ j = true) : nmJ j ≠ "book" ∧ nmJ j ≠ "halted" ∧ nmJ j ≠ "unsaid" ∧ nmJ j ≠ "text" ∧ nmJ j ≠ "samples" ∧ nmJ j ≠ "deed" := by
  rcases plain_cases h with rfl | rfl | rfl | rfl | rfl | rfl
  all_goals exact ⟨by decide +kernel, by decide +kernel, by decide +kernel, by decide +kernel, by decide +kernel, by decide +kernel⟩
/-- a wish that may ask how many slots there are -/
theorem takes_len {X : Cx} {W : WX} {n : Nat} (h : X.N.length = n) (tk : Takes X W) : Takes X (fun cls d σ H => σ.length = n → W cls d σ H) := fun u s' xx => by
  obtain ⟨a, B, sI, pins, σ, H, cls, d, e, I, nb, up, sky, na, os, ag, w⟩ := xx
  exact tk u s' ⟨a, B, sI, pins, σ, H, cls, d, e, I, nb, up, sky, na, os, ag, w (I.len.trans h)⟩
abbrev sLWo : Stmt := topS 81
abbrev nLWo : List Str := ["_law_work", "_law_found", "e", "_law_kinds", "_law_names", "_law_name"]
theorem scLWo : FnScope nLWo ["_law_work"] (defScope sLWo) := ⟨rfl, rfl, rfl, by decide +kernel, rfl, by decide +kernel, by decide +kernel⟩
abbrev suLWo : List Stmt := match defBody sLWo with
  | _ :: .Try _ (.ExceptHandler _ _ b _ :: _) _ _ _ :: _ => b
  | _ => []
section
variable {X : Cx} {g CU : Addr} {cdg : Value} {s : Shared} {H : Hp}
abbrev cxLWo (X : Cx) (g : Addr) (cdg : Value) (s : Shared) (H : Hp) : Cx := (cxOf C8.CX0 X.prog X.w X.K X.mg X.base nLWo "_law_word" (defScope sLWo) g cdg X.A X.stack s H C8.E0).nox
/-- what the caught one is told as -/
def tellsJ (j : Nat) (d : Option Addr) (H : Hp) (R : Hp → Addr → Prop) : Prop :=
  (j = 4 ∧ ∃ (dd : Addr) (p : Nat), d = some dd ∧ H dd = some (.xd [(("place" : Str), .int p)]) ∧ R = fun H2 t => H2 t = some (.tup [.str "unsaid", .int p])) ∨
  (plainJ j = true ∧ Held H d ∧ R = fun H2 t => H2 t = some (.tup [.str (nmJ j), .non])) ∨
  (j = 0 ∧ ∃ (dd : Addr) (p n : Int), d = some dd ∧ H dd = some (.xd [(("number" : Str), .int n), (("part" : Str), .int p)]) ∧ R = fun H2 t => ∃ q, H2 q = some (.tup [.int p, .int n]) ∧ H2 t = some (.tup [.str "book", .ref q])) ∨
  (j = 10 ∧ ∃ (dd : Addr) (n m : Int), d = some dd ∧ H dd = some (.xd [(("done" : Str), .int m), (("number" : Str), .int n)]) ∧ R = fun H2 t => ∃ q, H2 q = some (.tup [.int n, .int m]) ∧ H2 t = some (.tup [.str "halted", .ref q])) ∨
  (j = 11 ∧ ∃ (dd : Addr) (n : Int), d = some dd ∧ H dd = some (.xd [(("row" : Str), .int n)]) ∧ R = fun H2 t => H2 t = some (.tup [.str "text", .int n])) ∨
  ((j = 8 ∨ j = 9) ∧ ∃ (dd : Addr) (n : Int), d = some dd ∧ H dd = some (.xd [(("number" : Str), .int n)]) ∧ R = fun H2 t => H2 t = some (.tup [.str (nmJ j), .int n]))
theorem word_suite {j : Nat} (B : Bn X.mg) (WC : WordC X.K X.mg CU j) (a : Addr) (oe : Obj) (cls : Value) (d : Option Addr) (pn : List (Addr × Obj)) (hz : Zc cls d oe) (hf : ∃ vs, oe.data = .fields vs) : ∃ t : TS,
    PSs ((cxLWo X g cdg s H).suite a ((a, oe) :: pn)) suLWo t ∧
    ∀ (R : Hp → Addr → Prop) (D : Ends) (σ : L2.St) (H1 : Hp), cls = .ref CU → σ.length = 6 → H1 a = none → tellsJ j d H1 R → (∀ (t : Addr) (H2 : Hp), Same H1 H2 → R H2 t → D.rt (.ref t) H2) →
      t D (σ.set 2 (some (.ref a))) H1 := by
  obtain ⟨c1, m1, k1⟩ := WC.book
  obtain ⟨c2, m2, k2⟩ := WC.word
  obtain ⟨c3, m3, k3⟩ := WC.snds
  obtain ⟨c4, m4, k4⟩ := WC.coun
  obtain ⟨c5, m5, k5⟩ := WC.uns
  obtain ⟨c6, m6, k6⟩ := WC.lett
  obtain ⟨c7, m7, k7⟩ := WC.exce
  obtain ⟨c8, m8, k8⟩ := WC.othe
  obtain ⟨c9, m9, k9⟩ := WC.samp
  obtain ⟨c10, m10, k10⟩ := WC.deed
  obtain ⟨c11, m11, k11⟩ := WC.halt
  obtain ⟨c12, m12, k12⟩ := WC.text
  have EC := WC.exc
  have XF := WC.xf
  have isE : CallR ((cxLWo X g cdg s H).suite a ((a, oe) :: pn)) (.builtin "isinstance") (rIsEA X.K CU a cls d) := call_isEA (X := cxLWo X g cdg s H) EC hz hf
  refine ⟨_, pss_cons (ps_set (i := 3) scLWo.nd rfl (.inl rfl) (pe_lst (pa_cons (pe_callB isE (by rfl) B.isi (by decide +kernel) (pa_cons (pv 2) (pa_cons (pe_glob (v := .ref c1) (by rfl) m1 rfl) pa_nil))) (pa_cons (pe_callB isE (by rfl) B.isi (by decide +kernel) (pa_cons (pv 2) (pa_cons (pe_glob (v := .ref c2) (by rfl) m2 rfl) pa_nil)))
        (pa_cons (pe_callB isE (by rfl) B.isi (by decide +kernel) (pa_cons (pv 2) (pa_cons (pe_glob (v := .ref c3) (by rfl) m3 rfl) pa_nil))) (pa_cons (pe_callB isE (by rfl) B.isi (by decide +kernel) (pa_cons (pv 2) (pa_cons (pe_glob (v := .ref c4) (by rfl) m4 rfl) pa_nil))) pa_nil))))))
      (pss_cons (ps_set (i := 3) scLWo.nd rfl (.inl rfl) (pe_op op_cat (pv 3) (pe_lst (pa_cons (pe_callB isE (by rfl) B.isi (by decide +kernel) (pa_cons (pv 2) (pa_cons (pe_glob (v := .ref c5) (by rfl) m5 rfl) pa_nil))) (pa_cons (pe_callB isE (by rfl) B.isi (by decide +kernel) (pa_cons (pv 2) (pa_cons (pe_glob (v := .ref c6) (by rfl) m6 rfl) pa_nil)))
        (pa_cons (pe_callB isE (by rfl) B.isi (by decide +kernel) (pa_cons (pv 2) (pa_cons (pe_glob (v := .ref c7) (by rfl) m7 rfl) pa_nil))) pa_nil))))))
      (pss_cons (ps_set (i := 3) scLWo.nd rfl (.inl rfl) (pe_op op_cat (pv 3) (pe_lst (pa_cons (pe_callB isE (by rfl) B.isi (by decide +kernel) (pa_cons (pv 2) (pa_cons (pe_glob (v := .ref c8) (by rfl) m8 rfl) pa_nil))) (pa_cons (pe_callB isE (by rfl) B.isi (by decide +kernel) (pa_cons (pv 2) (pa_cons (pe_glob (v := .ref c9) (by rfl) m9 rfl) pa_nil)))
        (pa_cons (pe_callB isE (by rfl) B.isi (by decide +kernel) (pa_cons (pv 2) (pa_cons (pe_glob (v := .ref c10) (by rfl) m10 rfl) pa_nil))) pa_nil))))))
      (pss_cons (ps_set (i := 3) scLWo.nd rfl (.inl rfl) (pe_op op_cat (pv 3) (pe_lst (pa_cons (pe_callB isE (by rfl) B.isi (by decide +kernel) (pa_cons (pv 2) (pa_cons (pe_glob (v := .ref c11) (by rfl) m11 rfl) pa_nil))) (pa_cons (pe_callB isE (by rfl) B.isi (by decide +kernel) (pa_cons (pv 2) (pa_cons (pe_glob (v := .ref c12) (by rfl) m12 rfl) pa_nil))) pa_nil)))))
      (pss_cons (ps_set (i := 4) scLWo.nd rfl (.inl rfl) (pe_lst (pa_cons pe_str (pa_cons pe_str (pa_cons pe_str (pa_cons pe_str (pa_cons pe_str (pa_cons pe_str (pa_cons pe_str (pa_cons pe_str (pa_cons pe_str (pa_cons pe_str pa_nil))))))))))))
      (pss_cons (ps_if (PW.pt (pw_or (pt_cmpR op_ne (pe_bm PySem.F.plainAttrs_list PySem.F.slot_list_count PySem.F.type_list_count mt_countV (pv 3) (pa_cons pe_bl pa_nil)) pe_int (nomark _)) (pw_or1 (pt_not (pt_val (pe_callB isE (by rfl) B.isi (by decide +kernel) (pa_cons (pv 2) (pa_cons (pe_bltn (v := .ty "ValueError") (by rfl) WC.val (by decide +kernel) rfl) pa_nil)))))))) (pss_one ps_never) pss_nil)
      (pss_cons (ps_set (i := 5) scLWo.nd rfl (.inl rfl) (pe_ix ix_list (pe_op op_cat (pv 4) (pe_lst (pa_cons pe_str (pa_cons pe_str pa_nil)))) (pe_bm PySem.F.plainAttrs_list PySem.F.slot_list_index PySem.F.type_list_index mt_index (pv 3) (pa_cons pe_bl pa_nil)) (fun _ _ => rfl)))
      (pss_cons (ps_if (pt_cmpR op_eq (pv 5) pe_str (nomark _)) (pss_one (ps_ret (pe_tup (pa_cons (pv 5) (pa_cons (pe_tup (pa_cons (pe_xf XF WC.noA hz hf (pv 2)) (pa_cons (pe_xf XF WC.noN hz hf (pv 2)) pa_nil))) pa_nil))))) pss_nil)
      (pss_cons (ps_if (pt_cmpR op_eq (pv 5) pe_str (nomark _)) (pss_one (ps_ret (pe_tup (pa_cons (pv 5) (pa_cons (pe_tup (pa_cons (pe_xf XF WC.noN hz hf (pv 2)) (pa_cons (pe_xf XF WC.noD hz hf (pv 2)) pa_nil))) pa_nil))))) pss_nil)
      (pss_cons (ps_if (pt_cmpR op_eq (pv 5) pe_str (nomark _)) (pss_one (ps_ret (pe_tup (pa_cons (pv 5) (pa_cons (pe_xf XF WC.noP hz hf (pv 2)) pa_nil))))) pss_nil)
      (pss_cons (ps_if (pt_cmpR op_eq (pv 5) pe_str (nomark _)) (pss_one (ps_ret (pe_tup (pa_cons (pv 5) (pa_cons (pe_xf XF WC.noR hz hf (pv 2)) pa_nil))))) pss_nil)
      (pss_one (ps_ret (pe_ifExp (pt_cmpR op_in_seq (pv 5) (pe_tup (pa_cons pe_str (pa_cons pe_str pa_nil))) rfl) (pe_tup (pa_cons (pv 5) (pa_cons (pe_xf XF WC.noN hz hf (pv 2)) pa_nil))) (pe_tup (pa_cons (pv 5) (pa_cons pe_non pa_nil)))))))))))))))), ?_⟩
  intro R D σ H1 ec hl ha hT q
  obtain ⟨x0, x1, x2, x3, x4, x5, rfl⟩ : ∃ x0 x1 x2 x3 x4 x5, σ = [x0, x1, x2, x3, x4, x5] := by
    rcases σ with _ | ⟨x0, _ | ⟨x1, _ | ⟨x2, _ | ⟨x3, _ | ⟨x4, _ | ⟨x5, _ | ⟨x6, r⟩⟩⟩⟩⟩⟩⟩ <;> simp at hl
    exact ⟨_, _, _, _, _, _, rfl⟩
  show tSeq _ _ _ [x0, x1, some (.ref a), x3, x4, x5] H1
  have fr : ∀ {Hx Hy : Hp} {x y : Addr} {o u : HO}, Hy = upd Hx x o → Hx x = none → Hx y = some u → Hy y = some u := fun e n h => by
    rw [e, upd_ne (ne_of_none h n)]
    exact h
  have hj : toldJ j = true := by
    rcases hT with ⟨rfl, _⟩ | ⟨e, _⟩ | ⟨rfl, _⟩ | ⟨rfl, _⟩ | ⟨rfl, _⟩ | ⟨rfl | rfl, _⟩
    case inr.inl => exact decide_eq_true (by have := plain_cases e; omega)
    all_goals exact decide_eq_true (by decide)
  have hH : Held H1 d := by
    rcases hT with ⟨_, dd, p, e1, e2, _⟩ | ⟨_, e, _⟩ | ⟨_, dd, p, n, e1, e2, _⟩ | ⟨_, dd, p, n, e1, e2, _⟩ | ⟨_, dd, n, e1, e2, _⟩ | ⟨_, dd, n, e1, e2, _⟩
    case inr.inl => exact e
    all_goals exact .inr ⟨dd, _, e1, e2⟩
  obtain ⟨fall, fcnt, fat, fno, fnm⟩ := told_facts hj
  refine ⟨_, rfl, _, _, _, rfl, .own _, ec, hH, k1, _, rfl, _, _, _, rfl, .own _, ec, hH, k2, _, rfl, _, _, _, rfl, .own _, ec, hH, k3, _, rfl, _, _, _, rfl, .own _, ec, hH, k4, ?_⟩
  refine ⟨(by show 4 ≤ sizeLine; decide), fun p1 n1 => ?_⟩
  obtain ⟨H2, e2⟩ : ∃ H2, H2 = upd H1 p1 (.lst [.bl (decide (0 = j)), .bl (decide (1 = j)), .bl (decide (2 = j)), .bl (decide (3 = j))]) := ⟨_, rfl⟩
  have g2 : H2 p1 = some (.lst [.bl (decide (0 = j)), .bl (decide (1 = j)), .bl (decide (2 = j)), .bl (decide (3 = j))]) := by rw [e2]; exact upd_same
  have S2 : Same H1 H2 := by rw [e2]; exact same_new n1 _
  have h2 := hH.same S2
  rw [← e2]
  clear e2
  refine ⟨_, rfl, _, rfl, _, _, _, rfl, .own _, ec, h2, k5, _, rfl, _, _, _, rfl, .own _, ec, h2, k6, _, rfl, _, _, _, rfl, .own _, ec, h2, k7, ?_⟩
  refine ⟨(by show 3 ≤ sizeLine; decide), fun p2 np2 => ?_⟩
  refine ⟨_, _, _, _, rfl, rfl, fr rfl np2 g2, upd_same, (by show 4 + 3 ≤ sizeLine; decide), fun p3 np3 => ?_⟩
  obtain ⟨H3, e3⟩ : ∃ H3, H3 = upd (upd H2 p2 (.lst [.bl (decide (4 = j)), .bl (decide (5 = j)), .bl (decide (6 = j))])) p3 (.lst ([.bl (decide (0 = j)), .bl (decide (1 = j)), .bl (decide (2 = j)), .bl (decide (3 = j))] ++ [.bl (decide (4 = j)), .bl (decide (5 = j)), .bl (decide (6 = j))])) := ⟨_, rfl⟩
  have g3 : H3 p3 = some (.lst [.bl (decide (0 = j)), .bl (decide (1 = j)), .bl (decide (2 = j)), .bl (decide (3 = j)), .bl (decide (4 = j)), .bl (decide (5 = j)), .bl (decide (6 = j))]) := by rw [e3]; exact upd_same
  have S3 : Same H1 H3 := by rw [e3]; exact (S2.trans (same_new np2 _)).trans (same_new np3 _)
  have h3 := hH.same S3
  rw [← e3]
  clear e3
  refine ⟨_, rfl, _, rfl, _, _, _, rfl, .own _, ec, h3, k8, _, rfl, _, _, _, rfl, .own _, ec, h3, k9, _, rfl, _, _, _, rfl, .own _, ec, h3, k10, ?_⟩
  refine ⟨(by show 3 ≤ sizeLine; decide), fun p4 np4 => ?_⟩
  refine ⟨_, _, _, _, rfl, rfl, fr rfl np4 g3, upd_same, (by show 7 + 3 ≤ sizeLine; decide), fun p5 np5 => ?_⟩
  obtain ⟨H4, e4⟩ : ∃ H4, H4 = upd (upd H3 p4 (.lst [.bl (decide (7 = j)), .bl (decide (8 = j)), .bl (decide (9 = j))])) p5 (.lst ([.bl (decide (0 = j)), .bl (decide (1 = j)), .bl (decide (2 = j)), .bl (decide (3 = j)), .bl (decide (4 = j)), .bl (decide (5 = j)), .bl (decide (6 = j))] ++ [.bl (decide (7 = j)), .bl (decide (8 = j)), .bl (decide (9 = j))])) := ⟨_, rfl⟩
  have g4 : H4 p5 = some (.lst [.bl (decide (0 = j)), .bl (decide (1 = j)), .bl (decide (2 = j)), .bl (decide (3 = j)), .bl (decide (4 = j)), .bl (decide (5 = j)), .bl (decide (6 = j)), .bl (decide (7 = j)), .bl (decide (8 = j)), .bl (decide (9 = j))]) := by rw [e4]; exact upd_same
  have S4 : Same H1 H4 := by rw [e4]; exact (S3.trans (same_new np4 _)).trans (same_new np5 _)
  have h4 := hH.same S4
  rw [← e4]
  clear e4
  refine ⟨_, rfl, _, rfl, _, _, _, rfl, .own _, ec, h4, k11, _, rfl, _, _, _, rfl, .own _, ec, h4, k12, ?_⟩
  refine ⟨(by show 2 ≤ sizeLine; decide), fun p6 np6 => ?_⟩
  refine ⟨_, _, _, _, rfl, rfl, fr rfl np6 g4, upd_same, (by show 10 + 2 ≤ sizeLine; decide), fun p7 np7 => ?_⟩
  obtain ⟨H5, e5⟩ : ∃ H5, H5 = upd (upd H4 p6 (.lst [.bl (decide (10 = j)), .bl (decide (11 = j))])) p7 (.lst ([.bl (decide (0 = j)), .bl (decide (1 = j)), .bl (decide (2 = j)), .bl (decide (3 = j)), .bl (decide (4 = j)), .bl (decide (5 = j)), .bl (decide (6 = j)), .bl (decide (7 = j)), .bl (decide (8 = j)), .bl (decide (9 = j))] ++ [.bl (decide (10 = j)), .bl (decide (11 = j))])) := ⟨_, rfl⟩
  have g5 : H5 p7 = some (.lst (bsJ j)) := by rw [e5]; exact upd_same
  have S5 : Same H1 H5 := by rw [e5]; exact (S4.trans (same_new np6 _)).trans (same_new np7 _)
  have h5 := hH.same S5
  rw [← e5]
  clear e5
  refine ⟨(by show 10 ≤ sizeLine; decide), fun p8 n8 => ?_⟩
  obtain ⟨H6, e6⟩ : ∃ H6, H6 = upd H5 p8 (.lst [.str "book", .str "word", .str "sounds", .str "count", .str "unsaid", .str "letter", .str "exception", .str "others", .str "samples", .str "deed"]) := ⟨_, rfl⟩
  have g6 : H6 p8 = some (.lst [.str "book", .str "word", .str "sounds", .str "count", .str "unsaid", .str "letter", .str "exception", .str "others", .str "samples", .str "deed"]) := by rw [e6]; exact upd_same
  have S6 : Same H1 H6 := by rw [e6]; exact S5.trans (same_new n8 _)
  have g6' := fr e6 n8 g5
  have h6 := hH.same S6
  rw [← e6]
  clear e6
  refine ⟨_, rfl, .inl ⟨rfl, _, .inl (.inl g6')⟩, p7, bsJ j, _, rfl, rfl, .inl (.inl g6'), rfl, fall, ?_⟩
  rw [fcnt]
  refine ⟨rfl, _, rfl, iteF ?_⟩
  refine ⟨_, rfl, _, _, _, rfl, .ty _, ec, h6, WC.kv, true, rfl, iteF ?_⟩
  refine ⟨_, rfl, (by show 2 ≤ sizeLine; decide), fun p9 n9 => ?_⟩
  refine ⟨_, _, _, _, rfl, rfl, fr rfl n9 g6, upd_same, (by show 10 + 2 ≤ sizeLine; decide), fun p10 n10 => ?_⟩
  have S69 := (same_new n9 (.lst [.str "halted", .str "text"])).trans (same_new n10 (.lst ([.str "book", .str "word", .str "sounds", .str "count", .str "unsaid", .str "letter", .str "exception", .str "others", .str "samples", .str "deed"] ++ [.str "halted", .str "text"])))
  have S9 := S6.trans S69
  have g9 := S69 _ _ g6'
  refine ⟨_, rfl, .inl ⟨rfl, _, .inl (.inl g9)⟩, p7, bsJ j, _, j, .bl true, rfl, rfl, .inl (.inl g9), rfl, fall, fat, rfl, fno, ?_⟩
  refine ⟨p10, _, _, .str (nmJ j), rfl, rfl, .inl (.inl upd_same), fnm, ?_⟩
  have ne : ∀ {z : Str}, nmJ j ≠ z → decide (V.str (nmJ j) = V.str z) = false := fun h => decide_eq_false fun e => h (V.str.inj e)
  rcases hT with ⟨rfl, dd, p, e1, e2, rfl⟩ | ⟨hp, hHd, rfl⟩ | ⟨rfl, dd, p, n, e1, e2, rfl⟩ | ⟨rfl, dd, n, m, e1, e2, rfl⟩ | ⟨rfl, dd, n, e1, e2, rfl⟩ | ⟨hj, dd, n, e1, e2, rfl⟩
  · refine ⟨_, rfl, rfl, _, rfl, iteF ?_⟩
    refine ⟨_, rfl, rfl, _, rfl, iteF ?_⟩
    refine ⟨_, rfl, rfl, _, rfl, iteT ?_⟩
    have h9 := S9 _ _ e2
    refine ⟨_, rfl, _, rfl, rfl, ec, dd, _, _, e1, h9, by rfl, ?_⟩
    refine ⟨(by show 2 ≤ sizeLine; decide), fun t nt => ?_⟩
    exact q t _ (S9.trans (same_new nt _)) upd_same
  · obtain ⟨f5, f6, f1, f2, f3, f4⟩ := plain_facts hp
    refine ⟨_, rfl, rfl, _, rfl, ?_⟩
    rw [ne f5]
    refine iteF ?_
    refine ⟨_, rfl, rfl, _, rfl, ?_⟩
    rw [ne f6]
    refine iteF ?_
    refine ⟨_, rfl, rfl, _, rfl, ?_⟩
    rw [ne f1]
    refine iteF ?_
    refine ⟨_, rfl, rfl, _, rfl, ?_⟩
    rw [ne f2]
    refine iteF ?_
    refine ⟨_, rfl, (by show 2 ≤ sizeLine; decide), fun p11 n11 => ?_⟩
    have S11 := S9.trans (same_new n11 (.tup [.str "samples", .str "deed"]))
    refine ⟨p11, _, rfl, .inr (.inl (.inl upd_same)), rfl, by rfl, _, rfl, ?_⟩
    have hin : inV (V.str (nmJ j)) [.str "samples", .str "deed"] = false := by
      unfold inV
      simp only [List.any_cons, List.any_nil, Bool.or_false, eqV]
      rw [beq_eq_false_iff_ne.mpr (Ne.symm f3), beq_eq_false_iff_ne.mpr (Ne.symm f4)]
      rfl
    simp only [hin, Bool.false_eq_true, if_false]
    refine ⟨_, rfl, (by show 2 ≤ sizeLine; decide), fun t nt => ?_⟩
    exact q t _ (S11.trans (same_new nt _)) upd_same
  · refine ⟨_, rfl, rfl, _, rfl, iteT ?_⟩
    have h9 := S9 _ _ e2
    refine ⟨_, rfl, _, rfl, rfl, ec, dd, _, _, e1, h9, by rfl, _, rfl, rfl, ec, dd, _, _, e1, h9, by rfl, ?_⟩
    refine ⟨(by show 2 ≤ sizeLine; decide), fun u nu => ⟨(by show 2 ≤ sizeLine; decide), fun t nt => ?_⟩⟩
    have su := same_new nu (.tup [.int p, .int n])
    have st := same_new nt (.tup [.str (nmJ 0), .ref u])
    exact q t _ (S9.trans (su.trans st)) ⟨u, st _ _ upd_same, upd_same⟩
  · refine ⟨_, rfl, rfl, _, rfl, iteF ?_⟩
    refine ⟨_, rfl, rfl, _, rfl, iteT ?_⟩
    have h9 := S9 _ _ e2
    refine ⟨_, rfl, _, rfl, rfl, ec, dd, _, _, e1, h9, by rfl, _, rfl, rfl, ec, dd, _, _, e1, h9, by rfl, ?_⟩
    refine ⟨(by show 2 ≤ sizeLine; decide), fun u nu => ⟨(by show 2 ≤ sizeLine; decide), fun t nt => ?_⟩⟩
    have su := same_new nu (.tup [.int n, .int m])
    have st := same_new nt (.tup [.str (nmJ 10), .ref u])
    exact q t _ (S9.trans (su.trans st)) ⟨u, st _ _ upd_same, upd_same⟩
  · refine ⟨_, rfl, rfl, _, rfl, iteF ?_⟩
    refine ⟨_, rfl, rfl, _, rfl, iteF ?_⟩
    refine ⟨_, rfl, rfl, _, rfl, iteF ?_⟩
    refine ⟨_, rfl, rfl, _, rfl, iteT ?_⟩
    have h9 := S9 _ _ e2
    refine ⟨_, rfl, _, rfl, rfl, ec, dd, _, _, e1, h9, by rfl, ?_⟩
    refine ⟨(by show 2 ≤ sizeLine; decide), fun t nt => ?_⟩
    exact q t _ (S9.trans (same_new nt _)) upd_same
  · have nj : ∀ {z : Str}, (nmJ 8 ≠ z ∧ nmJ 9 ≠ z) → nmJ j ≠ z := fun h => by
      rcases hj with rfl | rfl
      · exact h.1
      · exact h.2
    refine ⟨_, rfl, rfl, _, rfl, ?_⟩
    rw [ne (nj ⟨by decide +kernel, by decide +kernel⟩)]
    refine iteF ?_
    refine ⟨_, rfl, rfl, _, rfl, ?_⟩
    rw [ne (nj ⟨by decide +kernel, by decide +kernel⟩)]
    refine iteF ?_
    refine ⟨_, rfl, rfl, _, rfl, ?_⟩
    rw [ne (nj ⟨by decide +kernel, by decide +kernel⟩)]
    refine iteF ?_
    refine ⟨_, rfl, rfl, _, rfl, ?_⟩
    rw [ne (nj ⟨by decide +kernel, by decide +kernel⟩)]
    refine iteF ?_
    refine ⟨_, rfl, (by show 2 ≤ sizeLine; decide), fun p11 n11 => ?_⟩
    have S11 := S9.trans (same_new n11 (.tup [.str "samples", .str "deed"]))
    refine ⟨p11, _, rfl, .inr (.inl (.inl upd_same)), rfl, by rfl, _, rfl, ?_⟩
    have hin : inV (V.str (nmJ j)) [.str "samples", .str "deed"] = true := by rcases hj with rfl | rfl <;> decide +kernel
    simp only [hin, if_true]
    have h11 := S11 _ _ e2
    refine ⟨_, rfl, _, rfl, rfl, ec, dd, _, _, e1, h11, by rfl, ?_⟩
    refine ⟨(by show 2 ≤ sizeLine; decide), fun t nt => ?_⟩
    exact q t _ (S11.trans (same_new nt _)) upd_same
/-- how it was refused, told -/
def echW (K : PySem.W.Frag) (mg : Str → Option Value) (Q : VK) : XK := fun cls d H' => ∃ (CU : Addr) (j : Nat) (R : Hp → Addr → Prop), WordC K mg CU j ∧ cls = .ref CU ∧ tellsJ j d H' R ∧ ∀ (t : Addr) (H2 : Hp), Same H' H2 → R H2 t → Q (.ref t) H2
/-- _law_word: ("", what is told), or how it was refused -/
def TTw (K : PySem.W.Frag) (mg : Str → Option Value) : (XK → Hp → VK → Prop) → Hp → VK → Prop := fun tl H Q => ∀ D, H D = none → ∀ post : VK,
  (∀ v H', H' D = some (.lst []) → (∀ (t : Addr) (H2 : Hp), Stp D H' H2 → H2 t = some (.tup [.str "", v]) → Q (.ref t) H2) → post v H') → tl (echW K mg Q) (upd H D (.lst [])) post
theorem word_gives {q : Str} (B : Bn X.mg) {cS : Addr} (mS : X.mg "SayError" = some (.ref cS)) : LamX.GivesTo X nLWo "_law_word" (defScope sLWo) g cdg (defBody sLWo) "_law_work" q (TTw X.K X.mg) := by
  intro f c' s H Q tl act hc h
  refine ⟨_, pss_cons (ps_set (i := 1) scLWo.nd rfl (.inl rfl) (pe_lst pa_nil))
    (pss_cons (ps_try_as (X := cxLWo X g cdg s H) (i := 2) (c := .ref cS) (Wout := fun _ _ _ _ => False)
        (tb := fun W D σ H => ∃ Ech : XK, (∀ cls d σ' H', Ech cls d H' → σ'.length = 6 → W cls d σ' H') ∧ tDrop (tBM X.K "list" rAppend (tVar 1) (tCons (fun σZ HZ Q => σZ[0]? = some (some (.ref f)) ∧ HZ c' = some (LamX.CodeO c' q) ∧ tl Ech HZ Q) tNil)) D σ H)
        (ts := fun a' cls d D σ H1 => ∀ oe pn, Zc cls d oe → (∃ vs, oe.data = .fields vs) → ∃ t : TS, PSs ((cxLWo X g cdg s H).suite a' ((a', oe) :: pn)) suLWo t ∧ t D σ H1)
        rfl rfl scLWo.nd rfl rfl ⟨by rfl, by decide, .inl mS⟩ LamX.takes0
        (fun W pn xe tk _ => ?_)
        (fun a oe cls d pn hz hf => ?_))
    (pss_one (ps_ret (pe_tup (pa_cons pe_str (pa_cons (pe_ix ix_list (pv 1) pe_int (fun _ _ => rfl)) pa_nil)))))), ?_⟩
  · refine ⟨fun pins s' σ H' D I h' => ?_⟩
    obtain ⟨Ech, hW, h1⟩ := h'
    have tk6 : Takes ((cxLWo X g cdg s H).tr pn xe) (fun cls d σ H => σ.length = 6 → W cls d σ H) := takes_len rfl tk
    exact (pss_one (ps_expr (pe_bm PySem.F.plainAttrs_list PySem.F.slot_list_append PySem.F.type_list_append mt_append (pv 1) (pa_cons (act (fun cls d σ H => σ.length = 6 → W cls d σ H) pn xe Ech _ _ tk6 hW) pa_nil)))).run pins s' σ H' D I h1
  · refine ⟨fun pins s' σ H' D I h' => ?_⟩
    obtain ⟨t, ht, q1⟩ := h' oe pn hz hf
    exact ht.run pins s' σ H' D I q1
  · refine ⟨(by show 0 ≤ sizeLine; decide), fun D hD => ?_⟩
    refine ⟨echW X.K X.mg Q, fun cls d σ' H' he hl => ?_, _, rfl, .inl ⟨rfl, _, .inl (.inl upd_same)⟩, rfl, by rw [upd_ne (ne_of_none hc hD)]; exact hc, h D hD _ fun v H' hv k => ?_⟩
    · obtain ⟨CU, j, xs, WC, rfl, hT, k⟩ := he
      obtain ⟨c2, e2, xS⟩ := WC.say
      rw [mS] at e2
      cases e2
      refine ⟨true, xS, fun _ a ha oe pn hz hf => ?_, fun z => Bool.noConfusion z⟩
      obtain ⟨t, ht, q1⟩ := word_suite (g := g) (cdg := cdg) (s := s) (H := H) B WC a oe _ _ pn hz hf
      exact ⟨t, ht, q1 xs _ σ' H' rfl hl ha hT k⟩
    · refine ⟨D, _, _, rfl, rfl, hv, (by show 0 < sizeLine; decide), ?_⟩
      refine ⟨_, rfl, D, _, _, v, rfl, rfl, .inl (.inl upd_same), rfl, ?_⟩
      refine ⟨(by show 2 ≤ sizeLine; decide), fun t nt => ?_⟩
      exact k t _ ((stp_at _).trans (.of (same_new nt _))) upd_same
end
end Say
namespace Say
open PySem PySem.Spec PyProof.Rows L2
/-! ### what a lambda's making leaves -/
theorem KT.extN {H H' : Hp} (e : LamX.ExtN H H') : KT H H' := KT.by fun t u h hu => e t _ h (fun ps z => by rcases hu with ⟨_, rfl⟩ | ⟨_, _, rfl⟩ <;> cases z)
theorem RowAt.extN {K : PySem.W.Frag} {H H' : Hp} {r a : Addr} {ns : List Int} (R : RowAt K H r a ns) (e : LamX.ExtN H H') : RowAt K H' r a ns := by
  obtain ⟨⟨i, c, m, q, b⟩, sc, le⟩ := R
  refine ⟨⟨i, c, m, e _ _ q (fun ps z => by cases z), b⟩, ?_, le⟩
  rcases sc with (sc | ⟨o, sc⟩) | sc
  · exact .inl (.inl (e _ _ sc (fun ps z => by cases z)))
  · exact .inl (.inr ⟨o, e _ _ sc (fun ps z => by cases z)⟩)
  · exact .inr sc
theorem tabs_stp {Tt : List (Addr × Str)} {H H' : Hp} {r a : Addr} (t : LamX.Tabs Tt H) (w : RowIn H r a) (e : Stp r H H') : LamX.Tabs Tt H' := fun p hp => by
  obtain ⟨i, c, m, q, _⟩ := w
  obtain ⟨ps, h1, h2, h3⟩ := t p hp
  refine ⟨ps, e _ _ h1 (ne_of h1 q (by intro z; cases z)), h2, fun pos cv hc => ?_⟩
  obtain ⟨c', e1, e2⟩ := h3 pos cv hc
  exact ⟨c', e1, e _ _ e2 (ne_of e2 q (by intro z; unfold LamX.CodeO at z; cases z))⟩
theorem same_fresh {H H' : Hp} {D : Addr} {o : HO} (e : Same H H') (h : H D = none) : Same H (upd H' D o) := fun b u q => by
  rw [upd_ne (ne_of_none q h)]
  exact e b u q
theorem same_stp {H H' H2 : Hp} {D : Addr} (e : Same H H') (h : H D = none) (s : Stp D H' H2) : Same H H2 := fun b u q => s b u (e b u q) (ne_of_none q h)
end Say
namespace Say
open PySem PySem.Spec PyProof.Rows L2
theorem passE {X : Cx} : Passes (L2.CX X.prog X.w) X (fun _ _ _ => False) := fun _ _ _ _ _ _ _ h => by
  obtain ⟨_, _, _, _, _, _, _, _, _, _, _, _, e⟩ := h
  exact e.elim
theorem ExtN.seqL {K : PySem.W.Frag} {H H' : Hp} {a : Addr} {xs : List V} (e : LamX.ExtN H H') (h : SqL K H a xs) : SqL K H' a xs := by
  rcases h with (h | ⟨o, h⟩) | h
  · exact .inl (.inl (e _ _ h (fun ps z => by cases z)))
  · exact .inl (.inr ⟨o, e _ _ h (fun ps z => by cases z)⟩)
  · exact .inr h
theorem ExtN.seqT {K : PySem.W.Frag} {H H' : Hp} {a : Addr} {xs : List V} (e : LamX.ExtN H H') (h : SqT K H a xs) : SqT K H' a xs := by
  rcases h with (h | ⟨o, h⟩) | h
  · exact .inl (.inl (e _ _ h (fun ps z => by cases z)))
  · exact .inl (.inr ⟨o, e _ _ h (fun ps z => by cases z)⟩)
  · exact .inr h
theorem NoTup.extN {K : PySem.W.Frag} {H H' : Hp} {v : V} (h : NoTup K H v) (s : LamX.ExtN H H') : NoTup K H' v := by
  rcases h with h | h | h | ⟨a, xs, h1, h2⟩
  · exact .inl h
  · exact .inr (.inl h)
  · exact .inr (.inr (.inl h))
  · exact .inr (.inr (.inr ⟨a, xs, h1, ExtN.seqL s h2⟩))
theorem NoLst.extN {K : PySem.W.Frag} {H H' : Hp} {v : V} (h : NoLst K H v) (s : LamX.ExtN H H') : NoLst K H' v := by
  rcases h with h | h | h | ⟨a, xs, h1, h2⟩
  · exact .inl h
  · exact .inr (.inl h)
  · exact .inr (.inr (.inl h))
  · exact .inr (.inr (.inr ⟨a, xs, h1, ExtN.seqT s h2⟩))
theorem DV.extN {K : PySem.W.Frag} {H H' : Hp} {x : V} {b : Bool} (h : DV K H x b) (s : LamX.ExtN H H') : DV K H' x b := by
  rcases h with ⟨a, ys, h1, h2, h3, h4⟩ | ⟨h1, h2⟩
  · exact .inl ⟨a, ys, h1, ExtN.seqT s h2, h3, h4⟩
  · exact .inr ⟨h1.extN s, h2⟩
theorem DkAt.extN {C : Addr} {H H' : Hp} {y b t : Addr} {L : List Nat} {rs : List Rule} {es : List Exc} {ws : List Str} {i : Bool} (h : DkAt C H y b t L rs es ws i) (e : LamX.ExtN H H') : DkAt C H' y b t L rs es ws i := by
  obtain ⟨⟨dx, h1⟩, h2, h3⟩ := h
  exact ⟨⟨dx, e _ _ h1 (fun ps z => by cases z)⟩, h2.kt (.extN e), e _ _ h3 (fun ps z => by cases z)⟩
end Say
namespace Say
open PySem PySem.Spec PyProof.Rows L2
theorem RowAt.ktL {K : PySem.W.Frag} {H H' : Hp} {r a D : Addr} {ns : List Int} {xs : List V} (R : RowAt K H r a ns) (h : H D = some (.lst xs)) (n : ∀ l, xs ≠ .ref a :: l) : D ≠ r := fun z => by
  obtain ⟨⟨i, c, m, q, _⟩, _⟩ := R
  rw [z, q] at h
  exact n _ (HO.lst.inj (Option.some.inj h)).symm
theorem NoTup.stp {K : PySem.W.Frag} {H H' : Hp} {v : V} {r a : Addr} {ns : List Int} (h : NoTup K H v) (s : Stp r H H') (R' : RowAt K H' r a ns) : NoTup K H' v := by
  rcases h with h | h | h | ⟨b, xs, h1, h2⟩
  · exact .inl h
  · exact .inr (.inl h)
  · exact .inr (.inr (.inl h))
  · refine .inr (.inr (.inr ?_))
    by_cases e : b = r
    · obtain ⟨⟨i, c, m, q, _⟩, _⟩ := R'
      exact ⟨b, _, h1, .inl (.inl (by rw [e]; exact q))⟩
    · exact ⟨b, xs, h1, Stp.seq s e h2⟩
theorem seqT_stp {K : PySem.W.Frag} {H H' : Hp} {r a b : Addr} {ns : List Int} {xs : List V} (h : SqT K H b xs) (R : RowAt K H r a ns) (s : Stp r H H') : SqT K H' b xs := by
  obtain ⟨⟨i, c, m, q, _⟩, _⟩ := R
  rcases h with (h | ⟨o, h⟩) | h
  · exact .inl (.inl (s _ _ h (ne_of h q (by intro z; cases z))))
  · exact .inl (.inr ⟨o, s _ _ h (ne_of h q (by intro z; cases z))⟩)
  · exact .inr h
theorem NoLst.stp {K : PySem.W.Frag} {H H' : Hp} {v : V} {r a : Addr} {ns : List Int} (h : NoLst K H v) (R : RowAt K H r a ns) (s : Stp r H H') : NoLst K H' v := by
  rcases h with h | h | h | ⟨b, xs, h1, h2⟩
  · exact .inl h
  · exact .inr (.inl h)
  · exact .inr (.inr (.inl h))
  · exact .inr (.inr (.inr ⟨b, xs, h1, seqT_stp h2 R s⟩))
theorem DV.stp {K : PySem.W.Frag} {H H' : Hp} {x : V} {b : Bool} {r a : Addr} {ns : List Int} (h : DV K H x b) (R : RowAt K H r a ns) (s : Stp r H H') (R' : RowAt K H' r a ns) : DV K H' x b := by
  rcases h with ⟨t, ys, h1, h2, h3, h4⟩ | ⟨h1, h2⟩
  · exact .inl ⟨t, ys, h1, seqT_stp h2 R s, h3, h4⟩
  · exact .inr ⟨h1.stp s R', h2⟩
theorem words_ne {ws : List Str} {a : Addr} {l : List V} : wordsV ws ≠ .ref a :: l := by
  cases ws with
  | nil => intro z; cases z
  | cons w r => intro z; cases z
theorem DkAt.stp {K : PySem.W.Frag} {C : Addr} {H H' : Hp} {y b t r a : Addr} {ns : List Int} {L : List Nat} {rs : List Rule} {es : List Exc} {ws : List Str} {i : Bool} (h : DkAt C H y b t L rs es ws i) (R : RowAt K H r a ns) (s : Stp r H H') : DkAt C H' y b t L rs es ws i := by
  have nt := R.ktL (H' := H') h.told (fun l => words_ne)
  have k := R.kt s
  obtain ⟨⟨dx, h1⟩, h2, h3⟩ := h
  obtain ⟨⟨i, c, m, q, _⟩, _⟩ := R
  exact ⟨⟨dx, s _ _ h1 (ne_of h1 q (by intro z; cases z))⟩, h2.kt k, s _ _ h3 nt⟩
theorem tabs_lst {Tt : List (Addr × Str)} {H : Hp} {W : Addr} {l l' : List V} (T : LamX.Tabs Tt H) (h : H W = some (.lst l)) : LamX.Tabs Tt (upd H W (.lst l')) := fun p hp => by
  obtain ⟨ps, h1, h2, h3⟩ := T p hp
  refine ⟨ps, by rw [upd_ne (ne_of h1 h (by intro z; cases z))]; exact h1, h2, fun pos cv hc => ?_⟩
  obtain ⟨c', e1, e2⟩ := h3 pos cv hc
  exact ⟨c', e1, by rw [upd_ne (ne_of e2 h (by intro z; unfold LamX.CodeO at z; cases z))]; exact e2⟩
theorem ext_fresh {H H' : Hp} {W : Addr} {o : HO} (e : LamX.ExtN H H') (h : H W = none) : LamX.ExtN H (upd H' W o) := fun b u hb n => by
  rw [upd_ne (ne_of_none hb h)]
  exact e b u hb n
end Say
namespace Say
open PySem PySem.Spec PyProof.Rows L2
/-! ### match of a tuple, by a word and names -/
structure PMC (X : Cx) (cs : List MatchCase) (t : V → TS) : Prop where
  run : ∀ (first : Bool) (pins : List (Addr × Obj)) (s : Shared) (σ : L2.St) (H : Hp) (D : Ends) (v : V) (u : Value), Inv X pins σ H s → RelV v u → t v D σ H → wpAny (model X.prog X.w) X.A (matchCases cs X.env u first) (SP X pins D) X.xe s
section
variable {X : Cx} {e : Expr} {te : TE} {cs : List MatchCase} {t : V → TS} {tb : TS} {body : List Stmt} {z x1 x2 : Str} {i1 i2 j : Nat} {p0 p1 p2 p3 p4 pos : Pos}
theorem pmc_nil : PMC X [] (fun _ D σ H => D.nx σ H) := ⟨fun _ pins s σ H D v u I r h => wpAny_matchCases_nil ⟨σ, H, I, h⟩⟩
theorem ps_match (he : PE X e te) (hc : PMC X cs t) : PS X (.Match e cs pos) (fun D σ H => te σ H fun v H1 => t v D σ H1) := ⟨fun pins s σ H D I h =>
  wpAny_Match (thn (he.run pins s σ H _ I h) fun u s1 ⟨v, H1, I1, r1, q1⟩ => hc.run true pins s1 σ H1 D v u I1 r1 q1)⟩
/-- a case of a word and one name -/
def tCase1 (K : PySem.W.Frag) (z : Str) (i1 : Nat) (tb : TS) (t : V → TS) : V → TS := fun v D σ H => ∃ a y r, v = .ref a ∧ SqT K H a (.str y :: r) ∧ (∀ x, r = [x] → y = z → tb D (σ.set i1 (some x)) H) ∧ ((r.length ≠ 1 ∨ y ≠ z) → t v D σ H)
def tCase2 (K : PySem.W.Frag) (z : Str) (i1 i2 : Nat) (tb : TS) (t : V → TS) : V → TS := fun v D σ H => ∃ a y r, v = .ref a ∧ SqT K H a (.str y :: r) ∧ (∀ x1 x2, r = [x1, x2] → y = z → tb D ((σ.set i1 (some x1)).set i2 (some x2)) H) ∧ ((r.length ≠ 2 ∨ y ≠ z) → t v D σ H)
/-- the word of a pattern -/
theorem word_pat {pins : List (Addr × Obj)} {σ : L2.St} {H : Hp} {s : Shared} {y : Str} {u : Value} {Q : Option (List (Str × Value)) → Shared → Prop} (I : Inv X pins σ H s) (r : RelV (.str y) u)
    (h1 : y = z → ∀ s', Inv X pins σ H s' → Q (some []) s') (h0 : y ≠ z → ∀ s', Inv X pins σ H s' → Q none s') : wpAny (model X.prog X.w) X.A (matchPattern (.MatchValue (.Constant (.str z) j p0) p1) X.env u) Q X.xe s := by
  refine wpAny_matchPattern_Value (Calls.Constant_str ?_)
  have I1 := I.tok (s.toks + 1)
  refine thn (op_eq pins _ σ H (.str y) (.str z) u _ (fun v H' => v = .bl (decide (V.str y = V.str z)) ∧ H' = H) I1 r ⟨_, rfl⟩ ⟨rfl, rfl, rfl⟩) fun c s2 hc => ?_
  obtain ⟨v, H2, I2, rv, rfl, rfl⟩ := hc
  obtain rfl : c = Value.bool (decide (V.str y = V.str z)) := rv
  refine wpAny_truthy_bool ?_
  by_cases e : y = z
  · rw [show decide (V.str y = V.str z) = true from decide_eq_true (by rw [e]), if_pos rfl]
    exact h1 e s2 I2
  · rw [show decide (V.str y = V.str z) = false from decide_eq_false fun q => e (V.str.inj q), if_neg (by simp)]
    exact h0 e s2 I2
/-- the tuple's parts against patterns -/
theorem tup_pat {pins : List (Addr × Obj)} {σ : L2.St} {H : Hp} {s : Shared} {a : Addr} {xs : List V} {ps : List Pattern} {Q : Option (List (Str × Value)) → Shared → Prop} (hcalm : X.calm = true) (I : Inv X pins σ H s) (ha : SqT X.K H a xs)
    (h1 : ∀ s' us, xs.length = ps.length → Inv X pins σ H s' → Vals xs us → wpAny (model X.prog X.w) X.A (matchEach ps X.env us) Q X.xe s') (h0 : ∀ s', xs.length ≠ ps.length → Inv X pins σ H s' → Q none s')
    (hstar : ps.findIdx? (·.isStar) = none := by rfl) (hwild : (ps.all fun p => p.isWildcard || (p.isStar && p.names.isEmpty)) = false := by rfl) :
    wpAny (model X.prog X.w) X.A (matchPattern (.MatchSequence ps p3) X.env (.ref a)) Q X.xe s := by
  obtain ⟨its, rv, ht, hz⟩ := I.tuple ha
  have hl := rv.length
  have hfit : ((its.toArray.size : Nat) : Int) < 2 ^ 63 := by
    rw [List.size_toArray, ← hl]
    have : sizeLine ≤ 2 ^ 62 := by decide
    have : xs.length ≤ 2 ^ 62 := Nat.le_trans hz this
    omega
  have I2 := I.tok (s.toks + 1 + 1)
  by_cases e : xs.length = ps.length
  · refine matchSeq_tuple_hit ht hfit (by rw [List.size_toArray, ← hl]; exact e) ?_ hstar hwild
    have en : ps.length = its.toArray.size := by rw [List.size_toArray, ← hl]; exact e.symm
    rw [en]
    refine unpackItems_tuple (I.ok.hd hcalm) (show IsTup _ a its.toArray from ht) fun h' hx => ?_
    have I3 : Inv X pins σ H { s with heap := h', toks := s.toks + 1 + 1 } := I2.kept (t' := s.toks + 1 + 1) fun b o e => hx b o (Nat.ne_of_lt (Heap.lt_size e)) e
    exact h1 _ _ e I3 (by simpa using rv)
  · exact matchSeq_tuple_miss ht hfit (by rw [List.size_toArray, ← hl]; exact e) (h0 _ e I2) hstar hwild
theorem pmc_1 (hcalm : X.calm = true) (hN : X.N.Nodup) (hi1 : X.N[i1]? = some x1) (hl1 : Loc X.env.scope x1) (hf1 : X.fn x1 = true ∨ X.env.scope.names.lookup x1 = some .local) (hb : PSs X body tb) (hc : PMC X cs t) :
    PMC X (⟨.MatchSequence [.MatchValue (.Constant (.str z) j p0) p1, .MatchAs none (some x1) p2] p3, none, body⟩ :: cs) (tCase1 X.K z i1 tb t) := by
  refine ⟨fun first pins s σ H D v u I r h => ?_⟩
  obtain ⟨a, y, l, rfl, ha, h1, h0⟩ := h
  obtain rfl : u = Value.ref a := r
  refine wpAny_matchCases_cons (tup_pat hcalm I ha (fun s1 us hl I1 rv => ?_) fun s1 hl I1 => ?_)
  · cases rv with
    | cons r0 rv =>
      rename_i u0 us
      refine wpAny_matchEach_cons (word_pat I1 r0 (fun ey s2 I2 => ?_) fun ey s2 I2 => ?_)
      · cases rv with
        | nil => exact absurd hl (by simp)
        | cons r1 rv =>
          cases rv with
          | nil =>
            refine wpAny_matchEach_cons (wpAny_matchPattern_Capture ?_)
            dsimp only
            refine wpAny_matchEach_nil ?_
            dsimp only
            refine wpAny_assignInOrder_more (t := bindName X.env x1) (wpAny_bindName (store_ok I2 hN hi1 hl1 r1 (fun s3 I3 => wpAny_assignInOrder_none ?_) hf1))
            exact hb.run pins s3 _ H D I3 (h1 _ rfl ey)
          | cons _ _ => exact absurd hl (by simp)
      · exact hc.run false pins s2 σ H D (.ref a) _ I2 rfl (h0 (.inr ey))
  · exact hc.run false pins s1 σ H D (.ref a) _ I1 rfl (h0 (.inl fun z => hl (by show l.length + 1 = 2; rw [z])))
theorem pmc_2 (hcalm : X.calm = true) (hN : X.N.Nodup) (hi1 : X.N[i1]? = some x1) (hl1 : Loc X.env.scope x1) (hf1 : X.fn x1 = true ∨ X.env.scope.names.lookup x1 = some .local) (hi2 : X.N[i2]? = some x2) (hl2 : Loc X.env.scope x2) (hf2 : X.fn x2 = true ∨ X.env.scope.names.lookup x2 = some .local)
    (hb : PSs X body tb) (hc : PMC X cs t) :
    PMC X (⟨.MatchSequence [.MatchValue (.Constant (.str z) j p0) p1, .MatchAs none (some x1) p2, .MatchAs none (some x2) p4] p3, none, body⟩ :: cs) (tCase2 X.K z i1 i2 tb t) := by
  refine ⟨fun first pins s σ H D v u I r h => ?_⟩
  obtain ⟨a, y, l, rfl, ha, h1, h0⟩ := h
  obtain rfl : u = Value.ref a := r
  refine wpAny_matchCases_cons (tup_pat hcalm I ha (fun s1 us hl I1 rv => ?_) fun s1 hl I1 => ?_)
  · cases rv with
    | cons r0 rv =>
      rename_i u0 us
      refine wpAny_matchEach_cons (word_pat I1 r0 (fun ey s2 I2 => ?_) fun ey s2 I2 => ?_)
      · cases rv with
        | nil => exact absurd hl (by simp)
        | cons r1 rv =>
          cases rv with
          | nil => exact absurd hl (by simp)
          | cons r2 rv =>
            cases rv with
            | nil =>
              refine wpAny_matchEach_cons (wpAny_matchPattern_Capture ?_)
              dsimp only
              refine wpAny_matchEach_cons (wpAny_matchPattern_Capture ?_)
              dsimp only
              refine wpAny_matchEach_nil ?_
              dsimp only
              refine wpAny_assignInOrder_more (t := bindName X.env x1) (wpAny_bindName (store_ok I2 hN hi1 hl1 r1 (fun s3 I3 => ?_) hf1))
              refine wpAny_assignInOrder_more (t := bindName X.env x2) (wpAny_bindName (store_ok I3 hN hi2 hl2 r2 (fun s4 I4 => wpAny_assignInOrder_none ?_) hf2))
              exact hb.run pins s4 _ H D I4 (h1 _ _ rfl ey)
            | cons _ _ => exact absurd hl (by simp)
      · exact hc.run false pins s2 σ H D (.ref a) _ I2 rfl (h0 (.inr ey))
  · exact hc.run false pins s1 σ H D (.ref a) _ I1 rfl (h0 (.inl fun z => hl (by show l.length + 1 = 3; rw [z])))
end
end Say
namespace Say
open PySem PySem.Spec PyProof.Rows L2 L2H HotX
/-! ### try: body, except x as n: a suite that raises out -/
section
variable {X : Cx} {n : Str} {i : Nat} {pos' : Pos} {Wout : WX} {pins : List (Addr × Obj)}
/-- what leaves the suite: the name goes, on it flies -/
theorem as_out {a0 : Addr} {oe0 : Obj} {u : Value} {s' : Shared} (hs : X.stack = X.env :: X.outer) (hf : X.env.frame = some X.env.locals) (hex : X.ex = []) (hN : X.N.Nodup) (hi : X.N[i]? = some n) (hln : X.env.kindOf n = some .local) (ok : X.Ok)
    (hpa : PassesOwnAt (model X.prog X.w) (X.A.mark (some (.ref a0))) X.A X.env X.xe) (tk : L2.Takes X Wout)
    (xx : L2.XE (suiteX X a0 ((a0, oe0) :: (X.pn ++ pins))) (fun cls d σ H => Wout cls d (σ.set i none) H) u s') :
    wpAny (model X.prog X.w) (X.A.mark (some (.ref a0))) (noteFrame u X.env) (fun _ s3 => wpAny (model X.prog X.w) (X.A.mark (some (.ref a0))) (do bindName X.env n .none; unbindBehindTheSuite X.env n pos')
        (fun _ s4 => wpAny (model X.prog X.w) (X.A.mark (some (.ref a0))) (PySem.passOn "try.except-as" u X.env : Sem Flow) (fun _ _ => False) (notedBy (model X.prog X.w) (X.A.mark (some (.ref a0))) X.env (cameBackBy (model X.prog X.w) X.A X.env X.xe)) s4)
        (fun y s4 => wpAny (model X.prog X.w) (X.A.mark (some (.ref a0))) (setFlight u none) (fun _ s5 => (notedBy (model X.prog X.w) (X.A.mark (some (.ref a0))) X.env (cameBackBy (model X.prog X.w) X.A X.env X.xe)) y s5) (notedBy (model X.prog X.w) (X.A.mark (some (.ref a0))) X.env (cameBackBy (model X.prog X.w) X.A X.env X.xe)) s4) s3)
      (notedBy (model X.prog X.w) (X.A.mark (some (.ref a0))) X.env (cameBackBy (model X.prog X.w) X.A X.env X.xe)) s' := by
  have hF : X.A.frames = some (X.env :: X.outer) := by rw [ok.frames, hs]
  have hFm : (X.A.mark (some (.ref a0))).frames = some (X.env :: X.outer) := hF
  obtain ⟨b, B, sJ, pj, σ1, H1, cls, d, rfl, J0, gr, ups, sky, nb1, hos, hag, hw⟩ := xx
  have J : Inv X pins σ1 H1 sJ := unsuiteX J0 ok
  have skyE : Sky B (X.env :: X.outer) b (Zc cls d) X.env.locals s'.heap := by
    have q := sky
    rw [show (suiteX X a0 ((a0, oe0) :: (X.pn ++ pins))).stack = X.env :: X.outer from hs] at q
    exact q
  have onward : ∀ h1, HandSPX.HeldZ B (X.env :: X.outer) b (Zc cls d) X.env.locals h1 → s'.heap.UpToSlots h1 →
      wpAny (model X.prog X.w) (X.A.mark (some (.ref a0))) (do bindName X.env n .none; unbindBehindTheSuite X.env n pos')
        (fun _ s4 => wpAny (model X.prog X.w) (X.A.mark (some (.ref a0))) (PySem.passOn "try.except-as" (.ref b) X.env : Sem Flow) (fun _ _ => False) (notedBy (model X.prog X.w) (X.A.mark (some (.ref a0))) X.env (cameBackBy (model X.prog X.w) X.A X.env X.xe)) s4)
        (fun y s4 => wpAny (model X.prog X.w) (X.A.mark (some (.ref a0))) (setFlight (.ref b) none) (fun _ s5 => (notedBy (model X.prog X.w) (X.A.mark (some (.ref a0))) X.env (cameBackBy (model X.prog X.w) X.A X.env X.xe)) y s5) (notedBy (model X.prog X.w) (X.A.mark (some (.ref a0))) X.env (cameBackBy (model X.prog X.w) X.A X.env X.xe)) s4) { s' with heap := h1 } := fun h1 hd1 up1 => by
    have J3 : Inv X pins σ1 H1 { s' with heap := h1 } := J.landed gr hd1.1 (ups.trans up1) hos hag
    obtain ⟨k1, k2, k3, ob, fv, T, oT, tv, eb, zb, db, v1, gT0, hTb, eT, dT, v3⟩ := id hd1
    have noT : H1 T = none := (J.inGround gr).gone gT0
    have apart : ∀ (q : Addr) (o : Obj) (ws : Array Value), h1.get? q = some o → o.data = .fields ws → q ∉ frs (X.env :: X.outer) := fun q o ws e dd hm => by
      obtain ⟨_, o', e', hnf⟩ := k3.mem hm
      have eo := Option.some.inj (e.symm.trans e')
      rw [← eo] at hnf
      exact hnf _ dd
    have locM : X.env.locals ∈ frs (X.env :: X.outer) := List.mem_filterMap.mpr ⟨X.env, List.mem_cons_self, hf⟩
    have fsM : ∀ q, q ∈ X.fs → q ∈ frs (X.env :: X.outer) := fun q hm => by
      obtain ⟨e, he, z⟩ := List.mem_filterMap.mp hm
      exact List.mem_filterMap.mpr ⟨e, List.mem_cons_of_mem _ he, z⟩
    have fb := apart b ob fv eb db
    have fT := apart T oT tv eT dT
    have S3 : Inv (X.suite b ((b, ob) :: (T, oT) :: (X.pn ++ pins))) [] σ1 H1 { s' with heap := h1 } :=
      ⟨J3.ok.suite _ _, J3.os, J3.bare, J3.base, J3.loc, J3.cell, J3.free, J3.freeC, fun p hp => by
        rw [List.append_nil] at hp
        rcases List.mem_cons.mp hp with z | hp2
        · rw [z]
          exact ⟨eb, nb1, fun y => fb (by rw [show b = X.env.locals from y]; exact locM), fun y => fb (fsM _ y), fun v y => by
            have y3 : ob.data = .cell v := y
            rw [db] at y3
            cases y3⟩
        · rcases List.mem_cons.mp hp2 with z | hp3
          · rw [z]
            exact ⟨eT, noT, fun y => fT (by rw [show T = X.env.locals from y]; exact locM), fun y => fT (fsM _ y), fun v y => by
              have y3 : oT.data = .cell v := y
              rw [dT] at y3
              cases y3⟩
          · exact J3.pin p hp3, J3.hok, J3.len⟩
    refine gone_ok (X := X.suite b ((b, ob) :: (T, oT) :: (X.pn ++ pins))) S3 hN hi hln fun s6 S6 => ?_
    have J6 : Inv X pins (σ1.set i none) H1 s6 := ⟨ok, S6.os, S6.bare, S6.base, S6.loc, S6.cell, S6.free, S6.freeC, fun p hp => S6.pin p (List.mem_append_left _ (List.mem_cons_of_mem _ (List.mem_cons_of_mem _ hp))), S6.hok, S6.len⟩
    have pb := S6.pin (b, ob) (List.mem_append_left _ List.mem_cons_self)
    have pT := S6.pin (T, oT) (List.mem_append_left _ (List.mem_cons_of_mem _ List.mem_cons_self))
    have gb : s6.heap.get? b = some ob := pb.1
    have gT : s6.heap.get? T = some oT := pT.1
    have far : ∀ q o, sJ.heap.get? q = some o → q ≠ b ∧ q ≠ T := fun q o e => by
      by_cases hq : q ∈ frs X.stack
      · rw [hs] at hq
        exact ⟨fun z => fb (by rw [← z]; exact hq), fun z => fT (by rw [← z]; exact hq)⟩
      · have q2 := gr q o e hq
        refine ⟨fun z => ?_, fun z => ?_⟩
        · rw [z, k2] at q2
          cases q2
        · rw [z, gT0] at q2
          cases q2
    have far0 : ∀ q o, X.s_0.heap.get? q = some o → q ≠ b ∧ q ≠ T := fun q o e => by
      obtain ⟨o', z⟩ := J.base.there q o e (by rw [hex]; simp)
      exact far q o' z
    have farP : ∀ p ∈ X.pn ++ pins, p.1 ≠ b ∧ p.1 ≠ T := fun p hp => far p.1 p.2 (J.pin p hp).1
    obtain ⟨G, g1, g2⟩ := restrict s6.heap fun q => !(decide (q = b) || decide (q = T))
    have gIn : ∀ q o, G.get? q = some o → s6.heap.get? q = some o ∧ q ≠ b ∧ q ≠ T := fun q o e => by
      cases z : (!(decide (q = b) || decide (q = T))) with
      | false =>
        rw [g2 q z] at e
        cases e
      | true =>
        rw [g1 q z] at e
        simp only [Bool.not_eq_true', Bool.or_eq_false_iff, decide_eq_false_iff_not] at z
        exact ⟨e, z.1, z.2⟩
    have gOf : ∀ q o, q ≠ b → q ≠ T → s6.heap.get? q = some o → G.get? q = some o := fun q o h1 h2 e => by
      rw [g1 q (by simp [h1, h2])]
      exact e
    have I6 : Inv X pins (σ1.set i none) H1 { s6 with heap := G } := J6.less (fun q o e => (gIn q o e).1) gOf ⟨ob, fv, gb, db⟩ ⟨oT, tv, gT, dT⟩ pb.2.1 pT.2.1 far0 farP
    have gIn6 : ∀ q o, (PySem.W.hideAll G (frs X.stack)).get? q = some o → s6.heap.get? q = some o := fun q o e => (gIn q o (PySem.W.of_hideAll _ e)).1
    have gNo : ∀ q, (q = b ∨ q = T) → (PySem.W.hideAll G (frs X.stack)).get? q = none := fun q hq => by
      cases z : (PySem.W.hideAll G (frs X.stack)).get? q with
      | none => rfl
      | some o =>
        obtain ⟨_, n1, n2⟩ := gIn q o (PySem.W.of_hideAll _ z)
        rcases hq with y | y
        · exact absurd y n1
        · exact absurd y n2
    have fr6 : s6.heap.FunFrames (PySem.W.hideAll G (frs X.stack)) (X.env :: X.outer) := by
      have ff := funFrames_none (B := PySem.W.hideAll G (frs X.stack)) J6.stack fun q hq => PySem.W.hideAll_none _ hq
      rw [← hs]
      exact ff
    have hd6 : HandSPX.HeldZ (PySem.W.hideAll G (frs X.stack)) (X.env :: X.outer) b (Zc cls d) X.env.locals s6.heap :=
      ⟨gIn6, gNo b (.inl rfl), fr6, ob, fv, T, oT, tv, gb, zb, db, v1, gNo T (.inr rfl), hTb, gT, dT, v3⟩
    unfold PySem.passOn
    refine wpAny_bind (wpAny_field gb db v1 ?_)
    rw [if_neg (show ¬ ((Value.ref T == Value.none) = true) from by simp)]
    have goOn : wpAny (model X.prog X.w) (X.A.mark (some (.ref a0))) (setFlight (.ref b) X.env.frame) (fun _ s7 => wpAny (model X.prog X.w) (X.A.mark (some (.ref a0))) (throw (.ref b) : Sem Flow) (fun _ _ => False) (notedBy (model X.prog X.w) (X.A.mark (some (.ref a0))) X.env (cameBackBy (model X.prog X.w) X.A X.env X.xe)) s7) (notedBy (model X.prog X.w) (X.A.mark (some (.ref a0))) X.env (cameBackBy (model X.prog X.w) X.A X.env X.xe)) s6 := by
      rw [hf]
      refine HandSPX.setFlight_onZ hd6 fun h7 hd7 up7 => wpAny_throw (hpa _ _ (tk _ _ ?_))
      refine ⟨b, PySem.W.hideAll G (frs X.stack), { s6 with heap := G }, pins, σ1.set i none, H1, cls, d, rfl, I6, fun q o e hq => PySem.W.hideAll_get _ e hq, ?_, .inr (.inr (by rw [← hs] at hd7; exact hd7)), pb.2.1, rfl, J6.bare, hw⟩
      exact Heap.UpToSlots.trans (Heap.UpToSlots.of_keeps fun q o e => (gIn q o e).1) up7
    first
      | exact wpAny_bind (wpAny_pure (wpAny_bind goOn))
      | exact wpAny_bind goOn
  rcases skyE with ⟨q1, q2, q3, ob, fv, e0, zb, db, v1⟩ | fl | hh
  · exact HandSPX.look_newZ Zc.steady hFm q3 hf e0 q1 q2 db v1 zb onward
  · exact HandSPX.looks_onZ Zc.steady hFm hf fl onward
  · exact HandSPX.againZ hf hh.2.2.2 (onward s'.heap hh (Heap.UpToSlots.refl _))
end
section
variable {X : Cx} {x n : Str} {c : Value} {i : Nat} {body suite : List Stmt} {b₀ : Stmt} {np pos pos' : Pos} {tb : WX → TS} {ts : Addr → Value → Option Addr → TS} {Wout : WX}
theorem ps_try_asX (hs : X.stack = X.env :: X.outer) (hf : X.env.frame = some X.env.locals) (hex : X.ex = []) (hN : X.N.Nodup) (hi : X.N[i]? = some n) (hln : X.env.kindOf n = some .local) (hc : Names X x c)
    (hpa : ∀ hd : Option Value, PassesOwnAt (model X.prog X.w) (X.A.mark hd) X.A X.env X.xe) (tk : L2.Takes X Wout)
    (hb : ∀ (W : WX) (pn : List (Addr × Obj)) (xe : Value → Shared → Prop), L2N.Takes (X.tr pn xe) W → PassesOwn (model X.prog X.w) X.A X.env xe → PSs (X.tr pn xe) body (tb W))
    (hsu : ∀ (a : Addr) (oe : Obj) (cls : Value) (d : Option Addr) (pn : List (Addr × Obj)), L2N.Zn cls d oe → (∃ vs, oe.data = .fields vs) → ∀ xe : Value → Shared → Prop, L2.Takes ((suiteX X a ((a, oe) :: pn)).wish xe) (fun cls d σ H => Wout cls d (σ.set i none) H) → HotC ((suiteX X a ((a, oe) :: pn)).wish xe) →
      PSs ((suiteX X a ((a, oe) :: pn)).wish xe) (b₀ :: suite) (ts a cls d)) :
    PS X (.Try body [.ExceptHandler (some (.Name x np)) (some n) (b₀ :: suite) pos'] [] [] pos) (fun D σ H => tb (wAs X.K c i ts Wout D) D σ H) := by
  refine ⟨fun pins s σ H D I h => ?_⟩
  have ok := I.ok
  have hF : X.A.frames = some (X.env :: X.outer) := by rw [ok.frames, hs]
  have hloc : Loc X.env.scope n := .inl hln
  refine wpAny_Try_except ?_
  refine wpAny_mono ((hb (wAs X.K c i ts Wout D) (X.pn ++ pins) (fun e s₁ => wpAny (model X.prog X.w) X.A (noteFrame e X.env) (fun _ s₂ => wpAny (model X.prog X.w) X.A (setFlight e none) (fun _ s₃ =>
    wpAny (model X.prog X.w) X.A (handleBy e X.env [.ExceptHandler (some (.Name x np)) (some n) (b₀ :: suite) pos']) (SP X pins D) X.xe s₃) X.xe s₂) X.xe s₁) (fun u s' xx => ?_) PassesOwn.looking).run [] s σ H D (I.toTry _) h) (fun f s1 hsp => ?_) (fun e s1 he => he)
  · obtain ⟨a, B, sI, pj, σ1, H1, cls, d, rfl, J0, gr, ups, sky, na, hos, hag, bq, hbq, hyes, hno⟩ := xx
    have J : Inv X pins σ1 H1 sI := J0.ofTry ok
    have skyE : Sky B (X.env :: X.outer) a (L2N.Zn cls d) X.env.locals s'.heap := by
      have q := sky
      rw [show (X.tr (X.pn ++ pins) _).stack = X.env :: X.outer from hs] at q
      exact q
    show wpAny (model X.prog X.w) X.A (noteFrame (.ref a) X.env) _ _ _
    refine L2N.Sky.land L2N.Zn.steady hF hf skyE fun h3 fl3 up3 => ?_
    have J3 : Inv X pins σ1 H1 { s' with heap := h3 } := J.landed gr fl3.1 (ups.trans up3) hos hag
    obtain ⟨oq, fq, eq, zq, dq⟩ := fl3.there
    have nfr : a ∉ frs (X.env :: X.outer) := fun hm => by
      obtain ⟨_, o', e', hnf⟩ := fl3.2.2.1.mem hm
      have eo := Option.some.inj (eq.symm.trans e')
      rw [← eo] at hnf
      exact hnf _ dq
    have nL : a ≠ X.env.locals := fun z => nfr (List.mem_filterMap.mpr ⟨X.env, List.mem_cons_self, by rw [hf, z]⟩)
    have nF : a ∉ X.fs := fun hm => by
      obtain ⟨e, he, q⟩ := List.mem_filterMap.mp hm
      exact nfr (List.mem_filterMap.mpr ⟨e, List.mem_cons_of_mem _ he, q⟩)
    have S3 := J3.suite eq dq na nL nF
    refine wpAny_handleBy_cons (codeAny_handlers_test ?_) (by intro q; cases q)
    have LT : PySem.W.Looks (model X.prog X.w) h3 (typeOf (.ref a)) cls := fun A Q E s k q => wpAny_typeOf_ref (k _ _ eq) (by rw [zq.1]; exact q)
    have LM := PySem.W.exm_one (M := model X.prog X.w) (J3.kIn) LT hbq
    have asked : ∀ {Q : Value → Shared → Prop} {E : Value → Shared → Prop}, Q c { s' with heap := h3 } → wpAny (model X.prog X.w) (X.A.mark (some (.ref a))) (eval (.Name x np) X.env) Q E { s' with heap := h3 } := fun {Q E} q => by
      obtain ⟨hg, hdbg, hm | ⟨hm, hv, hnn⟩⟩ := hc
      · exact ld_glob (X := X.suite a ((a, oq) :: (X.pn ++ pins))) S3 hg hm q hdbg
      · exact ld_blt (X := X.suite a ((a, oq) :: (X.pn ++ pins))) S3 hg hm hv q hnn hdbg
    refine asked (LM.here ?_)
    cases bq with
    | true =>
      refine codeAny_handlers_suite_as ?_
      refine HandSPX.lands_againZ fl3 fun h4 fl4 up4 => ?_
      have J4 : Inv X pins σ1 H1 { s' with heap := h4 } := J.landed gr fl4.1 ((ups.trans up3).trans up4) hos hag
      obtain ⟨o4, f4, e4, z4, d4⟩ := fl4.there
      have S4 := J4.suite e4 d4 na nL nF
      refine store_ok (X := X.suite a ((a, o4) :: (X.pn ++ pins))) (v := .ref a) S4 hN hi hloc rfl (fun s5 S5 => ?_) (.inr hln)
      have hot : HotC ((suiteX X a ((a, o4) :: (X.pn ++ pins))).wish fun u s' => L2.XE (suiteX X a ((a, o4) :: (X.pn ++ pins))) (fun cls d σ H => Wout cls d (σ.set i none) H) u s') := ⟨(a, o4), ⟨rfl, f4, d4, z4.2.2 f4 d4⟩, List.mem_cons_self⟩
      have tkS : L2.Takes ((suiteX X a ((a, o4) :: (X.pn ++ pins))).wish fun u s' => L2.XE (suiteX X a ((a, o4) :: (X.pn ++ pins))) (fun cls d σ H => Wout cls d (σ.set i none) H) u s') (fun cls d σ H => Wout cls d (σ.set i none) H) := fun u2 s2 x2 => by
        obtain ⟨b, B2, sI2, pn2, σ2, H2, cls2, d2, e2, I2, nb2, up2, sky2, na2, os2, ag2, w2⟩ := x2
        exact ⟨b, B2, sI2, pn2, σ2, H2, cls2, d2, e2, I2.unwish, nb2, up2, sky2, na2, os2, ag2, w2⟩
      have S5' : Inv ((suiteX X a ((a, o4) :: (X.pn ++ pins))).wish fun u s' => L2.XE (suiteX X a ((a, o4) :: (X.pn ++ pins))) (fun cls d σ H => Wout cls d (σ.set i none) H) u s') [] (σ1.set i (some (.ref a))) H1 s5 := (suiteX_of S5).wish _
      refine wpAny_mono ((hsu a o4 cls d (X.pn ++ pins) z4 ⟨_, d4⟩ _ tkS hot).run [] s5 _ H1 _ S5' (hyes rfl a na)) (fun f s6 hsp => ?_) (fun u s6 z => as_out hs hf hex hN hi hln ok (hpa (some (.ref a))) tk z)
      have end_ : ∀ {σ6 : L2.St} {H6 : Hp} {Q : Shared → Prop}, Inv ((suiteX X a ((a, o4) :: (X.pn ++ pins))).wish fun u s' => L2.XE (suiteX X a ((a, o4) :: (X.pn ++ pins))) (fun cls d σ H => Wout cls d (σ.set i none) H) u s') [] σ6 H6 s6 → (∀ s7, Inv X pins (σ6.set i none) H6 s7 → Q s7) →
          wpAny (model X.prog X.w) X.A (do bindName X.env n .none; unbindBehindTheSuite X.env n pos') (fun _ s7 => Q s7) X.xe s6 := fun {σ6 H6 Q} S6 hq => gone_ok (unsuiteX S6.unwish ok) hN hi hln hq
      cases f with
      | next =>
        obtain ⟨σ6, H6, S6, q6⟩ := hsp
        exact end_ S6 fun s7 J7 => ⟨_, _, J7, q6⟩
      | brk =>
        obtain ⟨σ6, H6, S6, q6⟩ := hsp
        exact end_ S6 fun s7 J7 => ⟨_, _, J7, q6⟩
      | cont =>
        obtain ⟨σ6, H6, S6, q6⟩ := hsp
        exact end_ S6 fun s7 J7 => ⟨_, _, J7, q6⟩
      | ret u =>
        obtain ⟨v6, σ6, H6, S6, r6, q6⟩ := hsp
        exact end_ S6 fun s7 J7 => ⟨_, _, _, J7, r6, q6⟩
    | false =>
      show wpAny _ X.A (handleBy (.ref a) X.env []) _ _ _
      refine wpAny_handleBy_nil ?_
      obtain ⟨k1, k2, k3, oe, vs, T, oT, tv, he, hz, hd, h1, hr⟩ := id fl3
      unfold PySem.passOn
      refine wpAny_bind (wpAny_field he hd h1 ?_)
      rw [if_neg (show ¬ ((Value.ref T == Value.none) = true) from by simp)]
      have goOn : wpAny (model X.prog X.w) X.A (setFlight (.ref a) X.env.frame) (fun _ s4 => wpAny (model X.prog X.w) X.A (throw (.ref a) : Sem Flow) (SP X pins D) X.xe s4) X.xe { s' with heap := h3 } := by
        rw [hf]
        refine HandSPX.setFlight_upZ (flyingZ_imp (fun o z => z.zc) fl3) fun h4 hh4 up4 => wpAny_throw (tk _ _ ?_)
        exact ⟨a, B, sI, pins, σ1, H1, cls, d, rfl, J, gr, (ups.trans up3).trans up4, .inr (.inr (by rw [hs]; exact hh4)), na, hos, hag, hno rfl⟩
      first
        | exact wpAny_bind (wpAny_pure (wpAny_bind goOn))
        | exact wpAny_bind goOn
  · cases f with
    | next =>
      obtain ⟨σ1, H1, J, q⟩ := hsp
      exact wpAny_execs_nil ⟨σ1, H1, J.ofTry ok, q⟩
    | brk =>
      obtain ⟨σ1, H1, J, q⟩ := hsp
      exact ⟨σ1, H1, J.ofTry ok, q⟩
    | cont =>
      obtain ⟨σ1, H1, J, q⟩ := hsp
      exact ⟨σ1, H1, J.ofTry ok, q⟩
    | ret u =>
      obtain ⟨v, σ1, H1, J, r, q⟩ := hsp
      exact ⟨v, σ1, H1, J.ofTry ok, r, q⟩
end
end Say
namespace Say
open PySem PySem.Spec PyProof.Rows L2 L2H HotX
/-! ### raise X(..) from e, in e's suite -/
/-- the heap behind «from b» -/
def causeOn (h : Heap) (a b : Addr) : Heap := (h.update a (Obj.mapFields (·.setIfInBounds 3 (.ref b)))).update a (Obj.mapFields (·.setIfInBounds 4 (.bool true)))
theorem causeOn_at {h : Heap} {a b : Addr} {oe : Obj} {vs : Array Value} (ha : h.get? a = some oe) (hd : oe.data = .fields vs) :
    (causeOn h a b).get? a = some ((oe.mapFields (·.setIfInBounds 3 (.ref b))).mapFields (·.setIfInBounds 4 (.bool true))) ∧ ((oe.mapFields (·.setIfInBounds 3 (.ref b))).mapFields (·.setIfInBounds 4 (.bool true))).data = .fields ((vs.setIfInBounds 3 (.ref b)).setIfInBounds 4 (.bool true)) := by
  have d3 := Obj.data_mapFields hd (·.setIfInBounds 3 (.ref b))
  have a3 := Heap.get?_update_self (Obj.mapFields (·.setIfInBounds 3 (.ref b))) ha (Obj.isFreed_of_fields d3)
  have d4 := Obj.data_mapFields d3 (·.setIfInBounds 4 (.bool true))
  exact ⟨Heap.get?_update_self (Obj.mapFields (·.setIfInBounds 4 (.bool true))) a3 (Obj.isFreed_of_fields d4), d4⟩
theorem causeOn_ne {h : Heap} {a b c : Addr} (n : a ≠ c) : (causeOn h a b).get? c = h.get? c := by
  unfold causeOn
  rw [Heap.get?_update_other _ _ n, Heap.get?_update_other _ _ n]
/-- an exception's record -/
theorem not_type {prog : Program} {w : World} {A : Around} {E : Value → Shared → Prop} {s : Shared} {a : Addr} {oe : Obj} {vs : Array Value} {Q : Bool → Shared → Prop} (ha : s.heap.get? a = some oe) (hd : oe.data = .fields vs) (q : Q false s) : wpAny (model prog w) A (isType (.ref a)) Q E s := by
  simp only [isType, loadHead]
  refine wpAny_bind (wpAny_loadPart ha ?_)
  rw [hd]
  exact wpAny_pure q
theorem exc_itself {prog : Program} {w : World} {A : Around} {E : Value → Shared → Prop} {s : Shared} {a : Addr} {oe : Obj} {vs : Array Value} {m : String} {Q : Value → Shared → Prop} (ha : s.heap.get? a = some oe) (hd : oe.data = .fields vs) (L1 : PySem.W.Looks (model prog w) s.heap (isSubtype oe.cls (.type "BaseException")) true) (q : Q (.ref a) s) :
    wpAny (model prog w) A (excFromValue (.ref a) m) Q E s := by
  have LT : PySem.W.Looks (model prog w) s.heap (typeOf (.ref a)) oe.cls := fun A Q E s k q => wpAny_typeOf_ref (k _ _ ha) q
  have LI : PySem.W.Looks (model prog w) s.heap (isInstance (.ref a) (.type "BaseException")) true := LT.andThen L1
  unfold excFromValue isExcClass
  refine wpAny_bind (wpAny_bind (not_type ha hd ?_))
  simp only [Bool.false_eq_true, if_false]
  refine wpAny_pure ?_
  simp only [Bool.false_eq_true, if_false]
  refine wpAny_bind (LI.here ?_)
  simp only [if_true]
  exact wpAny_pure q
theorem raise_hotF {prog : Program} {w : World} {A : Around} {E : Value → Shared → Prop} {env : Env} {s : Shared} {x c : Sem Value} {Q : Flow → Shared → Prop} {x1 : Addr}
    (h : wpAny (model prog w) A x (fun v s₁ => wpAny (model prog w) A c (fun cv s2 => ∃ a oe vs o1 f1, v = .ref a ∧ cv = .ref x1 ∧ s2.heap.get? a = some oe ∧ oe.data = .fields vs ∧ vs[1]? = some .none ∧ 4 < vs.size ∧ x1 ≠ a ∧ HotAt A x1 s2.heap ∧ s2.heap.get? x1 = some o1 ∧ o1.data = .fields f1 ∧
      PySem.W.Looks (model prog w) s2.heap (isSubtype oe.cls (.type "BaseException")) true ∧ PySem.W.Looks (model prog w) s2.heap (isSubtype o1.cls (.type "BaseException")) true ∧ PySem.W.Looks (model prog w) (causeOn s2.heap a x1) (typeOf oe.cls) (.type "type") ∧
      E (.ref a) { s2 with heap := (causeOn s2.heap a x1).update a (Obj.mapFields (·.setIfInBounds 2 (.ref x1))) }) E s₁) E s) :
    wpAny (model prog w) A (raiseStmt env (some x) (some c)) Q E s := by
  unfold raiseStmt
  dsimp only
  refine wpAny_bind (wpAny_mono h (fun v s₁ h₁ => ?_) fun _ _ x => x)
  refine wpAny_bind (wpAny_holding (wpAny_mono h₁ (fun cv s2 h2 => wpAny_bind (wpAny_pure ?_)) fun _ _ x => x))
  obtain ⟨a, oe, vs, o1, f1, rfl, rfl, ha, hd, hv1, hi, hne, hot, h1, d1, L1, L2', L3, hE⟩ := h2
  dsimp only
  have d3 := Obj.data_mapFields hd (·.setIfInBounds 3 (.ref x1))
  have a3 := Heap.get?_update_self (Obj.mapFields (·.setIfInBounds 3 (.ref x1))) ha (Obj.isFreed_of_fields d3)
  obtain ⟨a4, d4⟩ := causeOn_at (b := x1) ha hd
  have s3 : 3 < vs.size := by omega
  have s4 : 4 < (vs.setIfInBounds 3 (Value.ref x1)).size := by rw [set_size]; exact hi
  have s2' : 2 < ((vs.setIfInBounds 3 (Value.ref x1)).setIfInBounds 4 (Value.bool true)).size := by rw [set_size, set_size]; omega
  have v14 : ((vs.setIfInBounds 3 (Value.ref x1)).setIfInBounds 4 (Value.bool true))[1]? = some Value.none := set_other (by decide) (set_other (by decide) hv1)
  have LT4 : PySem.W.Looks (model prog w) (causeOn s2.heap a x1) (typeOf (.ref a)) oe.cls := fun A Q E s k q => wpAny_typeOf_ref (k _ _ a4) (by rw [Obj.cls_mapFields, Obj.cls_mapFields]; exact q)
  have hot4 : HotAt A x1 (causeOn s2.heap a x1) := by
    obtain ⟨q1, o, fs, q2, q3, q4⟩ := hot
    exact ⟨q1, o, fs, by rw [causeOn_ne (Ne.symm hne)]; exact q2, q3, q4⟩
  have tail : wpAny (model prog w) A (do
      let b ← isType (.ref a)
      if b = true then do
        let g ← holding [.ref a] (raisedFor (.ref a) (.ref a))
        setFlight g none
        raiseNew g
      else do
        let g ← raisedInstance (.ref a)
        setFlight g none
        raiseNew g : Sem Flow) Q E { s2 with heap := causeOn s2.heap a x1 } := by
    refine wpAny_bind (not_type (s := { s2 with heap := causeOn s2.heap a x1 }) a4 d4 ?_)
    simp only [Bool.false_eq_true, if_false]
    unfold raisedInstance
    refine wpAny_bind (wpAny_bind (LT4.here (wpAny_bind (L3.here ?_))))
    rw [if_pos (beq_self_eq_true _)]
    refine wpAny_pure ?_
    unfold setFlight
    refine wpAny_bind (wpAny_bind (wpAny_field a4 d4 v14 ?_))
    rw [if_neg (by decide)]
    refine wpAny_pure ?_
    exact raiseNew_hot hot4 hne a4 d4 s2' hE
  refine wpAny_bind (wpAny_holding (exc_itself ha hd L1 ?_))
  rw [if_neg (show ¬ ((Value.ref x1 == Value.none) = true) from by simp)]
  refine wpAny_bind (wpAny_holding (exc_itself h1 d1 L2' ?_))
  refine wpAny_bind (wpAny_setField ha hd s3 (wpAny_bind (wpAny_setField (s := { s2 with heap := s2.heap.update a (Obj.mapFields (·.setIfInBounds 3 (Value.ref x1))) }) a3 d3 s4 ?_)))
  exact tail
theorem ps_raiseF {X : Cx} {W : WX} {e : Expr} {t : L2.St → Hp → XK → Prop} {i : Nat} {xn : Str} {p pos : Pos} {a0 : Addr} {o0 : Obj} {cls0 : Value} (hot : Hot1 X.A (a0, o0)) (hm0 : (a0, o0) ∈ X.pn) (hc0 : o0.cls = cls0) (tk : L2.Takes X W) (he : PMk5 X e t)
    (hN : X.N[i]? = some xn) (hln : X.env.kindOf xn = some .local) (hd0 : (xn == ("__debug__" : Str)) = false := by decide) :
    PS X (.Raise (some e) (some (.Name xn p)) pos) (fun _ σ H => t σ H fun cls d H' => Raises X cls0 ∧ σ[i]? = some (some (.ref a0)) ∧ W cls d σ H') := by
  refine ⟨fun pins s σ H D I h => ?_⟩
  obtain ⟨hh, f0, e0, c0⟩ := hot
  show wpAny _ _ (do standAt pos; raiseStmt X.env (some (do let v ← eval e X.env; standAt pos; pure v)) (some (do let v ← eval (.Name xn p) X.env; standAt pos; pure v))) _ _ _
  refine wpAny_bind (wpAny_standAt (raise_hotF (x1 := a0) (wpAny_bind (wpAny_mono (he pins s σ H _ I h) (fun u s1 hu => wpAny_bind (wpAny_standAt (wpAny_pure ?_))) fun _ _ x => x))))
  obtain ⟨⟨a, oe, vs, sI, H', cls, d, rfl, J, k, hne, ha, hz, hd, h1, na, os, ag, r, r0, hσ, q⟩, h5⟩ := hu
  have hi : 4 < vs.size := h5 a oe vs rfl ha hd
  have P1 := (J.pin (a0, o0) (List.mem_append_left _ hm0)).1
  have nap : a0 ≠ a := fun z => by
    rw [show a0 = a from z, hne] at P1
    cases P1
  obtain ⟨m, hn, hl⟩ := J.loc
  obtain ⟨u, ru, l⟩ := hl i xn (.ref a0) hN hσ (.inl hln)
  obtain rfl : u = Value.ref a0 := ru
  have hm : m xn = some (.ref a0) := by
    rcases l with ⟨_, hm⟩ | ⟨hk, _⟩
    · exact hm
    · rcases hk with hk | hk
      · rw [show X.env.kindOf xn = _ from hk] at hln; cases hln
      · rw [show X.env.kindOf xn = _ from hk] at hln; cases hln
  refine wpAny_bind (wpAny_Name (wpAny_loadName_local J.ok.kind hln (hn.keeps k) hm (wpAny_bind (wpAny_standAt (wpAny_pure ?_)))) hd0)
  have k4 : ∀ b u, sI.heap.get? b = some u → (causeOn s1.heap a a0).get? b = some u := fun b u z => by
    have nab : a ≠ b := fun y => by
      rw [← y, hne] at z
      cases z
    rw [causeOn_ne nab]
    exact k b u z
  obtain ⟨r1, _⟩ := r (model X.prog X.w) s1.heap (J.kIn.keeps k)
  obtain ⟨_, r2⟩ := r (model X.prog X.w) (causeOn s1.heap a a0) (J.kIn.keeps k4)
  obtain ⟨r3, _⟩ := r0 (model X.prog X.w) s1.heap (J.kIn.keeps k)
  obtain ⟨ha4, hd4⟩ := causeOn_at (b := a0) ha hd
  have h12 : (((vs.setIfInBounds 3 (Value.ref a0)).setIfInBounds 4 (Value.bool true)).setIfInBounds 2 (Value.ref a0))[1]? = some Value.none := set_other (by decide) (set_other (by decide) (set_other (by decide) h1))
  refine ⟨a, oe, vs, o0, f0, rfl, rfl, ha, hd, h1, hi, nap, ⟨hh, o0, f0, k _ _ P1, e0, c0⟩, k _ _ P1, e0, by rw [hz.1]; exact r1, by rw [hc0]; exact r3, by rw [hz.1]; exact r2, tk _ _ (XE.new J (fun b u z => ?_) hne (Heap.get?_update_self _ ha4 (Obj.isFreed_of_fields (Obj.data_mapFields hd4 _)))
    ⟨by rw [Obj.cls_mapFields, Obj.cls_mapFields, Obj.cls_mapFields]; exact hz.1, by rw [HandSPX.dict_mapFields, HandSPX.dict_mapFields, HandSPX.dict_mapFields]; exact hz.2.1⟩ (Obj.data_mapFields hd4 _) h12 na os ag q)⟩
  have nab : a ≠ b := fun y => by
    rw [← y, hne] at z
    cases z
  show ((causeOn s1.heap a a0).update a (Obj.mapFields (·.setIfInBounds 2 (.ref a0)))).get? b = some u
  rw [Heap.get?_update_other _ _ nab]
  exact k4 b u z
end Say
namespace PySem
namespace XHalted
open PySem.W PySem.Calls PyProof.Rows PySem.HandSPX
/-! ### the text of Halted.__init__ -/
abbrev sEx : Stmt := L2.inClass (Say.topS 12) 0
abbrev iA : Arguments := L2.defArgs sEx
abbrev iB : List Stmt := L2.defBody sEx
abbrev iS : Scope := L2.defScope sEx
def eF : Expr := match iB with
  | .Expr (.Call _ (e :: _) _ _) _ :: _ => e
  | _ => .Constant .none 0 ⟨0, 0, 0, 0⟩
theorem eF_eq : ∃ c1 c2 d2 c3 c4 d4 c5 c0, eF = .JoinedStr [.Constant (.str "deed ") 0 c1, .FormattedValue (.Name "number" c2) (-1) none d2, .Constant (.str " was refused, ") 0 c3, .FormattedValue (.Name "done" c4) (-1) none d4, .Constant (.str " stand") 0 c5] c0 := ⟨_, _, _, _, _, _, _, _, rfl⟩
theorem slen (x y : Str) : (x ++ y).length = x.length + y.length := by rw [TL.len_tl, TL.tl_append, List.length_append, ← TL.len_tl, ← TL.len_tl]
theorem iS_cell : ∀ y ∈ iS.names, y.2 ≠ .cell := by decide +kernel
/-- what the written part says of Halted, at C, and of its __init__, at fI -/
structure ExTxt (P : Program) (K : Frag) (mg : Str → Option Value) (C fI : Addr) : Prop where
  gC : mg "Halted" = some (.ref C)
  sB : mg "super" = none
  cls : ∃ nm q N bs bm sn sub ab col dd k0 k1 k2 k3 k5, K.lookup C = some (excClassObj nm q C N bs bm true sn sub ab col dd k0 k1 k2 k3 k5 "ValueError.__new__") ∧ refsVE bm = true
  sa : findIn K (.ref C) "__setattr__" = some (some (.builtin "object.__setattr__"))
  noP0 : findIn K (.ref C) "number" = some none
  noP1 : findIn K (.ref C) "done" = some none
  iC : findIn K (.ref C) "__init__" = some (some (.ref fI))
  tC : typeIn K (.ref fI) = some (.type "function")
  kC : keepIn K (.ref C) = true
  exC : subIn K (.ref C) (.type "BaseException") = some true
  tyC : typeIn K (.ref C) = some (.type "type")
  sup : ks_superIn K C C "__init__" = some (some (.builtin "ValueError.__init__"))
  subV : subIn K (.ref C) (.type "ValueError") = some true
  any : nsIn K cStatics "thirdparty.any" = some none
  main : (P.main.scope.names.lookup ("super" : Str)).isSome = false
  fn : ∃ (oc : Value) (od : Option Addr) (doc pm : Value) (an : Option Addr) (cda cc : Addr) (ct : Value) (osl : Array (Option Value)),
    K.lookup fI = some ⟨oc, od, .func (ksFn "__init__" "Halted.__init__" iA iB iS .none .none doc pm an (.ref cda) ct cc), osl⟩ ∧ codeIn K (.ref cda) "Halted.__init__" = true ∧
    (∃ cl cld csl, K.lookup cc = some ⟨cl, cld, .cell (some (.ref C)), csl⟩) ∧ ∃ ccl cdd vs ccs file tf, K.lookup cda = some ⟨ccl, cdd, .fields vs, ccs⟩ ∧ vs[2]? = some (.str file tf) ∧ ((P.main.file : Str) == file) = true
/-- what __init__ leaves of a fresh exception at x -/
structure InitEnd (h h' : Heap) (x C dx : Addr) (v0 v1 : Value) : Prop where
  keep : ∀ b o, b ≠ x → h.get? b = some o → h'.get? b = some o
  obj : ∃ t1 : Addr, h'.get? x = some { cls := .ref C, dict := some dx, data := .fields #[.ref t1, .none, .none, .none, .bool false, .none] }
  dbig : h.objs.size ≤ dx
  dne : dx ≠ x
  ns : h'.Ns1 dx (fun y => if y = "done" then some v1 else if y = "number" then some v0 else none)
section
variable {prog : Program} {w : World} {A : Around} {E : Value → Shared → Prop} {R : Result → Shared → Prop} {s : Shared} {K : Frag} {mg : Str → Option Value} {C fI : Addr} {base : Heap}
theorem ld {M : Model} {s : Shared} {env : Env} {m : Str → Option Value} {x : Str} {pos : Pos} {v : Value} {Q : Value → Shared → Prop} {A : Around} {E : Value → Shared → Prop} (hn : s.heap.Ns env.locals m) (hv : m x = some v) (h : Q v s)
    (hk : env.scope.kind = .function) (hl : env.kindOf x = some .local) (hd : (x == ("__debug__" : Str)) = false := by decide) :
    wpAny M A (eval (.Name x pos) env) Q E s := wpAny_Name (wpAny_loadName_local hk hl hn hv h) hd
theorem ex_init (T : ExTxt prog K mg C fI) {x t0 : Addr} {i : Int} {ti : Tok} {j : Int} {tj : Tok} (B : L2.Mod K mg base) (kb : ∀ b o, base.get? b = some o → s.heap.get? b = some o) (hx : s.heap.get? x = some (excO C t0)) (hnx : base.get? x = none) (hi : i.natAbs.log2 < 1920) (hi2 : (toString i : Str).length ≤ 1000) (hj : j.natAbs.log2 < 1920) (hj2 : (toString j : Str).length ≤ 1000) (hroom : A.depth < recursionLimit)
    (hq : ∀ h' tk dx, InitEnd s.heap h' x C dx (.int i ti) (.int j tj) → R (.ok (.ret .none)) { s with heap := h', toks := tk }) :
    codeAny (model prog w) A (.call (.ref fI) ⟨[.ref x, .int i ti, .int j tj], []⟩) R s := by
  obtain ⟨oc, od, doc, pm, an, cda, cc, ct, osl, ho, hcd, ⟨cl, cld, csl, hcell⟩, ccl, cdd, vs, ccs, file, tf, hcode, hvs, hfile⟩ := T.fn
  obtain ⟨nm, q, N, bs, bm, sn, sub, ab, col, dd, k0, k1', k2, k3, k5, hC, hbm⟩ := T.cls
  obtain ⟨hp, g, dr, tk0, os⟩ := s
  have hcl : clsIn K C = some { name := nm, bases := bs, mro := .ref C :: bm, ns := N, qualname := q, hasDict := true, slotNames := sn, subclasses := sub, abstract := ab, collection := col, hasDel := false } := by unfold clsIn; rw [hC] <;> rfl
  have X : K.In hp := B.kin.keeps kb
  have nl : hp.NoLimit := B.nolimit.keeps kb
  refine ks_codeAny_call_defAt (fd := ksFn "__init__" "Halted.__init__" iA iB iS .none .none doc pm an (.ref cda) ct cc) (body := iB) (binds := [("self", .ref x), ("number", .int i ti), ("done", .int j tj)])
    hroom (X _ _ ho) rfl nl (codeRec_of X hcd) rfl (BindsTo.of_eq (by first | rfl | with_unfolding_all rfl)) iS_cell (fun y hy => ?_) (fun h₀ hns k => ?_)
  · have e : y = (PySem.Str.ofString "self", Value.ref x) ∨ y = (PySem.Str.ofString "number", Value.int i ti) ∨ y = (PySem.Str.ofString "done", Value.int j tj) := by simpa using hy
    rcases e with rfl | rfl | rfl
    · exact (by decide +kernel : iS.names.lookup (PySem.Str.ofString "self") = some .local)
    · exact (by decide +kernel : iS.names.lookup (PySem.Str.ofString "number") = some .local)
    · exact (by decide +kernel : iS.names.lookup (PySem.Str.ofString "done") = some .local)
  generalize hL : (Shared.heap ⟨hp, g, dr, tk0, os⟩).objs.size = L at hns ⊢
  have henv : callEnv (ksFn "__init__" "Halted.__init__" iA iB iS .none .none doc pm an (.ref cda) ct cc) L fI = ksEnv "Halted.__init__" iS L fI (.ref cda) cc := rfl
  rw [henv]
  have X0 : K.In h₀ := X.keeps k
  have hx0 := k _ _ hx
  have kb0 : ∀ b o, base.get? b = some o → h₀.get? b = some o := fun b o e => k b o (kb b o e)
  obtain ⟨oC, hC0, hC1⟩ : ∃ oC, h₀.get? C = some oC ∧ oC.data = .cls { name := nm, bases := bs, mro := .ref C :: bm, ns := N, qualname := q, hasDict := true, slotNames := sn, subclasses := sub, abstract := ab, collection := col, hasDel := false } := ⟨_, X0 _ _ hC, rfl⟩
  have I0 : InstAt h₀ x (excO C t0) C none := ⟨hx0, rfl, rfl, trivial⟩
  obtain ⟨mb, hb1, hb2⟩ := B.blt
  have hxC : x ≠ C := fun z => by
    rw [z, hC0] at hx0
    cases hx0
    cases hC1
  have hsub : mroIn K C (.ref C) = some true := by
    unfold mroIn
    rw [hcl]
    simp
  have nS : iS.names.lookup (PySem.Str.ofString "super") = some .globalImplicit := by decide +kernel
  have nC : iS.names.lookup (PySem.Str.ofString "__class__") = some .free := by decide +kernel
  have nx : iS.names.lookup (PySem.Str.ofString "self") = some .local := by decide +kernel
  have np0 : iS.names.lookup (PySem.Str.ofString "number") = some .local := by decide +kernel
  have np1 : iS.names.lookup (PySem.Str.ofString "done") = some .local := by decide +kernel
  have hLx : L ≠ x := by
    rw [← hL]
    exact Nat.ne_of_gt (Heap.lt_size hx)
  refine ks_wpAt_execs_cons (ks_wpAt_Expr_any (ks_wpAt_MethodCall (ks_wpAt_super_base nS nC (by decide +kernel) rfl (X0 _ _ ho) rfl rfl rfl (X0 _ _ hcode) rfl hvs hfile T.main ?_)))
  refine ks_loadName_global rfl nS (loadGlobal_builtin (B.glob.keeps kb0) T.sB (hb1.keeps kb0) ((hb2 _ (by decide +kernel)).trans (by decide +kernel)) ⟨rfl, ?_⟩)
  refine wpAny_loadName_free rfl nC rfl ⟨_, X0 _ _ hcell, rfl⟩ ?_
  refine wpAny_loadName_local rfl nx hns rfl ?_
  refine ks_wpAny_isType_cls hC0 hC1 ⟨rfl, ?_⟩
  refine ks_wpAny_call_super hC0 hC1 hx0 rfl (fun c e => by cases e) (looks_mroIn X0 hsub) (fun h1 e1 k1 => ?_)
  have X1 : K.In h1 := X0.keeps k1
  have hx1 := k1 _ _ hx0
  have I1 : InstAt h1 x (excO C t0) C none := ⟨hx1, rfl, rfl, trivial⟩
  have hf : alongIn K "__init__" (((Value.ref C :: bm).dropWhile (· != .ref C)).drop 1) = some (some (.builtin "ValueError.__init__")) := by
    have := T.sup
    unfold ks_superIn at this
    rw [hcl] at this
    exact this
  refine kxs_getMethod kxs_ValueError e1 (looks_opaque X1 T.any) (l₀ := .ref C :: bm) (fun A Q E s k q => wpAny_bind ((looks_clsIn X1 hcl) A _ E s k (wpAny_pure q))) rfl X1 hf (I1.type.andThen (looks_subIn X1 T.subV)) hxC (by decide +kernel) ?_
  have hu : (h1.push (kxs_mw "ValueError.__init__" x)).get? h1.objs.size = some (kxs_mw "ValueError.__init__" x) := Heap.get?_push_size _ rfl
  have k2' : ∀ b o, h₀.get? b = some o → (h1.push (kxs_mw "ValueError.__init__" x)).get? b = some o := fun b o e => Heap.get?_push_of_some _ (k1 b o e)
  generalize h1.push (kxs_mw "ValueError.__init__" x) = h2 at hu k2' ⊢
  generalize h1.objs.size = u at hu ⊢
  have X2 : K.In h2 := X0.keeps k2'
  have hx2 := k2' _ _ hx0
  have hns2 := hns.keeps k2'
  -- the text that is handed on
  show wpAny _ _ (callWith _ (.ref u) [] _ []) _ _ _
  refine kxs_callWith (i := "ValueError.__init__") (x := x) rfl (evalArgs_plain ?_)
  show wpAny _ _ (spliced ((false, eval eF (ksEnv "Halted.__init__" iS L fI (.ref cda) cc)) :: [])) _ _ _
  obtain ⟨c1, c2, d2, c3, c4, d4, c5, c0, eFe⟩ := eF_eq
  rw [eFe]
  have z0 : Str.empty.length = 0 := by decide +kernel
  have z1 : (PySem.Str.ofString "deed ").length = 5 := by decide +kernel
  have z2 : (PySem.Str.ofString " was refused, ").length = 14 := by decide +kernel
  have z3 : (PySem.Str.ofString " stand").length = 6 := by decide +kernel
  refine Calls.spliced_cons (wpAny_JoinedStr ?_)
  refine wpAny_Constant_str ⟨_, _, rfl, (by show ((Str.empty ++ PySem.Str.ofString "deed ")).length ≤ sizeLine; simp only [slen, z0, z1, z2, z3, sizeLine_eq]; omega), ?_⟩
  refine wpAny_FormattedValue_plain (ld hns2 rfl ?_ rfl np0)
  refine wpAny_formatField_int hi ⟨_, _, rfl, (by show (((Str.empty ++ PySem.Str.ofString "deed ") ++ (toString i : Str))).length ≤ sizeLine; simp only [slen, z0, z1, z2, z3, sizeLine_eq]; omega), ?_⟩
  refine wpAny_Constant_str ⟨_, _, rfl, (by show ((((Str.empty ++ PySem.Str.ofString "deed ") ++ (toString i : Str)) ++ PySem.Str.ofString " was refused, ")).length ≤ sizeLine; simp only [slen, z0, z1, z2, z3, sizeLine_eq]; omega), ?_⟩
  refine wpAny_FormattedValue_plain (ld hns2 rfl ?_ rfl np1)
  refine wpAny_formatField_int hj ⟨_, _, rfl, (by show (((((Str.empty ++ PySem.Str.ofString "deed ") ++ (toString i : Str)) ++ PySem.Str.ofString " was refused, ") ++ (toString j : Str))).length ≤ sizeLine; simp only [slen, z0, z1, z2, z3, sizeLine_eq]; omega), ?_⟩
  refine wpAny_Constant_str ⟨_, _, rfl, (by show ((((((Str.empty ++ PySem.Str.ofString "deed ") ++ (toString i : Str)) ++ PySem.Str.ofString " was refused, ") ++ (toString j : Str)) ++ PySem.Str.ofString " stand")).length ≤ sizeLine; simp only [slen, z0, z1, z2, z3, sizeLine_eq]; omega), ?_⟩
  refine ⟨(by show ((((((Str.empty ++ PySem.Str.ofString "deed ") ++ (toString i : Str)) ++ PySem.Str.ofString " was refused, ") ++ (toString j : Str)) ++ PySem.Str.ofString " stand")).length ≤ sizeLine; simp only [slen, z0, z1, z2, z3, sizeLine_eq]; omega), ?_⟩
  refine Calls.spliced_nil ⟨hu, ?_⟩
  refine wpAny_call (codeAny_of_tree ?_)
  show wpAny _ _ (callAny (.ref u) ⟨_, []⟩) _ _ _
  simp only [callAny]
  refine wpAny_bind (wpAny_load hu ?_)
  simp only [kxs_mw, show (Value.type "method-wrapper" == Value.type "method" || Value.type "method-wrapper" == Value.type "builtin_function_or_method" || Value.type "method-wrapper" == Value.type "method-wrapper") = true by decide, if_true]
  refine KFB.if_so (by decide) ?_
  refine wpAny_bind (check_bound_init F.excBase_ValueError.toExcCallFacts (X2 _ _ hC) hx2 rfl ?_)
  refine wpAny_bind (wpAny_pure (wpAny_pure ?_))
  refine ⟨plainId_quiet F.excBase_ValueError.init.plain _, codeAny_builtin F.excBase_ValueError.initEntry ?_⟩
  refine exc_init_tree (cls := .ref C) (t0 := t0) (dv := none) (c2 := .none) (c3 := .none) (b4 := .bool false) hx2 (by rw [sizeLine_eq]; show 1 ≤ 16777216; decide) fun h3 k3 e3 _ => ?_
  have k3' : ∀ b o, b ≠ x → h₀.get? b = some o → h3.get? b = some o := fun b o hb e => k3 b o hb (k2' b o e)
  have X3 : K.In h3 := fun b o e => k3' b o (fun z => by
    have := B.kin b o e
    rw [z, hnx] at this
    cases this) (X0 b o e)
  have hns3 : h3.Ns L (fun y => (([("self", Value.ref x), ("number", .int i ti), ("done", .int j tj)] : List (Str × Value)).reverse.lookup y)) := hns.at fun o e => k3' L o hLx e
  show wpAt _ _ _ (execs (_ :: _ :: []) _) _ _ _
  refine ks_wpAt_execs_cons (ks_wpAt_Assign_Attr (wpAt_of_wpAny (ld hns3 rfl (ld hns3 rfl ?_ rfl nx) rfl np0)))
  refine set_plain X3 (ox := excO C h2.objs.size) (od := none) ⟨e3, rfl, rfl, trivial⟩ T.sa ?_
  refine exc_osa X3 e3 hcl (show refsVE (.ref C :: bm) = true from hbm) rfl T.noP0 (fun h4 tk4 dx k4 dn dne hx4 hn4 => ?_)
  have X4 : K.In h4 := fun b o e => k4 b o (fun z => by
    have := B.kin b o e
    rw [z, hnx] at this
    cases this) (X3 b o e)
  have hns4 : h4.Ns L (fun y => (([("self", Value.ref x), ("number", .int i ti), ("done", .int j tj)] : List (Str × Value)).reverse.lookup y)) := hns3.at fun o e => k4 L o hLx e
  have hLd : L ≠ dx := Nat.ne_of_lt (Nat.lt_of_lt_of_le hns3.lt dn)
  have hw4 : Within (fun y => if y = "number" then some (Value.int i ti) else none) ["number"] := fun y hy => by
    by_cases c : y = "number"
    · rw [c]; exact List.mem_singleton.mpr rfl
    · exact absurd (if_neg c) hy
  obtain ⟨oD, _, _, hoD, _, _⟩ := hn4.count hw4
  show wpAt _ _ _ (execs (_ :: []) _) _ _ _
  refine ks_wpAt_execs_cons (ks_wpAt_Assign_Attr (wpAt_of_wpAny (ld hns4 rfl (ld hns4 rfl ?_ rfl nx) rfl np1)))
  refine set_plain X4 (ox := { cls := .ref C, dict := some dx, data := .fields #[.ref h2.objs.size, .none, .none, .none, .bool false, .none] }) (od := some oD) ⟨hx4, rfl, rfl, hoD⟩ T.sa ?_
  refine PySem.OEX.osa_old X4 hx4 hn4 hw4 (by decide) hcl (show refsVE (.ref C :: bm) = true from hbm) rfl T.noP1 (fun h5 tk5 k5 hn5 => ?_)
  show wpAt _ _ _ (execs [] _) _ _ _
  refine wpAt_of_wpAny (wpAny_execs_nil ?_)
  have big : hp.objs.size ≤ dx := by
    have h1 : L < h3.objs.size := hns3.lt
    have h2 : hp.objs.size = L := hL
    exact Nat.le_trans (Nat.le_of_eq h2) (Nat.le_trans (Nat.le_of_lt h1) dn)
  refine hq h5 _ dx ⟨fun b o hb e => k5 b o (fun z => ?_) (k4 b o hb (k3' b o hb (k b o e))), ⟨_, k5 x _ (Ne.symm dne) hx4⟩, big, dne, hn5⟩
  have : b < hp.objs.size := Heap.lt_size e
  rw [z] at this
  exact absurd big (Nat.not_le.mpr this)
end
end XHalted
end PySem
namespace PySem
namespace XHalted
open PySem.W PySem.Calls PyProof.Rows PySem.HandSPX
/-- a made Halted -/
structure OwnMade (h h' : Heap) (e C d : Addr) (v0 v1 : Value) : Prop where
  keep : ∀ b o, h.get? b = some o → h'.get? b = some o
  new : h.objs.size ≤ e
  obj : ∃ oe vs, h'.get? e = some oe ∧ oe.cls = .ref C ∧ oe.dict = some d ∧ oe.data = .fields vs ∧ vs[1]? = some .none ∧ vs[2]? = some .none ∧ 4 < vs.size
  dbig : h.objs.size ≤ d
  dne : d ≠ e
  ns : h'.Ns1 d (fun y => if y = "done" then some v1 else if y = "number" then some v0 else none)
theorem one_size (v0 v1 : Value) : [v0, v1].length ≤ sizeLine := by
  rw [sizeLine_eq]
  exact (by decide : 2 ≤ 16777216)
section
variable {prog : Program} {w : World} {A : Around} {E : Value → Shared → Prop} {R : Result → Shared → Prop} {s : Shared} {K : Frag} {mg : Str → Option Value} {C fI : Addr} {base : Heap}
theorem ex_made (T : ExTxt prog K mg C fI) {i : Int} {ti : Tok} {j : Int} {tj : Tok} (B : L2.Mod K mg base) (kb : ∀ b o, base.get? b = some o → s.heap.get? b = some o) (hi : i.natAbs.log2 < 1920) (hi2 : (toString i : Str).length ≤ 1000) (hj : j.natAbs.log2 < 1920) (hj2 : (toString j : Str).length ≤ 1000) (hroom : A.depth + 1 < recursionLimit)
    (hq : ∀ h' tk e d, OwnMade s.heap h' e C d (.int i ti) (.int j tj) → R (.ok (.ret (.ref e))) { s with heap := h', toks := tk }) :
    codeAny (model prog w) A (.call (.ref C) ⟨[.int i ti, .int j tj], []⟩) R s := by
  obtain ⟨nm, q, N, bs, bm, sn, sub, ab, col, dd, k0, k1, k2, k3, k5, hC, hbm⟩ := T.cls
  have X : K.In s.heap := B.kin.keeps kb
  obtain ⟨hp, g, dr, tk, os⟩ := s
  have k : ∀ b o, hp.get? b = some o → ((hp.push (kdv_tup [.int i ti, .int j tj])).push (excO C hp.objs.size)).get? b = some o := fun b o e => Heap.get?_push_of_some _ (Heap.get?_push_of_some _ e)
  have hget : ((hp.push (kdv_tup [.int i ti, .int j tj])).push (excO C hp.objs.size)).get? (hp.objs.size + 1) = some (excO C hp.objs.size) := by heap_get
  have hnx : base.get? (hp.objs.size + 1) = none := by
    cases e : base.get? (hp.objs.size + 1) with
    | none => rfl
    | some o =>
      have z : hp.get? (hp.objs.size + 1) = some o := kb _ _ e
      exact absurd (Nat.lt_of_succ_lt (Heap.lt_size z)) (Nat.lt_irrefl _)
  refine call_own F.excBase_ValueError (fun X => refsVE_contains X bm hbm) (X _ _ hC) (looks_findIn X T.iC) (fun self => bind_fn X self T.tC) (one_size (.int i ti) (.int j tj)) ?_
  refine ex_init (s := ⟨(hp.push (kdv_tup [.int i ti, .int j tj])).push (excO C hp.objs.size), g, dr, tk, os⟩) T B (fun b o e => k b o (kb b o e)) hget hnx hi hi2 hj hj2 ?_ fun h' tk' dx ⟨k', ⟨t1, hx⟩, dn, dne, hns⟩ => ?_
  · show A.depth + 1 < recursionLimit
    exact hroom
  · have old : ∀ b o, hp.get? b = some o → h'.get? b = some o := fun b o e => k' b o (Nat.ne_of_lt (Nat.lt_succ_of_lt (Heap.lt_size e))) (k b o e)
    have z : hp.objs.size + 1 + 1 ≤ dx := by
      first
        | (simpa only [Heap.size_push] using dn)
        | exact dn
        | (have q := dn; rw [Heap.size_push, Heap.size_push] at q; exact q)
    exact ⟨rfl, hq h' tk' (hp.objs.size + 1) dx ⟨old, Nat.le_succ _, ⟨_, _, hx, rfl, rfl, rfl, rfl, rfl, by show 4 < 6; decide⟩, Nat.le_trans (Nat.le_trans (Nat.le_succ _) (Nat.le_succ _)) z, dne, hns⟩⟩
end
end XHalted
end PySem
namespace Say
open PySem PySem.Spec PyProof.Rows L2
theorem rel_Halted {i j : Int} {ti tj : Tok} (f : Str) : RelO (List.lookup f ([(("done" : Str), .int j), (("number" : Str), .int i)] : List (Str × V))) (if f = "done" then some (Value.int j tj) else if f = "number" then some (Value.int i ti) else none) := by
  refine relO_put (f := "done") (mA := fun f => if f = "number" then some (Value.int i ti) else none) (y := .int j) (u := .int j tj) (fs := [(("number" : Str), .int i)]) ⟨_, rfl⟩ (fun g => ?_) f
  exact relO_put (f := "number") (mA := fun _ => none) (y := .int i) (u := .int i ti) (fs := []) ⟨_, rfl⟩ (fun _ => True.intro) g
section
variable {X : Cx} {C fI : Addr}
/-- Halted(e) -/
def tMkHalted (C : Addr) (ta : TA) : L2.St → Hp → XK → Prop := fun σ H Q => ta σ H fun vs H1 => ∃ i j : Int, vs = [.int i, .int j] ∧ (-1 ≤ i ∧ i ≤ 100) ∧ (-1 ≤ j ∧ j ≤ 100) ∧ ∀ d, H1 d = none → Q (.ref C) (some d) (upd H1 d (.xd [(("done" : Str), .int j), (("number" : Str), .int i)]))
theorem small_Halted {i : Int} (h : -1 ≤ i ∧ i ≤ 100) : i.natAbs.log2 < 1920 ∧ (toString i : Str).length ≤ 1000 := by
  have key : ∀ q : Fin 102, ((q.1 : Int) - 1).natAbs.log2 < 1920 ∧ (toString ((q.1 : Int) - 1) : Str).length ≤ 1000 := by decide +kernel
  have e : i = (((i + 1).toNat : Nat) : Int) - 1 := by omega
  rw [e]
  exact key ⟨(i + 1).toNat, by omega⟩
theorem pmk5_Halted {a b : Expr} {ta : TA} {p pos : Pos} {k : Nat} (T : PySem.XHalted.ExTxt X.prog X.K X.mg C fI) (hr : L2H.RoomH k X.A) (ha : PA X [a, b] ta) (hg : Gl X "Halted" := by rfl)
    (he : starEach (a :: [b]) X.env = (false, eval a X.env) :: starEach [b] X.env := by rfl) (hpl : (backTo pos (starEach [b] X.env)).any (·.1) = false := by rfl) :
    L2H.PMk5 X (.Call (.Name "Halted" p) [a, b] [] pos) (tMkHalted C ta) := by
  intro pins s σ H Q I h
  unfold tMkHalted at h
  refine wpAny_Call_Name_kw (ld_glob I hg T.gC ?_)
  refine PySem.W.callWith_K (h₀ := X.base) I.ok.mod.kin T.kC (thn (ha.run pos pins s σ H _ I h) fun us s1 hh => ?_) he hpl
  obtain ⟨vs, H1, I1, r1, i, j, ev, ni, nj, q1⟩ := hh
  subst ev
  refine ⟨I1.kIn, ?_⟩
  obtain ⟨v', u', rfl, rv, ru⟩ := vals2 r1
  obtain ⟨ti, rfl⟩ := rv
  obtain ⟨tj, rfl⟩ := ru
  show wpAny _ _ (call (.ref C) [.int i ti, .int j tj]) _ _ _
  have b1 := I1.mod
  have b2 := I1.bk
  obtain ⟨hp, g, dr, tk, os⟩ := s1
  refine wpAny_call (PySem.XHalted.ex_made T b1 b2 (small_Halted ni).1 (small_Halted ni).2 (small_Halted nj).1 (small_Halted nj).2 (by have := hr.dp; omega) fun h' tk' e d M => ?_)
  show L2N.MkP X pins σ Q (.ref e) ⟨h', g, dr, tk', os⟩ ∧ L2H.Six (.ref e) ⟨h', g, dr, tk', os⟩
  obtain ⟨oe, fv, hoe, hc, hd, hdat, h1, h2, h5⟩ := M.obj
  have hns := M.ns
  obtain ⟨G', g1, g2⟩ := restrict h' fun b => decide (b ≠ e)
  have gk : ∀ b, b ≠ e → G'.get? b = h'.get? b := fun b hb => g1 b (decide_eq_true hb)
  have ge : G'.get? e = none := g2 e (by simp)
  have old : ∀ b o, hp.get? b = some o → G'.get? b = some o := fun b o q => (gk b (Nat.ne_of_lt (Nat.lt_of_lt_of_le (Heap.lt_size q) M.new))).trans (M.keep b o q)
  have ob : ObjOk X.prog X.w (upd H1 d (.xd [(("done" : Str), .int j), (("number" : Str), .int i)])) G' d (.xd [(("done" : Str), .int j), (("number" : Str), .int i)]) :=
    ⟨_, hns.at (fun o q => (gk d M.dne).trans q), fun f => rel_Halted f⟩
  have J : Inv X pins σ (upd H1 d (.xd [(("done" : Str), .int j), (("number" : Str), .int i)])) ⟨G', g, dr, tk', os⟩ := I1.laid (t' := tk') old M.dbig ob
  refine ⟨⟨e, oe, fv, ⟨G', g, dr, tk', os⟩, _, .ref C, some d, rfl, J, fun b o q => ?_, ge, hoe, ⟨hc, hd, fun ws z => by rw [hdat] at z; cases z; exact h2⟩, hdat, h1, ?_, rfl, I1.bare, raises_own T.exC T.tyC, q1 d (I1.hok.fresh M.dbig)⟩, fun a oe2 ws ea hg hd2 => ?_⟩
  · by_cases hb : b = e
    · have q' : G'.get? b = some o := q
      rw [hb, ge] at q'; cases q'
    · exact (gk b hb).symm.trans q
  · rw [upd_ne (Ne.symm M.dne)]
    exact I1.hok.fresh M.new
  · cases ea
    have hg2 : h'.get? e = some oe2 := hg
    rw [hoe] at hg2
    cases hg2
    rw [hdat] at hd2
    cases hd2
    exact h5
theorem pmk_Halted {a b : Expr} {ta : TA} {p pos : Pos} {k : Nat} (T : PySem.XHalted.ExTxt X.prog X.K X.mg C fI) (hr : Room k X.A) (ha : PA X [a, b] ta) (hg : Gl X "Halted" := by rfl)
    (he : starEach (a :: [b]) X.env = (false, eval a X.env) :: starEach [b] X.env := by rfl) (hpl : (backTo pos (starEach [b] X.env)).any (·.1) = false := by rfl) :
    PMk X (.Call (.Name "Halted" p) [a, b] [] pos) (tMkHalted C ta) := fun pins s σ H Q I h => thn (pmk5_Halted T (L2H.roomH_of hr) ha hg he hpl pins s σ H Q I h) fun u s1 ⟨⟨e, oe, vs, sI, H', cls, d, e1, J, k, hne, ha, hz, hd, h1, na, os, ag, r, q⟩, _⟩ => ⟨e, oe, vs, sI, H', cls, d, e1, J, k, hne, ha, hz.zc, hd, h1, na, os, ag, r, q⟩
/-- raise Halted(e) -/
def tRaiseHalted (C : Addr) (W : WX) (ta : TA) : TS := fun _ σ H => tMkHalted C ta σ H fun cls d H' => W cls d σ H'
theorem ps_raiseHalted {a b : Expr} {ta : TA} {W : WX} {p pos pos2 : Pos} {k : Nat} (hc : X.calm = true) (T : PySem.XHalted.ExTxt X.prog X.K X.mg C fI) (hr : Room k X.A) (tk : Takes X W) (ha : PA X [a, b] ta) (hg : Gl X "Halted" := by rfl)
    (he : starEach (a :: [b]) X.env = (false, eval a X.env) :: starEach [b] X.env := by rfl) (hpl : (backTo pos (starEach [b] X.env)).any (·.1) = false := by rfl) :
    PS X (.Raise (some (.Call (.Name "Halted" p) [a, b] [] pos)) none pos2) (tRaiseHalted C W ta) := ps_raise hc tk (pmk_Halted T hr ha hg he hpl)
theorem ps_raiseHaltedN {a b : Expr} {ta : TA} {W : WX} {p pos pos2 : Pos} {k : Nat} (hc : X.calm = true) (T : PySem.XHalted.ExTxt X.prog X.K X.mg C fI) (hr : Room k X.A) (tk : L2N.Takes X W) (ha : PA X [a, b] ta) (hg : Gl X "Halted" := by rfl)
    (he : starEach (a :: [b]) X.env = (false, eval a X.env) :: starEach [b] X.env := by rfl) (hpl : (backTo pos (starEach [b] X.env)).any (·.1) = false := by rfl) :
    PS X (.Raise (some (.Call (.Name "Halted" p) [a, b] [] pos)) none pos2) (tRaiseHalted C W ta) := L2N.ps_raise hc tk (pmk5_Halted T (L2H.roomH_of hr) ha hg he hpl).pmk
end
end Say
namespace Say
open PySem PySem.Spec PyProof.Rows L2
section
variable {P : Program} {w : World} {K : PySem.W.Frag} {mg : Str → Option Value} {base : Heap}
theorem scDTo : FnScope ["self"] ["self"] (defScope (sDk 9)) := ⟨rfl, rfl, rfl, by decide +kernel, rfl, by decide +kernel, by decide +kernel⟩
def spDTo (C : Addr) : Sp := fun vs H Q _ => ∃ (y dx b t : Addr) (i : Bool) (ws : List Str), vs = [.ref y] ∧ H y = some (.ins C dx (fldD b t i)) ∧ H t = some (.lst (wordsV ws)) ∧
  ∀ (p : Addr) (H' : Hp), H p = none → Same H H' → H' p = some (.lst (wordsV ws)) → Q (.ref p) H'
theorem ok_dTo {f C : Addr} {fd : FuncData} {k : Nat} (F : Fun K "told" "Desk.told" (sDk 9) f fd) (S : DkC K C) (B : Bn mg) : FnOk P w K mg base CX0 (k + 1) f fd ["self"] (spDTo C) := by
  refine F.ok scDTo (fun vs H Q E h => ?_) (fun cdv A outer s H vs Q E hr h => ?_)
  · obtain ⟨y, dx, b, t, i, ws, rfl, _⟩ := h
    rfl
  · obtain ⟨y, dx, b, t, i, ws, rfl, h1, h2, q⟩ := h
    refine ⟨_, pss_one (ps_ret (pe_callTy call_list_of (by rfl) B.lst (by decide +kernel) (pa_cons (pe_fld (pv 0) rfl) pa_nil))), ?_⟩
    exact ⟨_, rfl, y, C, dx, _, _, rfl, h1, S.cl, S.nT, d_to, t, _, rfl, .inl (.inl (.inl h2)), fun p hp => q p _ hp (same_new hp _) upd_same⟩
theorem scDId : FnScope ["self"] ["self"] (defScope (sDk 10)) := ⟨rfl, rfl, rfl, by decide +kernel, rfl, by decide +kernel, by decide +kernel⟩
def spDId (C : Addr) : Sp := fun vs H Q _ => ∃ (y dx b t : Addr) (i : Bool), vs = [.ref y] ∧ H y = some (.ins C dx (fldD b t i)) ∧ Q (.bl i) H
theorem ok_dId {f C : Addr} {fd : FuncData} {k : Nat} (F : Fun K "is_idle" "Desk.is_idle" (sDk 10) f fd) (S : DkC K C) : FnOk P w K mg base CX0 (k + 1) f fd ["self"] (spDId C) := by
  refine F.ok scDId (fun vs H Q E h => ?_) (fun cdv A outer s H vs Q E hr h => ?_)
  · obtain ⟨y, dx, b, t, i, rfl, _⟩ := h
    rfl
  · obtain ⟨y, dx, b, t, i, rfl, h1, q⟩ := h
    refine ⟨_, pss_one (ps_ret (pe_fld (pv 0) rfl)), ?_⟩
    exact ⟨_, rfl, y, C, dx, _, _, rfl, h1, S.cl, S.nI, d_id, q⟩
end
end Say
namespace Say
open PySem PySem.Spec PyProof.Rows L2
/-- all stays but instances and tables -/
def KyX (H H' : Hp) : Prop := ∀ b o, H b = some o → (∀ C dx fs, o ≠ .ins C dx fs) → (∀ ps, o ≠ .tbl ps) → H' b = some o
theorem KyX.of {H H' : Hp} (s : Same H H') : KyX H H' := fun b o h _ _ => s b o h
theorem KyX.ext {H H' : Hp} (e : LamX.ExtN H H') : KyX H H' := fun b o h _ n => e b o h n
theorem KyX.trans {H H1 H2 : Hp} (a : KyX H H1) (b : KyX H1 H2) : KyX H H2 := fun c o h n m => b c o (a c o h n m) n m
theorem KyX.kt {H H' : Hp} (a : KyX H H') : KT H H' := KT.by fun t u h hu => a t u h (by rcases hu with ⟨_, rfl⟩ | ⟨_, _, rfl⟩ <;> (intro _ _ _ z; cases z)) (by rcases hu with ⟨_, rfl⟩ | ⟨_, _, rfl⟩ <;> (intro _ z; cases z))
theorem FnOk.up {P : Program} {w : World} {K : PySem.W.Frag} {mg : Str → Option Value} {base : Heap} {CX : CXT} {k m : Nat} {f : Addr} {fd : FuncData} {ps : List Str} {s1 : Sp} (a : FnOk P w K mg base CX k f fd ps s1) (h : k ≤ m) : FnOk P w K mg base CX m f fd ps s1 :=
  ⟨a.len, fun A outer s H args us vs Q E hr e hb hv hh => a.run A outer s H args us vs Q E (hr.mono h) e hb hv hh⟩
/-- a method whose exceptions are wished with the slots -/
def tMethW (C : Addr) (m : Str) (sp : Sp) (E : L2.St → XK) (ta : TE) (t : TA) : TE := fun σ H Q => ta σ H fun x H1 => ∃ a dx fs, x = .ref a ∧ H1 a = some (.ins C dx fs) ∧ fs.lookup m = none ∧
  t σ H1 fun vs H2 => sp (x :: vs) H2 Q (E σ)
theorem pe_methW {X : Cx} {CX : CXT} {k : Nat} {f C : Addr} {fd : FuncData} {ps : List Str} {sp : Sp} {E : L2.St → XK} {m : Str} {pos apos : Pos} {e o : Expr} {es : List Expr} {ta : TE} {t : TA} {pl : Sem Bool} (he : PE X o ta) (c : Cls X.K C) (hm : Meth X.K C m f) (F : FnOk X.prog X.w X.K X.mg X.base CX k f fd ps sp) (hr : Room k X.A) (hb : Binds X.K fd ps [])
    (hx : ∀ σ, PassesAt CX X σ (E σ)) (ha : PA X (e :: es) t)
    (hst : starEach (e :: es) X.env = (false, eval e X.env) :: starEach es X.env := by rfl) (hpl : (backTo pos (starEach es X.env)).any (·.1) = false := by rfl)
    (ht : eval (.Call (.Attribute o m apos) (e :: es) [] pos) X.env = (do
      let q ← eval o X.env
      standAt apos.atName
      let (g, first) ← holding [q] (getMethod q m pl)
      callWith pos g first (backTo pos (starEach (e :: es) X.env)) (backToKw pos (keywordEach [] X.env))) := by rfl) :
    PE X (.Call (.Attribute o m apos) (e :: es) [] pos) (tMethW C m sp E ta t) := by
  refine ⟨fun pins s σ H Q I h => ?_⟩
  refine PySem.W.methodCall_KW (pl := pl) (thn (he.run pins s σ H _ I h) fun u s1 ⟨x, H1, I1, rx, a, dx, fs, ex, ea, l, q⟩ => ?_) ht
  subst ex
  obtain rfl : u = Value.ref a := rx
  refine getmeth_ok I1 ea c hm l ?_
  refine PySem.W.callWith_K (first := [.ref a]) (h₀ := X.base) I.ok.mod.kin hm.kp (thn (ha.run pos pins s1 σ H1 _ I1 q) fun us s2 ⟨vs, H2, I2, r, q2⟩ => ⟨I2.kIn, ?_⟩) hst hpl
  exact run_fnS (us := .ref a :: us) (vs := .ref a :: vs) F hr hb (hx σ) I2 (.cons rfl r) q2
/-- what a deed gives -/
def okM : Res → Bool
  | .non k => k == ""
  | .book _ _ => false
  | _ => true
def ValAt (H : Hp) (v : V) : Res → Prop
  | .rule ρ => ∃ a, v = .ref a ∧ H a = some (.tup ρ.vs)
  | .text s => v = .str (T s)
  | .bl b => v = .bl b
  | _ => v = .non
section
variable {P : Program} {w : World} {K : PySem.W.Frag} {mg : Str → Option Value} {base : Heap}
def spPuA (K : PySem.W.Frag) (C CC CB : Addr) : Sp := fun vs H Q E => (spPuG C vs H Q E ∨ spPuR K C CC CB vs H Q E) ∨ spPu12 C CB vs H Q E
def spDrA (C CC : Addr) : Sp := fun vs H Q E => spDrG C vs H Q E ∨ spDrR C CC vs H Q E
def spMvA (C CC : Addr) : Sp := fun vs H Q E => spMvG C vs H Q E ∨ spMvR C CC vs H Q E
def spLnA (K : PySem.W.Frag) (C CB CW CS : Addr) : Sp := fun vs H Q E => spLnG C CB vs H Q E ∨ spLnR K C CW CS vs H Q E
def spFgA (K : PySem.W.Frag) (C CN : Addr) : Sp := fun vs H Q E => spFgG C vs H Q E ∨ spFgR K C CN vs H Q E
theorem up_nd {es : List Exc} (up : es.Pairwise fun e f => e.1 < f.1) : (es.map (·.1)).Nodup := List.pairwise_map.mpr (up.imp fun {e f} h z => by rw [z] at h; exact List.lt_irrefl _ h)
theorem find_in {es : List Exc} (nd : (es.map (·.1)).Nodup) {e : Exc} {w : List Nat} (he : e ∈ es) (hw : e.1 = w) : es.find? (fun e => decide (e.1 = w)) = some e := by
  induction es with
  | nil => cases he
  | cons x r ih =>
    rw [List.map_cons, List.nodup_cons] at nd
    by_cases c : x.1 = w
    · rw [List.find?_cons_of_pos (by exact decide_eq_true c)]
      rcases List.mem_cons.mp he with rfl | he
      · rfl
      · exact absurd (List.mem_map.mpr ⟨e, he, hw.trans c.symm⟩) nd.1
    · rw [List.find?_cons_of_neg (by simpa using c)]
      rcases List.mem_cons.mp he with rfl | he
      · exact absurd hw c
      · exact ih nd.2 he
theorem cnt_yes {p n : Nat} (h : p ≤ n) : cntV (.int (p : Nat)) (n : Nat) = true := by
  unfold cntV
  rw [Bool.and_eq_true, decide_eq_true_eq, decide_eq_true_eq]
  exact ⟨by omega, by omega⟩
theorem cnt_no {p : Nat} {n : Int} (h : n < p) : cntV (.int (p : Nat)) n = false := by
  unfold cntV
  rw [Bool.and_eq_false_iff, decide_eq_false_iff_not, decide_eq_false_iff_not]
  exact .inr (by omega)
abbrev nDn : List Str := ["self", "deed", "place", "rule", "other", "word", "sounds"]
theorem scDn : FnScope nDn ["self", "deed"] (defScope (sDk 12)) := ⟨rfl, rfl, rfl, by decide +kernel, rfl, by decide +kernel, by decide +kernel⟩
/-- _done -/
def spDn (C CC CB CS CN : Addr) : Sp := fun vs H Q E => ∃ (y dt b t : Addr) (L : List Nat) (rs : List Rule) (es : List Exc) (ws : List Str) (i : Bool) (d : Deed), vs = [.ref y, .ref dt] ∧ DkAt C H y b t L rs es ws i ∧ BookOk L rs es ∧ DeedAt H dt d ∧ DeedOk L rs.length d ∧
  (okM (resM rs es d) = true → ∀ (v : V) (b' : Addr) (es' : List Exc) (H' : Hp), ValAt H' v (resM rs es d) → es'.Perm (esM rs es d) → (es'.Pairwise fun e f => e.1 < f.1) → Kd y t H H' → DkAt C H' y b' t L (rsM rs d) es' ws i → Q v H') ∧
  (okM (resM rs es d) = false → ∀ (c : Addr) (x : Option Addr) (H' : Hp), c ∈ [CC, CB, CS, CN] → Same H H' → E (.ref c) x H')
theorem ok_Dn {f C CC CB CW CS CN fPu fDr fMv fLn fFg : Addr} {fd fdPu fdDr fdMv fdLn fdFg : FuncData} (F : Fun K "_done" "Desk._done" (sDk 12) f fd) (S : DkC K C)
    (GPu : FnOk P w K mg base (L2N.CX P w) 7 fPu fdPu ["self", "place", "rule"] (spPuA K C CC CB)) (mPu : Meth K C "put" fPu) (bPu : Binds K fdPu ["self", "place", "rule"] [])
    (GDr : FnOk P w K mg base (L2N.CX P w) 7 fDr fdDr ["self", "place"] (spDrA C CC)) (mDr : Meth K C "drop" fDr) (bDr : Binds K fdDr ["self", "place"] [])
    (GMv : FnOk P w K mg base (L2N.CX P w) 7 fMv fdMv ["self", "place", "other"] (spMvA C CC)) (mMv : Meth K C "move" fMv) (bMv : Binds K fdMv ["self", "place", "other"] [])
    (GLn : FnOk P w K mg base (L2N.CX P w) 7 fLn fdLn ["self", "word", "sounds"] (spLnA K C CB CW CS)) (mLn : Meth K C "learn" fLn) (bLn : Binds K fdLn ["self", "word", "sounds"] [])
    (GFg : FnOk P w K mg base (L2N.CX P w) 7 fFg fdFg ["self", "word"] (spFgA K C CN)) (mFg : Meth K C "forget" fFg) (bFg : Binds K fdFg ["self", "word"] []) :
    FnOk P w K mg base (L2N.CX P w) 8 f fd ["self", "deed"] (spDn C CC CB CS CN) := by
  refine F.okN scDn (fun vs H Q E h => ?_) (fun cdv A outer s H vs Q E hr h => ?_)
  · obtain ⟨y, dt, b, t, L, rs, es, ws, i, d, rfl, _⟩ := h
    rfl
  · obtain ⟨y, dt, b, t, L, rs, es, ws, i, d, rfl, hk, ho, hd, dok, q, qE⟩ := h
    have tk : L2N.Takes _ (fun cls d _ H => E cls d H) := L2N.takes_of (X := cxOf (L2N.CX P w) P w K mg base nDn "Desk._done" (defScope (sDk 12)) f cdv A outer s H E) rfl rfl rfl rfl
    have r12 := ho.r12
    refine ⟨_, pss_one (ps_match (pv 1) (pmc_2 (z := "put") (x1 := "place") (x2 := "rule") (i1 := 2) (i2 := 3) rfl scDn.nd rfl (.inl rfl) (.inr rfl) rfl (.inl rfl) (.inr rfl) (pss_one (ps_ret (pe_methW (E := fun _ => E) (pv 0) S.cl mPu GPu hr bPu (fun σ => L2N.passAt tk σ) (pa_cons (pv 2) (pa_cons (pv 3) pa_nil))))) (pmc_1 (z := "drop") (x1 := "place") (i1 := 2) rfl scDn.nd rfl (.inl rfl) (.inr rfl) (pss_one (ps_ret (pe_methW (E := fun _ => E) (pv 0) S.cl mDr GDr hr bDr (fun σ => L2N.passAt tk σ) (pa_cons (pv 2) pa_nil)))) (pmc_2 (z := "move") (x1 := "place") (x2 := "other") (i1 := 2) (i2 := 4) rfl scDn.nd rfl (.inl rfl) (.inr rfl) rfl (.inl rfl) (.inr rfl) (pss_one (ps_ret (pe_methW (E := fun _ => E) (pv 0) S.cl mMv GMv hr bMv (fun σ => L2N.passAt tk σ) (pa_cons (pv 2) (pa_cons (pv 4) pa_nil))))) (pmc_2 (z := "learn") (x1 := "word") (x2 := "sounds") (i1 := 5) (i2 := 6) rfl scDn.nd rfl (.inl rfl) (.inr rfl) rfl (.inl rfl) (.inr rfl) (pss_one (ps_ret (pe_methW (E := fun _ => E) (pv 0) S.cl mLn GLn hr bLn (fun σ => L2N.passAt tk σ) (pa_cons (pv 5) (pa_cons (pv 6) pa_nil))))) (pmc_1 (z := "forget") (x1 := "word") (i1 := 5) rfl scDn.nd rfl (.inl rfl) (.inr rfl) (pss_one (ps_ret (pe_methW (E := fun _ => E) (pv 0) S.cl mFg GFg hr bFg (fun σ => L2N.passAt tk σ) (pa_cons (pv 5) pa_nil)))) pmc_nil)))))), ?_⟩
    obtain ⟨⟨dx, hy⟩, _, hto⟩ := id hk
    have gd := fun {v : V} (b' : Addr) (es' : List Exc) (H2 : Hp) (h0 : okM (resM rs es d) = true) (hv : ValAt H2 v (resM rs es d)) (pm : es'.Perm (esM rs es d)) (st : es'.Pairwise fun e f => e.1 < f.1) (kd : Kd y t H H2) (hk2 : DkAt C H2 y b' t L (rsM rs d) es' ws i) => q h0 v b' es' H2 hv pm st kd hk2
    refine ⟨.ref dt, rfl, ?_⟩
    cases d with
    | put p ρ =>
      obtain ⟨a, hd, ha⟩ := hd
      refine ⟨dt, _, _, rfl, .inl (.inl hd), fun x1 x2 e _ => ?_, fun hn => absurd hn (by simp)⟩
      cases e
      refine ⟨.ref y, rfl, y, dx, _, rfl, hy, rfl, .int p, rfl, .ref a, rfl, ?_⟩
      by_cases c : rs.length < p
      · have eR : resM rs es (.put p ρ) = .non "count" := if_pos c
        exact .inl (.inr ⟨y, b, t, L, rs, es, ws, i, .int p, .ref a, rfl, hk, ho, .inr (.inl ⟨_, rfl⟩), fun _ H' s' => qE (by rw [eR]; decide +kernel) CC none H' (by simp) s', fun z e c' => by cases e; rw [cnt_no (by omega)] at c'; cases c'⟩)
      by_cases c12 : rs.length = 12
      · have eR : resM rs es (.put p ρ) = .book 1 p := (if_neg c).trans (if_pos c12)
        exact .inr ⟨y, b, t, L, rs, es, ws, i, p, .ref a, rfl, hk, ho, by omega, c12, fun d' H' s' _ _ => qE (by rw [eR]; rfl) CB (some d') H' (by simp) s'⟩
      · have eR : rsM rs (.put p ρ) = rs.take p ++ [ρ] ++ rs.drop p := (if_neg c).trans (if_neg c12)
        have eV : resM rs es (.put p ρ) = .non "" := (if_neg c).trans (if_neg c12)
        exact .inl (.inl ⟨y, b, t, L, rs, es, ws, i, p, a, ρ, rfl, hk, ho, by omega, by omega, dok.2, ha, fun b' H2 kd hk2 => gd b' es H2 (by rw [eV]; decide +kernel) (by rw [eV]; rfl) (List.Perm.refl _) ho.up kd (by rw [eR]; exact hk2)⟩)
    | drop p =>
      refine ⟨dt, _, _, rfl, .inl (.inl hd), fun _ _ e _ => (nomatch e), fun _ => ?_⟩
      refine ⟨dt, _, _, rfl, .inl (.inl hd), fun x1 e _ => ?_, fun hn => absurd hn (by simp)⟩
      cases e
      refine ⟨.ref y, rfl, y, dx, _, rfl, hy, rfl, .int p, rfl, ?_⟩
      by_cases c : p < rs.length
      · have eR : rsM rs (.drop p) = rs.take p ++ rs.drop (p + 1) := if_pos c
        refine .inl ⟨y, b, t, L, rs, es, ws, i, p, rfl, hk, ho, c, fun b' r ρ H2 hρ hr' kd hk2 => ?_⟩
        have eV : resM rs es (.drop p) = .rule ρ := by
          show (match rs[p]? with | some ρ => Res.rule ρ | none => .non "count") = _
          rw [hρ]
        exact gd b' es H2 (by rw [eV]; rfl) (by rw [eV]; exact ⟨r, rfl, hr'⟩) (List.Perm.refl _) ho.up kd (by rw [eR]; exact hk2)
      · have eV : resM rs es (.drop p) = .non "count" := by
          show (match rs[p]? with | some ρ => Res.rule ρ | none => .non "count") = _
          rw [List.getElem?_eq_none (by omega)]
        exact .inr ⟨y, b, t, L, rs, es, ws, i, .int p, rfl, hk, .inr (.inl ⟨_, rfl⟩), cnt_no (by omega), qE (by rw [eV]; decide +kernel) CC none H (by simp) (Same.refl H)⟩
    | move p q2 =>
      refine ⟨dt, _, _, rfl, .inl (.inl hd), fun _ _ _ e => absurd e (by decide +kernel), fun _ => ?_⟩
      refine ⟨dt, _, _, rfl, .inl (.inl hd), fun _ e _ => (nomatch e), fun _ => ?_⟩
      refine ⟨dt, _, _, rfl, .inl (.inl hd), fun x1 x2 e _ => ?_, fun hn => absurd hn (by simp)⟩
      cases e
      refine ⟨.ref y, rfl, y, dx, _, rfl, hy, rfl, .int p, rfl, .int q2, rfl, ?_⟩
      by_cases c : p < rs.length ∧ q2 < rs.length
      · refine .inl ⟨y, b, t, L, rs, es, ws, i, p, q2, rfl, hk, ho, c.1, c.2, fun b' ρ H2 hρ kd hk2 => ?_⟩
        have eR : rsM rs (.move p q2) = (rs.take p ++ rs.drop (p + 1)).take q2 ++ [ρ] ++ (rs.take p ++ rs.drop (p + 1)).drop q2 := by
          show (if p < rs.length ∧ q2 < rs.length then moveL rs p q2 else rs) = _
          rw [if_pos c]
          unfold moveL
          rw [hρ]
        have eV : resM rs es (.move p q2) = .non "" := if_pos c
        exact gd b' es H2 (by rw [eV]; decide +kernel) (by rw [eV]; rfl) (List.Perm.refl _) ho.up kd (by rw [eR]; exact hk2)
      · have eV : resM rs es (.move p q2) = .non "count" := if_neg c
        refine .inr ⟨y, b, t, L, rs, es, ws, i, .int p, .int q2, rfl, hk, .inr (.inl ⟨_, rfl⟩), .inr (.inl ⟨_, rfl⟩), ?_, qE (by rw [eV]; decide +kernel) CC none H (by simp) (Same.refl H)⟩
        by_cases c1 : p < rs.length
        · exact .inr (cnt_no (by omega))
        · exact .inl (cnt_no (by omega))
    | learn wd so =>
      obtain ⟨dw, ds, d3⟩ := dok
      refine ⟨dt, _, _, rfl, .inl (.inl hd), fun _ _ _ e => absurd e (by decide +kernel), fun _ => ?_⟩
      refine ⟨dt, _, _, rfl, .inl (.inl hd), fun _ e _ => (nomatch e), fun _ => ?_⟩
      refine ⟨dt, _, _, rfl, .inl (.inl hd), fun _ _ _ e => absurd e (by decide +kernel), fun _ => ?_⟩
      refine ⟨dt, _, _, rfl, .inl (.inl hd), fun x1 x2 e _ => ?_, fun hn => absurd hn (by simp)⟩
      cases e
      refine ⟨.ref y, rfl, y, dx, _, rfl, hy, rfl, .str (T wd), rfl, .str (T so), rfl, ?_⟩
      refine .inl ⟨y, b, t, L, rs, es, ws, i, wd, so, rfl, hk, ho, ⟨dw.c, dw.l1, dw.l8, ds, (by show so.length ≤ 36; omega)⟩, fun c b' H2 kd hk2 => ?_, fun c c8 => ?_, fun c c8 b' es' H2 pm st kd hk2 => ?_⟩
      · have eE : esM rs es (.learn wd so) = dropW es wd := if_pos c
        have eV : resM rs es (.learn wd so) = .bl false := if_pos c
        exact gd b' (dropW es wd) H2 (by rw [eV]; rfl) (by rw [eV]; rfl) (by rw [eE]) (ho.up.filter _) kd hk2
      · have eV : resM rs es (.learn wd so) = .book 2 8 := (if_neg c).trans (if_pos c8)
        exact fun d' H' s' _ _ => qE (by rw [eV]; rfl) CB (some d') H' (by simp) s'
      · have eE : esM rs es (.learn wd so) = dropW es wd ++ [(wd, so)] := (if_neg c).trans (if_neg (by omega))
        have eV : resM rs es (.learn wd so) = .bl true := (if_neg c).trans (if_neg (by omega))
        exact gd b' es' H2 (by rw [eV]; rfl) (by rw [eV]; rfl) (by rw [eE]; exact pm) st kd hk2
    | learnN wd =>
      refine ⟨dt, _, _, rfl, .inl (.inl hd), fun _ _ _ e => absurd e (by decide +kernel), fun _ => ?_⟩
      refine ⟨dt, _, _, rfl, .inl (.inl hd), fun _ e _ => (nomatch e), fun _ => ?_⟩
      refine ⟨dt, _, _, rfl, .inl (.inl hd), fun _ _ _ e => absurd e (by decide +kernel), fun _ => ?_⟩
      refine ⟨dt, _, _, rfl, .inl (.inl hd), fun x1 x2 e _ => ?_, fun hn => absurd hn (by simp)⟩
      cases e
      refine ⟨.ref y, rfl, y, dx, _, rfl, hy, rfl, .str (T wd), rfl, .non, rfl, ?_⟩
      have dw : WordOk L wd := dok
      have tw : txV (.str (T wd)) L 1 8 = true := isText_of dw.l1 dw.l8 dw.c
      exact .inr ⟨y, b, t, L, rs, es, ws, i, .str (T wd), .non, rfl, hk, .inl ⟨wd, rfl, by have := dw.l8; omega⟩, .inr (.inl rfl), (fun c => by rw [tw] at c; cases c), fun _ => ⟨rfl, fun H' s' => qE (by show (("sounds" : Str) == "") = false; decide +kernel) CS none H' (by simp) s'⟩⟩
    | forget wd =>
      have dw : WordOk L wd := dok
      refine ⟨dt, _, _, rfl, .inl (.inl hd), fun _ _ e _ => (nomatch e), fun _ => ?_⟩
      refine ⟨dt, _, _, rfl, .inl (.inl hd), fun _ _ e => absurd e (by decide +kernel), fun _ => ?_⟩
      refine ⟨dt, _, _, rfl, .inl (.inl hd), fun _ _ e _ => (nomatch e), fun _ => ?_⟩
      refine ⟨dt, _, _, rfl, .inl (.inl hd), fun _ _ e _ => (nomatch e), fun _ => ?_⟩
      refine ⟨dt, _, _, rfl, .inl (.inl hd), fun x1 e _ => ?_, fun hn => absurd hn (by simp)⟩
      cases e
      refine ⟨.ref y, rfl, y, dx, _, rfl, hy, rfl, .str (T wd), rfl, ?_⟩
      by_cases c : ∃ e ∈ es, e.1 = wd
      · refine .inl ⟨y, b, t, L, rs, es, ws, i, wd, rfl, hk, ho, c, fun b' en H2 hen hw kd hk2 => ?_⟩
        have eV : resM rs es (.forget wd) = .text en.2 := by
          show (match es.find? fun e => decide (e.1 = wd) with | some e => Res.text e.2 | none => .non "exception") = _
          rw [find_in (up_nd ho.up) hen hw]
        exact gd b' (dropW es wd) H2 (by rw [eV]; rfl) (by rw [eV]; rfl) (List.Perm.refl _) (ho.up.filter _) kd hk2
      · have no : ∀ e ∈ es, e.1 ≠ wd := fun e he z => c ⟨e, he, z⟩
        have sh : SeqAt.shaped (.str (T wd)) = true := by
          unfold SeqAt.shaped
          rw [Bool.and_eq_true]
          exact ⟨strOk_T fun x hx => by have := ho.lt.az x (dw.c x hx); omega, by rfl⟩
        have eV : resM rs es (.forget wd) = .non "exception" := by
          show (match es.find? fun e => decide (e.1 = wd) with | some e => Res.text e.2 | none => .non "exception") = _
          rw [List.find?_eq_none.mpr fun e he => by simpa using no e he]
        refine .inr ⟨y, b, t, L, rs, es, ws, i, .str (T wd), .str (T wd), rfl, hk, ho, fun H' _ => .str _, sh, fun e he => ?_, fun H' s' => qE (by rw [eV]; decide +kernel) CN none H' (by simp) s'⟩
        show ((T e.1) == (T wd)) = false
        exact beq_false_of_ne fun z => no e he (T_inj z)
end
end Say
namespace Say
open PySem PySem.Spec PyProof.Rows L2
theorem moveL_mem {rs : List Rule} {p q : Nat} {ρ : Rule} (h : ρ ∈ moveL rs p q) : ρ ∈ rs := by
  unfold moveL at h
  cases hp : rs[p]? with
  | none => rw [hp] at h; exact h
  | some r0 =>
    rw [hp] at h
    have sub : ∀ x, x ∈ rs.take p ++ rs.drop (p + 1) → x ∈ rs := fun x hx => by
      rcases List.mem_append.mp hx with hx | hx
      · exact List.mem_of_mem_take hx
      · exact List.mem_of_mem_drop hx
    have h : ρ ∈ (rs.take p ++ rs.drop (p + 1)).take q ++ [r0] ++ (rs.take p ++ rs.drop (p + 1)).drop q := h
    rcases List.mem_append.mp h with h | h
    · rcases List.mem_append.mp h with h | h
      · exact sub _ (List.mem_of_mem_take h)
      · rw [List.mem_singleton.mp h]; exact List.mem_of_getElem? hp
    · exact sub _ (List.mem_of_mem_drop h)
theorem moveL_len {rs : List Rule} {p q : Nat} (hp : p < rs.length) (hq : q < rs.length) : (moveL rs p q).length = rs.length := by
  unfold moveL
  rw [List.getElem?_eq_getElem hp]
  show (((rs.take p ++ rs.drop (p + 1)).take q ++ [rs[p]] ++ (rs.take p ++ rs.drop (p + 1)).drop q)).length = _
  rw [List.length_append, List.length_append, List.length_take, List.length_drop, List.length_append, List.length_take, List.length_drop]
  show _ + 1 + _ = _
  omega
theorem bookM_ok {L : List Nat} {rs : List Rule} {es es' : List Exc} {d : Deed} (ho : BookOk L rs es) (dok : DeedOk L rs.length d) (pm : es'.Perm (esM rs es d)) (st : es'.Pairwise fun e f => e.1 < f.1) : BookOk L (rsM rs d) es' := by
  have r12 := ho.r12
  have e8 := ho.e8
  have hE : (∀ e ∈ esM rs es d, ExcOk L e) ∧ (esM rs es d).length ≤ 8 := by
    have ld : ∀ w, (dropW es w).length ≤ es.length := fun w => List.length_filter_le _ _
    cases d with
    | learn w s =>
      obtain ⟨dw, ds, d3⟩ := dok
      show (∀ e ∈ (if sayW rs w = some s then dropW es w else if (dropW es w).length = 8 then es else dropW es w ++ [(w, s)]), ExcOk L e) ∧ (if sayW rs w = some s then dropW es w else if (dropW es w).length = 8 then es else dropW es w ++ [(w, s)]).length ≤ 8
      have l1 := ld w
      by_cases c : sayW rs w = some s
      · rw [if_pos c]
        exact ⟨fun e he => ho.ex e (dropW_mem he), by omega⟩
      · rw [if_neg c]
        by_cases c8 : (dropW es w).length = 8
        · rw [if_pos c8]
          exact ⟨ho.ex, e8⟩
        · rw [if_neg c8]
          refine ⟨fun e he => ?_, by rw [List.length_append]; show _ + 1 ≤ 8; omega⟩
          rcases List.mem_append.mp he with he | he
          · exact ho.ex e (dropW_mem he)
          · rw [List.mem_singleton.mp he]
            exact ⟨dw.c, dw.l1, dw.l8, ds, by show s.length ≤ 36; omega⟩
    | forget w => exact ⟨fun e he => ho.ex e (dropW_mem he), by have := ld w; show (dropW es w).length ≤ 8; omega⟩
    | _ => exact ⟨ho.ex, e8⟩
  have hR : (∀ ρ ∈ rsM rs d, RuleOk L ρ) ∧ (rsM rs d).length ≤ 12 := by
    cases d with
    | put p ρ =>
      show (∀ x ∈ (if rs.length < p then rs else if rs.length = 12 then rs else rs.take p ++ [ρ] ++ rs.drop p), RuleOk L x) ∧ (if rs.length < p then rs else if rs.length = 12 then rs else rs.take p ++ [ρ] ++ rs.drop p).length ≤ 12
      by_cases c : rs.length < p
      · rw [if_pos c]; exact ⟨ho.rl, r12⟩
      · rw [if_neg c]
        by_cases c12 : rs.length = 12
        · rw [if_pos c12]; exact ⟨ho.rl, r12⟩
        · rw [if_neg c12]
          refine ⟨fun x hx => ?_, ?_⟩
          · rcases List.mem_append.mp hx with hx | hx
            · rcases List.mem_append.mp hx with hx | hx
              · exact ho.rl x (List.mem_of_mem_take hx)
              · rw [List.mem_singleton.mp hx]; exact dok.2
            · exact ho.rl x (List.mem_of_mem_drop hx)
          · rw [List.length_append, List.length_append, List.length_take, List.length_drop]
            show _ + 1 + _ ≤ 12
            omega
    | drop p =>
      show (∀ x ∈ (if p < rs.length then rs.take p ++ rs.drop (p + 1) else rs), RuleOk L x) ∧ (if p < rs.length then rs.take p ++ rs.drop (p + 1) else rs).length ≤ 12
      by_cases c : p < rs.length
      · rw [if_pos c]
        refine ⟨fun x hx => ?_, by rw [List.length_append, List.length_take, List.length_drop]; omega⟩
        rcases List.mem_append.mp hx with hx | hx
        · exact ho.rl x (List.mem_of_mem_take hx)
        · exact ho.rl x (List.mem_of_mem_drop hx)
      · rw [if_neg c]; exact ⟨ho.rl, r12⟩
    | move p q =>
      show (∀ x ∈ (if p < rs.length ∧ q < rs.length then moveL rs p q else rs), RuleOk L x) ∧ (if p < rs.length ∧ q < rs.length then moveL rs p q else rs).length ≤ 12
      by_cases c : p < rs.length ∧ q < rs.length
      · rw [if_pos c]
        exact ⟨fun x hx => ho.rl x (moveL_mem hx), by rw [moveL_len c.1 c.2]; exact r12⟩
      · rw [if_neg c]; exact ⟨ho.rl, r12⟩
    | _ => exact ⟨ho.rl, r12⟩
  exact ⟨ho.lt, hR.1, hR.2, fun e he => hE.1 e (pm.mem_iff.mp he), by rw [pm.length_eq]; exact hE.2, st⟩
theorem lay_all : ∀ {ds : List PyData}, (∀ d ∈ ds, d.canLay0 = true) → PyData.canLayAll0 ds = true
  | [], _ => by simp [PyData.canLayAll0]
  | d :: ds, h => by
    have h1 := h d (List.mem_cons_self ..)
    have h2 := lay_all (ds := ds) fun x hx => h x (List.mem_cons_of_mem _ hx)
    simp [PyData.canLayAll0, h1, h2]
theorem lay_tup {ds : List PyData} (h : ∀ d ∈ ds, d.canLay0 = true) : (PyData.tuple ds).canLay0 = true := by
  show PyData.canLayAll0 ds = true
  exact lay_all h
theorem lay_str {z : List Nat} (h : ∀ c ∈ z, c < 1114112) : (PyData.str (T z)).canLay0 = true := strOk_T h
theorem shaped_bookD {L : List Nat} {rs : List Rule} {es : List Exc} (ho : BookOk L rs es) : SeqAt.shaped (bookD L rs es) = true := by
  have dp := depth_book L rs es
  have az : ∀ c ∈ L, c < 1114112 := fun c hc => by have := ho.lt.az c hc; omega
  have sb : ∀ {z : List Nat}, z.Sublist (35 :: L) → ∀ c ∈ z, c < 1114112 := fun hz c hc => by
    rcases List.mem_cons.mp (hz.subset hc) with rfl | hc
    · decide
    · exact az c hc
  unfold SeqAt.shaped
  rw [Bool.and_eq_true]
  refine ⟨lay_tup fun d hd => ?_, decide_eq_true (by omega)⟩
  simp only [List.mem_cons, List.not_mem_nil, or_false] at hd
  rcases hd with rfl | rfl | rfl
  · exact lay_str az
  · refine lay_tup fun d hd => ?_
    obtain ⟨ρ, hρ, rfl⟩ := List.mem_map.mp hd
    have o := ho.rl ρ hρ
    refine lay_tup fun d hd => ?_
    simp only [List.mem_cons, List.not_mem_nil, or_false] at hd
    rcases hd with rfl | rfl | rfl | rfl
    · exact lay_str (sb o.ah)
    · exact lay_str fun c hc => az c (o.ow c hc)
    · exact lay_str (sb o.be)
    · exact lay_str fun c hc => by have := (o.so c hc).2; omega
  · refine lay_tup fun d hd => ?_
    obtain ⟨e, he, rfl⟩ := List.mem_map.mp hd
    have o := ho.ex e he
    refine lay_tup fun d hd => ?_
    simp only [List.mem_cons, List.not_mem_nil, or_false] at hd
    rcases hd with rfl | rfl
    · exact lay_str fun c hc => az c (o.w c hc)
    · exact lay_str fun c hc => by have := (o.s c hc).2; omega
end Say
namespace Say
open PySem PySem.Spec PyProof.Rows L2 L2H
theorem op_isB {X : Cx} : OpR X (compareOp .Is) (fun x y H Q => ∃ a b, x = .bl a ∧ y = .bl b ∧ Q (.bl (decide (a = b))) H) := by
  intro pins s σ H x y v u Q I rx ry h
  obtain ⟨a, b, rfl, rfl, q⟩ := h
  cases rx
  cases ry
  show wpAny _ _ ((isSame (Value.bool a) (Value.bool b)) >>= fun z => pure (Value.bool z)) _ _ s
  refine wpAny_bind ?_
  show wpAny _ _ (pure (Value.bool a == Value.bool b)) _ _ s
  refine wpAny_pure (wpAny_pure (fin_bl I q ?_))
  cases a <;> cases b <;> rfl
/-! ### deeds, one after another -/
theorem Hot1.mk0 {A : Around} {a : Addr} {oe : Obj} {cls : Value} {d : Option Addr} (hz : L2N.Zn cls d oe) (hf : ∃ vs, oe.data = .fields vs) : Hot1 (A.mark (some (.ref a))) (a, oe) := by
  obtain ⟨vs, e⟩ := hf
  exact ⟨rfl, vs, e, hz.2.2 vs e⟩
def RaisesK (K : PySem.W.Frag) (cls : Value) : Prop := ∀ (M : Model) (h : Heap), K.In h → PySem.W.Looks M h (isSubtype cls (.type "BaseException")) true ∧ PySem.W.Looks M h (typeOf cls) (.type "type")
def stM : List Rule → List Exc → List Deed → List Rule × List Exc
  | rs, es, [] => (rs, es)
  | rs, es, d :: ds => stM (rsM rs d) (esM rs es d) ds
def resL : List Rule → List Exc → List Deed → List Res
  | _, _, [] => []
  | rs, es, d :: ds => resM rs es d :: resL (rsM rs d) (esM rs es d) ds
def ValidM (L : List Nat) : List Rule → List Exc → List Deed → Prop
  | _, _, [] => True
  | rs, es, d :: ds => DeedOk L rs.length d ∧ okM (resM rs es d) = true ∧ ValidM L (rsM rs d) (esM rs es d) ds
theorem stM_app : ∀ {rs : List Rule} {es : List Exc} {a : List Deed} {d : Deed}, stM rs es (a ++ [d]) = (rsM (stM rs es a).1 d, esM (stM rs es a).1 (stM rs es a).2 d)
  | _, _, [], _ => rfl
  | _, _, _ :: a, _ => stM_app (a := a)
theorem resL_app : ∀ {rs : List Rule} {es : List Exc} {a : List Deed} {d : Deed}, resL rs es (a ++ [d]) = resL rs es a ++ [resM (stM rs es a).1 (stM rs es a).2 d]
  | _, _, [], _ => rfl
  | rs, es, x :: a, d => by
    show resM rs es x :: resL (rsM rs x) (esM rs es x) (a ++ [d]) = _
    rw [resL_app (a := a)]
    rfl
theorem resL_len : ∀ {rs : List Rule} {es : List Exc} {a : List Deed}, (resL rs es a).length = a.length
  | _, _, [] => rfl
  | rs, es, x :: a => congrArg (· + 1) (resL_len (a := a))
theorem valid_app {L : List Nat} : ∀ {rs : List Rule} {es : List Exc} {a : List Deed} {d : Deed}, ValidM L rs es a → DeedOk L (stM rs es a).1.length d → okM (resM (stM rs es a).1 (stM rs es a).2 d) = true → ValidM L rs es (a ++ [d])
  | _, _, [], _, _, h1, h2 => ⟨h1, h2, trivial⟩
  | _, _, _ :: a, _, h, h1, h2 => ⟨h.1, h.2.1, valid_app (a := a) h.2.2 h1 h2⟩
theorem valid_at {L : List Nat} : ∀ {rs : List Rule} {es : List Exc} {a : List Deed} {i : Nat} {d : Deed}, ValidM L rs es a → a[i]? = some d → DeedOk L (stM rs es (a.take i)).1.length d ∧ okM (resM (stM rs es (a.take i)).1 (stM rs es (a.take i)).2 d) = true
  | _, _, [], _, _, _, h => by simp at h
  | _, _, x :: a, 0, d, h, hi => by
    have e : x = d := Option.some.inj hi
    subst e
    exact ⟨h.1, h.2.1⟩
  | _, _, x :: a, i + 1, d, h, hi => valid_at (a := a) (i := i) h.2.2 hi
theorem take_app {α : Type} {a : List α} {i : Nat} {d : α} (h : a[i]? = some d) : a.take (i + 1) = a.take i ++ [d] := by
  rw [List.take_succ, h]
  rfl
def wordM : Deed → Str
  | .put _ _ => "put"
  | .drop _ => "drop"
  | .move _ _ => "move"
  | .learn _ _ => "learn"
  | .learnN _ => "learn"
  | .forget _ => "forget"
theorem DeedAt.word {H : Hp} {t : Addr} {d : Deed} (h : DeedAt H t d) : ∃ r, H t = some (.tup (.str (wordM d) :: r)) := by
  cases d with
  | put p ρ => obtain ⟨a, h1, h2⟩ := h; exact ⟨_, h1⟩
  | drop p => exact ⟨_, h⟩
  | move p q => exact ⟨_, h⟩
  | learn w s => exact ⟨_, h⟩
  | learnN w => exact ⟨_, h⟩
  | forget w => exact ⟨_, h⟩
theorem ValAt.kt {H H' : Hp} {v : V} {r : Res} (h : ValAt H v r) (k : KT H H') : ValAt H' v r := by
  cases r with
  | rule ρ => obtain ⟨a, h1, h2⟩ := h; exact ⟨a, h1, k.1 _ _ h2⟩
  | _ => exact h
theorem Kd.keep {y t : Addr} {H H' : Hp} (k : Kd y t H H') {p : Addr} {o : HO} (h : H p = some o) (n1 : p ≠ y) (n2 : p ≠ t) : H' p = some o := k _ _ h n1 n2
theorem kd_free {y t x : Addr} {o1 o2 : HO} {H H' : Hp} (k : Kd y t H H') (hy : H' y = some o1) (ht : H' t = some o2) (hx : H' x = none) : H x = none := by
  cases e : H x with
  | none => rfl
  | some o =>
    have n1 : x ≠ y := fun z => by rw [z, hy] at hx; cases hx
    have n2 : x ≠ t := fun z => by rw [z, ht] at hx; cases hx
    rw [k x o e n1 n2] at hx
    cases hx
section
variable {P : Program} {w : World} {K : PySem.W.Frag} {mg : Str → Option Value} {base : Heap}
/-- what the top says of the class that is caught -/
structure SayK (K : PySem.W.Frag) (mg : Str → Option Value) (CS0 : Addr) (cs : List Addr) : Prop where
  g : mg "SayError" = some (.ref CS0)
  m : ∀ c ∈ cs, PySem.W.exmOne K (.ref c) (.ref CS0) = some true ∧ PySem.W.subIn K (.ref c) (.type "BaseException") = some true ∧ PySem.W.typeIn K (.ref c) = some (.type "type")
abbrev nAD : List Str := ["self", "deeds", "keep", "ahead", "answers", "number", "deed", "refusal"]
theorem scAD : FnScope nAD ["self", "deeds", "keep"] (defScope (sDk 11)) := ⟨rfl, rfl, rfl, by decide +kernel, rfl, by decide +kernel, by decide +kernel⟩
def spAD (C CH : Addr) : Sp := fun vs H Q E => ∃ (y b t D : Addr) (L : List Nat) (rs : List Rule) (es : List Exc) (ws : List Str) (kb : Bool) (ts : List Addr) (good rest : List Deed), vs = [.ref y, .ref D, .bl kb] ∧ DkAt C H y b t L rs es ws false ∧ BookOk L rs es ∧ H D = some (.lst (ts.map V.ref)) ∧ D ≠ t ∧
  Paired (DeedAt H) ts (good ++ rest) ∧ ValidM L rs es good ∧ ws.length + good.length ≤ 900 ∧ good.length ≤ 10 ∧
  (rest = [] → ∀ (p : Addr) (xs : List V) (b' : Addr) (es' : List Exc) (H' : Hp), H p = none → H' p = some (.lst xs) → Paired (ValAt H') xs (resL rs es good) → es'.Perm (stM rs es good).2 → BookOk L (stM rs es good).1 es' → DkAt C H' y b' t L (stM rs es good).1 es' (ws ++ good.map wordM) false → Kd y t H H' → Q (.ref p) H') ∧
  (∀ d more, rest = d :: more → DeedOk L (stM rs es good).1.length d ∧ okM (resM (stM rs es good).1 (stM rs es good).2 d) = false ∧
    (∀ (x b' : Addr) (es' : List Exc) (H' : Hp), kb = true → es'.Perm (stM rs es good).2 → BookOk L (stM rs es good).1 es' → DkAt C H' y b' t L (stM rs es good).1 es' (ws ++ good.map wordM) false → Kd y t H H' → H x = none → H' x = some (.xd [(("done" : Str), .int good.length), (("number" : Str), .int good.length)]) → E (.ref CH) (some x) H') ∧
    (∀ (x : Addr) (H' : Hp), kb = false → DkAt C H' y b t L rs es (ws ++ good.map wordM) false → Kd y t H H' → H x = none → H' x = some (.xd [(("done" : Str), .int 0), (("number" : Str), .int good.length)]) → E (.ref CH) (some x) H'))
theorem ok_AD {f C CH CS0 CC CB CS CN fI fDn : Addr} {fd fdDn : FuncData} (F : Fun K "_all_done" "Desk._all_done" (sDk 11) f fd) (S : DkC K C) (B : Bn mg) (O : PySem.XHalted.ExTxt P K mg CH fI) (SK : SayK K mg CS0 [CC, CB, CS, CN])
    (GDn : FnOk P w K mg base (L2N.CX P w) 8 fDn fdDn ["self", "deed"] (spDn C CC CB CS CN)) (mDn : Meth K C "_done" fDn) (bDn : Binds K fdDn ["self", "deed"] []) :
    FnOk P w K mg base (L2.CX P w) 9 f fd ["self", "deeds", "keep"] (spAD C CH) := by
  refine F.okX scAD (fun vs H Q E h => ?_) (fun cdv A outer s H vs Q E hr h => ?_)
  · obtain ⟨y, b, t, D, L, rs, es, ws, kb, ts, good, rest, rfl, _⟩ := h
    rfl
  · obtain ⟨y, b, t, D, L, rs, es, ws, kb, ts, good, rest, rfl, hk, ho, hD, nDt, hp, hv, hl, h10, q, qE⟩ := h
    have hr1 : Room 1 _ := hr.mono (by decide)
    have px : PassesOwn (model P w) (A.deeper (envOfC "Desk._all_done" (defScope (sDk 11)) s.heap.objs.size f cdv)) (envOfC "Desk._all_done" (defScope (sDk 11)) s.heap.objs.size f cdv) (cxOf (L2.CX P w) P w K mg base nAD "Desk._all_done" (defScope (sDk 11)) f cdv A outer s H E).xe := PassesOwn.leaving
    have tk : Takes _ (fun cls d _ H => E cls d H) := takes_of (X := cxOf (L2.CX P w) P w K mg base nAD "Desk._all_done" (defScope (sDk 11)) f cdv A outer s H E) rfl rfl rfl rfl
    refine ⟨_, pss_cons (ps_set (i := 3) scAD.nd rfl (.inl rfl) (pe_fld (pv 0) rfl))
      (pss_cons (ps_set (i := 4) scAD.nd rfl (.inl rfl) (pe_lst pa_nil))
      (pss_cons (ps_for px rfl (pi_enum (by rfl) B.enu (pa_cons (pv 1) pa_nil)) (pg_tup (by rfl) (pgs_cons (pg_name (i := 5) scAD.nd rfl (.inl rfl)) (pgs_cons (pg_name (i := 6) scAD.nd rfl (.inl rfl)) pgs_nil)))
        (pss_cons (by
            refine' ps_try_asX (i := 7) (c := .ref CS0) rfl rfl rfl scAD.nd rfl rfl ⟨rfl, by decide, .inl SK.g⟩ (fun hd => passesAt_of rfl hd) tk ?hb ?hsu
            case hb =>
              intro W pn xe tkW _
              exact pss_one (ps_expr (show PE _ _ (tBM K "list" rAppend (tVar 4) (tCons (tMethW C "_done" (spDn C CC CB CS CN) (WE W) (tVar 0) (tCons (tVar 6) tNil)) tNil)) from (pe_bm PySem.F.plainAttrs_list PySem.F.slot_list_append PySem.F.type_list_append mt_append (pv 4) (pa_cons (pe_methW (E := WE W) (pv 0) S.cl mDn GDn hr bDn (fun σ => L2N.passAt tkW σ) (pa_cons (pv 6) pa_nil)) pa_nil))))
            case hsu =>
              intro a oe cls d pn hz hfl xe tkS hot
              exact pss_cons (ps_if (pt_cmpR op_isB (pv 2) pe_bl (nomark _)) (pss_one (show PS _ _ (fun _ σ H => tMkHalted CH (tCons (tVar 5) (tCons (tVar 5) tNil)) σ H fun c x H' => RaisesK K cls ∧ σ[7]? = some (some (.ref a)) ∧ E c x H') from (ps_raiseF (i := 7) (a0 := a) (o0 := oe) (cls0 := cls) (Hot1.mk0 hz hfl) List.mem_cons_self hz.1 tkS (pmk5_Halted (k := 1) O ⟨hr1.dp, hr1.un⟩ (pa_cons (pv 5) (pa_cons (pv 5) pa_nil))) rfl rfl))) pss_nil) (pss_cons (show PS _ _ (sFld K (tVar 0) (tVar 3) "_book") from ps_fld (pv 0) (pv 3) rfl) (pss_one (show PS _ _ (fun _ σ H => tMkHalted CH (tCons (tVar 5) (tCons (tC (.int 0)) tNil)) σ H fun c x H' => RaisesK K cls ∧ σ[7]? = some (some (.ref a)) ∧ E c x H') from (ps_raiseF (i := 7) (a0 := a) (o0 := oe) (cls0 := cls) (Hot1.mk0 hz hfl) List.mem_cons_self hz.1 tkS (pmk5_Halted (k := 1) O ⟨hr1.dp, hr1.un⟩ (pa_cons (pv 5) (pa_cons pe_int pa_nil))) rfl rfl))))
            )
        (pss_one (ps_expr (pe_bm PySem.F.plainAttrs_list PySem.F.slot_list_append PySem.F.type_list_append mt_append (pe_fld (pv 0) rfl) (pa_cons (pe_ix ix_tup (pv 6) pe_int (fun _ _ => rfl)) pa_nil))))))
      (pss_one (ps_ret (pv 4))))), ?_⟩
    obtain ⟨⟨dx, hy⟩, hB, hto⟩ := id hk
    have nyt := hk.ne
    have nDy : D ≠ y := ne_of hD hy (by intro z; cases z)
    have lt := paired_len hp
    have lg : good.length ≤ ts.length := by rw [lt, List.length_append]; omega
    refine ⟨_, rfl, y, C, dx, _, _, rfl, hy, S.cl, S.nB, d_bk, ?_⟩
    refine ⟨(by show 0 ≤ sizeLine; decide), fun p np => ?_⟩
    have sp := same_new np (.lst [])
    have npy : p ≠ y := fun z => by rw [z, hy] at np; cases np
    have npt : p ≠ t := fun z => by rw [z, hto] at np; cases np
    refine ⟨_, rfl, D, ts.map V.ref, rfl, .inl (.inl (sp _ _ hD)), for_it (walk_enum (xs := ts.map V.ref)) (fun i σ H2 => i ≤ good.length ∧ ∃ (xs : List V) (b' : Addr) (es' : List Exc) (v5 v6 : Option V), σ = [some (.ref y), some (.ref D), some (.bl kb), some (.ref b), some (.ref p), v5, v6, none] ∧ H2 p = some (.lst xs) ∧ Paired (ValAt H2) xs (resL rs es (good.take i)) ∧ es'.Perm (stM rs es (good.take i)).2 ∧ BookOk L (stM rs es (good.take i)).1 es' ∧ DkAt C H2 y b' t L (stM rs es (good.take i)).1 es' (ws ++ (good.take i).map wordM) false ∧ Kd y t H H2)
      ⟨Nat.zero_le _, [], b, es, none, none, rfl, upd_same, .nil, List.Perm.refl _, ho, by rw [List.take_zero, List.map_nil, List.append_nil]; exact hk.same sp, Kd.of sp⟩ (fun i σ H2 _ h => ?_) ?_ ?_⟩
    · obtain ⟨_, xs, b', es', v5, v6, _, _, _, _, _, _, k2⟩ := h
      exact .inl (.inl (k2.keep hD nDy nDt))
    · rintro i x σ H2 H3 hi ⟨hig, xs, b', es', v5, v6, rfl, hp2, hvs, pm, ok2, dk2, k2⟩ ⟨t0, x1, x2, rfl, ht0, rfl, g1, g2⟩
      cases g1
      have g2 : (ts.map V.ref)[i]? = some x2 := g2
      rw [List.getElem?_map] at g2
      obtain ⟨dt, hdt, rfl⟩ := Option.map_eq_some_iff.mp g2
      obtain ⟨d, hd, hdA⟩ := paired_at hp hdt
      have sm := same_new ht0 (.tup [.int (i : Nat), .ref dt])
      have kt2 : KT H H2 := k2.kt hy hto
      have hd3 := (hdA.kt kt2).kt (.of sm)
      refine ⟨t0, _, rfl, .inl (.inl upd_same), rfl, _, _, rfl, _, _, rfl, rfl, ?_⟩
      have dk3 := dk2.same sm
      have hp3 := sm _ _ hp2
      have hv3 := paired_mono (fun _ _ q => ValAt.kt q (.of sm)) hvs
      have k3 : Kd y t H (upd H2 t0 (.tup [.int (i : Nat), .ref dt])) := k2.trans (.of sm)
      generalize upd H2 t0 (.tup [.int (i : Nat), .ref dt]) = H4 at hd3 dk3 hp3 hv3 k3 ⊢
      obtain ⟨⟨dx3, hy3⟩, hb3, ht3⟩ := id dk3
      have ndE : (es'.map (·.1)).Nodup := up_nd ok2.up
      have ndM : ((stM rs es (good.take i)).2.map (·.1)).Nodup := (pm.map (·.1)).nodup_iff.mp ndE
      have eR : resM (stM rs es (good.take i)).1 es' d = resM (stM rs es (good.take i)).1 (stM rs es (good.take i)).2 d := resM_perm pm ndM d
      simp only [List.set_cons_succ, List.set_cons_zero]
      refine ⟨_, rfl, .inl ⟨rfl, _, .inl (.inl hp3)⟩, _, rfl, y, dx3, _, rfl, hy3, rfl, _, rfl, ?_⟩
      by_cases c : i < good.length
      · -- it is done
        have hg : good[i]? = some d := by rw [List.getElem?_append_left c] at hd; exact hd
        obtain ⟨dok, okd⟩ := valid_at hv hg
        refine ⟨y, dt, b', t, L, _, es', _, false, d, rfl, dk3, ok2, hd3, dok, fun _ v b2 es2 H5 hv5 pm5 st5 k5 dk5 => ?_, fun no => by rw [eR, okd] at no; cases no⟩
        rw [eR] at hv5
        have hp5 := k5.keep hp3 npy npt
        have kt5 : KT H4 H5 := dk3.kt k5
        refine ⟨p, xs, v, rfl, rfl, hp5, ?_, ?_⟩
        · have e1 := paired_len hvs
          rw [resL_len, List.length_take] at e1
          exact smallM (by omega)
        have dk6 := dk5
        obtain ⟨⟨dx5, hy5⟩, hb5, ht5⟩ := id dk5
        have hy6 : (upd H5 p (.lst (xs ++ [v]))) y = some (.ins C dx5 (fldD b2 t false)) := by rw [upd_ne (Ne.symm npy)]; exact hy5
        have ht6 : (upd H5 p (.lst (xs ++ [v]))) t = some (.lst (wordsV (ws ++ (good.take i).map wordM))) := by rw [upd_ne (Ne.symm npt)]; exact ht5
        have kt6 : KT H5 (upd H5 p (.lst (xs ++ [v]))) := KT.by fun a u q hu => by
          rw [upd_ne (ne_of q hp5 (by rcases hu with ⟨_, rfl⟩ | ⟨_, _, rfl⟩ <;> (intro z; cases z)))]
          exact q
        obtain ⟨rw', hw⟩ := (hd3.kt kt5).word
        have hw6 := kt6.1 _ _ hw
        refine ⟨_, rfl, y, C, dx5, _, _, rfl, hy6, S.cl, S.nT, d_to, .inl ⟨rfl, _, .inl (.inl ht6)⟩, _, rfl, dt, _, 0, .str (wordM d), rfl, rfl, .inl (.inl hw6), atI_nat (j := 0) rfl, t, _, _, rfl, rfl, ht6, ?_, ?_⟩
        · unfold wordsV
          rw [List.length_map, List.length_append, List.length_map, List.length_take]
          exact smallM (by omega)
        have hy7 : (upd (upd H5 p (.lst (xs ++ [v]))) t (.lst (wordsV (ws ++ (good.take i).map wordM) ++ [.str (wordM d)]))) y = some (.ins C dx5 (fldD b2 t false)) := by rw [upd_ne nyt]; exact hy6
        have kt7 : KT (upd H5 p (.lst (xs ++ [v]))) (upd (upd H5 p (.lst (xs ++ [v]))) t (.lst (wordsV (ws ++ (good.take i).map wordM) ++ [.str (wordM d)]))) := KT.by fun a u q hu => by
          rw [upd_ne (ne_of q ht6 (by rcases hu with ⟨_, rfl⟩ | ⟨_, _, rfl⟩ <;> (intro z; cases z)))]
          exact q
        have et := take_app hg
        refine ⟨c, xs ++ [v], b2, es2, _, _, rfl, ?_, ?_, ?_, ?_, ?_, ?_⟩
        · rw [upd_ne npt, upd_same]
        · rw [et, resL_app]
          refine paired_app (paired_mono (fun _ _ q => ((ValAt.kt q kt5).kt kt6).kt kt7) hv3) (.cons ((hv5.kt kt6).kt kt7) .nil)
        · rw [et, stM_app]
          exact pm5.trans (esM_perm pm d)
        · rw [et, stM_app]
          exact bookM_ok ok2 dok pm5 st5
        · rw [et, stM_app]
          refine ⟨⟨dx5, hy7⟩, (hb5.kt kt6).kt kt7, ?_⟩
          rw [upd_same, List.map_append, ← List.append_assoc]
          unfold wordsV
          rw [List.map_append (l₁ := ws ++ _)]
          rfl
        · intro a o ha n1 n2
          rw [upd_ne n2, upd_ne (fun z => by rw [z] at ha; rw [np] at ha; cases ha)]
          exact k5 _ _ (k3 _ _ ha n1 n2) n1 n2
      · -- it is refused
        obtain rfl : i = good.length := by omega
        have h0 : rest[0]? = some d := by rw [List.getElem?_append_right (by omega), Nat.sub_self] at hd; exact hd
        obtain ⟨more, hr0⟩ : ∃ more, rest = d :: more := by
          cases rest with
          | nil => cases h0
          | cons r0 more => exact ⟨more, by rw [Option.some.inj h0]⟩
        obtain ⟨dok, nok, q1, q2⟩ := qE d more hr0
        simp only [List.take_length] at *
        refine ⟨y, dt, b', t, L, _, es', _, false, d, rfl, dk3, ok2, hd3, dok, (fun yes => by rw [eR, nok] at yes; cases yes), fun _ c x H5 hc s5 => ?_⟩
        obtain ⟨m1, m2, m3⟩ := SK.m c hc
        have rz : RaisesK K (.ref c) := fun M h k => ⟨PySem.W.looks_subIn k m2, PySem.W.looks_typeIn k m3⟩
        have dk5 := dk3.same s5
        have k5 : Kd y t H H5 := k3.trans (.of s5)
        obtain ⟨⟨dx5, hy5⟩, hb5, ht5⟩ := id dk5
        refine ⟨true, m1, fun _ a na => ?_, fun z => by cases z⟩
        simp only [List.set_cons_succ, List.set_cons_zero]
        refine ⟨_, rfl, kb, true, rfl, rfl, _, rfl, ?_⟩
        cases kb with
        | true =>
          refine iteT ⟨_, rfl, _, rfl, (good.length : Nat), (good.length : Nat), rfl, ⟨by omega, by omega⟩, ⟨by omega, by omega⟩, fun x5 hx5 => ⟨rz, rfl, ?_⟩⟩
          have s6 := same_new hx5 (.xd [(("done" : Str), .int (good.length : Nat)), (("number" : Str), .int (good.length : Nat))])
          exact q1 x5 b' es' _ rfl pm ok2 (dk5.same s6) (k5.trans (.of s6)) (kd_free k5 hy5 ht5 hx5) upd_same
        | false =>
          refine iteF ?_
          refine ⟨_, rfl, _, rfl, y, C, dx5, _, rfl, hy5, S.cl, S.nB, (by show 3 < 1000; decide), ?_⟩
          obtain ⟨k6, k7⟩ := dk5.putB (b' := b) hy5 (Same.refl _) (hB.kt (k5.kt hy hto))
          refine ⟨_, rfl, (good.length : Nat), 0, rfl, ⟨by omega, by omega⟩, ⟨by omega, by omega⟩, fun x5 hx5 => ⟨rz, rfl, ?_⟩⟩
          have s6 := same_new hx5 (.xd [(("done" : Str), .int 0), (("number" : Str), .int (good.length : Nat))])
          obtain ⟨⟨dx7, hy7⟩, _, ht7⟩ := id k6
          exact q2 x5 _ rfl (k6.same s6) ((k5.trans k7).trans (.of s6)) (kd_free (k5.trans k7) hy7 ht7 hx5) upd_same
    · rintro σ H2 ⟨hig, xs, b', es', v5, v6, rfl, hp2, hvs, pm, ok2, dk2, k2⟩
      rw [List.length_map] at hig hvs pm ok2 dk2
      have et : good.take ts.length = good := List.take_of_length_le (by omega)
      rw [et] at hvs pm ok2 dk2
      have er : rest = [] := by
        rw [lt, List.length_append] at hig
        exact List.eq_nil_of_length_eq_zero (by omega)
      exact ⟨_, rfl, q er p xs b' es' H2 np hp2 hvs pm ok2 dk2 k2⟩
end
end Say
namespace Say
open PySem PySem.Spec PyProof.Rows L2 L2H
section
variable {P : Program} {w : World} {K : PySem.W.Frag} {mg : Str → Option Value} {base : Heap}
abbrev psBt : List Str := ["self", "deeds", "keep"]
theorem scBt : FnScope psBt psBt (defScope (sDk 8)) := ⟨rfl, rfl, rfl, by decide +kernel, rfl, by decide +kernel, by decide +kernel⟩
theorem dvs_of {K : PySem.W.Frag} {H : Hp} : ∀ {ts : List Addr} {ds : List Deed}, Paired (DeedAt H) ts ds → Paired (DV K H) (ts.map V.ref) (ds.map fun _ => true)
  | _, _, .nil => .nil
  | _, _, .cons x r => .cons x.dv (dvs_of r)
/-- the words that a batch leaves -/
def toldL (ws : List Str) (good : List Deed) : List Str := ws ++ (([("begun" : Str)] ++ good.map wordM) ++ [("ended" : Str)])
theorem DkAt.word {C : Addr} {H : Hp} {y b t dx : Addr} {L : List Nat} {rs : List Rule} {es : List Exc} {ws : List Str} {i : Bool} (h : DkAt C H y b t L rs es ws i) (hy : H y = some (.ins C dx (fldD b t i))) (z : Str) (j : Bool) :
    DkAt C (upd (upd H t (.lst (wordsV ws ++ [.str z]))) y (.ins C dx (fldD b t j))) y b t L rs es (ws ++ [z]) j ∧ Kd y t H (upd (upd H t (.lst (wordsV ws ++ [.str z]))) y (.ins C dx (fldD b t j))) := by
  have nyt := h.ne
  have ht := h.told
  refine ⟨⟨⟨dx, upd_same⟩, h.bk.kt (KT.by fun a u q hu => ?_), ?_⟩, (Kd.t _).trans (Kd.y _)⟩
  · have n1 : a ≠ y := ne_of q hy (by rcases hu with ⟨_, rfl⟩ | ⟨_, _, rfl⟩ <;> (intro z; cases z))
    have n2 : a ≠ t := ne_of q ht (by rcases hu with ⟨_, rfl⟩ | ⟨_, _, rfl⟩ <;> (intro z; cases z))
    rw [upd_ne n1, upd_ne n2]
    exact q
  · rw [upd_ne nyt.symm, upd_same]
    unfold wordsV
    rw [List.map_append]
    rfl
def spBt (C CH : Addr) : Sp := fun vs H Q E => ∃ (y b t D : Addr) (L : List Nat) (rs : List Rule) (es : List Exc) (ws : List Str) (kb : Bool) (ts : List Addr) (good rest : List Deed), vs = [.ref y, .ref D, .bl kb] ∧ DkAt C H y b t L rs es ws true ∧ BookOk L rs es ∧ H D = some (.lst (ts.map V.ref)) ∧ D ≠ t ∧
  Paired (DeedAt H) ts (good ++ rest) ∧ ValidM L rs es good ∧ ws.length + good.length ≤ 800 ∧ good.length ≤ 10 ∧ ts.length ≤ 100 ∧
  (rest = [] → ∀ (p : Addr) (xs : List V) (b' : Addr) (es' : List Exc) (H' : Hp), H p = none → H' p = some (.lst xs) → Paired (ValAt H') xs (resL rs es good) → es'.Perm (stM rs es good).2 → BookOk L (stM rs es good).1 es' → DkAt C H' y b' t L (stM rs es good).1 es' (toldL ws good) true → Kd y t H H' → Q (.ref p) H') ∧
  (∀ d more, rest = d :: more → DeedOk L (stM rs es good).1.length d ∧ okM (resM (stM rs es good).1 (stM rs es good).2 d) = false ∧
    (∀ (x b' : Addr) (es' : List Exc) (H' : Hp), kb = true → es'.Perm (stM rs es good).2 → BookOk L (stM rs es good).1 es' → DkAt C H' y b' t L (stM rs es good).1 es' (toldL ws good) true → Kd y t H H' → H x = none → H' x = some (.xd [(("done" : Str), .int good.length), (("number" : Str), .int good.length)]) → E (.ref CH) (some x) H') ∧
    (∀ (x : Addr) (H' : Hp), kb = false → DkAt C H' y b t L rs es (toldL ws good) true → Kd y t H H' → H x = none → H' x = some (.xd [(("done" : Str), .int 0), (("number" : Str), .int good.length)]) → E (.ref CH) (some x) H'))
theorem ok_Bt {f C CH CD fAD : Addr} {fd fdAD : FuncData} (F : FunD K "batch" "Desk.batch" (defArgs (sDk 8)) (defBody (sDk 8)) (defScope (sDk 8)) [] [("keep", .bl true)] f fd) (S : DkC K C)
    (GAD : FnOk P w K mg base (L2.CX P w) 9 fAD fdAD ["self", "deeds", "keep"] (spAD C CH)) (mAD : Meth K C "_all_done" fAD) (bAD : Binds K fdAD ["self", "deeds", "keep"] [])
    {fCd : Addr} {fdCd : FuncData} (GCd : FnOk P w K mg base (L2.CX P w) 2 fCd fdCd ["deeds"] (spCd K CD)) (kCd : PySem.W.keepIn K (.ref fCd) = true) (bCd : Binds K fdCd ["deeds"] []) (mCd : mg "check_deeds" = some (.ref fCd)) :
    FnOk P w K mg base (L2.CX P w) 10 f fd psBt (spBt C CH) := by
  refine F.ok scBt (fun vs H Q E h => ?_) (fun cdv A outer s H vs Q E hr h => ?_)
  · obtain ⟨y, b, t, D, L, rs, es, ws, kb, ts, good, rest, rfl, _⟩ := h
    rfl
  · obtain ⟨y, b, t, D, L, rs, es, ws, kb, ts, good, rest, rfl, hk, ho, hD, nDt, hp, hv, hl, h10, h100, q, qE⟩ := h
    have hr2 : Room 2 _ := hr.mono (by decide)
    have tk : Takes _ (fun cls d _ H => E cls d H) := takes_of (X := cxOf (L2.CX P w) P w K mg base psBt "Desk.batch" (defScope (sDk 8)) f cdv A outer s H E) rfl rfl rfl rfl
    refine ⟨_, pss_cons (ps_expr (pe_callS GCd hr2 (by rfl) mCd kCd bCd (fun σ => passAt tk σ) (by exact (pa_cons (pv 1) pa_nil))))
      (pss_cons (ps_expr (pe_bm PySem.F.plainAttrs_list PySem.F.slot_list_append PySem.F.type_list_append mt_append (pe_fld (pv 0) rfl) (pa_cons pe_str pa_nil)))
      (pss_cons (ps_fld (pv 0) pe_bl rfl)
      (pss_one (by
        refine' ps_retFinX (Wout := fun cls d _ H => E cls d H) rfl rfl rfl tk ?he (pss_cons (ps_expr (pe_bm PySem.F.plainAttrs_list PySem.F.slot_list_append PySem.F.type_list_append mt_append (pe_fld (pv 0) rfl) (pa_cons pe_str pa_nil))) (pss_one (ps_fld (pv 0) pe_bl rfl))) ?hsu
        case he =>
          intro W pn xe tkW _
          exact pe_methW (E := WE W) (pv 0) S.cl mAD GAD hr bAD (fun σ => passAt tkW σ) (pa_cons (pv 1) (pa_cons (pv 2) pa_nil))
        case hsu =>
          intro a pn
          exact pss_cons (ps_expr (show PE _ _ (tBM K "list" rAppend (tFld K (tVar 0) "_told") (tCons (tC (.str "ended")) tNil)) from pe_bm PySem.F.plainAttrs_list PySem.F.slot_list_append PySem.F.type_list_append mt_append (pe_fld (pv 0) rfl) (pa_cons pe_str pa_nil)))
            (pss_one (show PS _ _ (sFld K (tVar 0) (tC (.bl true)) "_idle") from ps_fld (pv 0) pe_bl rfl)))))), ?_⟩
    obtain ⟨⟨dx, hy⟩, hB, hto⟩ := id hk
    have nyt := hk.ne
    have nDy : D ≠ y := ne_of hD hy (by intro z; cases z)
    have hdv := dvs_of (K := K) hp
    refine ⟨_, rfl, _, rfl, .inr ⟨D, ts.map V.ref, (good ++ rest).map fun _ => true, rfl, .inl (.inl hD), by rw [List.length_map]; exact h100, hdv, fun _ H1 s1 => ?_, fun m hm => ?_⟩⟩
    · have dk1 := hk.same s1
      have hy1 := s1 _ _ hy
      have ht1 := s1 _ _ hto
      refine ⟨_, rfl, y, C, dx, _, _, rfl, hy1, S.cl, S.nT, d_to, .inl ⟨rfl, _, .inl (.inl ht1)⟩, t, _, _, rfl, rfl, ht1, ?_, ?_⟩
      · unfold wordsV; rw [List.length_map]; exact smallM (by omega)
      have e2 : (upd H1 t (.lst (wordsV ws ++ [.str "begun"]))) y = some (.ins C dx (fldD b t true)) := by rw [upd_ne nyt]; exact hy1
      refine ⟨_, rfl, y, C, dx, _, rfl, e2, S.cl, S.nI, (by show 3 < 1000; decide), ?_⟩
      rw [p_id]
      obtain ⟨dk3, k3⟩ := dk1.word hy1 "begun" false
      have k03 : Kd y t H _ := (Kd.of s1).trans k3
      have hD3 := k03.keep hD nDy nDt
      have hp3 := paired_mono (fun _ _ z => DeedAt.kt z (hk.kt k03)) hp
      generalize upd (upd H1 t (.lst (wordsV ws ++ [.str "begun"]))) y (.ins C dx (fldD b t false)) = H3 at dk3 k3 k03 hD3 hp3 ⊢
      obtain ⟨⟨dx3, hy3⟩, _, ht3⟩ := id dk3
      have et : (ws ++ [("begun" : Str)]) ++ good.map wordM ++ [("ended" : Str)] = toldL ws good := by unfold toldL; rw [List.append_assoc, List.append_assoc, ← List.append_assoc [("begun" : Str)]]
      have wl : ∀ zs : List Deed, zs.length = good.length → (wordsV ((ws ++ [("begun" : Str)]) ++ zs.map wordM)).length < sizeLine := fun zs hz => by
        unfold wordsV
        rw [List.length_map, List.length_append, List.length_append, List.length_map, hz]
        show _ + 1 + _ < _
        exact smallM (by omega)
      refine ⟨_, rfl, y, dx3, _, rfl, hy3, rfl, _, rfl, _, rfl, y, b, t, D, L, rs, es, ws ++ [("begun" : Str)], kb, ts, good, rest, rfl, dk3, ho, hD3, nDt, hp3, hv, by rw [List.length_append]; show _ + 1 + _ ≤ 900; omega, h10, fun er p xs b' es' H4 np4 hp4 hvs pm ok4 dk4 k4 => ?_, fun d more er => ?_⟩
      · obtain ⟨⟨dx4, hy4⟩, _, ht4⟩ := id dk4
        refine ⟨_, rfl, y, C, dx4, _, _, rfl, hy4, S.cl, S.nT, d_to, .inl ⟨rfl, _, .inl (.inl ht4)⟩, t, _, _, rfl, rfl, ht4, wl good rfl, ?_⟩
        obtain ⟨dk5, k5⟩ := dk4.word hy4 "ended" true
        have e5 : (upd H4 t (.lst (wordsV (ws ++ [("begun" : Str)] ++ good.map wordM) ++ [.str "ended"]))) y = some (.ins C dx4 (fldD b' t false)) := by rw [upd_ne nyt]; exact hy4
        refine ⟨_, rfl, y, C, dx4, _, rfl, e5, S.cl, S.nI, (by show 3 < 1000; decide), ?_⟩
        rw [p_id]
        have npy : p ≠ y := fun z => by rw [z, hy3] at np4; cases np4
        have npt : p ≠ t := fun z => by rw [z, ht3] at np4; cases np4
        rw [et] at dk5
        refine q er p xs b' es' _ (kd_free k03 hy3 ht3 np4) (k5.keep hp4 npy npt) (paired_mono (fun _ _ z => ValAt.kt z (dk4.kt k5)) hvs) pm ok4 dk5 (k03.trans (k4.trans k5))
      · obtain ⟨e1, e2', q1, q2⟩ := qE d more er
        refine ⟨e1, e2', fun x b' es' H4 ek pm ok4 dk4 k4 nx4 hx4 => ?_, fun x H4 ek dk4 k4 nx4 hx4 => ?_⟩
        · obtain ⟨⟨dx4, hy4⟩, _, ht4⟩ := id dk4
          refine ⟨_, rfl, y, C, dx4, _, _, rfl, hy4, S.cl, S.nT, d_to, .inl ⟨rfl, _, .inl (.inl ht4)⟩, t, _, _, rfl, rfl, ht4, wl good rfl, ?_⟩
          obtain ⟨dk5, k5⟩ := dk4.word hy4 "ended" true
          have e5 : (upd H4 t (.lst (wordsV (ws ++ [("begun" : Str)] ++ good.map wordM) ++ [.str "ended"]))) y = some (.ins C dx4 (fldD b' t false)) := by rw [upd_ne nyt]; exact hy4
          refine ⟨_, rfl, y, C, dx4, _, rfl, e5, S.cl, S.nI, (by show 3 < 1000; decide), ?_⟩
          rw [p_id]
          have nxy : x ≠ y := fun z => by rw [z, hy3] at nx4; cases nx4
          have nxt : x ≠ t := fun z => by rw [z, ht3] at nx4; cases nx4
          rw [et] at dk5
          exact q1 x b' es' _ ek pm ok4 dk5 (k03.trans (k4.trans k5)) (kd_free k03 hy3 ht3 nx4) (k5.keep hx4 nxy nxt)
        · obtain ⟨⟨dx4, hy4⟩, _, ht4⟩ := id dk4
          refine ⟨_, rfl, y, C, dx4, _, _, rfl, hy4, S.cl, S.nT, d_to, .inl ⟨rfl, _, .inl (.inl ht4)⟩, t, _, _, rfl, rfl, ht4, wl good rfl, ?_⟩
          obtain ⟨dk5, k5⟩ := dk4.word hy4 "ended" true
          have e5 : (upd H4 t (.lst (wordsV (ws ++ [("begun" : Str)] ++ good.map wordM) ++ [.str "ended"]))) y = some (.ins C dx4 (fldD b t false)) := by rw [upd_ne nyt]; exact hy4
          refine ⟨_, rfl, y, C, dx4, _, rfl, e5, S.cl, S.nI, (by show 3 < 1000; decide), ?_⟩
          rw [p_id]
          have nxy : x ≠ y := fun z => by rw [z, hy3] at nx4; cases nx4
          have nxt : x ≠ t := fun z => by rw [z, ht3] at nx4; cases nx4
          rw [et] at dk5
          exact q2 x _ ek dk5 (k03.trans (k4.trans k5)) (kd_free k03 hy3 ht3 nx4) (k5.keep hx4 nxy nxt)
    · have := List.mem_of_getElem? hm
      rw [List.mem_map] at this
      obtain ⟨_, _, z⟩ := this
      cases z
end
end Say
namespace Say
open PySem PySem.Spec PyProof.Rows L2
section
variable {P : Program} {w : World} {K : PySem.W.Frag} {mg : Str → Option Value} {base : Heap}
abbrev sLF : Stmt := topS 77
theorem scLF : FnScope ["_law_rule_here", "_law_word_here", "_law_place", "_law_far", "_law_at", "_law_end"] ["_law_rule_here", "_law_word_here", "_law_place"] (defScope sLF) := ⟨rfl, rfl, rfl, by decide +kernel, rfl, by decide +kernel, by decide +kernel⟩
def spLF : Sp := fun vs H Q _ => ∃ (t : Addr) (ρ : Rule) (wd : List Nat) (p : Nat), vs = [.ref t, .str (T wd), .int p] ∧ H t = some (.tup ρ.vs) ∧ RlOk ρ ∧ p < wd.length ∧ wd.length ≤ 4000000 ∧
  Q (.bl (fitsL ρ (sgn wd) (p + 1))) H
theorem ok_LF {f : Addr} {fd : FuncData} {k : Nat} (F : Fun K "_law_fits" "_law_fits" sLF f fd) (B : Bn mg) : FnOk P w K mg base CX0 (k + 1) f fd ["_law_rule_here", "_law_word_here", "_law_place"] spLF := by
  refine F.ok scLF (fun vs H Q E h => ?_) (fun cdv A outer s H vs Q E hr h => ?_)
  · obtain ⟨t, ρ, wd, p, rfl, _⟩ := h
    rfl
  · obtain ⟨t, ρ, wd, p, rfl, ht, ho, hp, hw, q⟩ := h
    refine ⟨_, pss_cons (ps_set (i := 3) scLF.nd rfl (.inl rfl) (pe_op op_add_str (pe_op op_add_str pe_str (pv 1)) pe_str))
      (pss_cons (ps_par (i := 4) (j := 5) (by rfl) scLF.nd rfl rfl (by decide) rfl rfl (pa_cons (pe_op op_add (pv 2) pe_int) (pa_cons (pe_op op_add (pe_op op_add (pv 2) pe_int) (pe_callB call_len_str (by rfl) B.len PySem.boot_len (pa_cons (pe_ix ix_tup (pv 0) pe_int (fun _ _ => rfl)) pa_nil))) pa_nil)) (by rfl))
      (pss_cons (ps_if (pt_cmpR op_ne (pe_slice sl_str (pv 3) (po_some (pv 4)) (po_some (pv 5))) (pe_ix ix_tup (pv 0) pe_int (fun _ _ => rfl)) (nomark _)) (pss_one (ps_ret pe_bl)) pss_nil)
      (pss_one (ps_ret (pe_and (pe_or (pe_cmpR op_eq (pe_ix ix_tup (pv 0) pe_int (fun _ _ => rfl)) pe_str (nomark _)) (pe_one (pe_cmpR op_in_sign (pe_ix ix_str (pv 3) (pe_op op_sub (pv 4) pe_int) (fun _ _ => rfl)) (pe_ix ix_tup (pv 0) pe_int (fun _ _ => rfl)) rfl)))
        (pe_one (pe_or (pe_cmpR op_eq (pe_ix ix_tup (pv 0) pe_int (fun _ _ => rfl)) pe_str (nomark _)) (pe_one (pe_cmpR op_in_sign (pe_ix ix_str (pv 3) (pv 5) (fun _ _ => rfl)) (pe_ix ix_tup (pv 0) pe_int (fun _ _ => rfl)) rfl))))))))), ?_⟩
    have hT : SqT K H t ρ.vs := .inl (.inl ht)
    have l2 := ho.o2
    have hzl : (T (sgn wd)).length ≤ sizeLine := by rw [T_len, sgn_len]; exact small (by omega)
    have hol : (T ρ.ow).length ≤ sizeLine := by rw [T_len]; exact small (by omega)
    refine ⟨_, rfl, _, _, rfl, rfl, (by rw [len_hash, T_len]; exact small (by omega)), _, _, rfl, rfl, ?_, ?_⟩
    · rw [hash_app, T_len, len_hash, List.length_cons]
      exact small (by omega)
    rw [hash_app, app_hash]
    show tSeq _ _ _ _ _
    refine ⟨_, rfl, _, _, rfl, rfl, _, rfl, _, _, rfl, rfl, _, rfl, t, _, 1, .str (T ρ.ow), rfl, rfl, hT, atI_nat (j := 1) rfl, _, rfl, hol, _, _, rfl, rfl, _, _, rfl, ?_⟩
    refine ⟨_, rfl, _, rfl, _, rfl, _, rfl, _, rfl, T (sgn wd), rfl, hzl, ?_⟩
    have e1 : ((p : Nat) : Int) + 1 = ((p + 1 : Nat) : Int) := by omega
    have e2 : ((p + 1 : Nat) : Int) + ((T ρ.ow).length : Int) = ((p + 1 + ρ.ow.length : Nat) : Int) := by rw [T_len]; omega
    rw [e1, e2, cut_at (by rw [sgn_len]; omega)]
    refine ⟨_, rfl, t, _, 1, .str (T ρ.ow), rfl, rfl, hT, atI_nat (j := 1) rfl, ?_⟩
    refine ⟨rfl, _, rfl, ?_⟩
    have eow : (V.str (T (((sgn wd).drop (p + 1)).take ρ.ow.length)) = V.str (T ρ.ow)) ↔ ((sgn wd).drop (p + 1)).take ρ.ow.length = ρ.ow :=
      ⟨fun z => T_inj (V.str.inj z), fun z => by rw [z]⟩
    by_cases c : ((sgn wd).drop (p + 1)).take ρ.ow.length = ρ.ow
    · rw [decide_eq_true (eow.mpr c)]
      refine iteF ?_
      have room := fit_room c ho.o1 ho.h35
      unfold fitsL at q
      rw [if_pos c] at q
      have hzl' : (sgn wd).length = wd.length + 2 := sgn_len wd
      refine ⟨_, rfl, t, _, 0, .str (T ρ.ah), rfl, rfl, hT, atI_nat (j := 0) rfl, rfl, _, rfl, ?_⟩
      rw [dec_nil]
      have g1 : (T (sgn wd)).cps.toList[p]? = some ((sgn wd).getD (p + 1 - 1) 0) := by rw [Nat.add_sub_cancel, T_cps, List.getD_eq_getElem?_getD, List.getElem?_eq_getElem (by omega)]; rfl
      have g2 : (T (sgn wd)).cps.toList[p + 1 + ρ.ow.length]? = some ((sgn wd).getD (p + 1 + ρ.ow.length) 0) := by rw [T_cps, List.getD_eq_getElem?_getD, List.getElem?_eq_getElem (by omega)]; rfl
      refine ite2 (fun c1 => ?_) (fun c1 => ?_)
      · refine ⟨true, rfl, iteT ?_⟩
        have q2 : Q (.bl (decide (ρ.be = []) || decide ((sgn wd).getD (p + 1 + ρ.ow.length) 0 ∈ ρ.be))) H := by
          rw [c1, Bool.true_or, Bool.true_and] at q; exact q
        refine ⟨_, rfl, t, _, 2, .str (T ρ.be), rfl, rfl, hT, atI_nat (j := 2) rfl, rfl, _, rfl, ?_⟩
        rw [dec_nil]
        refine ite2 (fun d1 => ?_) (fun d1 => ?_)
        · rw [d1, Bool.true_or] at q2
          exact q2
        · rw [Bool.eq_false_iff.mpr d1, Bool.false_or] at q2
          exact ⟨_, rfl, _, rfl, T (sgn wd), _, _, rfl, rfl, hzl, atI_nat g2, _, rfl, t, _, 2, .str (T ρ.be), rfl, rfl, hT, atI_nat (j := 2) rfl, _, T ρ.be, rfl, rfl, q2⟩
      · rw [Bool.eq_false_iff.mpr c1, Bool.false_or] at q
        refine ⟨_, rfl, _, rfl, _, _, rfl, rfl, T (sgn wd), _, _, rfl, rfl, hzl, atI_of g1 (by omega), _, rfl, t, _, 0, .str (T ρ.ah), rfl, rfl, hT, atI_nat (j := 0) rfl, _, T ρ.ah, rfl, rfl, _, rfl, ?_⟩
        refine ite2 (fun c2 => ?_) (fun c2 => ?_)
        · have q2 : Q (.bl (decide (ρ.be = []) || decide ((sgn wd).getD (p + 1 + ρ.ow.length) 0 ∈ ρ.be))) H := by
            rw [show decide ((sgn wd).getD (p + 1 - 1) 0 ∈ ρ.ah) = true from c2, Bool.true_and] at q; exact q
          refine ⟨_, rfl, t, _, 2, .str (T ρ.be), rfl, rfl, hT, atI_nat (j := 2) rfl, rfl, _, rfl, ?_⟩
          rw [dec_nil]
          refine ite2 (fun d1 => ?_) (fun d1 => ?_)
          · rw [d1, Bool.true_or] at q2
            exact q2
          · rw [Bool.eq_false_iff.mpr d1, Bool.false_or] at q2
            exact ⟨_, rfl, _, rfl, T (sgn wd), _, _, rfl, rfl, hzl, atI_nat g2, _, rfl, t, _, 2, .str (T ρ.be), rfl, rfl, hT, atI_nat (j := 2) rfl, _, T ρ.be, rfl, rfl, q2⟩
        · rw [show decide ((sgn wd).getD (p + 1 - 1) 0 ∈ ρ.ah) = false from Bool.eq_false_iff.mpr c2, Bool.false_and] at q
          exact q
    · rw [decide_eq_false fun z => c (eow.mp z)]
      refine iteT ?_
      unfold fitsL at q
      rw [if_neg c] at q
      exact q
end
end Say
namespace Say
open PySem PySem.Spec PyProof.Rows L2
/-- the numbers of all rules that fit -/
def allFit (rs : List Rule) (z : List Nat) (i n : Nat) : List Nat := (List.range n).filter fun k => fitsL (ruleAt rs k) z i
theorem ff_all (rs : List Rule) (z : List Nat) (i : Nat) : ff rs z i = (allFit rs z i rs.length).head? := by
  unfold allFit
  rw [List.head?_filter]
  cases e : ff rs z i with
  | none =>
    symm
    refine List.find?_eq_none.mpr fun k hk => ?_
    have hk := List.mem_range.mp hk
    have := List.findIdx?_eq_none_iff.mp e rs[k] (List.getElem_mem hk)
    rw [ruleAt_eq (List.getElem?_eq_getElem hk), this]
    exact Bool.false_ne_true
  | some k =>
    symm
    obtain ⟨h1, h2, h3⟩ := List.findIdx?_eq_some_iff_getElem.mp e
    refine List.find?_range_eq_some.mpr ⟨?_, List.mem_range.mpr h1, fun j hj => ?_⟩
    · rw [ruleAt_eq (List.getElem?_eq_getElem h1)]
      exact h2
    · have := h3 j hj
      rw [ruleAt_eq (List.getElem?_eq_getElem (show j < rs.length by omega))]
      simpa using this
theorem allFit_next (rs : List Rule) (z : List Nat) (i n : Nat) : allFit rs z i (n + 1) = allFit rs z i n ++ (if fitsL (ruleAt rs n) z i = true then [n] else []) := by
  unfold allFit
  rw [List.range_succ, List.filter_append]
  congr 1
  by_cases c : fitsL (ruleAt rs n) z i = true
  · rw [if_pos c]
    exact List.filter_cons_of_pos (p := fun k => fitsL (ruleAt rs k) z i) c
  · rw [if_neg c]
    exact List.filter_cons_of_neg (p := fun k => fitsL (ruleAt rs k) z i) c
theorem allFit_len (rs : List Rule) (z : List Nat) (i n : Nat) : (allFit rs z i n).length ≤ n := by
  unfold allFit
  have := List.length_filter_le (fun k => fitsL (ruleAt rs k) z i) (List.range n)
  rwa [List.length_range] at this
section
variable {P : Program} {w : World} {K : PySem.W.Frag} {mg : Str → Option Value} {base : Heap}
theorem dp_ints {H : Hp} : ∀ ks : List Nat, DpAll K H (ks.map fun k => V.int (k : Nat)) (ks.map fun k => PyData.int (k : Nat))
  | [] => .nil
  | k :: r => .cons (.int _) (dp_ints r)
theorem eqv_nil (ds : List PyData) : PyData.eqv (.list ds) (.list []) = ds.isEmpty := by
  cases ds <;> rfl
theorem shaped_ints (ks : List Nat) : SeqAt.shaped (.list (ks.map fun k => PyData.int (k : Nat))) = true := by
  have := PySem.W.ke_shaped_ints (ks.map fun k => ((k : Nat) : Int))
  rw [List.map_map] at this
  exact this
abbrev sLW : Stmt := topS 78
theorem scLW : FnScope ["_law_rules_here", "_law_word_here", "_law_place", "_law_found", "_law_some", "_law_k"] ["_law_rules_here", "_law_word_here"] (defScope sLW) := ⟨rfl, rfl, rfl, by decide +kernel, rfl, by decide +kernel, by decide +kernel⟩
def spLW : Sp := fun vs H Q _ => ∃ (R : Addr) (rs : List Rule) (wd : List Nat), vs = [.ref R, .str (T wd)] ∧ RulesAt H R rs ∧ (∀ ρ ∈ rs, RlOk ρ) ∧ wd.length ≤ 4000000 ∧ rs.length ≤ 500 ∧
  ∀ (t : Addr) (H' : Hp), Same H H' → LWAt H' t (W rs wd) → Q (.ref t) H'
theorem ok_LW {f : Addr} {fd : FuncData} (F : Fun K "_law_walk" "_law_walk" sLW f fd) (B : Bn mg) (DF : Df P w K mg base "_law_fits" ["_law_rule_here", "_law_word_here", "_law_place"] 1 spLF) : FnOk P w K mg base CX0 2 f fd ["_law_rules_here", "_law_word_here"] spLW := by
  obtain ⟨fF, fdF, GF, kF, bF, mF⟩ := DF
  refine F.ok scLW (fun vs H Q E h => ?_) (fun cdv A outer s H vs Q E hr h => ?_)
  · obtain ⟨R, rs, wd, rfl, _⟩ := h
    rfl
  · obtain ⟨R, rs, wd, rfl, hR, ho, hw, hrs, q⟩ := h
    refine ⟨_, pss_cons (ps_asg (pe_tup (pa_cons pe_int (pa_cons (pe_lst pa_nil) pa_nil))) (pg_tup (by rfl) (pgs_cons (pg_name (i := 2) scLW.nd rfl (.inr rfl)) (pgs_cons (pg_name (i := 3) scLW.nd rfl (.inl rfl)) pgs_nil))))
      (pss_cons (ps_while PassesOwn.never (pt_cmpR op_lt (pv 2) (pe_callB call_len_str (by rfl) B.len PySem.boot_len (pa_cons (pv 1) pa_nil)) (nomark _))
        (pss_cons (ps_setLc (i := 4) (own := [("_law_k", 5)]) (g := gName 5) (te := tVar 5) (tt := tB (tCall spLF [] E0 (tCons (tOp (rIxT K) (tVar 0) (tVar 5)) (tCons (tVar 1) (tCons (tVar 2) tNil))))) rfl scLW.nd rfl rfl (sw_true rfl rfl rfl (by decide +kernel))
            (pi_range1 rfl B.rng (pa_cons (pe_callB call_len (by rfl) B.len PySem.boot_len (pa_cons (pv 0) pa_nil)) pa_nil))
            (blkOk_by (N := ["_law_rules_here", "_law_word_here", "_law_place", "_law_found", "_law_some", "_law_k"]) (sc := defScope sLW) (by decide +kernel)) (fun _ _ _ _ _ => pg_name (i := 5) scLW.nd rfl (.inl rfl))
            (fun _ _ _ _ _ => pts_one (pt_val (pe_call GF hr (by rfl) mF kF bF .nil pass0 (pa_cons (pe_ix ix_tup (pv 0) (pv 5) (fun _ _ => rfl)) (pa_cons (pv 1) (pa_cons (pv 2) pa_nil)))))) (fun _ _ _ _ _ => pv 5))
        (pss_cons (ps_if (pt_cmpR (op_eqD hr.units) (pv 4) (pe_lst pa_nil) (nomark _)) (pss_one (ps_ret (pe_tup (pa_cons pe_str (pa_cons (pv 2) pa_nil))))) pss_nil)
        (pss_cons (ps_expr (pe_bm PySem.F.plainAttrs_list PySem.F.slot_list_append PySem.F.type_list_append mt_append (pv 3) (pa_cons (pe_tup (pa_cons (pv 2) (pa_cons (pe_ix ix_list (pv 4) pe_int (fun _ _ => rfl)) pa_nil))) pa_nil)))
        (pss_one (ps_set (i := 2) scLW.nd rfl (.inr rfl) (pe_op op_add (pv 2) (pe_callB call_len_str (by rfl) B.len PySem.boot_len (pa_cons (pe_ix ix_tup (pe_ix ix_tup (pv 0) (pe_ix ix_list (pv 4) pe_int (fun _ _ => rfl)) (fun _ _ => rfl)) pe_int (fun _ _ => rfl)) pa_nil)))))))))
      (pss_one (ps_ret (pe_tup (pa_cons pe_str (pa_cons (pv 3) pa_nil)))))), ?_⟩
    refine ⟨(by show 0 ≤ sizeLine; decide), fun D hD => ?_⟩
    refine ⟨(by show 2 ≤ sizeLine; decide), fun u hu => ?_⟩
    refine ⟨u, _, rfl, .inl (.inl upd_same), rfl, _, _, rfl, _, _, rfl, rfl, ?_⟩
    obtain ⟨rts, hRt, hRp⟩ := id hR
    have hz0 : (T wd).length ≤ sizeLine := by rw [T_len]; exact small (by omega)
    have s0 : Same H (upd H D (.lst [])) := same_new hD _
    have s1 : Same H (upd (upd H D (.lst [])) u (.tup [.int 0, .ref D])) := s0.trans (same_new hu _)
    have hD1 : (upd (upd H D (.lst [])) u (.tup [.int 0, .ref D])) D = some (.lst []) := same_new hu _ _ _ upd_same
    refine ⟨fun m σ H2 => ∃ (p : Nat) (acc : List (Nat × Nat)) (v4 : Option V), σ = [some (.ref R), some (.str (T wd)), some (.int p), some (.ref D), v4, none] ∧ wd.length + 1 ≤ p + m ∧ Same H H2 ∧ StepsAt H2 D acc ∧
      W rs wd = (acc ++ (wk rs (sgn wd) m (p + 1)).1, (wk rs (sgn wd) m (p + 1)).2), ⟨wd.length + 1, 0, [], _, rfl, by omega, s1, ⟨[], hD1, .nil⟩, rfl⟩, fun m σ H2 hW => ?_⟩
    obtain ⟨p, acc, v4, rfl, hm, s2, hS, hW⟩ := hW
    refine ⟨_, rfl, _, rfl, _, rfl, hz0, _, _, rfl, rfl, _, rfl, ite2 (fun c => ?_) (fun c => ?_)⟩
    · have c' : (p : Int) < ((T wd).length : Int) := of_decide_eq_true c
      rw [T_len] at c'
      have hp : p < wd.length := by omega
      have hlt : p + 1 < (sgn wd).length - 1 := by rw [sgn_len]; omega
      obtain ⟨m', rfl⟩ : ∃ m', m = m' + 1 := ⟨m - 1, by omega⟩
      refine ⟨fun σ' H' => ∃ (p : Nat) (acc : List (Nat × Nat)) (v4 : Option V), σ' = [some (.ref R), some (.str (T wd)), some (.int p), some (.ref D), v4, none] ∧ wd.length + 1 ≤ p + m' ∧ Same H H' ∧ StepsAt H' D acc ∧
        W rs wd = (acc ++ (wk rs (sgn wd) m' (p + 1)).1, (wk rs (sgn wd) m' (p + 1)).2), fun σ' H' h => ⟨m', Nat.lt_succ_self _, h⟩, ?_⟩
      have rl : (rts.map V.ref).length = rs.length := by rw [List.length_map, paired_len hRp]
      refine ⟨_, rfl, _, _, rfl, .inr ⟨_, .inl (.inl (s2 _ _ hRt)), rfl⟩, _, rfl, by omega, by rw [rl]; omega, fun S hSn => ?_⟩
      have hSnD : D ≠ S := by
        obtain ⟨ts, h1, _⟩ := hS
        exact ne_of_none h1 hSn
      refine lc_it (walk_range) (fun j H3 => H3 S = some (.lst ((allFit rs (sgn wd) (p + 1) j).map fun k => V.int (k : Nat))) ∧ Same H2 H3) ?_ (fun _ _ _ _ => trivial) ?_ ?_
      · exact ⟨upd_same, same_new hSn _⟩
      · rintro j x H3 H3' hj ⟨e1, e2⟩ ⟨rfl, rfl⟩
        rw [rl] at hj
        have hj : j < rs.length := by omega
        obtain ⟨a, ha, hat⟩ := paired_at' hRp (List.getElem?_eq_getElem hj)
        have er : ruleAt rs j = rs[j] := ruleAt_eq (List.getElem?_eq_getElem hj)
        have sR := s2.trans e2
        have en := allFit_next rs (sgn wd) (p + 1) j
        rw [er] at en
        refine ⟨rfl, ?_⟩
        refine ⟨_, rfl, _, rfl, R, _, 0 + (j : Int), .ref a, rfl, rfl, .inl (.inl (sR _ _ hRt)), atI_of (by rw [List.getElem?_map, ha]; rfl) (by omega), _, rfl, _, rfl, a, rs[j], wd, p, rfl, sR _ _ hat, ho _ (List.getElem_mem hj), hp, by omega, _, rfl, ite2 (fun c => ?_) (fun c => ?_)⟩
        · rw [if_pos c] at en
          refine ⟨_, rfl, _, e1, ?_, ?_, ?_⟩
          · rw [List.length_map]
            have := allFit_len rs (sgn wd) (p + 1) j
            exact smallM (by omega)
          · rw [upd_same, en, List.map_append]
            show some (HO.lst (_ ++ [V.int (0 + (j : Int))])) = _
            rw [Int.zero_add]
            rfl
          · exact fun b u q => by
              rw [upd_ne (ne_of_none q hSn)]
              exact e2 b u q
        · rw [if_neg c, List.append_nil] at en
          exact ⟨by rw [en]; exact e1, e2⟩
      · rintro H3 ⟨e1, e2⟩
        rw [show ((((rts.map V.ref).length : Nat) : Int)).toNat = rs.length by rw [rl]; omega] at e1
        have s3 := s2.trans e2
        obtain ⟨ts, hDl, hDp⟩ := hS.same e2
        have eff := ff_all rs (sgn wd) (p + 1)
        refine ⟨_, rfl, (by show 0 ≤ sizeLine; decide), fun N hN => ?_⟩
        have sN := same_new hN (.lst [])
        have e1N := sN _ _ e1
        refine ⟨_, .list [], .lst (.inl (.inl e1N)) (dp_ints _), .lst (.inl (.inl upd_same)) .nil, shaped_ints _, by decide +kernel, _, rfl, ?_⟩
        rw [eqv_nil]
        have s3N := s3.trans sN
        cases ea : allFit rs (sgn wd) (p + 1) rs.length with
        | nil =>
          rw [ea] at eff
          rw [wk_none hlt eff] at hW
          refine iteT ?_
          refine ⟨_, rfl, (by show 2 ≤ sizeLine; decide), fun t ht => ?_⟩
          refine q t _ (s3N.trans (same_new ht _)) ?_
          unfold LWAt
          rw [hW]
          show upd _ t _ t = _
          rw [upd_same]
          rfl
        | cons k r =>
          rw [ea] at eff
          have eff : ff rs (sgn wd) (p + 1) = some k := eff
          rw [wk_some hlt eff] at hW
          have hk := ff_lt eff
          obtain ⟨a, ha, hat⟩ := paired_at' hRp (List.getElem?_eq_getElem hk)
          have hm2 := ho _ (List.getElem_mem hk)
          have er : ruleAt rs k = rs[k] := ruleAt_eq (List.getElem?_eq_getElem hk)
          refine iteF ?_
          rw [ea] at e1N
          have hDlN := sN _ _ hDl
          refine ⟨_, rfl, .inl ⟨rfl, _, .inl (.inl hDlN)⟩, _, rfl, _, rfl, S, _, 0, .int (k : Nat), rfl, rfl, .inl (.inl e1N), atI_nat (j := 0) rfl, (by show 2 ≤ sizeLine; decide), fun t ht => ?_⟩
          have sm := same_new ht (.tup [.int (p : Nat), .int (k : Nat)])
          have hDl' := sm _ _ hDlN
          have sall : Same H (upd (upd (upd H3 N (.lst [])) t (.tup [.int (p : Nat), .int (k : Nat)])) D (.lst (ts.map V.ref ++ [.ref t]))) := fun b u e => by
            rw [upd_ne (ne_of_none e hD)]
            exact sm _ _ (s3N _ _ e)
          refine ⟨D, _, _, rfl, rfl, hDl', ?_, ?_⟩
          · rw [List.length_map, paired_len hDp]
            have l1 : (W rs wd).1.length ≤ wd.length + 1 := wk_len rs (sgn wd) (wd.length + 1) 1
            rw [hW] at l1
            simp at l1
            exact smallM (by omega)
          · have e1M : (upd (upd (upd H3 N (.lst [])) t (.tup [.int (p : Nat), .int (k : Nat)])) D (.lst (ts.map V.ref ++ [.ref t]))) S = some (.lst ((k :: r).map fun k => V.int (k : Nat))) := by
              rw [upd_ne hSnD.symm]
              exact sm _ _ e1N
            refine ⟨_, rfl, _, rfl, _, rfl, S, _, 0, .int (k : Nat), rfl, rfl, .inl (.inl e1M), atI_nat (j := 0) rfl, R, _, (k : Int), .ref a, rfl, rfl, .inl (.inl (sall _ _ hRt)), atI_nat (by rw [List.getElem?_map, ha]; rfl), a, _, 1, .str (T rs[k].ow), rfl, rfl, .inl (.inl (sall _ _ hat)), atI_nat (j := 1) rfl, _, rfl, (by rw [T_len]; have := hm2.o2; exact small (by omega)), _, _, rfl, rfl, ?_⟩
            refine ⟨p + rs[k].ow.length, acc ++ [(p, k)], some (.ref S), ?_, by have := hm2.o1; omega, sall, ?_, ?_⟩
            · have ee : ((p + rs[k].ow.length : Nat) : Int) = (p : Int) + ((T rs[k].ow).length : Int) := by rw [T_len]; omega
              rw [ee]
              rfl
            · refine ⟨ts ++ [t], by rw [upd_same, List.map_append]; rfl, paired_app (paired_mono (fun t' s h => ?_) hDp) (.cons ?_ .nil)⟩
              · rw [upd_ne (ne_of h hDl (by intro z; cases z))]
                exact sm _ _ (sN _ _ h)
              · rw [upd_ne (ne_of_none hDlN ht).symm, upd_same]
            · rw [hW, er, List.append_assoc, Nat.add_right_comm p rs[k].ow.length 1, Nat.add_sub_cancel]
              rfl
    · have c' : ¬ (p : Int) < ((T wd).length : Int) := of_decide_eq_false (Bool.eq_false_iff.mpr c)
      rw [T_len] at c'
      rw [wk_end rs (sgn wd) m (p + 1) (by rw [sgn_len]; omega)] at hW
      refine ⟨_, rfl, (by show 2 ≤ sizeLine; decide), fun t ht => ?_⟩
      have sm := same_new ht (.tup [.str (Str.ofString ""), .ref D])
      refine q t _ (s2.trans sm) ?_
      unfold LWAt
      rw [hW]
      refine ⟨D, ?_, ?_⟩
      · rw [upd_same, show Str.ofString "" = T [] from nil_eq]
      · rw [List.append_nil]
        exact hS.same sm
end
end Say
namespace Say
open PySem PySem.Spec PyProof.Rows L2
section
variable {P : Program} {w : World} {K : PySem.W.Frag} {mg : Str → Option Value} {base : Heap}
abbrev sLS : Stmt := topS 79
theorem scLS : FnScope ["_law_book", "_law_word_here", "_law_other", "_law_sounds", "_law_found", "_law_place", "_law_number"] ["_law_book", "_law_word_here"] (defScope sLS) := ⟨rfl, rfl, rfl, by decide +kernel, rfl, by decide +kernel, by decide +kernel⟩
def spLS : Sp := fun vs H Q _ => ∃ (b : Addr) (L : List Nat) (rs : List Rule) (es : List Exc) (wd : List Nat), vs = [.ref b, .str (T wd)] ∧ BookAt H b L rs es ∧ (∀ ρ ∈ rs, RlOk ρ) ∧ rs.length ≤ 500 ∧ wd.length ≤ 4000000 ∧
  ∀ (t : Addr) (H' : Hp), Same H H' → H' t = some (.tup (saidV rs es wd)) → Q (.ref t) H'
theorem ok_LS {f : Addr} {fd : FuncData} (F : Fun K "_law_said" "_law_said" sLS f fd) (DW : Df P w K mg base "_law_walk" ["_law_rules_here", "_law_word_here"] 2 spLW) : FnOk P w K mg base CX0 3 f fd ["_law_book", "_law_word_here"] spLS := by
  obtain ⟨fW, fdW, GW, kW, bW, mW⟩ := DW
  refine F.ok scLS (fun vs H Q E h => ?_) (fun cdv A outer s H vs Q E hr h => ?_)
  · obtain ⟨b, L, rs, es, wd, rfl, _⟩ := h
    rfl
  · obtain ⟨b, L, rs, es, wd, rfl, ⟨R, X, hb, hR, hX⟩, ho, hrs, hw, q⟩ := h
    refine ⟨_, pss_cons (ps_for PassesOwn.never rfl (pi_tup (pe_ix ix_tup (pv 0) pe_int (fun _ _ => rfl))) (pg_tup (by rfl) (pgs_cons (pg_name (i := 2) scLS.nd rfl (.inl rfl)) (pgs_cons (pg_name (i := 3) scLS.nd rfl (.inl rfl)) pgs_nil)))
        (pss_one (ps_if (pt_cmpR op_eq (pv 2) (pv 1) (nomark _)) (pss_one (ps_ret (pe_tup (pa_cons pe_str (pa_cons (pv 3) pa_nil))))) pss_nil)))
      (pss_cons (ps_set (i := 4) scLS.nd rfl (.inl rfl) (pe_call GW hr (by rfl) mW kW bW .nil pass0 (pa_cons (pe_ix ix_tup (pv 0) pe_int (fun _ _ => rfl)) (pa_cons (pv 1) pa_nil))))
      (pss_cons (ps_if (pt_cmpR op_ne (pe_ix ix_tup (pv 4) pe_int (fun _ _ => rfl)) pe_str (nomark _)) (pss_one (ps_ret (pv 4))) pss_nil)
      (pss_one (ps_ret (pe_tup (pa_cons pe_str (pa_cons (pe_join pe_str (pe_lc (own := [("_law_place", 5), ("_law_number", 6)]) (g := gTup K 2 (gCons (gName 5) (gCons (gName 6) gNil))) (te := tOp (rIxT K) (tOp (rIxT K) (tOp (rIxT K) (tVar 0) (tC (.int 1))) (tVar 6)) (tC (.int 3))) rfl scLS.nd
        (pi_list (pe_ix ix_tup (pv 4) pe_int (fun _ _ => rfl)))
        (blkOk_by (N := ["_law_book", "_law_word_here", "_law_other", "_law_sounds", "_law_found", "_law_place", "_law_number"]) (sc := defScope sLS) (by decide +kernel)) (fun _ _ _ _ _ => pg_tup (by rfl) (pgs_cons (pg_name (i := 5) scLS.nd rfl (.inl rfl)) (pgs_cons (pg_name (i := 6) scLS.nd rfl (.inl rfl)) pgs_nil)))
        (fun _ _ _ _ _ => pts_nil) (fun _ _ _ _ _ => pe_ix ix_tup (pe_ix ix_tup (pe_ix ix_tup (pv 0) pe_int (fun _ _ => rfl)) (pv 6) (fun _ _ => rfl)) pe_int (fun _ _ => rfl)))) pa_nil))))))), ?_⟩
    obtain ⟨ts, hXl, hXp⟩ := id hX
    refine ⟨_, rfl, b, _, 2, .ref X, rfl, rfl, .inl (.inl hb), atI_nat (j := 2) rfl, X, rfl, ⟨_, .inl hXl.rd⟩, for_it (walk_tup (xs := ts.map V.ref)) (fun i σ H3 => Same H H3 ∧ (∃ v2 v3, σ = [some (.ref b), some (.str (T wd)), v2, v3, none, none, none]) ∧ ∀ j e, j < i → es[j]? = some e → ¬ e.1 = wd)
      ⟨Same.refl _, ⟨_, _, rfl⟩, fun j e h => absurd h (Nat.not_lt_zero j)⟩ (fun i σ H3 _ h => .inl (hXl.kt (.of h.1)).rd) ?_ ?_⟩
    · rintro i x σ H3 H4 hi ⟨s3, ⟨v2, v3, rfl⟩, hn⟩ ⟨rfl, hx⟩
      rw [List.getElem?_map] at hx
      obtain ⟨a, ha, e⟩ := Option.map_eq_some_iff.mp hx
      subst e
      obtain ⟨e, he, hat⟩ := paired_at hXp ha
      have hat' := s3 _ _ hat
      refine ⟨a, _, rfl, .inl (.inl hat'), rfl, _, _, rfl, _, _, rfl, rfl, ?_⟩
      refine ⟨_, rfl, _, rfl, rfl, _, rfl, ?_⟩
      rw [eqT]
      refine ite2 (fun c => ?_) (fun c => ?_)
      · have c := of_decide_eq_true c
        have ef : es.find? (fun e => decide (e.1 = wd)) = some e := by
          refine List.find?_eq_some_iff_getElem.mpr ⟨decide_eq_true c, i, (List.getElem?_eq_some_iff.mp he).1, (List.getElem?_eq_some_iff.mp he).2, fun j hj => ?_⟩
          have := hn j _ hj (List.getElem?_eq_getElem (by have := (List.getElem?_eq_some_iff.mp he).1; omega))
          simp only [this, decide_false, Bool.not_false]
        refine ⟨_, rfl, (by show 2 ≤ sizeLine; decide), fun t ht => q t _ (s3.trans (same_new ht _)) ?_⟩
        unfold saidV saidM
        rw [ef, upd_same, show Str.ofString "" = T [] from nil_eq]
      · have c := of_decide_eq_false (Bool.eq_false_iff.mpr c)
        refine ⟨s3, ⟨_, _, rfl⟩, fun j e' hj he' => ?_⟩
        by_cases ej : j = i
        · subst ej
          rw [he] at he'
          cases he'
          exact c
        · exact hn j e' (by omega) he'
    · rintro σ H3 ⟨s3, ⟨v2, v3, rfl⟩, hn⟩
      have ef : es.find? (fun e => decide (e.1 = wd)) = none := by
        refine List.find?_eq_none.mpr fun e he => ?_
        obtain ⟨j, hj⟩ := List.mem_iff_getElem?.mp he
        have := hn j e (by rw [List.length_map, paired_len hXp]; exact (List.getElem?_eq_some_iff.mp hj).1) hj
        simpa using this
      have eM : saidM rs es wd = sayW rs wd := by
        unfold saidM
        rw [ef]
      refine ⟨_, rfl, b, _, 1, .ref R, rfl, rfl, .inl (.inl (s3 _ _ hb)), atI_nat (j := 1) rfl, _, rfl, R, rs, wd, rfl, hR.kt (.of s3), ho, hw, hrs, fun t H4 s4 ht => ?_⟩
      unfold LWAt at ht
      unfold saidV at q
      rw [eM] at q
      unfold sayW at q
      cases eW : (W rs wd).2 with
      | some p =>
        rw [eW] at ht q
        rw [if_neg (fun z => by cases z)] at q
        have ht : H4 t = some (.tup [.str (Str.ofString "unsaid"), .int (p : Nat)]) := ht
        refine ⟨_, rfl, t, _, 0, .str (Str.ofString "unsaid"), rfl, rfl, .inl (.inl ht), atI_nat (j := 0) rfl, rfl, _, rfl, ?_⟩
        rw [show decide (V.str (Str.ofString "unsaid") = V.str (Str.ofString "")) = false from by decide +kernel]
        refine iteT ?_
        exact ⟨_, rfl, q t H4 (s3.trans s4) ht⟩
      | none =>
        rw [eW] at ht q
        rw [if_pos rfl] at q
        obtain ⟨D, ht, hS⟩ := ht
        obtain ⟨sts, hDl, hDp⟩ := id hS
        refine ⟨_, rfl, t, _, 0, .str (T []), rfl, rfl, .inl (.inl ht), atI_nat (j := 0) rfl, rfl, _, rfl, ?_⟩
        rw [dec_nil, decide_eq_true rfl]
        refine iteF ?_
        have hlw : (W rs wd).1.length ≤ wd.length + 1 := wk_len rs (sgn wd) (wd.length + 1) 1
        have s34 := s3.trans s4
        obtain ⟨rts, hRt, hRp⟩ := hR.kt (.of s34)
        refine ⟨⟨_, rfl⟩, _, rfl, t, _, 1, .ref D, rfl, rfl, .inl (.inl ht), atI_nat (j := 1) rfl, D, rfl, ⟨_, .inl (.inl hDl)⟩, fun D' hD' => ?_⟩
        refine lc_it (walk_list (xs := sts.map V.ref)) (fun i H2 => H2 D' = some (.lst ((((((W rs wd).1.take i).map fun s : Nat × Nat => s.2).map fun k => (ruleAt rs k).so).map T).map V.str)) ∧ Same H4 H2) ?_ (fun i H2 _ h => .inl (.inl (h.2 _ _ hDl))) ?_ ?_
        · exact ⟨upd_same, same_new hD' _⟩
        · rintro i x H2 H2' hi ⟨e1, e2⟩ ⟨rfl, hx⟩
          rw [List.getElem?_map] at hx
          obtain ⟨a, ha, e⟩ := Option.map_eq_some_iff.mp hx
          subst e
          obtain ⟨st, hst, hat⟩ := paired_at hDp ha
          have hjl : st.2 < rs.length := wk_lt _ _ st (List.mem_of_getElem? hst)
          have hi2 : i < (W rs wd).1.length := (List.getElem?_eq_some_iff.mp hst).1
          obtain ⟨ra, hra, hrat⟩ := paired_at' hRp (List.getElem?_eq_getElem hjl)
          have er : ruleAt rs st.2 = rs[st.2] := ruleAt_eq (List.getElem?_eq_getElem hjl)
          refine ⟨a, _, rfl, .inl (.inl (e2 _ _ hat)), rfl, _, _, rfl, _, _, rfl, rfl, ?_⟩
          refine ⟨rfl, ?_⟩
          refine ⟨_, rfl, b, _, 1, .ref R, rfl, rfl, .inl (.inl (e2 _ _ (s34 _ _ hb))), atI_nat (j := 1) rfl, _, rfl, R, _, (st.2 : Int), .ref ra, rfl, rfl, .inl (.inl (e2 _ _ hRt)), atI_nat (by rw [List.getElem?_map, hra]; rfl), ra, _, 3, .str (T rs[st.2].so), rfl, rfl, .inl (.inl (e2 _ _ hrat)), atI_nat (j := 3) rfl, _, e1, ?_, ?_, ?_⟩
          · rw [List.length_map, List.length_map, List.length_map, List.length_map, List.length_take]
            exact smallM (by omega)
          · rw [upd_same, List.take_add_one, hst]
            simp only [Option.toList_some, List.map_append, List.map_cons, List.map_nil, er]
          · exact fun b u q => by
              rw [upd_ne (ne_of_none q hD')]
              exact e2 b u q
        · rintro H2 ⟨e1, e2⟩
          rw [List.length_map, paired_len hDp, List.take_length] at e1
          refine ⟨Str.ofString "", D', (((W rs wd).1.map fun s : Nat × Nat => s.2).map fun k => (ruleAt rs k).so).map T, rfl, rfl, .inl (.inl (.inl e1)), ?_, ?_⟩
          · rw [sum_T]
            have := flat_len ho ((W rs wd).1.map fun s : Nat × Nat => s.2) fun k hk => by
              obtain ⟨st, hst, rfl⟩ := List.mem_map.mp hk
              exact wk_lt _ _ st hst
            rw [List.length_map] at this
            show (soL rs _).length + _ * 0 ≤ _
            omega
          · rw [show Str.ofString "" = T [] from nil_eq, join_nil]
            refine ⟨(by show 2 ≤ sizeLine; decide), fun u hu => q u _ (s34.trans (e2.trans (same_new hu _))) ?_⟩
            rw [upd_same]
            rfl
end
end Say
namespace Say
open PySem PySem.Spec PyProof.Rows L2
def wKv (L : List Nat) (RL XD : Addr) : List (Key × V) := [(Sum.inr "letters", .str (T L)), (Sum.inr "rules", .ref RL), (Sum.inr "excepted", .ref XD)]
theorem wget (L : List Nat) (RL XD : Addr) : valV (wKv L RL XD) (Sum.inr "letters" : Key) = some (.str (T L)) ∧ valV (wKv L RL XD) (Sum.inr "rules" : Key) = some (.ref RL) ∧ valV (wKv L RL XD) (Sum.inr "excepted" : Key) = some (.ref XD) := by
  have k1 : ¬ (Sum.inr "letters" : Key) = (Sum.inr "rules" : Key) := by decide +kernel
  have k2 : ¬ (Sum.inr "letters" : Key) = (Sum.inr "excepted" : Key) := by decide +kernel
  have k3 : ¬ (Sum.inr "rules" : Key) = (Sum.inr "excepted" : Key) := by decide +kernel
  refine ⟨?_, ?_, ?_⟩
  · exact valV_pos rfl
  · unfold wKv; rw [valV_neg k1]; exact valV_pos rfl
  · unfold wKv; rw [valV_neg k2, valV_neg k3]; exact valV_pos rfl
theorem wput (L : List Nat) (RL XD R2 : Addr) : putK (wKv L RL XD) (Sum.inr "rules" : Key) (.ref R2) = wKv L R2 XD := by
  have k1 : ¬ (Sum.inr "letters" : Key) = (Sum.inr "rules" : Key) := by decide +kernel
  have k3 : ¬ (Sum.inr "excepted" : Key) = (Sum.inr "rules" : Key) := by decide +kernel
  have : ((wKv L RL XD).any fun kv => decide (kv.1 = (Sum.inr "rules" : Key))) = true := List.any_eq_true.mpr ⟨(Sum.inr "rules", .ref RL), by simp [wKv], decide_eq_true rfl⟩
  unfold putK
  rw [if_pos this]
  unfold wKv
  rw [List.map_cons, List.map_cons, List.map_cons, List.map_nil, if_neg k1, if_pos rfl, if_neg k3]
section
variable {P : Program} {w : World} {K : PySem.W.Frag} {mg : Str → Option Value} {base : Heap}
abbrev sDone : Stmt := topS 80
abbrev nDone : List Str := ["_law_w", "_law_deed_here", "_law_rules_here", "_law_excepted", "_law_one", "_law_left"]
theorem scDone : FnScope nDone ["_law_w", "_law_deed_here"] (defScope sDone) := ⟨rfl, rfl, rfl, by decide +kernel, rfl, by decide +kernel, by decide +kernel⟩
/-- all but two dicts stay -/
def Kd2 (a b : Addr) (H H' : Hp) : Prop := ∀ c o, H c = some o → c ≠ a → c ≠ b → H' c = some o
theorem Kd2.of {a b : Addr} {H H' : Hp} (s : Same H H') : Kd2 a b H H' := fun c o h _ _ => s c o h
theorem Kd2.trans {a b : Addr} {H H1 H2 : Hp} (x : Kd2 a b H H1) (y : Kd2 a b H1 H2) : Kd2 a b H H2 := fun c o h n m => y c o (x c o h n m) n m
theorem Kd2.l {a b : Addr} {H : Hp} (o : HO) : Kd2 a b H (upd H a o) := fun c u h n m => by rw [upd_ne n]; exact h
theorem Kd2.r {a b : Addr} {H : Hp} (o : HO) : Kd2 a b H (upd H b o) := fun c u h n m => by rw [upd_ne m]; exact h
theorem Kd2.kt {a b : Addr} {H H' : Hp} {k1 k2 : List (Key × V)} (x : Kd2 a b H H') (ha : H a = some (.dK k1)) (hb : H b = some (.dK k2)) : KT H H' := KT.by fun t u q hu =>
  x t u q (ne_of q ha (by rcases hu with ⟨_, rfl⟩ | ⟨_, _, rfl⟩ <;> (intro z; cases z))) (ne_of q hb (by rcases hu with ⟨_, rfl⟩ | ⟨_, _, rfl⟩ <;> (intro z; cases z)))
theorem kd2_free {a b x : Addr} {o1 o2 : HO} {H H' : Hp} (k : Kd2 a b H H') (ha : H' a = some o1) (hb : H' b = some o2) (hx : H' x = none) : H x = none := by
  cases e : H x with
  | none => rfl
  | some o =>
    rw [k x o e (fun z => by rw [z, ha] at hx; cases hx) (fun z => by rw [z, hb] at hx; cases hx)] at hx
    cases hx
theorem newHd {H : Hp} {p : Addr} (h : H p = none) (o : HO) : ∃ H', upd H p o = H' ∧ Same H H' ∧ H' p = some o := ⟨_, rfl, same_new h o, upd_same⟩
def spDone (K : PySem.W.Frag) : Sp := fun vs H Q _ => ∃ (wD RL XD dt : Addr) (L : List Nat) (rs : List Rule) (es : List Exc) (d : Deed), vs = [.ref wD, .ref dt] ∧ LdAt H wD RL XD L rs es ∧ wD ≠ XD ∧ DeedAt H dt d ∧ DeedOk L rs.length d ∧ BookOk L rs [] ∧ es.length ≤ 8 ∧ (es.map (·.1)).Nodup ∧
  ∀ (u RL' : Addr) (es' : List Exc) (H' : Hp), (RL' = RL ∨ H RL' = none) → ResAt H' u (resM rs es d) → LdAt H' wD RL' XD L (rsM rs d) es' → es'.Perm (esM rs es d) → Kd2 wD XD H H' → Q (.ref u) H'
theorem ok_Done {f : Addr} {fd : FuncData} (F : Fun K "_law_done" "_law_done" sDone f fd) (B : Bn mg) (DLS : Df P w K mg base "_law_said" ["_law_book", "_law_word_here"] 3 spLS) :
    FnOk P w K mg base CX0 4 f fd ["_law_w", "_law_deed_here"] (spDone K) := by
  obtain ⟨fLS, fdLS, GLS, kLS, bLS, mLS⟩ := DLS
  refine F.ok scDone (fun vs H Q E h => ?_) (fun cdv A outer s H vs Q E hr h => ?_)
  · obtain ⟨wD, RL, XD, dt, L, rs, es, d, rfl, _⟩ := h
    rfl
  · obtain ⟨wD, RL, XD, dt, L, rs, es, d, rfl, hW, hwx, hd, dok, oB, h8, nd, q⟩ := h
    have h12 := oB.r12
    have l4 := oB.lt.l4
    have hu := hu_of hr
    refine ⟨_, pss_cons (ps_par (i := 2) (j := 3) (by rfl) scDone.nd rfl rfl (by decide) rfl rfl (pa_cons (pe_dget hu (pv 0) pe_str (fun _ _ => rfl)) (pa_cons (pe_dget hu (pv 0) pe_str (fun _ _ => rfl)) pa_nil)) (by rfl))
      (pss_cons (ps_if (pt_cmpR op_eq (pe_ix ix_tup (pv 1) pe_int (fun _ _ => rfl)) pe_str (nomark _)) (pss_cons (ps_if (pt_cmpR op_gt (pe_ix ix_tup (pv 1) pe_int (fun _ _ => rfl)) (pe_callB call_len (by rfl) B.len PySem.boot_len (pa_cons (pv 2) pa_nil)) (nomark _)) (pss_one (ps_ret (pe_tup (pa_cons pe_str (pa_cons pe_non pa_nil))))) pss_nil)
        (pss_cons (ps_if (pt_cmpR op_eq (pe_callB call_len (by rfl) B.len PySem.boot_len (pa_cons (pv 2) pa_nil)) pe_int (nomark _)) (pss_one (ps_ret (pe_tup (pa_cons pe_str (pa_cons (pe_tup (pa_cons pe_int (pa_cons (pe_ix ix_tup (pv 1) pe_int (fun _ _ => rfl)) pa_nil))) pa_nil))))) pss_nil)
        (pss_cons (ps_asg (pe_op op_cat (pe_slice sl_list (pv 2) po_none (po_some (pe_ix ix_tup (pv 1) pe_int (fun _ _ => rfl)))) (pe_lst (pa_cons (pe_ix ix_tup (pv 1) pe_int (fun _ _ => rfl)) pa_nil))) (pg_sub (pv 0) pe_str (set_dict hu)))
        (pss_cons (ps_asg (pe_op op_cat (pe_dget hu (pv 0) pe_str (fun _ _ => rfl)) (pe_slice sl_list (pv 2) (po_some (pe_ix ix_tup (pv 1) pe_int (fun _ _ => rfl))) po_none)) (pg_sub (pv 0) pe_str (set_dict hu)))
        (pss_one (ps_ret (pe_tup (pa_cons pe_str (pa_cons pe_non pa_nil))))))))) pss_nil)
      (pss_cons (ps_if (pt_cmpR op_in_seq (pe_ix ix_tup (pv 1) pe_int (fun _ _ => rfl)) (pe_tup (pa_cons pe_str (pa_cons pe_str pa_nil))) rfl) (pss_cons (ps_if (PW.pt (pw_or (pt_cmpR op_ge (pe_ix ix_tup (pv 1) pe_int (fun _ _ => rfl)) (pe_callB call_len (by rfl) B.len PySem.boot_len (pa_cons (pv 2) pa_nil)) (nomark _)) (pw_or1 (pt_cmpR op_ge (pe_ix ix_tup (pv 1) (pe_un un_neg pe_int) (fun _ _ => rfl)) (pe_callB call_len (by rfl) B.len PySem.boot_len (pa_cons (pv 2) pa_nil)) (nomark _))))) (pss_one (ps_ret (pe_tup (pa_cons pe_str (pa_cons pe_non pa_nil))))) pss_nil)
        (pss_cons (ps_par (i := 4) (j := 5) (by rfl) scDone.nd rfl rfl (by decide) rfl rfl (pa_cons (pe_ix ix_list (pv 2) (pe_ix ix_tup (pv 1) pe_int (fun _ _ => rfl)) (fun _ _ => rfl)) (pa_cons (pe_callTy call_list_of (by rfl) B.lst (by decide +kernel) (pa_cons (pv 2) pa_nil)) pa_nil)) (by rfl))
        (pss_cons (ps_expr (pe_bm PySem.F.plainAttrs_list PySem.F.slot_list_pop PySem.F.type_list_pop mt_popAt (pv 5) (pa_cons (pe_ix ix_tup (pv 1) pe_int (fun _ _ => rfl)) pa_nil)))
        (pss_cons (ps_if (pt_cmpR op_eq (pe_ix ix_tup (pv 1) pe_int (fun _ _ => rfl)) pe_str (nomark _)) (pss_cons (ps_asg (pv 5) (pg_sub (pv 0) pe_str (set_dict hu)))
          (pss_one (ps_ret (pe_tup (pa_cons pe_str (pa_cons (pv 4) pa_nil)))))) pss_nil)
        (pss_cons (ps_asg (pe_op op_cat (pe_op op_cat (pe_slice sl_list (pv 5) po_none (po_some (pe_ix ix_tup (pv 1) pe_int (fun _ _ => rfl)))) (pe_lst (pa_cons (pv 4) pa_nil))) (pe_slice sl_list (pv 5) (po_some (pe_ix ix_tup (pv 1) pe_int (fun _ _ => rfl))) po_none)) (pg_sub (pv 0) pe_str (set_dict hu)))
        (pss_one (ps_ret (pe_tup (pa_cons pe_str (pa_cons pe_non pa_nil)))))))))) pss_nil)
      (pss_cons (ps_if (pt_cmpR op_eq (pe_ix ix_tup (pv 1) pe_int (fun _ _ => rfl)) pe_str (nomark _)) (pss_one (ps_ret (pe_ifExp (pt_cmp (pc_din hu (pe_ix ix_tup (pv 1) pe_int (fun _ _ => rfl)) (pv 3))) (pe_tup (pa_cons pe_str (pa_cons (pe_dpop1 (pv 3) (pe_ix ix_tup (pv 1) pe_int (fun _ _ => rfl)) ⟨rfl, rfl, rfl, rfl⟩) pa_nil))) (pe_tup (pa_cons pe_str (pa_cons pe_non pa_nil)))))) pss_nil)
      (pss_cons (ps_if (pt_cmpR op_isN (pe_ix ix_tup (pv 1) pe_int (fun _ _ => rfl)) pe_non (nomark _)) (pss_one (ps_ret (pe_tup (pa_cons pe_str (pa_cons pe_non pa_nil))))) pss_nil)
      (pss_cons (ps_if (pt_cmpR (op_eqD hr.units) (pe_call GLS (hr.mono (by decide)) (by rfl) mLS kLS bLS .nil pass0 (pa_cons (pe_tup (pa_cons (pe_dget hu (pv 0) pe_str (fun _ _ => rfl)) (pa_cons (pe_callTy call_tuple_of (by rfl) B.tup (by decide +kernel) (pa_cons (pv 2) pa_nil)) (pa_cons (pe_tupN pa_nil) pa_nil)))) (pa_cons (pe_ix ix_tup (pv 1) pe_int (fun _ _ => rfl)) pa_nil))) (pe_tup (pa_cons pe_str (pa_cons (pe_ix ix_tup (pv 1) pe_int (fun _ _ => rfl)) pa_nil))) (nomark _)) (pss_cons (ps_expr (pe_dpop2 (pv 3) (pe_ix ix_tup (pv 1) pe_int (fun _ _ => rfl)) pe_non ⟨rfl, rfl, rfl, rfl⟩))
        (pss_one (ps_ret (pe_tup (pa_cons pe_str (pa_cons pe_bl pa_nil)))))) pss_nil)
      (pss_cons (ps_if (PW.pt (pw_and (pt_cmp (pc_dnotin hu (pe_ix ix_tup (pv 1) pe_int (fun _ _ => rfl)) (pv 3))) (pw_and1 (pt_cmpR op_eq (pe_callB call_lenD (by rfl) B.len PySem.boot_len (pa_cons (pv 3) pa_nil)) pe_int (nomark _))))) (pss_one (ps_ret (pe_tup (pa_cons pe_str (pa_cons (pe_tup (pa_cons pe_int (pa_cons pe_int pa_nil))) pa_nil))))) pss_nil)
      (pss_cons (ps_asg (pe_ix ix_tup (pv 1) pe_int (fun _ _ => rfl)) (pg_sub (pv 3) (pe_ix ix_tup (pv 1) pe_int (fun _ _ => rfl)) (set_dict hu)))
      (pss_one (ps_ret (pe_tup (pa_cons pe_str (pa_cons pe_bl pa_nil)))))))))))), ?_⟩
    have hWd : H wD = some (.dK (wKv L RL XD)) := hW.d
    obtain ⟨ts, hRL, hRp⟩ := id hW.r
    have lr := paired_len hRp
    have hXD := hW.x
    obtain ⟨g1, g2, g3⟩ := wget L RL XD
    have D1 : DGet H wD (.str "letters") (some (.str (T L))) := by rw [← g1]; exact DGet.k (k := (Sum.inr "letters" : Key)) hWd
    have D2 : DGet H wD (.str "rules") (some (.ref RL)) := by rw [← g2]; exact DGet.k (k := (Sum.inr "rules" : Key)) hWd
    have D3 : DGet H wD (.str "excepted") (some (.ref XD)) := by rw [← g3]; exact DGet.k (k := (Sum.inr "excepted" : Key)) hWd
    refine ⟨_, rfl, wD, _, rfl, D2, _, rfl, wD, _, rfl, D3, _, _, rfl, ?_⟩
    -- nothing changed
    have same : ∀ {H' : Hp} {u : Addr} {r : Res}, Same H H' → ResAt H' u r → rsM rs d = rs → esM rs es d = es → resM rs es d = r → Q (.ref u) H' := fun {H' u r} s hr' e1 e2 e3 => by
      refine q u RL es H' (.inl rfl) (by rw [e3]; exact hr') (by rw [e1]; exact hW.same s) (by rw [e2]) (.of s)
    have t2 : ∀ {H1 : Hp} {z : Str} {v : V}, Same H H1 → rsM rs d = rs → esM rs es d = es → (∀ (u : Addr) (H2 : Hp), H2 u = some (.tup [.str z, v]) → Same H1 H2 → ResAt H2 u (resM rs es d)) → 2 ≤ sizeLine ∧ ∀ p, H1 p = none → Q (.ref p) (upd H1 p (.tup [.str z, v])) := fun {H1 z v} s e1 e2 hh =>
      ⟨by decide, fun p np => same (s.trans (same_new np _)) (hh p _ upd_same (same_new np _)) e1 e2 rfl⟩
    have eqs : ∀ a b : Str, decide (V.str a = V.str b) = decide (a = b) := fun a b => decide_eq_decide.mpr ⟨fun z => V.str.inj z, fun z => by rw [z]⟩
    have neL : ∀ {b : Addr} {l : List V}, H b = some (.lst l) → b ≠ wD ∧ b ≠ XD := fun h => ⟨fun z => (by rw [z, hWd] at h; cases h), fun z => (by rw [z, hXD] at h; cases h)⟩
    have neT : ∀ {b : Addr} {l : List V}, H b = some (.tup l) → b ≠ wD ∧ b ≠ XD := fun h => ⟨fun z => (by rw [z, hWd] at h; cases h), fun z => (by rw [z, hXD] at h; cases h)⟩
    have lw3 : ∀ (R : Addr), (wKv L R XD).length < sizeLine := fun R => (by show 3 < sizeLine; decide)
    cases d with
    | put p ρ =>
      obtain ⟨a, hd, ha⟩ := hd
      refine ⟨_, rfl, dt, _, 0, .str "put", rfl, rfl, .inl (.inl hd), atI_nat (j := 0) rfl, rfl, _, rfl, ?_⟩
      rw [eqs, show decide (("put" : Str) = "put") = true from by decide +kernel]
      refine iteT ?_
      refine ⟨_, rfl, dt, _, 1, .int p, rfl, rfl, .inl (.inl (hd)), atI_nat (j := 1) rfl, _, rfl, _, _, rfl, .inl ⟨_, .inl (.inl hRL), rfl⟩, _, _, rfl, rfl, _, rfl, ite2 (fun c => ?_) (fun c => ?_)⟩
      · have c : rs.length < p := by have := of_decide_eq_true c; rw [List.length_map, lr] at this; omega
        exact t2 (Same.refl _) (if_pos c) rfl fun u H2 h _ => by
          show ResAt H2 u (if rs.length < p then .non "count" else _)
          rw [if_pos c]
          exact h
      have c : ¬ rs.length < p := by have := of_decide_eq_false (Bool.eq_false_iff.mpr c); rw [List.length_map, lr] at this; omega
      refine ⟨_, rfl, _, _, rfl, .inl ⟨_, .inl (.inl hRL), rfl⟩, rfl, _, rfl, ?_⟩
      rw [List.length_map, lr]
      by_cases c12 : rs.length = 12
      · rw [show decide (V.int ((rs.length : Nat) : Int) = V.int 12) = true from decide_eq_true (by rw [c12] <;> rfl)]
        refine iteT ?_
        refine ⟨_, rfl, dt, _, 1, .int p, rfl, rfl, .inl (.inl (hd)), atI_nat (j := 1) rfl, (by show 2 ≤ sizeLine; decide), fun q0 nq0 => ?_⟩
        obtain ⟨H1, e1, m1, g1⟩ := newHd nq0 (.tup [.int 1, .int p])
        rw [show upd H q0 _ = H1 from e1]
        exact t2 m1 ((if_neg c).trans (if_pos c12)) rfl fun u H2 h s2 => by
          show ResAt H2 u (if rs.length < p then .non "count" else if rs.length = 12 then .book 1 p else .non "")
          rw [if_neg c, if_pos c12]
          exact ⟨q0, h, s2 _ _ g1⟩
      rw [show decide (V.int ((rs.length : Nat) : Int) = V.int 12) = false from decide_eq_false fun z => c12 (by have := V.int.inj z; omega)]
      refine iteF ?_
      refine ⟨_, rfl, _, rfl, dt, _, 1, .int p, rfl, rfl, .inl (.inl (hd)), atI_nat (j := 1) rfl, p, rfl, RL, _, rfl, .inl (.inl hRL), fun s1 ns1 => ?_⟩
      obtain ⟨H1, e1, m1, y1⟩ := newHd ns1 (.lst (cutV (ts.map V.ref) none (some (p : Int))))
      rw [e1]
      rw [cut_takeW] at y1
      refine ⟨_, rfl, dt, _, 2, .ref a, rfl, rfl, .inl (.inl (m1 _ _ hd)), atI_nat (j := 2) rfl, (by show 1 ≤ sizeLine; decide), fun s2 ns2 => ?_⟩
      obtain ⟨H2, e2, m2, y2⟩ := newHd ns2 (.lst [.ref a])
      rw [show upd H1 s2 _ = H2 from e2]
      refine ⟨s1, s2, _, _, rfl, rfl, m2 _ _ y1, y2, ?_, fun s3 ns3 => ?_⟩
      · rw [List.length_take, List.length_map]
        show _ + 1 ≤ _
        exact small (by omega)
      obtain ⟨H3, e3, m3, y3⟩ := newHd ns3 (.lst ((ts.map V.ref).take p ++ [.ref a]))
      rw [e3]
      have m03 := m1.trans (m2.trans m3)
      refine ⟨_, rfl, wD, _, rfl, .inl ⟨wKv L RL XD, Sum.inr "rules", m03 _ _ hWd, rfl, lw3 _, rfl⟩, ?_⟩
      rw [wput]
      have k4 : Kd2 wD XD H (upd H3 wD (.dK (wKv L s3 XD))) := (Kd2.of m03).trans (Kd2.l _)
      have w4 : (upd H3 wD (.dK (wKv L s3 XD))) wD = some (.dK (wKv L s3 XD)) := upd_same
      have n3 : s3 ≠ wD := fun z => by rw [z, (m1.trans m2) _ _ hWd] at ns3; cases ns3
      have y4 : (upd H3 wD (.dK (wKv L s3 XD))) s3 = some (.lst ((ts.map V.ref).take p ++ [.ref a])) := by rw [upd_ne n3]; exact y3
      have x4 : (upd H3 wD (.dK (wKv L s3 XD))) XD = some (.dK (es.map ent)) := by rw [upd_ne (Ne.symm hwx)]; exact m03 _ _ hXD
      generalize upd H3 wD (.dK (wKv L s3 XD)) = H4 at k4 w4 y4 x4 ⊢
      obtain ⟨_, v2, _⟩ := wget L s3 XD
      refine ⟨_, rfl, wD, _, rfl, (by rw [← v2]; exact DGet.k (k := (Sum.inr "rules" : Key)) w4), ?_⟩
      have hRL4 := k4 _ _ hRL (neL hRL).1 (neL hRL).2
      have kt4 := k4.kt hWd hXD
      refine ⟨_, rfl, _, rfl, dt, _, 1, .int p, rfl, rfl, .inl (.inl (k4 _ _ hd (neT hd).1 (neT hd).2)), atI_nat (j := 1) rfl, p, rfl, RL, _, rfl, .inl (.inl hRL4), fun s5 ns5 => ?_⟩
      obtain ⟨H5, e5, m5, y5⟩ := newHd ns5 (.lst (cutV (ts.map V.ref) (some (p : Int)) none))
      rw [e5]
      rw [cut_dropG] at y5
      refine ⟨s3, s5, _, _, rfl, rfl, m5 _ _ y4, y5, ?_, fun s6 ns6 => ?_⟩
      · rw [List.length_append, List.length_take, List.length_drop, List.length_map]
        show _ + 1 + _ ≤ _
        exact small (by omega)
      obtain ⟨H6, e6, m6, y6⟩ := newHd ns6 (.lst ((ts.map V.ref).take p ++ [.ref a] ++ (ts.map V.ref).drop p))
      rw [e6]
      have m46 := m5.trans m6
      refine ⟨_, rfl, wD, _, rfl, .inl ⟨wKv L s3 XD, Sum.inr "rules", m46 _ _ w4, rfl, lw3 _, rfl⟩, ?_⟩
      rw [wput]
      have n6 : s6 ≠ wD := fun z => by rw [z, m5 _ _ w4] at ns6; cases ns6
      have k7 : Kd2 wD XD H (upd H6 wD (.dK (wKv L s6 XD))) := (k4.trans (.of m46)).trans (Kd2.l _)
      have kt7 := k7.kt hWd hXD
      refine ⟨(by decide), fun u nu => ?_⟩
      have su := same_new nu (.tup [.str "", .non])
      refine q u s6 es _ (.inr (kd2_free (k4.trans (.of m5)) (m5 _ _ w4) (m5 _ _ x4) ns6)) ?_ ⟨su _ _ upd_same, ⟨ts.take p ++ [a] ++ ts.drop p, su _ _ (by rw [upd_ne n6, y6, List.map_append, List.map_append, List.map_take, List.map_drop]; rfl), ?_⟩, su _ _ (by rw [upd_ne (Ne.symm hwx)]; exact m46 _ _ x4)⟩ (List.Perm.refl _) (k7.trans (.of su))
      · show ResAt _ u (if rs.length < p then .non "count" else if rs.length = 12 then .book 1 p else .non "")
        rw [if_neg c, if_neg c12]
        exact upd_same
      · show Paired _ _ (if rs.length < p then rs else if rs.length = 12 then rs else rs.take p ++ [ρ] ++ rs.drop p)
        rw [if_neg c, if_neg c12]
        have kt8 := kt7.trans (.of su)
        exact paired_app (paired_app (paired_takeW p (paired_mono (fun _ _ h => kt8.1 _ _ h) hRp)) (.cons (kt8.1 _ _ ha) .nil)) (paired_dropG p (paired_mono (fun _ _ h => kt8.1 _ _ h) hRp))
    | drop p =>
      refine ⟨_, rfl, dt, _, 0, .str "drop", rfl, rfl, .inl (.inl hd), atI_nat (j := 0) rfl, rfl, _, rfl, ?_⟩
      rw [eqs, show decide (("drop" : Str) = "put") = false from by decide +kernel]
      refine iteF ?_
      refine ⟨_, rfl, dt, _, 0, .str "drop", rfl, rfl, .inl (.inl hd), atI_nat (j := 0) rfl, (by show 2 ≤ sizeLine; decide), fun pq npq => ?_⟩
      obtain ⟨H0, e0, m0, g0⟩ := newHd npq (.tup [.str "drop", .str "move"])
      rw [show upd H pq _ = H0 from e0]
      refine ⟨pq, _, rfl, .inr (.inl (.inl g0)), rfl, rfl, true, rfl, ?_⟩
      refine iteT ?_
      have hd0 := m0 _ _ hd
      have hRL0 := m0 _ _ hRL
      refine ⟨_, rfl, dt, _, 1, .int p, rfl, rfl, .inl (.inl (hd0)), atI_nat (j := 1) rfl, _, rfl, _, _, rfl, .inl ⟨_, .inl (.inl hRL0), rfl⟩, _, _, rfl, rfl, _, rfl, ite2 (fun c => ?_) (fun c => ?_)⟩
      · have c : ¬ p < rs.length := by have := of_decide_eq_true c; rw [List.length_map, lr] at this; omega
        exact t2 m0 (if_neg c) rfl fun u H2 h _ => by
          show ResAt H2 u (match rs[p]? with | some ρ => .rule ρ | none => .non "count")
          rw [List.getElem?_eq_none (by omega)]
          exact h
      have c : p < rs.length := by have := of_decide_eq_false (Bool.eq_false_iff.mpr c); rw [List.length_map, lr] at this; omega
      refine ⟨_, rfl, 1, rfl, dt, _, -1, .int p, rfl, rfl, .inl (.inl (hd0)), rfl, _, rfl, _, _, rfl, .inl ⟨_, .inl (.inl hRL0), rfl⟩, _, _, rfl, rfl, _, rfl, ite2 (fun c2 => ?_) (fun _ => ?_)⟩
      · have := of_decide_eq_true c2; rw [List.length_map, lr] at this; omega
      have hts : p < ts.length := by omega
      obtain ⟨tp, htp⟩ : ∃ tp, ts[p]? = some tp := ⟨_, List.getElem?_eq_getElem hts⟩
      obtain ⟨ρ, hρ, hH⟩ := paired_at hRp htp
      have hix : (ts.map V.ref)[p]? = some (.ref tp) := by rw [List.getElem?_map, htp]; rfl
      refine ⟨_, rfl, _, rfl, dt, _, 1, .int p, rfl, rfl, .inl (.inl (hd0)), atI_nat (j := 1) rfl, RL, _, p, .ref tp, rfl, rfl, .inl (.inl hRL0), at_of (j := p) rfl hix, _, rfl, RL, _, rfl, .inl (.inl (.inl hRL0)), fun l nl => ?_⟩
      obtain ⟨H1, e1, m1, y1⟩ := newHd nl (.lst (ts.map V.ref))
      rw [e1]
      have hd1 := m1 _ _ hd0
      refine ⟨_, _, rfl, ?_⟩
      refine ⟨_, rfl, .inl ⟨rfl, _, .inl (.inl y1)⟩, _, rfl, dt, _, 1, .int p, rfl, rfl, .inl (.inl (hd1)), atI_nat (j := 1) rfl, l, _, p, p, .ref tp, rfl, rfl, y1, by omega, by omega, ?_, hix, ?_⟩
      · rw [List.length_map]
        exact seqIx_nat hts
      have sL : Same H (upd H1 l (.lst ((ts.map V.ref).eraseIdx p))) := fun b o hb => by
        rw [upd_ne (ne_of_none (m0 _ _ hb) nl)]
        exact m1 _ _ (m0 _ _ hb)
      have yl : (upd H1 l (.lst ((ts.map V.ref).eraseIdx p))) l = some (.lst ((ts.map V.ref).take p ++ (ts.map V.ref).drop (p + 1))) := by rw [upd_same, List.eraseIdx_eq_take_drop_succ]
      have nl0 : H l = none := m0.free nl
      generalize upd H1 l (.lst ((ts.map V.ref).eraseIdx p)) = H2 at sL yl ⊢
      have hd2 := sL _ _ hd
      have w2 := sL _ _ hWd
      have x2 := sL _ _ hXD
      clear y1 hd1 hd0 m1 e1 hRL0
      refine ⟨_, rfl, dt, _, 0, .str "drop", rfl, rfl, .inl (.inl hd2), atI_nat (j := 0) rfl, rfl, _, rfl, ?_⟩
      rw [eqs, show decide (("drop" : Str) = "drop") = true from by decide +kernel]
      refine iteT ?_
      refine ⟨_, rfl, _, rfl, wD, _, rfl, .inl ⟨wKv L RL XD, Sum.inr "rules", w2, rfl, lw3 _, rfl⟩, ?_⟩
      rw [wput]
      have k3 : Kd2 wD XD H (upd H2 wD (.dK (wKv L l XD))) := (Kd2.of sL).trans (Kd2.l _)
      have nlw : l ≠ wD := fun z => by rw [z, hWd] at nl0; cases nl0
      refine ⟨_, rfl, (by show 2 ≤ sizeLine; decide), fun u nu => ?_⟩
      have su := same_new nu (.tup [.str "", .ref tp])
      have kt3 := (k3.kt hWd hXD).trans (.of su)
      refine q u l es _ (.inr nl0) ?_ ⟨su _ _ upd_same, ?_, su _ _ (by rw [upd_ne (Ne.symm hwx)]; exact x2)⟩ (List.Perm.refl _) (k3.trans (.of su))
      · show ResAt _ u (match rs[p]? with | some ρ => .rule ρ | none => .non "count")
        rw [hρ]
        exact ⟨tp, upd_same, kt3.1 _ _ hH⟩
      · show RListAt _ l (if p < rs.length then rs.take p ++ rs.drop (p + 1) else rs)
        rw [if_pos c]
        exact ⟨ts.take p ++ ts.drop (p + 1), su _ _ (by rw [upd_ne nlw, yl, List.map_append, List.map_take, List.map_drop]), paired_app (paired_takeW p (paired_mono (fun _ _ h => kt3.1 _ _ h) hRp)) (paired_dropG (p + 1) (paired_mono (fun _ _ h => kt3.1 _ _ h) hRp))⟩
    | move p q2 =>
      refine ⟨_, rfl, dt, _, 0, .str "move", rfl, rfl, .inl (.inl hd), atI_nat (j := 0) rfl, rfl, _, rfl, ?_⟩
      rw [eqs, show decide (("move" : Str) = "put") = false from by decide +kernel]
      refine iteF ?_
      refine ⟨_, rfl, dt, _, 0, .str "move", rfl, rfl, .inl (.inl hd), atI_nat (j := 0) rfl, (by show 2 ≤ sizeLine; decide), fun pq npq => ?_⟩
      obtain ⟨H0, e0, m0, g0⟩ := newHd npq (.tup [.str "drop", .str "move"])
      rw [show upd H pq _ = H0 from e0]
      refine ⟨pq, _, rfl, .inr (.inl (.inl g0)), rfl, rfl, true, rfl, ?_⟩
      refine iteT ?_
      have hd0 := m0 _ _ hd
      have hRL0 := m0 _ _ hRL
      refine ⟨_, rfl, dt, _, 1, .int p, rfl, rfl, .inl (.inl (hd0)), atI_nat (j := 1) rfl, _, rfl, _, _, rfl, .inl ⟨_, .inl (.inl hRL0), rfl⟩, _, _, rfl, rfl, _, rfl, ite2 (fun c => ?_) (fun c => ?_)⟩
      · have c : ¬ p < rs.length := by have := of_decide_eq_true c; rw [List.length_map, lr] at this; omega
        exact t2 m0 (if_neg fun z => c z.1) rfl fun u H2 h _ => by
          show ResAt H2 u (if p < rs.length ∧ q2 < rs.length then .non "" else .non "count")
          rw [if_neg fun z => c z.1]
          exact h
      have c : p < rs.length := by have := of_decide_eq_false (Bool.eq_false_iff.mpr c); rw [List.length_map, lr] at this; omega
      refine ⟨_, rfl, 1, rfl, dt, _, -1, .int q2, rfl, rfl, .inl (.inl (hd0)), rfl, _, rfl, _, _, rfl, .inl ⟨_, .inl (.inl hRL0), rfl⟩, _, _, rfl, rfl, _, rfl, ite2 (fun c2 => ?_) (fun c2 => ?_)⟩
      · have c2 : ¬ q2 < rs.length := by have := of_decide_eq_true c2; rw [List.length_map, lr] at this; omega
        exact t2 m0 (if_neg fun z => c2 z.2) rfl fun u H2 h _ => by
          show ResAt H2 u (if p < rs.length ∧ q2 < rs.length then .non "" else .non "count")
          rw [if_neg fun z => c2 z.2]
          exact h
      have c2 : q2 < rs.length := by have := of_decide_eq_false (Bool.eq_false_iff.mpr c2); rw [List.length_map, lr] at this; omega
      have hts : p < ts.length := by omega
      obtain ⟨tp, htp⟩ : ∃ tp, ts[p]? = some tp := ⟨_, List.getElem?_eq_getElem hts⟩
      obtain ⟨ρ, hρ, hH⟩ := paired_at hRp htp
      have hix : (ts.map V.ref)[p]? = some (.ref tp) := by rw [List.getElem?_map, htp]; rfl
      refine ⟨_, rfl, _, rfl, dt, _, 1, .int p, rfl, rfl, .inl (.inl (hd0)), atI_nat (j := 1) rfl, RL, _, p, .ref tp, rfl, rfl, .inl (.inl hRL0), at_of (j := p) rfl hix, _, rfl, RL, _, rfl, .inl (.inl (.inl hRL0)), fun l nl => ?_⟩
      obtain ⟨H1, e1, m1, y1⟩ := newHd nl (.lst (ts.map V.ref))
      rw [e1]
      have hd1 := m1 _ _ hd0
      refine ⟨_, _, rfl, ?_⟩
      refine ⟨_, rfl, .inl ⟨rfl, _, .inl (.inl y1)⟩, _, rfl, dt, _, 1, .int p, rfl, rfl, .inl (.inl (hd1)), atI_nat (j := 1) rfl, l, _, p, p, .ref tp, rfl, rfl, y1, by omega, by omega, ?_, hix, ?_⟩
      · rw [List.length_map]
        exact seqIx_nat hts
      have sL : Same H (upd H1 l (.lst ((ts.map V.ref).eraseIdx p))) := fun b o hb => by
        rw [upd_ne (ne_of_none (m0 _ _ hb) nl)]
        exact m1 _ _ (m0 _ _ hb)
      have yl : (upd H1 l (.lst ((ts.map V.ref).eraseIdx p))) l = some (.lst ((ts.map V.ref).take p ++ (ts.map V.ref).drop (p + 1))) := by rw [upd_same, List.eraseIdx_eq_take_drop_succ]
      have nl0 : H l = none := m0.free nl
      generalize upd H1 l (.lst ((ts.map V.ref).eraseIdx p)) = H2 at sL yl ⊢
      have hd2 := sL _ _ hd
      have w2 := sL _ _ hWd
      have x2 := sL _ _ hXD
      clear y1 hd1 hd0 m1 e1 hRL0
      refine ⟨_, rfl, dt, _, 0, .str "move", rfl, rfl, .inl (.inl hd2), atI_nat (j := 0) rfl, rfl, _, rfl, ?_⟩
      rw [eqs, show decide (("move" : Str) = "drop") = false from by decide +kernel]
      refine iteF ?_
      refine ⟨_, rfl, _, rfl, dt, _, 2, .int q2, rfl, rfl, .inl (.inl (hd2)), atI_nat (j := 2) rfl, q2, rfl, l, _, rfl, .inl (.inl yl), fun s3 ns3 => ?_⟩
      obtain ⟨H3, e3, m3, y3⟩ := newHd ns3 (.lst (cutV ((ts.map V.ref).take p ++ (ts.map V.ref).drop (p + 1)) none (some (q2 : Int))))
      rw [e3]
      rw [cut_takeW] at y3
      refine ⟨_, rfl, (by show 1 ≤ sizeLine; decide), fun s4 ns4 => ?_⟩
      obtain ⟨H4, e4, m4, y4⟩ := newHd ns4 (.lst [.ref tp])
      rw [show upd H3 s4 _ = H4 from e4]
      have lM : (ts.map V.ref).length = rs.length := by rw [List.length_map, lr]
      refine ⟨s3, s4, _, _, rfl, rfl, m4 _ _ y3, y4, ?_, fun s5 ns5 => ?_⟩
      · rw [List.length_take, List.length_append, List.length_take, List.length_drop]
        show _ + 1 ≤ _
        exact small (by omega)
      obtain ⟨H5, e5, m5, y5⟩ := newHd ns5 (.lst (((ts.map V.ref).take p ++ (ts.map V.ref).drop (p + 1)).take q2 ++ [.ref tp]))
      rw [e5]
      have m25 := m3.trans (m4.trans m5)
      refine ⟨_, rfl, _, rfl, dt, _, 2, .int q2, rfl, rfl, .inl (.inl (m25 _ _ hd2)), atI_nat (j := 2) rfl, q2, rfl, l, _, rfl, .inl (.inl (m25 _ _ yl)), fun s6 ns6 => ?_⟩
      obtain ⟨H6, e6, m6, y6⟩ := newHd ns6 (.lst (cutV ((ts.map V.ref).take p ++ (ts.map V.ref).drop (p + 1)) (some (q2 : Int)) none))
      rw [e6]
      rw [cut_dropG] at y6
      refine ⟨s5, s6, _, _, rfl, rfl, m6 _ _ y5, y6, ?_, fun s7 ns7 => ?_⟩
      · rw [List.length_append, List.length_take, List.length_drop, List.length_append, List.length_take, List.length_drop]
        show _ + 1 + _ ≤ _
        exact small (by omega)
      obtain ⟨H7, e7, m7, y7⟩ := newHd ns7 (.lst (((ts.map V.ref).take p ++ (ts.map V.ref).drop (p + 1)).take q2 ++ [.ref tp] ++ ((ts.map V.ref).take p ++ (ts.map V.ref).drop (p + 1)).drop q2))
      rw [e7]
      have m27 := m25.trans (m6.trans m7)
      refine ⟨_, rfl, wD, _, rfl, .inl ⟨wKv L RL XD, Sum.inr "rules", m27 _ _ w2, rfl, lw3 _, rfl⟩, ?_⟩
      rw [wput]
      have k8 : Kd2 wD XD H (upd H7 wD (.dK (wKv L s7 XD))) := (Kd2.of (sL.trans m27)).trans (Kd2.l _)
      have n7 : s7 ≠ wD := fun z => by rw [z, (m25.trans m6) _ _ w2] at ns7; cases ns7
      refine ⟨(by show 2 ≤ sizeLine; decide), fun u nu => ?_⟩
      have su := same_new nu (.tup [.str "", .non])
      have kt3 := (k8.kt hWd hXD).trans (.of su)
      have pp := paired_app (paired_takeW p (paired_mono (fun _ _ h => kt3.1 _ _ h) hRp)) (paired_dropG (p + 1) (paired_mono (fun _ _ h => kt3.1 _ _ h) hRp))
      refine q u s7 es _ (.inr ((sL.trans (m25.trans m6)).free ns7)) ?_ ⟨su _ _ upd_same, ?_, su _ _ (by rw [upd_ne (Ne.symm hwx)]; exact m27 _ _ x2)⟩ (List.Perm.refl _) (k8.trans (.of su))
      · show ResAt _ u (if p < rs.length ∧ q2 < rs.length then .non "" else .non "count")
        rw [if_pos ⟨c, c2⟩]
        exact upd_same
      · show RListAt _ s7 (if p < rs.length ∧ q2 < rs.length then moveL rs p q2 else rs)
        rw [if_pos ⟨c, c2⟩]
        unfold moveL
        rw [hρ]
        refine ⟨(ts.take p ++ ts.drop (p + 1)).take q2 ++ [tp] ++ (ts.take p ++ ts.drop (p + 1)).drop q2, su _ _ (by rw [upd_ne n7, y7]; simp only [List.map_append, List.map_take, List.map_drop]; rfl), paired_app (paired_app (paired_takeW q2 pp) (.cons (kt3.1 _ _ hH) .nil)) (paired_dropG q2 pp)⟩
    | learn wd so =>
      refine ⟨_, rfl, dt, _, 0, .str "learn", rfl, rfl, .inl (.inl hd), atI_nat (j := 0) rfl, rfl, _, rfl, ?_⟩
      rw [eqs, show decide (("learn" : Str) = "put") = false from by decide +kernel]
      refine iteF ?_
      refine ⟨_, rfl, dt, _, 0, .str "learn", rfl, rfl, .inl (.inl hd), atI_nat (j := 0) rfl, (by show 2 ≤ sizeLine; decide), fun pq npq => ?_⟩
      obtain ⟨H0, e0, m0, g0⟩ := newHd npq (.tup [.str "drop", .str "move"])
      rw [show upd H pq _ = H0 from e0]
      refine ⟨pq, _, rfl, .inr (.inl (.inl g0)), rfl, rfl, false, rfl, ?_⟩
      refine iteF ?_
      have hd0 := m0 _ _ hd
      have hRL0 := m0 _ _ hRL
      have hXD0 := m0 _ _ hXD
      have hWd0 := m0 _ _ hWd
      refine ⟨_, rfl, dt, _, 0, .str "learn", rfl, rfl, .inl (.inl hd0), atI_nat (j := 0) rfl, rfl, _, rfl, ?_⟩
      rw [eqs, show decide (("learn" : Str) = "forget") = false from by decide +kernel]
      refine iteF ?_
      refine ⟨_, rfl, dt, _, 2, .str (T so), rfl, rfl, .inl (.inl (hd0)), atI_nat (j := 2) rfl, rfl, _, rfl, iteF ?_⟩
      obtain ⟨dw, ds, d3⟩ := dok
      have D10 : DGet H0 wD (.str "letters") (some (.str (T L))) := by rw [← g1]; exact DGet.k (k := (Sum.inr "letters" : Key)) hWd0
      refine ⟨_, rfl, wD, _, rfl, D10, _, rfl, RL, _, rfl, .inl ⟨.inl (.inl hRL0), fun R nR => ?_⟩⟩
      obtain ⟨H1, e1, m1, y1⟩ := newHd nR (.tup (ts.map V.ref))
      rw [e1]
      refine ⟨(by show 0 ≤ sizeLine; decide), fun X0 ob hob nX => ?_⟩
      obtain ⟨H2, e2, m2, y2⟩ := newHd nX (.frz ob (.tup []))
      rw [e2]
      refine ⟨(by show 3 ≤ sizeLine; decide), fun bb nbb => ?_⟩
      obtain ⟨H3, e3, m3, y3⟩ := newHd nbb (.tup [.str (T L), .ref R, .ref X0])
      rw [show upd H2 bb _ = H3 from e3]
      have m03 := m0.trans (m1.trans (m2.trans m3))
      refine ⟨_, rfl, dt, _, 1, .str (T wd), rfl, rfl, .inl (.inl (m03 _ _ hd)), atI_nat (j := 1) rfl, bb, L, rs, [], wd, rfl, ⟨R, X0, y3, ⟨ts, (m2.trans m3) _ _ y1, paired_mono (fun _ _ h => m03 _ _ h) hRp⟩, [], ⟨ob, m3 _ _ y2, hob⟩, .nil⟩, oB.rls, by omega, by have := dw.l8; omega, fun t4 H4 s4 y4 => ?_⟩
      have m04 := m03.trans s4
      refine ⟨_, rfl, dt, _, 2, .str (T so), rfl, rfl, .inl (.inl (m04 _ _ hd)), atI_nat (j := 2) rfl, (by show 2 ≤ sizeLine; decide), fun t5 nt5 => ?_⟩
      obtain ⟨H5, e5, m5, y5⟩ := newHd nt5 (.tup [.str "", .str (T so)])
      rw [show upd H4 t5 _ = H5 from e5]
      have m05 := m04.trans m5
      have hM : saidM rs [] wd = sayW rs wd := rfl
      obtain ⟨d1, d2, p1, p2, p3, p4, p5⟩ := said_dueD (K := K) (m5 _ _ y4) y5 (fun s hs => by rw [hM] at hs; exact fun c hc => by have := ((say_caps oB.rl oB.lt hs).1 c hc).2; omega) (fun c hc => by have := (ds c hc).2; omega)
      refine ⟨d1, d2, p1, p2, p3, p4, _, rfl, ?_⟩
      rw [p5, hM]
      have hd5 := m05 _ _ hd
      have hXD5 := m05 _ _ hXD
      have hWd5 := m05 _ _ hWd
      have hRL5 := m05 _ _ hRL
      by_cases c : sayW rs wd = some so
      · rw [decide_eq_true c]
        refine iteT ?_
        have fin : ∀ HX : Hp, Kd2 wD XD H HX → HX XD = some (.dK ((dropW es wd).map ent)) → HX wD = some (.dK (wKv L RL XD)) → HX RL = some (.lst (ts.map V.ref)) → 2 ≤ sizeLine ∧ ∀ u, HX u = none → Q (.ref u) (upd HX u (.tup [.str "", .bl false])) := fun HX kX xX wX rX => by
          refine ⟨by decide, fun u nu => ?_⟩
          have su := same_new nu (.tup [.str "", .bl false])
          have kt3 := (kX.kt hWd hXD).trans (.of su)
          refine q u RL (dropW es wd) _ (.inl rfl) ?_ ⟨su _ _ wX, ⟨ts, su _ _ rX, paired_mono (fun _ _ h => kt3.1 _ _ h) hRp⟩, su _ _ xX⟩ ?_ (kX.trans (.of su))
          · show ResAt _ u (if sayW rs wd = some so then .bl false else _)
            rw [if_pos c]
            exact upd_same
          · show (dropW es wd).Perm (if sayW rs wd = some so then dropW es wd else _)
            rw [if_pos c]
        refine ⟨_, rfl, XD, rfl, .inl ⟨_, .inl hXD5⟩, _, rfl, dt, _, 1, .str (T wd), rfl, rfl, .inl (.inl (hd5)), atI_nat (j := 1) rfl, es.map ent, Sum.inr (T wd), hXD5, rfl, fun v hv => ?_, fun hv => ?_⟩
        · rw [drop_ent]
          exact fin _ ((Kd2.of m05).trans (Kd2.r _)) upd_same (by rw [upd_ne hwx]; exact hWd5) (by rw [upd_ne (neL hRL).2]; exact hRL5)
        · refine fin _ (.of m05) ?_ hWd5 hRL5
          rw [val_ent2, Option.map_eq_none_iff, List.find?_eq_none] at hv
          have : dropW es wd = es := List.filter_eq_self.mpr fun e he => by have := hv e he; simpa using this
          rw [this]
          exact hXD5
      rw [decide_eq_false c]
      refine iteF ?_
      have DX : DGet H5 XD (.str (T wd)) ((es.find? fun e => decide (e.1 = wd)).map fun e => V.str (T e.2)) := by
        rw [← val_ent2]
        exact DGet.k (k := (Sum.inr (T wd) : Key)) hXD5
      have setp : (dropW es wd).length ≠ 8 → (es.map ent).length < sizeLine → ∀ HX : Hp, Same H5 HX → ∃ H', DPut HX XD (.str (T wd)) (.str (T so)) H' ∧ (2 ≤ sizeLine ∧ ∀ u, H' u = none → Q (.ref u) (upd H' u (.tup [.str "", .bl true]))) := fun c8 hsz HX sX => by
        refine ⟨_, .inl ⟨es.map ent, Sum.inr (T wd), sX _ _ hXD5, rfl, hsz, rfl⟩, ?_⟩
        rw [put_ent]
        have k6 : Kd2 wD XD H (upd HX XD (.dK ((putE es wd so).map ent))) := (Kd2.of (m05.trans sX)).trans (Kd2.r _)
        refine ⟨by decide, fun u nu => ?_⟩
        have su := same_new nu (.tup [.str "", .bl true])
        have kt3 := (k6.kt hWd hXD).trans (.of su)
        refine q u RL (putE es wd so) _ (.inl rfl) ?_ ⟨su _ _ (by rw [upd_ne hwx]; exact sX _ _ hWd5), ⟨ts, su _ _ (by rw [upd_ne (neL hRL).2]; exact sX _ _ hRL5), paired_mono (fun _ _ h => kt3.1 _ _ h) hRp⟩, su _ _ upd_same⟩ ?_ (k6.trans (.of su))
        · show ResAt _ u (if sayW rs wd = some so then .bl false else if (dropW es wd).length = 8 then .book 2 8 else .bl true)
          rw [if_neg c, if_neg c8]
          exact upd_same
        · show (putE es wd so).Perm (if sayW rs wd = some so then dropW es wd else if (dropW es wd).length = 8 then es else dropW es wd ++ [(wd, so)])
          rw [if_neg c, if_neg c8]
          exact put_perm nd wd so
      have hsz : (es.map ent).length < sizeLine := by rw [List.length_map]; exact smallM (by omega)
      have ld : (dropW es wd).length ≤ es.length := List.length_filter_le _ _
      refine ⟨_, rfl, dt, _, 1, .str (T wd), rfl, rfl, .inl (.inl (hd5)), atI_nat (j := 1) rfl, _, rfl, XD, _, rfl, DX, _, rfl, ?_⟩
      cases hf : es.find? fun e => decide (e.1 = wd) with
      | some en =>
        have c8 : (dropW es wd).length ≠ 8 := fun z => by
          have he := List.mem_of_find?_eq_some hf
          have hw : en.1 = wd := by have := List.find?_some hf; simpa using this
          have : (dropW es wd).length < es.length := List.length_filter_lt_length_iff_exists.mpr ⟨en, he, by simp [hw]⟩
          omega
        refine iteF (iteF ?_)
        obtain ⟨H', pp, qq⟩ := setp c8 hsz H5 (Same.refl _)
        refine ⟨_, rfl, dt, _, 2, .str (T so), rfl, rfl, .inl (.inl (hd5)), atI_nat (j := 2) rfl, _, rfl, _, rfl, dt, _, 1, .str (T wd), rfl, rfl, .inl (.inl (hd5)), atI_nat (j := 1) rfl, XD, H', rfl, pp, qq⟩
      | none =>
        have eD : dropW es wd = es := by
          rw [List.find?_eq_none] at hf
          exact List.filter_eq_self.mpr fun e he => by have := hf e he; simpa using this
        refine iteT ?_
        refine ⟨_, rfl, XD, _, rfl, hXD5, rfl, _, rfl, ?_⟩
        rw [List.length_map]
        by_cases c8 : es.length = 8
        · rw [show decide (V.int ((es.length : Nat) : Int) = V.int 8) = true from decide_eq_true (by rw [c8] <;> rfl)]
          refine iteT ?_
          refine ⟨(by show 2 ≤ sizeLine; decide), fun q0 nq0 => ?_⟩
          obtain ⟨H6, e6, m6, y6⟩ := newHd nq0 (.tup [.int 2, .int 8])
          rw [show upd H5 q0 _ = H6 from e6]
          refine t2 (m05.trans m6) rfl ?_ fun u H7 h s7 => ?_
          · show (if sayW rs wd = some so then dropW es wd else if (dropW es wd).length = 8 then es else dropW es wd ++ [(wd, so)]) = es
            rw [if_neg c, if_pos (by rw [eD]; exact c8)]
          · show ResAt _ u (if sayW rs wd = some so then .bl false else if (dropW es wd).length = 8 then .book 2 8 else .bl true)
            rw [if_neg c, if_pos (by rw [eD]; exact c8)]
            exact ⟨q0, h, s7 _ _ y6⟩
        · rw [show decide (V.int ((es.length : Nat) : Int) = V.int 8) = false from decide_eq_false fun z => c8 (by have := V.int.inj z; omega)]
          refine iteF ?_
          obtain ⟨H', pp, qq⟩ := setp (by rw [eD]; exact c8) hsz H5 (Same.refl _)
          refine ⟨_, rfl, dt, _, 2, .str (T so), rfl, rfl, .inl (.inl (hd5)), atI_nat (j := 2) rfl, _, rfl, _, rfl, dt, _, 1, .str (T wd), rfl, rfl, .inl (.inl (hd5)), atI_nat (j := 1) rfl, XD, H', rfl, pp, qq⟩
    | learnN wd =>
      refine ⟨_, rfl, dt, _, 0, .str "learn", rfl, rfl, .inl (.inl hd), atI_nat (j := 0) rfl, rfl, _, rfl, ?_⟩
      rw [eqs, show decide (("learn" : Str) = "put") = false from by decide +kernel]
      refine iteF ?_
      refine ⟨_, rfl, dt, _, 0, .str "learn", rfl, rfl, .inl (.inl hd), atI_nat (j := 0) rfl, (by show 2 ≤ sizeLine; decide), fun pq npq => ?_⟩
      obtain ⟨H0, e0, m0, g0⟩ := newHd npq (.tup [.str "drop", .str "move"])
      rw [show upd H pq _ = H0 from e0]
      refine ⟨pq, _, rfl, .inr (.inl (.inl g0)), rfl, rfl, false, rfl, ?_⟩
      refine iteF ?_
      have hd0 := m0 _ _ hd
      have hRL0 := m0 _ _ hRL
      have hXD0 := m0 _ _ hXD
      have hWd0 := m0 _ _ hWd
      refine ⟨_, rfl, dt, _, 0, .str "learn", rfl, rfl, .inl (.inl hd0), atI_nat (j := 0) rfl, rfl, _, rfl, ?_⟩
      rw [eqs, show decide (("learn" : Str) = "forget") = false from by decide +kernel]
      refine iteF ?_
      refine ⟨_, rfl, dt, _, 2, .non, rfl, rfl, .inl (.inl (hd0)), atI_nat (j := 2) rfl, rfl, _, rfl, iteT ?_⟩
      exact t2 m0 rfl rfl fun u H2 h _ => h
    | forget wd =>
      refine ⟨_, rfl, dt, _, 0, .str "forget", rfl, rfl, .inl (.inl hd), atI_nat (j := 0) rfl, rfl, _, rfl, ?_⟩
      rw [eqs, show decide (("forget" : Str) = "put") = false from by decide +kernel]
      refine iteF ?_
      refine ⟨_, rfl, dt, _, 0, .str "forget", rfl, rfl, .inl (.inl hd), atI_nat (j := 0) rfl, (by show 2 ≤ sizeLine; decide), fun pq npq => ?_⟩
      obtain ⟨H0, e0, m0, g0⟩ := newHd npq (.tup [.str "drop", .str "move"])
      rw [show upd H pq _ = H0 from e0]
      refine ⟨pq, _, rfl, .inr (.inl (.inl g0)), rfl, rfl, false, rfl, ?_⟩
      refine iteF ?_
      have hd0 := m0 _ _ hd
      have hRL0 := m0 _ _ hRL
      have hXD0 := m0 _ _ hXD
      have hWd0 := m0 _ _ hWd
      refine ⟨_, rfl, dt, _, 0, .str "forget", rfl, rfl, .inl (.inl hd0), atI_nat (j := 0) rfl, rfl, _, rfl, ?_⟩
      rw [eqs, show decide (("forget" : Str) = "forget") = true from by decide +kernel]
      refine iteT ?_
      have DX : DGet H0 XD (.str (T wd)) ((es.find? fun e => decide (e.1 = wd)).map fun e => V.str (T e.2)) := by
        rw [← val_ent2]
        exact DGet.k (k := (Sum.inr (T wd) : Key)) hXD0
      refine ⟨_, rfl, dt, _, 1, .str (T wd), rfl, rfl, .inl (.inl (hd0)), atI_nat (j := 1) rfl, _, rfl, XD, _, rfl, DX, _, rfl, ?_⟩
      cases hf : es.find? fun e => decide (e.1 = wd) with
      | some en =>
        refine iteT ?_
        refine ⟨_, rfl, XD, rfl, .inl ⟨_, .inl hXD0⟩, _, rfl, dt, _, 1, .str (T wd), rfl, rfl, .inl (.inl (hd0)), atI_nat (j := 1) rfl, es.map ent, Sum.inr (T wd), .str (T en.2), hXD0, rfl, (by rw [val_ent2, hf]; rfl), ?_⟩
        rw [drop_ent]
        have k3 : Kd2 wD XD H (upd H0 XD (.dK ((dropW es wd).map ent))) := (Kd2.of m0).trans (Kd2.r _)
        refine ⟨(by show 2 ≤ sizeLine; decide), fun u nu => ?_⟩
        have su := same_new nu (.tup [.str "", .str (T en.2)])
        have kt3 := (k3.kt hWd hXD).trans (.of su)
        refine q u RL (dropW es wd) _ (.inl rfl) ?_ ⟨su _ _ (by rw [upd_ne hwx]; exact hWd0), ⟨ts, su _ _ (by rw [upd_ne (neL hRL).2]; exact hRL0), paired_mono (fun _ _ h => kt3.1 _ _ h) hRp⟩, su _ _ upd_same⟩ (List.Perm.refl _) (k3.trans (.of su))
        show ResAt _ u (match es.find? fun e => decide (e.1 = wd) with | some e => .text e.2 | none => .non "exception")
        rw [hf]
        exact upd_same
      | none =>
        refine iteF ?_
        refine t2 m0 rfl ?_ fun u H2 h _ => ?_
        · show dropW es wd = es
          rw [List.find?_eq_none] at hf
          exact List.filter_eq_self.mpr fun e he => by have := hf e he; simpa using this
        · show ResAt _ u (match es.find? fun e => decide (e.1 = wd) with | some e => .text e.2 | none => .non "exception")
          rw [hf]
          exact h
end
end Say
namespace Say
open PySem PySem.Spec PyProof.Rows L2 L2.DX
section
variable {P : Program} {w : World} {K : PySem.W.Frag} {mg : Str → Option Value} {base : Heap}
abbrev sBof : Stmt := topS 83
abbrev nBof : List Str := ["_law_w"]
theorem scBof : FnScope nBof ["_law_w"] (defScope sBof) := ⟨rfl, rfl, rfl, by decide +kernel, rfl, by decide +kernel, by decide +kernel⟩
def spBof : Sp := fun vs H Q _ => ∃ (wD RL XD : Addr) (L : List Nat) (rs : List Rule) (es : List Exc), vs = [.ref wD] ∧ LdAt H wD RL XD L rs es ∧ (es.map (·.1)).Nodup ∧ es.length ≤ 8 ∧
  ∀ (b : Addr) (es' : List Exc) (H' : Hp), es'.Perm es → (es'.Pairwise fun e f => e.1 < f.1) → BookAt H' b L rs es' → Same H H' → Q (.ref b) H'
theorem ok_Bof {f : Addr} {fd : FuncData} {k : Nat} (F : Fun K "_law_book_of" "_law_book_of" sBof f fd) (B : Bn mg) : FnOk P w K mg base CX0 (k + 1) f fd ["_law_w"] spBof := by
  refine F.ok scBof (fun vs H Q E h => ?_) (fun cdv A outer s H vs Q E hr h => ?_)
  · obtain ⟨wD, RL, XD, L, rs, es, rfl, _⟩ := h
    rfl
  · obtain ⟨wD, RL, XD, L, rs, es, rfl, hW, nd, h8, q⟩ := h
    have hu := hu_of hr
    refine ⟨_, pss_one (ps_ret (pe_tup (pa_cons (pe_dget hu (pv 0) pe_str (fun _ _ => rfl)) (pa_cons (pe_callTy call_tuple_of (by rfl) B.tup (by decide +kernel) (pa_cons (pe_dget hu (pv 0) pe_str (fun _ _ => rfl)) pa_nil))
      (pa_cons (pe_callTy call_tupN (by rfl) B.tup (by decide +kernel) (pa_cons (pe_callB (cr_sortedTx rfl) (by rfl) B.srt (by decide +kernel)
        (pa_cons (pe_bm0 PySem.F.plainAttrs_dict PySem.F.slot_dict_items PySem.F.type_dict_items mt_itemsK (pe_dget hu (pv 0) pe_str (fun _ _ => rfl))) pa_nil)) pa_nil)) pa_nil))))), ?_⟩
    have hWd : H wD = some (.dK (wKv L RL XD)) := hW.d
    obtain ⟨ts, hRL, hRp⟩ := id hW.r
    have hXD := hW.x
    obtain ⟨g1, g2, g3⟩ := wget L RL XD
    refine ⟨_, rfl, wD, _, rfl, (by rw [← g1]; exact DGet.k (k := (Sum.inr "letters" : Key)) hWd), ?_⟩
    refine ⟨_, rfl, wD, _, rfl, (by rw [← g2]; exact DGet.k (k := (Sum.inr "rules" : Key)) hWd), ?_⟩
    refine ⟨RL, _, rfl, .inl ⟨.inl (.inl hRL), fun R nR => ?_⟩⟩
    obtain ⟨H1, e1, m1, y1⟩ := newHd nR (.tup (ts.map V.ref))
    rw [e1]
    have hXD1 := m1 _ _ hXD
    refine ⟨_, rfl, wD, _, rfl, (by rw [← g3]; exact DGet.k (k := (Sum.inr "excepted" : Key)) (m1 _ _ hWd)), ?_⟩
    refine ⟨.inr (.inr (.inl ⟨rfl, .inl ⟨_, hXD1⟩⟩)), XD, _, rfl, rfl, hXD1, fun p hp => ?_⟩
    have sp := same_new hp (itemsO p XD)
    refine ⟨p, XD, es.map tt, rfl, upd_same, by rw [sp _ _ hXD1, List.map_map]; rfl, by rw [List.length_map]; omega, fun H4 l ps s4 hperm hpw hln' hll hps => ?_⟩
    have s14 : Same H1 H4 := sp.trans s4
    obtain ⟨pe1, pe2, pe3⟩ := sort_exc nd hperm hpw
    refine ⟨l, _, rfl, .inl (.inl hll), fun X oX hoX hX => ?_⟩
    have sX := same_new hX (.frz oX (.tup (ps.map fun z => V.ref z.1)))
    refine ⟨(by show 3 ≤ sizeLine; decide), fun b nb => ?_⟩
    have sb := same_new nb (.tup [.str (T L), .ref R, .ref X])
    have m0b := m1.trans (s14.trans (sX.trans sb))
    refine q b ((ps.map (·.2)).map bk) _ pe2 pe3 ⟨R, X, upd_same, ⟨ts, (s14.trans (sX.trans sb)) _ _ y1, paired_mono (fun _ _ h => m0b _ _ h) hRp⟩, ps.map (·.1), ⟨oX, sb _ _ (by rw [upd_same, List.map_map]; rfl), hoX⟩, ?_⟩ m0b
    rw [List.map_map]
    refine paired_map fun z hz => ?_
    have := (sX.trans sb) _ _ (hps z hz)
    rw [this]
    show some (HO.tup [V.str z.2.1, V.str z.2.2]) = some (HO.tup [V.str (T z.2.1.cps.toList), V.str (T z.2.2.cps.toList)])
    rw [T_list, T_list]
end
end Say
/-! a lambda of one parameter with a number as its default, handed to a def -/
namespace LamD
open PySem PySem.Spec PyProof.Rows L2 LamX
/-- its own name is the parameter alone, which the maker doesn't know -/
structure Par (N : List Str) (sc own : Scope) (a : Str) : Prop where
  kind : own.kind = .function
  co : own.isCoroutine = false
  gen : own.isGenerator = false
  par : own.names.lookup a = some .local
  loc : ∀ y ∈ own.names, y.2 ≠ .cell ∧ (y.2 = .local → y.1 = a)
  free : ∀ y ∈ own.names, y.2 = .free → sc.names.lookup y.1 = some .cell ∨ sc.names.lookup y.1 = some .free
  out : a ∉ N
def parB (N : List Str) (sc own : Scope) (a : Str) : Bool :=
  decide (own.kind = .function) && (!own.isCoroutine && (!own.isGenerator && (decide (own.names.lookup a = some .local) && (decide (a ∉ N) && own.names.all fun y =>
    !decide (y.2 = .cell) && ((!decide (y.2 = .local) || decide (y.1 = a)) && (!decide (y.2 = .free) || (decide (sc.names.lookup y.1 = some .cell) || decide (sc.names.lookup y.1 = some .free))))))))
theorem par_by {N : List Str} {sc own : Scope} {a : Str} (h : parB N sc own a = true) : Par N sc own a := by
  unfold parB at h
  simp only [Bool.and_eq_true, Bool.or_eq_true, Bool.not_eq_true', decide_eq_true_eq, decide_eq_false_iff_not, List.all_eq_true] at h
  obtain ⟨g1, g2, g3, g4, g5, g6⟩ := h
  refine ⟨g1, g2, g3, g4, fun y hy => ⟨(g6 y hy).1, fun e => ?_⟩, fun y hy e => ?_, g5⟩
  · rcases (g6 y hy).2.1 with z | z
    · exact absurd e z
    · exact z
  · rcases (g6 y hy).2.2 with z | z
    · exact absurd e z
    · exact z
section
variable {X : Cx} {pins : List (Addr × Obj)} {σ : L2.St} {H HZ : Hp} {s s1 : Shared}
section
variable {f : Addr}
/-- an address that the frame knows nothing of -/
def NewF (X : Cx) (pins : List (Addr × Obj)) (f : Addr) : Prop := X.s_0.heap.objs.size ≤ f ∧ f ≠ X.env.locals ∧ (∀ x c, X.env.cells.lookup x = some c → c ≠ f) ∧ ∀ p ∈ X.pn ++ pins, p.1 ≠ f
theorem new_of (I : Inv X pins σ H s) (h : s.heap.objs.size ≤ f) : NewF X pins f := by
  have lt : ∀ {b o}, s.heap.get? b = some o → b ≠ f := fun e z => by
    rw [z] at e
    exact Nat.lt_irrefl _ (Nat.lt_of_lt_of_le (Heap.lt_size e) h)
  refine ⟨Nat.le_trans I.sz h, fun z => ?_, fun x c e => ?_, fun p hp => lt (I.pin p hp).1⟩
  · have := I.lt
    rw [← z] at this
    exact Nat.lt_irrefl _ (Nat.lt_of_lt_of_le this h)
  · obtain ⟨v, o, ho, _⟩ := I.cell x c e
    exact lt ho
end
theorem Par.has {own : Scope} {a : Str} (L : Par X.N X.env.scope own a) (ok : X.Ok) : ∀ y ∈ own.names, y.2 = .free → ∃ c, X.env.cells.lookup y.1 = some c := fun y hy e =>
  (L.free y hy e).elim (fun k => ok.has _ (.inl k)) fun k => ok.has _ (.inr k)
/-- the lambda's object, its default at D -/
abbrev dObj (X : Cx) (params : Arguments) (body : Expr) (own : Scope) (D : Addr) (doc pm : Value) (c' : Addr) (ctv : Value) : Obj :=
  PySem.W.kdv_obj "<lambda>" (X.env.qual ++ "<lambda>") params (.expr body) own (cloFrom X.env.cells own.names []) (.ref D) doc pm c' ctv
/-- made: a code object that is new or found in the table, and the tuple of the default -/
theorem make {Ts : List (Addr × Str)} {c P : Addr} {params : Arguments} {body de : Expr} {own : Scope} {pos : Pos} {z : Int} {Q : Value → Shared → Prop} (I : Inv X pins σ H s) (TB : TabB X.base X.mg c P) (hcode : X.env.code = .ref c)
    (hm : (P, X.env.qual ++ "<lambda>") ∈ Ts) (hu : ∀ p ∈ Ts, p.1 = P → p.2 = X.env.qual ++ "<lambda>") (hT : Tabs Ts H) (hde : params.defaults = [de]) (hkw : params.kw_defaults = []) (hz : PE X de (tC (.int z))) (hfree : ∀ y ∈ own.names, y.2 = .free → ∃ c, X.env.cells.lookup y.1 = some c)
    (h : ∀ (f c' D : Addr) (u doc pm ctv : Value) (H1 : Hp) (s' : Shared), Inv X pins σ H1 s' → ExtN H H1 → Tabs Ts H1 → s'.heap.get? f = some (dObj X params body own D doc pm c' ctv) → H1 f = none → f ∉ frs X.stack →
      s'.heap.get? D = some (PySem.W.kdv_tup [u]) → H1 D = none → D ∉ frs X.stack → NewF X pins f → NewF X pins D → f ≠ D → H f = none → H1 c' = some (CodeO c' (X.env.qual ++ "<lambda>")) → Q (.ref f) s') :
    wpAny (model X.prog X.w) X.A (eval (.Lambda params body own pos) X.env) Q X.xe s := by
  refine PySem.W.kdv_lam (by rw [hde]; rfl) hkw ?_
  rw [hde]
  refine PySem.W.kdv_all1 (thn (hz.run pins s σ H (fun v H0 => H0 = H) I rfl) fun u sa ⟨v, H0, Ia, _, eH⟩ => PySem.W.kdv_all0 ?_)
  subst eH
  rw [makeFunction_eq]
  simp only [List.zip_nil_right, List.filterMap_nil, List.isEmpty_nil, if_true, pure_bind, List.isEmpty_cons, Bool.false_eq_true, if_false]
  refine wpAny_bind (wpAny_newTextTuple ?_)
  -- the default's tuple
  have hDn : H0 sa.heap.objs.size = none := Ia.hok.fresh (Nat.le_refl _)
  have stk : ∀ {b : Addr} {hp : Heap} {σ' : L2.St} {H' : Hp} {tk : Nat} (J : Inv X pins σ' H' { sa with heap := hp, toks := tk }), hp.objs.size ≤ b → b ∉ frs X.stack := fun {b hp σ' H' tk} J hb m => by
    rcases List.mem_cons.mp (J.stkSub _ m) with e | e
    · have lt := J.lt
      rw [← e] at lt
      exact Nat.lt_irrefl _ (Nat.lt_of_lt_of_le lt hb)
    · exact J.nofs hb e
  have newD := new_of Ia (f := sa.heap.objs.size) (Nat.le_refl _)
  have frD := stk (hp := sa.heap) (tk := sa.toks) Ia (Nat.le_refl _)
  have Ib : Inv X pins σ H0 { sa with heap := sa.heap.push (PySem.W.kdv_tup [u]) } := Ia.kept (t' := sa.toks) fun _ _ e => Heap.get?_push_of_some _ e
  have atD : (sa.heap.push (PySem.W.kdv_tup [u])).get? sa.heap.objs.size = some (PySem.W.kdv_tup [u]) := Heap.get?_push_size _ rfl
  have szD : sa.heap.objs.size < (sa.heap.push (PySem.W.kdv_tup [u])).objs.size := by rw [Heap.size_push]; exact Nat.lt_succ_self _
  obtain ⟨ps, hP, ht, ha⟩ := hT _ hm
  have ltP : P < sa.heap.objs.size := Heap.lt_size (Ia.hok P _ hP)
  generalize hhb : sa.heap.push (PySem.W.kdv_tup [u]) = hb at Ib atD szD ⊢
  generalize sa.heap.objs.size = D at hDn frD newD atD szD ltP ⊢
  have hP' : hb.get? P = some { cls := .none, data := .fields ps } := Ib.hok P _ hP
  have bP : hb.BuiltinsAt X.mg P := TB.bm.keeps Ib.bk
  cases hc : codeAmong pos ps.toList with
  | none =>
    refine PySem.W.kdv_makeTail (s := { sa with heap := hb }) (closure_ok hfree) Ib.ok.glob (Ib.mod.glob.keeps Ib.bk) hcode (TB.code.keeps Ib.bk) hP' ht hc TB.gP bP fun c' ctv doc h' tk hx hge hlt hrec htb => ?_
    obtain ⟨c2, oc, vs, t, e2, hoc, hd, hv⟩ := hrec
    cases e2
    have hge : hb.objs.size ≤ c' := hge
    have nC : H0 c' = none := Ib.hok.fresh hge
    have I1 := inv_table (t' := tk) (more := #[rawInt pos.line, rawInt pos.col, .ref c']) (h' := h'.push (dObj X params body own D doc ((X.mg "__name__").getD .none) c' ctv)) Ib hP
      (fun b o n e => Heap.get?_push_of_some _ (hx b o n e)) (Heap.get?_push_of_some _ htb) hge ⟨oc, vs, t, Heap.get?_push_of_some _ hoc, hd, hv⟩
    have hE : ExtN H0 (upd (upd H0 P (.tbl (ps ++ #[rawInt pos.line, rawInt pos.col, .ref c']))) c' (CodeO c' (X.env.qual ++ "<lambda>"))) := fun b o e n => by
      rw [upd_ne (ne_of_none e nC), upd_ne fun y => n ps (Option.some.inj (e.symm.trans (by rw [y]; exact hP)))]
      exact e
    have toL : (ps ++ #[rawInt pos.line, rawInt pos.col, .ref c']).toList = ps.toList ++ [rawInt pos.line, rawInt pos.col, .ref c'] := by simp
    have nf1 : h'.objs.size ≠ c' := Nat.ne_of_gt hlt
    have nf2 : h'.objs.size ≠ P := Nat.ne_of_gt (Nat.lt_of_lt_of_le (Heap.lt_size hP') (Nat.le_trans hge (Nat.le_of_lt hlt)))
    refine h h'.objs.size c' D u doc ((X.mg "__name__").getD .none) ctv _ _ I1 hE (fun p hp => ?_) (Heap.get?_push_size _ rfl) ?_ (stk (hp := hb) (tk := sa.toks) Ib (by omega)) (Heap.get?_push_of_some _ (hx D _ (Nat.ne_of_gt ltP) atD)) ?_ frD (new_of Ib (show hb.objs.size ≤ _ by omega)) newD (show h'.objs.size ≠ D from Nat.ne_of_gt (Nat.lt_of_lt_of_le szD (Nat.le_trans hge (Nat.le_of_lt hlt)))) (Ib.hok.fresh (show hb.objs.size ≤ _ by omega)) upd_same
    · by_cases eP : p.1 = P
      · rw [hu p hp eP, eP]
        refine ⟨_, by rw [upd_ne (ne_of_none hP nC), upd_same], by rw [toL]; exact PySem.TriplesOk_snoc _ _ _ _ ht, fun p' cv hcv => ?_⟩
        rw [toL] at hcv
        rcases among_app _ ht hcv with y | y
        · obtain ⟨c0, y1, y2⟩ := ha p' cv y
          exact ⟨c0, y1, hE _ _ y2 codeO_ne⟩
        · exact ⟨c', y, upd_same⟩
      · obtain ⟨qs, y1, y2, y3⟩ := hT p hp
        refine ⟨qs, by rw [upd_ne (ne_of_none y1 nC), upd_ne eP]; exact y1, y2, fun p' cv hcv => ?_⟩
        obtain ⟨c0, y4, y5⟩ := y3 p' cv hcv
        exact ⟨c0, y4, hE _ _ y5 codeO_ne⟩
    · rw [upd_ne nf1, upd_ne nf2]
      exact Ib.hok.fresh (show hb.objs.size ≤ _ by omega)
    · rw [upd_ne (Nat.ne_of_lt (Nat.lt_of_lt_of_le szD hge)), upd_ne (Nat.ne_of_gt ltP)]
      exact hDn
  | some cv =>
    obtain ⟨c', e, hco⟩ := ha pos cv hc
    subst e
    refine PySem.W.kdv_makeTailHit (s := { sa with heap := hb }) (closure_ok hfree) Ib.ok.glob (Ib.mod.glob.keeps Ib.bk) hcode (TB.code.keeps Ib.bk) hP' ht hc bP fun ctv doc h' tk hx hsz => ?_
    have hsz : hb.objs.size ≤ h'.objs.size := hsz
    have I1 : Inv X pins σ H0 { sa with heap := h'.push (dObj X params body own D doc ((X.mg "__name__").getD .none) c' ctv), toks := tk } := Ib.kept (t' := tk) fun b o e => Heap.get?_push_of_some _ (hx b o e)
    exact h h'.objs.size c' D u doc ((X.mg "__name__").getD .none) ctv H0 _ I1 (ExtN.refl H0) hT (Heap.get?_push_size _ rfl) (Ib.hok.fresh hsz) (stk (hp := hb) (tk := sa.toks) Ib hsz) (Heap.get?_push_of_some _ (hx D _ atD)) hDn frD (new_of Ib hsz) newD (show h'.objs.size ≠ D from Nat.ne_of_gt (Nat.lt_of_lt_of_le szD hsz)) (Ib.hok.fresh hsz) hco
abbrev dEnv (X : Cx) (own : Scope) (L f c' : Addr) : Env := lamEnv X own L f c'
/-- its body's context, entered -/
theorem enter {A : Around} {outer : List Env} {E : XK} {own : Scope} {a : Str} {f c' : Addr} {h₁ : Heap} {tk : Nat} {m : Str → Option Value} (I : Inv X pins σ H s) (L : Par X.N X.env.scope own a) (e0 : Env0 X.prog X.w X.K X.mg X.base A outer s1 HZ) (hd : A.handled = none)
    (un : Un (frs X.stack) [] H HZ s.heap s1.heap) (hns : h₁.Ns s1.heap.objs.size m) (kp : ∀ b o, s1.heap.get? b = some o → h₁.get? b = some o) :
    Inv (lamCx X A outer s1 HZ E own f c') [] σ HZ { s1 with heap := h₁, toks := tk } := by
  have has := L.has I.ok
  -- a name that it captures has the maker's cell
  have cl1 : ∀ {y c}, (cloFrom X.env.cells own.names []).lookup y = some c → X.env.cells.lookup y = some c := fun {y c} e => by
    rcases cloFrom_mem (PySem.mem_of_lookup e) with z | ⟨z1, z2⟩
    · cases z
    · obtain ⟨c1, hc⟩ := has _ z1 rfl
      have hc : X.env.cells.lookup y = some c1 := hc
      rw [z2, hc]
      rfl
  have cl2 : ∀ {y}, own.names.lookup y = some .free → ∃ c, (cloFrom X.env.cells own.names []).lookup y = some c := fun {y} hl =>
    mem_lookup (cloFrom_has (cells := X.env.cells) (acc := []) (show (y, NameKind.free) ∈ own.names from PySem.mem_of_lookup hl))
  have cellK : ∀ {c : Addr} {v : Option Value}, H c = none → s.heap.IsCell c v → h₁.IsCell c v := fun {c v} n ⟨o, ho, od⟩ => by
    obtain ⟨sl, q⟩ := un.any ho n (by simp)
    exact ⟨_, kp _ _ q, od⟩
  have no : ∀ b : Addr, b ∉ (lamCx X A outer s1 HZ E own f c').ex := fun b z => absurd (show b ∈ ([] : List Addr) from z) (by simp)
  refine ⟨⟨e0.mod, L.kind, rfl, rfl, Nat.le_refl _, fun y z c e1 e2 => I.ok.inj y z c (cl1 e1) (cl1 e2), fun y hy => ?_, fun y c z _ => (by cases (show false = true from z)), fun _ => hd, Around.frames_deeper e0.frames, .inr ⟨rfl, rfl⟩, fun b z => absurd z (no b), e0.bs, e0.bsz, fun b _ _ => no b,
      fun b z => absurd z (no b), e0.funs, e0.frf⟩,
    rfl, e0.bare, Un.kept kp, ⟨_, hns, fun i y v e1 e2 e3 => ?_⟩, fun y c e => ?_, e0.hok.fresh (Nat.le_refl _), fun y c e => ?_, fun q hq => absurd (show q ∈ ([] : List (Addr × Obj)) ++ [] from hq) (by simp), e0.hok.kept kp, I.len⟩
  · have hy : own.names.lookup y = some .cell ∨ own.names.lookup y = some .free := hy
    exact hy.elim (fun z => absurd rfl (L.loc _ (PySem.mem_of_lookup z)).1) cl2
  · have e3 : Vis own y := e3
    rcases e3 with k | k | k
    · -- the parameter is no name of the maker's
      have ey : y = a := (L.loc _ (PySem.mem_of_lookup k)).2 rfl
      have e1 : X.N[i]? = some y := e1
      exact absurd (List.mem_of_getElem? e1) (by rw [ey]; exact L.out)
    · exact absurd rfl (L.loc _ (PySem.mem_of_lookup k)).1
    · obtain ⟨m', hn, hl⟩ := I.loc
      have vis : Vis X.env.scope y := (L.free _ (PySem.mem_of_lookup k) rfl).elim (fun k => .inr (.inl k)) fun k => .inr (.inr k)
      obtain ⟨w', r, q⟩ := hl i y v e1 e2 vis
      obtain ⟨c2, h2⟩ := cl2 k
      refine ⟨w', r, .inr ⟨.inr k, c2, h2, ?_⟩⟩
      rcases q with ⟨k', _⟩ | ⟨_, c3, e', z⟩
      · have k' : X.env.scope.names.lookup y = some .local := k'
        rcases L.free _ (PySem.mem_of_lookup k) rfl with k2 | k2 <;> rw [show X.env.scope.names.lookup y = _ from k2] at k' <;> cases k'
      · rw [cl1 h2] at e'
        cases e'
        exact cellK (I.freeC y _ (cl1 h2)) z
  · obtain ⟨w', z⟩ := I.cell y c (cl1 e)
    exact ⟨w', cellK (I.freeC y c (cl1 e)) z⟩
  · obtain ⟨v, o, ho, od⟩ := I.cell y c (cl1 e)
    exact un.free c o ho (I.freeC y c (cl1 e)) (by simp)
/-- called with nothing by the def that got it -/
theorem act {CXg : CXT} {Eg : XK} {Ng : List Str} {qg : Str} {sg : Scope} {g f c' D : Addr} {cdg doc pm ctv u : Value} {params : Arguments} {body : Expr} {own : Scope} {k i : Nat} {x a : Str} {pn : List (Addr × Obj)} {xe : Value → Shared → Prop} {W : WX} {E : XK} {tb : TE} {p1 p2 : Pos}
    (I : Inv X pins σ H s) (L : Par X.N X.env.scope own a) (hf : s.heap.get? f = some (dObj X params body own D doc pm c' ctv)) (hfn : H f = none) (hfr : f ∉ frs X.stack) (hD : s.heap.get? D = some (PySem.W.kdv_tup [u])) (hDn : H D = none) (hDr : D ∉ frs X.stack)
    (hbind : ∀ s : Shared, s.heap.get? D = some (PySem.W.kdv_tup [u]) → BindsTo s (PySem.W.kdv_fn "<lambda>" (X.env.qual ++ "<lambda>") params (.expr body) own (cloFrom X.env.cells own.names []) (.ref D) doc pm (.ref c') ctv) ⟨[], []⟩ [(a, u)])
    (tk : Takes ((cxOf CXg X.prog X.w X.K X.mg X.base Ng qg sg g cdg X.A X.stack s H Eg).tr pn xe) W) (hW : ∀ cls d σ' H', E cls d H' → W cls d σ' H') (hr : Room (k + 1) (X.A.deeper (envOfC qg sg s.heap.objs.size g cdg)))
    (hbody : ∀ (A : Around) (outer : List Env) (s : Shared) (H : Hp), Room k (A.deeper (lamEnv X own s.heap.objs.size f c')) → PE (lamCx X A outer s H E own f c') body tb)
    (hN : Ng[i]? = some x) (hv : Vis sg x) (hdb : (x == ("__debug__" : Str)) = false := by decide) (hcd : (x == ("__classdict__" : Str)) = false := by decide) :
    PE ((cxOf CXg X.prog X.w X.K X.mg X.base Ng qg sg g cdg X.A X.stack s H Eg).tr pn xe) (.Call (.Name x p1) [] [] p2)
      (fun σZ HZ Q => σZ[i]? = some (some (.ref f)) ∧ HZ c' = some (CodeO c' (X.env.qual ++ "<lambda>")) ∧ tb σ HZ Q) := by
  refine ⟨fun pinsZ sZ σZ HZ Q IZ ⟨hs, hc, ht⟩ => ?_⟩
  refine wpAny_Call_Name_kw (thn ((pe_var (pos := p1) (i := i) hN hv hdb hcd).run pinsZ sZ σZ HZ (fun v H1 => v = .ref f ∧ H1 = HZ) IZ ⟨.ref f, hs, rfl, rfl⟩) fun u' s1 ⟨v, H1, I1, r1, ev, eH⟩ => ?_)
  subst ev eH
  obtain rfl : u' = Value.ref f := r1
  have keep : ∀ {b : Addr} {o : Obj}, s.heap.get? b = some o → H b = none → b ∉ frs X.stack → s1.heap.get? b = some o := fun {b o} e n fr => I1.base.keep b _ e n fr fun z => nomatch (show b ∈ ([] : List Addr) from z)
  have of1 := keep hf hfn hfr
  refine PySem.W.callWith_F0 ⟨_, _, _, _, of1⟩ ?_
  have un : Un (frs X.stack) [] H H1 s.heap s1.heap := I1.base
  obtain ⟨⟨oc, vs, t, hoc, hdc, hvc⟩, _, _⟩ := I1.hok c' _ hc
  have rc : codeAny (model X.prog X.w) (X.A.deeper (envOfC qg sg s.heap.objs.size g cdg)) (.call (.ref f) ⟨[], []⟩) (CR (L2.CX X.prog X.w) (envOfC qg sg s.heap.objs.size g cdg :: X.stack) X.prog X.w H1 s1 Q E) s1 := by
    refine PySem.W.kla_callFunE hr.depth of1 rfl L.co L.gen rfl ⟨c', oc, vs, t, rfl, hoc, hdc, hvc⟩ (hbind s1 (keep hD hDn hDr) _ _ _ _ ?_)
    refine wpAny_newFunctionEnv (fun y hy => (L.loc y hy).1) (fun y hy => by rw [List.mem_singleton.mp hy]; exact L.par) (fun h₁ hns hsb => ⟨I1.nolimit.fresh _ hsb, ?_⟩) L.kind
    refine (?_ : codeAny _ _ (.expr body (lamEnv X own s1.heap.objs.size f c')) _ _)
    have kp : ∀ b o, s1.heap.get? b = some o → h₁.get? b = some o := fun b o e => hsb.extBut b o (Nat.ne_of_lt (Heap.lt_size e)) (Heap.get?_push_of_some _ e)
    have J := enter (A := X.A.deeper (envOfC qg sg s.heap.objs.size g cdg)) (outer := envOfC qg sg s.heap.objs.size g cdg :: X.stack) (E := E) (f := f) (c' := c') (tk := s1.toks + ([(a, u)] : List (Str × Value)).length) I L I1.env0 hr.hd un hns kp
    exact PySem.W.kla_codeExpr (wpAny_mono ((hbody _ _ s1 H1 (hr.deeper _)).run [] _ _ H1 Q J ht) (fun v s' ⟨w', H', J', rv, q⟩ => ⟨w', H', J'.os, J'.bare, J'.base, J'.hok, rv, q⟩) fun _ _ hq => hq)
  have hx : Passes (L2.CX X.prog X.w) ((cxOf CXg X.prog X.w X.K X.mg X.base Ng qg sg g cdg X.A X.stack s H Eg).tr pn xe) E := passes_call tk hW
  refine wpAny_call (codeAny_mono rc fun r s' hq => ?_)
  match r, hq with
  | .error e, hq => exact hx pinsZ σZ H1 s1 e s' I1 hq
  | .ok (.ret u), hq => exact I1.after hq
  | .ok .next, hq => exact False.elim hq
  | .ok .brk, hq => exact False.elim hq
  | .ok .cont, hq => exact False.elim hq
end
section
variable {X : Cx}
/-- x(lambda a=z: body) -/
theorem pe_lamcall {Ts : List (Addr × Str)} {TT : (XK → Hp → VK → Prop) → Hp → VK → Prop} {x y a : Str} {g c P : Addr} {k : Nat} {pg : Arguments} {bg : List Stmt} {sg : Scope} {dV kV doc pm cdv ct oc : Value} {an od : Option Addr} {osl : Array (Option Value)} {Ng : List Str}
    {params : Arguments} {body de : Expr} {own : Scope} {t : XK → TE} {p lpos pos : Pos} {z : Int} (hg : Gl X x) (hm : X.mg x = some (.ref g)) (hk : PySem.W.keepIn X.K (.ref g) = true)
    (lk : X.K.lookup g = some ⟨oc, od, .func (PySem.W.fnOf x x pg bg sg dV kV doc pm an cdv ct), osl⟩) (hcg : PySem.W.codeIn X.K cdv x = true) (hb : L2.Binds X.K (PySem.W.fnOf x x pg bg sg dV kV doc pm an cdv ct) [y] []) (Sg : FnScope Ng [y] sg) (hNg : Ng[0]? = some y) (hva : Vis sg y)
    (hG : GivesTo X Ng x sg g cdv bg y (X.env.qual ++ "<lambda>") TT)
    (TB : TabB X.base X.mg c P) (hcode : X.env.code = .ref c) (hmT : (P, X.env.qual ++ "<lambda>") ∈ Ts) (hu : ∀ p ∈ Ts, p.1 = P → p.2 = X.env.qual ++ "<lambda>") (hr : Room (k + 2) X.A) (L : Par X.N X.env.scope own a) (hde : params.defaults = [de]) (hkw : params.kw_defaults = []) (hz : PE X de (tC (.int z)))
    (hbind : ∀ (u : Value) (D : Addr) (q : Str) (cl : List (Str × Addr)) (doc pm cv ctv : Value) (s : Shared), s.heap.get? D = some (PySem.W.kdv_tup [u]) → BindsTo s (PySem.W.kdv_fn "<lambda>" q params (.expr body) own cl (.ref D) doc pm cv ctv) ⟨[], []⟩ [(a, u)])
    (hbody : ∀ (A : Around) (outer : List Env) (s : Shared) (H : Hp) (E : XK) (f c' : Addr), Room k (A.deeper (lamEnv X own s.heap.objs.size f c')) → PE (lamCx X A outer s H E own f c') body (t E))
    (hdb : (x == ("__debug__" : Str)) = false := by decide) (hd : (y == ("__debug__" : Str)) = false := by decide) (hcd : (y == ("__classdict__" : Str)) = false := by decide) :
    PE X (.Call (.Name x p) [.Lambda params body own lpos] [] pos) (tLam Ts TT t) := by
  refine ⟨fun pins s σ H Q I ⟨hT, h⟩ => ?_⟩
  refine wpAny_Call_Name_kw (ld_glob I hg hm ?_ hdb)
  refine PySem.W.callWith_K (h₀ := X.base) I.ok.mod.kin hk ?_ (by rfl) (by rfl)
  refine (?_ : wpAny _ _ (spliced ((false, eval (.Lambda params body own lpos) X.env) :: backTo pos (starEach [] X.env))) _ _ s)
  refine Calls.spliced_cons (make I TB hcode hmT hu hT hde hkw hz (L.has I.ok) fun f c' D u doc' pm' ctv H1 s' I1 eN T1 hf hfn hfr hD hDn hDr _ _ _ _ hco => Calls.spliced_nil ⟨I1.kIn, ?_⟩)
  have rc : codeAny (model X.prog X.w) X.A (.call (.ref g) ⟨[.ref f], []⟩) (CR C8.CX0 X.stack X.prog X.w H1 s' Q C8.E0) s' := by
    refine run_ofS (N := Ng) (ps := [y]) (us := [.ref f]) (vs := [.ref f]) lk hcg Sg hr I1.env0 (hb s' [.ref f] I1.kIn rfl) (.cons rfl .nil) rfl fun hr' => ?_
    obtain ⟨t', ht', hq'⟩ := hG f c' s' H1 Q (fun E H' Q' => t E σ H' Q') (fun W pn xe E p1 p2 tk hW => act (i := 0) I1 L hf hfn hfr hD hDn hDr (fun s2 h2 => hbind u D _ _ _ _ _ _ s2 h2) tk hW hr' (fun A outer s H hr2 => hbody A outer s H E f c' hr2) hNg hva hd hcd) hco (h H1 eN T1)
    exact ⟨t', ht'.nox, hq'⟩
  refine wpAny_call (codeAny_mono rc fun r s2 hq => ?_)
  match r, hq with
  | .error e, hq => exact (show False from hq).elim
  | .ok (.ret u), hq => exact I1.after hq
  | .ok .next, hq => exact False.elim hq
  | .ok .brk, hq => exact False.elim hq
  | .ok .cont, hq => exact False.elim hq
end
end LamD
namespace Say
open PySem PySem.Spec PyProof.Rows L2 L2.DX
/-- the script, where it is tracked -/
def Tr (H0 : Hp) (a : Addr) (o : HO) : Prop := H0 a = some o ∧ ((∃ xs, o = .lst xs) ∨ ∃ u xs, o = .frz u (.lst xs))
theorem RowAt.of0 {K : PySem.W.Frag} {H0 H H' : Hp} {r a : Addr} {ns : List Int} (R : RowAt K H r a ns) (h0 : SqL K H0 a (ns.map V.int)) (hr : ∀ o, H r = some o → H' r = some o) (hs : ∀ o, Tr H0 a o → H' a = some o) : RowAt K H' r a ns := by
  obtain ⟨⟨i, c, m, h, q⟩, sc, l⟩ := R
  refine ⟨⟨i, c, m, hr _ h, q⟩, ?_, l⟩
  rcases h0 with (sc | ⟨o, sc⟩) | sc
  · exact .inl (.inl (hs _ ⟨sc, .inl ⟨_, rfl⟩⟩))
  · exact .inl (.inr ⟨o, hs _ ⟨sc, .inr ⟨_, _, rfl⟩⟩⟩)
  · exact .inr sc
theorem tabs_kd {Ts : List (Addr × Str)} {H H' : Hp} {m1 m2 : Addr} {o1 o2 : HO} (T : LamX.Tabs Ts H) (k : Kd m1 m2 H H') (h1 : H m1 = some o1) (h2 : H m2 = some o2) (n1 : ∀ ps, o1 ≠ .tbl ps) (n2 : ∀ ps, o2 ≠ .tbl ps) (e1 : ∀ φ, o1 ≠ .ext φ) (e2 : ∀ φ, o2 ≠ .ext φ) : LamX.Tabs Ts H' := fun p hp => by
  obtain ⟨ps, a1, a2, a3⟩ := T p hp
  refine ⟨ps, k _ _ a1 (fun z => ?_) (fun z => ?_), a2, fun pos cv hcv => ?_⟩
  · rw [z, h1] at a1; exact n1 _ (Option.some.inj a1)
  · rw [z, h2] at a1; exact n2 _ (Option.some.inj a1)
  obtain ⟨c0, y4, y5⟩ := a3 pos cv hcv
  unfold LamX.CodeO at y5
  refine ⟨c0, y4, k _ _ y5 (fun z => ?_) (fun z => ?_)⟩
  · rw [z, h1] at y5; exact e1 _ (Option.some.inj y5)
  · rw [z, h2] at y5; exact e2 _ (Option.some.inj y5)
theorem LdAt.kd {H H' : Hp} {wD RL XD m1 m2 : Addr} {L : List Nat} {rs : List Rule} {es : List Exc} (h : LdAt H wD RL XD L rs es) (k : Kd m1 m2 H H') (kt : KT H H') (n1 : wD ≠ m1) (n2 : wD ≠ m2) (n3 : RL ≠ m1) (n4 : RL ≠ m2) (n5 : XD ≠ m1) (n6 : XD ≠ m2) : LdAt H' wD RL XD L rs es :=
  ⟨k _ _ h.d n1 n2, h.r.stp kt fun l hl => k _ _ hl n3 n4, k _ _ h.x n5 n6⟩
theorem kt_of {H H' : Hp} {m1 m2 : Addr} {o1 o2 : HO} (k : Kd m1 m2 H H') (h1 : H m1 = some o1) (h2 : H m2 = some o2) (t1 : ∀ xs, o1 ≠ .tup xs) (f1 : ∀ u xs, o1 ≠ .frz u (.tup xs)) (t2 : ∀ xs, o2 ≠ .tup xs) (f2 : ∀ u xs, o2 ≠ .frz u (.tup xs)) : KT H H' := KT.by fun a u q hu => by
  refine k _ _ q (fun z => ?_) (fun z => ?_)
  · rw [z, h1] at q
    rcases hu with ⟨_, rfl⟩ | ⟨_, _, rfl⟩
    · exact t1 _ (Option.some.inj q)
    · exact f1 _ _ (Option.some.inj q)
  · rw [z, h2] at q
    rcases hu with ⟨_, rfl⟩ | ⟨_, _, rfl⟩
    · exact t2 _ (Option.some.inj q)
    · exact f2 _ _ (Option.some.inj q)
/-- exceptions as the law's own desk holds them -/
structure XOk (L : List Nat) (es : List Exc) : Prop where
  ex : ∀ e ∈ es, ExcOk L e
  e8 : es.length ≤ 8
  nd : (es.map (·.1)).Nodup
theorem XOk.perm {L : List Nat} {es es' : List Exc} (h : XOk L es) (p : es'.Perm es) : XOk L es' :=
  ⟨fun e he => h.ex e (p.mem_iff.mp he), by rw [p.length_eq]; exact h.e8, (p.map (·.1)).nodup_iff.mpr h.nd⟩
theorem XOk.step {L : List Nat} {rs : List Rule} {es : List Exc} {d : Deed} {n : Nat} (h : XOk L es) (dok : DeedOk L n d) : XOk L (esM rs es d) := by
  have dr : ∀ w, XOk L (dropW es w) := fun w => ⟨fun e he => h.ex e (dropW_mem he), Nat.le_trans (List.length_filter_le _ _) h.e8, h.nd.sublist ((List.filter_sublist).map _)⟩
  cases d with
  | learn w s =>
    obtain ⟨dw, ds, d3⟩ := dok
    show XOk L (if sayW rs w = some s then dropW es w else if (dropW es w).length = 8 then es else dropW es w ++ [(w, s)])
    by_cases c : sayW rs w = some s
    · rw [if_pos c]; exact dr w
    · rw [if_neg c]
      by_cases c8 : (dropW es w).length = 8
      · rw [if_pos c8]; exact h
      · rw [if_neg c8]
        have d0 := dr w
        refine ⟨fun e he => ?_, ?_, ?_⟩
        · rcases List.mem_append.mp he with he | he
          · exact d0.ex e he
          · rw [List.mem_singleton.mp he]
            exact ⟨dw.c, dw.l1, dw.l8, ds, (by show s.length ≤ 36; omega)⟩
        · rw [List.length_append]; have := d0.e8; show _ + 1 ≤ 8; omega
        · rw [List.map_append, List.nodup_append]
          refine ⟨d0.nd, by simp, fun x hx y hy z => ?_⟩
          obtain ⟨e, he, rfl⟩ := List.mem_map.mp hx
          have hy : y = w := by simpa using hy
          unfold dropW at he
          have := (List.mem_filter.mp he).2
          rw [z, hy] at this
          simp at this
  | forget w => exact dr w
  | _ => exact h
theorem rulesM_ok {L : List Nat} {rs : List Rule} {d : Deed} (h : BookOk L rs []) (dok : DeedOk L rs.length d) : BookOk L (rsM rs d) [] := by
  have h1 : ∀ es' : List Exc, es'.Perm (esM rs [] d) → (es'.Pairwise fun e f => e.1 < f.1) → BookOk L (rsM rs d) es' := fun es' p s => bookM_ok h dok p s
  have hp : (esM rs [] d).Pairwise fun e f => e.1 < f.1 := by
    cases d with
    | learn w s =>
      show (if sayW rs w = some s then dropW [] w else if (dropW [] w).length = 8 then [] else dropW [] w ++ [(w, s)]).Pairwise _
      split
      · exact .nil
      · split
        · exact .nil
        · exact List.pairwise_singleton _ _
    | _ => exact .nil
  have := h1 _ (List.Perm.refl _) hp
  exact ⟨this.lt, this.rl, this.r12, (fun e he => nomatch he), Nat.zero_le _, .nil⟩
theorem refused_same {rs : List Rule} {es : List Exc} {d : Deed} (h : okM (resM rs es d) = false) : rsM rs d = rs ∧ esM rs es d = es := by
  cases d with
  | put p ρ =>
    refine ⟨?_, rfl⟩
    show (if rs.length < p then rs else if rs.length = 12 then rs else rs.take p ++ [ρ] ++ rs.drop p) = rs
    by_cases c : rs.length < p
    · rw [if_pos c]
    · by_cases c12 : rs.length = 12
      · rw [if_neg c, if_pos c12]
      · have e : resM rs es (.put p ρ) = .non "" := (if_neg c).trans (if_neg c12)
        rw [e] at h
        exact absurd h (by decide +kernel)
  | drop p =>
    refine ⟨?_, rfl⟩
    show (if p < rs.length then rs.take p ++ rs.drop (p + 1) else rs) = rs
    by_cases c : p < rs.length
    · have e : resM rs es (.drop p) = .rule rs[p] := by
        show (match rs[p]? with | some ρ => Res.rule ρ | none => .non "count") = _
        rw [List.getElem?_eq_getElem c]
      rw [e] at h
      cases h
    · rw [if_neg c]
  | move p q =>
    refine ⟨?_, rfl⟩
    show (if p < rs.length ∧ q < rs.length then moveL rs p q else rs) = rs
    by_cases c : p < rs.length ∧ q < rs.length
    · have e : resM rs es (.move p q) = .non "" := if_pos c
      rw [e] at h
      exact absurd h (by decide +kernel)
    · rw [if_neg c]
  | learn w s =>
    refine ⟨rfl, ?_⟩
    show (if sayW rs w = some s then dropW es w else if (dropW es w).length = 8 then es else dropW es w ++ [(w, s)]) = es
    by_cases c : sayW rs w = some s
    · have e : resM rs es (.learn w s) = .bl false := if_pos c
      rw [e] at h
      cases h
    · by_cases c8 : (dropW es w).length = 8
      · rw [if_neg c, if_pos c8]
      · have e : resM rs es (.learn w s) = .bl true := (if_neg c).trans (if_neg c8)
        rw [e] at h
        cases h
  | learnN w => exact ⟨rfl, rfl⟩
  | forget w =>
    refine ⟨rfl, ?_⟩
    have hf : es.find? (fun e => decide (e.1 = w)) = none := by
      cases hf : es.find? (fun e => decide (e.1 = w)) with
      | none => rfl
      | some e =>
        have e1 : resM rs es (.forget w) = .text e.2 := by
          show (match es.find? fun e => decide (e.1 = w) with | some e => Res.text e.2 | none => .non "exception") = _
          rw [hf]
        rw [e1] at h
        cases h
    rw [List.find?_eq_none] at hf
    exact List.filter_eq_self.mpr fun e he => decide_eq_true fun z => hf e he (decide_eq_true z)
theorem ResAt.tup {H : Hp} {u : Addr} {r : Res} (h : ResAt H u r) : ∃ (z : Str) (v : V), H u = some (.tup [.str z, v]) ∧ (okM r = true → z = "" ∧ ValAt H v r) ∧ (okM r = false → z ≠ "") := by
  cases r with
  | non k =>
    refine ⟨k, .non, h, fun e => ⟨by simpa [okM] using e, rfl⟩, fun e z => ?_⟩
    rw [z] at e
    exact absurd e (by decide +kernel)
  | book p n =>
    obtain ⟨q, h1, h2⟩ := h
    exact ⟨"book", .ref q, h1, fun e => (nomatch e), fun _ => by decide +kernel⟩
  | rule ρ =>
    obtain ⟨q, h1, h2⟩ := h
    exact ⟨"", .ref q, h1, fun _ => ⟨rfl, q, rfl, h2⟩, fun e => (nomatch e)⟩
  | text s => exact ⟨"", .str (T s), h, fun _ => ⟨rfl, rfl⟩, fun e => (nomatch e)⟩
  | bl b => exact ⟨"", .bl b, h, fun _ => ⟨rfl, rfl⟩, fun e => (nomatch e)⟩
/-- the draw's end: all done, or refused at the m-th -/
def EndOk (L : List Nat) (rs : List Rule) (es : List Exc) (H : Hp) (rc : List Rule) (ec : List Exc) (ds : List Deed) (us : List V) : Option Nat → Prop
  | none => ValidM L rs es ds ∧ rc = (stM rs es ds).1 ∧ ec.Perm (stM rs es ds).2 ∧ Paired (ValAt H) us (resL rs es ds)
  | some m => ∃ good d more, ds = good ++ d :: more ∧ good.length = m ∧ ValidM L rs es good ∧ DeedOk L (stM rs es good).1.length d ∧ okM (resM (stM rs es good).1 (stM rs es good).2 d) = false ∧ rc = (stM rs es good).1 ∧ ec.Perm (stM rs es good).2
def endV : Option Nat → V
  | none => .non
  | some m => .int (m : Nat)
theorem EndOk.kt {L : List Nat} {rs : List Rule} {es : List Exc} {H H' : Hp} {rc : List Rule} {ec : List Exc} {ds : List Deed} {us : List V} {o : Option Nat} (h : EndOk L rs es H rc ec ds us o) (k : KT H H') : EndOk L rs es H' rc ec ds us o := by
  cases o with
  | none => exact ⟨h.1, h.2.1, h.2.2.1, paired_mono (fun _ _ q => ValAt.kt q k) h.2.2.2⟩
  | some m => exact h
/-- how the law stands between batches -/
structure S21 (K : PySem.W.Frag) (H0 : Hp) (Ts : List (Addr × Str)) (C r a y t wD : Addr) (ns : List Int) (L : List Nat) (H : Hp) (b LN RL XD : Addr) (rs : List Rule) (es esD : List Exc) (ws : List Str) : Prop where
  R : RowAt K H r a ns
  T : LamX.Tabs Ts H
  dk : DkAt C H y b t L rs es ws true
  ld : LdAt H wD RL XD L rs esD
  ln : H LN = some (.lst (wordsV ws))
  pm : esD.Perm es
  ok : BookOk L rs es
  nx : wD ≠ XD
  sc : ∀ o, Tr H0 a o → H a = some o
  ta : ∀ o, Tr H0 a o → t ≠ a
  ra : ∀ o, Tr H0 a o → a ≠ r
  lr : LN ≠ r
  lt : LN ≠ t
  rt : RL ≠ t
  Rr : RL ≠ r
  tr : t ≠ r
/-- how the law stands as a batch is drawn: the desk at rs, es, its own desk at rc, ec -/
structure I21 (K : PySem.W.Frag) (H0 : Hp) (Ts : List (Addr × Str)) (C r a y t wD : Addr) (ns : List Int) (L : List Nat) (b LN AH R0 X0 DE DU : Addr) (rs : List Rule) (es e0 : List Exc) (ws : List Str) (H : Hp) (RL XD : Addr) (rc : List Rule) (ec : List Exc) (ts : List Addr) (ds : List Deed) (us : List V) : Prop where
  R : RowAt K H r a ns
  T : LamX.Tabs Ts H
  dk : DkAt C H y b t L rs es ws true
  ln : H LN = some (.lst (wordsV ws))
  ah : H AH = some (.tup [.ref R0, .ref X0])
  al : RListAt H R0 rs
  ax : H X0 = some (.dK (e0.map ent))
  de : H DE = some (.lst (ts.map V.ref))
  dp : Paired (DeedAt H) ts ds
  du : H DU = some (.lst us)
  ld : LdAt H wD RL XD L rc ec
  sc : ∀ o, Tr H0 a o → H a = some o
/-- what stands apart -/
structure Ap (H0 : Hp) (r a t wD LN R0 X0 DE DU RL XD : Addr) : Prop where
  nx : wD ≠ XD
  n0 : wD ≠ X0
  xx : X0 ≠ XD
  lr : LN ≠ r
  lt : LN ≠ t
  rt : RL ≠ t
  Rr : RL ≠ r
  zt : R0 ≠ t
  zr : R0 ≠ r
  tr : t ≠ r
  dr : DE ≠ r
  dt : DE ≠ t
  dl : DE ≠ LN
  dz : DE ≠ R0
  dR : DE ≠ RL
  ed : DE ≠ DU
  ur : DU ≠ r
  ut : DU ≠ t
  ul : DU ≠ LN
  uz : DU ≠ R0
  uR : DU ≠ RL
  ra : ∀ o, Tr H0 a o → a ≠ r
  ta : ∀ o, Tr H0 a o → t ≠ a
  da : ∀ o, Tr H0 a o → DE ≠ a
  ua : ∀ o, Tr H0 a o → DU ≠ a
section
variable {K : PySem.W.Frag} {H0 : Hp} {Ts : List (Addr × Str)} {C r a y t wD b LN AH R0 X0 DE DU RL XD : Addr} {ns : List Int} {L : List Nat} {rs rc : List Rule} {es e0 ec : List Exc} {ws : List Str} {ts : List Addr} {ds : List Deed} {us : List V} {H H' : Hp}
theorem I21.same (h : I21 K H0 Ts C r a y t wD ns L b LN AH R0 X0 DE DU rs es e0 ws H RL XD rc ec ts ds us) (s : Same H H') : I21 K H0 Ts C r a y t wD ns L b LN AH R0 X0 DE DU rs es e0 ws H' RL XD rc ec ts ds us :=
  ⟨h.R.stp s, h.T.ext s, h.dk.same s, s _ _ h.ln, s _ _ h.ah, h.al.stp (.of s) (fun l q => s _ _ q), s _ _ h.ax, s _ _ h.de, paired_mono (fun _ _ q => DeedAt.kt q (.of s)) h.dp, s _ _ h.du, h.ld.same s, fun o q => s _ _ (h.sc o q)⟩
theorem I21.stp (h : I21 K H0 Ts C r a y t wD ns L b LN AH R0 X0 DE DU rs es e0 ws H RL XD rc ec ts ds us) (A : Ap H0 r a t wD LN R0 X0 DE DU RL XD) (s : Stp r H H') (R' : RowAt K H' r a ns) : I21 K H0 Ts C r a y t wD ns L b LN AH R0 X0 DE DU rs es e0 ws H' RL XD rc ec ts ds us :=
  ⟨R', tabs_stp h.T h.R.in s, h.dk.stp h.R s, s _ _ h.ln A.lr, (h.R.kt s).1 _ _ h.ah, h.al.stp (h.R.kt s) (fun l q => s _ _ q A.zr), s _ _ h.ax (Ne.symm (h.R.neD h.ax)), s _ _ h.de A.dr, paired_mono (fun _ _ q => DeedAt.kt q (h.R.kt s)) h.dp, s _ _ h.du A.ur, ⟨s _ _ h.ld.d (Ne.symm (h.R.neD h.ld.d)), h.ld.r.stp (h.R.kt s) (fun l q => s _ _ q A.Rr), s _ _ h.ld.x (Ne.symm (h.R.neD h.ld.x))⟩, fun o q => s _ _ (h.sc o q) (A.ra o q)⟩
theorem I21.deed (h : I21 K H0 Ts C r a y t wD ns L b LN AH R0 X0 DE DU rs es e0 ws H RL XD rc ec ts ds us) (A : Ap H0 r a t wD LN R0 X0 DE DU RL XD) (h0 : SqL K H0 a (ns.map V.int)) {dt : Addr} {d : Deed} (hd : DeedAt H dt d) :
    I21 K H0 Ts C r a y t wD ns L b LN AH R0 X0 DE DU rs es e0 ws (upd H DE (.lst (ts.map V.ref ++ [.ref dt]))) RL XD rc ec (ts ++ [dt]) (ds ++ [d]) us := by
  have k : Kd DE DE H (upd H DE (.lst (ts.map V.ref ++ [.ref dt]))) := Kd.y _
  have kt := kt_of k h.de h.de (fun _ z => by cases z) (fun _ _ z => by cases z) (fun _ z => by cases z) (fun _ _ z => by cases z)
  have dneq : ∀ {x : Addr} {o : HO}, H x = some o → (∀ l, o ≠ .lst l) → x ≠ DE := fun {x o} hx n z => by rw [z, h.de] at hx; exact n _ (Option.some.inj hx).symm
  have hs : ∀ o, Tr H0 a o → (upd H DE (.lst (ts.map V.ref ++ [.ref dt]))) a = some o := fun o q => by rw [upd_ne (Ne.symm (A.da o q))]; exact h.sc o q
  obtain ⟨⟨dx, hy⟩, hb, ht⟩ := id h.dk
  exact ⟨h.R.of0 h0 (fun o q => by rw [upd_ne (Ne.symm A.dr)]; exact q) hs, tabs_kd h.T k h.de h.de (fun _ z => by cases z) (fun _ z => by cases z) (fun _ z => by cases z) (fun _ z => by cases z),
    ⟨⟨dx, by rw [upd_ne (dneq hy (fun _ z => by cases z))]; exact hy⟩, hb.kt kt, by rw [upd_ne (Ne.symm A.dt)]; exact ht⟩, by rw [upd_ne (Ne.symm A.dl)]; exact h.ln, kt.1 _ _ h.ah, h.al.stp kt (fun l q => by rw [upd_ne (Ne.symm A.dz)]; exact q),
    by rw [upd_ne (dneq h.ax (fun _ z => by cases z))]; exact h.ax, by rw [upd_same, List.map_append]; rfl, paired_app (paired_mono (fun _ _ q => DeedAt.kt q kt) h.dp) (.cons (hd.kt kt) .nil), by rw [upd_ne (Ne.symm A.ed)]; exact h.du,
    h.ld.kd k kt (dneq h.ld.d (fun _ z => by cases z)) (dneq h.ld.d (fun _ z => by cases z)) (Ne.symm A.dR) (Ne.symm A.dR) (dneq h.ld.x (fun _ z => by cases z)) (dneq h.ld.x (fun _ z => by cases z)), hs⟩
theorem I21.due (h : I21 K H0 Ts C r a y t wD ns L b LN AH R0 X0 DE DU rs es e0 ws H RL XD rc ec ts ds us) (A : Ap H0 r a t wD LN R0 X0 DE DU RL XD) (h0 : SqL K H0 a (ns.map V.int)) (v : V) :
    I21 K H0 Ts C r a y t wD ns L b LN AH R0 X0 DE DU rs es e0 ws (upd H DU (.lst (us ++ [v]))) RL XD rc ec ts ds (us ++ [v]) ∧ KT H (upd H DU (.lst (us ++ [v]))) := by
  have k : Kd DU DU H (upd H DU (.lst (us ++ [v]))) := Kd.y _
  have kt := kt_of k h.du h.du (fun _ z => by cases z) (fun _ _ z => by cases z) (fun _ z => by cases z) (fun _ _ z => by cases z)
  have dneq : ∀ {x : Addr} {o : HO}, H x = some o → (∀ l, o ≠ .lst l) → x ≠ DU := fun {x o} hx n z => by rw [z, h.du] at hx; exact n _ (Option.some.inj hx).symm
  have hs : ∀ o, Tr H0 a o → (upd H DU (.lst (us ++ [v]))) a = some o := fun o q => by rw [upd_ne (Ne.symm (A.ua o q))]; exact h.sc o q
  obtain ⟨⟨dx, hy⟩, hb, ht⟩ := id h.dk
  exact ⟨⟨h.R.of0 h0 (fun o q => by rw [upd_ne (Ne.symm A.ur)]; exact q) hs, tabs_kd h.T k h.du h.du (fun _ z => by cases z) (fun _ z => by cases z) (fun _ z => by cases z) (fun _ z => by cases z),
    ⟨⟨dx, by rw [upd_ne (dneq hy (fun _ z => by cases z))]; exact hy⟩, hb.kt kt, by rw [upd_ne (Ne.symm A.ut)]; exact ht⟩, by rw [upd_ne (Ne.symm A.ul)]; exact h.ln, kt.1 _ _ h.ah, h.al.stp kt (fun l q => by rw [upd_ne (Ne.symm A.uz)]; exact q),
    by rw [upd_ne (dneq h.ax (fun _ z => by cases z))]; exact h.ax, by rw [upd_ne A.ed]; exact h.de, paired_mono (fun _ _ q => DeedAt.kt q kt) h.dp, upd_same,
    h.ld.kd k kt (dneq h.ld.d (fun _ z => by cases z)) (dneq h.ld.d (fun _ z => by cases z)) (Ne.symm A.uR) (Ne.symm A.uR) (dneq h.ld.x (fun _ z => by cases z)) (dneq h.ld.x (fun _ z => by cases z)), hs⟩, kt⟩
/-- the law's own desk moved on -/
theorem I21.done (h : I21 K H0 Ts C r a y t wD ns L b LN AH R0 X0 DE DU rs es e0 ws H RL XD rc ec ts ds us) (A : Ap H0 r a t wD LN R0 X0 DE DU RL XD) (h0 : SqL K H0 a (ns.map V.int)) {RL' : Addr} {rc' : List Rule} {ec' : List Exc} (k : Kd2 wD XD H H') (hl : LdAt H' wD RL' XD L rc' ec') :
    I21 K H0 Ts C r a y t wD ns L b LN AH R0 X0 DE DU rs es e0 ws H' RL' XD rc' ec' ts ds us ∧ KT H H' := by
  have k' : Kd wD XD H H' := k
  have kt := kt_of k' h.ld.d h.ld.x (fun _ z => by cases z) (fun _ _ z => by cases z) (fun _ z => by cases z) (fun _ _ z => by cases z)
  have kl : ∀ {x : Addr} {o : HO}, H x = some o → (∀ l, o ≠ .dK l) → H' x = some o := fun {x o} hx n => k _ _ hx (fun z => by rw [z, h.ld.d] at hx; exact n _ (Option.some.inj hx).symm) (fun z => by rw [z, h.ld.x] at hx; exact n _ (Option.some.inj hx).symm)
  have hs : ∀ o, Tr H0 a o → H' a = some o := fun o q => kl (h.sc o q) (fun l z => by rcases q.2 with ⟨_, e⟩ | ⟨_, _, e⟩ <;> (rw [e] at z; cases z))
  obtain ⟨⟨dx, hy⟩, hb, ht⟩ := id h.dk
  obtain ⟨⟨i, c, m, hr, _⟩, _⟩ := id h.R
  refine ⟨⟨h.R.of0 h0 (fun o q => kl q (fun l z => by rw [hr] at q; rw [← Option.some.inj q] at z; cases z)) hs, tabs_kd h.T k' h.ld.d h.ld.x (fun _ z => by cases z) (fun _ z => by cases z) (fun _ z => by cases z) (fun _ z => by cases z),
    ⟨⟨dx, kl hy (fun _ z => by cases z)⟩, hb.kt kt, kl ht (fun _ z => by cases z)⟩, kl h.ln (fun _ z => by cases z), kt.1 _ _ h.ah, h.al.stp kt (fun l q => kl q (fun _ z => by cases z)), k _ _ h.ax (Ne.symm A.n0) A.xx, kl h.de (fun _ z => by cases z), paired_mono (fun _ _ q => DeedAt.kt q kt) h.dp, kl h.du (fun _ z => by cases z), hl, hs⟩, kt⟩
theorem I21.extN (h : I21 K H0 Ts C r a y t wD ns L b LN AH R0 X0 DE DU rs es e0 ws H RL XD rc ec ts ds us) (e : LamX.ExtN H H') (T' : LamX.Tabs Ts H') : I21 K H0 Ts C r a y t wD ns L b LN AH R0 X0 DE DU rs es e0 ws H' RL XD rc ec ts ds us :=
  have kt := KT.extN e
  ⟨h.R.extN e, T', h.dk.extN e, e _ _ h.ln (fun _ z => by cases z), kt.1 _ _ h.ah, h.al.stp kt (fun l q => e _ _ q (fun _ z => by cases z)), e _ _ h.ax (fun _ z => by cases z), e _ _ h.de (fun _ z => by cases z), paired_mono (fun _ _ q => DeedAt.kt q kt) h.dp, e _ _ h.du (fun _ z => by cases z),
    ⟨e _ _ h.ld.d (fun _ z => by cases z), h.ld.r.stp kt (fun l q => e _ _ q (fun _ z => by cases z)), e _ _ h.ld.x (fun _ z => by cases z)⟩, fun o q => e _ _ (h.sc o q) (fun ps z => by rcases q.2 with ⟨_, e⟩ | ⟨_, _, e⟩ <;> (rw [e] at z; cases z))⟩
theorem wput2 (L : List Nat) (RL XD X2 : Addr) : putK (wKv L RL XD) (Sum.inr "excepted" : Key) (.ref X2) = wKv L RL X2 := by
  have k1 : ¬ (Sum.inr "letters" : Key) = (Sum.inr "excepted" : Key) := by decide +kernel
  have k3 : ¬ (Sum.inr "rules" : Key) = (Sum.inr "excepted" : Key) := by decide +kernel
  have : ((wKv L RL XD).any fun kv => decide (kv.1 = (Sum.inr "excepted" : Key))) = true := List.any_eq_true.mpr ⟨(Sum.inr "excepted", .ref XD), by simp [wKv], decide_eq_true rfl⟩
  unfold putK
  rw [if_pos this]
  unfold wKv
  rw [List.map_cons, List.map_cons, List.map_cons, List.map_nil, if_neg k1, if_neg k3, if_pos rfl]
/-- the law's own desk as it was ahead -/
theorem I21.back (h : I21 K H0 Ts C r a y t wD ns L b LN AH R0 X0 DE DU rs es e0 ws H RL XD rc ec ts ds us) (A : Ap H0 r a t wD LN R0 X0 DE DU RL XD) (h0 : SqL K H0 a (ns.map V.int)) {k1 : List (Key × V)} :
    I21 K H0 Ts C r a y t wD ns L b LN AH R0 X0 DE DU rs es e0 ws (upd (upd H wD (.dK k1)) wD (.dK (wKv L R0 X0))) R0 X0 rs e0 ts ds us ∧ KT H (upd (upd H wD (.dK k1)) wD (.dK (wKv L R0 X0))) := by
  have k : Kd wD wD H (upd (upd H wD (.dK k1)) wD (.dK (wKv L R0 X0))) := (Kd.y _).trans (Kd.y _)
  have kt := kt_of k h.ld.d h.ld.d (fun _ z => by cases z) (fun _ _ z => by cases z) (fun _ z => by cases z) (fun _ _ z => by cases z)
  have kl : ∀ {x : Addr} {o : HO}, H x = some o → (∀ l, o ≠ .dK l) → (upd (upd H wD (.dK k1)) wD (.dK (wKv L R0 X0))) x = some o := fun {x o} hx n => k _ _ hx (fun z => by rw [z, h.ld.d] at hx; exact n _ (Option.some.inj hx).symm) (fun z => by rw [z, h.ld.d] at hx; exact n _ (Option.some.inj hx).symm)
  have hs : ∀ o, Tr H0 a o → (upd (upd H wD (.dK k1)) wD (.dK (wKv L R0 X0))) a = some o := fun o q => kl (h.sc o q) (fun l z => by rcases q.2 with ⟨_, e⟩ | ⟨_, _, e⟩ <;> (rw [e] at z; cases z))
  obtain ⟨⟨dx, hy⟩, hb, ht⟩ := id h.dk
  obtain ⟨⟨i, c, m, hr, _⟩, _⟩ := id h.R
  have al' := h.al.stp kt (fun l q => kl q (fun _ z => by cases z))
  have ax' := k _ _ h.ax (Ne.symm A.n0) (Ne.symm A.n0)
  exact ⟨⟨h.R.of0 h0 (fun o q => kl q (fun l z => by rw [hr] at q; rw [← Option.some.inj q] at z; cases z)) hs, tabs_kd h.T k h.ld.d h.ld.d (fun _ z => by cases z) (fun _ z => by cases z) (fun _ z => by cases z) (fun _ z => by cases z),
    ⟨⟨dx, kl hy (fun _ z => by cases z)⟩, hb.kt kt, kl ht (fun _ z => by cases z)⟩, kl h.ln (fun _ z => by cases z), kt.1 _ _ h.ah, al', ax', kl h.de (fun _ z => by cases z), paired_mono (fun _ _ q => DeedAt.kt q kt) h.dp, kl h.du (fun _ z => by cases z), ⟨upd_same, al', ax'⟩, hs⟩, kt⟩
/-- how the law stands behind a batch -/
structure J21 (K : PySem.W.Frag) (H0 : Hp) (Ts : List (Addr × Str)) (C r a y t wD : Addr) (ns : List Int) (L : List Nat) (b LN DE DU : Addr) (rs : List Rule) (es eF : List Exc) (ws wl : List Str) (H : Hp) (RL XD : Addr) (ts : List Addr) (ds : List Deed) (us : List V) : Prop where
  R : RowAt K H r a ns
  T : LamX.Tabs Ts H
  dk : DkAt C H y b t L rs es ws true
  ln : H LN = some (.lst (wordsV wl))
  de : H DE = some (.lst (ts.map V.ref))
  dp : Paired (DeedAt H) ts ds
  du : H DU = some (.lst us)
  ld : LdAt H wD RL XD L rs eF
  sc : ∀ o, Tr H0 a o → H a = some o
theorem J21.same {es eF : List Exc} {wl : List Str} (h : J21 K H0 Ts C r a y t wD ns L b LN DE DU rs es eF ws wl H RL XD ts ds us) (s : Same H H') : J21 K H0 Ts C r a y t wD ns L b LN DE DU rs es eF ws wl H' RL XD ts ds us :=
  ⟨h.R.stp s, h.T.ext s, h.dk.same s, s _ _ h.ln, s _ _ h.de, paired_mono (fun _ _ q => DeedAt.kt q (.of s)) h.dp, s _ _ h.du, h.ld.same s, fun o q => s _ _ (h.sc o q)⟩
theorem I21.told (h : I21 K H0 Ts C r a y t wD ns L b LN AH R0 X0 DE DU rs es e0 ws H RL XD rc ec ts ds us) (h0 : SqL K H0 a (ns.map V.int)) (lt : LN ≠ t) (dt : DE ≠ t) (ut : DU ≠ t) (rt : RL ≠ t) (tr : t ≠ r) (ta : ∀ o, Tr H0 a o → t ≠ a) {b' : Addr} {es' : List Exc} {ws' : List Str} (k : Kd y t H H') (dk' : DkAt C H' y b' t L rc es' ws' true) :
    J21 K H0 Ts C r a y t wD ns L b' LN DE DU rc es' ec ws' ws H' RL XD ts ds us ∧ KT H H' := by
  obtain ⟨⟨dx, hy⟩, hb, ht⟩ := id h.dk
  have kt := h.dk.kt k
  have ny : ∀ {x : Addr} {o : HO}, H x = some o → (∀ C dx fs, o ≠ .ins C dx fs) → x ≠ y := fun {x o} hx n z => by rw [z, hy] at hx; exact n _ _ _ (Option.some.inj hx).symm
  have nt : ∀ {x : Addr} {o : HO}, H x = some o → (∀ l, o ≠ .lst l) → x ≠ t := fun {x o} hx n z => by rw [z, ht] at hx; exact n _ (Option.some.inj hx).symm
  have hs : ∀ o, Tr H0 a o → H' a = some o := fun o q => k _ _ (h.sc o q) (ny (h.sc o q) (fun _ _ _ z => by rcases q.2 with ⟨_, e⟩ | ⟨_, _, e⟩ <;> (rw [e] at z; cases z))) (Ne.symm (ta o q))
  obtain ⟨⟨i, c, m, hr, _⟩, _⟩ := id h.R
  have li : ∀ {x : Addr} {l : List V}, H x = some (.lst l) → x ≠ t → H' x = some (.lst l) := fun {x l} hx n => k _ _ hx (ny hx (fun _ _ _ z => by cases z)) n
  exact ⟨⟨h.R.of0 h0 (fun o q => by have q' := q; rw [hr] at q'; have e := Option.some.inj q'; exact k _ _ q (ny q (fun _ _ _ z => by rw [← e] at z; cases z)) (Ne.symm tr)) hs, tabs_kd h.T k hy ht (fun _ z => by cases z) (fun _ z => by cases z) (fun _ z => by cases z) (fun _ z => by cases z),
    dk', li h.ln lt, li h.de dt, paired_mono (fun _ _ q => DeedAt.kt q kt) h.dp, li h.du ut, ⟨k _ _ h.ld.d (ny h.ld.d (fun _ _ _ z => by cases z)) (nt h.ld.d (fun _ z => by cases z)), h.ld.r.stp kt (fun l q => li q rt), k _ _ h.ld.x (ny h.ld.x (fun _ _ _ z => by cases z)) (nt h.ld.x (fun _ z => by cases z))⟩, hs⟩, kt⟩
/-- what is told, and what is due -/
def TellOk (L : List Nat) (rs : List Rule) (es : List Exc) (H : Hp) (u : Addr) (us : List V) (good : List Deed) (kb : Bool) : Option Nat → Prop
  | none => ∃ p xs, H u = some (.tup [.str "", .ref p]) ∧ H p = some (.lst xs) ∧ Paired (ValAt H) xs (resL rs es good) ∧ Paired (ValAt H) us (resL rs es good)
  | some m => m = good.length ∧ ∃ q, H u = some (.tup [.str "halted", .ref q]) ∧ H q = some (.tup [.int (good.length : Nat), .int ((if kb then good.length else 0 : Nat) : Int)])
theorem TellOk.same {u : Addr} {good : List Deed} {kb : Bool} {o : Option Nat} {es : List Exc} (h : TellOk L rs es H u us good kb o) (s : Same H H') : TellOk L rs es H' u us good kb o := by
  cases o with
  | none =>
    obtain ⟨p, xs, h1, h2, h3, h4⟩ := h
    exact ⟨p, xs, s _ _ h1, s _ _ h2, paired_mono (fun _ _ q => ValAt.kt q (.of s)) h3, paired_mono (fun _ _ q => ValAt.kt q (.of s)) h4⟩
  | some m =>
    obtain ⟨e, q, h1, h2⟩ := h
    exact ⟨e, q, s _ _ h1, s _ _ h2⟩
def valD : Res → PyData
  | .rule ρ => ruleD ρ
  | .text s => .str (T s)
  | .bl b => .bool b
  | _ => .none
theorem ValAt.dp {v : V} {r : Res} (h : ValAt H v r) : Dp K H v (valD r) := by
  cases r with
  | non k => rw [show v = .non from h]; exact .non
  | book p n => rw [show v = .non from h]; exact .non
  | rule ρ => obtain ⟨a, rfl, h2⟩ := h; exact .tup (.inl (.inl h2)) (.cons (.str _) (.cons (.str _) (.cons (.str _) (.cons (.str _) .nil))))
  | text s => rw [show v = .str (T s) from h]; exact .str _
  | bl b => rw [show v = .bl b from h]; exact .bl _
theorem val_few (r : Res) : Few (valD r) := by
  cases r with
  | rule ρ => exact .tup (by show 4 ≤ 1000; decide) (few_strs fun d hd => by
      simp only [List.mem_cons, List.not_mem_nil, or_false] at hd
      rcases hd with rfl | rfl | rfl | rfl <;> exact ⟨_, rfl⟩)
  | text s => exact .str _
  | bl b => exact .bl _
  | non k => exact .non
  | book p n => exact .non
theorem val_depth (r : Res) : (valD r).depth ≤ 1 := by
  cases r with
  | rule ρ => show 1 ≤ 1; decide
  | _ => exact Nat.zero_le _
end
section
variable {P : Program} {w : World} {K : PySem.W.Frag} {mg : Str → Option Value} {base : Heap}
/-- a batch, told -/
theorem told21 {C CH y b t DE : Addr} {L : List Nat} {rs : List Rule} {es : List Exc} {ws : List Str} {ts : List Addr} {good rest : List Deed} {H7 : Hp} {Q : VK} {kb : Bool} (WC : WordC K mg CH 10) (dk : DkAt C H7 y b t L rs es ws true) (ok : BookOk L rs es) (de : H7 DE = some (.lst (ts.map V.ref))) (dt : DE ≠ t) (dp : Paired (DeedAt H7) ts (good ++ rest)) (hv : ValidM L rs es good) (hl : ws.length + good.length ≤ 800) (h10 : good.length ≤ 10) (h100 : ts.length ≤ 100)
    (hr : ∀ d more, rest = d :: more → DeedOk L (stM rs es good).1.length d ∧ okM (resM (stM rs es good).1 (stM rs es good).2 d) = false)
    (q1 : rest = [] → ∀ (u p : Addr) (xs : List V) (b' : Addr) (es' : List Exc) (H8 : Hp), H8 u = some (.tup [.str "", .ref p]) → H8 p = some (.lst xs) → Paired (ValAt H8) xs (resL rs es good) → es'.Perm (stM rs es good).2 → BookOk L (stM rs es good).1 es' → DkAt C H8 y b' t L (stM rs es good).1 es' (toldL ws good) true → Kd y t H7 H8 → Q (.ref u) H8)
    (q2 : ∀ d more, rest = d :: more → ∀ (u q b' : Addr) (rs' : List Rule) (es' : List Exc) (H8 : Hp), (kb = true → rs' = (stM rs es good).1 ∧ es'.Perm (stM rs es good).2) → (kb = false → rs' = rs ∧ es' = es) → BookOk L rs' es' → H8 u = some (.tup [.str "halted", .ref q]) → H8 q = some (.tup [.int (good.length : Nat), .int ((if kb then good.length else 0 : Nat) : Int)]) → DkAt C H8 y b' t L rs' es' (toldL ws good) true → Kd y t H7 H8 → Q (.ref u) H8) :
    ∀ D, H7 D = none → ∀ post : VK, (∀ v H', H' D = some (.lst []) → (∀ (t : Addr) (H2 : Hp), Stp D H' H2 → H2 t = some (.tup [.str "", v]) → Q (.ref t) H2) → post v H') → spBt C CH [.ref y, .ref DE, .bl kb] (upd H7 D (.lst [])) post (echW K mg Q) := by
  intro D hD post hpost
  have sD := same_new hD (.lst [])
  have dk2 := dk.same sD
  have nDy : D ≠ y := fun z => by obtain ⟨⟨dx, h1⟩, _, _⟩ := dk; rw [z, h1] at hD; cases hD
  have nDt : D ≠ t := fun z => by rw [z, dk.told] at hD; cases hD
  refine ⟨y, b, t, DE, L, rs, es, ws, kb, ts, good, rest, rfl, dk2, ok, sD _ _ de, dt, paired_mono (fun _ _ z => DeedAt.kt z (.of sD)) dp, hv, hl, h10, h100, fun er p xs b' es' H' np hp hx pm ok' dk' k' => ?_, fun d more er => ?_⟩
  · have hD' : H' D = some (.lst []) := k' _ _ upd_same nDy nDt
    refine hpost _ H' hD' fun u H2 s2 hu => ?_
    have npD : p ≠ D := fun z => by rw [z, upd_same] at np; cases np
    obtain ⟨⟨dx', hy'⟩, hb', ht'⟩ := id dk'
    have kt2 : KT H' H2 := KT.by fun a u q hu => s2 _ _ q (ne_of q hD' (by rcases hu with ⟨_, rfl⟩ | ⟨_, _, rfl⟩ <;> (intro z; cases z)))
    have k2 : Kd y t H7 H2 := fun a o ha n1 n2 => s2 _ _ (k' _ _ (sD _ _ ha) n1 n2) (ne_of_none ha hD)
    exact q1 er u p xs b' es' H2 hu (s2 _ _ hp npD) (paired_mono (fun _ _ z => ValAt.kt z kt2) hx) pm ok' ⟨⟨dx', s2 _ _ hy' (Ne.symm nDy)⟩, hb'.kt kt2, s2 _ _ ht' (Ne.symm nDt)⟩ k2
  · obtain ⟨e1, e2⟩ := hr d more er
    refine ⟨e1, e2, fun x b' es' H' ek pm ok' dk' k' nx hx => ?_, fun x H' ek dk' k' nx hx => ?_⟩
    · subst ek
      refine ⟨CH, 10, _, WC, rfl, .inr (.inr (.inr (.inl ⟨rfl, x, _, _, rfl, hx, rfl⟩))), fun u H8 s8 ⟨qq, hq, hu⟩ => ?_⟩
      exact q2 d more er u qq b' _ es' H8 (fun _ => ⟨rfl, pm⟩) (fun z => by cases z) ok' hu hq (dk'.same s8) (fun a o ha n1 n2 => s8 _ _ (k' _ _ (sD _ _ ha) n1 n2))
    · subst ek
      refine ⟨CH, 10, _, WC, rfl, .inr (.inr (.inr (.inl ⟨rfl, x, _, _, rfl, hx, rfl⟩))), fun u H8 s8 ⟨qq, hq, hu⟩ => ?_⟩
      exact q2 d more er u qq b rs es H8 (fun z => by cases z) (fun _ => ⟨rfl, rfl⟩) ok hu hq (dk'.same s8) (fun a o ha n1 n2 => s8 _ _ (k' _ _ (sD _ _ ha) n1 n2))
end
theorem iteR {c : Bool} {A B : Prop} {T : Hp → Prop} {H7 : Hp} (hA : c = true → (∀ H', Same H7 H' → T H') → A) (hB : c = false → (∀ H', Same H7 H' → T H') → B) (r : ∀ H', Same H7 H' → T H') : if c = true then A else B := by
  cases c with
  | true => rw [if_pos rfl]; exact hA rfl r
  | false => rw [if_neg Bool.false_ne_true]; exact hB rfl r
theorem vals_dp {K : PySem.W.Frag} {H : Hp} : ∀ {xs : List V} {R : List Res}, Paired (ValAt H) xs R → DpAll K H xs (R.map valD)
  | _, _, .nil => .nil
  | _, _, .cons a r => .cons a.dp (vals_dp r)
theorem words_dp {K : PySem.W.Frag} {H : Hp} : ∀ (ws : List Str), DpAll K H (wordsV ws) (ws.map PyData.str)
  | [] => .nil
  | _ :: r => .cons (.str _) (words_dp r)
def ansD (R : List Res) : PyData := .tuple [.str "", .list (R.map valD)]
theorem ans_few {R : List Res} (h : R.length ≤ 100) : Few (ansD R) := few2 (.str _) (.lst (by rw [List.length_map]; omega) fun d hd => by
  obtain ⟨r, _, rfl⟩ := List.mem_map.mp hd
  exact val_few r)
theorem ans_depth (R : List Res) : (ansD R).depth < 5 := by
  have h1 : PyData.depthAll (R.map valD) ≤ 1 := depth_all fun d hd => by
    obtain ⟨r, _, rfl⟩ := List.mem_map.mp hd
    exact val_depth r
  show max (PyData.depth (.str "")) (max (PyData.depthAll (R.map valD) + 1) 0) + 1 < 5
  have h0 : PyData.depth (.str "") = 0 := rfl
  rw [h0]
  omega
def haltD (m n : Int) : PyData := .tuple [.str "halted", .tuple [.int m, .int n]]
def bothD (L : List Nat) (rs : List Rule) (es : List Exc) (ws : List Str) : PyData := .list [bookD L rs es, .list (ws.map PyData.str)]
theorem both_few {L : List Nat} {rs : List Rule} {es : List Exc} {ws : List Str} (h : BookOk L rs es) (hl : ws.length ≤ 1000) : Few (bothD L rs es ws) := .lst (by show 2 ≤ 1000; decide) fun d hd => by
  rcases List.mem_cons.mp hd with rfl | hd
  · exact few_book h
  · rw [List.mem_singleton.mp hd]
    refine .lst (by rw [List.length_map]; exact hl) fun e he => ?_
    obtain ⟨z, _, rfl⟩ := List.mem_map.mp he
    exact .str _
theorem both_depth (L : List Nat) (rs : List Rule) (es : List Exc) (ws : List Str) : (bothD L rs es ws).depth < 5 := by
  have h1 : PyData.depthAll (ws.map PyData.str) ≤ 0 := depth_all fun d hd => by
    obtain ⟨z, _, rfl⟩ := List.mem_map.mp hd
    exact Nat.le_refl 0
  have h2 := depth_book L rs es
  show max (PyData.depth (bookD L rs es)) (max (PyData.depthAll (ws.map PyData.str) + 1) 0) + 1 < 5
  omega
theorem J21.next {K : PySem.W.Frag} {H0 : Hp} {Ts : List (Addr × Str)} {C r a y t wD b LN LN2 DE DU RL XD : Addr} {ns : List Int} {L : List Nat} {rs : List Rule} {es eF : List Exc} {ws wl : List Str} {ts : List Addr} {ds : List Deed} {us : List V} {H H' : Hp} (j : J21 K H0 Ts C r a y t wD ns L b LN DE DU rs es eF ws wl H RL XD ts ds us) (s : Same H H') (n : H LN2 = none) (hL : H' LN2 = some (.lst (wordsV ws)))
    (pm : eF.Perm es) (ok : BookOk L rs es) (nx : wD ≠ XD) (ta : ∀ o, Tr H0 a o → t ≠ a) (ra : ∀ o, Tr H0 a o → a ≠ r) (rt : RL ≠ t) (Rr : RL ≠ r) (tr : t ≠ r) : S21 K H0 Ts C r a y t wD ns L H' b LN2 RL XD rs es eF ws := by
  obtain ⟨⟨i, c, m, hr, _⟩, _⟩ := id j.R
  have fr : ∀ {x : Addr} {o : HO}, H x = some o → LN2 ≠ x := fun {x o} hx z => by rw [← z, n] at hx; cases hx
  exact ⟨j.R.stp s, j.T.ext s, j.dk.same s, j.ld.same s, hL, pm, ok, nx, fun o q => s _ _ (j.sc o q), ta, ra, fr hr, fr j.dk.told, rt, Rr, tr⟩
theorem toldL_len (ws : List Str) (good : List Deed) : (toldL ws good).length = ws.length + good.length + 2 := by
  unfold toldL
  rw [List.length_append, List.length_append, List.length_append, List.length_map]
  show _ + (1 + _ + 1) = _
  omega
theorem J21.re {K : PySem.W.Frag} {H0 : Hp} {Ts : List (Addr × Str)} {C r a y t wD b LN DE DU RL XD : Addr} {ns : List Int} {L : List Nat} {rs : List Rule} {es eF : List Exc} {ws wl : List Str} {ts : List Addr} {ds ds' : List Deed} {us : List V} {H : Hp} (j : J21 K H0 Ts C r a y t wD ns L b LN DE DU rs es eF ws wl H RL XD ts ds us) (e : ds' = ds) : J21 K H0 Ts C r a y t wD ns L b LN DE DU rs es eF ws wl H RL XD ts ds' us := by rw [e]; exact j
theorem small_w (L : List Nat) (RL XD : Addr) : (wKv L RL XD).length < sizeLine := by show 3 < sizeLine; decide
end Say
namespace Say
open PySem PySem.Spec PyProof.Rows L2 L2.DX
section
variable {P : Program} {w : World} {K : PySem.W.Frag} {mg : Str → Option Value} {base : Heap}
abbrev sLaw : Stmt := topS 84
abbrev stT : List Stmt := match defBody sLaw with | _ :: _ :: _ :: _ :: .For _ _ (_ :: _ :: _ :: _ :: _ :: _ :: _ :: t) _ _ :: _ => t | _ => []
abbrev nLaw : List Str := ["_law_script","_law_row_here","_law_letters_here","_law_book","_law_w","_law_desk_here","_law_lines","_law_turn","_law_ahead","_law_deeds","_law_due","_law_end","_law_k","_law_found","_law_stays","_law_many","_law_told","_law_deed_here"]
theorem scLaw : FnScope nLaw ["_law_script"] (defScope sLaw) := ⟨rfl, rfl, rfl, by decide +kernel, rfl, by decide +kernel, by decide +kernel⟩
def qLam : Str := (PySem.W.envX "law" (defScope sLaw) 0 0 (.ref 0) []).qual ++ "<lambda>"
def spLawT (K : PySem.W.Frag) (Pt : Addr) : Sp := fun vs H Q _ => ∃ (a : Addr) (ns : List Int), vs = [.ref a] ∧ SqL K H a (ns.map V.int) ∧ ns.length ≤ 63 ∧ H Pt = some (.tbl #[]) ∧ ∀ H', Q (.bl true) H'
theorem ok_law {f cL Pt gW fBt CH C fIn : Addr} {fdW fdBt fdIn : FuncData} {oc : Value} {od an : Option Addr} {osl : Array (Option Value)} {kV doc pm ct : Value}
    (lk : K.lookup f = some ⟨oc, od, .func (PySem.W.fnOf "law" "law" (defArgs sLaw) (defBody sLaw) (defScope sLaw) .none kV doc pm an (.ref cL) ct), osl⟩) (hcd : PySem.W.codeIn K (.ref cL) "law" = true)
    (TB : LamX.TabB base mg cL Pt) (B : Bn mg) (zdict : mg "dict" = none) (zint : mg "int" = none) (WC : WordC K mg CH 10)
    (FW : Fun K "_law_word" "_law_word" sLWo gW fdW) (mW : mg "_law_word" = some (.ref gW))
    (S : DkC K C) (mgC : mg "Desk" = some (.ref C)) (Mk_ : Mk K C fIn) (GIn : FnOk P w K mg base CX0 6 fIn fdIn ["self", "book"] (spDIn C)) (bIn : Binds K fdIn ["self", "book"] [])
    (FBt : FunD K "batch" "Desk.batch" (defArgs (sDk 8)) (defBody (sDk 8)) (defScope (sDk 8)) [] [("keep", .bl true)] fBt fdBt) (GBt : FnOk P w K mg base (L2.CX P w) 10 fBt fdBt psBt (spBt C CH)) (mBt : Meth K C "batch" fBt)
    {fTo fBk fId : Addr} {fdTo fdBk fdId : FuncData} (GTo : FnOk P w K mg base CX0 1 fTo fdTo ["self"] (spDTo C)) (mTo : Meth K C "told" fTo) (bTo : Binds K fdTo ["self"] []) (GBk : FnOk P w K mg base CX0 1 fBk fdBk ["self"] (spDBk C)) (mBk : Meth K C "book" fBk) (bBk : Binds K fdBk ["self"] [])
    (GId : FnOk P w K mg base CX0 1 fId fdId ["self"] (spDId C)) (mId : Meth K C "is_idle" fId) (bId : Binds K fdId ["self"] [])
    (DRo : Df P w K mg base "_law_row" ["_law_script"] 1 (spRow K)) (DT : Df P w K mg base "_law_taken" ["_law_row_here", "_law_many"] 1 (spTaken K)) (DLe : Df P w K mg base "_law_letters" ["_law_row_here"] 2 (spLetters K))
    (DLDk : Df P w K mg base "_law_desk" ["_law_row_here", "_law_letters_here"] 5 (spLDk K)) (DDd : Df P w K mg base "_law_deed" ["_law_row_here", "_law_letters_here", "_law_many", "_law_words"] 4 (spLDd K))
    (DDn : Df P w K mg base "_law_done" ["_law_w", "_law_deed_here"] 4 (spDone K)) (DBo : Df P w K mg base "_law_book_of" ["_law_w"] 1 spBof) (DAl : Df P w K mg base "_law_alike" psAl 5 (spAl K 5)) :
    FnOk P w K mg base CX0 13 f (PySem.W.fnOf "law" "law" (defArgs sLaw) (defBody sLaw) (defScope sLaw) .none kV doc pm an (.ref cL) ct) ["_law_script"] (spLawT K Pt) := by
  obtain ⟨fRo, fdRo, GRo, kRo, bRo, mRo⟩ := DRo
  obtain ⟨fT, fdT, GT, kT, bT, mT⟩ := DT
  obtain ⟨fLe, fdLe, GLe, kLe, bLe, mLe⟩ := DLe
  obtain ⟨fLDk, fdLDk, GLDk, kLDk, bLDk, mLDk⟩ := DLDk
  obtain ⟨fDd, fdDd, GDd, kDd, bDd, mDd⟩ := DDd
  obtain ⟨fDn, fdDn, GDn, kDn, bDn, mDn⟩ := DDn
  obtain ⟨fBo, fdBo, GBo, kBo, bBo, mBo⟩ := DBo
  obtain ⟨fAl, fdAl, GAl, kAl, bAl, mAl⟩ := DAl
  obtain ⟨mvk, kbBt⟩ : ∃ mv : List Value, KBn K fdBt psBt 2 ["keep"] (fun us ws => us ++ ws) (fun vs zs => vs ++ zs) := by
    refine FBt.kbinds0 2 ["keep"] [] (fun us mv ws => us ++ ws) (by simp) (by simp) (fun r1 r2 r3 => r1.append r3) (fun D doc pm an cdv ct us mv ws h1 h2 h3 => ?_)
    match us, h1, mv, h2, ws, h3 with
    | [a, b], _, [], _, [c], _ => rfl
  obtain ⟨dsBt, rdBt, bdBt⟩ : ∃ ds, Vals [V.bl true] ds ∧ L2.Binds K fdBt psBt ds := by
    refine FBt.binds0 2 (by simp) rfl (fun D doc pm an cdv ct us ks h1 h2 => ?_)
    match us, h1, ks, h2 with
    | [a, b], _, [c], _ => exact ⟨_, _, _, _, _, _, rfl, rfl, rfl⟩
  obtain ⟨cS, mS, _⟩ := id WC.say
  obtain ⟨ocW, odW, kVW, docW, pmW, anW, cdvW, ctW, oslW, eW, lkW, hcW⟩ := FW.ex
  have kW := FW.kp
  have bW : Binds K fdW ["_law_work"] [] := FW.binds fun _ _ _ _ _ _ us hl => match us, hl with | [_], _ => rfl
  subst eW
  refine fn_of lk hcd scLaw (fun vs H Q E h => ?_) (fun A outer s H vs Q E hr h => ?_)
  · obtain ⟨a, ns, rfl, _⟩ := h
    rfl
  · obtain ⟨a, ns, rfl, hSc, hle, hPt, q⟩ := h
    suffices hh : ∃ tt, PSs (cxOf CX0 P w K mg base nLaw "law" (defScope sLaw) f (.ref cL) A outer s H E).nox (defBody sLaw) tt ∧ tt { nx := fun _ H' => Q .non H', rt := Q } (start nLaw [.ref a]) H by
      obtain ⟨tt, h1, h2⟩ := hh
      exact ⟨tt, h1.nox, h2⟩
    have hr1 : Room 1 _ := hr.mono (by decide)
    have hr2 : Room 2 _ := hr.mono (by decide)
    have hr4 : Room 4 _ := hr.mono (by decide)
    have hr5 : Room 5 _ := hr.mono (by decide)
    have hr7 : Room 7 _ := hr.mono (by decide)
    have hr12 : Room 12 _ := hr
    have hu := hu_of hr
    -- behind a batch
    obtain ⟨tT, psT, qT⟩ : ∃ tT : TS, PSs (cxOf CX0 P w K mg base nLaw "law" (defScope sLaw) f (.ref cL) A outer s H E).nox stT tT ∧
        ∀ (D : Ends) (H1 : Hp) (L : List Nat) (r y t wD b LN DE DU RL XD u : Addr) (rs0 rs : List Rule) (es0 es eF : List Exc) (wl : List Str) (ts : List Addr) (good rest : List Deed) (us : List V) (en : Option Nat) (kb : Bool) (v0 v2 v3 v7 v8 v12 v13 v17 : Option V),
          J21 K H [(Pt, qLam)] C r a y t wD ns L b LN DE DU rs es eF (toldL wl good) wl H1 RL XD ts (good ++ rest) us → BookOk L rs es → eF.Perm es → wl.length ≤ 100 → good.length ≤ 10 → ts.length ≤ 100 → TellOk L rs0 es0 H1 u us good kb en →
          (∀ (LN2 : Addr) (H2 : Hp) (w17 : Option V), Same H1 H2 → H1 LN2 = none → H2 LN2 = some (.lst (wordsV (toldL wl good))) → D.nx [v0, some (.ref r), v2, v3, some (.ref wD), some (.ref y), some (.ref LN2), v7, v8, some (.ref DE), some (.ref DU), some (endV en), v12, v13, some (.bl kb), some (.int (good.length : Nat)), some (.ref u), w17] H2) →
          tT D [v0, some (.ref r), v2, v3, some (.ref wD), some (.ref y), some (.ref LN), v7, v8, some (.ref DE), some (.ref DU), some (endV en), v12, v13, some (.bl kb), some (.int (good.length : Nat)), some (.ref u), v17] H1 := by
      refine ⟨_, pss_cons (ps_set (i := 6) scLaw.nd rfl (.inl rfl) (pe_op op_cat (pe_op op_cat (pe_op op_cat (pv 6) (pe_lst (pa_cons pe_str pa_nil))) (pe_lc (own := [("_law_deed_here", 17)]) (g := gName 17) (te := tOp (rIxT K) (tVar 17) (tC (.int 0))) rfl scLaw.nd (pi_list (pe_slice sl_list (pv 9) po_none (po_some (pv 15)))) (blkOk_by (N := nLaw) (sc := defScope sLaw) (by decide +kernel)) (fun _ _ _ _ _ => pg_name (i := 17) scLaw.nd rfl (.inl rfl)) (fun _ _ _ _ _ => pts_nil) (fun _ _ _ _ _ => pe_ix ix_tup (pv 17) pe_int (fun _ _ => rfl)))) (pe_lst (pa_cons pe_str pa_nil))))
        (pss_cons (ps_if (pt_not (pt_val (pe_call GAl hr5 (by rfl) mAl kAl bAl .nil pass0 (pa_cons (pv 16) (pa_cons (pe_ifExp (pt_cmpR op_isN (pv 11) pe_non (nomark _)) (pe_tup (pa_cons pe_str (pa_cons (pv 10) pa_nil))) (pe_tup (pa_cons pe_str (pa_cons (pe_tup (pa_cons (pv 11) (pa_cons (pe_op op_mul (pv 11) (pe_callTy call_int1 (by rfl) zint (by decide +kernel) (pa_cons (pv 14) pa_nil))) pa_nil))) pa_nil)))) pa_nil))))) (pss_one (ps_ret pe_bl)) pss_nil)
        (pss_cons (ps_if (PW.pt (pw_or (pt_not (pt_val (pe_call GAl hr5 (by rfl) mAl kAl bAl .nil pass0 (pa_cons (pe_lst (pa_cons (pe_meth0 (pv 5) S.cl mBk GBk hr1 bBk .nil pass0) (pa_cons (pe_meth0 (pv 5) S.cl mTo GTo hr1 bTo .nil pass0) pa_nil))) (pa_cons (pe_lst (pa_cons (pe_call GBo hr1 (by rfl) mBo kBo bBo .nil pass0 (pa_cons (pv 4) pa_nil)) (pa_cons (pv 6) pa_nil))) pa_nil))))) (pw_or1 (pt_not (pt_val (pe_meth0 (pv 5) S.cl mId GId hr1 bId .nil pass0)))))) (pss_one (ps_ret pe_bl)) pss_nil)
        (pss_one (ps_expr (pe_bm PySem.F.plainAttrs_list PySem.F.slot_list_append PySem.F.type_list_append mt_append (pe_meth0 (pv 5) S.cl mTo GTo hr1 bTo .nil pass0) (pa_cons pe_str pa_nil)))))), fun D H1 L r y t wD b LN DE DU RL XD u rs0 rs es0 es eF wl ts good rest us en kb v0 v2 v3 v7 v8 v12 v13 v17 j1 ok pm hwl h10 h100 te fin => ?_⟩
      refine ⟨_, rfl, (by show 1 ≤ sizeLine; decide), fun p1 np1 => ?_⟩
      have s1 := same_new np1 (.lst [.str "begun"])
      have lw : (wordsV wl).length = wl.length := by unfold wordsV; rw [List.length_map]
      refine ⟨LN, p1, _, _, rfl, rfl, s1 _ _ j1.ln, upd_same, by rw [lw]; show _ + 1 ≤ _; exact small (by omega), fun q1 nq1 => ?_⟩
      have s2 := same_new nq1 (.lst (wordsV wl ++ [.str "begun"]))
      have hq1 : (upd (upd H1 p1 (.lst [.str "begun"])) q1 (.lst (wordsV wl ++ [.str "begun"]))) q1 = some (.lst (wordsV wl ++ [.str "begun"])) := upd_same
      have s12 := s1.trans s2
      generalize upd (upd H1 p1 (.lst [.str "begun"])) q1 (.lst (wordsV wl ++ [.str "begun"])) = H3 at hq1 s12 ⊢
      have j3 := j1.same s12
      have lts := paired_len j3.dp
      refine ⟨_, rfl, _, rfl, good.length, rfl, DE, _, rfl, .inl (.inl j3.de), fun g1 ng1 => ?_⟩
      rw [cut_takeW]
      have s3 := same_new ng1 (.lst ((ts.map V.ref).take good.length))
      have hg1 : (upd H3 g1 (.lst ((ts.map V.ref).take good.length))) g1 = some (.lst ((ts.map V.ref).take good.length)) := upd_same
      generalize upd H3 g1 (.lst ((ts.map V.ref).take good.length)) = H4 at hg1 s3 ⊢
      have j4 := j3.same s3
      have s14 := s12.trans s3
      have hq4 := s3 _ _ hq1
      refine ⟨g1, rfl, ⟨_, .inl (.inl hg1)⟩, fun D3 hD3 => ?_⟩
      refine lc_it (walk_list (xs := (ts.map V.ref).take good.length)) (fun i HX => HX D3 = some (.lst (wordsV ((good.take i).map wordM))) ∧ Same H4 HX) ⟨upd_same, same_new hD3 _⟩ (fun i HX _ h => .inl (.inl (h.2 _ _ hg1))) ?_ ?_
      · rintro i x HX HX' hi ⟨f1, f3⟩ ⟨rfl, hx⟩
        have hig : i < good.length := by
          have h0 := (List.getElem?_eq_some_iff.mp hx).1
          rw [List.length_take] at h0
          omega
        rw [List.getElem?_take_of_lt hig, List.getElem?_map] at hx
        obtain ⟨dt, hdt, rfl⟩ := Option.map_eq_some_iff.mp hx
        obtain ⟨d, hd, hdA⟩ := paired_at j4.dp hdt
        have hg : good[i]? = some d := by rw [List.getElem?_append_left hig] at hd; exact hd
        obtain ⟨rw', hw⟩ := hdA.word
        refine ⟨rfl, _, rfl, dt, _, 0, .str (wordM d), rfl, rfl, .inl (.inl (f3 _ _ hw)), atI_nat (j := 0) rfl, _, f1, ?_, ?_, ?_⟩
        · unfold wordsV
          rw [List.length_map, List.length_map, List.length_take]
          exact smallM (by omega)
        · rw [upd_same, take_app hg, List.map_append]
          unfold wordsV
          rw [List.map_append]
          rfl
        · exact fun b' u q' => by
            rw [upd_ne (ne_of_none q' hD3)]
            exact f3 b' u q'
      · rintro H5 ⟨f1, f3⟩
        have lg : ((ts.map V.ref).take good.length).length = good.length := by
          rw [List.length_take, List.length_map, lts, List.length_append]
          omega
        rw [lg, List.take_length] at f1
        have lgw : (wordsV (good.map wordM)).length = good.length := by unfold wordsV; rw [List.length_map, List.length_map]
        have j5 := j4.same f3
        have s15 := s14.trans f3
        refine ⟨q1, D3, _, _, rfl, rfl, f3 _ _ hq4, f1, by rw [List.length_append, lw, lgw]; show _ + 1 + _ ≤ _; exact small (by omega), fun q2 nq2 => ?_⟩
        have s5 := same_new nq2 (.lst (wordsV wl ++ [.str "begun"] ++ wordsV (good.map wordM)))
        have hq2 : (upd H5 q2 (.lst (wordsV wl ++ [.str "begun"] ++ wordsV (good.map wordM)))) q2 = some (.lst (wordsV wl ++ [.str "begun"] ++ wordsV (good.map wordM))) := upd_same
        refine ⟨(by show 1 ≤ sizeLine; decide), fun p3 np3 => ?_⟩
        have s6 := same_new np3 (.lst [.str "ended"])
        refine ⟨q2, p3, _, _, rfl, rfl, s6 _ _ hq2, upd_same, by rw [List.length_append, List.length_append, lw, lgw]; show _ + 1 + _ + 1 ≤ _; exact small (by omega), fun LN2 nLN2 => ?_⟩
        have s7 := same_new nLN2 (.lst (wordsV wl ++ [.str "begun"] ++ wordsV (good.map wordM) ++ [.str "ended"]))
        have ew : wordsV wl ++ [.str "begun"] ++ wordsV (good.map wordM) ++ [.str "ended"] = wordsV (toldL wl good) := by
          unfold toldL wordsV
          simp only [List.map_append, List.append_assoc]
          rfl
        have hLN2 : (upd (upd (upd H5 q2 (.lst (wordsV wl ++ [.str "begun"] ++ wordsV (good.map wordM)))) p3 (.lst [.str "ended"])) LN2 (.lst (wordsV wl ++ [.str "begun"] ++ wordsV (good.map wordM) ++ [.str "ended"]))) LN2 = some (.lst (wordsV (toldL wl good))) := by rw [upd_same, ew]
        have nL1 : H1 LN2 = none := (s15.trans (s5.trans s6)).free nLN2
        have s57 := s5.trans (s6.trans s7)
        generalize upd (upd (upd H5 q2 (.lst (wordsV wl ++ [.str "begun"] ++ wordsV (good.map wordM)))) p3 (.lst [.str "ended"])) LN2 (.lst (wordsV wl ++ [.str "begun"] ++ wordsV (good.map wordM) ++ [.str "ended"])) = H7 at hLN2 s57 ⊢
        have s17 := s15.trans s57
        have j7 := j1.same s17
        have te7 := te.same s17
        clear j1 j3 j4 j5 te s1 s2 s3 s5 s6 s7 s12 s14 s15 s57 f1 f3 hq1 hq2 hq4 hg1
        simp only [List.set_cons_succ, List.set_cons_zero]
        have l10 : (resL rs0 es0 good).length ≤ 100 := by rw [resL_len]; omega
        refine ⟨_, rfl, _, rfl, rfl, _, rfl, ?_⟩
        refine' iteR (H7 := H7) ?ya ?yb ?yc
        case ya =>
          intro c r
          have een : en = none := by
            cases en with
            | none => rfl
            | some m => exact absurd (of_decide_eq_true c) (by intro z; cases z)
          have te8 : TellOk L rs0 es0 H7 u us good kb none := een ▸ te7
          obtain ⟨p, xs, hu, hp, hx1, hx2⟩ := te8
          refine ⟨_, rfl, (by show 2 ≤ sizeLine; decide), fun z nz => ?_⟩
          have sz := same_new nz (.tup [.str "", .ref DU])
          exact ⟨.ref u, .ref z, ansD (resL rs0 es0 good), rfl, .tup (.inl (.inl (sz _ _ hu))) (.cons (.str _) (.cons (.lst (.inl (.inl (sz _ _ hp))) (vals_dp (paired_mono (fun _ _ q => ValAt.kt q (.of sz)) hx1))) .nil)),
            .tup (.inl (.inl upd_same)) (.cons (.str _) (.cons (.lst (.inl (.inl (sz _ _ j7.du))) (vals_dp (paired_mono (fun _ _ q => ValAt.kt q (.of sz)) hx2))) .nil)), ans_few l10, ans_depth _, fun H' s' => r H' (sz.trans s')⟩
        case yb =>
          intro c r
          obtain ⟨m0, een⟩ : ∃ m0, en = some m0 := by
            cases en with
            | none => exact absurd c (by simp [endV])
            | some m => exact ⟨m, rfl⟩
          have te8 : TellOk L rs0 es0 H7 u us good kb (some m0) := een ▸ te7
          obtain ⟨em0, qq, hu, hq⟩ := te8
          have ev : endV en = V.int (good.length : Nat) := by rw [een, em0]; rfl
          refine ⟨_, rfl, _, rfl, _, rfl, .inr ⟨kb, rfl, ((good.length : Nat) : Int), (if kb then 1 else 0), ev, rfl, .inr (by cases kb <;> exact ⟨by decide, by decide⟩), (by show 2 ≤ sizeLine; decide), fun z1 nz1 => ⟨(by show 2 ≤ sizeLine; decide), fun z nz => ?_⟩⟩⟩
          have em : ((good.length : Nat) : Int) * (if kb then 1 else 0) = (((if kb then good.length else 0 : Nat)) : Int) := by cases kb <;> simp
          have sz1 := same_new nz1 (.tup [endV en, V.int (((good.length : Nat) : Int) * (if kb then 1 else 0))])
          have hz1 : (upd H7 z1 (.tup [endV en, V.int (((good.length : Nat) : Int) * (if kb then 1 else 0))])) z1 = some (.tup [.int (good.length : Nat), .int (((if kb then good.length else 0 : Nat)) : Int)]) := by rw [upd_same, ev, em]
          have sz := same_new nz (.tup [.str "halted", .ref z1])
          exact ⟨.ref u, .ref z, haltD (good.length : Nat) ((if kb then good.length else 0 : Nat) : Int), rfl, .tup (.inl (.inl (sz _ _ (sz1 _ _ hu)))) (.cons (.str _) (.cons (.tup (.inl (.inl (sz _ _ (sz1 _ _ hq)))) (.cons (.int _) (.cons (.int _) .nil))) .nil)),
            .tup (.inl (.inl upd_same)) (.cons (.str _) (.cons (.tup (.inl (.inl (sz _ _ hz1))) (.cons (.int _) (.cons (.int _) .nil))) .nil)), few2 (.str _) (few2 (.int _) (.int _)), (by show 2 < 5; decide), fun H' s' => r H' (sz1.trans (sz.trans s'))⟩
        case yc =>
          intro H8 s8
          have j8 := j7.same s8
          have hL8 := s8 _ _ hLN2
          have s18 := s17.trans s8
          refine ⟨true, rfl, iteF ?_⟩
          obtain ⟨⟨dy, hy⟩, hbk, hto⟩ := id j8.dk
          have ndF : (eF.map (·.1)).Nodup := (pm.map (·.1)).nodup_iff.mpr (up_nd ok.up)
          refine ⟨_, rfl, y, dy, _, rfl, hy, rfl, y, dy, b, t, true, rfl, hy, ?_⟩
          refine ⟨_, rfl, y, dy, _, rfl, hy, rfl, y, dy, b, t, true, _, rfl, hy, hto, fun p9 H9 np9 s9 hp9 => ?_⟩
          refine ⟨(by show 2 ≤ sizeLine; decide), fun l1 nl1 => ?_⟩
          have s10 := same_new nl1 (.lst [.ref b, .ref p9])
          have hl1 : (upd H9 l1 (.lst [.ref b, .ref p9])) l1 = some (.lst [.ref b, .ref p9]) := upd_same
          have hp10 := s10 _ _ hp9
          have s810 := s9.trans s10
          generalize upd H9 l1 (.lst [.ref b, .ref p9]) = H10 at s10 hl1 hp10 s810 ⊢
          have j10 := j8.same s810
          refine ⟨_, rfl, wD, RL, XD, L, rs, eF, rfl, j10.ld, ndF, by rw [pm.length_eq]; exact ok.e8, fun bb es3 H11 pm3 st3 hbb s11 => ?_⟩
          have one : es3 = es := uniq_sorted (r := fun e f : Exc => e.1 < f.1) (fun a b h z => List.lt_asymm h z) (pm3.trans pm) st3 ok.up
          rw [one] at hbb
          refine ⟨_, rfl, (by show 2 ≤ sizeLine; decide), fun l2 nl2 => ?_⟩
          have s12 := same_new nl2 (.lst [.ref bb, .ref LN2])
          have s1012 := s11.trans s12
          have hl2 : (upd H11 l2 (.lst [.ref bb, .ref LN2])) l2 = some (.lst [.ref bb, .ref LN2]) := upd_same
          have hbb12 := hbb.kt (.of s12)
          generalize upd H11 l2 (.lst [.ref bb, .ref LN2]) = H12 at s12 hl2 hbb12 s1012 ⊢
          have j12 := j10.same s1012
          have s812 := s810.trans s1012
          have tl : (toldL wl good).length ≤ 1000 := by
            unfold toldL
            rw [List.length_append, List.length_append, List.length_append, List.length_map]
            show _ + (1 + _ + 1) ≤ _
            omega
          refine ⟨.ref l1, .ref l2, bothD L rs es (toldL wl good), rfl, .lst (.inl (.inl (s1012 _ _ hl1))) (.cons (dp_book j12.dk.bk) (.cons (.lst (.inl (.inl (s1012 _ _ hp10))) (words_dp _)) .nil)),
            .lst (.inl (.inl hl2)) (.cons (dp_book hbb12) (.cons (.lst (.inl (.inl (s812 _ _ hL8))) (words_dp _)) .nil)), both_few ok tl, both_depth _ _ _ _, fun H13 s13 => ?_⟩
          have j13 := j12.same s13
          obtain ⟨⟨dz, hz⟩, _, htz⟩ := id j13.dk
          refine ⟨true, rfl, iteF ⟨_, rfl, y, dz, _, rfl, hz, rfl, y, dz, b, t, true, rfl, hz, true, rfl, iteF ?_⟩⟩
          refine ⟨_, rfl, y, dz, _, rfl, hz, rfl, y, dz, b, t, true, _, rfl, hz, htz, fun p14 H14 np14 s14 hp14 => ?_⟩
          have s13' := s18.trans (s812.trans s13)
          refine ⟨.inl ⟨rfl, _, .inl (.inl hp14)⟩, p14, _, _, rfl, rfl, hp14, by unfold wordsV; rw [List.length_map]; exact smallM (by omega), ?_⟩
          refine fin LN2 _ _ (fun c o hc => ?_) nL1 ?_
          · rw [upd_ne (ne_of_none (s13' _ _ hc) np14)]
            exact s14 _ _ (s13' _ _ hc)
          · rw [upd_ne (ne_of_none (s13 _ _ (s812 _ _ hL8)) np14)]
            exact s14 _ _ (s13 _ _ (s812 _ _ hL8))
    refine ⟨_, pss_cons (ps_set (i := 1) scLaw.nd rfl (.inl rfl) (pe_call GRo hr1 (by rfl) mRo kRo bRo .nil pass0 (pa_cons (pv 0) pa_nil)))
        (pss_cons (ps_set (i := 2) scLaw.nd rfl (.inl rfl) (pe_call GLe hr2 (by rfl) mLe kLe bLe .nil pass0 (pa_cons (pv 1) pa_nil)))
        (pss_cons (ps_asg (pe_call GLDk hr5 (by rfl) mLDk kLDk bLDk .nil pass0 (pa_cons (pv 1) (pa_cons (pv 2) pa_nil))) (pg_tup (by rfl) (pgs_cons (pg_name (i := 3) scLaw.nd rfl (.inl rfl)) (pgs_cons (pg_name (i := 4) scLaw.nd rfl (.inl rfl)) pgs_nil))))
        (pss_cons (ps_asg (pe_tup (pa_cons (pe_make Mk_ GIn hr7 (by rfl) mgC bIn .nil pass0 (pa_cons (pv 3) pa_nil)) (pa_cons (pe_lst pa_nil) pa_nil))) (pg_tup (by rfl) (pgs_cons (pg_name (i := 5) scLaw.nd rfl (.inr rfl)) (pgs_cons (pg_name (i := 6) scLaw.nd rfl (.inl rfl)) pgs_nil))))
        (pss_cons (ps_for PassesOwn.never rfl (pi_range1 (by rfl) B.rng (pa_cons pe_int pa_nil)) (pg_name (i := 7) scLaw.nd rfl (.inl rfl)) (pss_cons (ps_set (i := 8) scLaw.nd rfl (.inl rfl) (pe_tup (pa_cons (pe_callTy call_list_of (by rfl) B.lst (by decide +kernel) (pa_cons (pe_dget hu (pv 4) pe_str (fun _ _ => rfl)) pa_nil)) (pa_cons (pe_callTy call_dictD (by rfl) zdict (by decide +kernel) (pa_cons (pe_dget hu (pv 4) pe_str (fun _ _ => rfl)) pa_nil)) pa_nil))))
        (pss_cons (ps_asg (pe_tup (pa_cons (pe_lst pa_nil) (pa_cons (pe_lst pa_nil) (pa_cons pe_non pa_nil)))) (pg_tup (by rfl) (pgs_cons (pg_name (i := 9) scLaw.nd rfl (.inr rfl)) (pgs_cons (pg_name (i := 10) scLaw.nd rfl (.inl rfl)) (pgs_cons (pg_name (i := 11) scLaw.nd rfl (.inl rfl)) pgs_nil)))))
        (pss_cons (ps_for PassesOwn.never rfl (pi_range1 (by rfl) B.rng (pa_cons (pe_call GT hr1 (by rfl) mT kT bT .nil pass0 (pa_cons (pv 1) (pa_cons pe_int pa_nil))) pa_nil)) (pg_name (i := 12) scLaw.nd rfl (.inl rfl)) (pss_cons (ps_expr (pe_bm PySem.F.plainAttrs_list PySem.F.slot_list_append PySem.F.type_list_append mt_append (pv 9) (pa_cons (pe_call GDd hr4 (by rfl) mDd kDd bDd .nil pass0 (pa_cons (pv 1) (pa_cons (pv 2) (pa_cons (pe_callB call_len (by rfl) B.len PySem.boot_len (pa_cons (pe_dget hu (pv 4) pe_str (fun _ _ => rfl)) pa_nil)) (pa_cons (pe_callB (call_sortedD rfl) (by rfl) B.srt (by decide +kernel) (pa_cons (pe_dget hu (pv 4) pe_str (fun _ _ => rfl)) pa_nil)) pa_nil))))) pa_nil)))
                        (pss_one (ps_if (pt_cmpR op_isN (pv 11) pe_non (nomark _)) (pss_cons (ps_set (i := 13) scLaw.nd rfl (.inl rfl) (pe_call GDn hr4 (by rfl) mDn kDn bDn .nil pass0 (pa_cons (pv 4) (pa_cons (pe_ix ix_list (pv 9) (pv 12) (fun _ _ => rfl)) pa_nil))))
                          (pss_cons (ps_expr (pe_bm PySem.F.plainAttrs_list PySem.F.slot_list_append PySem.F.type_list_append mt_append (pv 10) (pa_cons (pe_ix ix_tup (pv 13) pe_int (fun _ _ => rfl)) pa_nil)))
                          (pss_one (ps_set (i := 11) scLaw.nd rfl (.inl rfl) (pe_ifExp (pt_cmpR op_ne (pe_ix ix_tup (pv 13) pe_int (fun _ _ => rfl)) pe_str (nomark _)) (pv 12) pe_non))))) pss_nil))))
        (pss_cons (ps_set (i := 14) scLaw.nd rfl (.inr rfl) (pe_cmpR op_eq (pe_call GT hr1 (by rfl) mT kT bT .nil pass0 (pa_cons (pv 1) (pa_cons pe_int pa_nil))) pe_int (nomark _)))
        (pss_cons (ps_set (i := 15) scLaw.nd rfl (.inl rfl) (pe_ifExp (pt_cmpR op_isN (pv 11) pe_non (nomark _)) (pe_callB call_len (by rfl) B.len PySem.boot_len (pa_cons (pv 9) pa_nil)) (pv 11)))
        (pss_cons (ps_if (PW.pt (pw_and (pt_cmpR op_notN (pv 11) pe_non (nomark _)) (pw_and1 (pt_not (pt_val (pv 14)))))) (pss_one (ps_asg (pv 8) (pg_tup (by rfl) (pgs_cons (pg_sub (pv 4) pe_str (set_dict hu)) (pgs_cons (pg_sub (pv 4) pe_str (set_dict hu)) pgs_nil))))) pss_nil)
        (pss_cons (ps_if (PW.pt (pw_and (pt_val (pv 14)) (pw_and1 (pt_cmpR op_eq (pe_call GT hr1 (by rfl) mT kT bT .nil pass0 (pa_cons (pv 1) (pa_cons pe_int pa_nil))) pe_int (nomark _))))) (pss_one (ps_set (i := 16) scLaw.nd rfl (.inl rfl) (LamX.pe_lamcall (T := [(Pt, qLam)]) (k := 10) (t := fun E => tMeth C "batch" (spBt C CH) [.bl true] E (tVar 5) (tCons (tVar 9) tNil)) (by rfl) mW kW lkW hcW bW scLWo rfl (by exact .inl rfl) (word_gives B mS) TB rfl (List.mem_singleton.mpr rfl) (fun p hp _ => by rw [List.mem_singleton.mp hp]; rfl) hr12 (LamX.lamS_by (by show LamX.lamSB (defScope sLaw) _ = true; decide +kernel)) rfl (fun _ _ _ _ _ => rfl)
            (fun A' outer' s' H' E' f' c' hr' => pe_meth (E := E') (pv 5) S.cl mBt GBt hr' bdBt rdBt (passes_call (W := fun cls d _ H => E' cls d H) (takes_of rfl rfl rfl rfl) (fun _ _ _ _ h => h)) (pa_cons (pv 9) pa_nil))))) (pss_one (ps_set (i := 16) scLaw.nd rfl (.inl rfl) (LamD.pe_lamcall (Ts := [(Pt, qLam)]) (a := "_law_a") (z := 0) (k := 10) (t := fun E => tMethN C "batch" 1 (["keep"] : List Str).length (spBt C CH) (fun vs zs => vs ++ zs) E (tVar 5) (tCons (tVar 9) tNil) (tCons (tVar 14) tNil)) (by rfl) mW kW lkW hcW bW scLWo rfl (by exact .inl rfl) (word_gives B mS) TB rfl (List.mem_singleton.mpr rfl) (fun p hp _ => by rw [List.mem_singleton.mp hp]; rfl) hr12 (LamD.par_by (by show LamD.parB nLaw (defScope sLaw) _ _ = true; decide +kernel)) rfl rfl pe_int (fun _ _ _ _ _ _ _ _ _ hD => BindsTo.of_defaults rfl hD rfl rfl rfl)
            (fun A' outer' s' H' E' f' c' hr' => pe_methN (E := E') (n := 1) (pv 5) S.cl mBt GBt hr' kbBt (passes_call (W := fun cls d _ H => E' cls d H) (takes_of rfl rfl rfl rfl) (fun _ _ _ _ h => h)) (pa_cons (pv 9) pa_nil) (pk_cons (pv 14) pk_nil))))))
        psT))))))))
        (pss_one (ps_ret pe_bl)))))), ?_⟩
    have T0 : LamX.Tabs [(Pt, qLam)] H := fun p hp => by
      rw [List.mem_singleton.mp hp]
      exact LamX.TabS.nil hPt
    refine ⟨_, rfl, a, ns, rfl, hSc, hle, fun r H1 hr0 s1 R1 => ?_⟩
    have T1 := T0.ext s1
    refine ⟨_, rfl, r, a, ns, rfl, R1, fun L H2 hL s2 R2 => ?_⟩
    have T2 := tabs_stp T1 R1.in s2
    have oL := letsD_ok hL
    refine ⟨_, rfl, _, rfl, r, a, ns, L, rfl, R2, oL, fun pp b0 wD RL XD rs0 es0 H3 ho hes4 hpp hB LD nwD nRL nXD s3 R3 => ?_⟩
    have T3 := tabs_stp T2 R2.in s3
    have sc3 : ∀ o, Tr H a o → H3 a = some o := fun o q => s3 _ _ (s2 _ _ (s1 _ _ q.1) (fun z => by have q1 := q.1; rw [z, hr0] at q1; cases q1)) (fun z => by have q1 := q.1; rw [z, hr0] at q1; cases q1)
    refine ⟨pp, _, rfl, .inl (.inl hpp), rfl, _, _, rfl, _, _, rfl, rfl, ?_⟩
    simp only [L2.start, List.length_cons, List.length_nil, List.map_cons, List.map_nil, Nat.zero_add, Nat.reduceAdd, Nat.reduceSub, List.replicate, List.cons_append, List.nil_append, List.set_cons_succ, List.set_cons_zero]
    refine ⟨_, rfl, ?_⟩
    intro y dx ny ndx nd
    have s34 : Same H3 (upd (upd H3 dx (.own y)) y (.ins C dx [])) := fun b' o hb' => by
      rw [upd_ne (ne_of_none hb' ny), upd_ne (ne_of_none hb' ndx)]
      exact hb'
    refine ⟨y, dx, b0, L, rs0, es0, rfl, upd_same, hB.kt (.of s34), ho, fun t H4 ht st hS4 => ⟨rfl, ?_⟩⟩
    have s4 : Same H3 H4 := fun b' o hb' => st _ _ (s34 _ _ hb') (ne_of_none hb' ny)
    refine ⟨(by show 0 ≤ sizeLine; decide), fun LN nLN => ?_⟩
    have sL := same_new nLN (.lst [])
    refine ⟨(by show 2 ≤ sizeLine; decide), fun pq npq => ?_⟩
    have sq := same_new npq (.tup [.ref y, .ref LN])
    refine ⟨pq, _, rfl, .inl (.inl upd_same), rfl, _, _, rfl, _, _, rfl, rfl, ?_⟩
    have hLN : (upd (upd H4 LN (.lst [])) pq (.tup [.ref y, .ref LN])) LN = some (.lst (wordsV [])) := sq _ _ upd_same
    have s45 : Same H4 (upd (upd H4 LN (.lst [])) pq (.tup [.ref y, .ref LN])) := sL.trans sq
    have s5 := s4.trans s45
    have hr3 : ∃ o, H3 r = some o := by obtain ⟨⟨i, c, m, h, _⟩, _⟩ := R3; exact ⟨_, h⟩
    obtain ⟨or, hor⟩ := hr3
    have htn : ∀ {x : Addr} {o : HO}, H3 x = some o → t ≠ x := fun {x o} hx z => by rw [← z] at hx; rw [s34 _ _ hx] at ht; cases ht
    have hln4 : ∀ {x : Addr} {o : HO}, H4 x = some o → LN ≠ x := fun {x o} hx z => by rw [← z, nLN] at hx; cases hx
    obtain ⟨tsR, hRL3, _⟩ := id LD.r
    have nxW : wD ≠ XD := by
      intro z
      have h1 := LD.d
      have h2 := LD.x
      rw [z, h2] at h1
      have hh : es0.map ent = wKv L RL XD := HO.dK.inj (Option.some.inj h1)
      have hh := congrArg (fun l : List (Key × V) => (l.map (·.2))[1]?) hh
      have hh : ((es0.map ent).map (·.2))[1]? = some (V.ref RL) := hh
      rw [List.map_map, List.getElem?_map] at hh
      cases he : es0[1]? with
      | none => rw [he] at hh; cases hh
      | some e => rw [he] at hh; cases hh
    have h5 : S21 K H [(Pt, qLam)] C r a y t wD ns L (upd (upd H4 LN (.lst [])) pq (.tup [.ref y, .ref LN])) b0 LN RL XD rs0 es0 es0 [] :=
      ⟨R3.stp s5, T3.ext s5, hS4.same s45, LD.same s5, hLN, List.Perm.refl _, ho, nxW, fun o q => s5 _ _ (sc3 o q), fun o q => htn (sc3 o q), (fun o q z => by have q1 := q.1; rw [z, hr0] at q1; cases q1), hln4 (s4 _ _ hor), hln4 hS4.told, Ne.symm (htn hRL3), (fun z => by rw [z] at nRL; obtain ⟨⟨i, c, m, h, _⟩, _⟩ := R2; rw [h] at nRL; cases nRL), htn hor⟩
    generalize upd (upd H4 LN (.lst [])) pq (.tup [.ref y, .ref LN]) = H5 at h5
    clear R1 R2 R3 T0 T1 T2 T3 s1 s2 s3 s34 s4 s45 s5 hpp LD hLN hS4 sL sq
    refine ⟨3, rfl, by decide, by decide, for_it (walk_range) (fun j σ H' => ∃ (b LN RL XD : Addr) (rs : List Rule) (es esD : List Exc) (ws : List Str), ws.length ≤ 8 * j ∧ S21 K H [(Pt, qLam)] C r a y t wD ns L H' b LN RL XD rs es esD ws ∧ ∃ v7 v8 v9 v10 v11 v12 v13 v14 v15 v16 v17 : Option V, σ = [some (.ref a), some (.ref r), some (.str (T L)), some (.ref b0), some (.ref wD), some (.ref y), some (.ref LN), v7, v8, v9, v10, v11, v12, v13, v14, v15, v16, v17]) ⟨b0, LN, RL, XD, rs0, es0, es0, [], Nat.le_refl 0, h5, _, _, _, _, _, _, _, _, _, _, _, rfl⟩ (fun _ _ _ _ _ => trivial) ?_ ?_⟩
    · rintro j xv σ H6 H6x hj ⟨b, LN, RL, XD, rs, es, esD, ws, hws, h6, v7, v8, v9, v10, v11, v12, v13, v14, v15, v16, v17, rfl⟩ ⟨rfl, rfl⟩
      simp only [List.set_cons_succ, List.set_cons_zero]
      have hj3 : j < 3 := hj
      clear h5
      have l4 := oL.l4
      have l2 := oL.l2
      obtain ⟨ts0, hRL, hRp⟩ := id h6.ld.r
      have lr := paired_len hRp
      have r12 := h6.ok.r12
      have hWd := h6.ld.d
      have hXD := h6.ld.x
      obtain ⟨g1, g2, g3⟩ := wget L RL XD
      have D2 : DGet H6x wD (.str "rules") (some (.ref RL)) := by rw [← g2]; exact DGet.k (k := (Sum.inr "rules" : Key)) hWd
      -- ahead
      refine ⟨_, rfl, wD, _, rfl, D2, RL, _, rfl, .inl (.inl (.inl hRL)), fun R0 nR0 => ?_⟩
      have sR := same_new nR0 (.lst (ts0.map V.ref))
      have D3 : DGet (upd H6x R0 (.lst (ts0.map V.ref))) wD (.str "excepted") (some (.ref XD)) := by rw [← g3]; exact DGet.k (k := (Sum.inr "excepted" : Key)) (sR _ _ hWd)
      refine ⟨_, rfl, wD, _, rfl, D3, XD, _, rfl, .inl (sR _ _ hXD), fun X0 nX0 => ?_⟩
      have sX := same_new nX0 (.dK (esD.map ent))
      refine ⟨(by show 2 ≤ sizeLine; decide), fun AH nAH => ?_⟩
      have sA := same_new nAH (.tup [.ref R0, .ref X0])
      refine ⟨(by show 0 ≤ sizeLine; decide), fun DE nDE => ?_⟩
      have sE := same_new nDE (.lst [])
      refine ⟨(by show 0 ≤ sizeLine; decide), fun DU nDU => ?_⟩
      have sU := same_new nDU (.lst [])
      refine ⟨(by show 3 ≤ sizeLine; decide), fun tq ntq => ?_⟩
      have sQ := same_new ntq (.tup [.ref DE, .ref DU, .non])
      refine ⟨tq, _, rfl, .inl (.inl upd_same), rfl, _, _, rfl, _, _, rfl, _, _, rfl, rfl, ?_⟩
      have hR0 := (sX.trans (sA.trans (sE.trans (sU.trans sQ)))) _ _ (show (upd H6x R0 (.lst (ts0.map V.ref))) R0 = some (.lst (ts0.map V.ref)) from upd_same)
      have hX0 := (sA.trans (sE.trans (sU.trans sQ))) _ _ (show (upd (upd H6x R0 (.lst (ts0.map V.ref))) X0 (.dK (esD.map ent))) X0 = some (.dK (esD.map ent)) from upd_same)
      have hAH := (sE.trans (sU.trans sQ)) _ _ (show (upd (upd (upd H6x R0 (.lst (ts0.map V.ref))) X0 (.dK (esD.map ent))) AH (.tup [.ref R0, .ref X0])) AH = some (.tup [.ref R0, .ref X0]) from upd_same)
      have hDE := (sU.trans sQ) _ _ (show (upd (upd (upd (upd H6x R0 (.lst (ts0.map V.ref))) X0 (.dK (esD.map ent))) AH (.tup [.ref R0, .ref X0])) DE (.lst [])) DE = some (.lst []) from upd_same)
      have hDU := sQ _ _ (show (upd (upd (upd (upd (upd H6x R0 (.lst (ts0.map V.ref))) X0 (.dK (esD.map ent))) AH (.tup [.ref R0, .ref X0])) DE (.lst [])) DU (.lst [])) DU = some (.lst []) from upd_same)
      have sAll := sR.trans (sX.trans (sA.trans (sE.trans (sU.trans sQ))))
      have fR : ∀ {x : Addr} {o : HO}, H6x x = some o → R0 ≠ x := fun {x o} hx z => by rw [← z, nR0] at hx; cases hx
      have fX : ∀ {x : Addr} {o : HO}, H6x x = some o → X0 ≠ x := fun {x o} hx z => by rw [← z, sR.free nX0] at hx; cases hx
      have fE : ∀ {x : Addr} {o : HO}, (upd H6x R0 (.lst (ts0.map V.ref))) x = some o → DE ≠ x := fun {x o} hx z => by rw [← z, (sX.trans sA).free nDE] at hx; cases hx
      have fU : ∀ {x : Addr} {o : HO}, (upd H6x R0 (.lst (ts0.map V.ref))) x = some o → DU ≠ x := fun {x o} hx z => by rw [← z, (sX.trans (sA.trans sE)).free nDU] at hx; cases hx
      have ned : DE ≠ DU := fun z => by rw [← z, upd_same] at nDU; cases nDU
      obtain ⟨or6, hor6⟩ : ∃ o, H6x r = some o := by obtain ⟨⟨i, c, m, h, _⟩, _⟩ := h6.R; exact ⟨_, h⟩
      have hto6 := h6.dk.told
      have A6 : Ap H r a t wD LN R0 X0 DE DU RL XD := ⟨h6.nx, Ne.symm (fX hWd), fX hXD, h6.lr, h6.lt, h6.rt, h6.Rr, fR hto6, fR hor6, h6.tr, fE (sR _ _ hor6), fE (sR _ _ hto6), fE (sR _ _ h6.ln), fE upd_same, fE (sR _ _ hRL), ned, fU (sR _ _ hor6), fU (sR _ _ hto6), fU (sR _ _ h6.ln), fU upd_same, fU (sR _ _ hRL), h6.ra, h6.ta, fun o q => fE (sR _ _ (h6.sc o q)), fun o q => fU (sR _ _ (h6.sc o q))⟩
      have i6 : I21 K H [(Pt, qLam)] C r a y t wD ns L b LN AH R0 X0 DE DU rs es esD ws _ RL XD rs esD [] [] [] :=
        ⟨h6.R.stp sAll, h6.T.ext sAll, h6.dk.same sAll, sAll _ _ h6.ln, hAH, ⟨ts0, hR0, paired_mono (fun _ _ z => sAll _ _ z) hRp⟩, hX0, hDE, .nil, hDU, h6.ld.same sAll, fun o q => sAll _ _ (h6.sc o q)⟩
      generalize upd (upd (upd (upd (upd (upd H6x R0 (.lst (ts0.map V.ref))) X0 (.dK (esD.map ent))) AH (.tup [.ref R0, .ref X0])) DE (.lst [])) DU (.lst [])) tq (.tup [.ref DE, .ref DU, .non]) = H7 at i6 ⊢
      have pm0 := h6.pm
      have ok0 := h6.ok
      have x0 : XOk L esD := ⟨fun e he => ok0.ex e (pm0.mem_iff.mp he), by rw [pm0.length_eq]; exact ok0.e8, (pm0.map (·.1)).nodup_iff.mpr (up_nd ok0.up)⟩
      have bk0 : BookOk L rs [] := ⟨oL, ok0.rl, r12, (fun e he => nomatch he), Nat.zero_le _, .nil⟩
      clear sR sX sA sE sU sQ hR0 hX0 hAH hDE hDU sAll fR fX fE fU hWd hXD D2 D3 g1 g2 g3 hRL hRp hto6 h6 nR0 nX0 nAH nDE nDU ntq
      refine ⟨_, rfl, r, a, ns, 7, rfl, i6.R, by decide, by decide, fun n H8 n0 n7 s8 R8 => ?_⟩
      have i8 := i6.stp A6 s8 R8
      clear i6 s8 R8
      refine ⟨n, rfl, by omega, by omega, for_it (walk_range) (fun i σ H' => i ≤ n.toNat ∧ ∃ (RL XD : Addr) (rc : List Rule) (ec : List Exc) (ts : List Addr) (ds : List Deed) (us : List V) (en : Option Nat), I21 K H [(Pt, qLam)] C r a y t wD ns L b LN AH R0 X0 DE DU rs es esD ws H' RL XD rc ec ts ds us ∧ Ap H r a t wD LN R0 X0 DE DU RL XD ∧ ds.length = i ∧ us.length ≤ i ∧ BookOk L rc [] ∧ XOk L ec ∧ EndOk L rs es H' rc ec ds us en ∧ ∃ v12 v13 : Option V, σ = [some (.ref a), some (.ref r), some (.str (T L)), some (.ref b0), some (.ref wD), some (.ref y), some (.ref LN), some (.int (0 + (j : Int))), some (.ref AH), some (.ref DE), some (.ref DU), some (endV en), v12, v13, v14, v15, v16, v17])
        ⟨Nat.zero_le _, RL, XD, rs, esD, [], [], [], none, i8, A6, rfl, Nat.le_refl 0, bk0, x0, ⟨trivial, rfl, pm0, .nil⟩, _, _, rfl⟩ (fun _ _ _ _ _ => trivial) ?_ ?_⟩
      · rintro i xv σ H9 H9x hi ⟨hin, RL, XD, rc, ec, ts, ds, us, en, i9, A9, hds, hus, bk9, x9, e9, v12, v13, rfl⟩ ⟨rfl, rfl⟩
        simp only [List.set_cons_succ, List.set_cons_zero]
        have hi6 : i < 7 := by have : i < n.toNat := hi; omega
        obtain ⟨ts1, hRL, hRp⟩ := id i9.ld.r
        have lrc := paired_len hRp
        have rc12 := bk9.r12
        have hWd := i9.ld.d
        have hXD := i9.ld.x
        obtain ⟨g1, g2, g3⟩ := wget L RL XD
        have D2 : DGet H9x wD (.str "rules") (some (.ref RL)) := by rw [← g2]; exact DGet.k (k := (Sum.inr "rules" : Key)) hWd
        have D3 : DGet H9x wD (.str "excepted") (some (.ref XD)) := by rw [← g3]; exact DGet.k (k := (Sum.inr "excepted" : Key)) hWd
        have lts := paired_len i9.dp
        refine ⟨_, rfl, .inl ⟨rfl, _, .inl (.inl i9.de)⟩, _, rfl, _, rfl, _, rfl, wD, _, rfl, D2, _, _, rfl, .inl ⟨_, .inl (.inl hRL), rfl⟩, ?_⟩
        refine ⟨_, rfl, wD, _, rfl, D3, XD, ec.map ent, ec.map (fun e => T e.1), rfl, .inl hXD, by rw [List.map_map, List.map_map]; rfl, by rw [List.length_map]; have := x9.e8; omega, fun ys W pmY stY nW => ?_⟩
        obtain ⟨H10, e10, m10, y10⟩ := newHd nW (.lst (ys.map V.str))
        rw [e10]
        have i10 := i9.same m10
        have wsY : strV (ys.map fun z => z.cps.toList) = ys.map V.str := by
          unfold strV
          rw [List.map_map, List.map_map]
          refine List.map_congr_left fun z _ => ?_
          show V.str (T z.cps.toList) = V.str z
          rw [T_list]
        have okY : ∀ u ∈ ys.map (fun z => z.cps.toList), WordOk L u := fun u hu' => by
          obtain ⟨z, hz, rfl⟩ := List.mem_map.mp hu'
          obtain ⟨e, he, rfl⟩ := List.mem_map.mp (pmY.mem_iff.mp hz)
          have eo := x9.ex e he
          exact ⟨eo.w, eo.w1, eo.w8⟩
        refine ⟨r, a, ns, L, rc.length, W, _, by rw [List.length_map, lrc]; rfl, i10.R, oL, rc12, (by rw [wsY]; exact y10), i9.R.nw nW, okY, by rw [List.length_map, pmY.length_eq, List.length_map]; exact x9.e8, fun dt d H11 hd dok s11 R11 => ?_⟩
        have i11 := i10.stp A9 s11 R11
        have e11 := (e9.kt (.of m10)).kt (i10.R.kt s11)
        clear hRL hRp hXD hWd D2 D3 y10 e10 i10 i9 m10 g1 g2 g3
        refine ⟨DE, _, .ref dt, rfl, rfl, i11.de, by rw [List.length_map]; exact smallM (by omega), ?_⟩
        have i12 := i11.deed A9 hSc hd
        have kd12 : Kd DE DE H11 (upd H11 DE (.lst (ts.map V.ref ++ [.ref dt]))) := Kd.y _
        have kt12 := kt_of kd12 i11.de i11.de (fun _ z => by cases z) (fun _ _ z => by cases z) (fun _ z => by cases z) (fun _ _ z => by cases z)
        have hd12 := hd.kt kt12
        have e12 : EndOk L rs es (upd H11 DE (.lst (ts.map V.ref ++ [.ref dt]))) rc ec ds us en := e11.kt kt12
        generalize upd H11 DE (.lst (ts.map V.ref ++ [.ref dt])) = H12 at i12 hd12 e12 ⊢
        clear kd12 kt12 i11 hd e9 e11
        simp only [List.set_cons_succ, List.set_cons_zero]
        have hin1 : i + 1 ≤ n.toNat := hi
        have nd12 : (ds ++ [d]).length = i + 1 := by rw [List.length_append, hds]; rfl
        refine ⟨_, rfl, rfl, _, rfl, ite2 (fun c => ?_) (fun c => ?_)⟩
        · cases en with
          | some m => exact absurd (of_decide_eq_true c) (by intro z; cases z)
          | none =>
            obtain ⟨hv, rfl, pme, pr⟩ := e12
            have ndM : ((stM rs es ds).2.map (·.1)).Nodup := (pme.map (·.1)).nodup_iff.mp x9.nd
            have eR : resM (stM rs es ds).1 ec d = resM (stM rs es ds).1 (stM rs es ds).2 d := resM_perm pme ndM d
            have ati : ((ts ++ [dt]).map V.ref)[i]? = some (V.ref dt) := by
              rw [List.getElem?_map, List.getElem?_append_right (by omega), show i - ts.length = 0 by omega]
              rfl
            refine ⟨_, rfl, _, rfl, _, rfl, DE, _, 0 + (i : Int), .ref dt, rfl, rfl, .inl (.inl i12.de), by rw [Int.zero_add]; exact atI_nat ati, wD, RL, XD, dt, L, _, ec, d, rfl, i12.ld, A9.nx, hd12, dok, bk9, x9.e8, x9.nd, fun du RL2 ec2 H13 hf hres hld2 pm2 k8 => ?_⟩
            obtain ⟨i13, kt13⟩ := i12.done A9 hSc k8 hld2
            have pr13 := paired_mono (fun _ _ z => ValAt.kt z kt13) pr
            have A13 : Ap H r a t wD LN R0 X0 DE DU RL2 XD := by
              rcases hf with rfl | hf
              · exact A9
              · have fr : ∀ {x : Addr} {o : HO}, H12 x = some o → RL2 ≠ x := fun {x o} hx z => by rw [← z, hf] at hx; cases hx
                obtain ⟨⟨i', c', m', hrr, _⟩, _⟩ := i12.R
                exact { A9 with rt := fr i12.dk.told, Rr := fr hrr, dR := Ne.symm (fr i12.de), uR := Ne.symm (fr i12.du) }
            clear i12 k8 hld2 A9 hf hd12
            obtain ⟨z, v, hdu, gg1, gg0⟩ := hres.tup
            simp only [List.set_cons_succ, List.set_cons_zero]
            refine ⟨_, rfl, .inl ⟨rfl, _, .inl (.inl i13.du)⟩, _, rfl, du, _, 1, v, rfl, rfl, .inl (.inl hdu), atI_nat (j := 1) rfl, DU, us, v, rfl, rfl, i13.du, smallM (by omega), ?_⟩
            obtain ⟨i14, kt14⟩ := i13.due A13 hSc v
            have hdu14 := kt14.1 _ _ hdu
            have pr14 := paired_mono (fun _ _ z => ValAt.kt z kt14) pr13
            generalize upd H13 DU (.lst (us ++ [v])) = H14 at i14 kt14 hdu14 pr14 ⊢
            have bk14 := rulesM_ok bk9 dok
            have x14 := (x9.step (rs := (stM rs es ds).1) dok).perm pm2
            have lu : (us ++ [v]).length ≤ i + 1 := by rw [List.length_append]; show _ + 1 ≤ _; omega
            refine ⟨_, rfl, du, _, 0, .str z, rfl, rfl, .inl (.inl hdu14), atI_nat (j := 0) rfl, rfl, _, rfl, ite2 (fun c1 => ?_) (fun c1 => ?_)⟩
            · -- it is refused
              have nz : z ≠ "" := fun e => by rw [e] at c1; simp at c1
              have nok : okM (resM (stM rs es ds).1 ec d) = false := by
                cases h : okM (resM (stM rs es ds).1 ec d) with
                | false => rfl
                | true => exact absurd (gg1 h).1 nz
              obtain ⟨er, ee⟩ := refused_same nok
              refine ⟨_, rfl, ?_⟩
              simp only [List.set_cons_succ, List.set_cons_zero]
              refine ⟨hin1, RL2, XD, _, ec2, _, _, _, some i, i14, A13, nd12, lu, bk14, x14, ⟨ds, d, [], rfl, hds, hv, dok, by rw [← eR]; exact nok, er, ?_⟩, _, _, by rw [show endV (some i) = V.int (0 + (i : Int)) from by rw [Int.zero_add]; rfl]; rfl⟩
              rw [ee] at pm2
              exact pm2.trans pme
            · have ez : z = "" := Classical.byContradiction fun e => by
                have : decide (V.str z = V.str "") = false := decide_eq_false fun q => e (V.str.inj q)
                rw [this] at c1
                simp at c1
              have ok1 : okM (resM (stM rs es ds).1 ec d) = true := by
                cases h : okM (resM (stM rs es ds).1 ec d) with
                | true => rfl
                | false => exact absurd ez (gg0 h)
              obtain ⟨_, hv1⟩ := gg1 ok1
              simp only [List.set_cons_succ, List.set_cons_zero]
              refine ⟨hin1, RL2, XD, _, ec2, _, _, _, none, i14, A13, nd12, lu, bk14, x14, ⟨valid_app hv dok (by rw [← eR]; exact ok1), by rw [stM_app], by rw [stM_app]; exact pm2.trans (esM_perm pme d), ?_⟩, _, _, rfl⟩
              rw [resL_app, ← eR]
              exact paired_app pr14 (.cons (hv1.kt kt14) .nil)
        · cases en with
          | none => exact absurd c (by simp [endV])
          | some m =>
            obtain ⟨good, d', more, e1, e2, e3, e4, e5, e6, e7⟩ := e12
            exact ⟨hin1, RL, XD, rc, ec, _, _, us, some m, i12, A9, nd12, by omega, bk9, x9, ⟨good, d', more ++ [d], by rw [e1, List.append_assoc]; rfl, e2, e3, e4, e5, e6, e7⟩, _, _, rfl⟩
      · rintro σ H9 ⟨hin, RL, XD, rc, ec, ts, ds, us, en, i9, A9, hds, hus, bk9, x9, e9, v12, v13, rfl⟩
        have ds6 : ds.length ≤ 6 := by omega
        have lts := paired_len i9.dp
        refine ⟨_, rfl, r, a, ns, 2, rfl, i9.R, by decide, by decide, fun k1 H10 k10 k12 s10 R10 => ⟨rfl, ?_⟩⟩
        have i10 := i9.stp A9 s10 R10
        have e10 := e9.kt (i9.R.kt s10)
        clear i9 e9 s10 R10
        simp only [List.set_cons_succ, List.set_cons_zero]
        cases hkb : decide (V.int k1 = V.int 0) with
        | false =>
          cases en with
          | none =>
            obtain ⟨hv, rfl, pmX, usX⟩ := e10
            refine ⟨_, rfl, rfl, _, rfl, ite2 (fun _ => ?_) (fun c => absurd c (by simp [endV]))⟩
            refine ⟨_, rfl, _, _, rfl, .inl ⟨_, .inl (.inl i10.de), rfl⟩, ?_⟩
            rw [show (((ts.map V.ref).length : Nat) : Int) = ((ds.length : Nat) : Int) from by rw [List.length_map, lts]]
            simp only [List.set_cons_succ, List.set_cons_zero]
            refine ⟨_, rfl, rfl, _, rfl, ite2 (fun c => absurd c (by simp [endV])) (fun _ => iteF ?_)⟩
            have iX := i10
            refine ⟨_, rfl, false, rfl, iteF (iteF ?_)⟩
            refine ⟨iX.T, fun H11 e11 T11 => ?_⟩
            have i11 := iX.extN e11 T11
            have us11 := KT.extN e11
            intro D1 hD1 post1 hp1
            obtain ⟨⟨dx1, hy1⟩, _, _⟩ := id i11.dk
            have hy1' : (upd H11 D1 (.lst [])) y = some (.ins C dx1 (fldD b t true)) := by rw [upd_ne (ne_of_none hy1 hD1)]; exact hy1
            refine ⟨_, rfl, y, dx1, _, rfl, hy1', rfl, _, rfl, _, rfl, rfl, rfl, told21 (good := ds) (rest := ([] : List Deed)) (kb := false) WC i11.dk ok0 i11.de A9.dt (by rw [List.append_nil]; exact i11.dp) hv (by omega) (by omega) (by omega) ?_ ?_ ?_ D1 hD1 post1 hp1⟩
            · exact fun d more z => by cases z
            · intro _ u p xs b2 es2 H12 hu hp hxs pm2 okk2 dk12 k12
              obtain ⟨j12, kt12⟩ := i11.told hSc A9.lt A9.dt A9.ut A9.rt A9.tr A9.ta k12 dk12
              have us12 := paired_mono (fun _ _ q => (ValAt.kt q us11).kt kt12) usX
              have j12 := j12.re (List.append_nil ds)
              simp only [List.set_cons_succ, List.set_cons_zero]
              refine qT _ H12 L r y t wD b2 LN DE DU RL XD u rs (stM rs es ds).1 es es2 ec ws ts ds ([] : List Deed) us none false _ _ _ _ _ _ _ _ j12 okk2 (pmX.trans pm2.symm) (by omega) (by omega) (by omega) ⟨p, xs, hu, hp, hxs, us12⟩ (fun LN2 H13 w17 s13 nL13 hL13 => ?_)
              refine ⟨b2, LN2, RL, XD, _, es2, _, toldL ws ds, ?_, J21.next j12 s13 nL13 hL13 (pmX.trans pm2.symm) okk2 A9.nx A9.ta A9.ra A9.rt A9.Rr A9.tr, _, _, _, _, _, _, _, _, _, _, _, rfl⟩
              rw [toldL_len]
              omega
            · exact fun d more z => by cases z
          | some m =>
            obtain ⟨good, d0, more, rfl, rfl, hv, dok, nok, rfl, pmX⟩ := e10
            have lgg : good.length ≤ 5 := by rw [List.length_append, List.length_cons] at ds6; omega
            refine ⟨_, rfl, rfl, _, rfl, ite2 (fun c => absurd (of_decide_eq_true c) (by intro z; cases z)) (fun _ => ?_)⟩
            refine ⟨_, rfl, ?_⟩
            simp only [List.set_cons_succ, List.set_cons_zero]
            refine ⟨_, rfl, rfl, _, rfl, ite2 (fun _ => ?_) (fun c => absurd c (by simp [endV]))⟩
            refine ⟨_, rfl, false, rfl, iteT ?_⟩
            refine ⟨_, rfl, AH, _, rfl, .inl (.inl i10.ah), rfl, _, _, rfl, ⟨_, rfl, wD, _, rfl, .inl ⟨wKv L RL XD, Sum.inr "rules", i10.ld.d, rfl, small_w _ _ _, rfl⟩, ?_⟩⟩
            rw [wput]
            refine ⟨_, _, rfl, ⟨_, rfl, wD, _, rfl, .inl ⟨wKv L R0 XD, Sum.inr "excepted", upd_same, rfl, small_w _ _ _, rfl⟩, ?_⟩⟩
            rw [wput2]
            refine ⟨rfl, ?_⟩
            obtain ⟨iX, _⟩ := i10.back A9 hSc (k1 := wKv L R0 XD)
            generalize upd (upd H10 wD (.dK (wKv L R0 XD))) wD (.dK (wKv L R0 X0)) = H10b at iX ⊢
            refine ⟨_, rfl, false, rfl, iteF (iteF ?_)⟩
            refine ⟨iX.T, fun H11 e11 T11 => ?_⟩
            have i11 := iX.extN e11 T11
            have us11 := KT.extN e11
            intro D1 hD1 post1 hp1
            obtain ⟨⟨dx1, hy1⟩, _, _⟩ := id i11.dk
            have hy1' : (upd H11 D1 (.lst [])) y = some (.ins C dx1 (fldD b t true)) := by rw [upd_ne (ne_of_none hy1 hD1)]; exact hy1
            refine ⟨_, rfl, y, dx1, _, rfl, hy1', rfl, _, rfl, _, rfl, rfl, rfl, told21 (good := good) (rest := (d0 :: more)) (kb := false) WC i11.dk ok0 i11.de A9.dt i11.dp hv (by omega) (by omega) (by omega) ?_ ?_ ?_ D1 hD1 post1 hp1⟩
            · exact fun d more z => by cases z; exact ⟨dok, nok⟩
            · exact fun z => by cases z
            · intro d1 more1 ez u qq b2 rs2 es2 H12 hT hF okk2 hu hq dk12 k12
              obtain ⟨rfl, rfl⟩ := hF rfl
              obtain ⟨j12, kt12⟩ := i11.told hSc A9.lt A9.dt A9.ut A9.zt A9.tr A9.ta k12 dk12
              simp only [List.set_cons_succ, List.set_cons_zero]
              refine qT _ H12 L r y t wD b2 LN DE DU R0 X0 u [] _ [] _ _ ws ts good (d0 :: more) us (some good.length) false _ _ _ _ _ _ _ _ j12 okk2 pm0 (by omega) (by omega) (by omega) ⟨rfl, qq, hu, hq⟩ (fun LN2 H13 w17 s13 nL13 hL13 => ?_)
              refine ⟨b2, LN2, R0, X0, _, _, _, toldL ws good, ?_, J21.next j12 s13 nL13 hL13 pm0 okk2 A9.n0 A9.ta A9.ra A9.zt A9.zr A9.tr, _, _, _, _, _, _, _, _, _, _, _, rfl⟩
              rw [toldL_len]
              omega
        | true =>
          cases en with
          | none =>
            obtain ⟨hv, rfl, pmX, usX⟩ := e10
            refine ⟨_, rfl, rfl, _, rfl, ite2 (fun _ => ?_) (fun c => absurd c (by simp [endV]))⟩
            refine ⟨_, rfl, _, _, rfl, .inl ⟨_, .inl (.inl i10.de), rfl⟩, ?_⟩
            rw [show (((ts.map V.ref).length : Nat) : Int) = ((ds.length : Nat) : Int) from by rw [List.length_map, lts]]
            simp only [List.set_cons_succ, List.set_cons_zero]
            refine ⟨_, rfl, rfl, _, rfl, ite2 (fun c => absurd c (by simp [endV])) (fun _ => iteF ?_)⟩
            have iX := i10
            refine ⟨_, rfl, true, rfl, iteT ⟨_, rfl, r, a, ns, 2, rfl, iX.R, by decide, by decide, fun k2 H10c k20 k22 s10c R10c => ⟨rfl, _, rfl, ite2 (fun _ => ?_) (fun _ => ?_)⟩⟩⟩
            · have iX := iX.stp A9 s10c R10c
              have usX := paired_mono (fun _ _ q => ValAt.kt q (i10.R.kt s10c)) usX
              refine ⟨iX.T, fun H11 e11 T11 => ?_⟩
              have i11 := iX.extN e11 T11
              have us11 := KT.extN e11
              intro D1 hD1 post1 hp1
              obtain ⟨⟨dx1, hy1⟩, _, _⟩ := id i11.dk
              have hy1' : (upd H11 D1 (.lst [])) y = some (.ins C dx1 (fldD b t true)) := by rw [upd_ne (ne_of_none hy1 hD1)]; exact hy1
              refine ⟨_, rfl, y, dx1, _, rfl, hy1', rfl, _, rfl, told21 (good := ds) (rest := ([] : List Deed)) (kb := true) WC i11.dk ok0 i11.de A9.dt (by rw [List.append_nil]; exact i11.dp) hv (by omega) (by omega) (by omega) ?_ ?_ ?_ D1 hD1 post1 hp1⟩
              · exact fun d more z => by cases z
              · intro _ u p xs b2 es2 H12 hu hp hxs pm2 okk2 dk12 k12
                obtain ⟨j12, kt12⟩ := i11.told hSc A9.lt A9.dt A9.ut A9.rt A9.tr A9.ta k12 dk12
                have us12 := paired_mono (fun _ _ q => (ValAt.kt q us11).kt kt12) usX
                have j12 := j12.re (List.append_nil ds)
                simp only [List.set_cons_succ, List.set_cons_zero]
                refine qT _ H12 L r y t wD b2 LN DE DU RL XD u rs (stM rs es ds).1 es es2 ec ws ts ds ([] : List Deed) us none true _ _ _ _ _ _ _ _ j12 okk2 (pmX.trans pm2.symm) (by omega) (by omega) (by omega) ⟨p, xs, hu, hp, hxs, us12⟩ (fun LN2 H13 w17 s13 nL13 hL13 => ?_)
                refine ⟨b2, LN2, RL, XD, _, es2, _, toldL ws ds, ?_, J21.next j12 s13 nL13 hL13 (pmX.trans pm2.symm) okk2 A9.nx A9.ta A9.ra A9.rt A9.Rr A9.tr, _, _, _, _, _, _, _, _, _, _, _, rfl⟩
                rw [toldL_len]
                omega
              · exact fun d more z => by cases z
            · have iX := iX.stp A9 s10c R10c
              have usX := paired_mono (fun _ _ q => ValAt.kt q (i10.R.kt s10c)) usX
              refine ⟨iX.T, fun H11 e11 T11 => ?_⟩
              have i11 := iX.extN e11 T11
              have us11 := KT.extN e11
              intro D1 hD1 post1 hp1
              obtain ⟨⟨dx1, hy1⟩, _, _⟩ := id i11.dk
              have hy1' : (upd H11 D1 (.lst [])) y = some (.ins C dx1 (fldD b t true)) := by rw [upd_ne (ne_of_none hy1 hD1)]; exact hy1
              refine ⟨_, rfl, y, dx1, _, rfl, hy1', rfl, _, rfl, _, rfl, rfl, rfl, told21 (good := ds) (rest := ([] : List Deed)) (kb := true) WC i11.dk ok0 i11.de A9.dt (by rw [List.append_nil]; exact i11.dp) hv (by omega) (by omega) (by omega) ?_ ?_ ?_ D1 hD1 post1 hp1⟩
              · exact fun d more z => by cases z
              · intro _ u p xs b2 es2 H12 hu hp hxs pm2 okk2 dk12 k12
                obtain ⟨j12, kt12⟩ := i11.told hSc A9.lt A9.dt A9.ut A9.rt A9.tr A9.ta k12 dk12
                have us12 := paired_mono (fun _ _ q => (ValAt.kt q us11).kt kt12) usX
                have j12 := j12.re (List.append_nil ds)
                simp only [List.set_cons_succ, List.set_cons_zero]
                refine qT _ H12 L r y t wD b2 LN DE DU RL XD u rs (stM rs es ds).1 es es2 ec ws ts ds ([] : List Deed) us none true _ _ _ _ _ _ _ _ j12 okk2 (pmX.trans pm2.symm) (by omega) (by omega) (by omega) ⟨p, xs, hu, hp, hxs, us12⟩ (fun LN2 H13 w17 s13 nL13 hL13 => ?_)
                refine ⟨b2, LN2, RL, XD, _, es2, _, toldL ws ds, ?_, J21.next j12 s13 nL13 hL13 (pmX.trans pm2.symm) okk2 A9.nx A9.ta A9.ra A9.rt A9.Rr A9.tr, _, _, _, _, _, _, _, _, _, _, _, rfl⟩
                rw [toldL_len]
                omega
              · exact fun d more z => by cases z
          | some m =>
            obtain ⟨good, d0, more, rfl, rfl, hv, dok, nok, rfl, pmX⟩ := e10
            have lgg : good.length ≤ 5 := by rw [List.length_append, List.length_cons] at ds6; omega
            refine ⟨_, rfl, rfl, _, rfl, ite2 (fun c => absurd (of_decide_eq_true c) (by intro z; cases z)) (fun _ => ?_)⟩
            refine ⟨_, rfl, ?_⟩
            simp only [List.set_cons_succ, List.set_cons_zero]
            refine ⟨_, rfl, rfl, _, rfl, ite2 (fun _ => ?_) (fun c => absurd c (by simp [endV]))⟩
            refine ⟨_, rfl, true, rfl, iteF ?_⟩
            have iX := i10
            refine ⟨_, rfl, true, rfl, iteT ⟨_, rfl, r, a, ns, 2, rfl, iX.R, by decide, by decide, fun k2 H10c k20 k22 s10c R10c => ⟨rfl, _, rfl, ite2 (fun _ => ?_) (fun _ => ?_)⟩⟩⟩
            · have iX := iX.stp A9 s10c R10c
              refine ⟨iX.T, fun H11 e11 T11 => ?_⟩
              have i11 := iX.extN e11 T11
              have us11 := KT.extN e11
              intro D1 hD1 post1 hp1
              obtain ⟨⟨dx1, hy1⟩, _, _⟩ := id i11.dk
              have hy1' : (upd H11 D1 (.lst [])) y = some (.ins C dx1 (fldD b t true)) := by rw [upd_ne (ne_of_none hy1 hD1)]; exact hy1
              refine ⟨_, rfl, y, dx1, _, rfl, hy1', rfl, _, rfl, told21 (good := good) (rest := (d0 :: more)) (kb := true) WC i11.dk ok0 i11.de A9.dt i11.dp hv (by omega) (by omega) (by omega) ?_ ?_ ?_ D1 hD1 post1 hp1⟩
              · exact fun d more z => by cases z; exact ⟨dok, nok⟩
              · exact fun z => by cases z
              · intro d1 more1 ez u qq b2 rs2 es2 H12 hT hF okk2 hu hq dk12 k12
                obtain ⟨rfl, pm2⟩ := hT rfl
                obtain ⟨j12, kt12⟩ := i11.told hSc A9.lt A9.dt A9.ut A9.rt A9.tr A9.ta k12 dk12
                simp only [List.set_cons_succ, List.set_cons_zero]
                refine qT _ H12 L r y t wD b2 LN DE DU RL XD u rs (stM rs es good).1 es es2 ec ws ts good (d0 :: more) us (some good.length) true _ _ _ _ _ _ _ _ j12 okk2 (pmX.trans pm2.symm) (by omega) (by omega) (by omega) ⟨rfl, qq, hu, hq⟩ (fun LN2 H13 w17 s13 nL13 hL13 => ?_)
                refine ⟨b2, LN2, RL, XD, _, es2, _, toldL ws good, ?_, J21.next j12 s13 nL13 hL13 (pmX.trans pm2.symm) okk2 A9.nx A9.ta A9.ra A9.rt A9.Rr A9.tr, _, _, _, _, _, _, _, _, _, _, _, rfl⟩
                rw [toldL_len]
                omega
            · have iX := iX.stp A9 s10c R10c
              refine ⟨iX.T, fun H11 e11 T11 => ?_⟩
              have i11 := iX.extN e11 T11
              have us11 := KT.extN e11
              intro D1 hD1 post1 hp1
              obtain ⟨⟨dx1, hy1⟩, _, _⟩ := id i11.dk
              have hy1' : (upd H11 D1 (.lst [])) y = some (.ins C dx1 (fldD b t true)) := by rw [upd_ne (ne_of_none hy1 hD1)]; exact hy1
              refine ⟨_, rfl, y, dx1, _, rfl, hy1', rfl, _, rfl, _, rfl, rfl, rfl, told21 (good := good) (rest := (d0 :: more)) (kb := true) WC i11.dk ok0 i11.de A9.dt i11.dp hv (by omega) (by omega) (by omega) ?_ ?_ ?_ D1 hD1 post1 hp1⟩
              · exact fun d more z => by cases z; exact ⟨dok, nok⟩
              · exact fun z => by cases z
              · intro d1 more1 ez u qq b2 rs2 es2 H12 hT hF okk2 hu hq dk12 k12
                obtain ⟨rfl, pm2⟩ := hT rfl
                obtain ⟨j12, kt12⟩ := i11.told hSc A9.lt A9.dt A9.ut A9.rt A9.tr A9.ta k12 dk12
                simp only [List.set_cons_succ, List.set_cons_zero]
                refine qT _ H12 L r y t wD b2 LN DE DU RL XD u rs (stM rs es good).1 es es2 ec ws ts good (d0 :: more) us (some good.length) true _ _ _ _ _ _ _ _ j12 okk2 (pmX.trans pm2.symm) (by omega) (by omega) (by omega) ⟨rfl, qq, hu, hq⟩ (fun LN2 H13 w17 s13 nL13 hL13 => ?_)
                refine ⟨b2, LN2, RL, XD, _, es2, _, toldL ws good, ?_, J21.next j12 s13 nL13 hL13 (pmX.trans pm2.symm) okk2 A9.nx A9.ta A9.ra A9.rt A9.Rr A9.tr, _, _, _, _, _, _, _, _, _, _, _, rfl⟩
                rw [toldL_len]
                omega
    · rintro σ H5 ⟨b, LN, RL, XD, rs, es, esD, ws, hws, h6, v7, v8, v9, v10, v11, v12, v13, v14, v15, v16, v17, rfl⟩
      exact q _
end
end Say
namespace Say
open PySem PySem.Spec PyProof.Rows L2
/-- a def as the top has left it -/
structure Std (K : PySem.W.Frag) (x : Str) (st : Stmt) (f : Addr) : Prop where
  ns : PySem.W.nsIn K mainGlobals x = some (some (.ref f))
  fn : ∃ fd, Fun K x x st f fd ∧ ∃ kV dc pm an cd ct, fd = PySem.W.fnOf x x (defArgs st) (defBody st) (defScope st) .none kV dc pm an cd ct
theorem std_mk {K : PySem.W.Frag} {x : Str} {st : Stmt} {f : Addr} {oc : Value} {od an : Option Addr} {osl : Array (Option Value)} {kV dc pm cd ct : Value} (a : PySem.W.nsIn K mainGlobals x = some (some (.ref f))) (l : K.lookup f = some ⟨oc, od, .func (PySem.W.fnOf x x (defArgs st) (defBody st) (defScope st) .none kV dc pm an cd ct), osl⟩) (c : PySem.W.codeIn K cd x = true) (k : PySem.W.keepIn K (.ref f) = true) : Std K x st f :=
  ⟨a, _, fun_mk l c k, kV, dc, pm, an, cd, ct, rfl⟩
/-- a method as the top has left it -/
structure MStd (K : PySem.W.Frag) (C : Addr) (x q : Str) (st : Stmt) (f : Addr) : Prop where
  me : Meth K C x f
  fn : ∃ fd, Fun K x q st f fd ∧ ∃ kV dc pm an cd ct, fd = PySem.W.fnOf x q (defArgs st) (defBody st) (defScope st) .none kV dc pm an cd ct
theorem mstd_mk {K : PySem.W.Frag} {C : Addr} {x q : Str} {st : Stmt} {f : Addr} {oc : Value} {od an : Option Addr} {osl : Array (Option Value)} {kV dc pm cd ct : Value} (a : PySem.W.findIn K (.ref C) x = some (some (.ref f))) (i : PySem.W.isFn K (.ref f) = true) (l : K.lookup f = some ⟨oc, od, .func (PySem.W.fnOf x q (defArgs st) (defBody st) (defScope st) .none kV dc pm an cd ct), osl⟩) (c : PySem.W.codeIn K cd q = true) (k : PySem.W.keepIn K (.ref f) = true) : MStd K C x q st f :=
  ⟨⟨a, i, k⟩, _, fun_mk l c k, kV, dc, pm, an, cd, ct, rfl⟩
structure MStdD (K : PySem.W.Frag) (C : Addr) (x q : Str) (st : Stmt) (f : Addr) : Prop where
  me : Meth K C x f
  fn : ∃ fd, FunD K x q (defArgs st) (defBody st) (defScope st) [] [("keep", .bl true)] f fd
theorem mstdD_mk {K : PySem.W.Frag} {C : Addr} {x q : Str} {st : Stmt} {f D : Addr} {oc : Value} {od an : Option Addr} {osl : Array (Option Value)} {dc pm cd ct : Value} (a : PySem.W.findIn K (.ref C) x = some (some (.ref f))) (i : PySem.W.isFn K (.ref f) = true) (l : K.lookup f = some ⟨oc, od, .func (PySem.W.fnOf x q (defArgs st) (defBody st) (defScope st) .none (.ref D) dc pm an cd ct), osl⟩) (c : PySem.W.codeIn K cd q = true) (k : PySem.W.keepIn K (.ref f) = true) (d : PySem.W.nsIn K D "keep" = some (some (.bool true))) : MStdD K C x q st f :=
  ⟨⟨a, i, k⟩, _, ⟨⟨_, _, _, _, _, _, _, _, _, _, rfl, l, c, .inl ⟨rfl, rfl⟩, .inr ⟨D, rfl, fun q hq => by rw [List.mem_singleton.mp hq]; exact ⟨_, d, rfl⟩⟩⟩, k⟩⟩
theorem all_ok {l : PySem.W.OpenLaw} {w : World} {K : PySem.W.Frag} {h : Heap} {mg : Str → Option Value} {fa f40 f41 f36 f35 f38 f39 f37 f29 f30 f31 f28 f33 f34 f42 f60 f62 f61 f46 f47 f48 f52 f53 f49 f50 f51 f63 f64 f65 f67 f68 f69 f70 f71 f72 f73 f74 f75 f76 f77 f78 f79 f80 f83 f81 f82 f84 xSayError xBadBook xBadWord xBadSounds xBadCount xUnsaid xNoLetter xNoException xOtherLetters xBadSamples xBadDeed xHalted xBadText yDesk gIn gBk gPu gDr gMv gLn gFg gTo gId gDn gAD gBt fIo0 cdIo0 ccIo0 N_o0 fIo1 cdIo1 ccIo1 N_o1 fIo2 cdIo2 ccIo2 N_o2 Pt cL aSz : Addr} {t_small t_caps t_edge t_mrul t_lexc t_lrs t_lso t_imost_exceptions t_ilongest_word t_iown t_isounds t_ino_book t_iletters t_irules t_iexceptions : Tok} {tfIo0 : Tok} {nmo0 qo0 flIo0 : Str} {bso0 subo0 : List Value} {sno0 : List Str} {abo0 : Bool} {colo0 : Option Bool} {ddo0 odIo0 anIo0 cldIo0 cddIo0 : Option Addr} {m0o0 m1o0 m2o0 m3o0 m5o0 : Option Value} {oIo0 dcIo0 pmIo0 ctIo0 clIo0 cclIo0 : Value} {slIo0 cslIo0 ccsIo0 : Array (Option Value)} {vsIo0 : Array Value} {tfIo1 : Tok} {nmo1 qo1 flIo1 : Str} {bso1 subo1 : List Value} {sno1 : List Str} {abo1 : Bool} {colo1 : Option Bool} {ddo1 odIo1 anIo1 cldIo1 cddIo1 : Option Addr} {m0o1 m1o1 m2o1 m3o1 m5o1 : Option Value} {oIo1 dcIo1 pmIo1 ctIo1 clIo1 cclIo1 : Value} {slIo1 cslIo1 ccsIo1 : Array (Option Value)} {vsIo1 : Array Value} {tfIo2 : Tok} {nmo2 qo2 flIo2 : Str} {bso2 subo2 : List Value} {sno2 : List Str} {abo2 : Bool} {colo2 : Option Bool} {ddo2 odIo2 anIo2 cldIo2 cddIo2 : Option Addr} {m0o2 m1o2 m2o2 m3o2 m5o2 : Option Value} {oIo2 dcIo2 pmIo2 ctIo2 clIo2 cclIo2 : Value} {slIo2 cslIo2 ccsIo2 : Array (Option Value)} {vsIo2 : Array Value} {lt18 lt7 lt10 : Tok} {li7 li10 : Int} {lb9 : Bool} {lf18 : Str} {cddL odL anL : Option Addr} {oL kVL dcL pmL ctL : Value} {cslL slL : Array (Option Value)} {vsL : Array Value} {szE : Array DictEntry} {szN : Nat}
    (X : K.In h) (G : h.Ns mainGlobals mg) (hfa : mg "law" = some (.ref fa)) (OT : LamX.OwnTab K fa h)
    (S40 : Std K "is_text" (topS 40) f40)
    (S41 : Std K "is_rising" (topS 41) f41)
    (S36 : Std K "is_beside" (topS 36) f36)
    (S35 : Std K "is_rule" (topS 35) f35)
    (S38 : Std K "is_excepted" (topS 38) f38)
    (S39 : Std K "is_sounds" (topS 39) f39)
    (S37 : Std K "is_exception" (topS 37) f37)
    (S29 : Std K "check_letters" (topS 29) f29)
    (S30 : Std K "check_rules" (topS 30) f30)
    (S31 : Std K "check_exceptions" (topS 31) f31)
    (S28 : Std K "checked_book" (topS 28) f28)
    (S33 : Std K "check_excepted" (topS 33) f33)
    (S34 : Std K "check_sounds" (topS 34) f34)
    (S42 : Std K "is_count" (topS 42) f42)
    (S60 : Std K "check_place" (topS 60) f60)
    (S62 : Std K "is_deed" (topS 62) f62)
    (S61 : Std K "check_deeds" (topS 61) f61)
    (S46 : Std K "fits" (topS 46) f46)
    (S47 : Std K "first_fit" (topS 47) f47)
    (S48 : Std K "steps_of" (topS 48) f48)
    (S52 : Std K "numbers_of" (topS 52) f52)
    (S53 : Std K "sounds_of" (topS 53) f53)
    (S49 : Std K "ending" (topS 49) f49)
    (S50 : Std K "ending_sounds" (topS 50) f50)
    (S51 : Std K "word_sounds" (topS 51) f51)
    (S63 : Std K "with_rule" (topS 63) f63)
    (S64 : Std K "without_rule" (topS 64) f64)
    (S65 : Std K "without_word" (topS 65) f65)
    (S67 : Std K "_law_row" (topS 67) f67)
    (S68 : Std K "_law_taken" (topS 68) f68)
    (S69 : Std K "_law_letters" (topS 69) f69)
    (S70 : Std K "_law_side" (topS 70) f70)
    (S71 : Std K "_law_text" (topS 71) f71)
    (S72 : Std K "_law_rule" (topS 72) f72)
    (S73 : Std K "_law_rules" (topS 73) f73)
    (S74 : Std K "_law_exceptions" (topS 74) f74)
    (S75 : Std K "_law_desk" (topS 75) f75)
    (S76 : Std K "_law_deed" (topS 76) f76)
    (S77 : Std K "_law_fits" (topS 77) f77)
    (S78 : Std K "_law_walk" (topS 78) f78)
    (S79 : Std K "_law_said" (topS 79) f79)
    (S80 : Std K "_law_done" (topS 80) f80)
    (S83 : Std K "_law_book_of" (topS 83) f83)
    (S81 : Std K "_law_word" (topS 81) f81)
    (S82 : Std K "_law_alike" (topS 82) f82)
    (MIn : MStd K yDesk "__init__" "Desk.__init__" (sDk 0) gIn)
    (MBk : MStd K yDesk "book" "Desk.book" (sDk 1) gBk)
    (MPu : MStd K yDesk "put" "Desk.put" (sDk 3) gPu)
    (MDr : MStd K yDesk "drop" "Desk.drop" (sDk 4) gDr)
    (MMv : MStd K yDesk "move" "Desk.move" (sDk 5) gMv)
    (MLn : MStd K yDesk "learn" "Desk.learn" (sDk 6) gLn)
    (MFg : MStd K yDesk "forget" "Desk.forget" (sDk 7) gFg)
    (MTo : MStd K yDesk "told" "Desk.told" (sDk 9) gTo)
    (MId : MStd K yDesk "is_idle" "Desk.is_idle" (sDk 10) gId)
    (MDn : MStd K yDesk "_done" "Desk._done" (sDk 12) gDn)
    (MAD : MStd K yDesk "_all_done" "Desk._all_done" (sDk 11) gAD)
    (MBt : MStdD K yDesk "batch" "Desk.batch" (sDk 8) gBt)
    (a_law : PySem.W.nsIn K mainGlobals "law" = some (some (.ref f84)))
    (l_law : K.lookup f84 = some ⟨oL, odL, .func (PySem.W.fnOf "law" "law" (defArgs (topS 84)) (defBody (topS 84)) (defScope (topS 84)) .none kVL dcL pmL anL (.ref cL) ctL), slL⟩)
    (c_law : PySem.W.codeIn K (.ref cL) "law" = true)
    (k_law : PySem.W.keepIn K (.ref f84) = true)
    (z_len : PySem.W.nsIn K mainGlobals "len" = some none)
    (z_range : PySem.W.nsIn K mainGlobals "range" = some none)
    (z_tuple : PySem.W.nsIn K mainGlobals "tuple" = some none)
    (z_list : PySem.W.nsIn K mainGlobals "list" = some none)
    (z_isinstance : PySem.W.nsIn K mainGlobals "isinstance" = some none)
    (z_str : PySem.W.nsIn K mainGlobals "str" = some none)
    (z_all : PySem.W.nsIn K mainGlobals "all" = some none)
    (z_enumerate : PySem.W.nsIn K mainGlobals "enumerate" = some none)
    (z_sorted : PySem.W.nsIn K mainGlobals "sorted" = some none)
    (z_bool : PySem.W.nsIn K mainGlobals "bool" = some none)
    (z_dict : PySem.W.nsIn K mainGlobals "dict" = some none)
    (z_int : PySem.W.nsIn K mainGlobals "int" = some none)
    (c_small : PySem.W.nsIn K mainGlobals "SMALL" = some (some (.str "abcdefghijklmnopqrstuvwxyz" t_small)))
    (c_caps : PySem.W.nsIn K mainGlobals "CAPITALS" = some (some (.str "ABCDEFGHIJKLMNOPQRSTUVWXYZ" t_caps)))
    (c_edge : PySem.W.nsIn K mainGlobals "EDGE" = some (some (.str "#" t_edge)))
    (c_mrul : PySem.W.nsIn K mainGlobals "MOST_RULES" = some (some (.int 12 t_mrul)))
    (c_lexc : PySem.W.nsIn K mainGlobals "LONGEST_EXCEPTION" = some (some (.int 8 t_lexc)))
    (c_lrs : PySem.W.nsIn K mainGlobals "LONGEST_RULE_SOUNDS" = some (some (.int 3 t_lrs)))
    (c_lso : PySem.W.nsIn K mainGlobals "LONGEST_SOUNDS" = some (some (.int 36 t_lso)))
    (c_imost_exceptions : PySem.W.nsIn K mainGlobals "MOST_EXCEPTIONS" = some (some (.int 8 t_imost_exceptions)))
    (c_ilongest_word : PySem.W.nsIn K mainGlobals "LONGEST_WORD" = some (some (.int 12 t_ilongest_word)))
    (c_iown : PySem.W.nsIn K mainGlobals "OWN" = some (some (.int 1 t_iown)))
    (c_isounds : PySem.W.nsIn K mainGlobals "SOUNDS" = some (some (.int 3 t_isounds)))
    (c_ino_book : PySem.W.nsIn K mainGlobals "NO_BOOK" = some (some (.int (-1) t_ino_book)))
    (c_iletters : PySem.W.nsIn K mainGlobals "LETTERS" = some (some (.int 0 t_iletters)))
    (c_irules : PySem.W.nsIn K mainGlobals "RULES" = some (some (.int 1 t_irules)))
    (c_iexceptions : PySem.W.nsIn K mainGlobals "EXCEPTIONS" = some (some (.int 2 t_iexceptions)))
    (z_super : PySem.W.nsIn K mainGlobals "super" = some none)
    (z_ValueError : PySem.W.nsIn K mainGlobals "ValueError" = some none)
    (gSayError : PySem.W.nsIn K mainGlobals "SayError" = some (some (.ref xSayError)))
    (gBadBook : PySem.W.nsIn K mainGlobals "BadBook" = some (some (.ref xBadBook)))
    (gBadWord : PySem.W.nsIn K mainGlobals "BadWord" = some (some (.ref xBadWord)))
    (gBadSounds : PySem.W.nsIn K mainGlobals "BadSounds" = some (some (.ref xBadSounds)))
    (gBadCount : PySem.W.nsIn K mainGlobals "BadCount" = some (some (.ref xBadCount)))
    (gUnsaid : PySem.W.nsIn K mainGlobals "Unsaid" = some (some (.ref xUnsaid)))
    (gNoLetter : PySem.W.nsIn K mainGlobals "NoLetter" = some (some (.ref xNoLetter)))
    (gNoException : PySem.W.nsIn K mainGlobals "NoException" = some (some (.ref xNoException)))
    (gOtherLetters : PySem.W.nsIn K mainGlobals "OtherLetters" = some (some (.ref xOtherLetters)))
    (gBadSamples : PySem.W.nsIn K mainGlobals "BadSamples" = some (some (.ref xBadSamples)))
    (gBadDeed : PySem.W.nsIn K mainGlobals "BadDeed" = some (some (.ref xBadDeed)))
    (gHalted : PySem.W.nsIn K mainGlobals "Halted" = some (some (.ref xHalted)))
    (gBadText : PySem.W.nsIn K mainGlobals "BadText" = some (some (.ref xBadText)))
    (eS1 : PySem.W.subIn K (.ref xSayError) (.type "BaseException") = some true)
    (eS2 : PySem.W.hasDictIn K xSayError = true)
    (eS3 : PySem.W.typeIn K (.ref xSayError) = some (.type "type"))
    (Halted_e4 : PySem.W.subIn K (.ref xHalted) (.ref xSayError) = some true)
    (Halted_kBadBook : PySem.W.kitOne K (.ref xHalted) (.ref xBadBook) = some false)
    (Halted_kBadWord : PySem.W.kitOne K (.ref xHalted) (.ref xBadWord) = some false)
    (Halted_kBadSounds : PySem.W.kitOne K (.ref xHalted) (.ref xBadSounds) = some false)
    (Halted_kBadCount : PySem.W.kitOne K (.ref xHalted) (.ref xBadCount) = some false)
    (Halted_kUnsaid : PySem.W.kitOne K (.ref xHalted) (.ref xUnsaid) = some false)
    (Halted_kNoLetter : PySem.W.kitOne K (.ref xHalted) (.ref xNoLetter) = some false)
    (Halted_kNoException : PySem.W.kitOne K (.ref xHalted) (.ref xNoException) = some false)
    (Halted_kOtherLetters : PySem.W.kitOne K (.ref xHalted) (.ref xOtherLetters) = some false)
    (Halted_kBadSamples : PySem.W.kitOne K (.ref xHalted) (.ref xBadSamples) = some false)
    (Halted_kBadDeed : PySem.W.kitOne K (.ref xHalted) (.ref xBadDeed) = some false)
    (Halted_kHalted : PySem.W.kitOne K (.ref xHalted) (.ref xHalted) = some true)
    (Halted_kBadText : PySem.W.kitOne K (.ref xHalted) (.ref xBadText) = some false)
    (Halted_kV : PySem.W.kitOne K (.ref xHalted) (.type "ValueError") = some true)
    (Halted_noP : PySem.W.findIn K (.ref xHalted) "place" = some none)
    (Halted_noN : PySem.W.findIn K (.ref xHalted) "number" = some none)
    (Halted_noA : PySem.W.findIn K (.ref xHalted) "part" = some none)
    (Halted_noD : PySem.W.findIn K (.ref xHalted) "done" = some none)
    (Halted_noR : PySem.W.findIn K (.ref xHalted) "row" = some none)
    (Halted_ga : PySem.W.findIn K (.ref xHalted) "__getattribute__" = some (some (.builtin "BaseException.__getattribute__")))
    (Halted_gg : PySem.W.findIn K (.ref xHalted) "__getattr__" = some none)
    (Halted_hd : PySem.W.hasDictIn K xHalted = true)
    (Halted_ex : PySem.W.subIn K (.ref xHalted) (.type "BaseException") = some true)
    (Halted_ha : PySem.W.findIn K (.ref xHalted) "__class__" = some (some (.builtin "object.__class__")))
    (Halted_hm : PySem.W.mroIn K xHalted (.type "object") = some true)
    (x_hn : PySem.W.specialIn K (.builtin "object.__class__") "__get__" = some (some (.builtin "getset_descriptor.__get__")))
    (x_ht : PySem.W.takesIn K (.builtin "object.__class__") = some true)
    (o0_x : K.lookup xBadBook = some (excClassObj nmo0 qo0 xBadBook N_o0 bso0 [.ref xSayError, .type "ValueError", .type "Exception", .type "BaseException", .type "object"] true sno0 subo0 abo0 colo0 ddo0 m0o0 m1o0 m2o0 m3o0 m5o0 "ValueError.__new__"))
    (o0_sa : PySem.W.findIn K (.ref xBadBook) "__setattr__" = some (some (.builtin "object.__setattr__")))
    (o0_iC : PySem.W.findIn K (.ref xBadBook) "__init__" = some (some (.ref fIo0)))
    (o0_tC : PySem.W.typeIn K (.ref fIo0) = some (.type "function"))
    (o0_kC : PySem.W.keepIn K (.ref xBadBook) = true)
    (o0_tyC : PySem.W.typeIn K (.ref xBadBook) = some (.type "type"))
    (o0_sup : PySem.W.ks_superIn K xBadBook xBadBook "__init__" = some (some (.builtin "ValueError.__init__")))
    (o0_subV : PySem.W.subIn K (.ref xBadBook) (.type "ValueError") = some true)
    (o0_subE : PySem.W.subIn K (.ref xBadBook) (.type "BaseException") = some true)
    (o0_any : PySem.W.nsIn K cStatics "thirdparty.any" = some none)
    (o0_main : (l.prog.main.scope.names.lookup ("super" : Str)).isSome = false)
    (o0_fn : K.lookup fIo0 = some ⟨oIo0, odIo0, .func (PySem.W.ksFn "__init__" "BadBook.__init__" PySem.XBadBook.iA PySem.XBadBook.iB PySem.XBadBook.iS .none .none dcIo0 pmIo0 anIo0 (.ref cdIo0) ctIo0 ccIo0), slIo0⟩)
    (o0_cd : PySem.W.codeIn K (.ref cdIo0) "BadBook.__init__" = true)
    (o0_cell : K.lookup ccIo0 = some ⟨clIo0, cldIo0, .cell (some (.ref xBadBook)), cslIo0⟩)
    (o0_code : K.lookup cdIo0 = some ⟨cclIo0, cddIo0, .fields vsIo0, ccsIo0⟩)
    (o0_vs : vsIo0[2]? = some (.str flIo0 tfIo0))
    (o0_file : ((l.prog.main.file : Str) == flIo0) = true)
    (o0_no0 : PySem.W.findIn K (.ref xBadBook) "part" = some none)
    (o0_no1 : PySem.W.findIn K (.ref xBadBook) "number" = some none)
    (o1_x : K.lookup xBadDeed = some (excClassObj nmo1 qo1 xBadDeed N_o1 bso1 [.ref xSayError, .type "ValueError", .type "Exception", .type "BaseException", .type "object"] true sno1 subo1 abo1 colo1 ddo1 m0o1 m1o1 m2o1 m3o1 m5o1 "ValueError.__new__"))
    (o1_sa : PySem.W.findIn K (.ref xBadDeed) "__setattr__" = some (some (.builtin "object.__setattr__")))
    (o1_iC : PySem.W.findIn K (.ref xBadDeed) "__init__" = some (some (.ref fIo1)))
    (o1_tC : PySem.W.typeIn K (.ref fIo1) = some (.type "function"))
    (o1_kC : PySem.W.keepIn K (.ref xBadDeed) = true)
    (o1_tyC : PySem.W.typeIn K (.ref xBadDeed) = some (.type "type"))
    (o1_sup : PySem.W.ks_superIn K xBadDeed xBadDeed "__init__" = some (some (.builtin "ValueError.__init__")))
    (o1_subV : PySem.W.subIn K (.ref xBadDeed) (.type "ValueError") = some true)
    (o1_subE : PySem.W.subIn K (.ref xBadDeed) (.type "BaseException") = some true)
    (o1_any : PySem.W.nsIn K cStatics "thirdparty.any" = some none)
    (o1_main : (l.prog.main.scope.names.lookup ("super" : Str)).isSome = false)
    (o1_fn : K.lookup fIo1 = some ⟨oIo1, odIo1, .func (PySem.W.ksFn "__init__" "BadDeed.__init__" PySem.XBadDeed.iA PySem.XBadDeed.iB PySem.XBadDeed.iS .none .none dcIo1 pmIo1 anIo1 (.ref cdIo1) ctIo1 ccIo1), slIo1⟩)
    (o1_cd : PySem.W.codeIn K (.ref cdIo1) "BadDeed.__init__" = true)
    (o1_cell : K.lookup ccIo1 = some ⟨clIo1, cldIo1, .cell (some (.ref xBadDeed)), cslIo1⟩)
    (o1_code : K.lookup cdIo1 = some ⟨cclIo1, cddIo1, .fields vsIo1, ccsIo1⟩)
    (o1_vs : vsIo1[2]? = some (.str flIo1 tfIo1))
    (o1_file : ((l.prog.main.file : Str) == flIo1) = true)
    (o1_no0 : PySem.W.findIn K (.ref xBadDeed) "number" = some none)
    (o2_x : K.lookup xHalted = some (excClassObj nmo2 qo2 xHalted N_o2 bso2 [.ref xSayError, .type "ValueError", .type "Exception", .type "BaseException", .type "object"] true sno2 subo2 abo2 colo2 ddo2 m0o2 m1o2 m2o2 m3o2 m5o2 "ValueError.__new__"))
    (o2_sa : PySem.W.findIn K (.ref xHalted) "__setattr__" = some (some (.builtin "object.__setattr__")))
    (o2_iC : PySem.W.findIn K (.ref xHalted) "__init__" = some (some (.ref fIo2)))
    (o2_tC : PySem.W.typeIn K (.ref fIo2) = some (.type "function"))
    (o2_kC : PySem.W.keepIn K (.ref xHalted) = true)
    (o2_tyC : PySem.W.typeIn K (.ref xHalted) = some (.type "type"))
    (o2_sup : PySem.W.ks_superIn K xHalted xHalted "__init__" = some (some (.builtin "ValueError.__init__")))
    (o2_subV : PySem.W.subIn K (.ref xHalted) (.type "ValueError") = some true)
    (o2_subE : PySem.W.subIn K (.ref xHalted) (.type "BaseException") = some true)
    (o2_any : PySem.W.nsIn K cStatics "thirdparty.any" = some none)
    (o2_main : (l.prog.main.scope.names.lookup ("super" : Str)).isSome = false)
    (o2_fn : K.lookup fIo2 = some ⟨oIo2, odIo2, .func (PySem.W.ksFn "__init__" "Halted.__init__" PySem.XHalted.iA PySem.XHalted.iB PySem.XHalted.iS .none .none dcIo2 pmIo2 anIo2 (.ref cdIo2) ctIo2 ccIo2), slIo2⟩)
    (o2_cd : PySem.W.codeIn K (.ref cdIo2) "Halted.__init__" = true)
    (o2_cell : K.lookup ccIo2 = some ⟨clIo2, cldIo2, .cell (some (.ref xHalted)), cslIo2⟩)
    (o2_code : K.lookup cdIo2 = some ⟨cclIo2, cddIo2, .fields vsIo2, ccsIo2⟩)
    (o2_vs : vsIo2[2]? = some (.str flIo2 tfIo2))
    (o2_file : ((l.prog.main.file : Str) == flIo2) = true)
    (o2_no0 : PySem.W.findIn K (.ref xHalted) "number" = some none)
    (o2_no1 : PySem.W.findIn K (.ref xHalted) "done" = some none)
    (l_code : K.lookup cL = some ⟨.type "code", cddL, .fields vsL, cslL⟩)
    (l_vs : vsL[11]? = some (.ref Pt))
    (l_v11 : vsL.getD 11 .none = .ref Pt)
    (l_v18 : vsL.getD 18 .none = .str lf18 lt18)
    (l_v7 : vsL.getD 7 .none = .int li7 lt7)
    (l_v9 : vsL.getD 9 .none = .bool lb9)
    (l_v10 : vsL.getD 10 .none = .int li10 lt10)
    (l_ne : cL ≠ Pt)
    (l_no : K.lookup Pt = none)
    (rBadCount_x : PySem.W.excIn K xBadCount [.type "ValueError", .type "Exception", .type "BaseException", .type "object"] "ValueError.__new__" = true)
    (rBadCount_k : PySem.W.keepIn K (.ref xBadCount) = true)
    (rBadCount_t : PySem.W.typeIn K (.ref xBadCount) = some (.type "type"))
    (rBadWord_x : PySem.W.excIn K xBadWord [.type "ValueError", .type "Exception", .type "BaseException", .type "object"] "ValueError.__new__" = true)
    (rBadWord_k : PySem.W.keepIn K (.ref xBadWord) = true)
    (rBadWord_t : PySem.W.typeIn K (.ref xBadWord) = some (.type "type"))
    (rBadSounds_x : PySem.W.excIn K xBadSounds [.type "ValueError", .type "Exception", .type "BaseException", .type "object"] "ValueError.__new__" = true)
    (rBadSounds_k : PySem.W.keepIn K (.ref xBadSounds) = true)
    (rBadSounds_t : PySem.W.typeIn K (.ref xBadSounds) = some (.type "type"))
    (rNoException_x : PySem.W.excIn K xNoException [.type "ValueError", .type "Exception", .type "BaseException", .type "object"] "ValueError.__new__" = true)
    (rNoException_k : PySem.W.keepIn K (.ref xNoException) = true)
    (rNoException_t : PySem.W.typeIn K (.ref xNoException) = some (.type "type"))
    (gDesk : PySem.W.nsIn K mainGlobals "Desk" = some (some (.ref yDesk)))
    (C_pg : PySem.W.plainGet K yDesk Str.empty = true)
    (C_hd : PySem.W.hasDictIn K yDesk = true)
    (C_po : PySem.W.plainOver K yDesk = true)
    (C_sa : PySem.W.findIn K (.ref yDesk) "__setattr__" = some (some (.builtin "object.__setattr__")))
    (C_mk : PySem.W.makesIn K yDesk = true)
    (C_kc : PySem.W.keepIn K (.ref yDesk) = true)
    (C_n0 : PySem.W.findIn K (.ref yDesk) "_book" = some none)
    (C_n1 : PySem.W.findIn K (.ref yDesk) "_told" = some none)
    (C_n2 : PySem.W.findIn K (.ref yDesk) "_idle" = some none)
    (gSIZES : PySem.W.nsIn K mainGlobals "SIZES" = some (some (.ref aSz)))
    (sz_l : K.lookup aSz = some ⟨.type "dict", none, .dict szE szN, #[]⟩)
    (sz_k : PySem.W.KeysLit w.params szE.toList)
    (sz_o : (aSz == sysModules) = false)
    (sz_v : Paired (fun (e : DictEntry) (kv : Str × V) => (∃ t, e.key = .str kv.1 t) ∧ RelV kv.2 e.val) szE.toList dkTab)
    (e4BadCount : PySem.W.subIn K (.ref xBadCount) (.ref xSayError) = some true)
    (e4BadBook : PySem.W.subIn K (.ref xBadBook) (.ref xSayError) = some true)
    (e4BadSounds : PySem.W.subIn K (.ref xBadSounds) (.ref xSayError) = some true)
    (e4NoException : PySem.W.subIn K (.ref xNoException) (.ref xSayError) = some true)
    (BadCount_ex : PySem.W.subIn K (.ref xBadCount) (.type "BaseException") = some true)
    (BadWord_ex : PySem.W.subIn K (.ref xBadWord) (.type "BaseException") = some true)
    (BadSounds_ex : PySem.W.subIn K (.ref xBadSounds) (.type "BaseException") = some true)
    (NoException_ex : PySem.W.subIn K (.ref xNoException) (.type "BaseException") = some true)
    : LamX.LawAtS l w K CX0 13 63 "_law_script" mg fa h := by
  have e := hfa.symm.trans (PySem.W.mg_of X G a_law)
  cases e
  have B : Bn mg := ⟨PySem.W.mg_none_of X G z_len, PySem.W.mg_none_of X G z_range, PySem.W.mg_none_of X G z_tuple, PySem.W.mg_none_of X G z_list, PySem.W.mg_none_of X G z_isinstance, PySem.W.mg_none_of X G z_str, PySem.W.mg_none_of X G z_all, PySem.W.mg_none_of X G z_enumerate, PySem.W.mg_none_of X G z_sorted, PySem.W.mg_none_of X G z_bool⟩
  have C : Cn mg := ⟨⟨_, PySem.W.mg_of X G c_small⟩, ⟨_, PySem.W.mg_of X G c_caps⟩, ⟨_, PySem.W.mg_of X G c_edge⟩, ⟨_, PySem.W.mg_of X G c_mrul⟩, ⟨_, PySem.W.mg_of X G c_lexc⟩, ⟨_, PySem.W.mg_of X G c_lrs⟩, ⟨_, PySem.W.mg_of X G c_lso⟩⟩
  have KI_MOST_EXCEPTIONS : KI mg "MOST_EXCEPTIONS" 8 := ⟨_, PySem.W.mg_of X G c_imost_exceptions⟩
  have KI_LONGEST_WORD : KI mg "LONGEST_WORD" 12 := ⟨_, PySem.W.mg_of X G c_ilongest_word⟩
  have KI_OWN : KI mg "OWN" 1 := ⟨_, PySem.W.mg_of X G c_iown⟩
  have KI_SOUNDS : KI mg "SOUNDS" 3 := ⟨_, PySem.W.mg_of X G c_isounds⟩
  have KI_NO_BOOK : KI mg "NO_BOOK" (-1) := ⟨_, PySem.W.mg_of X G c_ino_book⟩
  have KI_LETTERS : KI mg "LETTERS" 0 := ⟨_, PySem.W.mg_of X G c_iletters⟩
  have KI_RULES : KI mg "RULES" 1 := ⟨_, PySem.W.mg_of X G c_irules⟩
  have KI_EXCEPTIONS : KI mg "EXCEPTIONS" 2 := ⟨_, PySem.W.mg_of X G c_iexceptions⟩
  have EC_Halted : ExcC K xHalted := ⟨Halted_ga, Halted_gg, Halted_ex, Halted_hd, Halted_ha, x_hn, x_ht, Halted_hm⟩
  have WC_Halted : WordC K mg xHalted 10 := { say := ⟨_, PySem.W.mg_of X G gSayError, PySem.W.exm_ref eS1 eS2 eS3 Halted_e4⟩, book := ⟨_, PySem.W.mg_of X G gBadBook, Halted_kBadBook⟩, word := ⟨_, PySem.W.mg_of X G gBadWord, Halted_kBadWord⟩, snds := ⟨_, PySem.W.mg_of X G gBadSounds, Halted_kBadSounds⟩, coun := ⟨_, PySem.W.mg_of X G gBadCount, Halted_kBadCount⟩, uns := ⟨_, PySem.W.mg_of X G gUnsaid, Halted_kUnsaid⟩, lett := ⟨_, PySem.W.mg_of X G gNoLetter, Halted_kNoLetter⟩, exce := ⟨_, PySem.W.mg_of X G gNoException, Halted_kNoException⟩, othe := ⟨_, PySem.W.mg_of X G gOtherLetters, Halted_kOtherLetters⟩, samp := ⟨_, PySem.W.mg_of X G gBadSamples, Halted_kBadSamples⟩, deed := ⟨_, PySem.W.mg_of X G gBadDeed, Halted_kBadDeed⟩, halt := ⟨_, PySem.W.mg_of X G gHalted, Halted_kHalted⟩, text := ⟨_, PySem.W.mg_of X G gBadText, Halted_kBadText⟩, val := PySem.W.mg_none_of X G z_ValueError, kv := Halted_kV, exc := EC_Halted, xf := ⟨Halted_ga, Halted_gg, Halted_ex, Halted_hd⟩, noP := Halted_noP, noN := Halted_noN, noA := Halted_noA, noD := Halted_noD, noR := Halted_noR }
  have O_BadBook : PySem.XBadBook.ExTxt l.prog K mg xBadBook fIo0 := { gC := PySem.W.mg_of X G gBadBook, sB := PySem.W.mg_none_of X G z_super, cls := ⟨_, _, _, _, _, _, _, _, _, _, _, _, _, _, _, o0_x, rfl⟩, sa := o0_sa, noP0 := o0_no0, noP1 := o0_no1, iC := o0_iC, tC := o0_tC, kC := o0_kC, exC := o0_subE, tyC := o0_tyC, sup := o0_sup, subV := o0_subV, any := o0_any, main := o0_main, fn := ⟨_, _, _, _, _, _, _, _, _, o0_fn, o0_cd, ⟨_, _, _, o0_cell⟩, _, _, _, _, _, _, o0_code, o0_vs, o0_file⟩ }
  have O_BadDeed : PySem.XBadDeed.ExTxt l.prog K mg xBadDeed fIo1 := { gC := PySem.W.mg_of X G gBadDeed, sB := PySem.W.mg_none_of X G z_super, cls := ⟨_, _, _, _, _, _, _, _, _, _, _, _, _, _, _, o1_x, rfl⟩, sa := o1_sa, noP0 := o1_no0, iC := o1_iC, tC := o1_tC, kC := o1_kC, exC := o1_subE, tyC := o1_tyC, sup := o1_sup, subV := o1_subV, any := o1_any, main := o1_main, fn := ⟨_, _, _, _, _, _, _, _, _, o1_fn, o1_cd, ⟨_, _, _, o1_cell⟩, _, _, _, _, _, _, o1_code, o1_vs, o1_file⟩ }
  have O_Halted : PySem.XHalted.ExTxt l.prog K mg xHalted fIo2 := { gC := PySem.W.mg_of X G gHalted, sB := PySem.W.mg_none_of X G z_super, cls := ⟨_, _, _, _, _, _, _, _, _, _, _, _, _, _, _, o2_x, rfl⟩, sa := o2_sa, noP0 := o2_no0, noP1 := o2_no1, iC := o2_iC, tC := o2_tC, kC := o2_kC, exC := o2_subE, tyC := o2_tyC, sup := o2_sup, subV := o2_subV, any := o2_any, main := o2_main, fn := ⟨_, _, _, _, _, _, _, _, _, o2_fn, o2_cd, ⟨_, _, _, o2_cell⟩, _, _, _, _, _, _, o2_code, o2_vs, o2_file⟩ }
  have R_BadCount : RaQ K mg "BadCount" xBadCount := ⟨rBadCount_x, PySem.W.mg_of X G gBadCount, rBadCount_k, BadCount_ex, rBadCount_t⟩
  have R_BadWord : RaQ K mg "BadWord" xBadWord := ⟨rBadWord_x, PySem.W.mg_of X G gBadWord, rBadWord_k, BadWord_ex, rBadWord_t⟩
  have R_BadSounds : RaQ K mg "BadSounds" xBadSounds := ⟨rBadSounds_x, PySem.W.mg_of X G gBadSounds, rBadSounds_k, BadSounds_ex, rBadSounds_t⟩
  have R_NoException : RaQ K mg "NoException" xNoException := ⟨rNoException_x, PySem.W.mg_of X G gNoException, rNoException_k, NoException_ex, rNoException_t⟩
  have DK : DeedK K w mg := ⟨aSz, szE, szN, PySem.W.mg_of X G gSIZES, sz_l, sz_k, fun h => kgt_all sz_l sz_k sz_o sz_v h⟩
  have SK : SayK K mg xSayError [xBadCount, xBadBook, xBadSounds, xNoException] := ⟨PySem.W.mg_of X G gSayError, fun c hc => by
    simp only [List.mem_cons, List.not_mem_nil, or_false] at hc
    rcases hc with rfl | rfl | rfl | rfl
    · exact ⟨PySem.W.exm_ref eS1 eS2 eS3 e4BadCount, R_BadCount.b, R_BadCount.t⟩
    · exact ⟨PySem.W.exm_ref eS1 eS2 eS3 e4BadBook, O_BadBook.exC, O_BadBook.tyC⟩
    · exact ⟨PySem.W.exm_ref eS1 eS2 eS3 e4BadSounds, R_BadSounds.b, R_BadSounds.t⟩
    · exact ⟨PySem.W.exm_ref eS1 eS2 eS3 e4NoException, R_NoException.b, R_NoException.t⟩⟩
  have hPt : h.get? Pt = some { cls := .none, data := .fields #[] } := OT cL Pt _ _ _ _ _ _ l_law rfl rfl l_code l_vs
  refine ⟨PySem.W.fnOf "law" "law" (defArgs sLaw) (defBody sLaw) (defScope sLaw) .none kVL dcL pmL anL (.ref cL) ctL, [(cL, Pt)], spLawT K Pt, fun p hp => ?_, fun p hp => ?_, fun p hp => ?_, fun s v => .of_eq rfl, fun H a ns hl _ hH hS => ?_, fun base _ _ TB => ?_⟩
  · rw [List.mem_singleton.mp hp]; exact hPt
  · rw [List.mem_singleton.mp hp]; exact l_no
  · rw [List.mem_singleton.mp hp]; exact ⟨_, _, _, _, _, _, _, _, _, X _ _ l_code, rfl, rfl, l_vs, l_v11, l_v18, l_v7, l_v9, l_v10, l_ne⟩
  · exact ⟨a, ns, rfl, hS, hl, hH _ (List.mem_singleton.mpr rfl), fun _ => rfl⟩
  obtain ⟨d40, F40, _⟩ := S40.fn
  have m40 := PySem.W.mg_of X G S40.ns
  have b40 := F40.binds (ps := ["text", "signs", "least", "most"]) fun _ _ _ _ _ _ us hl => match us, hl with | [_, _, _, _], _ => rfl
  have D_is_text : Df l.prog w K mg base "is_text" ["text", "signs", "least", "most"] 1 spIsText := ⟨_, _, ok_isText F40 B, F40.kp, b40, m40⟩
  obtain ⟨d41, F41, _⟩ := S41.fn
  have m41 := PySem.W.mg_of X G S41.ns
  have b41 := F41.binds (ps := ["text"]) fun _ _ _ _ _ _ us hl => match us, hl with | [_], _ => rfl
  have D_is_rising : Df l.prog w K mg base "is_rising" ["text"] 1 spRise := ⟨_, _, ok_rise F41 B, F41.kp, b41, m41⟩
  obtain ⟨d36, F36, _⟩ := S36.fn
  have m36 := PySem.W.mg_of X G S36.ns
  have b36 := F36.binds (ps := ["letters", "signs"]) fun _ _ _ _ _ _ us hl => match us, hl with | [_, _], _ => rfl
  have D_is_beside : Df l.prog w K mg base "is_beside" ["letters", "signs"] 2 spBeside := ⟨_, _, ok_beside F36 B C D_is_text D_is_rising, F36.kp, b36, m36⟩
  obtain ⟨d35, F35, _⟩ := S35.fn
  have m35 := PySem.W.mg_of X G S35.ns
  have b35 := F35.binds (ps := ["letters", "rule"]) fun _ _ _ _ _ _ us hl => match us, hl with | [_, _], _ => rfl
  have D_is_rule : Df l.prog w K mg base "is_rule" ["letters", "rule"] 3 spIsRule := ⟨_, _, ok_isRule F35 B C D_is_text D_is_beside, F35.kp, b35, m35⟩
  obtain ⟨d38, F38, _⟩ := S38.fn
  have m38 := PySem.W.mg_of X G S38.ns
  have b38 := F38.binds (ps := ["letters", "word"]) fun _ _ _ _ _ _ us hl => match us, hl with | [_, _], _ => rfl
  have D_is_excepted : Df l.prog w K mg base "is_excepted" ["letters", "word"] 2 spExcd := ⟨_, _, ok_excd F38 C D_is_text, F38.kp, b38, m38⟩
  obtain ⟨d39, F39, _⟩ := S39.fn
  have m39 := PySem.W.mg_of X G S39.ns
  have b39 := F39.binds (ps := ["sounds"]) fun _ _ _ _ _ _ us hl => match us, hl with | [_], _ => rfl
  have D_is_sounds : Df l.prog w K mg base "is_sounds" ["sounds"] 2 spIsSo := ⟨_, _, ok_isSo F39 C D_is_text, F39.kp, b39, m39⟩
  obtain ⟨d37, F37, _⟩ := S37.fn
  have m37 := PySem.W.mg_of X G S37.ns
  have b37 := F37.binds (ps := ["letters", "pair"]) fun _ _ _ _ _ _ us hl => match us, hl with | [_, _], _ => rfl
  have D_is_exception : Df l.prog w K mg base "is_exception" ["letters", "pair"] 3 spIsExc := ⟨_, _, ok_isExc F37 B D_is_excepted D_is_sounds, F37.kp, b37, m37⟩
  obtain ⟨d29, F29, _⟩ := S29.fn
  have m29 := PySem.W.mg_of X G S29.ns
  have b29 := F29.binds (ps := ["letters"]) fun _ _ _ _ _ _ us hl => match us, hl with | [_], _ => rfl
  have D_check_letters : Df l.prog w K mg base "check_letters" ["letters"] 2 spChL := ⟨_, _, ok_chL F29 C D_is_text D_is_rising, F29.kp, b29, m29⟩
  obtain ⟨d30, F30, _⟩ := S30.fn
  have m30 := PySem.W.mg_of X G S30.ns
  have b30 := F30.binds (ps := ["letters", "rules"]) fun _ _ _ _ _ _ us hl => match us, hl with | [_, _], _ => rfl
  have D_check_rules : Df l.prog w K mg base "check_rules" ["letters", "rules"] 4 spChR := ⟨_, _, ok_chR F30 B C D_is_rule, F30.kp, b30, m30⟩
  obtain ⟨d31, F31, _⟩ := S31.fn
  have m31 := PySem.W.mg_of X G S31.ns
  have b31 := F31.binds (ps := ["letters", "exceptions"]) fun _ _ _ _ _ _ us hl => match us, hl with | [_, _], _ => rfl
  have D_check_exceptions : Df l.prog w K mg base "check_exceptions" ["letters", "exceptions"] 4 spChE := ⟨_, _, ok_chE F31 B KI_MOST_EXCEPTIONS D_is_exception, F31.kp, b31, m31⟩
  obtain ⟨d28, F28, _⟩ := S28.fn
  have m28 := PySem.W.mg_of X G S28.ns
  have b28 := F28.binds (ps := ["book"]) fun _ _ _ _ _ _ us hl => match us, hl with | [_], _ => rfl
  have D_checked_book : Df l.prog w K mg base "checked_book" ["book"] 5 spCh := ⟨_, _, ok_ch F28 B D_check_letters D_check_rules D_check_exceptions, F28.kp, b28, m28⟩
  obtain ⟨d33, F33, _⟩ := S33.fn
  have m33 := PySem.W.mg_of X G S33.ns
  have b33 := F33.binds (ps := ["letters", "word"]) fun _ _ _ _ _ _ us hl => match us, hl with | [_, _], _ => rfl
  have G_check_excepted := ok_cx (P := l.prog) (w := w) (base := base) F33 R_BadWord ⟨_, _, ok_exdV F38 C ⟨_, _, ok_txV F40 B, F40.kp, b40, m40⟩, F38.kp, b38, m38⟩
  obtain ⟨d34, F34, _⟩ := S34.fn
  have m34 := PySem.W.mg_of X G S34.ns
  have b34 := F34.binds (ps := ["sounds"]) fun _ _ _ _ _ _ us hl => match us, hl with | [_], _ => rfl
  have G_check_sounds := ok_cs (P := l.prog) (w := w) (base := base) F34 R_BadSounds ⟨_, _, ok_soV F39 C ⟨_, _, ok_txV F40 B, F40.kp, b40, m40⟩, F39.kp, b39, m39⟩
  obtain ⟨d42, F42, _⟩ := S42.fn
  have m42 := PySem.W.mg_of X G S42.ns
  have b42 := F42.binds (ps := ["number", "most"]) fun _ _ _ _ _ _ us hl => match us, hl with | [_, _], _ => rfl
  have D_is_count : Df l.prog w K mg base "is_count" ["number", "most"] 1 spCnV := ⟨_, _, ok_cnV F42 B (PySem.W.mg_none_of X G z_int), F42.kp, b42, m42⟩
  obtain ⟨d60, F60, _⟩ := S60.fn
  have m60 := PySem.W.mg_of X G S60.ns
  have b60 := F60.binds (ps := ["place", "most"]) fun _ _ _ _ _ _ us hl => match us, hl with | [_, _], _ => rfl
  have G_check_place := ok_cp (P := l.prog) (w := w) (base := base) F60 R_BadCount D_is_count
  obtain ⟨d62, F62, _⟩ := S62.fn
  have m62 := PySem.W.mg_of X G S62.ns
  have b62 := F62.binds (ps := ["deed"]) fun _ _ _ _ _ _ us hl => match us, hl with | [_], _ => rfl
  have D_is_deed : Df l.prog w K mg base "is_deed" ["deed"] 1 (spIsD K) := ⟨_, _, ok_isD (k := 0) F62 B DK, F62.kp, b62, m62⟩
  obtain ⟨d61, F61, _⟩ := S61.fn
  have m61 := PySem.W.mg_of X G S61.ns
  have b61 := F61.binds (ps := ["deeds"]) fun _ _ _ _ _ _ us hl => match us, hl with | [_], _ => rfl
  have G_check_deeds := ok_cd (P := l.prog) (w := w) (base := base) F61 B O_BadDeed D_is_deed
  obtain ⟨d46, F46, _⟩ := S46.fn
  have m46 := PySem.W.mg_of X G S46.ns
  have b46 := F46.binds (ps := ["rule", "signs", "at"]) fun _ _ _ _ _ _ us hl => match us, hl with | [_, _, _], _ => rfl
  have D_fits : Df l.prog w K mg base "fits" ["rule", "signs", "at"] 1 spFits := ⟨_, _, ok_fits F46 B, F46.kp, b46, m46⟩
  obtain ⟨d47, F47, _⟩ := S47.fn
  have m47 := PySem.W.mg_of X G S47.ns
  have b47 := F47.binds (ps := ["rules", "signs", "at"]) fun _ _ _ _ _ _ us hl => match us, hl with | [_, _, _], _ => rfl
  have D_first_fit : Df l.prog w K mg base "first_fit" ["rules", "signs", "at"] 2 spFF := ⟨_, _, ok_FF F47 B D_fits, F47.kp, b47, m47⟩
  obtain ⟨d48, F48, _⟩ := S48.fn
  have m48 := PySem.W.mg_of X G S48.ns
  have b48 := F48.binds (ps := ["rules", "tail"]) fun _ _ _ _ _ _ us hl => match us, hl with | [_, _], _ => rfl
  have D_steps_of : Df l.prog w K mg base "steps_of" ["rules", "tail"] 3 spSt := ⟨_, _, ok_St F48 B C KI_OWN D_first_fit, F48.kp, b48, m48⟩
  obtain ⟨d52, F52, _⟩ := S52.fn
  have m52 := PySem.W.mg_of X G S52.ns
  have b52 := F52.binds (ps := ["steps"]) fun _ _ _ _ _ _ us hl => match us, hl with | [_], _ => rfl
  have D_numbers_of : Df l.prog w K mg base "numbers_of" ["steps"] 1 spNum := ⟨_, _, ok_num F52, F52.kp, b52, m52⟩
  obtain ⟨d53, F53, _⟩ := S53.fn
  have m53 := PySem.W.mg_of X G S53.ns
  have b53 := F53.binds (ps := ["rules", "numbers"]) fun _ _ _ _ _ _ us hl => match us, hl with | [_, _], _ => rfl
  have D_sounds_of : Df l.prog w K mg base "sounds_of" ["rules", "numbers"] 1 spSou := ⟨_, _, ok_sou F53 KI_SOUNDS, F53.kp, b53, m53⟩
  obtain ⟨d49, F49, _⟩ := S49.fn
  have m49 := PySem.W.mg_of X G S49.ns
  have b49 := F49.binds (ps := ["rules", "tail"]) fun _ _ _ _ _ _ us hl => match us, hl with | [_, _], _ => rfl
  have D_ending : Df l.prog w K mg base "ending" ["rules", "tail"] 4 spEnd := ⟨_, _, ok_end F49 D_steps_of D_numbers_of, F49.kp, b49, m49⟩
  obtain ⟨d50, F50, _⟩ := S50.fn
  have m50 := PySem.W.mg_of X G S50.ns
  have b50 := F50.binds (ps := ["rules", "tail"]) fun _ _ _ _ _ _ us hl => match us, hl with | [_, _], _ => rfl
  have D_ending_sounds : Df l.prog w K mg base "ending_sounds" ["rules", "tail"] 5 spEnS := ⟨_, _, ok_enS F50 D_ending D_sounds_of, F50.kp, b50, m50⟩
  obtain ⟨d51, F51, _⟩ := S51.fn
  have m51 := PySem.W.mg_of X G S51.ns
  have b51 := F51.binds (ps := ["rules", "word"]) fun _ _ _ _ _ _ us hl => match us, hl with | [_, _], _ => rfl
  have D_word_sounds : Df l.prog w K mg base "word_sounds" ["rules", "word"] 6 spWS := ⟨_, _, ok_WS F51 C D_ending_sounds, F51.kp, b51, m51⟩
  obtain ⟨d63, F63, _⟩ := S63.fn
  have m63 := PySem.W.mg_of X G S63.ns
  have b63 := F63.binds (ps := ["rules", "place", "rule"]) fun _ _ _ _ _ _ us hl => match us, hl with | [_, _, _], _ => rfl
  have D_with_rule : Df l.prog w K mg base "with_rule" ["rules", "place", "rule"] 1 spWr1 := ⟨_, _, ok_wr1 (k := 0) F63, F63.kp, b63, m63⟩
  obtain ⟨d64, F64, _⟩ := S64.fn
  have m64 := PySem.W.mg_of X G S64.ns
  have b64 := F64.binds (ps := ["rules", "place"]) fun _ _ _ _ _ _ us hl => match us, hl with | [_, _], _ => rfl
  have D_without_rule : Df l.prog w K mg base "without_rule" ["rules", "place"] 1 spWo1 := ⟨_, _, ok_wo1 (k := 0) F64, F64.kp, b64, m64⟩
  obtain ⟨d65, F65, _⟩ := S65.fn
  have m65 := PySem.W.mg_of X G S65.ns
  have b65 := F65.binds (ps := ["exceptions", "word"]) fun _ _ _ _ _ _ us hl => match us, hl with | [_, _], _ => rfl
  have D_without_word : Df l.prog w K mg base "without_word" ["exceptions", "word"] 1 spWw := ⟨_, _, ok_ww (k := 0) F65 B, F65.kp, b65, m65⟩
  obtain ⟨d67, F67, _⟩ := S67.fn
  have m67 := PySem.W.mg_of X G S67.ns
  have b67 := F67.binds (ps := ["_law_script"]) fun _ _ _ _ _ _ us hl => match us, hl with | [_], _ => rfl
  have D__law_row : Df l.prog w K mg base "_law_row" ["_law_script"] 1 (spRow K) := ⟨_, _, ok_row F67, F67.kp, b67, m67⟩
  obtain ⟨d68, F68, _⟩ := S68.fn
  have m68 := PySem.W.mg_of X G S68.ns
  have b68 := F68.binds (ps := ["_law_row_here", "_law_many"]) fun _ _ _ _ _ _ us hl => match us, hl with | [_, _], _ => rfl
  have D__law_taken : Df l.prog w K mg base "_law_taken" ["_law_row_here", "_law_many"] 1 (spTaken K) := ⟨_, _, ok_taken F68 B.len, F68.kp, b68, m68⟩
  obtain ⟨d69, F69, _⟩ := S69.fn
  have m69 := PySem.W.mg_of X G S69.ns
  have b69 := F69.binds (ps := ["_law_row_here"]) fun _ _ _ _ _ _ us hl => match us, hl with | [_], _ => rfl
  have D__law_letters : Df l.prog w K mg base "_law_letters" ["_law_row_here"] 2 (spLetters K) := ⟨_, _, ok_letters F69 D__law_taken, F69.kp, b69, m69⟩
  obtain ⟨d70, F70, _⟩ := S70.fn
  have m70 := PySem.W.mg_of X G S70.ns
  have b70 := F70.binds (ps := ["_law_row_here", "_law_letters_here"]) fun _ _ _ _ _ _ us hl => match us, hl with | [_, _], _ => rfl
  have D__law_side : Df l.prog w K mg base "_law_side" ["_law_row_here", "_law_letters_here"] 2 (spSide K) := ⟨_, _, ok_side F70 D__law_taken, F70.kp, b70, m70⟩
  obtain ⟨d71, F71, _⟩ := S71.fn
  have m71 := PySem.W.mg_of X G S71.ns
  have b71 := F71.binds (ps := ["_law_row_here", "_law_signs", "_law_fewest", "_law_many"]) fun _ _ _ _ _ _ us hl => match us, hl with | [_, _, _, _], _ => rfl
  have D__law_text : Df l.prog w K mg base "_law_text" ["_law_row_here", "_law_signs", "_law_fewest", "_law_many"] 2 (spText K) := ⟨_, _, ok_text F71 D__law_taken B.len B.rng, F71.kp, b71, m71⟩
  obtain ⟨d72, F72, _⟩ := S72.fn
  have m72 := PySem.W.mg_of X G S72.ns
  have b72 := F72.binds (ps := ["_law_row_here", "_law_letters_here"]) fun _ _ _ _ _ _ us hl => match us, hl with | [_, _], _ => rfl
  have D__law_rule : Df l.prog w K mg base "_law_rule" ["_law_row_here", "_law_letters_here"] 3 (spRule K) := ⟨_, _, ok_rule F72 D__law_taken D__law_side D__law_text, F72.kp, b72, m72⟩
  obtain ⟨d73, F73, _⟩ := S73.fn
  have m73 := PySem.W.mg_of X G S73.ns
  have b73 := F73.binds (ps := ["_law_row_here", "_law_letters_here", "_law_most"]) fun _ _ _ _ _ _ us hl => match us, hl with | [_, _, _], _ => rfl
  have D__law_rules : Df l.prog w K mg base "_law_rules" ["_law_row_here", "_law_letters_here", "_law_most"] 4 (spRules K) := ⟨_, _, ok_rules F73 D__law_taken D__law_rule B.rng B.tup, F73.kp, b73, m73⟩
  obtain ⟨d74, F74, _⟩ := S74.fn
  have m74 := PySem.W.mg_of X G S74.ns
  have b74 := F74.binds (ps := ["_law_row_here", "_law_letters_here", "_law_most"]) fun _ _ _ _ _ _ us hl => match us, hl with | [_, _, _], _ => rfl
  have D__law_exceptions : Df l.prog w K mg base "_law_exceptions" ["_law_row_here", "_law_letters_here", "_law_most"] 3 (spLE4 K) := ⟨_, _, ok_LE4 F74 B D__law_taken D__law_text, F74.kp, b74, m74⟩
  obtain ⟨d75, F75, _⟩ := S75.fn
  have m75 := PySem.W.mg_of X G S75.ns
  have b75 := F75.binds (ps := ["_law_row_here", "_law_letters_here"]) fun _ _ _ _ _ _ us hl => match us, hl with | [_, _], _ => rfl
  have D__law_desk : Df l.prog w K mg base "_law_desk" ["_law_row_here", "_law_letters_here"] 5 (spLDk K) := ⟨_, _, ok_LDk F75 B (PySem.W.mg_none_of X G z_dict) D__law_taken D__law_rules D__law_exceptions, F75.kp, b75, m75⟩
  obtain ⟨d76, F76, _⟩ := S76.fn
  have m76 := PySem.W.mg_of X G S76.ns
  have b76 := F76.binds (ps := ["_law_row_here", "_law_letters_here", "_law_many", "_law_words"]) fun _ _ _ _ _ _ us hl => match us, hl with | [_, _, _, _], _ => rfl
  have D__law_deed : Df l.prog w K mg base "_law_deed" ["_law_row_here", "_law_letters_here", "_law_many", "_law_words"] 4 (spLDd K) := ⟨_, _, ok_LDd F76 B D__law_taken D__law_rule D__law_text, F76.kp, b76, m76⟩
  obtain ⟨d77, F77, _⟩ := S77.fn
  have m77 := PySem.W.mg_of X G S77.ns
  have b77 := F77.binds (ps := ["_law_rule_here", "_law_word_here", "_law_place"]) fun _ _ _ _ _ _ us hl => match us, hl with | [_, _, _], _ => rfl
  have D__law_fits : Df l.prog w K mg base "_law_fits" ["_law_rule_here", "_law_word_here", "_law_place"] 1 spLF := ⟨_, _, ok_LF F77 B, F77.kp, b77, m77⟩
  obtain ⟨d78, F78, _⟩ := S78.fn
  have m78 := PySem.W.mg_of X G S78.ns
  have b78 := F78.binds (ps := ["_law_rules_here", "_law_word_here"]) fun _ _ _ _ _ _ us hl => match us, hl with | [_, _], _ => rfl
  have D__law_walk : Df l.prog w K mg base "_law_walk" ["_law_rules_here", "_law_word_here"] 2 spLW := ⟨_, _, ok_LW F78 B D__law_fits, F78.kp, b78, m78⟩
  obtain ⟨d79, F79, _⟩ := S79.fn
  have m79 := PySem.W.mg_of X G S79.ns
  have b79 := F79.binds (ps := ["_law_book", "_law_word_here"]) fun _ _ _ _ _ _ us hl => match us, hl with | [_, _], _ => rfl
  have D__law_said : Df l.prog w K mg base "_law_said" ["_law_book", "_law_word_here"] 3 spLS := ⟨_, _, ok_LS F79 D__law_walk, F79.kp, b79, m79⟩
  obtain ⟨d80, F80, _⟩ := S80.fn
  have m80 := PySem.W.mg_of X G S80.ns
  have b80 := F80.binds (ps := ["_law_w", "_law_deed_here"]) fun _ _ _ _ _ _ us hl => match us, hl with | [_, _], _ => rfl
  have D__law_done : Df l.prog w K mg base "_law_done" ["_law_w", "_law_deed_here"] 4 (spDone K) := ⟨_, _, ok_Done F80 B D__law_said, F80.kp, b80, m80⟩
  obtain ⟨d83, F83, _⟩ := S83.fn
  have m83 := PySem.W.mg_of X G S83.ns
  have b83 := F83.binds (ps := ["_law_w"]) fun _ _ _ _ _ _ us hl => match us, hl with | [_], _ => rfl
  have D__law_book_of : Df l.prog w K mg base "_law_book_of" ["_law_w"] 1 spBof := ⟨_, _, ok_Bof (k := 0) F83 B, F83.kp, b83, m83⟩
  obtain ⟨d81, F81, _⟩ := S81.fn
  have m81 := PySem.W.mg_of X G S81.ns
  obtain ⟨d82, F82, _⟩ := S82.fn
  have m82 := PySem.W.mg_of X G S82.ns
  have b82 := F82.binds (ps := ["_law_found", "_law_due"]) fun _ _ _ _ _ _ us hl => match us, hl with | [_, _], _ => rfl
  have D__law_alike : Df l.prog w K mg base "_law_alike" ["_law_found", "_law_due"] 5 (spAl K 5) := ⟨_, _, al_all F82 b82 m82 B 5, F82.kp, b82, m82⟩
  have S : DkC K yDesk := ⟨⟨C_pg, C_hd, C_po, C_sa⟩, C_n0, C_n1, C_n2⟩
  obtain ⟨dIn, FIn, _⟩ := MIn.fn
  have mIn := MIn.me
  have bIn := FIn.binds (ps := ["self", "book"]) fun _ _ _ _ _ _ us hl => match us, hl with | [_, _], _ => rfl
  have GIn := ok_dIn FIn S D_checked_book
  obtain ⟨dBk, FBk, _⟩ := MBk.fn
  have mBk := MBk.me
  have bBk := FBk.binds (ps := ["self"]) fun _ _ _ _ _ _ us hl => match us, hl with | [_], _ => rfl
  have GBk := ok_dBk (P := l.prog) (w := w) (mg := mg) (base := base) (k := 0) FBk S
  obtain ⟨dPu, FPu, _⟩ := MPu.fn
  have mPu := MPu.me
  have bPu := FPu.binds (ps := ["self", "place", "rule"]) fun _ _ _ _ _ _ us hl => match us, hl with | [_, _, _], _ => rfl
  have GPu := FnOk.up (m := 7) (FnOk.orX (FnOk.orX (ok_puG (P := l.prog) (w := w) (base := base) FPu S B C G_check_place F60.kp b60 m60 D_is_rule D_with_rule) (ok_puR (P := l.prog) (w := w) (base := base) FPu S B C KI_RULES O_BadBook G_check_place F60.kp b60 m60 ⟨_, _, ok_isRuV F35 B C ⟨_, _, ok_txV F40 B, F40.kp, b40, m40⟩ ⟨_, _, ok_besV F36 B C ⟨_, _, ok_txV F40 B, F40.kp, b40, m40⟩ D_is_rising, F36.kp, b36, m36⟩, F35.kp, b35, m35⟩)) (ok_pu12 (P := l.prog) (w := w) (base := base) FPu S B C KI_RULES O_BadBook G_check_place F60.kp b60 m60 D_is_rule)) (by decide)
  obtain ⟨dDr, FDr, _⟩ := MDr.fn
  have mDr := MDr.me
  have bDr := FDr.binds (ps := ["self", "place"]) fun _ _ _ _ _ _ us hl => match us, hl with | [_, _], _ => rfl
  have GDr := FnOk.up (m := 7) (FnOk.orX (ok_drG (P := l.prog) (w := w) (base := base) FDr S B G_check_place F60.kp b60 m60 D_without_rule) (ok_drR (P := l.prog) (w := w) (base := base) FDr S B G_check_place F60.kp b60 m60)) (by decide)
  obtain ⟨dMv, FMv, _⟩ := MMv.fn
  have mMv := MMv.me
  have bMv := FMv.binds (ps := ["self", "place", "other"]) fun _ _ _ _ _ _ us hl => match us, hl with | [_, _, _], _ => rfl
  have GMv := FnOk.up (m := 7) (FnOk.orX (ok_mvG (P := l.prog) (w := w) (base := base) FMv S B G_check_place F60.kp b60 m60 D_with_rule D_without_rule) (ok_mvR (P := l.prog) (w := w) (base := base) FMv S B G_check_place F60.kp b60 m60)) (by decide)
  obtain ⟨dLn, FLn, _⟩ := MLn.fn
  have mLn := MLn.me
  have bLn := FLn.binds (ps := ["self", "word", "sounds"]) fun _ _ _ _ _ _ us hl => match us, hl with | [_, _, _], _ => rfl
  have GLn := FnOk.orX (ok_lnG (P := l.prog) (w := w) (base := base) FLn S B KI_EXCEPTIONS KI_MOST_EXCEPTIONS O_BadBook G_check_excepted F33.kp b33 m33 G_check_sounds F34.kp b34 m34 D_without_word D_word_sounds) (FnOk.up (m := 7) (ok_lnR (P := l.prog) (w := w) (base := base) FLn S G_check_excepted F33.kp b33 m33 G_check_sounds F34.kp b34 m34) (by decide))
  obtain ⟨dFg, FFg, _⟩ := MFg.fn
  have mFg := MFg.me
  have bFg := FFg.binds (ps := ["self", "word"]) fun _ _ _ _ _ _ us hl => match us, hl with | [_, _], _ => rfl
  have GFg := FnOk.orX (FnOk.up (m := 7) (ok_fgG (P := l.prog) (w := w) (base := base) FFg S D_without_word) (by decide)) (FnOk.up (m := 7) (ok_fgR (P := l.prog) (w := w) (base := base) FFg S R_NoException) (by decide))
  obtain ⟨dTo, FTo, _⟩ := MTo.fn
  have mTo := MTo.me
  have bTo := FTo.binds (ps := ["self"]) fun _ _ _ _ _ _ us hl => match us, hl with | [_], _ => rfl
  have GTo := ok_dTo (P := l.prog) (w := w) (base := base) (k := 0) FTo S B
  obtain ⟨dId, FId, _⟩ := MId.fn
  have mId := MId.me
  have bId := FId.binds (ps := ["self"]) fun _ _ _ _ _ _ us hl => match us, hl with | [_], _ => rfl
  have GId := ok_dId (P := l.prog) (w := w) (mg := mg) (base := base) (k := 0) FId S
  obtain ⟨dDn, FDn, _⟩ := MDn.fn
  have mDn := MDn.me
  have bDn := FDn.binds (ps := ["self", "deed"]) fun _ _ _ _ _ _ us hl => match us, hl with | [_, _], _ => rfl
  have GDn := ok_Dn (P := l.prog) (w := w) (base := base) FDn S GPu mPu bPu GDr mDr bDr GMv mMv bMv GLn mLn bLn GFg mFg bFg
  obtain ⟨dAD, FAD, _⟩ := MAD.fn
  have mAD := MAD.me
  have bAD := FAD.binds (ps := ["self", "deeds", "keep"]) fun _ _ _ _ _ _ us hl => match us, hl with | [_, _, _], _ => rfl
  have GAD := ok_AD (P := l.prog) (w := w) (base := base) FAD S B O_Halted SK GDn mDn bDn
  obtain ⟨dBt, FBt⟩ := MBt.fn
  have mBt := MBt.me
  have GBt := ok_Bt (P := l.prog) (w := w) (base := base) FBt S GAD mAD bAD G_check_deeds F61.kp b61 m61
  have Mk_ : Mk K yDesk gIn := ⟨C_mk, mIn.at_, mIn.fn, C_kc⟩
  exact ok_law l_law c_law (TB _ (List.mem_singleton.mpr rfl)) B (PySem.W.mg_none_of X G z_dict) (PySem.W.mg_none_of X G z_int) WC_Halted F81 m81 S (PySem.W.mg_of X G gDesk) Mk_ GIn bIn FBt GBt mBt GTo mTo bTo GBk mBk bBk GId mId bId D__law_row D__law_taken D__law_letters D__law_desk D__law_deed D__law_done D__law_book_of D__law_alike
end Say
open PySem PySem.W PyProof.Rows
set_option maxRecDepth 100000 in
set_option maxHeartbeats 0 in
theorem PySem.Challenge.cw_saylore_k21_batches_holds : PySem.Challenge.rw_saylore_k21_batches.Holds := by
  w_on; o_law; k_head; (case hw => w_witness2)
  k_fill
  refine LamX.walk_ofOwn (l := PySem.Challenge.rw_saylore_k21_batches) (n := 63) (k := 13) (x := "_law_script") (CX := fun _ => L2.CX0) rfl (by decide) rfl ⟨rfl, by decide, by decide⟩ (by decide +kernel) (fun w h Y => PySem.W.km_in_of Y) ?F (fun _ _ _ _ _ h => h)
  case F =>
    intro w mg fa h KY KX G hmg OT
    refine' Say.all_ok KX G hmg OT (Say.std_mk ?a40 ?l40 ?c40 ?k40) (Say.std_mk ?a41 ?l41 ?c41 ?k41) (Say.std_mk ?a36 ?l36 ?c36 ?k36) (Say.std_mk ?a35 ?l35 ?c35 ?k35) (Say.std_mk ?a38 ?l38 ?c38 ?k38) (Say.std_mk ?a39 ?l39 ?c39 ?k39) (Say.std_mk ?a37 ?l37 ?c37 ?k37) (Say.std_mk ?a29 ?l29 ?c29 ?k29) (Say.std_mk ?a30 ?l30 ?c30 ?k30) (Say.std_mk ?a31 ?l31 ?c31 ?k31) (Say.std_mk ?a28 ?l28 ?c28 ?k28) (Say.std_mk ?a33 ?l33 ?c33 ?k33) (Say.std_mk ?a34 ?l34 ?c34 ?k34) (Say.std_mk ?a42 ?l42 ?c42 ?k42) (Say.std_mk ?a60 ?l60 ?c60 ?k60) (Say.std_mk ?a62 ?l62 ?c62 ?k62) (Say.std_mk ?a61 ?l61 ?c61 ?k61) (Say.std_mk ?a46 ?l46 ?c46 ?k46) (Say.std_mk ?a47 ?l47 ?c47 ?k47) (Say.std_mk ?a48 ?l48 ?c48 ?k48) (Say.std_mk ?a52 ?l52 ?c52 ?k52) (Say.std_mk ?a53 ?l53 ?c53 ?k53) (Say.std_mk ?a49 ?l49 ?c49 ?k49) (Say.std_mk ?a50 ?l50 ?c50 ?k50) (Say.std_mk ?a51 ?l51 ?c51 ?k51) (Say.std_mk ?a63 ?l63 ?c63 ?k63) (Say.std_mk ?a64 ?l64 ?c64 ?k64) (Say.std_mk ?a65 ?l65 ?c65 ?k65) (Say.std_mk ?a67 ?l67 ?c67 ?k67) (Say.std_mk ?a68 ?l68 ?c68 ?k68) (Say.std_mk ?a69 ?l69 ?c69 ?k69) (Say.std_mk ?a70 ?l70 ?c70 ?k70) (Say.std_mk ?a71 ?l71 ?c71 ?k71) (Say.std_mk ?a72 ?l72 ?c72 ?k72) (Say.std_mk ?a73 ?l73 ?c73 ?k73) (Say.std_mk ?a74 ?l74 ?c74 ?k74) (Say.std_mk ?a75 ?l75 ?c75 ?k75) (Say.std_mk ?a76 ?l76 ?c76 ?k76) (Say.std_mk ?a77 ?l77 ?c77 ?k77) (Say.std_mk ?a78 ?l78 ?c78 ?k78) (Say.std_mk ?a79 ?l79 ?c79 ?k79) (Say.std_mk ?a80 ?l80 ?c80 ?k80) (Say.std_mk ?a83 ?l83 ?c83 ?k83) (Say.std_mk ?a81 ?l81 ?c81 ?k81) (Say.std_mk ?a82 ?l82 ?c82 ?k82) (Say.mstd_mk ?a_In ?i_In ?l_In ?c_In ?k_In) (Say.mstd_mk ?a_Bk ?i_Bk ?l_Bk ?c_Bk ?k_Bk) (Say.mstd_mk ?a_Pu ?i_Pu ?l_Pu ?c_Pu ?k_Pu) (Say.mstd_mk ?a_Dr ?i_Dr ?l_Dr ?c_Dr ?k_Dr) (Say.mstd_mk ?a_Mv ?i_Mv ?l_Mv ?c_Mv ?k_Mv) (Say.mstd_mk ?a_Ln ?i_Ln ?l_Ln ?c_Ln ?k_Ln) (Say.mstd_mk ?a_Fg ?i_Fg ?l_Fg ?c_Fg ?k_Fg) (Say.mstd_mk ?a_To ?i_To ?l_To ?c_To ?k_To) (Say.mstd_mk ?a_Id ?i_Id ?l_Id ?c_Id ?k_Id) (Say.mstd_mk ?a_Dn ?i_Dn ?l_Dn ?c_Dn ?k_Dn) (Say.mstd_mk ?a_AD ?i_AD ?l_AD ?c_AD ?k_AD) (Say.mstdD_mk ?a_Bt ?i_Bt ?l_Bt ?c_Bt ?k_Bt ?d_Bt) ?a_law ?l_law ?c_law ?k_law ?z_len ?z_range ?z_tuple ?z_list ?z_isinstance ?z_str ?z_all ?z_enumerate ?z_sorted ?z_bool ?z_dict ?z_int ?c_small ?c_caps ?c_edge ?c_mrul ?c_lexc ?c_lrs ?c_lso ?c_imost_exceptions ?c_ilongest_word ?c_iown ?c_isounds ?c_ino_book ?c_iletters ?c_irules ?c_iexceptions ?z_super ?z_ValueError ?gSayError ?gBadBook ?gBadWord ?gBadSounds ?gBadCount ?gUnsaid ?gNoLetter ?gNoException ?gOtherLetters ?gBadSamples ?gBadDeed ?gHalted ?gBadText ?eS1 ?eS2 ?eS3 ?Halted_e4 ?Halted_kBadBook ?Halted_kBadWord ?Halted_kBadSounds ?Halted_kBadCount ?Halted_kUnsaid ?Halted_kNoLetter ?Halted_kNoException ?Halted_kOtherLetters ?Halted_kBadSamples ?Halted_kBadDeed ?Halted_kHalted ?Halted_kBadText ?Halted_kV ?Halted_noP ?Halted_noN ?Halted_noA ?Halted_noD ?Halted_noR ?Halted_ga ?Halted_gg ?Halted_hd ?Halted_ex ?Halted_ha ?Halted_hm ?x_hn ?x_ht ?o0_x ?o0_sa ?o0_iC ?o0_tC ?o0_kC ?o0_tyC ?o0_sup ?o0_subV ?o0_subE ?o0_any ?o0_main ?o0_fn ?o0_cd ?o0_cell ?o0_code ?o0_vs ?o0_file ?o0_no0 ?o0_no1 ?o1_x ?o1_sa ?o1_iC ?o1_tC ?o1_kC ?o1_tyC ?o1_sup ?o1_subV ?o1_subE ?o1_any ?o1_main ?o1_fn ?o1_cd ?o1_cell ?o1_code ?o1_vs ?o1_file ?o1_no0 ?o2_x ?o2_sa ?o2_iC ?o2_tC ?o2_kC ?o2_tyC ?o2_sup ?o2_subV ?o2_subE ?o2_any ?o2_main ?o2_fn ?o2_cd ?o2_cell ?o2_code ?o2_vs ?o2_file ?o2_no0 ?o2_no1 ?l_code ?l_vs ?l_v11 ?l_v18 ?l_v7 ?l_v9 ?l_v10 ?l_ne ?l_no ?rBadCount_x ?rBadCount_k ?rBadCount_t ?rBadWord_x ?rBadWord_k ?rBadWord_t ?rBadSounds_x ?rBadSounds_k ?rBadSounds_t ?rNoException_x ?rNoException_k ?rNoException_t ?gDesk ?C_pg ?C_hd ?C_po ?C_sa ?C_mk ?C_kc ?C_n0 ?C_n1 ?C_n2 ?gSIZES ?sz_l ?sz_k ?sz_o ?sz_v ?e4BadCount ?e4BadBook ?e4BadSounds ?e4NoException ?BadCount_ex ?BadWord_ex ?BadSounds_ex ?NoException_ex
    (case a_law => k_is); (case z_len => k_is); (case z_range => k_is); (case z_tuple => k_is); (case z_list => k_is); (case z_isinstance => k_is)
    (case z_str => k_is); (case z_all => k_is); (case z_enumerate => k_is); (case z_sorted => k_is); (case z_bool => k_is); (case z_dict => k_is)
    (case z_int => k_is); (case c_small => k_is); (case c_caps => k_is); (case c_edge => k_is); (case c_mrul => k_is); (case c_lexc => k_is)
    (case c_lrs => k_is); (case c_lso => k_is); (case c_imost_exceptions => k_is); (case c_ilongest_word => k_is); (case c_iown => k_is); (case c_isounds => k_is)
    (case c_ino_book => k_is); (case c_iletters => k_is); (case c_irules => k_is); (case c_iexceptions => k_is); (case z_super => k_is); (case z_ValueError => k_is)
    (case gSayError => k_is); (case gBadBook => k_is); (case gBadWord => k_is); (case gBadSounds => k_is); (case gBadCount => k_is); (case gUnsaid => k_is)
    (case gNoLetter => k_is); (case gNoException => k_is); (case gOtherLetters => k_is); (case gBadSamples => k_is); (case gBadDeed => k_is); (case gHalted => k_is)
    (case gBadText => k_is); (case gDesk => k_is); (case gSIZES => k_is); (case a40 => k_is); (case l40 => k_is); (case c40 => k_is)
    (case k40 => k_is); (case a41 => k_is); (case l41 => k_is); (case c41 => k_is); (case k41 => k_is); (case a36 => k_is)
    (case l36 => k_is); (case c36 => k_is); (case k36 => k_is); (case a35 => k_is); (case l35 => k_is); (case c35 => k_is)
    (case k35 => k_is); (case a38 => k_is); (case l38 => k_is); (case c38 => k_is); (case k38 => k_is); (case a39 => k_is)
    (case l39 => k_is); (case c39 => k_is); (case k39 => k_is); (case a37 => k_is); (case l37 => k_is); (case c37 => k_is)
    (case k37 => k_is); (case a29 => k_is); (case l29 => k_is); (case c29 => k_is); (case k29 => k_is); (case a30 => k_is)
    (case l30 => k_is); (case c30 => k_is); (case k30 => k_is); (case a31 => k_is); (case l31 => k_is); (case c31 => k_is)
    (case k31 => k_is); (case a28 => k_is); (case l28 => k_is); (case c28 => k_is); (case k28 => k_is); (case a33 => k_is)
    (case l33 => k_is); (case c33 => k_is); (case k33 => k_is); (case a34 => k_is); (case l34 => k_is); (case c34 => k_is)
    (case k34 => k_is); (case a42 => k_is); (case l42 => k_is); (case c42 => k_is); (case k42 => k_is); (case a60 => k_is)
    (case l60 => k_is); (case c60 => k_is); (case k60 => k_is); (case a62 => k_is); (case l62 => k_is); (case c62 => k_is)
    (case k62 => k_is); (case a61 => k_is); (case l61 => k_is); (case c61 => k_is); (case k61 => k_is); (case a46 => k_is)
    (case l46 => k_is); (case c46 => k_is); (case k46 => k_is); (case a47 => k_is); (case l47 => k_is); (case c47 => k_is)
    (case k47 => k_is); (case a48 => k_is); (case l48 => k_is); (case c48 => k_is); (case k48 => k_is); (case a52 => k_is)
    (case l52 => k_is); (case c52 => k_is); (case k52 => k_is); (case a53 => k_is); (case l53 => k_is); (case c53 => k_is)
    (case k53 => k_is); (case a49 => k_is); (case l49 => k_is); (case c49 => k_is); (case k49 => k_is); (case a50 => k_is)
    (case l50 => k_is); (case c50 => k_is); (case k50 => k_is); (case a51 => k_is); (case l51 => k_is); (case c51 => k_is)
    (case k51 => k_is); (case a63 => k_is); (case l63 => k_is); (case c63 => k_is); (case k63 => k_is); (case a64 => k_is)
    (case l64 => k_is); (case c64 => k_is); (case k64 => k_is); (case a65 => k_is); (case l65 => k_is); (case c65 => k_is)
    (case k65 => k_is); (case a67 => k_is); (case l67 => k_is); (case c67 => k_is); (case k67 => k_is); (case a68 => k_is)
    (case l68 => k_is); (case c68 => k_is); (case k68 => k_is); (case a69 => k_is); (case l69 => k_is); (case c69 => k_is)
    (case k69 => k_is); (case a70 => k_is); (case l70 => k_is); (case c70 => k_is); (case k70 => k_is); (case a71 => k_is)
    (case l71 => k_is); (case c71 => k_is); (case k71 => k_is); (case a72 => k_is); (case l72 => k_is); (case c72 => k_is)
    (case k72 => k_is); (case a73 => k_is); (case l73 => k_is); (case c73 => k_is); (case k73 => k_is); (case a74 => k_is)
    (case l74 => k_is); (case c74 => k_is); (case k74 => k_is); (case a75 => k_is); (case l75 => k_is); (case c75 => k_is)
    (case k75 => k_is); (case a76 => k_is); (case l76 => k_is); (case c76 => k_is); (case k76 => k_is); (case a77 => k_is)
    (case l77 => k_is); (case c77 => k_is); (case k77 => k_is); (case a78 => k_is); (case l78 => k_is); (case c78 => k_is)
    (case k78 => k_is); (case a79 => k_is); (case l79 => k_is); (case c79 => k_is); (case k79 => k_is); (case a80 => k_is)
    (case l80 => k_is); (case c80 => k_is); (case k80 => k_is); (case a83 => k_is); (case l83 => k_is); (case c83 => k_is)
    (case k83 => k_is); (case a81 => k_is); (case l81 => k_is); (case c81 => k_is); (case k81 => k_is); (case a82 => k_is)
    (case l82 => k_is); (case c82 => k_is); (case k82 => k_is); (case a_In => k_is); (case i_In => k_is); (case l_In => k_is)
    (case c_In => k_is); (case k_In => k_is); (case a_Bk => k_is); (case i_Bk => k_is); (case l_Bk => k_is); (case c_Bk => k_is)
    (case k_Bk => k_is); (case a_Pu => k_is); (case i_Pu => k_is); (case l_Pu => k_is); (case c_Pu => k_is); (case k_Pu => k_is)
    (case a_Dr => k_is); (case i_Dr => k_is); (case l_Dr => k_is); (case c_Dr => k_is); (case k_Dr => k_is); (case a_Mv => k_is)
    (case i_Mv => k_is); (case l_Mv => k_is); (case c_Mv => k_is); (case k_Mv => k_is); (case a_Ln => k_is); (case i_Ln => k_is)
    (case l_Ln => k_is); (case c_Ln => k_is); (case k_Ln => k_is); (case a_Fg => k_is); (case i_Fg => k_is); (case l_Fg => k_is)
    (case c_Fg => k_is); (case k_Fg => k_is); (case a_To => k_is); (case i_To => k_is); (case l_To => k_is); (case c_To => k_is)
    (case k_To => k_is); (case a_Id => k_is); (case i_Id => k_is); (case l_Id => k_is); (case c_Id => k_is); (case k_Id => k_is)
    (case a_Dn => k_is); (case i_Dn => k_is); (case l_Dn => k_is); (case c_Dn => k_is); (case k_Dn => k_is); (case a_AD => k_is)
    (case i_AD => k_is); (case l_AD => k_is); (case c_AD => k_is); (case k_AD => k_is); (case a_Bt => k_is); (case i_Bt => k_is)
    (case l_Bt => k_is); (case c_Bt => k_is); (case k_Bt => k_is); (case d_Bt => k_is); (case l_law => k_is); (case c_law => k_is)
    (case k_law => k_is); (case eS1 => k_is); (case eS2 => k_is); (case eS3 => k_is); (case Halted_e4 => k_is); (case Halted_kBadBook => kit_is)
    (case Halted_kBadWord => kit_is); (case Halted_kBadSounds => kit_is); (case Halted_kBadCount => kit_is); (case Halted_kUnsaid => kit_is); (case Halted_kNoLetter => kit_is); (case Halted_kNoException => kit_is)
    (case Halted_kOtherLetters => kit_is); (case Halted_kBadSamples => kit_is); (case Halted_kBadDeed => kit_is); (case Halted_kHalted => kit_is); (case Halted_kBadText => kit_is); (case Halted_kV => kit_is)
    (case Halted_noP => k_is); (case Halted_noN => k_is); (case Halted_noA => k_is); (case Halted_noD => k_is); (case Halted_noR => k_is); (case Halted_ga => k_is)
    (case Halted_gg => k_is); (case Halted_hd => k_is); (case Halted_ex => k_is); (case Halted_ha => k_is); (case Halted_hm => k_is); (case x_hn => k_is)
    (case x_ht => k_is); (case o0_x => k_is); (case o0_sa => k_is); (case o0_iC => k_is); (case o0_tC => k_is); (case o0_kC => k_is)
    (case o0_tyC => k_is); (case o0_sup => ks_is); (case o0_subV => k_is); (case o0_subE => k_is); (case o0_any => k_is); (case o0_main => decide +kernel)
    (case o0_fn => k_is); (case o0_cd => k_is); (case o0_cell => k_is); (case o0_code => k_is); (case o0_vs => rfl); (case o0_file => decide +kernel)
    (case o0_no0 => k_is); (case o0_no1 => k_is); (case o1_x => k_is); (case o1_sa => k_is); (case o1_iC => k_is); (case o1_tC => k_is)
    (case o1_kC => k_is); (case o1_tyC => k_is); (case o1_sup => ks_is); (case o1_subV => k_is); (case o1_subE => k_is); (case o1_any => k_is)
    (case o1_main => decide +kernel); (case o1_fn => k_is); (case o1_cd => k_is); (case o1_cell => k_is); (case o1_code => k_is); (case o1_vs => rfl)
    (case o1_file => decide +kernel); (case o1_no0 => k_is); (case o2_x => k_is); (case o2_sa => k_is); (case o2_iC => k_is); (case o2_tC => k_is)
    (case o2_kC => k_is); (case o2_tyC => k_is); (case o2_sup => ks_is); (case o2_subV => k_is); (case o2_subE => k_is); (case o2_any => k_is)
    (case o2_main => decide +kernel); (case o2_fn => k_is); (case o2_cd => k_is); (case o2_cell => k_is); (case o2_code => k_is); (case o2_vs => rfl)
    (case o2_file => decide +kernel); (case o2_no0 => k_is); (case o2_no1 => k_is); (case l_code => k_is); (case l_vs => rfl); (case l_v11 => rfl)
    (case l_v18 => rfl); (case l_v7 => rfl); (case l_v9 => rfl); (case l_v10 => rfl); (case l_ne => decide +kernel); (case l_no => kernel_rfl)
    (case rBadCount_x => k_exc); (case rBadCount_k => k_is); (case rBadCount_t => k_is); (case rBadWord_x => k_exc); (case rBadWord_k => k_is); (case rBadWord_t => k_is)
    (case rBadSounds_x => k_exc); (case rBadSounds_k => k_is); (case rBadSounds_t => k_is); (case rNoException_x => k_exc); (case rNoException_k => k_is); (case rNoException_t => k_is)
    (case C_pg => k_is); (case C_hd => k_is); (case C_po => k_is); (case C_sa => k_is); (case C_mk => k_is); (case C_kc => k_is)
    (case C_n0 => k_is); (case C_n1 => k_is); (case C_n2 => k_is); (case sz_l => k_is); (case sz_k => k_keys); (case sz_o => kernel_rfl)
    (case sz_v => exact .cons ⟨⟨_, rfl⟩, ⟨_, rfl⟩⟩ (.cons ⟨⟨_, rfl⟩, ⟨_, rfl⟩⟩ (.cons ⟨⟨_, rfl⟩, ⟨_, rfl⟩⟩ (.cons ⟨⟨_, rfl⟩, ⟨_, rfl⟩⟩ (.cons ⟨⟨_, rfl⟩, ⟨_, rfl⟩⟩ .nil))))); (case e4BadCount => k_is); (case e4BadBook => k_is); (case e4BadSounds => k_is); (case e4NoException => k_is); (case BadCount_ex => k_is)
    (case BadWord_ex => k_is); (case BadSounds_ex => k_is); (case NoException_ex => k_is)
