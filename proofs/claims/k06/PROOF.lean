import PyProof.Rows.All
import Wide.All
import OpenK.AllK
import Wide.FinOn
import HandS.Base
import HandS.Call
import HandS.List
import HandS.Comp
import HandS.Ends
import HandS.Dict
import HandS.Iter
import HandS.Text
import HandS.Words
import HandS.WordsList
import HandS.Evl
import KE.KExcSuper
import HandS.Exc
import HandS.ExcInit
import HandS.Nested
import HandS.FStr
import HandS.WordsExc
import HandS.ExcOwn
import KE.GoesRaise
import PyProof.Rows.MatchSeqLen
import KE.KUnpack
import KE.GoesEnumKw
import HandS.Codes
import HandS.Strs
import HandS.TupMul
import HandS.Gcd
import KE.KMathGC
import PyProof.P3In
import HandS.ExcField
import HandS.IsInst
import KE.KExcIs
import HandS.ExcIs
import PySem.Challenge.RW_messageways_k06_first_wrong_rule
set_option Elab.async false
set_option maxRecDepth 100000
namespace Mw
open PySem L2
def top (i : Nat) : Stmt := PySem.Challenge.pw_messageways_k06_first_wrong_rule.main.body.getD i (.Pass ⟨0, 0, 0, 0⟩)
/-! ### trees of messages: a message is a chain of nodes, the cases of a choice a chain of cas -/
inductive T where
  | nil
  | text (s : Str) (r : T)
  | shw (n : Str) (r : T)
  | num (r : T)
  | cho (hd : List V) (cs o r : T)
  | cas (k : V) (m r : T)
/-- the values vs are the nodes (the cases) of the tree, as the heap has them -/
def Nodes (H : Hp) : T → List V → Prop
  | .nil, vs => vs = []
  | .text s r, vs => ∃ p ws, vs = .ref p :: ws ∧ H p = some (.tup [.str "text", .str s]) ∧ Nodes H r ws
  | .shw n r, vs => ∃ p ws, vs = .ref p :: ws ∧ H p = some (.tup [.str "show", .str n]) ∧ Nodes H r ws
  | .num r, vs => ∃ p ws, vs = .ref p :: ws ∧ H p = some (.tup [.str "number"]) ∧ Nodes H r ws
  | .cho hd cs o r, vs => ∃ p ws ca cvs oa ovs, vs = .ref p :: ws ∧ H p = some (.tup (hd ++ [.ref ca, .ref oa])) ∧ H ca = some (.lst cvs) ∧ Nodes H cs cvs ∧ H oa = some (.lst ovs) ∧ Nodes H o ovs ∧ Nodes H r ws
  | .cas k m r, vs => ∃ p ws ma mvs, vs = .ref p :: ws ∧ H p = some (.tup [k, .ref ma]) ∧ H ma = some (.lst mvs) ∧ Nodes H m mvs ∧ Nodes H r ws
/-- a list at a that is a message -/
def At (H : Hp) (a : Addr) (t : T) : Prop := ∃ vs, H a = some (.lst vs) ∧ Nodes H t vs
/-- all but the box stays; the box is a list of a ref and an int -/
def IsBox (vs : List V) : Prop := ∃ d i, vs = [.ref d, .int i]
def Ext (B : Addr) (H H' : Hp) : Prop := ∀ b o, b ≠ B → H b = some o → H' b = some o
theorem Ext.refl {B : Addr} (H : Hp) : Ext B H H := fun _ _ _ h => h
theorem Ext.trans {B : Addr} {H H1 H2 : Hp} (a : Ext B H H1) (b : Ext B H1 H2) : Ext B H H2 := fun c o n h => b c o n (a c o n h)
theorem Ext.of {B : Addr} {H H' : Hp} (s : Same H H') : Ext B H H' := fun b o _ h => s b o h
theorem same_new {H : Hp} {p : Addr} (h : H p = none) (o : HO) : Same H (upd H p o) := fun b u q => by
  rw [upd_ne (ne_of_none q h)]
  exact q
theorem same_mut {H H' : Hp} {p : Addr} (s : Same H H') (h : H p = none) (o : HO) : Same H (upd H' p o) := fun b u q => by
  rw [upd_ne (ne_of_none q h)]
  exact s b u q
theorem Nodes.refs {H : Hp} : ∀ {t : T} {vs : List V}, Nodes H t vs → ∀ v ∈ vs, ∃ a, v = .ref a
  | .nil, _, h, v, hv => by
    have h' : _ = [] := h
    subst h'
    cases hv
  | .text s r, _, h, v, hv => by
    obtain ⟨p, ws, rfl, _, hr⟩ := h
    rcases List.mem_cons.mp hv with rfl | hv
    · exact ⟨_, rfl⟩
    · exact Nodes.refs hr v hv
  | .shw n r, _, h, v, hv => by
    obtain ⟨p, ws, rfl, _, hr⟩ := h
    rcases List.mem_cons.mp hv with rfl | hv
    · exact ⟨_, rfl⟩
    · exact Nodes.refs hr v hv
  | .num r, _, h, v, hv => by
    obtain ⟨p, ws, rfl, _, hr⟩ := h
    rcases List.mem_cons.mp hv with rfl | hv
    · exact ⟨_, rfl⟩
    · exact Nodes.refs hr v hv
  | .cho hd cs o r, _, h, v, hv => by
    obtain ⟨p, ws, ca, cvs, oa, ovs, rfl, _, _, _, _, _, hr⟩ := h
    rcases List.mem_cons.mp hv with rfl | hv
    · exact ⟨_, rfl⟩
    · exact Nodes.refs hr v hv
  | .cas k m r, _, h, v, hv => by
    obtain ⟨p, ws, ma, mvs, rfl, _, _, _, hr⟩ := h
    rcases List.mem_cons.mp hv with rfl | hv
    · exact ⟨_, rfl⟩
    · exact Nodes.refs hr v hv
theorem Nodes.notBox {H : Hp} {t : T} {vs : List V} (h : Nodes H t vs) : ¬ IsBox vs := by
  rintro ⟨d, i, rfl⟩
  obtain ⟨a, e⟩ := h.refs (.int i) (by simp)
  cases e
theorem lst_ne {B a : Addr} {H : Hp} {bs vs : List V} (hb : H B = some (.lst bs)) (ib : IsBox bs) (ha : H a = some (.lst vs)) (nv : ¬ IsBox vs) : a ≠ B := by
  intro e
  subst e
  rw [hb] at ha
  cases ha
  exact nv ib
theorem tup_ne {B a : Addr} {H : Hp} {bs vs : List V} (hb : H B = some (.lst bs)) (ha : H a = some (.tup vs)) : a ≠ B := by
  intro e
  subst e
  rw [hb] at ha
  cases ha
/-- a tree stays where all but the box stays -/
theorem Nodes.ext {B : Addr} {H H' : Hp} {bs : List V} (hb : H B = some (.lst bs)) (ib : IsBox bs) (e : Ext B H H') : ∀ {t : T} {vs : List V}, Nodes H t vs → Nodes H' t vs
  | .nil, _, h => h
  | .text s r, _, h => by
    obtain ⟨p, ws, rfl, hp, hr⟩ := h
    exact ⟨p, ws, rfl, e _ _ (tup_ne hb hp) hp, Nodes.ext hb ib e hr⟩
  | .shw n r, _, h => by
    obtain ⟨p, ws, rfl, hp, hr⟩ := h
    exact ⟨p, ws, rfl, e _ _ (tup_ne hb hp) hp, Nodes.ext hb ib e hr⟩
  | .num r, _, h => by
    obtain ⟨p, ws, rfl, hp, hr⟩ := h
    exact ⟨p, ws, rfl, e _ _ (tup_ne hb hp) hp, Nodes.ext hb ib e hr⟩
  | .cho hd cs o r, _, h => by
    obtain ⟨p, ws, ca, cvs, oa, ovs, rfl, hp, hc, hcs, ho, hos, hr⟩ := h
    exact ⟨p, ws, ca, cvs, oa, ovs, rfl, e _ _ (tup_ne hb hp) hp, e _ _ (lst_ne hb ib hc hcs.notBox) hc, Nodes.ext hb ib e hcs, e _ _ (lst_ne hb ib ho hos.notBox) ho, Nodes.ext hb ib e hos, Nodes.ext hb ib e hr⟩
  | .cas k m r, _, h => by
    obtain ⟨p, ws, ma, mvs, rfl, hp, hm, hms, hr⟩ := h
    exact ⟨p, ws, ma, mvs, rfl, e _ _ (tup_ne hb hp) hp, e _ _ (lst_ne hb ib hm hms.notBox) hm, Nodes.ext hb ib e hms, Nodes.ext hb ib e hr⟩
theorem Nodes.same {H H' : Hp} (e : Same H H') : ∀ {t : T} {vs : List V}, Nodes H t vs → Nodes H' t vs
  | .nil, _, h => h
  | .text s r, _, h => by
    obtain ⟨p, ws, rfl, hp, hr⟩ := h
    exact ⟨p, ws, rfl, e _ _ hp, Nodes.same e hr⟩
  | .shw n r, _, h => by
    obtain ⟨p, ws, rfl, hp, hr⟩ := h
    exact ⟨p, ws, rfl, e _ _ hp, Nodes.same e hr⟩
  | .num r, _, h => by
    obtain ⟨p, ws, rfl, hp, hr⟩ := h
    exact ⟨p, ws, rfl, e _ _ hp, Nodes.same e hr⟩
  | .cho hd cs o r, _, h => by
    obtain ⟨p, ws, ca, cvs, oa, ovs, rfl, hp, hc, hcs, ho, hos, hr⟩ := h
    exact ⟨p, ws, ca, cvs, oa, ovs, rfl, e _ _ hp, e _ _ hc, Nodes.same e hcs, e _ _ ho, Nodes.same e hos, Nodes.same e hr⟩
  | .cas k m r, _, h => by
    obtain ⟨p, ws, ma, mvs, rfl, hp, hm, hms, hr⟩ := h
    exact ⟨p, ws, ma, mvs, rfl, e _ _ hp, e _ _ hm, Nodes.same e hms, Nodes.same e hr⟩
/-- two chains, one behind the other -/
def T.app : T → T → T
  | .nil, u => u
  | .text s r, u => .text s (r.app u)
  | .shw n r, u => .shw n (r.app u)
  | .num r, u => .num (r.app u)
  | .cho hd cs o r, u => .cho hd cs o (r.app u)
  | .cas k m r, u => .cas k m (r.app u)
theorem Nodes.app {H : Hp} {u : T} {us : List V} (hu : Nodes H u us) : ∀ {t : T} {vs : List V}, Nodes H t vs → Nodes H (t.app u) (vs ++ us)
  | .nil, _, h => by
    have h' : _ = [] := h
    subst h'
    exact hu
  | .text s r, _, h => by
    obtain ⟨p, ws, rfl, hp, hr⟩ := h
    exact ⟨p, ws ++ us, rfl, hp, Nodes.app hu hr⟩
  | .shw n r, _, h => by
    obtain ⟨p, ws, rfl, hp, hr⟩ := h
    exact ⟨p, ws ++ us, rfl, hp, Nodes.app hu hr⟩
  | .num r, _, h => by
    obtain ⟨p, ws, rfl, hp, hr⟩ := h
    exact ⟨p, ws ++ us, rfl, hp, Nodes.app hu hr⟩
  | .cho hd cs o r, _, h => by
    obtain ⟨p, ws, ca, cvs, oa, ovs, rfl, hp, hc, hcs, ho, hos, hr⟩ := h
    exact ⟨p, ws ++ us, ca, cvs, oa, ovs, rfl, hp, hc, hcs, ho, hos, Nodes.app hu hr⟩
  | .cas k m r, _, h => by
    obtain ⟨p, ws, ma, mvs, rfl, hp, hm, hms, hr⟩ := h
    exact ⟨p, ws ++ us, ma, mvs, rfl, hp, hm, hms, Nodes.app hu hr⟩
section
variable {P : Program} {w : World} {K : PySem.W.Frag} {mg : Str → Option Value} {base : Heap}
/-! ### _law_cell -/
abbrev sCell : Stmt := top 21
theorem scCell : FnScope ["script", "k"] ["script", "k"] (defScope sCell) := ⟨rfl, rfl, rfl, by decide +kernel, rfl, by decide +kernel, by decide +kernel⟩
def spCell (K : PySem.W.Frag) : Sp := fun vs H Q _ => ∃ (a : Addr) (ns : List Int) (k : Int), vs = [.ref a, .int k] ∧ SqL K H a (ns.map V.int) ∧ 0 ≤ k ∧ ∀ z, Q (.int z) H
theorem ok_cell {f : Addr} {fd : FuncData} (F : Fun K "_law_cell" "_law_cell" sCell f fd) (ml : mg "len" = none) : FnOk P w K mg base CX0 1 f fd ["script", "k"] (spCell K) := by
  refine F.ok scCell (fun vs H Q E h => ?_) (fun cdv A outer s H vs Q E hr h => ?_)
  · obtain ⟨a, ns, k, rfl, _⟩ := h
    rfl
  obtain ⟨a, ns, k, rfl, hS, h0, q⟩ := h
  refine ⟨_, pss_cons (ps_if (pt_cmpR op_lt (pv 1) (pe_callB call_len_seq (by rfl) ml PySem.boot_len (pa_cons (pv 0) pa_nil)) (nomark _)) (pss_one (ps_ret (pe_ix ix_list (pv 0) (pv 1) (fun _ _ => rfl)))) pss_nil)
    (pss_one (ps_ret pe_int)), ?_⟩
  refine ⟨_, rfl, _, rfl, a, _, rfl, .inl hS, _, _, rfl, rfl, _, rfl, ?_⟩
  refine ite2 (fun c => ?_) (fun c => ?_)
  · have c' := of_decide_eq_true c
    rw [List.length_map] at c'
    have hk : k.toNat < ns.length := by omega
    refine ⟨_, rfl, _, rfl, a, _, k, .int ns[k.toNat], rfl, rfl, hS, at_of (j := k.toNat) (by omega) (by rw [List.getElem?_map, List.getElem?_eq_getElem hk] <;> rfl), q _⟩
  · exact q _
end
end Mw

namespace Mw
open PySem L2
section
variable {P : Program} {w : World} {K : PySem.W.Frag} {mg : Str → Option Value} {base : Heap}
/-! ### _law_digits: a new list of ints -/
abbrev sDigits : Stmt := top 22
theorem scDigits : FnScope ["script", "first", "last", "digits", "k", "cell", "turn", "seed"] ["script", "first", "last"] (defScope sDigits) := ⟨rfl, rfl, rfl, by decide +kernel, rfl, by decide +kernel, by decide +kernel⟩
def spDigits (K : PySem.W.Frag) : Sp := fun vs H Q _ => ∃ (a : Addr) (ns : List Int), vs = [.ref a, .int 0, .int 63] ∧ SqL K H a (ns.map V.int) ∧ ∀ (d : Addr) (H' : Hp) (ds : List Int), H d = none → Same H H' → H' d = some (.lst (ds.map V.int)) → Q (.ref d) H'
theorem len_ints (ds : List Int) (z : Int) : ds.map V.int ++ [V.int z] = (ds ++ [z]).map V.int := by simp
theorem ok_digits {f fC : Addr} {fd fdC : FuncData} (F : Fun K "_law_digits" "_law_digits" sDigits f fd) (GC : FnOk P w K mg base CX0 1 fC fdC ["script", "k"] (spCell K)) (bC : Binds K fdC ["script", "k"] []) (kC : PySem.W.keepIn K (.ref fC) = true) (mC : mg "_law_cell" = some (.ref fC)) (mr : mg "range" = none) (mi : mg "int" = none) :
    FnOk P w K mg base CX0 2 f fd ["script", "first", "last"] (spDigits K) := by
  refine F.ok scDigits (fun vs H Q E h => ?_) (fun cdv A outer s H vs Q E hr h => ?_)
  · obtain ⟨a, ns, rfl, _⟩ := h
    rfl
  obtain ⟨a, ns, rfl, hS, q⟩ := h
  have nd := scDigits.nd
  refine ⟨_, pss_cons (ps_set (i := 3) nd rfl (.inl rfl) (pe_lst pa_nil))
    (pss_cons (ps_for PassesOwn.never rfl (pi_range2 rfl mr (pa_cons (pv 1) (pa_cons (pv 2) pa_nil))) (pg_name (i := 4) nd rfl (.inl rfl))
      (pss_cons (ps_set (i := 5) nd rfl (.inl rfl) (pe_call GC hr rfl mC kC bC .nil pass0 (pa_cons (pv 0) (pa_cons (pv 4) pa_nil))))
      (Evl.pss_cut (ps_if (pt_cmpR op_lt (pv 5) pe_int (nomark _)) (pss_one (ps_set (i := 5) nd rfl (.inl rfl) (pe_op op_sub pe_int (pe_op op_mul pe_int (pv 5))))) pss_nil)
      (pss_one (ps_if (pt_cmpR op_ge (pv 5) (pe_op op_pow pe_int pe_int) (nomark _))
        (pss_one (ps_for PassesOwn.never rfl (pi_range1 rfl mr (pa_cons pe_int pa_nil)) (pg_name (i := 6) nd rfl (.inl rfl))
          (pss_one (ps_if (pt_cmpR op_gt (pv 5) pe_int (nomark _))
            (pss_cons (ps_expr (pe_bm PySem.F.plainAttrs_list PySem.F.slot_list_append PySem.F.type_list_append mt_append (pv 3) (pa_cons (pe_op op_mod (pe_callTy call_int1 (by rfl) mi (by decide +kernel) (pa_cons (pv 5) pa_nil)) pe_int) pa_nil)))
            (pss_one (ps_set (i := 5) nd rfl (.inl rfl) (pe_op op_fdiv (pv 5) pe_int)))) pss_nil))))
        (pss_cons (ps_set (i := 7) nd rfl (.inl rfl) (pe_op op_mod (pe_callTy call_int1 (by rfl) mi (by decide +kernel) (pa_cons (pe_op op_add (pe_op op_add (pe_op op_mul (pv 5) pe_int) (pe_op op_mul (pv 4) pe_int)) pe_int) pa_nil)) pe_int))
        (pss_one (ps_for PassesOwn.never rfl (pi_range1 rfl mr (pa_cons pe_int pa_nil)) (pg_name (i := 6) nd rfl (.inl rfl))
          (pss_cons (ps_set (i := 7) nd rfl (.inl rfl) (pe_op op_mod (pe_callTy call_int1 (by rfl) mi (by decide +kernel) (pa_cons (pe_op op_add (pe_op op_add (pe_op op_mul (pv 7) pe_int) (pe_op op_mul pe_int (pv 6))) pe_int) pa_nil)) pe_int))
          (pss_one (ps_expr (pe_bm PySem.F.plainAttrs_list PySem.F.slot_list_append PySem.F.type_list_append mt_append (pv 3) (pa_cons (pe_op op_mod (pe_callTy call_int1 (by rfl) mi (by decide +kernel) (pa_cons (pe_op op_fdiv (pv 7) pe_int) pa_nil)) pe_int) pa_nil)))))))))))))
    (pss_one (ps_ret (pv 3)))), ?_⟩
  refine ⟨Nat.zero_le _, fun d nd0 => ?_⟩
  have s1 : Same H (upd H d (.lst [])) := same_new nd0 _
  refine ⟨_, rfl, _, rfl, 0, 63, rfl, by decide, for_range (lo := 0) (n := (63 - 0 : Int).toNat) (fun i σ H' => ∃ (ds : List Int) (o4 o5 o6 o7 : Option V), σ = [some (.ref a), some (.int 0), some (.int 63), some (.ref d), o4, o5, o6, o7] ∧ Same H H' ∧ H' d = some (.lst (ds.map V.int)) ∧ ds.length ≤ 60 * i)
    ⟨[], none, none, none, none, rfl, s1, upd_same, Nat.le_refl _⟩ ?_ ?_⟩
  · rintro i σ H2 hi ⟨ds, o4, o5, o6, o7, rfl, s2, hd, hl⟩
    refine ⟨_, rfl, _, rfl, a, ns, _, rfl, s2.seq hS, by omega, fun z => ?_⟩
    refine ⟨fun σ' H' => ∃ z' : Int, σ' = [some (.ref a), some (.int 0), some (.int 63), some (.ref d), some (.int (0 + i)), some (.int z'), o6, o7] ∧ H' = H2, ?_, ?_⟩
    · refine ⟨_, rfl, _, _, rfl, rfl, _, rfl, ?_⟩
      refine ite2 (fun _ => ?_) (fun _ => ?_)
      · exact ⟨_, rfl, _, _, rfl, rfl, .inl (by decide), _, _, rfl, rfl, _, rfl, rfl⟩
      · exact ⟨_, rfl, rfl⟩
    · rintro σ' H' ⟨z', rfl, rfl⟩
      refine ⟨_, rfl, _, _, rfl, rfl, (by unfold CPow; decide), _, _, rfl, rfl, _, rfl, ?_⟩
      refine ite2 (fun _ => ?_) (fun _ => ?_)
      · refine ⟨60, rfl, by decide, by decide, for_range (lo := 0) (n := 60) (fun j σ H' => ∃ (ds' : List Int) (z' : Int) (o6 : Option V), σ = [some (.ref a), some (.int 0), some (.int 63), some (.ref d), some (.int (0 + i)), some (.int z'), o6, o7] ∧ Same H H' ∧ H' d = some (.lst (ds'.map V.int)) ∧ ds'.length ≤ 60 * i + j)
          ⟨ds, z', o6, rfl, s2, hd, hl⟩ ?_ ?_⟩
        · rintro j σ H3 hj ⟨ds', z'', o6, rfl, s3, hd3, hl3⟩
          refine ⟨_, rfl, _, _, rfl, rfl, _, rfl, ?_⟩
          refine ite2 (fun _ => ?_) (fun _ => ?_)
          · refine ⟨_, rfl, .inl ⟨rfl, _, SqL.of hd3⟩, _, rfl, .inl ⟨_, rfl, _, _, rfl, rfl, (by show (0 : Int) < 1000; decide), d, _, _, rfl, rfl, hd3, ?_, ?_⟩⟩
            · rw [List.length_map]
              exact Nat.lt_of_lt_of_le (show ds'.length < 100000 by omega) (by decide)
            · refine ⟨_, rfl, _, _, rfl, rfl, ⟨by decide, by decide⟩, ds' ++ [z'' % 1000], _, _, rfl, same_mut s3 nd0 _, ?_, ?_⟩
              · rw [upd_same, len_ints]
              · rw [List.length_append, List.length_singleton]
                omega
          · exact ⟨ds', _, _, rfl, s3, hd3, by omega⟩
        · rintro σ H3 ⟨ds', z'', o6, rfl, s3, hd3, hl3⟩
          exact ⟨ds', _, _, _, _, rfl, s3, hd3, by omega⟩
      · refine ⟨_, rfl, _, _, rfl, rfl, .inr (by decide), _, rfl, _, _, rfl, rfl, .inr (by decide), _, _, rfl, rfl, _, _, rfl, rfl, .inl ⟨_, rfl, _, _, rfl, rfl, (by show (0 : Int) < 2147483647; decide), ?_⟩⟩
        refine ⟨12, rfl, by decide, by decide, for_range (lo := 0) (n := 12) (fun j σ H' => ∃ (ds' : List Int) (z7 : Int) (o6 : Option V), σ = [some (.ref a), some (.int 0), some (.int 63), some (.ref d), some (.int (0 + i)), some (.int z'), o6, some (.int z7)] ∧ Same H H' ∧ H' d = some (.lst (ds'.map V.int)) ∧ ds'.length ≤ 60 * i + j)
          ⟨ds, _, o6, rfl, s2, hd, hl⟩ ?_ ?_⟩
        · rintro j σ H3 hj ⟨ds', z7, o6, rfl, s3, hd3, hl3⟩
          refine ⟨_, rfl, _, _, rfl, rfl, .inr (by decide), _, rfl, _, _, rfl, rfl, .inl (by decide), _, _, rfl, rfl, _, _, rfl, rfl, .inl ⟨_, rfl, _, _, rfl, rfl, (by show (0 : Int) < 2147483647; decide), ?_⟩⟩
          refine ⟨_, rfl, .inl ⟨rfl, _, SqL.of hd3⟩, _, rfl, _, _, rfl, rfl, ⟨by decide, by decide⟩, .inl ⟨_, rfl, _, _, rfl, rfl, (by show (0 : Int) < 1000; decide), d, _, _, rfl, rfl, hd3, ?_, ?_⟩⟩
          · rw [List.length_map]
            exact Nat.lt_of_lt_of_le (show ds'.length < 100000 by omega) (by decide)
          · refine ⟨ds' ++ [((z7 * 16807 + 7 * (0 + (j : Int)) + 1) % 2147483647 / 997) % 1000], _, _, rfl, same_mut s3 nd0 _, ?_, ?_⟩
            · rw [upd_same, len_ints]
            · rw [List.length_append, List.length_singleton]
              omega
        · rintro σ H3 ⟨ds', z7, o6, rfl, s3, hd3, hl3⟩
          exact ⟨ds', _, _, _, _, rfl, s3, hd3, by omega⟩
  · rintro σ H2 ⟨ds, o4, o5, o6, o7, rfl, s2, hd, hl⟩
    exact ⟨_, rfl, q d H2 ds nd0 s2 hd⟩
end
end Mw

namespace Mw
open PySem L2
/-! ### how a heap goes on: all but the box stays, nothing is given up -/
structure Go (B : Addr) (H H' : Hp) : Prop where
  ext : ∀ b o, b ≠ B → H b = some o → H' b = some o
  dom : ∀ b, H' b = none → H b = none
theorem Go.refl (B : Addr) (H : Hp) : Go B H H := ⟨fun _ _ _ h => h, fun _ h => h⟩
theorem Go.trans {B : Addr} {H H1 H2 : Hp} (a : Go B H H1) (b : Go B H1 H2) : Go B H H2 := ⟨fun c o n h => b.ext c o n (a.ext c o n h), fun c h => a.dom c (b.dom c h)⟩
theorem upd_none {H : Hp} {p b : Addr} {o : HO} (h : upd H p o b = none) : H b = none := by
  unfold upd at h
  split at h
  · cases h
  · exact h
theorem Go.new {B : Addr} {H : Hp} {p : Addr} (h : H p = none) (o : HO) : Go B H (upd H p o) := ⟨fun b u _ q => same_new h o b u q, fun b q => upd_none q⟩
theorem Go.mut {B : Addr} {H H' : Hp} {p : Addr} (g : Go B H H') (h : H p = none) (o : HO) : Go B H (upd H' p o) :=
  ⟨fun b u n q => by
    rw [upd_ne (ne_of_none q h)]
    exact g.ext b u n q, fun b q => g.dom b (upd_none q)⟩
theorem Go.box (B : Addr) (H : Hp) (o : HO) : Go B H (upd H B o) := ⟨fun b u n q => by rw [upd_ne n]; exact q, fun b q => upd_none q⟩
theorem Go.same {B : Addr} {H H' : Hp} (s : Same H H') : Go B H H' := ⟨fun b o _ h => s b o h, fun b h => s.free h⟩
/-- what is new in H, seen from H0 -/
def fr (H0 H : Hp) : Hp := fun a => match H0 a with
  | none => H a
  | some _ => none
theorem fr_new {H0 H : Hp} {a : Addr} (h : H0 a = none) : fr H0 H a = H a := by
  unfold fr
  rw [h]
theorem fr_old {H0 H : Hp} {a : Addr} {o : HO} (h : H0 a = some o) : fr H0 H a = none := by
  unfold fr
  rw [h]
theorem fr_in {H0 H : Hp} {a : Addr} {o : HO} (h : fr H0 H a = some o) : H0 a = none ∧ H a = some o := by
  unfold fr at h
  split at h
  · exact ⟨by assumption, h⟩
  · cases h
theorem fr_go {B : Addr} {H0 H1 H2 : Hp} {ob : HO} (hb : H0 B = some ob) (g : Go B H1 H2) : Same (fr H0 H1) (fr H0 H2) := fun a o h => by
  obtain ⟨h0, h1⟩ := fr_in h
  rw [fr_new h0]
  exact g.ext a o (by rintro rfl; rw [hb] at h0; cases h0) h1
theorem fr_same {H0 H1 H2 : Hp} (g : Same H1 H2) : Same (fr H0 H1) (fr H0 H2) := fun a o h => by
  obtain ⟨h0, h1⟩ := fr_in h
  rw [fr_new h0]
  exact g a o h1
theorem fr_mut {H0 H1 : Hp} {l : Addr} {ol : HO} (hl : H0 l = some ol) (o : HO) : Same (fr H0 H1) (fr H0 (upd H1 l o)) := fun a u h => by
  obtain ⟨h0, h1⟩ := fr_in h
  rw [fr_new h0, upd_ne (by rintro rfl; rw [hl] at h0; cases h0)]
  exact h1
theorem fr_dom {H0 H1 H2 : Hp} (g : ∀ b, H1 b = none → H0 b = none) : Same (fr H1 H2) (fr H0 H2) := fun a u h => by
  obtain ⟨h0, h1⟩ := fr_in h
  rw [fr_new (g a h0)]
  exact h1
theorem fr_out {H0 H : Hp} : Same (fr H0 H) H := fun a o h => (fr_in h).2
/-- the box: digits and a place -/
def Box (H : Hp) (B d : Addr) : Prop := ∃ (ds : List Int) (i : Int), H B = some (.lst [.ref d, .int i]) ∧ H d = some (.lst (ds.map V.int)) ∧ 0 ≤ i
theorem Box.isB {H : Hp} {B d : Addr} (b : Box H B d) : ∃ o, H B = some o := by
  obtain ⟨ds, i, h, _⟩ := b
  exact ⟨_, h⟩
theorem Box.isD {H : Hp} {B d : Addr} (b : Box H B d) : ∃ o, H d = some o := by
  obtain ⟨ds, i, _, h, _⟩ := b
  exact ⟨_, h⟩
theorem Box.neB {H : Hp} {B d l : Addr} (b : Box H B d) (h : H l = none) : l ≠ B := by
  obtain ⟨o, hB⟩ := b.isB
  exact (ne_of_none hB h).symm
theorem Box.neD {H : Hp} {B d l : Addr} (b : Box H B d) (h : H l = none) : l ≠ d := by
  obtain ⟨o, hB⟩ := b.isD
  exact (ne_of_none hB h).symm
theorem Box.ne {H : Hp} {B d : Addr} {ds : List Int} {i : Int} (h : H B = some (.lst [.ref d, .int i])) (hd : H d = some (.lst (ds.map V.int))) : d ≠ B := by
  rintro rfl
  rw [h] at hd
  cases ds with
  | nil => cases hd
  | cons z r => cases hd
theorem Box.same {H H' : Hp} {B d : Addr} (s : Same H H') (b : Box H B d) : Box H' B d := by
  obtain ⟨ds, i, h, hd, hi⟩ := b
  exact ⟨ds, i, s _ _ h, s _ _ hd, hi⟩
theorem Box.mut {H : Hp} {B d l : Addr} (b : Box H B d) (hB : l ≠ B) (hd : l ≠ d) (o : HO) : Box (upd H l o) B d := by
  obtain ⟨ds, i, h, hd', hi⟩ := b
  exact ⟨ds, i, by rw [upd_ne hB.symm]; exact h, by rw [upd_ne hd.symm]; exact hd', hi⟩
theorem Box.new {H : Hp} {B d l : Addr} (b : Box H B d) (h : H l = none) (o : HO) : Box (upd H l o) B d := b.mut (b.neB h) (b.neD h) o
section
variable {P : Program} {w : World} {K : PySem.W.Frag} {mg : Str → Option Value} {base : Heap}
/-! ### _law_draw -/
abbrev sDraw : Stmt := top 23
theorem scDraw : FnScope ["box", "many", "at"] ["box", "many"] (defScope sDraw) := ⟨rfl, rfl, rfl, by decide +kernel, rfl, by decide +kernel, by decide +kernel⟩
def spDraw : Sp := fun vs H Q _ => ∃ (B d : Addr) (n : Int), vs = [.ref B, .int n] ∧ 0 < n ∧ Box H B d ∧ ∀ z H', 0 ≤ z → z < n → Go B H H' → Box H' B d → Q (.int z) H'
theorem ok_draw {f : Addr} {fd : FuncData} (F : Fun K "_law_draw" "_law_draw" sDraw f fd) (ml : mg "len" = none) (mi : mg "int" = none) : FnOk P w K mg base CX0 1 f fd ["box", "many"] spDraw := by
  refine F.ok scDraw (fun vs H Q E h => ?_) (fun cdv A outer s H vs Q E hr h => ?_)
  · obtain ⟨B, d, n, rfl, _⟩ := h
    rfl
  obtain ⟨B, d, n, rfl, h0, ⟨ds, i, hB, hd, hi⟩, q⟩ := h
  have nd := scDraw.nd
  refine ⟨_, pss_cons (ps_set (i := 2) nd rfl (.inl rfl) (pe_ix ix_list (pv 0) pe_int (fun _ _ => rfl)))
    (pss_cons (ps_asg (pe_op op_add (pv 2) pe_int) (pg_sub (pv 0) pe_int set_list))
    (pss_cons (ps_if (pt_cmpR op_lt (pv 2) (pe_callB call_len_seq (by rfl) ml PySem.boot_len (pa_cons (pe_ix ix_list (pv 0) pe_int (fun _ _ => rfl)) pa_nil)) (nomark _))
      (pss_one (ps_ret (pe_op op_mod (pe_callTy call_int1 (by rfl) mi (by decide +kernel) (pa_cons (pe_ix ix_list (pe_ix ix_list (pv 0) pe_int (fun _ _ => rfl)) (pv 2) (fun _ _ => rfl)) pa_nil)) (pv 1)))) pss_nil)
    (pss_one (ps_ret pe_int)))), ?_⟩
  have ne : d ≠ B := Box.ne hB hd
  refine ⟨_, rfl, B, _, 1, _, rfl, rfl, SqL.of hB, atI_nat (j := 1) rfl, ?_⟩
  refine ⟨_, rfl, _, _, rfl, rfl, _, rfl, B, _, 1, 1, rfl, rfl, hB, rfl, ?_⟩
  have hB' : upd H B (.lst [.ref d, .int (i + 1)]) B = some (.lst [.ref d, .int (i + 1)]) := upd_same
  have hd' : upd H B (.lst [.ref d, .int (i + 1)]) d = some (.lst (ds.map V.int)) := by rw [upd_ne ne]; exact hd
  have hb : Box (upd H B (.lst [.ref d, .int (i + 1)])) B d := ⟨ds, i + 1, hB', hd', by omega⟩
  refine ⟨_, rfl, _, rfl, B, _, 0, _, rfl, rfl, SqL.of hB', atI_nat (j := 0) rfl, d, _, rfl, .inl (SqL.of hd'), _, _, rfl, rfl, _, rfl, ?_⟩
  refine ite2 (fun c => ?_) (fun c => ?_)
  · have c' := of_decide_eq_true c
    rw [List.length_map] at c'
    have hk : i.toNat < ds.length := by omega
    refine ⟨_, rfl, B, _, 0, _, rfl, rfl, SqL.of hB', atI_nat (j := 0) rfl, _, rfl, d, _, i, .int ds[i.toNat], rfl, rfl, SqL.of hd', at_of (j := i.toNat) (by omega) (by rw [List.getElem?_map, List.getElem?_eq_getElem hk] <;> rfl), .inl ⟨_, rfl, _, rfl, _, _, rfl, rfl, h0, ?_⟩⟩
    exact q _ _ (Int.emod_nonneg _ (by omega)) (Int.emod_lt_of_pos _ h0) (Go.box B H _) hb
  · exact q 0 _ (by omega) h0 (Go.box B H _) hb
theorem pick {α : Type} {l : List α} {g : α → V} {z : Int} (h0 : 0 ≤ z) (h : z < (l.length : Int)) : ∃ x, x ∈ l ∧ atI (l.map g) z = some (g x) := by
  have hk : z.toNat < l.length := by omega
  exact ⟨l[z.toNat], List.getElem_mem hk, at_of (j := z.toNat) (by omega) (by rw [List.getElem?_map, List.getElem?_eq_getElem hk] <;> rfl)⟩
end
end Mw

/-! an __init__ whose first statement is super().__init__(..), of an own class below ValueError -/
namespace Sx
open PySem PySem.Spec PyProof.Rows L2 NdefX
/-- what the row says of the class at C (the cell cc holds it) and of its __init__ at f -/
structure Sup (P : Program) (K : PySem.W.Frag) (mg : Str → Option Value) (C cc cda f : Addr) (F : NF) (ps : List Str) : Prop where
  T : OexC K C
  fn : ∃ (dV kV doc pm ct oc : Value) (an od : Option Addr) (osl : Array (Option Value)), K.lookup f = some ⟨oc, od, .func (PySem.W.fnX F.name F.qual F.params F.body F.scope F.cl dV kV doc pm an (.ref F.c) ct), osl⟩
  cl : F.cl = [(("__class__" : Str), cc)]
  fc : F.c = cda
  cd : PySem.W.codeIn K (.ref cda) F.qual = true
  ar : ∃ ar : Arg, (F.params.posonlyargs ++ F.params.args).head? = some ar ∧ ps[0]? = some ar.arg
  code : ∃ (ccl : Value) (cdd : Option Addr) (vs : Array Value) (ccs : Array (Option Value)) (file : Str) (tf : Tok), K.lookup cda = some ⟨ccl, cdd, .fields vs, ccs⟩ ∧ vs[2]? = some (.str file tf) ∧ ((P.main.file : Str) == file) = true
  cell : ∃ (c1 : Value) (d1 : Option Addr) (s1 : Array (Option Value)), K.lookup cc = some ⟨c1, d1, .cell (some (.ref C)), s1⟩
  isC : ∃ cd, PySem.W.clsIn K C = some cd
  sub : PySem.W.mroIn K C (.ref C) = some true
  gs : mg "super" = none
  ks : F.scope.names.lookup ("super" : Str) = some .globalImplicit
  top : (P.main.scope.names.lookup ("super" : Str)).isSome = false
  sm : PySem.W.ks_superIn K C C "__init__" = some (some (.builtin "ValueError.__init__"))
  opq : PySem.W.nsIn K cStatics "thirdparty.any" = some none
  isV : PySem.W.subIn K (.ref C) (.type "ValueError") = some true
section
variable {M : Model} {A : Around} {E : Value → Shared → Prop} {h : Heap} {g : Array GenState} {d : Drawn} {t : Nat} {os : OsState}
variable {nm q : Str} {C N : Addr} {bs bm : List Value} {hdct : Bool} {sn : List Str} {sub : List Value} {ab : Bool} {col : Option Bool} {dd : Option Addr} {k0 k1 k2 k3 k5 : Option Value}
theorem cw_mw {pos : Pos} {u x : Addr} {i : String} {env : Env} {e : Expr} {es : List Expr} {s : Shared} {Q : Value → Shared → Prop} (he : starEach (e :: es) env = (false, eval e env) :: starEach es env) (hpl : (backTo pos (starEach es env)).any (·.1) = false)
    (h : wpAny M A (spliced (backTo pos (starEach (e :: es) env))) (fun vs s1 => PySem.W.KxsAt i u x s1.heap ∧ wpAny M A (call (.ref u) vs) Q E s1) E s) : wpAny M A (callWith pos (.ref u) [] (backTo pos (starEach (e :: es) env)) []) Q E s := by
  have hb : (backTo pos (starEach (e :: es) env)).any (·.1) = false := by
    rw [he]
    show (false || (backTo pos (starEach es env)).any (·.1)) = false
    rw [hpl]
    rfl
  refine PySem.W.kxs_callWith (i := i) (x := x) hb ?_
  rw [he] at h ⊢
  exact Calls.evalArgs_plain h
theorem call_mw {P : Program} {w : World} {u e t0 : Addr} {us : List Value} {Q : Value → Shared → Prop} (hC : h.get? C = some (excClassObj nm q C N bs bm hdct sn sub ab col dd k0 k1 k2 k3 k5 "ValueError.__new__"))
    (he : h.get? e = some (HandSPX.excO C t0)) (hu : h.get? u = some (PySem.W.kxs_mw "ValueError.__init__" e)) (hl : us.length ≤ sizeLine)
    (hq : ∀ h' t1, (∀ b o, b ≠ e → h.get? b = some o → h'.get? b = some o) → h'.get? e = some (HandSPX.excO C t1) → Q .none ⟨h', g, d, t, os⟩) : wpAny (model P w) A (call (.ref u) us) Q E ⟨h, g, d, t, os⟩ := by
  refine wpAny_call (codeAny_of_tree ?_)
  show wpAny (model P w) A.in1 (callAny (Value.ref u) ⟨us, []⟩) _ _ _
  simp only [callAny]
  refine wpAny_bind (wpAny_load hu ?_)
  have tw : (Value.type "method-wrapper" == Value.type "method" || Value.type "method-wrapper" == Value.type "builtin_function_or_method" || Value.type "method-wrapper" == Value.type "method-wrapper") = true := by decide
  simp only [PySem.W.kxs_mw, tw, if_true]
  refine PySem.W.KFB.if_so (by decide) ?_
  refine wpAny_bind (PySem.W.check_bound_init F.excBase_ValueError.toExcCallFacts hC he rfl ?_)
  refine wpAny_bind (wpAny_pure (wpAny_pure ?_))
  refine ⟨plainId_quiet F.excBase_ValueError.init.plain _, codeAny_builtin F.excBase_ValueError.initEntry ?_⟩
  rw [Around.under_plainId F.excBase_ValueError.init.plain _]
  refine PySem.W.exc_init_tree (cls := .ref C) (t0 := t0) (dv := none) (c2 := .none) (c3 := .none) (b4 := .bool false) he hl (fun h' k e' _ => ?_)
  exact hq h' _ k e'
end
section
variable {CX : CXT} {P : Program} {w : World} {K : PySem.W.Frag} {mg : Str → Option Value} {base : Heap} {C cc cda f : Addr} {F : NF} {N ps : List Str} {k : Nat} {sp : Sp} {body rest : List Stmt} {p0 p1 p2 p3 p4 : Pos} {e : Expr} {es : List Expr}
theorem fn_super {dV kV doc pm ct : Value} {an : Option Addr} {oc : Value} {od : Option Addr} {osl : Array (Option Value)} (U : Sup P K mg C cc cda f F ps) (lk : K.lookup f = some ⟨oc, od, .func (PySem.W.fnX F.name F.qual F.params F.body F.scope F.cl dV kV doc pm an (.ref F.c) ct), osl⟩)
    (S : NScope N ps ["__class__"] F.scope)
    (hbd : F.body = .Expr (.Call (.Attribute (.Call (.Name "super" p0) [] [] p1) "__init__" p2) (e :: es) [] p3) p4 :: rest)
    (len : ∀ vs H Q E, sp vs H Q E → vs.length = ps.length)
    (he : ∀ env, starEach (e :: es) env = (false, eval e env) :: starEach es env) (hpl : ∀ env, (backTo p3 (starEach es env)).any (·.1) = false)
    (hev : ∀ env, eval (.Call (.Attribute (.Call (.Name "super" p0) [] [] p1) "__init__" p2) (e :: es) [] p3) env = (do
      let ov ← attributeBase (.Call (.Name "super" p0) [] [] p1) "__init__" env (eval (.Call (.Name "super" p0) [] [] p1) env)
      standAt p2.atName
      let (f, first) ← holding [ov] (getMethod ov "__init__" (pure false))
      callWith p3 f first (backTo p3 (starEach (e :: es) env)) []))
    (hin : ∀ env : Env, env.scope = F.scope → interactive env = false)
    (hsw : ∀ env : Env, swapsWith (.Call (.Attribute (.Call (.Name "super" p0) [] [] p1) "__init__" p2) (e :: es) [] p3) none p4.line env = pure false)
    (hbody : ∀ (A : Around) (outer : List Env) (s : Shared) (H : Hp) (vs : List V) (Q : VK) (E : XK), Room k (A.deeper (envF F f s.heap.objs.size)) → sp vs H Q E →
      ∃ (x : Addr) (ta : TA) (t : TS), vs[0]? = some (.ref x) ∧ H x = some (exo x C none) ∧ PA (ncx CX P w K mg base N F f A outer s H E) (e :: es) ta ∧ PSs (ncx CX P w K mg base N F f A outer s H E) rest t ∧
        ta (startF N vs [none]) H fun us H1 => us.length ≤ 1000 ∧ H1 x = some (exo x C none) ∧ t { nx := fun _ H' => Q .non H', rt := Q } (startF N vs [none]) H1) :
    FnOk P w K mg base CX (k + 1) f (PySem.W.fnX F.name F.qual F.params F.body F.scope F.cl dV kV doc pm an (.ref F.c) ct) ps sp := by
  refine ⟨len, fun A outer s H args us vs Q E hr e0 hb r hsp => ?_⟩
  have hl := len _ _ _ _ hsp
  have KX : K.In s.heap := e0.mod.kin.keeps fun b o z => (e0.bs b o z).1
  have lim : s.heap.NoLimit := e0.mod.nolimit.keeps fun b o z => (e0.bs b o z).1
  obtain ⟨ar, ha1, ha2⟩ := U.ar
  obtain ⟨ccl, cdd, cvs, ccs, file, tf, hco, hv2, hfi⟩ := U.code
  obtain ⟨c1, d1, s1, hce⟩ := U.cell
  obtain ⟨cdC, hcC⟩ := U.isC
  have hfc := U.fc
  subst hfc
  refine PySem.ks_codeAny_call_defAt (fd := PySem.W.fnX F.name F.qual F.params F.body F.scope F.cl dV kV doc pm an (.ref F.c) ct) hr.depth (KX _ _ lk) rfl lim (PySem.W.codeRec_of KX U.cd) rfl hb S.nocell (fun ⟨n, _⟩ hy => S.par n (List.of_mem_zip hy).1) (fun h₁ hns kp => ?_) S.co S.gen S.kind
  show PySem.wpAt (model P w) (A.deeper (envF F f s.heap.objs.size)) (.func F.body (envF F f s.heap.objs.size)) (execs F.body (envF F f s.heap.objs.size)) _ _ _
  obtain ⟨x, ta, t, hx0, hHx, hA, hS, hq⟩ := hbody A outer s H vs Q E (hr.deeper _) hsp
  have CA : CellsAt F.cl ["__class__"] [none] s.heap H := by
    have hcb := e0.bs cc _ (e0.mod.kin _ _ hce)
    rw [U.cl]
    refine ⟨rfl, fun y c z => ?_, fun y z c a b => ?_, fun i y hy => ?_⟩
    · have : y = "__class__" ∧ c = cc := by
        simp only [List.lookup] at z
        split at z
        · rename_i q
          exact ⟨by simpa using q, (Option.some.inj z).symm⟩
        · cases z
      rw [this.2]
      exact ⟨hcb.2, _, ⟨_, hcb.1, rfl⟩⟩
    · simp only [List.lookup] at a b
      split at a
      · split at b
        · rename_i q1 _ q2
          rw [show y = "__class__" by simpa using q1, show z = "__class__" by simpa using q2]
        · cases b
      · cases a
    · have : y = "__class__" := by
        cases i with
        | zero => exact (Option.some.inj hy).symm
        | succ i => simp at hy
      subst this
      refine ⟨cc, by simp [List.lookup], fun v hv => ?_⟩
      cases i with
      | zero => cases hv
      | succ i => simp at hv
  have I : Inv (ncx CX P w K mg base N F f A outer s H E) [] (startF N vs [none]) H { s with heap := h₁, toks := s.toks + (ps.zip us).length } := inv_startN S hr.hd e0 hl r CA hns kp
  have KX1 : K.In h₁ := KX.keeps kp
  have hkc : F.scope.names.lookup ("__class__" : Str) = some .free := S.frk _ List.mem_cons_self
  have npar : ps.Nodup := by
    have q := S.pre
    have z : (N.take (ps.length + [("__class__" : Str)].length)).Nodup := S.nd.sublist (List.take_sublist _ N)
    rw [q] at z
    exact (List.nodup_append.mp z).1
  have hux : us[0]? = some (.ref x) := by
    cases r with
    | nil => simp at hx0
    | @cons v0 u0 vr ur rv rr =>
      simp at hx0
      subst hx0
      obtain rfl : u0 = Value.ref x := rv
      rfl
  have hself : (ps.zip us).reverse.lookup ar.arg = some (.ref x) := zip_look npar ha2 hux
  have hka : F.scope.names.lookup ar.arg = some .local := S.par _ (List.mem_of_getElem? ha2)
  obtain ⟨t1, hox⟩ := exo_at I.hok hHx
  have hox' : h₁.get? x = some (HandSPX.excO C t1) := hox
  rw [hbd]
  obtain ⟨sh, sg, sd, st, so⟩ := s
  have hi := hin (envF F f sh.objs.size) rfl
  refine PySem.ks_wpAt_execs_cons (PySem.ks_wpAt_Expr_any (PySem.ks_wpAt_MethodCall (pl := pure false) ?_ (hev _)) hi (hsw _))
  obtain ⟨oD, hD1, hD2⟩ : ∃ oD, h₁.get? C = some oD ∧ oD.data = .cls cdC := by
    unfold PySem.W.clsIn at hcC
    split at hcC
    · rename_i c d cd' sl ho
      cases hcC
      exact ⟨_, KX1 _ _ ho, rfl⟩
    · cases hcC
  refine PySem.ks_wpAt_super_base (env := envF F f sh.objs.size) U.ks hkc (by decide) rfl (KX1 _ _ lk) rfl ha1 rfl (KX1 _ _ hco) rfl hv2 hfi U.top ?_
  obtain ⟨mb, hb1, hb2⟩ := I.mod.blt
  refine PySem.W.ks_loadName_global S.kind U.ks (Calls.loadGlobal_builtin (I.mod.glob.keeps I.bk) U.gs (hb1.keeps I.bk) ((hb2 "super" (by decide)).trans PyProof.Rows.Boot.«super») ⟨rfl, ?_⟩)
  refine wpAny_loadName_free S.kind hkc (c := cc) (by show F.cl.lookup _ = _; rw [U.cl]; rfl) ⟨_, KX1 _ _ hce, rfl⟩ ?_
  refine wpAny_loadName_local S.kind hka hns hself ?_
  refine PySem.ks_wpAny_isType_cls hD1 hD2 ⟨rfl, ?_⟩
  refine PySem.ks_wpAny_call_super hD1 hD2 hox' rfl (fun c z => by cases z) (PySem.W.looks_mroIn KX1 U.sub) (fun h2 es2 k2 => ?_)
  have KX2 : K.In h2 := KX1.keeps k2
  have IA : PySem.W.InstAt h2 x (HandSPX.excO C t1) C none := ⟨k2 _ _ hox', rfl, rfl, trivial⟩
  have hII : PySem.W.Looks (model P w) h2 (isInstance (.ref x) (.type "ValueError")) true := IA.type.andThen (PySem.W.looks_subIn KX2 U.isV)
  have hm := U.sm
  unfold PySem.W.ks_superIn at hm
  rw [hcC] at hm
  refine PySem.W.kxs_getMethod PySem.W.kxs_ValueError es2 (PySem.W.looks_opaque KX2 U.opq) (l₀ := cdC.mro) ?_ rfl KX2 hm hII (PySem.W.ks_ne KX2 IA hcC) (by decide) ?_
  · exact fun A Q E s k q => wpAny_bind ((PySem.W.looks_clsIn KX2 hcC) A _ E s k (wpAny_pure q))
  have hu : (h2.push (PySem.W.kxs_mw "ValueError.__init__" x)).get? h2.objs.size = some (PySem.W.kxs_mw "ValueError.__init__" x) := Heap.get?_push_size _ rfl
  have k3 : ∀ b o, h₁.get? b = some o → (h2.push (PySem.W.kxs_mw "ValueError.__init__" x)).get? b = some o := fun b o z => Heap.get?_push_of_some _ (k2 b o z)
  have I3 : Inv (ncx CX P w K mg base N F f A outer ⟨sh, sg, sd, st, so⟩ H E) [] (startF N vs [none]) H ⟨h2.push (PySem.W.kxs_mw "ValueError.__init__" x), sg, sd, st + (ps.zip us).length + 1, so⟩ := I.kept (t' := st + (ps.zip us).length + 1) k3
  have I2 : Inv (ncx CX P w K mg base N F f A outer ⟨sh, sg, sd, st, so⟩ H E) [] (startF N vs [none]) H ⟨h2, sg, sd, st + (ps.zip us).length, so⟩ := I.kept (t' := st + (ps.zip us).length) k2
  have I4 : Inv (ncx CX P w K mg base N F f A outer ⟨sh, sg, sd, st, so⟩ H E) [(h2.objs.size, PySem.W.kxs_mw "ValueError.__init__" x)] (startF N vs [none]) H ⟨h2.push (PySem.W.kxs_mw "ValueError.__init__" x), sg, sd, st + (ps.zip us).length + 1, so⟩ :=
    I3.pins_of fun p hp => by
      rw [List.mem_singleton] at hp
      subst hp
      exact ⟨hu, I2.hok.fresh (Nat.le_refl _), fun z => absurd I2.lt (by rw [← z]; exact Nat.lt_irrefl _), I2.nofs (Nat.le_refl _), fun v z => by cases z⟩
  refine cw_mw (i := "ValueError.__init__") (x := x) (he _) (hpl _) ?_
  refine thn (hA.run p3 _ _ _ H _ (I4.tok _) hq) fun us2 s2 hz => ?_
  obtain ⟨vs2, H2, J, r2, hl2, hx2, ht2⟩ := hz
  obtain ⟨hpu, _⟩ := J.pin (h2.objs.size, PySem.W.kxs_mw "ValueError.__init__" x) (List.mem_append_right _ List.mem_cons_self)
  refine ⟨hpu, ?_⟩
  obtain ⟨nm, q, NN, bs, bm, sn, sub, ab, col, dd, k0, k1, kk2, kk3, k5, hCl, hbm⟩ := U.T.cls
  obtain ⟨t2, ho2⟩ := exo_at J.hok hx2
  have hlen2 : us2.length ≤ sizeLine := by
    rw [← Paired.length r2, sizeLine_eq]
    omega
  obtain ⟨hp2, g2, d2, tk2, os2⟩ := s2
  refine call_mw (J.kIn _ _ hCl) ho2 hpu hlen2 fun h' t3 k3 hx3 => ?_
  have J1 := J.write (t' := tk2) (x := x) (e := x) (o := exo x C none) (by rw [hx2]; exact True.intro) (.inl rfl) k3 ⟨_, hx3⟩ (exo_ok hx3)
  have eu : upd H2 x (exo x C none) = H2 := by
    funext b
    by_cases hb : b = x
    · rw [hb, upd_same, hx2]
    · rw [upd_ne hb]
  rw [eu] at J1
  have J2 := J1.pins_of (pins' := []) fun p hp => absurd hp (by simp)
  refine PySem.wpAt_of_wpAny (wpAny_mono (hS.run [] _ (startF N vs [none]) H2 _ J2 ht2) (fun fl s' hs => ?_) fun e s' hs => hs)
  cases fl with
  | ret u =>
    obtain ⟨v, σ', H', G, rv, q⟩ := hs
    exact ⟨v, H', G.os, G.bare, G.base, G.hok, rv, q⟩
  | next =>
    obtain ⟨σ', H', G, q⟩ := hs
    exact ⟨V.non, H', G.os, G.bare, G.base, G.hok, rfl, q⟩
  | brk => exact hs.elim fun _ z => z.elim fun _ z => False.elim z.2
  | cont => exact hs.elim fun _ z => z.elim fun _ z => False.elim z.2
end
end Sx

namespace Mw
open PySem L2 NdefX Sx
theorem slen (a b : Str) : (a ++ b).length = a.length + b.length := by
  show (a.cps ++ b.cps).size = _
  rw [Array.size_append]
  rfl
/-! ### LineError.__init__ -/
def mth (s : Stmt) (i : Nat) : Stmt := match s with
  | .ClassDef _ _ _ b _ _ _ _ _ _ _ => b.getD i (.Pass ⟨0, 0, 0, 0⟩)
  | s => s
abbrev sLe : Stmt := mth (top 2) 0
abbrev nLe (cc cda : Addr) : NF := ⟨"__init__", "LineError.__init__", defArgs sLe, defBody sLe, defScope sLe, [("__class__", cc)], cda⟩
theorem scLe : NScope ["self", "line", "__class__"] ["self", "line"] ["__class__"] (defScope sLe) := nscope_by (by decide +kernel)
theorem small_log {n : Int} (h : 0 ≤ n) (h2 : n ≤ 100) : n.natAbs.log2 < 1920 := by
  have h3 : n.natAbs < 2 ^ 7 := by omega
  by_cases e : n.natAbs = 0
  · rw [e]
    decide
  · have := (Nat.log2_lt e).mpr h3
    omega
theorem small_txt : ∀ n : Nat, n ≤ 100 → ((toString (n : Int) : Str)).length ≤ 3 := by decide +kernel
def spLe (C : Addr) : Sp := fun vs H Q _ => ∃ (x : Addr) (n : Int), vs = [.ref x, .int n] ∧ 0 ≤ n ∧ n ≤ 100 ∧ H x = some (exo x C none) ∧ ∀ dx, H dx = none → dx ≠ x → Q .non (upd (upd H dx (exd dx [("line", .int n)])) x (exo x C (some dx)))
section
variable {P : Program} {w : World} {K : PySem.W.Frag} {mg : Str → Option Value} {base : Heap}
theorem ok_le {CX : CXT} {C cc cda f : Addr} {dV kV doc pm ct oc : Value} {an od : Option Addr} {osl : Array (Option Value)} (U : Sup P K mg C cc cda f (nLe cc cda) ["self", "line"]) (no : PySem.W.findIn K (.ref C) "line" = some none)
    (lk : K.lookup f = some ⟨oc, od, .func (PySem.W.fnX "__init__" "LineError.__init__" (defArgs sLe) (defBody sLe) (defScope sLe) [("__class__", cc)] dV kV doc pm an (.ref cda) ct), osl⟩) :
    FnOk P w K mg base CX 1 f (PySem.W.fnX "__init__" "LineError.__init__" (defArgs sLe) (defBody sLe) (defScope sLe) [("__class__", cc)] dV kV doc pm an (.ref cda) ct) ["self", "line"] (spLe C) := by
  refine fn_super (k := 0) (F := nLe cc cda) U lk scLe rfl (fun vs H Q E h => ?_) (fun _ => rfl) (fun _ => rfl) (fun _ => rfl) (fun env h => by unfold interactive; rw [h]; rfl) (fun _ => rfl) (fun A outer s H vs Q E hr h => ?_)
  · obtain ⟨x, n, rfl, _⟩ := h
    rfl
  obtain ⟨x, n, rfl, h0, h1, hx, q⟩ := h
  refine ⟨x, _, _, rfl, hx, pa_cons (pe_joined (.cons pe_str (.cons (pe_fmt (pv 1)) (.cons pe_str .nil)))) pa_nil, pss_one (ps_ost (pv 0) (pv 1)), ?_⟩
  have e1 : (Str.empty ++ ("line " : Str)).length ≤ 40 := by decide +kernel
  have e2 : (" of the language breaks a rule" : Str).length ≤ 40 := by decide +kernel
  have e3 : (toString n : Str).length ≤ 3 := by
    have := small_txt n.toNat (by omega)
    rw [Int.toNat_of_nonneg h0] at this
    exact this
  refine ⟨_, rfl, Nat.le_trans e1 (by decide), _, rfl, .inr ⟨n, rfl, small_log h0 h1, _, rfl, ?_, _, rfl, ?_, by show 1 ≤ 1000; decide, hx, ?_⟩⟩
  · rw [slen]
    exact Nat.le_trans (Nat.add_le_add e1 e3) (by decide)
  · rw [slen, slen]
    exact Nat.le_trans (Nat.add_le_add (Nat.add_le_add e1 e3) e2) (by decide)
  · exact ⟨_, rfl, _, rfl, x, C, rfl, U.T, no, .inl ⟨hx, q⟩⟩
end
end Mw

/-! An exception out of a comprehension: it is in the air of the block, is noted, its names are let go, and it is in the air of the def. -/
namespace Ca
open PySem PySem.Spec PyProof.Rows L2
/-- an exception e in the air of X, a frame L may hold it; EW: its class, its dict, the heap behind it -/
def Air (X : Cx) (L : Addr) (EW : XK) (u : Value) (s' : Shared) : Prop :=
  ∃ (e : Addr) (G : Heap) (t : Shared) (ps : List (Addr × Obj)) (σ : L2.St) (H : Hp) (c : Value) (d : Option Addr), (u = .ref e ∧ EW c d H ∧ H e = none) ∧ Inv X ps σ H t ∧ t.heap.UpToSlots s'.heap ∧
    (s'.os = t.os ∧ AllBare s'.gens) ∧ Sky G X.stack e (Zc c d) L s'.heap ∧ ∀ b o, b ∉ frs X.stack → t.heap.get? b = some o → G.get? b = some o
def TakesA (X : Cx) (L : Addr) (EW : XK) : Prop := ∀ u s', Air X L EW u s' → X.xe u s'
section
variable {X : Cx} {L : Addr} {EW : XK} {u : Value} {s s' : Shared} {pins : List (Addr × Obj)} {σ : L2.St} {H : Hp}
theorem Air.xe (x : Air X X.env.locals EW u s') : XE X (fun c d _ H => EW c d H) u s' := by
  obtain ⟨e, G, t, ps, σ, H, c, d, ⟨hu, hw, hn⟩, I, up, ⟨os, ag⟩, sky, nb⟩ := x
  exact ⟨e, G, t, ps, σ, H, c, d, hu, I, fun b o h1 h2 => nb b o h2 h1, up, sky, hn, os, ag, hw⟩
theorem takesA_of (tk : Takes X (fun c d _ H => EW c d H)) : TakesA X X.env.locals EW := fun u s' x => tk u s' x.xe
/-- a call's exception flies: no frame of the caller holds it yet -/
theorem air_call (I : Inv X pins σ H s) (c : L2.CX X.prog X.w X.stack H s EW u s') : Air X L EW u s' := by
  obtain ⟨a, B, sI, ps, σ', H', cls, d, hu, I', nb, up, sky, na, os, ag, w⟩ := XE.of_call (W := fun c d _ H => EW c d H) I (fun _ _ _ h => h) c
  obtain ⟨a0, B0, _, _, _, hu0, ⟨_, _, _, fl⟩, _⟩ := c
  rw [hu] at hu0
  cases hu0
  obtain ⟨oe0, vs0, T0, oT0, ts0, g1, _, g2, g3, _, _, g4, g5, g6⟩ := fl
  refine ⟨a, B, sI, ps, σ', H', cls, d, ⟨hu, w, na⟩, I', up, ⟨os, ag⟩, ?_, fun b o h1 h2 => nb b o h2 h1⟩
  rcases sky with ⟨_, _, _, oe, vs, h1, _, h2, h3⟩ | fl | ⟨_, _, _, oe, vs, T, oT, ts, h1, _, h2, h3, _, _, h4, h5, h6⟩
  · rw [g1] at h1
    cases h1
    rw [g2] at h2
    cases h2
    rw [g3] at h3
    cases h3
  · exact .inr (.inl fl)
  · rw [g1] at h1
    cases h1
    rw [g2] at h2
    cases h2
    rw [g3] at h3
    cases h3
    rw [g4] at h4
    cases h4
    rw [g5] at h5
    cases h5
    rw [g6] at h6
    cases h6
theorem passA (tk : TakesA X L EW) : Passes (L2.CX X.prog X.w) X EW := fun _ _ _ _ _ s' I c => tk _ s' (air_call I c)
end
end Ca

namespace Ca
open PySem PySem.Spec PyProof.Rows L2
theorem hid_none {h : Heap} {b C : Addr} (e : h.get? b = none) : (PySem.W.hideAll h [C]).get? b = none := by
  cases q : (PySem.W.hideAll h [C]).get? b with
  | none => rfl
  | some o =>
    have z := PySem.W.of_hideAll _ q
    rw [e] at z
    cases z
theorem hid_in {h : Heap} {b C : Addr} {o : Obj} (q : (PySem.W.hideAll h [C]).get? b = some o) : b ≠ C ∧ h.get? b = some o := by
  refine ⟨fun e => ?_, PySem.W.of_hideAll _ q⟩
  rw [e, PySem.W.hideAll_none _ (List.mem_singleton.mpr rfl)] at q
  cases q
theorem hid_of {h : Heap} {b C : Addr} {o : Obj} (e : h.get? b = some o) (n : b ≠ C) : (PySem.W.hideAll h [C]).get? b = some o := PySem.W.hideAll_get _ e (by simpa using n)
/-- out of the block: noted, the names let go, in the air of the def -/
theorem air_out {X : Cx} {L : Addr} {EW : XK} {E : Value → Shared → Prop} {u : Value} {s3 s' : Shared} {pins : List (Addr × Obj)} {σ : L2.St} {H3 : Hp} {scope : Scope} {ce envD : Env} {outD : List Env} {fp : List Addr}
    (hs : X.stack = envD :: outD) (hfD : envD.frame = some L) (hce : ce.frame = some L) (I3 : Inv X pins σ H3 s3) (f3 : ∀ b ∈ fp, FpOk X pins H3 b) (hC : s3.heap.objs.size ≤ ce.locals) (tk : TakesA X L EW)
    (x : Air ((X.blk s3 H3 scope ce fp).wish E) L EW u s') : notedBy (model X.prog X.w) X.A ce (CompFails (model X.prog X.w) X.A X.xe ce) u s' := by
  obtain ⟨a, G, t, ps, σ', H', c, d, ⟨rfl, hw, hn⟩, I, up, ⟨os, ag⟩, sky, nb⟩ := x
  have hfr : X.A.frames = some (envD :: outD) := by rw [← hs]; exact I3.ok.frames
  have sky' : Sky G (envD :: outD) a (Zc c d) L s'.heap := by rw [← hs]; exact sky
  have main : ∀ h1, HandSPX.HeldZ G (envD :: outD) a (Zc c d) L h1 → s'.heap.UpToSlots h1 → CompFails (model X.prog X.w) X.A X.xe ce (.ref a) { s' with heap := h1 } := by
    intro h1 hh up1
    obtain ⟨m, hm, _⟩ := I.loc
    have hm1 : h1.Ns ce.locals m := (up.trans up1).ns hm
    refine ⟨m, hm1, fun h2 m2 hn2 sb => ?_⟩
    obtain ⟨k1, k2, k3, oe, vs, T, oT, ts, e1, e2, e3, e4, e5, e6, e7, e8, e9⟩ := hh
    obtain ⟨oC, es, ep, eC, dC, _⟩ := id hm1
    have aC : a ≠ ce.locals := fun z => by
      rw [z, eC] at e1
      cases e1
      rw [dC] at e3
      cases e3
    have TC : T ≠ ce.locals := fun z => by
      rw [z, eC] at e7
      cases e7
      rw [dC] at e8
      cases e8
    have a2 : h2.get? a = some oe := (sb.2 a aC).trans e1
    have T2 : h2.get? T = some oT := (sb.2 T TC).trans e7
    have gs : (PySem.W.hideAll G [ce.locals]).StaysIn h2 := fun b o hb => by
      obtain ⟨n, q⟩ := hid_in hb
      exact (sb.2 b n).trans (k1 b o q)
    have tr : HandSPX.TracedZ h2 (PySem.W.hideAll G [ce.locals]) a (Zc c d) (rawInt L) := ⟨oe, vs, T, oT, ts, a2, e2, e3, e4, hid_none e5, e6, T2, e8, e9⟩
    have ff : h2.FunFrames (PySem.W.hideAll G [ce.locals]) (envD :: outD) := funFrames_none (Heap.FunFrames.sameBut sb hn2 k3) fun b hb => hid_none (k3.mem hb).1
    unfold PySem.passOn
    refine wpAny_bind (wpAny_field a2 e3 e4 ?_)
    rw [if_neg (show ¬ ((Value.ref T == Value.none) = true) from by simp)]
    rw [hce]
    refine wpAny_bind (HandSPX.setFlight_anyZ gs ff tr fun h3 b3 f3' t3 up3 => ?_)
    refine wpAny_throw (tk _ _ ?_)
    have IX : Inv X pins σ H' t := I3.call' (ch := fp) I.os I.base I.hok I.bare fun b hb => ⟨(f3 b hb).2.2.2.1, (f3 b hb).2.1, (f3 b hb).2.2.2.2.1, (f3 b hb).2.2.2.2.2⟩
    have fC : FpOk X pins H' ce.locals := I3.fpOk hC I.free
    have IX' : Inv X pins σ H' { t with heap := PySem.W.hideAll t.heap [ce.locals], toks := t.toks } := IX.turned (fun b o hb e => hid_of e hb) fC.1 fC.2.1 fC.2.2.2.1 fC.2.2.2.2.1 fC.2.2.2.2.2
    refine ⟨a, PySem.W.hideAll G [ce.locals], _, pins, σ, H', c, d, ⟨rfl, hw, hn⟩, IX', ?_, ⟨os, ag⟩, .inr (.inr (by rw [hs]; exact ⟨b3, hid_none k2, f3', t3⟩)), fun b o hb e => ?_⟩
    · intro b o e hnf
      obtain ⟨n, q⟩ := hid_in e
      obtain ⟨sl, q1⟩ := (up.trans up1) b o q hnf
      have q2 : h2.get? b = some { o with slots := sl } := (sb.2 b n).trans q1
      exact up3 b { o with slots := sl } q2 hnf
    · obtain ⟨n, q⟩ := hid_in e
      exact hid_of (nb b o hb q) n
  show wpAny _ X.A (noteFrame (.ref a) ce) _ _ s'
  rw [noteFrame_env _ (hce.trans hfD.symm)]
  rcases sky' with ⟨hB, hn0, hl, oe, vs, he, hz, hd, h1⟩ | fl | hh
  · exact HandSPX.look_newZ Zc.steady hfr hl hfD he hB hn0 hd h1 hz main
  · exact HandSPX.looks_onZ Zc.steady hfr hfD fl main
  · exact HandSPX.againZ hfD hh.2.2.2 (main s'.heap hh (Heap.UpToSlots.refl _))
end Ca

namespace Ca
open PySem PySem.Spec PyProof.Rows L2
variable {X : Cx}
theorem lcX_core {pins : List (Addr × Obj)} {s : Shared} {σ : L2.St} {H : Hp} {Q : VK} {pos' : Pos} {use : Option (Value → Sem Unit)} {Qf : Value → Shared → Prop} {L : Addr} {EW : XK} {envD : Env} {outD : List Env} {elt tg iter : Expr} {ifs : List Expr} {scope : Scope} {own : List (Str × Nat)} {pos : Pos} {wi : TI} {g : TG} {tt : TT} {te : TE}
    (hc : X.calm = true) (hst : X.stack = envD :: outD) (hfD : envD.frame = some L) (hfX : X.env.frame = some L) (tk : TakesA X L EW) (hN : X.N.Nodup) (hi : PI X tg iter wi) (ok : BlkOk X.N X.env.scope scope own)
    (hg : ∀ (sh : Shared) (Hb : Hp) (C : Addr) (cl : List (Str × Addr)) (fp : List Addr), PG (X.blk sh Hb scope (compEnvC scope cl C X.env) fp) tg g)
    (ht : ∀ (sh : Shared) (Hb : Hp) (C : Addr) (cl : List (Str × Addr)) (fp : List Addr), PTs (X.blk sh Hb scope (compEnvC scope cl C X.env) fp) ifs tt)
    (he : ∀ (sh : Shared) (Hb : Hp) (C : Addr) (cl : List (Str × Addr)) (fp : List Addr) (E : Value → Shared → Prop), TakesA ((X.blk sh Hb scope (compEnvC scope cl C X.env) fp).wish E) L EW → PE ((X.blk sh Hb scope (compEnvC scope cl C X.env) fp).wish E) elt te)
    (hfs : ∀ x, foldedSetIterable iter X.env x = pure x) (I : Inv X pins σ H s) (h : tLc wi g tt te (own.map (·.2)) σ H Q)
    (fin : ∀ (D : Addr) (ce : Env) (z : Shared) (m : Str → Option Value) (Hz : Hp), Inv X pins σ Hz z → Q (.ref D) Hz → z.heap.Ns ce.locals m → FpOk X pins Hz ce.locals → compEnds (model X.prog X.w) X.A X.xe use Qf (.ref D) ce (.ok .next) z) :
    wpAny (model X.prog X.w) X.A (comprehension (.ListComp elt [⟨tg, iter, ifs, 0⟩] scope pos) scope X.env pos' (newList []) false (eval iter X.env) use) Qf X.xe s := by
  have has : ∀ y ∈ scope.names, y.2 = .free → ∃ c, X.env.cells.lookup y.1 = some c := fun y m e => (ok.free y m e).elim (fun k => I.ok.has _ (.inl k)) fun k => I.ok.has _ (.inr k)
  refine comprehension_at (use := use) rfl hfs (closure_ok has) ok.kind (fun y m e => (ok.uniq y m).trans (congrArg some e)) ?_
  refine thn (hi.run pins s σ H _ I h) fun xv sA hA => thn hA fun itv sB hB => ?_
  obtain ⟨it, fp, tn, J, HB, rfl, IB, T, stB, fB, q⟩ := hB
  refine wpAny_newObj_type (newEnv_comp ?_) (Nat.zero_le sizeLine)
  generalize eD : sB.heap.objs.size = D
  have nD : HB D = none := IB.hok.fresh (Nat.le_of_eq eD)
  obtain ⟨W, ⟨m0, w0⟩, turn⟩ := q D nD
  generalize eC : ({ sB with heap := sB.heap.push { cls := .type "list", data := .seq ([] : List Value).toArray } } : Shared) = sC
  have hC : sC.heap = sB.heap.push { cls := .type "list", data := .seq ([] : List Value).toArray } := by rw [← eC]
  have IC : Inv X pins σ (upd HB D (.lst [])) sC := by
    subst eC
    refine IB.laid (t' := sB.toks) (fun b o z => Heap.get?_push_of_some _ z) (Nat.le_of_eq eD) ⟨Nat.zero_le _, [], 0, .nil, ?_⟩
    subst eD
    exact Heap.get?_push_size _ rfl
  have small : ∀ b ∈ fp, b < sB.heap.objs.size := fun b m => (T.obj _ _ stB b m).elim fun o z => Heap.lt_size z.1
  have fC : ∀ b ∈ fp, FpOk X pins (upd HB D (.lst [])) b ∧ b < sC.heap.objs.size := fun b m => by
    have lt := small b m
    refine ⟨⟨?_, (fB b m).2⟩, ?_⟩
    · rw [upd_ne (fun z => by rw [z, ← eD] at lt; exact Nat.lt_irrefl _ lt)]
      exact (fB b m).1
    · rw [hC, Heap.size_push]
      exact Nat.lt_succ_of_lt lt
  have stC : tn 0 sC.heap := T.keep _ _ _ stB fun b _ o z => by rw [hC]; exact Heap.get?_push_of_some _ z
  have IE := block_start IC ok hN fC
  have pg := hg sC (upd HB D (.lst [])) sC.heap.objs.size (cellsFrom (sC.heap.objs.size + 1) scope.names (cloFrom X.env.cells scope.names [])) fp
  have pt := ht sC (upd HB D (.lst [])) sC.heap.objs.size (cellsFrom (sC.heap.objs.size + 1) scope.names (cloFrom X.env.cells scope.names [])) fp
  have pe := he sC (upd HB D (.lst [])) sC.heap.objs.size (cellsFrom (sC.heap.objs.size + 1) scope.names (cloFrom X.env.cells scope.names [])) fp
  generalize eK : compEnvC scope (cellsFrom (sC.heap.objs.size + 1) scope.names (cloFrom X.env.cells scope.names [])) sC.heap.objs.size X.env = ce at IE pg pt pe
  have lK : ce.locals = sC.heap.objs.size := by rw [← eK]; rfl
  have fK : ce.frame = some L := by rw [← eK]; exact hfX
  generalize eS : ({ sC with heap := pushCells (sC.heap.push { cls := .type "dict", data := .dict #[] }) scope.names } : Shared) = sE at IE
  suffices main : codeAny (model X.prog X.w) X.A (.compStart (.ListComp elt [⟨tg, iter, ifs, 0⟩] scope pos) 0 (.ref it) (.ref D) ce) (compEnds (model X.prog X.w) X.A X.xe use Qf (.ref D) ce) sE by
    subst eS eK
    exact main
  have stE : tn 0 sE.heap := T.keep _ _ _ stC fun b _ o z => by rw [← eS]; exact pushCells_keeps _ _ _ _ (Heap.get?_push_of_some _ z)
  have nfp : ∀ b ∈ fp, (upd HB D (.lst [])) b = none := fun b m => (fC b m).1.1
  generalize eH : upd HB D (.lst []) = HC at IC IE pg pt pe w0 nfp fC
  -- the block's wish: noted, let go
  obtain ⟨XB, eXB⟩ : ∃ XB : Cx, XB = X.blk sC HC scope ce fp := ⟨_, rfl⟩
  obtain ⟨EB, eEB⟩ : ∃ EB : Value → Shared → Prop, EB = notedBy (model X.prog X.w) X.A ce (CompFails (model X.prog X.w) X.A X.xe ce) := ⟨_, rfl⟩
  have pe' := pe EB fun u s' x => by
    show EB u s'
    rw [eEB]
    exact air_out hst hfD fK IC (fun b m => (fC b m).1) (Nat.le_of_eq lK.symm) tk x
  have still : ∀ {σ' : L2.St} {H' : Hp} {s' : Shared}, Inv (X.blk sC HC scope ce fp) [] σ' H' s' → (∀ b ∈ fp, H' b = none) → ∀ b ∈ fp, FpOk (X.blk sC HC scope ce fp) [] H' b := fun {σ' H' s'} I' n b m =>
    ⟨n b m, (I'.ok.exf b m).1, I'.ok.exfs b m, .inl m, fun x c z => (I'.ok.exf b m).2 x c z, fun p hp => by cases hp⟩
  have loop : codeAny (model X.prog X.w) X.A (.compLoop (.ListComp elt [⟨tg, iter, ifs, 0⟩] scope pos) 0 (.ref it) (.ref D) ce) (compEnds (model X.prog X.w) X.A X.xe use Qf (.ref D) ce) sE := by
    refine compLoop_any (fun n z => ∃ i Hi, (Inv (X.blk sC HC scope ce fp) [] (wipe σ (own.map (·.2))) Hi z ∧ W i n Hi) ∧ tn i z.heap ∧ ∀ b ∈ fp, Hi b = none) ?_ m0 ⟨0, HC, ⟨IE, w0⟩, stE, nfp⟩
    rintro n z1 ⟨i, H1, ⟨I1, w1⟩, st1, n1⟩
    rcases turn i n H1 w1 with ⟨stop, qq⟩ | ⟨go, Nx, hNx, step⟩
    · refine thnF (T.done (X.blk sC HC scope ce fp) rfl rfl rfl hc i [] z1 _ H1 _ I1 (still I1 n1) st1 stop) ?_
      rintro r z2 ⟨rfl, I2⟩
      have IX : Inv X pins σ H1 z2 := IC.call' (ch := fp) I2.os I2.base I2.hok I2.bare fun b m => ⟨(fC b m).1.2.2.2.1, (fC b m).1.2.1, (fC b m).1.2.2.2.2.1, (fC b m).1.2.2.2.2.2⟩
      have fc : FpOk X pins H1 ce.locals := IC.fpOk (Nat.le_of_eq lK.symm) I2.free
      obtain ⟨m, hm, _⟩ := I2.loc
      exact fin D ce z2 m H1 IX qq hm fc
    · refine thnF (T.item (X.blk sC HC scope ce fp) rfl rfl rfl hc i [] z1 _ H1 _ I1 (still I1 n1) st1 go) ?_
      rintro r z2 ⟨v, rfl, hv⟩
      refine thnF hv ?_
      rintro _ z3 ⟨x, H3, I3, rx, y3, st3, n3⟩
      have P3 := I3.pinned (still I3 n3) (T.obj _ _ st3)
      refine thnF (pg.run _ z3 _ H3 x v _ P3 rx (step x H3 y3)) ?_
      rintro _ z4 ⟨σ4, H4, I4, hw4, q4⟩
      refine thnF (pt.run _ z4 σ4 H4 _ I4 q4) ?_
      rintro b z5 ⟨H5, I5, q5⟩
      have len : (wipe σ (own.map (·.2))).length = σ4.length := by rw [← hw4, wipe_length]
      have next : ∀ {z : Shared} {Hz : Hp}, Inv (X.blk sC HC scope ce fp) ([] ++ pinsAt fp z3.heap) σ4 Hz z → Nx Hz →
          ∃ k, k < n ∧ ∃ j Hi, (Inv (X.blk sC HC scope ce fp) [] (wipe σ (own.map (·.2))) Hi z ∧ W j k Hi) ∧ tn j z.heap ∧ ∀ b ∈ fp, Hi b = none := fun {z Hz} Iz nx => by
        obtain ⟨k, lt, wk⟩ := hNx Hz nx
        have pin : ∀ b ∈ fp, ∀ o, z3.heap.get? b = some o → z.heap.get? b = some o ∧ Hz b = none := fun b m o e => by
          have r := Iz.pin (b, o) (List.mem_append_right _ (List.mem_append_right _ (mem_pinsAt m e)))
          exact ⟨r.1, r.2.1⟩
        refine ⟨k, lt, i + 1, Hz, ⟨(Iz.unpinned (pins := [])).weak len fun j y e => ?_, wk⟩, T.keep _ _ _ st3 fun b m o e => (pin b m o e).1, fun b m => ?_⟩
        · rw [← hw4] at e
          exact (wipe_some e).1
        · obtain ⟨o, e, _⟩ := T.obj _ _ st3 b m
          exact (pin b m o e).2
      cases b with
      | false => exact next I5 q5
      | true =>
        refine wpAny_mono (pe'.run _ z5 σ4 H5 _ (I5.wish EB) q5) ?_ fun e z6 hx => ?_
        · rintro y z6 ⟨yv, H6, I6, r6, acc, hD6, hz6, nx⟩
          exact app_ok (X := X.blk sC HC scope ce fp) I6.unwish hD6 hz6 r6 fun z7 I7 => next I7 nx
        · have hx : EB e z6 := hx
          rw [eEB] at hx
          cases use <;> exact hx
  exact codeAny_compStart_list loop (T.self X.A 0 _ _ _ stE loop)
section
variable {L : Addr} {EW : XK} {envD : Env} {outD : List Env} {elt tg iter : Expr} {ifs : List Expr} {scope : Scope} {own : List (Str × Nat)} {pos : Pos} {wi : TI} {g : TG} {tt : TT} {te : TE}
/-- [elt for target in iter if ..], the element may raise -/
theorem pe_lcX (hc : X.calm = true) (hst : X.stack = envD :: outD) (hfD : envD.frame = some L) (hfX : X.env.frame = some L) (tk : TakesA X L EW) (hN : X.N.Nodup) (hi : PI X tg iter wi) (ok : BlkOk X.N X.env.scope scope own)
    (hg : ∀ (sh : Shared) (Hb : Hp) (C : Addr) (cl : List (Str × Addr)) (fp : List Addr), PG (X.blk sh Hb scope (compEnvC scope cl C X.env) fp) tg g)
    (ht : ∀ (sh : Shared) (Hb : Hp) (C : Addr) (cl : List (Str × Addr)) (fp : List Addr), PTs (X.blk sh Hb scope (compEnvC scope cl C X.env) fp) ifs tt)
    (he : ∀ (sh : Shared) (Hb : Hp) (C : Addr) (cl : List (Str × Addr)) (fp : List Addr) (E : Value → Shared → Prop), TakesA ((X.blk sh Hb scope (compEnvC scope cl C X.env) fp).wish E) L EW → PE ((X.blk sh Hb scope (compEnvC scope cl C X.env) fp).wish E) elt te)
    (hfs : ∀ x, foldedSetIterable iter X.env x = pure x := by intro _; rfl) :
    PE X (.ListComp elt [⟨tg, iter, ifs, 0⟩] scope pos) (tLc wi g tt te (own.map (·.2))) := by
  constructor
  intro pins s σ H Q I h
  rw [eval_ListComp]
  refine lcX_core hc hst hfD hfX tk hN hi ok hg ht he hfs I h fun D ce z m Hz Iz q hm fc => ⟨m, hm, fun h'' sb => ?_⟩
  exact ⟨.ref D, Hz, Iz.turned (t' := z.toks) (fun b o hb e => (sb.2 b hb).trans e) fc.1 fc.2.1 fc.2.2.2.1 fc.2.2.2.2.1 fc.2.2.2.2.2, rfl, q⟩
/-- name = [..] on one line, the name a local -/
theorem ps_setLcX {i : Nat} {y : Str} {py spos : Pos} (hc : X.calm = true) (hst : X.stack = envD :: outD) (hfD : envD.frame = some L) (hfX : X.env.frame = some L) (tk : TakesA X L EW) (hN : X.N.Nodup) (hy : X.N[i]? = some y) (hyl : X.env.scope.names.lookup y = some .local)
    (hsw : swapsWith (.ListComp elt [⟨tg, iter, ifs, 0⟩] scope pos) (some (.Name y py)) spos.line X.env = pure true) (hi : PI X tg iter wi) (ok : BlkOk X.N X.env.scope scope own)
    (hg : ∀ (sh : Shared) (Hb : Hp) (C : Addr) (cl : List (Str × Addr)) (fp : List Addr), PG (X.blk sh Hb scope (compEnvC scope cl C X.env) fp) tg g)
    (ht : ∀ (sh : Shared) (Hb : Hp) (C : Addr) (cl : List (Str × Addr)) (fp : List Addr), PTs (X.blk sh Hb scope (compEnvC scope cl C X.env) fp) ifs tt)
    (he : ∀ (sh : Shared) (Hb : Hp) (C : Addr) (cl : List (Str × Addr)) (fp : List Addr) (E : Value → Shared → Prop), TakesA ((X.blk sh Hb scope (compEnvC scope cl C X.env) fp).wish E) L EW → PE ((X.blk sh Hb scope (compEnvC scope cl C X.env) fp).wish E) elt te)
    (hfs : ∀ x, foldedSetIterable iter X.env x = pure x := by intro _; rfl) :
    PS X (.Assign [.Name y py] (.ListComp elt [⟨tg, iter, ifs, 0⟩] scope pos) spos) (tAsg (tLc wi g tt te (own.map (·.2))) (gName i)) := by
  constructor
  intro pins s σ H D I h
  rw [exec_Assign_Name_used _ _ _ _ hsw]
  have h : tLc wi g tt te (own.map (·.2)) σ H (fun x H1 => gName i x σ H1 D.nx) := h
  refine wpAny_bind (wpAny_standAt (wpAny_bind ?_))
  show wpAny _ X.A (do let _ ← comprehension (.ListComp elt [⟨tg, iter, ifs, 0⟩] scope pos) scope X.env (firstIterPos [⟨tg, iter, ifs, 0⟩] pos) (newList []) false (eval iter X.env) (some (assign (.Name y py) X.env))) _ _ s
  refine wpAny_bind (thn (lcX_core (Qf := fun _ z => SP X pins D .next z) hc hst hfD hfX tk hN hi ok hg ht he hfs I h ?_) fun _ z hq => wpAny_pure (wpAny_pure hq))
  intro D1 ce z m Hz Iz q hm fc
  show wpAny _ _ (assign (.Name y py) X.env (.ref D1)) _ _ _
  refine wpAny_assign_Name (store_ok2 (v := V.ref D1) Iz hN hy (.inl hyl) rfl ?_ (.inr hyl))
  rintro z2 I2 ⟨a, sb, ha⟩
  have na : ce.locals ≠ a := by
    rcases ha with r | r
    · rw [r]
      exact fc.2.1
    · exact fun e => fc.2.2.2.2.1 y a r e.symm
  refine ⟨m, hm.sameBut sb na, fun h3 sb3 => ⟨_, Hz, I2.turned (t' := z2.toks) (fun b o hb e => (sb3.2 b hb).trans e) fc.1 fc.2.1 fc.2.2.2.1 fc.2.2.2.2.1 fc.2.2.2.2.2, q⟩⟩
end
end Ca

/-! match with patterns that are lists of written texts and names -/
namespace Mt
open PySem PySem.Spec PyProof.Rows L2
inductive It1 where
  | lit (s : Str)
  | cap (i : Nat)
def each : List It1 → List Str → Option (List (Nat × Str))
  | [], [] => some []
  | .lit s :: qs, y :: ys => if y = s then each qs ys else none
  | .cap i :: qs, y :: ys => (each qs ys).map ((i, y) :: ·)
  | _, _ => none
/-- the pattern p is q -/
inductive Pat1 (X : Cx) : Pattern → It1 → Prop
  | lit (s : Str) (j : Nat) (p1 p2 : Pos) : Pat1 X (.MatchValue (.Constant (.str s) j p1) p2) (.lit s)
  | cap (i : Nat) (n : Str) (p : Pos) (h : X.N[i]? = some n) (hl : X.env.scope.names.lookup n = some .local) : Pat1 X (.MatchAs none (some n) p) (.cap i)
inductive Pats (X : Cx) : List Pattern → List It1 → Prop
  | nil : Pats X [] []
  | cons {p : Pattern} {q : It1} {ps : List Pattern} {qs : List It1} (h : Pat1 X p q) (t : Pats X ps qs) : Pats X (p :: ps) (q :: qs)
theorem Pats.length {X : Cx} {ps : List Pattern} {qs : List It1} (h : Pats X ps qs) : ps.length = qs.length := by
  induction h with
  | nil => rfl
  | cons _ _ ih => exact congrArg (· + 1) ih
/-- names with what they are given, and the places of these names -/
inductive Caps (X : Cx) : List (Nat × Str) → List (Str × Value) → Prop
  | nil : Caps X [] []
  | cons {i : Nat} {n y : Str} {u : Value} {bs : List (Nat × Str)} {vs : List (Str × Value)} (h : X.N[i]? = some n) (hl : X.env.scope.names.lookup n = some .local) (r : RelV (.str y) u) (t : Caps X bs vs) : Caps X ((i, y) :: bs) ((n, u) :: vs)
def put (bs : List (Nat × Str)) (σ : L2.St) : L2.St := bs.foldl (fun σ b => σ.set b.1 (some (.str b.2))) σ
section
variable {X : Cx} {pins : List (Addr × Obj)}
theorem run_each {ps : List Pattern} {qs : List It1} (h : Pats X ps qs) : ∀ (ys : List Str) (us : List Value) (s : Shared) (σ : L2.St) (H : Hp) (Q : Option (List (Str × Value)) → Shared → Prop), Inv X pins σ H s → Vals (ys.map V.str) us → ys.length = qs.length →
    (∀ s', Inv X pins σ H s' → match each qs ys with
      | none => Q none s'
      | some bs => ∀ vs, Caps X bs vs → Q (some vs) s') → wpAny (model X.prog X.w) X.A (matchEach ps X.env us) Q X.xe s := by
  induction h with
  | nil =>
    intro ys us s σ H Q I r hl q
    cases ys with
    | cons y ys => cases hl
    | nil => exact wpAny_matchEach_nil (q s I [] .nil)
  | @cons p q0 ps qs h1 ht ih =>
    intro ys us s σ H Q I r hl q
    cases ys with
    | nil => cases hl
    | cons y ys =>
      have hl' : ys.length = qs.length := Nat.succ.inj hl
      cases r with
      | @cons _ u _ us r rr =>
        cases h1 with
        | lit z j p1 p2 =>
          refine wpAny_matchEach_cons (wpAny_matchPattern_Value ?_) rfl
          refine thn ((pe_str (X := X) (x := z) (j := j) (pos := p1)).run pins s σ H (fun v H1 => v = .str z ∧ H1 = H) I ⟨rfl, rfl⟩) fun x s1 ⟨v, H1, I1, rv, ev, eH⟩ => ?_
          subst ev eH
          refine thn (op_eq pins s1 σ H1 (.str y) (.str z) u x (fun v H2 => v = .bl (decide (V.str y = V.str z)) ∧ H2 = H1) I1 r rv ⟨rfl, rfl, rfl⟩) fun c s2 ⟨v, H2, I2, rc, ev, eH⟩ => ?_
          subst ev eH
          have rc : c = Value.bool (decide (V.str y = V.str z)) := rc
          subst rc
          refine wpAny_truthy_bool ?_
          by_cases e : y = z
          · rw [decide_eq_true (by rw [e])]
            show wpAny _ _ (matchEach ps X.env us) _ _ s2
            refine ih ys us s2 σ H2 _ I2 rr hl' fun s' I' => ?_
            have q' := q s' I'
            rw [show each (.lit z :: qs) (y :: ys) = each qs ys by simp [each, e]] at q'
            cases he : each qs ys with
            | none => rw [he] at q'; exact q'
            | some bs => rw [he] at q'; exact fun vs hv => q' vs hv
          · rw [decide_eq_false (fun w => e (by cases w; rfl))]
            have q' := q s2 I2
            rw [show each (.lit z :: qs) (y :: ys) = none by simp [each, e]] at q'
            exact q'
        | cap i n p hi hlo =>
          refine wpAny_matchEach_cons (wpAny_matchPattern_Capture ?_) rfl
          show wpAny _ _ (matchEach ps X.env us) _ _ s
          refine ih ys us s σ H _ I rr hl' fun s' I' => ?_
          have q' := q s' I'
          have e : each (.cap i :: qs) (y :: ys) = (each qs ys).map ((i, y) :: ·) := rfl
          rw [e] at q'
          cases he : each qs ys with
          | none => rw [he] at q'; exact q'
          | some bs => rw [he] at q'; exact fun vs hv => q' _ (.cons hi hlo r hv)
theorem run_put (hN : X.N.Nodup) {bs : List (Nat × Str)} {vs : List (Str × Value)} (h : Caps X bs vs) : ∀ (s : Shared) (σ : L2.St) (H : Hp) (Q : Unit → Shared → Prop), Inv X pins σ H s → (∀ s', Inv X pins (put bs σ) H s' → Q () s') →
    wpAny (model X.prog X.w) X.A (assignInOrder (vs.map fun (n, _) => bindName X.env n) (vs.map (·.2))) Q X.xe s := by
  induction h with
  | nil => intro s σ H Q I q; exact wpAny_assignInOrder_none (q s I)
  | @cons i n y u bs vs hi hl r ht ih =>
    intro s σ H Q I q
    refine wpAny_assignInOrder_more (wpAny_bindName (store_ok I hN hi (.inl hl) r (fun s' I' => ?_) (.inr hl)))
    exact ih s' _ H Q I' q
/-- what a row of cases asks of the thing that is matched -/
abbrev TC := V → TS
structure PCs (X : Cx) (cs : List MatchCase) (t : TC) : Prop where
  run : ∀ (pins : List (Addr × Obj)) (s : Shared) (σ : L2.St) (H : Hp) (D : Ends) (v : V) (u : Value) (first : Bool), Inv X pins σ H s → RelV v u → t v D σ H → wpAny (model X.prog X.w) X.A (matchCases cs X.env u first) (SP X pins D) X.xe s
theorem pc_nil : PCs X [] (fun _ D σ H => D.nx σ H) := ⟨fun pins s σ H D v u f I _ h => wpAny_matchCases_nil ⟨σ, H, I, h⟩⟩
/-- case _ -/
theorem pc_any {body : List Stmt} {rest : List MatchCase} {tb : TS} {p : Pos} (hb : PSs X body tb) : PCs X (⟨.MatchAs none none p, none, body⟩ :: rest) (fun _ D σ H => tb D σ H) :=
  ⟨fun pins s σ H D v u f I _ h => wpAny_matchCases_cons (wpAny_matchPattern_Capture (wpAny_assignInOrder_none (hb.run pins s σ H D I h)))⟩
def tSq (K : PySem.W.Frag) (qs : List It1) (tb : TS) (tr : TC) : TC := fun v D σ H => ∃ a ys, v = .ref a ∧ SqL K H a (ys.map V.str) ∧ match (if ys.length = qs.length then each qs ys else none) with
  | none => tr v D σ H
  | some bs => tb D (put bs σ) H
theorem pc_seq {ps : List Pattern} {qs : List It1} {body : List Stmt} {rest : List MatchCase} {tb : TS} {tr : TC} {p : Pos} (hN : X.N.Nodup) (hc : X.calm = true) (hq : Pats X ps qs) (hb : PSs X body tb) (hr : PCs X rest tr)
    (hs : ps.findIdx? (·.isStar) = none := by rfl) (hw : (ps.all fun p => p.isWildcard || (p.isStar && p.names.isEmpty)) = false := by rfl) : PCs X (⟨.MatchSequence ps p, none, body⟩ :: rest) (tSq X.K qs tb tr) := by
  refine ⟨fun pins s σ H D v u f I r h => ?_⟩
  obtain ⟨a, ys, rfl, hsq, h⟩ := h
  cases r
  obtain ⟨its, rv, pl, hz⟩ := I.list hsq
  have hlen : its.length = ys.length := by rw [← rv.length, List.length_map]
  have hfit : ((its.toArray.size : Nat) : Int) < 2 ^ 63 := by
    have : ys.length ≤ sizeLine := by simpa using hz
    have e : sizeLine ≤ 2 ^ 62 := by decide
    rw [List.size_toArray]
    omega
  refine wpAny_matchCases_cons ?_
  by_cases e : ys.length = qs.length
  · rw [if_pos e] at h
    refine matchSeq_list_hit pl.isList hfit (by rw [List.size_toArray, hlen, e, hq.length]) ?_ hs hw
    have en : ps.length = its.toArray.size := by rw [List.size_toArray, hlen, e, hq.length]
    rw [en]
    have I0 : Inv X pins σ H { s with toks := s.toks + 1 + 1 } := I.kept fun _ _ z => z
    refine PySem.W.kun_itemsOf (I.ok.hd hc) pl.isList fun h' hx => ?_
    have I1 : Inv X pins σ H { s with heap := h', toks := s.toks + 1 + 1 } := I.kept fun b o z => hx b o (Nat.ne_of_lt (Heap.lt_size z)) z
    refine run_each hq ys _ _ σ H _ I1 (by simpa using rv) e fun s' I' => ?_
    cases he : each qs ys with
    | none =>
      rw [he] at h
      exact hr.run pins s' σ H D (.ref a) (.ref a) false I' rfl h
    | some bs =>
      rw [he] at h
      exact fun vs hv => run_put hN hv s' σ H _ I' fun s'' I'' => hb.run pins s'' _ H D I'' h
  · rw [if_neg e] at h
    refine matchSeq_list_miss pl.isList hfit (by rw [List.size_toArray, hlen, hq.length]; exact e) ?_ hs hw
    exact hr.run pins _ σ H D (.ref a) (.ref a) false (I.kept fun _ _ z => z) rfl h
theorem ps_match {e : Expr} {cs : List MatchCase} {te : TE} {tc : TC} {pos : Pos} (he : PE X e te) (hc : PCs X cs tc) : PS X (.Match e cs pos) (fun D σ H => te σ H fun v H1 => tc v D σ H1) :=
  ⟨fun pins s σ H D I h => wpAny_Match (thn (he.run pins s σ H _ I h) fun u s1 ⟨v, H1, I1, r, q⟩ => hc.run pins s1 σ H1 D v u true I1 r q)⟩
end
end Mt

/-! for i, x in enumerate(xs, start=k), xs a list -/
namespace En
open PySem PySem.Spec PyProof.Rows L2
theorem typeK {M : Model} {A : Around} {E : Value → Shared → Prop} {s : Shared} {env : Env} {pos : Pos} {T : String} {e : Expr} {rest : List Expr} {kws : List Keyword} {Q : Value → Shared → Prop}
    (h : wpAny M A (spliced (backTo pos (starEach (e :: rest) env))) (fun vs s1 => wpAny M A (evalAll ((backToKw pos (keywordEach kws env)).map (·.2))) (fun ws s2 => wpAny M A (call (.type T) vs (((backToKw pos (keywordEach kws env)).filterMap (·.1)).zip ws)) Q E s2) E s1) E s)
    (he : backTo pos (starEach (e :: rest) env) = (false, eval e env) :: backTo pos (starEach rest env)) (hp : (backTo pos (starEach (e :: rest) env)).any (·.1) = false)
    (hall : (backToKw pos (keywordEach kws env)).all (·.1.isSome) = true) (hkw : (backToKw pos (keywordEach kws env)).any (·.1.isNone) = false) :
    wpAny M A (callWith pos (.type T) [] (backTo pos (starEach (e :: rest) env)) (backToKw pos (keywordEach kws env))) Q E s := by
  have h' : wpAny M A (evalArgs (.type T) true (backTo pos (starEach (e :: rest) env)) (backToKw pos (keywordEach kws env))) (fun a s1 => wpAny M A (call (.type T) a.pos a.kw) Q E s1) E s := by
    rw [he] at h ⊢
    exact evalArgs_kwB hall h
  unfold callWith
  refine wpAny_bind (wpAny_holding (thn h' fun a s1 h1 => wpAny_bind (wpAny_standAt ?_)))
  simp only [hp, hkw, Bool.or_false, List.nil_append]
  refine wpAny_bind (wpAny_pure ?_)
  exact wpAny_bind (thn h1 fun r s2 hr => wpAny_bind (wpAny_holding (wpAny_point (wpAny_pure hr))))
/-- the list at a as it stands at each turn, each item in a new pair, counted from c -/
def IteC (K : PySem.W.Frag) (a : Addr) (c : Int) : It :=
  ⟨fun i H => ∃ (xs : List V) (x : V), SqL K H a xs ∧ xs[i]? = some x, fun i H v H' => ∃ T x, v = .ref T ∧ H T = none ∧ H' = upd H T (.tup [.int (c + (i : Nat)), x]) ∧ ∀ xs, SqL K H a xs → xs[i]? = some x, fun i H => ∃ xs : List V, SqL K H a xs ∧ xs.length ≤ i⟩
theorem turnC {P : Program} {w : World} {K : PySem.W.Frag} {elts : List Expr} {kk : Nat} {tpos : Pos} {c : Int} (a e it : Addr) :
    Turn P w K (.Tuple elts kk tpos) (IteC K a c) [e, it] e (fun i h => (∃ old, IsEnum h e it (c + ((i : Nat) : Int)) old) ∧ h.IsListIter it a i ∧ e ≠ it ∧ a ≠ it ∧ e ≠ a) where
  mem := by simp
  obj := fun i h st b hb => by
    obtain ⟨⟨old, he⟩, ⟨o, ho, hc, hd⟩, _⟩ := st
    have e' : b = e ∨ b = it := by simpa using hb
    rcases e' with z | z
    · exact z ▸ ⟨_, he, fun v (q : Data.fields _ = Data.cell v) => nomatch q⟩
    · exact z ▸ ⟨o, ho, fun v (q : o.data = .cell v) => by rw [hd] at q; cases q⟩
  keep := fun i h h' st k => by
    obtain ⟨⟨old, he⟩, hi, hne⟩ := st
    exact ⟨⟨old, k e (by simp) _ he⟩, hi.at fun o q => k it (by simp) o q, hne⟩
  item := by
    intro X hP hw hK hc i pins s σ H E I hf st hg
    subst hP hw hK
    obtain ⟨⟨old, he⟩, hit, hne, hal, hea⟩ := st
    obtain ⟨xs, x, hq, hx⟩ := hg
    obtain ⟨its, rv, p, hz⟩ := I.list hq
    obtain ⟨u, hu, ru⟩ := rv.get hx
    have hlt : i < its.toArray.size := by
      have := (List.getElem?_eq_some_iff.mp hu).1
      simpa using this
    have D := Draws.list (prog := X.prog) (w := X.w) (A := X.A.in1) (I.ok.hd hc) it a hal its.toArray
    have hel : e < s.heap.objs.size := Heap.lt_size he
    have hil : it < s.heap.objs.size := by obtain ⟨_, q, _⟩ := hit; exact Heap.lt_size q
    refine wpAny_pyNext_enum_itemC D he ⟨hit, p.isList⟩ hlt hne (by simpa using ⟨hne, hea⟩) fun y h' tk hy ho hst' hT hsz hk => ?_
    have ey : y = u := by
      have hy' : its[i]? = some y := by simpa using hy
      exact Option.some.inj (hy'.symm.trans hu)
    subst ey
    refine ⟨_, rfl, wpAny_letOwnedTupleGo_enum (s := { s with heap := h', toks := tk + 1 }) ho fun h'' he' sb => ?_⟩
    have hT2 : h''.get? s.heap.objs.size = some { cls := .type "tuple", data := .seq #[.int (c + (i : Nat)) tk, y] } := (sb.2 _ (Nat.ne_of_gt hel)).trans hT
    have new : ObjOk X.prog X.w (upd H s.heap.objs.size (.tup [.int (c + (i : Nat)), x])) h'' s.heap.objs.size (.tup [.int (c + (i : Nat)), x]) :=
      ⟨by show 2 ≤ sizeLine; decide, [.int (c + (i : Nat)) tk, y], .cons ⟨_, rfl⟩ (.cons ru .nil), ⟨_, hT2, rfl, _, rfl⟩⟩
    have I1 : Inv X pins σ (upd H s.heap.objs.size (.tup [.int (c + (i : Nat)), x])) { s with heap := h'', toks := tk + 1 } :=
      I.turnedNew (ch := [e, it]) (fun b ob hb q => (sb.2 b (fun z => hb (by simp [z]))).trans (hk b ob (fun z => hb (by simp [z])) (fun z => hb (by simp [z])) q)) hf (Nat.le_refl _) new
    refine ⟨.ref s.heap.objs.size, _, I1, rfl, ⟨_, x, rfl, I.hok.fresh (Nat.le_refl _), rfl, fun ys hy => by rw [I.list_inj hy hq]; exact hx⟩, ⟨⟨y, ?_⟩, hst'.1.at fun o q => (sb.2 it (Ne.symm hne)).trans q, hne, hal, hea⟩, fun b hb => ?_⟩
    · have e1 : c + ((i + 1 : Nat) : Int) = c + (i : Int) + 1 := by omega
      rw [e1]
      exact he'
    · have e' : b = e ∨ b = it := by simpa using hb
      have hb' : b < s.heap.objs.size := by
        rcases e' with z | z
        · exact z ▸ hel
        · exact z ▸ hil
      rw [upd_ne (Nat.ne_of_lt hb')]
      exact (hf b hb).1
  done := by
    intro X hP hw hK hc i pins s σ H E I hf st hg
    subst hP hw hK
    obtain ⟨⟨old, he⟩, hit, hne, hal, hea⟩ := st
    obtain ⟨xs, hq, hx⟩ := hg
    obtain ⟨its, rv, p, hz⟩ := I.list hq
    obtain ⟨f0, f1, f2, f3, f4, f5⟩ := hf it (by simp)
    have hl := rv.length
    have hT : s.TypeIs (.ref e) "enumerate" := ⟨_, he, rfl⟩
    unfold pyNext
    refine wpAny_bind (wpAny_attempt (wpAny_callSpecial?_slot (name := Str.ofString "__next__") hT F.slot_enumerate_next (wpAny_call_entry F.slot_enumerate_next hT F.entry_enumerate_next ?_ (F.args_enumerate_next_1 _))))
    show wpAny _ _ (field (.ref e) 2 >>= _) _ _ _
    refine wpAny_bind (wpAny_field he rfl (x := .ref it) rfl ?_)
    refine wpAny_bind (wpAny_nextOf_list_end (I.ok.hd hc) hit p.isList (by simp; omega) fun h' x eb hx' => ?_)
    obtain ⟨o, ho, hcl⟩ := hx'
    refine wpAny_bind (wpAny_isInstance (T := "StopIteration") (b := true) ⟨o, ho, hcl⟩ isSubtype_stop ?_)
    exact wpAny_pure ⟨rfl, I.turned (t' := s.toks) (fun b o hb q => eb b o hb q) f0 f1 f3 f4 f5⟩
  self := fun A i s Q E st h => by
    obtain ⟨⟨_, he⟩, _⟩ := st
    exact wpAny_pyIter_enum he h
def iEnC (K : PySem.W.Frag) (ta tk : TA) : TI := fun σ H R => ta σ H fun vs H1 => tk σ H1 fun zs H2 => ∃ a xs c, vs = [.ref a] ∧ zs = [.int c] ∧ SqL K H2 a xs ∧ 0 ≤ c ∧ c < 1000000 ∧ R (IteC K a c) H2
theorem pi_enumC {X : Cx} {e : Expr} {ta tk : TA} {p pos tpos : Pos} {elts : List Expr} {kk : Nat} {kws : List Keyword} (hg : Gl X "enumerate") (hm : X.mg "enumerate" = none) (ha : PA X [e] ta) (hk : PK X kws tk)
    (he : backTo pos (starEach [e] X.env) = (false, eval e X.env) :: backTo pos (starEach [] X.env) := by rfl) (hp : (backTo pos (starEach [e] X.env)).any (·.1) = false := by rfl)
    (hall : (backToKw pos (keywordEach kws X.env)).all (·.1.isSome) = true := by rfl) (hkw : (backToKw pos (keywordEach kws X.env)).any (·.1.isNone) = false := by rfl)
    (hks : (backToKw pos (keywordEach kws X.env)).filterMap (·.1) = [Str.ofString "start"] := by rfl) :
    PI X (.Tuple elts kk tpos) (.Call (.Name "enumerate" p) [e] kws pos) (iEnC X.K ta tk) := by
  refine ⟨fun pins s σ H R I h => ?_⟩
  refine wpAny_Call_Name_kw (ld_blt I hg hm boot_enumerate ?_ (by decide) (by decide))
  refine typeK (thn (ha.run pos pins s σ H _ I h) fun us s1 ⟨vs, H1, I1, r1, q1⟩ => thn (hk.run pos pins s1 σ H1 _ I1 q1) fun ws s2 ⟨zs, H2, I2, r2, q2⟩ => ?_) he hp hall hkw
  obtain ⟨a, xs, c, rfl, rfl, hq, c0, c1, q⟩ := q2
  rw [hks]
  cases r1 with
  | cons r rr =>
    cases rr
    cases r
    cases r2 with
    | cons rc rr =>
      cases rr
      obtain ⟨t, rfl⟩ := rc
      obtain ⟨its, rv, p', hz⟩ := I2.list hq
      have hla : a < s2.heap.objs.size := by obtain ⟨o, ho, _⟩ := p'.isList; exact Heap.lt_size ho
      refine enum_begins_start (begins_list a its.toArray) p'.isList (by omega) (by omega) fun h' he' hit hsz hkp => wpAny_pyIter_enum he' ?_
      have I3 : Inv X pins σ H2 { s2 with heap := h' } := I2.kept (t' := s2.toks) hkp
      refine ⟨s2.heap.objs.size + 1, [s2.heap.objs.size + 1, s2.heap.objs.size], _, _, H2, rfl, I3, turnC a (s2.heap.objs.size + 1) s2.heap.objs.size (c := c), ⟨⟨.none, by rw [Int.natCast_zero, Int.add_zero]; exact he'⟩, ⟨_, hit, rfl, rfl⟩, Nat.succ_ne_self _, Nat.ne_of_lt hla, Nat.ne_of_gt (Nat.lt_succ_of_lt hla)⟩, fun b hb => ?_, q⟩
      have e' : b = s2.heap.objs.size + 1 ∨ b = s2.heap.objs.size := by simpa using hb
      have hle : s2.heap.objs.size ≤ b := by
        rcases e' with z | z
        · exact z ▸ Nat.le_add_right _ _
        · exact z ▸ Nat.le_refl _
      exact I2.fpOk hle (I2.hok.fresh hle)
end En

namespace Mw
open PySem L2 SX
abbrev Tx := List Nat
def fig (c : Nat) : Bool := decide (48 ≤ c) && decide (c ≤ 57)
theorem str_eq {i j : Str} (h : V.str i = V.str j) : i = j := by cases h; rfl
theorem int_eq {i j : Int} (h : V.int i = V.int j) : i = j := by cases h; rfl
theorem sz_line {n : Nat} (h : n < 10000000) : n < sizeLine := Nat.lt_of_lt_of_le h (by decide)
theorem le_line {n : Nat} (h : n < 10000000) : n ≤ sizeLine := Nat.le_of_lt (sz_line h)
theorem s_line {a : Tx} (h : a.length ≤ 10000) : (S a).length ≤ sizeLine := by
  rw [S_len]
  exact le_line (by omega)
/-- a comprehension over the signs of a text -/
theorem lc_str {x : Str} {g : TG} {tt : TT} {te : TE} {vs : List Nat} {σ : L2.St} {H1 : Hp} {D : Addr} {Qd : Hp → Prop} (Pv : Nat → Hp → Prop) (h0 : Pv 0 (upd H1 D (.lst [])))
    (hs : ∀ i c H, x.cps[i]? = some c → Pv i H → g (.str ⟨#[c]⟩) (wipe σ vs) H fun σ2 H2 => wipe σ2 vs = wipe σ vs ∧ tt σ2 H2 fun b H3 => if b = true then te σ2 H3 fun y H4 => ∃ acc, H4 D = some (.lst acc) ∧ acc.length < sizeLine ∧ Pv (i + 1) (upd H4 D (.lst (acc ++ [y]))) else Pv (i + 1) H3) (hd : ∀ H, Pv x.cps.size H → Qd H) :
    ∃ W : Nat → Nat → Hp → Prop, (∃ m, W 0 m (upd H1 D (.lst []))) ∧ ∀ i m H, W i m H →
      ((Its x).stop i H ∧ Qd H) ∨ ((Its x).go i H ∧ ∃ Nx : Hp → Prop, (∀ H', Nx H' → ∃ m', m' < m ∧ W (i + 1) m' H') ∧ ∀ v H', (Its x).yld i H v H' → g v (wipe σ vs) H' fun σ2 H2 => wipe σ2 vs = wipe σ vs ∧ tt σ2 H2 fun b H3 =>
        if b = true then te σ2 H3 fun y H4 => ∃ acc, H4 D = some (.lst acc) ∧ acc.length < sizeLine ∧ Nx (upd H4 D (.lst (acc ++ [y]))) else Nx H3) := by
  refine ⟨fun i m H => m = x.cps.size - i ∧ i ≤ x.cps.size ∧ Pv i H, ⟨x.cps.size, rfl, Nat.zero_le _, h0⟩, ?_⟩
  rintro i m H ⟨rfl, hi, p⟩
  by_cases hlt : i < x.cps.size
  · refine .inr ⟨hlt, Pv (i + 1), fun H' p' => ⟨x.cps.size - (i + 1), by omega, rfl, hlt, p'⟩, fun v H' y => ?_⟩
    obtain ⟨rfl, c, hc, rfl⟩ := y
    exact hs i c _ hc p
  · have e : i = x.cps.size := by omega
    subst e
    exact .inl ⟨Nat.le_refl _, hd H p⟩
theorem s_zero : (("0" : String) : Str) = S [48] := by decide +kernel
theorem s_figs (c : Nat) : decide (c ∈ (("0123456789" : String) : Str).cps.toList) = fig c := by
  have e : (("0123456789" : String) : Str).cps.toList = [48, 49, 50, 51, 52, 53, 54, 55, 56, 57] := by decide +kernel
  rw [e]
  unfold fig
  rw [Bool.eq_iff_iff]
  simp only [decide_eq_true_eq, Bool.and_eq_true, List.mem_cons, List.not_mem_nil, or_false]
  omega
/-- the class LineError -/
structure EL (P : Program) (w : World) (K : PySem.W.Frag) (mg : Str → Option Value) (base : Heap) (CE fB : Addr) (fd : FuncData) : Prop where
  U : OexC K CE
  m : mg "LineError" = some (.ref CE)
  iI : PySem.W.findIn K (.ref CE) "__init__" = some (some (.ref fB))
  tI : PySem.W.typeIn K (.ref fB) = some (.type "function")
  G : FnOk P w K mg base (L2.CX P w) 1 fB fd ["self", "line"] (spLe CE)
  b : Binds K fd ["self", "line"] []
/-- LineError(l) may leave -/
def LErr (CE : Addr) (H : Hp) (E : XK) (l : Int) : Prop := (0 ≤ l ∧ l ≤ 100) ∧ ∀ dx H', H dx = none → Same H H' → H' dx = some (.xd [("line", .int l)]) → E (.ref CE) (some dx) H'
theorem LErr.same {CE : Addr} {H H1 : Hp} {E : XK} {l : Int} (s : Same H H1) (h : LErr CE H E l) : LErr CE H1 E l := ⟨h.1, fun dx H' n s' e => h.2 dx H' (s.free n) (s.trans s') e⟩
theorem raise_at {CE : Addr} {H H1 : Hp} {E : XK} {l : Int} {σ : L2.St} (hE : LErr CE H E l) (s : Same H H1) (h : σ[1]? = some (some (.int l))) : tMkO CE (spLe CE) [] (tCons (tVar 1) tNil) σ H1 (fun cls d H' => E cls d H') := by
  refine ⟨_, h, by show 1 ≤ 1000; decide, fun e he => ⟨e, l, rfl, hE.1.1, hE.1.2, upd_same, fun dx hdx hne => ⟨rfl, dx, _, upd_same, by rw [upd_ne hne]; exact upd_same, (upd_none hdx), ?_⟩⟩⟩
  have n1 : H1 dx = none := upd_none hdx
  refine hE.2 dx _ (s.free n1) (fun b o hb => ?_) upd_same
  have hb1 := s _ _ hb
  have b1 : b ≠ dx := ne_of_none hb1 n1
  have b2 : b ≠ e := ne_of_none hb1 he
  rw [upd_ne b1, del_ne b2, upd_ne b2, upd_ne b1, upd_ne b2]
  exact hb1
/-- the number that a row of figures tells, if it may -/
def pnum (x : Tx) : Option Int := if x.all fig && decide (1 ≤ x.length) && decide (x.length ≤ 4) && (decide (x = [48]) || !decide (x.head? = some 48)) then some (NumText.digitsVal x) else none
section
variable {P : Program} {w : World} {K : PySem.W.Frag} {mg : Str → Option Value} {base : Heap} {CE fB : Addr} {fdB : FuncData}
/-! ### parse_number -/
abbrev sPn : Stmt := top 12
abbrev nPn : List Str := ["figures", "line", "wrong", "figure"]
theorem scPn : FnScope nPn ["figures", "line"] (defScope sPn) := ⟨rfl, rfl, rfl, by decide +kernel, rfl, by decide +kernel, by decide +kernel⟩
def spPn (CE : Addr) : Sp := fun vs H Q E => ∃ (x : Tx) (l : Int), vs = [.str (S x), .int l] ∧ x.length ≤ 200 ∧ (pnum x = none → LErr CE H E l) ∧ ∀ n H', pnum x = some n → Same H H' → Q (.int n) H'
theorem ok_pn {tF tM : Tok} {f : Addr} {fd : FuncData} (F : Fun K "parse_number" "parse_number" sPn f fd) (EL : EL P w K mg base CE fB fdB) (mFig : mg "FIGURES" = some (.str "0123456789" tF)) (mMost : mg "MOST_FIGURES" = some (.int 4 tM)) (ml : mg "len" = none) (mi : mg "int" = none) : FnOk P w K mg base (L2.CX P w) 3 f fd ["figures", "line"] (spPn CE) := by
  refine F.okX scPn (fun vs H Q E h => ?_) (fun cdv A outer s H vs Q E hr h => ?_)
  · obtain ⟨n, l, rfl, _⟩ := h
    rfl
  obtain ⟨x, l, rfl, hx, hE, q⟩ := h
  have nd := scPn.nd
  refine ⟨_, (pss_cons (ps_setLc (i := 2) (own := [("figure", 3)]) (g := (gName 3))   rfl nd rfl rfl (sw_true rfl rfl rfl (by decide +kernel)) (pi_str (pv 0)) (blkOk_by (N := nPn) (sc := defScope sPn) (by decide +kernel)) (fun _ _ _ _ _ => (pg_name (i := 3) nd rfl (.inl rfl))) (fun _ _ _ _ _ => (pts_one (pt_cmpR op_notIn_sign (pv 3) (pe_glob rfl mFig (v := .str "0123456789") ⟨_, rfl⟩) (by rfl)))) (fun _ _ _ _ _ => (pv 3)))
      (pss_cons (ps_if (PW.pt (pw_or (pt_truth (pv 2) (by intro _; rfl)) (pw_or1 (pt_not (pt_chain op_le op_le pe_int (pe_callB call_len_str (by rfl) ml PySem.boot_len (pa_cons (pv 0) pa_nil)) (pe_glob rfl mMost (v := .int 4) ⟨_, rfl⟩)))))) (pss_one (ps_raise rfl (takes_of rfl rfl rfl rfl) (pmk_oex (k := 1) EL.U EL.iI EL.tI EL.G hr EL.b .nil passL rfl EL.m (pa_cons (pv 1) pa_nil)))) pss_nil)
      (pss_cons (ps_if (PW.pt (pw_and (pt_cmpR op_ne (pv 0) pe_str (nomark _)) (pw_and1 (pt_cmpR op_eq (pe_ix ix_str (pv 0) pe_int (fun _ _ => rfl)) pe_str (nomark _))))) (pss_one (ps_raise rfl (takes_of rfl rfl rfl rfl) (pmk_oex (k := 1) EL.U EL.iI EL.tI EL.G hr EL.b .nil passL rfl EL.m (pa_cons (pv 1) pa_nil)))) pss_nil)
      (pss_one (ps_ret (pe_callTy call_int_str (by rfl) mi (by decide +kernel) (pa_cons (pv 0) pa_nil))))))), ?_⟩
  refine ⟨_, rfl, _, rfl, fun D hD => ?_⟩
  have s1 : Same H (upd H D (.lst [])) := same_new hD _
  refine lc_str (fun i H' => Same H H' ∧ H' D = some (.lst (((x.take i).filter (!fig ·)).map fun c => V.str ⟨#[c]⟩))) ⟨s1, upd_same⟩ ?_ ?_
  · rintro i c H' hc ⟨s', hD'⟩
    have hci : x[i]? = some c := by
      have : (S x).cps[i]? = x[i]? := by simp
      rw [← this]
      exact hc
    have tk : x.take (i + 1) = x.take i ++ [c] := by rw [List.take_add_one, hci]; rfl
    refine ⟨rfl, _, rfl, c, _, rfl, rfl, _, rfl, ?_⟩
    rw [s_figs, tk, List.filter_append, List.map_append]
    cases hf : fig c with
    | true =>
      refine iteF ⟨s', ?_⟩
      rw [hD']
      simp [hf]
    | false =>
      refine iteT ⟨_, rfl, _, hD', sz_line ?_, same_mut s' hD _, ?_⟩
      · rw [List.length_map]
        have := List.length_filter_le (!fig ·) (x.take i)
        rw [List.length_take] at this
        omega
      · rw [upd_same]
        simp [hf]
  · rintro H' ⟨s', hD'⟩
    have en : (S x).cps.size = x.length := by simp
    rw [en, List.take_length] at hD'
    have el : ((S x).length : Int) = (x.length : Int) := by rw [S_len]
    have dz : ∀ a b : Tx, decide (V.str (S a) = V.str (S b)) = decide (a = b) := fun a b => by
      by_cases e : a = b
      · rw [e, decide_eq_true rfl, decide_eq_true rfl]
      · rw [decide_eq_false e, decide_eq_false fun z => e (S_inj (str_eq z))]
    refine ⟨_, rfl, _, .inl ⟨_, SqL.of hD', rfl⟩, ?_⟩
    by_cases hall : x.all fig = true
    · have he : (((x.filter (!fig ·)).map fun c => V.str ⟨#[c]⟩)) = [] := by
        rw [List.map_eq_nil_iff, List.filter_eq_nil_iff]
        intro c hc
        simp [List.all_eq_true.mp hall c hc]
      rw [he]
      refine iteF ⟨_, rfl, _, rfl, s_line (by omega), _, _, rfl, rfl, _, rfl, ?_⟩
      rw [el]
      by_cases hn : 1 ≤ x.length
      · rw [decide_eq_true (show (1 : Int) ≤ (x.length : Int) by omega)]
        refine iteT ⟨_, _, rfl, rfl, _, rfl, ?_⟩
        by_cases h4 : x.length ≤ 4
        · rw [decide_eq_true (show (x.length : Int) ≤ 4 by omega)]
          refine iteF ⟨_, rfl, rfl, _, rfl, ?_⟩
          have ne : x ≠ [] := fun z => by rw [z] at hn; simp at hn
          rw [s_zero, dz]
          by_cases e : x = [48]
          · rw [decide_eq_true e]
            refine iteF (iteF ⟨_, rfl, _, _, rfl, int_S hall ne (by omega), by rw [S_len]; omega, q _ H' ?_ s'⟩)
            unfold pnum
            rw [hall, decide_eq_true hn, decide_eq_true h4, decide_eq_true e]
            rfl
          · rw [decide_eq_false e]
            obtain ⟨c, r, hx2⟩ : ∃ c r, x = c :: r := by
              cases x with
              | nil => exact absurd rfl ne
              | cons c r => exact ⟨c, r, rfl⟩
            refine iteT ⟨_, rfl, _, 0, c, rfl, rfl, s_line (by omega), by rw [hx2]; exact atI_nat (j := 0) rfl, rfl, _, rfl, ?_⟩
            have e3 : decide (V.str (⟨#[c]⟩ : Str) = V.str (S [48])) = decide (c = 48) := by
              have := dz [c] [48]
              rw [show decide ([c] = [48]) = decide (c = 48) by simp] at this
              exact this
            rw [e3]
            by_cases hc : c = 48
            · rw [decide_eq_true hc]
              exact iteT (raise_at (hE (by unfold pnum; rw [hx2] at e ⊢; simp [hc, e] <;> simp_all)) s' rfl)
            · rw [decide_eq_false hc]
              refine iteF ⟨_, rfl, _, _, rfl, int_S hall ne (by omega), by rw [S_len]; omega, q _ H' ?_ s'⟩
              unfold pnum
              rw [hall, decide_eq_true hn, decide_eq_true h4, decide_eq_false e, hx2]
              simp [hc]
        · rw [decide_eq_false (show ¬ (x.length : Int) ≤ 4 by omega)]
          exact iteT (raise_at (hE (by unfold pnum; rw [decide_eq_false h4]; simp)) s' rfl)
      · rw [decide_eq_false (show ¬ (1 : Int) ≤ (x.length : Int) by omega)]
        exact iteF ⟨_, rfl, iteT (raise_at (hE (by unfold pnum; rw [decide_eq_false hn]; simp)) s' rfl)⟩
    · have hne : (((x.filter (!fig ·)).map fun c => V.str ⟨#[c]⟩)).isEmpty = false := by
        cases hq : ((x.filter (!fig ·)).map fun c => V.str ⟨#[c]⟩) with
        | cons a r => rfl
        | nil =>
          refine absurd (List.all_eq_true.mpr fun c hc => ?_) hall
          have := List.filter_eq_nil_iff.mp (List.map_eq_nil_iff.mp hq) c hc
          simpa using this
      rw [hne]
      exact iteT (iteT (raise_at (hE (by unfold pnum; rw [Bool.eq_false_iff.mpr hall]; simp)) s' rfl))
end
end Mw

namespace Mw
open PySem L2 SX
def pnS (a : Str) : Option Int := pnum a.cps.toList
def pmS (a : Str) : Option Int := match pnS a with
  | some n => if 2 ≤ n ∧ n ≤ 100 then some n else none
  | none => none
theorem S_back (a : Str) : S a.cps.toList = a := by cases a; simp [S]
section
variable {P : Program} {w : World} {K : PySem.W.Frag} {mg : Str → Option Value} {base : Heap} {CE fB : Addr} {fdB : FuncData}
/-! ### parse_modulus -/
abbrev sPm : Stmt := top 13
theorem scPm : FnScope ["figures", "line", "modulus"] ["figures", "line"] (defScope sPm) := ⟨rfl, rfl, rfl, by decide +kernel, rfl, by decide +kernel, by decide +kernel⟩
def spPm (CE : Addr) : Sp := fun vs H Q E => ∃ (a : Str) (l : Int), vs = [.str a, .int l] ∧ a.length ≤ 200 ∧ (pmS a = none → LErr CE H E l) ∧ ∀ n H', pmS a = some n → Same H H' → Q (.int n) H'
theorem ok_pm {tL tH : Tok} {f fN : Addr} {fd fdN : FuncData} (F : Fun K "parse_modulus" "parse_modulus" sPm f fd) (EL : EL P w K mg base CE fB fdB)
    (GN : FnOk P w K mg base (L2.CX P w) 3 fN fdN ["figures", "line"] (spPn CE)) (bN : Binds K fdN ["figures", "line"] []) (kN : PySem.W.keepIn K (.ref fN) = true) (mN : mg "parse_number" = some (.ref fN))
    (mLo : mg "LEAST_MODULUS" = some (.int 2 tL)) (mHi : mg "MOST_MODULUS" = some (.int 100 tH)) : FnOk P w K mg base (L2.CX P w) 4 f fd ["figures", "line"] (spPm CE) := by
  refine F.okX scPm (fun vs H Q E h => ?_) (fun cdv A outer s H vs Q E hr h => ?_)
  · obtain ⟨n, l, rfl, _⟩ := h
    rfl
  obtain ⟨a, l, rfl, ha, hE, q⟩ := h
  have nd := scPm.nd
  refine ⟨_, (pss_cons (ps_set (i := 2) nd rfl (.inl rfl) (pe_call GN hr rfl mN kN bN .nil (Ca.passA (Ca.takesA_of (takes_of rfl rfl rfl rfl))) (pa_cons (pv 0) (pa_cons (pv 1) pa_nil))))
      (pss_cons (ps_if (pt_not (pt_chain op_le op_le (pe_glob rfl mLo (v := .int 2) ⟨_, rfl⟩) (pv 2) (pe_glob rfl mHi (v := .int 100) ⟨_, rfl⟩))) (pss_one (ps_raise rfl (takes_of rfl rfl rfl rfl) (pmk_oex (k := 1) EL.U EL.iI EL.tI EL.G (hr.mono (by decide)) EL.b .nil passL rfl EL.m (pa_cons (pv 1) pa_nil)))) pss_nil)
      (pss_one (ps_ret (pv 2))))), ?_⟩
  refine ⟨_, rfl, _, rfl, a.cps.toList, l, rfl, ha, (fun z => hE (by unfold pmS pnS; rw [z])), fun n H' hn s' => ⟨_, rfl, _, _, rfl, rfl, _, rfl, ?_⟩⟩
  have hn : pnS a = some n := hn
  have e : pmS a = if 2 ≤ n ∧ n ≤ 100 then some n else none := by
    unfold pmS
    rw [hn]
  by_cases h2 : 2 ≤ n
  · rw [decide_eq_true h2]
    refine iteT ⟨_, _, rfl, rfl, _, rfl, ?_⟩
    by_cases h3 : n ≤ 100
    · rw [decide_eq_true h3]
      rw [if_pos ⟨h2, h3⟩] at e
      exact iteF ⟨_, rfl, q n H' e s'⟩
    · rw [decide_eq_false h3]
      exact iteT (raise_at (hE (by rw [e, if_neg (fun z => h3 z.2)])) s' rfl)
  · rw [decide_eq_false h2]
    exact iteF ⟨_, rfl, iteT (raise_at (hE (by rw [e, if_neg (fun z => h2 z.1)])) s' rfl)⟩
/-! ### parse_range -/
def dots : Str := S [46, 46]
def okR (a : Str) : Bool := if (Txt.partition a dots).2.1.length = 0 then (pnS (Txt.partition a dots).1).isSome else match pnS (Txt.partition a dots).1, pnS (Txt.partition a dots).2.2 with
  | some i, some j => decide (i < j)
  | _, _ => false
def sm (a : Str) : Bool := decide (a.length ≤ 200)
def smR (a : Str) : Bool := sm a && (sm (Txt.partition a dots).1 && (sm (Txt.partition a dots).2.1 && sm (Txt.partition a dots).2.2))
abbrev sPr : Stmt := top 14
theorem scPr : FnScope ["text", "line", "low", "dots", "high", "bounds"] ["text", "line"] (defScope sPr) := ⟨rfl, rfl, rfl, by decide +kernel, rfl, by decide +kernel, by decide +kernel⟩
def spPr (CE : Addr) : Sp := fun vs H Q E => ∃ (a : Str) (l : Int), vs = [.str a, .int l] ∧ smR a = true ∧ (okR a = false → LErr CE H E l) ∧ ∀ v H', okR a = true → Same H H' → Q v H'
theorem ok_pr {f fN : Addr} {fd fdN : FuncData} (F : Fun K "parse_range" "parse_range" sPr f fd) (EL : EL P w K mg base CE fB fdB)
    (GN : FnOk P w K mg base (L2.CX P w) 3 fN fdN ["figures", "line"] (spPn CE)) (bN : Binds K fdN ["figures", "line"] []) (kN : PySem.W.keepIn K (.ref fN) = true) (mN : mg "parse_number" = some (.ref fN)) : FnOk P w K mg base (L2.CX P w) 4 f fd ["text", "line"] (spPr CE) := by
  refine F.okX scPr (fun vs H Q E h => ?_) (fun cdv A outer s H vs Q E hr h => ?_)
  · obtain ⟨n, l, rfl, _⟩ := h
    rfl
  obtain ⟨a, l, rfl, hs, hE, q⟩ := h
  have nd := scPr.nd
  unfold smR sm at hs
  simp only [Bool.and_eq_true, decide_eq_true_eq] at hs
  obtain ⟨ha, h1, h2, h3⟩ := hs
  refine ⟨_, (pss_cons (ps_asg (pe_partition (pv 0) pe_str) (pg_tup rfl (pgs_cons (pg_name (i := 2) nd rfl (.inl rfl)) (pgs_cons (pg_name (i := 3) nd rfl (.inl rfl)) (pgs_cons (pg_name (i := 4) nd rfl (.inl rfl)) pgs_nil)))))
      (pss_cons (ps_if (pt_not (pt_truth (pv 3) (by intro _; rfl))) (pss_one (ps_ret (pe_tup (pa_cons (pe_call GN hr rfl mN kN bN .nil (Ca.passA (Ca.takesA_of (takes_of rfl rfl rfl rfl))) (pa_cons (pv 2) (pa_cons (pv 1) pa_nil))) (pa_cons (pe_call GN hr rfl mN kN bN .nil (Ca.passA (Ca.takesA_of (takes_of rfl rfl rfl rfl))) (pa_cons (pv 2) (pa_cons (pv 1) pa_nil))) pa_nil))))) pss_nil)
      (pss_cons (ps_set (i := 5) nd rfl (.inl rfl) (pe_tup (pa_cons (pe_call GN hr rfl mN kN bN .nil (Ca.passA (Ca.takesA_of (takes_of rfl rfl rfl rfl))) (pa_cons (pv 2) (pa_cons (pv 1) pa_nil))) (pa_cons (pe_call GN hr rfl mN kN bN .nil (Ca.passA (Ca.takesA_of (takes_of rfl rfl rfl rfl))) (pa_cons (pv 4) (pa_cons (pv 1) pa_nil))) pa_nil))))
      (pss_cons (ps_if (pt_cmpR op_ge (pe_ix ix_tup (pv 5) pe_int (fun _ _ => rfl)) (pe_ix ix_tup (pv 5) pe_int (fun _ _ => rfl)) (nomark _)) (pss_one (ps_raise rfl (takes_of rfl rfl rfl rfl) (pmk_oex (k := 1) EL.U EL.iI EL.tI EL.G (hr.mono (by decide)) EL.b .nil passL rfl EL.m (pa_cons (pv 1) pa_nil)))) pss_nil)
      (pss_one (ps_ret (pv 5))))))), ?_⟩
  refine ⟨_, rfl, ⟨_, rfl⟩, _, _, rfl, rfl, rfl, le_line (by omega), fun p hp => ?_⟩
  rw [show (".." : Str) = dots by decide +kernel]
  have s1 := fun o => same_new hp o
  refine ⟨p, _, rfl, .inl (.inl upd_same), rfl, _, _, rfl, _, _, rfl, _, [], rfl, rfl, ?_⟩
  refine ⟨_, rfl, _, ⟨le_line (by omega), rfl⟩, ?_⟩
  have lo1 : pnS (Txt.partition a dots).1 = none → okR a = false := fun z => by
    unfold okR
    rw [z]
    split <;> rfl
  have hi1 : ¬ (Txt.partition a dots).2.1.length = 0 → pnS (Txt.partition a dots).2.2 = none → okR a = false := fun c z => by
    unfold okR
    rw [if_neg c, z]
    split
    · rename_i h1 h2
      cases h2
    · rfl
  by_cases c : (Txt.partition a dots).2.1.length = 0
  · rw [c]
    refine iteT ⟨_, rfl, _, rfl, (Txt.partition a dots).1.cps.toList, l, rfl, h1, (fun z => (hE (lo1 z)).same (s1 _)), fun n H2 hn s2 => ⟨_, rfl, _, rfl, (Txt.partition a dots).1.cps.toList, l, rfl, h1, (fun z => ((hE (lo1 z)).same (s1 _)).same s2), fun n3 H3 hn3 s3 => ⟨by show 2 ≤ sizeLine; decide, fun t ht => ?_⟩⟩⟩
    have hn : pnS (Txt.partition a dots).1 = some n := hn
    refine q _ _ ?_ ((((s1 _).trans s2).trans s3).trans (same_new ht _))
    unfold okR
    rw [if_pos c, hn]
    rfl
  · rw [show ((((Txt.partition a dots).2.1.length : Nat) : Int) != 0) = true by simpa using c]
    refine iteF ⟨_, rfl, _, rfl, (Txt.partition a dots).1.cps.toList, l, rfl, h1, (fun z => (hE (lo1 z)).same (s1 _)), fun n H2 hn s2 => ⟨_, rfl, _, rfl, (Txt.partition a dots).2.2.cps.toList, l, rfl, h3, (fun z => ((hE (hi1 c z)).same (s1 _)).same s2), fun n3 H3 hn3 s3 => ⟨by show 2 ≤ sizeLine; decide, fun t ht => ?_⟩⟩⟩
    have hn : pnS (Txt.partition a dots).1 = some n := hn
    have hn3 : pnS (Txt.partition a dots).2.2 = some n3 := hn3
    have s4 := ((((s1 (.tup [.str (Txt.partition a dots).1, .str (Txt.partition a dots).2.1, .str (Txt.partition a dots).2.2])).trans s2).trans s3).trans (same_new ht (.tup [.int n, .int n3])))
    refine ⟨_, rfl, t, _, 0, .int n, rfl, rfl, .inl (.inl upd_same), atI_nat (j := 0) rfl, _, rfl, t, _, 1, .int n3, rfl, rfl, .inl (.inl upd_same), atI_nat (j := 1) rfl, _, _, rfl, rfl, _, rfl, ?_⟩
    by_cases hlt : n3 ≤ n
    · rw [decide_eq_true hlt]
      exact iteT (raise_at (hE (by unfold okR; rw [if_neg c, hn, hn3]; exact decide_eq_false (by omega))) s4 rfl)
    · rw [decide_eq_false hlt]
      refine iteF ⟨_, rfl, q _ _ ?_ s4⟩
      unfold okR
      rw [if_neg c, hn, hn3]
      exact decide_eq_true (by omega)
end
end Mw

namespace Mw
open PySem L2 SX
def comma : Str := S [44]
def okRs (a : Str) : Bool := (Txt.split a comma).all okR && decide ((Txt.split a comma).length ≤ 8)
def smRs (a : Str) : Bool := sm a && (decide ((Txt.split a comma).length ≤ 200) && (Txt.split a comma).all smR)
theorem all_false {α : Type} {f : α → Bool} {xs : List α} {x : α} (h : x ∈ xs) (e : f x = false) : xs.all f = false := by
  cases q : xs.all f with
  | false => rfl
  | true => rw [List.all_eq_true.mp q x h] at e; cases e
theorem all_snoc {α : Type} {f : α → Bool} {xs : List α} {i : Nat} {x : α} (h : (xs.take i).all f = true) (hx : xs[i]? = some x) (fx : f x = true) : (xs.take (i + 1)).all f = true := by
  rw [List.take_add_one, hx, List.all_append, h]
  simp [fx]
section
variable {P : Program} {w : World} {K : PySem.W.Frag} {mg : Str → Option Value} {base : Heap} {CE fB : Addr} {fdB : FuncData}
/-! ### parse_ranges -/
abbrev sPs : Stmt := top 15
abbrev nPs : List Str := ["text", "line", "ranges", "part"]
theorem scPs : FnScope nPs ["text", "line"] (defScope sPs) := ⟨rfl, rfl, rfl, by decide +kernel, rfl, by decide +kernel, by decide +kernel⟩
def spPs (CE : Addr) : Sp := fun vs H Q E => ∃ (a : Str) (l : Int), vs = [.str a, .int l] ∧ smRs a = true ∧ (okRs a = false → LErr CE H E l) ∧ ∀ v H', okRs a = true → Same H H' → Q v H'
theorem ok_ps {tM : Tok} {f fR : Addr} {fd fdR : FuncData} (F : Fun K "parse_ranges" "parse_ranges" sPs f fd) (EL : EL P w K mg base CE fB fdB)
    (GR : FnOk P w K mg base (L2.CX P w) 4 fR fdR ["text", "line"] (spPr CE)) (bR : Binds K fdR ["text", "line"] []) (kR : PySem.W.keepIn K (.ref fR) = true) (mR : mg "parse_range" = some (.ref fR))
    (mMost : mg "MOST_RANGES" = some (.int 8 tM)) (ml : mg "len" = none) : FnOk P w K mg base (L2.CX P w) 5 f fd ["text", "line"] (spPs CE) := by
  refine F.okX scPs (fun vs H Q E h => ?_) (fun cdv A outer s H vs Q E hr h => ?_)
  · obtain ⟨n, l, rfl, _⟩ := h
    rfl
  obtain ⟨a, l, rfl, hs, hE, q⟩ := h
  have nd := scPs.nd
  unfold smRs sm at hs
  simp only [Bool.and_eq_true, decide_eq_true_eq] at hs
  obtain ⟨ha, hn, hall⟩ := hs
  refine ⟨_, (pss_cons (Ca.ps_setLcX (i := 2) (own := [("part", 3)]) (g := gName 3) (tt := tYes) (te := tCall (spPr CE) [] E (tCons (tVar 3) (tCons (tVar 1) tNil))) rfl rfl rfl rfl (Ca.takesA_of (takes_of rfl rfl rfl rfl)) nd rfl rfl (sw_true rfl rfl rfl (by decide +kernel)) (pi_list (pe_split (pv 0) pe_str)) (blkOk_by (N := nPs) (sc := defScope sPs) (by decide +kernel)) (fun _ _ _ _ _ => (pg_name (i := 3) nd rfl (.inl rfl))) (fun _ _ _ _ _ => pts_nil) (fun _ _ _ _ _ _ tkB => pe_call GR hr rfl mR kR bR .nil (Ca.passA tkB) (pa_cons (pv 3) (pa_cons (pv 1) pa_nil))))
      (pss_cons (ps_if (pt_cmpR op_gt (pe_callB call_len_seq (by rfl) ml PySem.boot_len (pa_cons (pv 2) pa_nil)) (pe_glob rfl mMost (v := .int 8) ⟨_, rfl⟩) (nomark _)) (pss_one (ps_raise rfl (takes_of rfl rfl rfl rfl) (pmk_oex (k := 1) EL.U EL.iI EL.tI EL.G (hr.mono (by decide)) EL.b .nil passL rfl EL.m (pa_cons (pv 1) pa_nil)))) pss_nil)
      (pss_one (ps_ret (pv 2))))), ?_⟩
  refine ⟨_, rfl, ⟨_, rfl⟩, _, _, rfl, rfl, rfl, le_line (by omega), fun lp hlp => ⟨lp, rfl, ?_⟩⟩
  rw [show ("," : Str) = comma by decide +kernel]
  refine ⟨⟨_, SqL.of upd_same⟩, fun D hD => ?_⟩
  generalize hH1 : upd H lp (.lst ((Txt.split a comma).map V.str)) = H1 at hD ⊢
  have s1 : Same H H1 := by rw [← hH1]; exact same_new hlp _
  have hlp1 : H1 lp = some (.lst ((Txt.split a comma).map V.str)) := by rw [← hH1]; exact upd_same
  refine lc_list (xs := (Txt.split a comma).map V.str) (fun i H' => ∃ vs, Same H1 H' ∧ H' D = some (.lst vs) ∧ vs.length = i ∧ ((Txt.split a comma).take i).all okR = true) ⟨[], same_new hD _, upd_same, rfl, rfl⟩ (fun i H' _ ⟨_, s', _⟩ => SqL.of (s' _ _ hlp1)) ?_ ?_
  · rintro i y H' hy ⟨vs, s', hD', hl, hok⟩
    rw [List.getElem?_map] at hy
    cases hz : (Txt.split a comma)[i]? with
    | none => rw [hz] at hy; cases hy
    | some rg =>
      rw [hz] at hy
      cases hy
      have hi := (List.getElem?_eq_some_iff.mp hz).1
      have hsm := List.all_eq_true.mp hall rg (List.mem_of_getElem? hz)
      refine ⟨rfl, _, rfl, _, rfl, rg, l, rfl, hsm, (fun z => (hE (by unfold okRs; rw [all_false (List.mem_of_getElem? hz) z]; rfl)).same (s1.trans s')), fun v H2 hr2 s2 => ⟨vs, s2 _ _ hD', sz_line (by omega), vs ++ [v], same_mut (s'.trans s2) hD _, upd_same, by rw [List.length_append, hl]; rfl, all_snoc hok hz hr2⟩⟩
  · rintro H' ⟨vs, s', hD', hl, hok⟩
    rw [List.length_map] at hl hok
    rw [List.take_length] at hok
    refine ⟨_, rfl, D, _, rfl, .inl (SqL.of hD'), _, _, rfl, rfl, _, rfl, ?_⟩
    by_cases c : (8 : Int) < (vs.length : Int)
    · rw [decide_eq_true c]
      exact iteT (raise_at (hE (by unfold okRs; rw [decide_eq_false (show ¬ (Txt.split a comma).length ≤ 8 by omega)]; simp)) (s1.trans s') rfl)
    · rw [decide_eq_false c]
      refine iteF ⟨_, rfl, q _ _ ?_ (s1.trans s')⟩
      unfold okRs
      rw [hok, decide_eq_true (show (Txt.split a comma).length ≤ 8 by omega)]
      rfl
end
end Mw

namespace Mw
open PySem L2 SX
def spc : Str := S [32]
def rel3 : List Str → Option Str
  | [x, y, r] => if x = "n" ∧ y = "in" then some r else none
  | _ => none
def rel4 : List Str → Option Str
  | [x, y, z, r] => if x = "n" ∧ y = "not" ∧ z = "in" then some r else none
  | _ => none
def rel5 : List Str → Option (Str × Str)
  | [x, y, m, z, r] => if x = "n" ∧ y = "mod" ∧ z = "in" then some (m, r) else none
  | _ => none
def rel6 : List Str → Option (Str × Str)
  | [x, y, m, n, z, r] => if x = "n" ∧ y = "mod" ∧ n = "not" ∧ z = "in" then some (m, r) else none
  | _ => none
theorem each3 (ws : List Str) : (if ws.length = [Mt.It1.lit "n", .lit "in", .cap 2].length then Mt.each [Mt.It1.lit "n", .lit "in", .cap 2] ws else none) = (rel3 ws).map fun r => [(2, r)] := by
  match ws with
  | [] | [_] | [_, _] | _ :: _ :: _ :: _ :: _ => simp [rel3]
  | [x, y, r] =>
    by_cases h1 : x = "n" <;> by_cases h2 : y = "in" <;> simp [rel3, Mt.each, h1, h2]
theorem each4 (ws : List Str) : (if ws.length = [Mt.It1.lit "n", .lit "not", .lit "in", .cap 2].length then Mt.each [Mt.It1.lit "n", .lit "not", .lit "in", .cap 2] ws else none) = (rel4 ws).map fun r => [(2, r)] := by
  match ws with
  | [] | [_] | [_, _] | [_, _, _] | _ :: _ :: _ :: _ :: _ :: _ => simp [rel4]
  | [x, y, z, r] =>
    by_cases h1 : x = "n" <;> by_cases h2 : y = "not" <;> by_cases h3 : z = "in" <;> simp [rel4, Mt.each, h1, h2, h3]
theorem each5 (ws : List Str) : (if ws.length = [Mt.It1.lit "n", .lit "mod", .cap 3, .lit "in", .cap 2].length then Mt.each [Mt.It1.lit "n", .lit "mod", .cap 3, .lit "in", .cap 2] ws else none) = (rel5 ws).map fun r => [(3, r.1), (2, r.2)] := by
  match ws with
  | [] | [_] | [_, _] | [_, _, _] | [_, _, _, _] | _ :: _ :: _ :: _ :: _ :: _ :: _ => simp [rel5]
  | [x, y, m, z, r] =>
    by_cases h1 : x = "n" <;> by_cases h2 : y = "mod" <;> by_cases h3 : z = "in" <;> simp [rel5, Mt.each, h1, h2, h3]
theorem each6 (ws : List Str) : (if ws.length = [Mt.It1.lit "n", .lit "mod", .cap 3, .lit "not", .lit "in", .cap 2].length then Mt.each [Mt.It1.lit "n", .lit "mod", .cap 3, .lit "not", .lit "in", .cap 2] ws else none) = (rel6 ws).map fun r => [(3, r.1), (2, r.2)] := by
  match ws with
  | [] | [_] | [_, _] | [_, _, _] | [_, _, _, _] | [_, _, _, _, _] | _ :: _ :: _ :: _ :: _ :: _ :: _ :: _ => simp [rel6]
  | [x, y, m, n, z, r] =>
    by_cases h1 : x = "n" <;> by_cases h2 : y = "mod" <;> by_cases h3 : n = "not" <;> by_cases h4 : z = "in" <;> simp [rel6, Mt.each, h1, h2, h3, h4]
theorem mem3 {ws : List Str} {r : Str} (h : rel3 ws = some r) : r ∈ ws := by
  unfold rel3 at h
  split at h
  · split at h <;> cases h
    simp
  · cases h
theorem mem4 {ws : List Str} {r : Str} (h : rel4 ws = some r) : r ∈ ws := by
  unfold rel4 at h
  split at h
  · split at h <;> cases h
    simp
  · cases h
theorem mem5 {ws : List Str} {r : Str × Str} (h : rel5 ws = some r) : r.1 ∈ ws ∧ r.2 ∈ ws := by
  unfold rel5 at h
  split at h
  · split at h <;> cases h
    simp
  · cases h
theorem mem6 {ws : List Str} {r : Str × Str} (h : rel6 ws = some r) : r.1 ∈ ws ∧ r.2 ∈ ws := by
  unfold rel6 at h
  split at h
  · split at h <;> cases h
    simp
  · cases h
def okMR (p : Str × Str) : Bool := (pmS p.1).isSome && okRs p.2
theorem okMR_of {p : Str × Str} {n : Int} (h : pmS p.1 = some n) (h2 : okRs p.2 = true) : okMR p = true := by
  unfold okMR
  rw [h, h2]
  rfl
theorem okMR_no1 {p : Str × Str} (h : pmS p.1 = none) : okMR p = false := by
  unfold okMR
  rw [h]
  rfl
theorem okMR_no2 {p : Str × Str} (h : okRs p.2 = false) : okMR p = false := by
  unfold okMR
  rw [h]
  simp
def okWs (ws : List Str) : Bool := match rel3 ws with
  | some r => okRs r
  | none => match rel4 ws with
    | some r => okRs r
    | none => match rel5 ws with
      | some p => okMR p
      | none => match rel6 ws with
        | some p => okMR p
        | none => false
def okRel (a : Str) : Bool := okWs (Txt.split a spc)
def smRel (a : Str) : Bool := sm a && (Txt.split a spc).all smRs
section
variable {P : Program} {w : World} {K : PySem.W.Frag} {mg : Str → Option Value} {base : Heap} {CE fB : Addr} {fdB : FuncData}
/-! ### parse_relation -/
abbrev sPl : Stmt := top 16
abbrev nPl : List Str := ["text", "line", "ranges", "modulus"]
theorem scPl : FnScope nPl ["text", "line"] (defScope sPl) := ⟨rfl, rfl, rfl, by decide +kernel, rfl, by decide +kernel, by decide +kernel⟩
def spPl (CE : Addr) : Sp := fun vs H Q E => ∃ (a : Str) (l : Int), vs = [.str a, .int l] ∧ smRel a = true ∧ (okRel a = false → LErr CE H E l) ∧ ∀ v H', okRel a = true → Same H H' → Q v H'
theorem ok_pl {f fS fM : Addr} {fd fdS fdM : FuncData} (F : Fun K "parse_relation" "parse_relation" sPl f fd) (EL : EL P w K mg base CE fB fdB)
    (GS : FnOk P w K mg base (L2.CX P w) 5 fS fdS ["text", "line"] (spPs CE)) (bS : Binds K fdS ["text", "line"] []) (kS : PySem.W.keepIn K (.ref fS) = true) (mS : mg "parse_ranges" = some (.ref fS))
    (GM : FnOk P w K mg base (L2.CX P w) 4 fM fdM ["figures", "line"] (spPm CE)) (bM : Binds K fdM ["figures", "line"] []) (kM : PySem.W.keepIn K (.ref fM) = true) (mM : mg "parse_modulus" = some (.ref fM)) : FnOk P w K mg base (L2.CX P w) 6 f fd ["text", "line"] (spPl CE) := by
  refine F.okX scPl (fun vs H Q E h => ?_) (fun cdv A outer s H vs Q E hr h => ?_)
  · obtain ⟨x, l, rfl, _⟩ := h
    rfl
  obtain ⟨a, l, rfl, hs, hE, q⟩ := h
  have nd := scPl.nd
  unfold smRel at hs
  rw [Bool.and_eq_true] at hs
  obtain ⟨ha, hall⟩ := hs
  have ha : a.length ≤ 200 := of_decide_eq_true ha
  have sml : ∀ r ∈ Txt.split a spc, smRs r = true := fun r hr => List.all_eq_true.mp hall r hr
  have len : ∀ r ∈ Txt.split a spc, r.length ≤ 200 := fun r hr => by
    have := sml r hr
    unfold smRs sm at this
    simp only [Bool.and_eq_true, decide_eq_true_eq] at this
    exact this.1
  refine ⟨_, pss_one (Mt.ps_match (pe_split (pv 0) pe_str) (Mt.pc_seq nd rfl (.cons (.lit "n" _ _ _) (.cons (.lit "in" _ _ _) (.cons (.cap 2 "ranges" _ rfl rfl) .nil))) (pss_one (ps_ret (pe_tup (pa_cons pe_int (pa_cons pe_bl (pa_cons (pe_call GS hr rfl mS kS bS .nil (Ca.passA (Ca.takesA_of (takes_of rfl rfl rfl rfl))) (pa_cons (pv 2) (pa_cons (pv 1) pa_nil))) pa_nil)))))) (Mt.pc_seq nd rfl (.cons (.lit "n" _ _ _) (.cons (.lit "not" _ _ _) (.cons (.lit "in" _ _ _) (.cons (.cap 2 "ranges" _ rfl rfl) .nil)))) (pss_one (ps_ret (pe_tup (pa_cons pe_int (pa_cons pe_bl (pa_cons (pe_call GS hr rfl mS kS bS .nil (Ca.passA (Ca.takesA_of (takes_of rfl rfl rfl rfl))) (pa_cons (pv 2) (pa_cons (pv 1) pa_nil))) pa_nil)))))) (Mt.pc_seq nd rfl (.cons (.lit "n" _ _ _) (.cons (.lit "mod" _ _ _) (.cons (.cap 3 "modulus" _ rfl rfl) (.cons (.lit "in" _ _ _) (.cons (.cap 2 "ranges" _ rfl rfl) .nil))))) (pss_one (ps_ret (pe_tup (pa_cons (pe_call GM (hr.mono (by decide)) rfl mM kM bM .nil (Ca.passA (Ca.takesA_of (takes_of rfl rfl rfl rfl))) (pa_cons (pv 3) (pa_cons (pv 1) pa_nil))) (pa_cons pe_bl (pa_cons (pe_call GS hr rfl mS kS bS .nil (Ca.passA (Ca.takesA_of (takes_of rfl rfl rfl rfl))) (pa_cons (pv 2) (pa_cons (pv 1) pa_nil))) pa_nil)))))) (Mt.pc_seq nd rfl (.cons (.lit "n" _ _ _) (.cons (.lit "mod" _ _ _) (.cons (.cap 3 "modulus" _ rfl rfl) (.cons (.lit "not" _ _ _) (.cons (.lit "in" _ _ _) (.cons (.cap 2 "ranges" _ rfl rfl) .nil)))))) (pss_one (ps_ret (pe_tup (pa_cons (pe_call GM (hr.mono (by decide)) rfl mM kM bM .nil (Ca.passA (Ca.takesA_of (takes_of rfl rfl rfl rfl))) (pa_cons (pv 3) (pa_cons (pv 1) pa_nil))) (pa_cons pe_bl (pa_cons (pe_call GS hr rfl mS kS bS .nil (Ca.passA (Ca.takesA_of (takes_of rfl rfl rfl rfl))) (pa_cons (pv 2) (pa_cons (pv 1) pa_nil))) pa_nil)))))) (Mt.pc_any (pss_one (ps_raise rfl (takes_of rfl rfl rfl rfl) (pmk_oex (k := 1) EL.U EL.iI EL.tI EL.G (hr.mono (by decide)) EL.b .nil passL rfl EL.m (pa_cons (pv 1) pa_nil)))))))))), ?_⟩
  refine ⟨_, rfl, ⟨_, rfl⟩, _, _, rfl, rfl, rfl, le_line (by omega), fun lp hlp => ?_⟩
  rw [show (" " : Str) = spc by decide +kernel]
  generalize hH1 : upd H lp (.lst ((Txt.split a spc).map V.str)) = H1
  have s1 : Same H H1 := by rw [← hH1]; exact same_new hlp _
  have hlp1 : H1 lp = some (.lst ((Txt.split a spc).map V.str)) := by rw [← hH1]; exact upd_same
  have hE1 : okWs (Txt.split a spc) = false → LErr CE H1 E l := fun z => (hE z).same s1
  have q1 : ∀ v H', okWs (Txt.split a spc) = true → Same H1 H' → Q v H' := fun v H' h s' => q v H' h (s1.trans s')
  generalize Txt.split a spc = ws at *
  unfold okWs at q1
  refine ⟨lp, ws, rfl, SqL.of hlp1, ?_⟩
  rw [each3]
  cases e3 : rel3 ws with
  | some r =>
    rw [e3] at q1
    exact ⟨_, rfl, _, rfl, r, l, rfl, sml r (mem3 e3), (fun z => hE1 (by unfold okWs; rw [e3]; exact z)), fun v H2 ok s2 => ⟨by show 3 ≤ sizeLine; decide, fun t ht => q1 _ _ ok (s2.trans (same_new ht _))⟩⟩
  | none =>
    rw [e3] at q1
    refine ⟨lp, ws, rfl, SqL.of hlp1, ?_⟩
    rw [each4]
    cases e4 : rel4 ws with
    | some r =>
      rw [e4] at q1
      exact ⟨_, rfl, _, rfl, r, l, rfl, sml r (mem4 e4), (fun z => hE1 (by unfold okWs; rw [e3, e4]; exact z)), fun v H2 ok s2 => ⟨by show 3 ≤ sizeLine; decide, fun t ht => q1 _ _ ok (s2.trans (same_new ht _))⟩⟩
    | none =>
      rw [e4] at q1
      refine ⟨lp, ws, rfl, SqL.of hlp1, ?_⟩
      rw [each5]
      cases e5 : rel5 ws with
      | some r =>
        rw [e5] at q1
        exact ⟨_, rfl, _, rfl, r.1, l, rfl, len _ (mem5 e5).1, (fun z => hE1 (by unfold okWs; rw [e3, e4, e5]; exact okMR_no1 z)), fun n H3 hn s3 => ⟨_, rfl, _, rfl, r.2, l, rfl, sml _ (mem5 e5).2, (fun z => (hE1 (by unfold okWs; rw [e3, e4, e5]; exact okMR_no2 z)).same s3), fun v H2 ok s2 => ⟨by show 3 ≤ sizeLine; decide, fun t ht => q1 _ _ (okMR_of hn ok) ((s3.trans s2).trans (same_new ht _))⟩⟩⟩
      | none =>
        rw [e5] at q1
        refine ⟨lp, ws, rfl, SqL.of hlp1, ?_⟩
        rw [each6]
        cases e6 : rel6 ws with
        | some r =>
          rw [e6] at q1
          exact ⟨_, rfl, _, rfl, r.1, l, rfl, len _ (mem6 e6).1, (fun z => hE1 (by unfold okWs; rw [e3, e4, e5, e6]; exact okMR_no1 z)), fun n H3 hn s3 => ⟨_, rfl, _, rfl, r.2, l, rfl, sml _ (mem6 e6).2, (fun z => (hE1 (by unfold okWs; rw [e3, e4, e5, e6]; exact okMR_no2 z)).same s3), fun v H2 ok s2 => ⟨by show 3 ≤ sizeLine; decide, fun t ht => q1 _ _ (okMR_of hn ok) ((s3.trans s2).trans (same_new ht _))⟩⟩⟩
        | none => exact raise_at (hE1 (by unfold okWs; rw [e3, e4, e5, e6])) (Same.refl _) rfl
end
end Mw

/-! t.index(s), t a tuple of texts -/
namespace Tx1
open PySem PySem.Spec PyProof.Rows L2
variable {X : Cx}
def rIdxS (K : PySem.W.Frag) : V → List V → Hp → VK → Prop := fun x xs H Q => ∃ (p : Addr) (ys : List Str) (z : Str) (j : Nat), x = .ref p ∧ xs = [.str z] ∧ SqT K H p (ys.map V.str) ∧ ys[j]? = some z ∧ (∀ m, m < j → ys[m]? ≠ some z) ∧ Q (.int (j : Nat)) H
theorem mt_idxS : MtR X "tuple.index" (rIdxS X.K) := by
  intro pins s σ H x xs v us Q I rx rs h
  obtain ⟨p, ys, z, j, rfl, rfl, hq, hy, hno, q⟩ := h
  cases rx
  obtain ⟨u, rfl, hu⟩ := vals1 rs
  obtain ⟨tz, hu⟩ : ∃ t, u = .str z t := hu
  subst hu
  obtain ⟨its, r, pl, hz⟩ := I.tuple hq
  obtain ⟨⟨cls, dd, dt, sl⟩, ho, hc, n, hd⟩ := pl
  simp only at hc hd
  subst hc
  subst hd
  have hl : its.toArray.size = ys.length := by rw [List.size_toArray, ← r.length, List.length_map]
  have hj : j < its.toArray.size := by rw [hl]; exact (List.getElem?_eq_some_iff.mp hy).1
  have at' : ∀ (m : Nat) (hm : m < its.toArray.size), ∃ y t, ys[m]? = some y ∧ its.toArray[m] = Value.str y t := fun m hm => by
    have hm' : m < ys.length := by rw [← hl]; exact hm
    obtain ⟨w, hw, hw'⟩ := r.get (i := m) (x := .str ys[m]) (by simp [hm'])
    have e := (List.getElem?_eq_some_iff.mp hw).2
    obtain ⟨t, hw'⟩ : ∃ t, w = .str ys[m] t := hw'
    refine ⟨ys[m], t, List.getElem?_eq_getElem hm', ?_⟩
    rw [← hw', ← e]
    simp
  have fl : (ys.map V.str).all flatV = true := by
    rw [List.all_map]
    exact List.all_eq_true.mpr fun _ _ => rfl
  refine call_meets PySem.F.slot_tuple_index ⟨_, ho, rfl⟩ PySem.F.entry_tuple_index (PySem.F.args_tuple_index_2 _ _) (TI.tuple_indexAt p its.toArray n dd sl (.str z tz) (eqU (.str z)) j hj ?_ ?_)
    ⟨ho, fun w hw => mem_eqAt (x := .str z) ⟨tz, rfl⟩ rfl r fl w (by simpa using hw), ⟨.int (j : Nat), H, I.tok _, ⟨_, rfl⟩, q⟩⟩
  · obtain ⟨y, t, h1, h2⟩ := at' j hj
    rw [hy] at h1
    cases h1
    rw [h2]
    show (z == z) = true
    exact beq_self_eq_true z
  · intro m hm hmj
    obtain ⟨y, t, h1, h2⟩ := at' m hm
    rw [h2]
    show (y == z) = false
    exact beq_eq_false_iff_ne.mpr fun e => hno m hmj (e ▸ h1)
end Tx1

namespace Mw
open PySem L2 SX
def orS : Str := S [32, 111, 114, 32]
def andS : Str := S [32, 97, 110, 100, 32]
def okRow (a : Str) : Bool := (Txt.split a andS).all okRel
def okCon (a : Str) : Bool := (Txt.split a orS).all okRow
def smRow (a : Str) : Bool := sm a && (decide ((Txt.split a andS).length ≤ 200) && (Txt.split a andS).all smRel)
def smCon (a : Str) : Bool := sm a && (decide ((Txt.split a orS).length ≤ 200) && (Txt.split a orS).all smRow)
def rSp : V → List V → Hp → VK → Prop := fun x xs H Q => ∃ a b, x = .str a ∧ xs = [.str b] ∧ (b.length == 0) = false ∧ a.length + 2 ≤ sizeLine ∧ rNewStrs (Txt.split a b) H Q
section
variable {P : Program} {w : World} {K : PySem.W.Frag} {mg : Str → Option Value} {base : Heap} {CE fB : Addr} {fdB : FuncData}
/-! ### parse_condition -/
abbrev sPc : Stmt := top 17
abbrev nPc : List Str := ["text", "line", "row", "part"]
theorem scPc : FnScope nPc ["text", "line"] (defScope sPc) := ⟨rfl, rfl, rfl, by decide +kernel, rfl, by decide +kernel, by decide +kernel⟩
def spPc (CE : Addr) : Sp := fun vs H Q E => ∃ (a : Str) (l : Int), vs = [.str a, .int l] ∧ smCon a = true ∧ (okCon a = false → LErr CE H E l) ∧ ∀ v H', okCon a = true → Same H H' → Q v H'
theorem ok_pc {f fL : Addr} {fd fdL : FuncData} (F : Fun K "parse_condition" "parse_condition" sPc f fd)
    (GL : FnOk P w K mg base (L2.CX P w) 6 fL fdL ["text", "line"] (spPl CE)) (bL : Binds K fdL ["text", "line"] []) (kL : PySem.W.keepIn K (.ref fL) = true) (mL : mg "parse_relation" = some (.ref fL)) : FnOk P w K mg base (L2.CX P w) 7 f fd ["text", "line"] (spPc CE) := by
  refine F.okX scPc (fun vs H Q E h => ?_) (fun cdv A outer s H vs Q E hr h => ?_)
  · obtain ⟨x, l, rfl, _⟩ := h
    rfl
  obtain ⟨a, l, rfl, hs, hE, q⟩ := h
  have nd := scPc.nd
  unfold smCon sm at hs
  simp only [Bool.and_eq_true, decide_eq_true_eq] at hs
  obtain ⟨ha, hn, hall⟩ := hs
  refine ⟨_, pss_one (ps_ret (Ca.pe_lcX (own := [("row", 2)]) (g := gName 2) (tt := tYes)
      (te := tLc (iList K (tM1 rSp (tVar 2) (tC (.str " and ")))) (gName 3) tYes (tCall (spPl CE) [] E (tCons (tVar 3) (tCons (tVar 1) tNil))) [3])
      rfl rfl rfl rfl (Ca.takesA_of (takes_of rfl rfl rfl rfl)) nd (pi_list (pe_split (pv 0) pe_str)) (blkOk_by (N := nPc) (sc := defScope sPc) (by decide +kernel)) (fun _ _ _ _ _ => pg_name (i := 2) nd rfl (.inl rfl)) (fun _ _ _ _ _ => pts_nil)
      (fun _ _ _ _ _ _ tk1 => by
        refine Ca.pe_lcX (own := [("part", 3)]) rfl rfl rfl rfl tk1 nd (pi_list (pe_split (pv 2) pe_str)) ?_ (fun _ _ _ _ _ => ?_) (fun _ _ _ _ _ => pts_nil) (fun _ _ _ _ _ _ tk2 => ?_)
        · exact blkOk_by (N := nPc) (sc := relS { kind := .function, names := [(".0", .local), ("row", .local), ("line", .free)], isGenerator := false, isCoroutine := false } (defScope sPc)) (scope := { kind := .function, names := [(".0", .local), ("part", .local), ("parse_relation", .globalImplicit), ("line", .free)], isGenerator := false, isCoroutine := false }) (own := [("part", 3)]) (by decide +kernel)
        · exact pg_name (i := 3) nd rfl (.inl rfl)
        · exact pe_call GL hr rfl mL kL bL .nil (Ca.passA tk2) (pa_cons (pv 3) (pa_cons (pv 1) pa_nil))))), ?_⟩
  refine ⟨_, rfl, ⟨_, rfl⟩, _, _, rfl, rfl, rfl, le_line (by omega), fun lp hlp => ⟨lp, rfl, ?_⟩⟩
  rw [show (" or " : Str) = orS by decide +kernel]
  refine ⟨⟨_, SqL.of upd_same⟩, fun D hD => ?_⟩
  generalize hH1 : upd H lp (.lst ((Txt.split a orS).map V.str)) = H1 at hD ⊢
  have s1 : Same H H1 := by rw [← hH1]; exact same_new hlp _
  have hlp1 : H1 lp = some (.lst ((Txt.split a orS).map V.str)) := by rw [← hH1]; exact upd_same
  refine lc_list (xs := (Txt.split a orS).map V.str) (fun i H' => ∃ vs, Same H1 H' ∧ H' D = some (.lst vs) ∧ vs.length = i ∧ ((Txt.split a orS).take i).all okRow = true) ⟨[], same_new hD _, upd_same, rfl, rfl⟩ (fun i H' _ ⟨_, s', _⟩ => SqL.of (s' _ _ hlp1)) ?_ ?_
  · rintro i y H' hy ⟨vs, s', hD', hl, hok⟩
    rw [List.getElem?_map] at hy
    cases hz : (Txt.split a orS)[i]? with
    | none => rw [hz] at hy; cases hy
    | some row =>
      rw [hz] at hy
      cases hy
      have hi := (List.getElem?_eq_some_iff.mp hz).1
      have hsm := List.all_eq_true.mp hall row (List.mem_of_getElem? hz)
      unfold smRow sm at hsm
      simp only [Bool.and_eq_true, decide_eq_true_eq] at hsm
      obtain ⟨hra, hrn, hrall⟩ := hsm
      refine ⟨rfl, _, rfl, ⟨_, rfl⟩, _, _, rfl, rfl, rfl, le_line (by omega), fun lp2 hlp2 => ⟨lp2, rfl, ?_⟩⟩
      rw [show (" and " : Str) = andS by decide +kernel]
      refine ⟨⟨_, SqL.of upd_same⟩, fun D2 hD2 => ?_⟩
      generalize hH3 : upd H' lp2 (.lst ((Txt.split row andS).map V.str)) = H3 at hD2 ⊢
      have s3 : Same H' H3 := by rw [← hH3]; exact same_new hlp2 _
      have hlp3 : H3 lp2 = some (.lst ((Txt.split row andS).map V.str)) := by rw [← hH3]; exact upd_same
      refine lc_list (xs := (Txt.split row andS).map V.str) (fun k H2 => ∃ ws, Same H3 H2 ∧ H2 D2 = some (.lst ws) ∧ ws.length = k ∧ ((Txt.split row andS).take k).all okRel = true) ⟨[], same_new hD2 _, upd_same, rfl, rfl⟩ (fun k H2 _ ⟨_, s5, _⟩ => SqL.of (s5 _ _ hlp3)) ?_ ?_
      · rintro k y2 H2 hy2 ⟨ws, s5, hD22, hl2, hok2⟩
        rw [List.getElem?_map] at hy2
        cases hz2 : (Txt.split row andS)[k]? with
        | none => rw [hz2] at hy2; cases hy2
        | some z =>
          rw [hz2] at hy2
          cases hy2
          have hk := (List.getElem?_eq_some_iff.mp hz2).1
          exact ⟨rfl, _, rfl, _, rfl, z, l, rfl, List.all_eq_true.mp hrall z (List.mem_of_getElem? hz2), (fun z0 => (hE (by unfold okCon; exact all_false (List.mem_of_getElem? hz) (all_false (List.mem_of_getElem? hz2) z0))).same (((s1.trans s').trans s3).trans s5)), fun v H5 ok s6 => ⟨ws, s6 _ _ hD22, sz_line (by omega), ws ++ [v], same_mut (s5.trans s6) hD2 _, upd_same, by rw [List.length_append, hl2]; rfl, all_snoc hok2 hz2 ok⟩⟩
      · rintro H2 ⟨ws, s5, hD22, hl2, hok2⟩
        rw [List.length_map, List.take_length] at hok2
        exact ⟨vs, s5 _ _ (s3 _ _ hD'), sz_line (by omega), vs ++ [.ref D2], same_mut (s'.trans (s3.trans s5)) hD _, upd_same, by rw [List.length_append, hl]; rfl, all_snoc hok hz hok2⟩
  · rintro H' ⟨vs, s', hD', hl, hok⟩
    rw [List.length_map, List.take_length] at hok
    exact q _ _ hok (s1.trans s')
end
end Mw

namespace Mw
open PySem L2 SX
def colS : Str := S [58, 32]
def okRu (ns : List Str) (a : Str) : Option Str := if (Txt.partition a colS).1 ∈ ns ∧ okCon (Txt.partition a colS).2.2 = true then some (Txt.partition a colS).1 else none
def smRu (a : Str) : Bool := sm a && smCon (Txt.partition a colS).2.2
theorem Ts1.same {K : PySem.W.Frag} {H H' : Hp} {a : Addr} {xs : List V} (s : Same H H') (h : SqT K H a xs) : SqT K H' a xs := by
  rcases h with (h | ⟨fo, h⟩) | h
  · exact Or.inl (Or.inl (s _ _ h))
  · exact Or.inl (Or.inr ⟨fo, s _ _ h⟩)
  · exact Or.inr h
theorem in_strs (x : Str) (ns : List Str) : inV (.str x) (ns.map V.str) = decide (x ∈ ns) := by
  unfold inV
  rw [Bool.eq_iff_iff, List.any_eq_true, decide_eq_true_eq]
  constructor
  · rintro ⟨v, hv, e⟩
    obtain ⟨y, hy, rfl⟩ := List.mem_map.mp hv
    have : y = x := eq_of_beq (show (y == x) = true from e)
    rw [← this]
    exact hy
  · intro h
    exact ⟨.str x, List.mem_map_of_mem h, beq_self_eq_true (α := Str) _⟩
section
variable {P : Program} {w : World} {K : PySem.W.Frag} {mg : Str → Option Value} {base : Heap} {CE fB : Addr} {fdB : FuncData}
/-! ### parse_rule -/
abbrev sPu : Stmt := top 18
theorem scPu : FnScope ["text", "line", "allowed", "category", "_", "condition"] ["text", "line", "allowed"] (defScope sPu) := ⟨rfl, rfl, rfl, by decide +kernel, rfl, by decide +kernel, by decide +kernel⟩
def spPu (K : PySem.W.Frag) (CE : Addr) : Sp := fun vs H Q E => ∃ (a : Str) (l : Int) (al : Addr) (ns : List Str), vs = [.str a, .int l, .ref al] ∧ SqT K H al (ns.map V.str) ∧ smRu a = true ∧ (okRu ns a = none → LErr CE H E l) ∧
  ∀ c p v H', okRu ns a = some c → Same H H' → H p = none → H' p = some (.tup [.str c, v]) → Q (.ref p) H'
theorem ok_pu {f fC : Addr} {fd fdC : FuncData} (F : Fun K "parse_rule" "parse_rule" sPu f fd) (EL : EL P w K mg base CE fB fdB)
    (GC : FnOk P w K mg base (L2.CX P w) 7 fC fdC ["text", "line"] (spPc CE)) (bC : Binds K fdC ["text", "line"] []) (kC : PySem.W.keepIn K (.ref fC) = true) (mC : mg "parse_condition" = some (.ref fC)) : FnOk P w K mg base (L2.CX P w) 8 f fd ["text", "line", "allowed"] (spPu K CE) := by
  refine F.okX scPu (fun vs H Q E h => ?_) (fun cdv A outer s H vs Q E hr h => ?_)
  · obtain ⟨r, l, al, ns, rfl, _⟩ := h
    rfl
  obtain ⟨a, l, al, ns, rfl, hal, hs, hE, q⟩ := h
  have nd := scPu.nd
  unfold smRu sm at hs
  rw [Bool.and_eq_true, decide_eq_true_eq] at hs
  obtain ⟨ha, hc⟩ := hs
  refine ⟨_, (pss_cons (ps_asg (pe_partition (pv 0) pe_str) (pg_tup rfl (pgs_cons (pg_name (i := 3) nd rfl (.inl rfl)) (pgs_cons (pg_name (i := 4) nd rfl (.inl rfl)) (pgs_cons (pg_name (i := 5) nd rfl (.inl rfl)) pgs_nil)))))
      (pss_cons (ps_if (pt_cmpR op_notIn_seq (pv 3) (pv 2) rfl) (pss_one (ps_raise rfl (takes_of rfl rfl rfl rfl) (pmk_oex (k := 1) EL.U EL.iI EL.tI EL.G (hr.mono (by decide)) EL.b .nil passL rfl EL.m (pa_cons (pv 1) pa_nil)))) pss_nil)
      (pss_one (ps_ret (pe_tup (pa_cons (pv 3) (pa_cons (pe_call GC hr rfl mC kC bC .nil (Ca.passA (Ca.takesA_of (takes_of rfl rfl rfl rfl))) (pa_cons (pv 5) (pa_cons (pv 1) pa_nil))) pa_nil))))))), ?_⟩
  refine ⟨_, rfl, ⟨_, rfl⟩, _, _, rfl, rfl, rfl, le_line (by omega), fun p hp => ?_⟩
  rw [show (": " : Str) = colS by decide +kernel]
  have s1 : Same H (upd H p (.tup [.str (Txt.partition a colS).1, .str (Txt.partition a colS).2.1, .str (Txt.partition a colS).2.2])) := same_new hp _
  refine ⟨p, _, rfl, .inl (.inl upd_same), rfl, _, _, rfl, _, _, rfl, _, [], rfl, rfl, ?_⟩
  have fl : (ns.map V.str).all flatV = true := by
    rw [List.all_map]
    exact List.all_eq_true.mpr fun _ _ => rfl
  refine ⟨_, rfl, _, rfl, al, _, rfl, .inr (Ts1.same s1 hal), rfl, fl, _, rfl, ?_⟩
  rw [in_strs]
  by_cases hin : (Txt.partition a colS).1 ∈ ns
  · rw [decide_eq_true hin]
    refine iteF ⟨_, rfl, _, rfl, _, rfl, (Txt.partition a colS).2.2, l, rfl, hc, (fun z => (hE (by unfold okRu; rw [if_neg (fun y => by rw [z] at y; cases y.2)])).same s1), fun v H2 ok s2 => ⟨by show 2 ≤ sizeLine; decide, fun t ht => ?_⟩⟩
    have s12 := s1.trans s2
    refine q _ t v _ ?_ (s12.trans (same_new ht _)) (s12.free ht) upd_same
    unfold okRu
    rw [if_pos ⟨hin, ok⟩]
  · rw [decide_eq_false hin]
    exact iteT (raise_at (hE (by unfold okRu; rw [if_neg (fun y => hin y.1)])) s1 rfl)
end
end Mw

/-! ### tuples: a slice that may be the whole, a sum whose left side may be empty, once a tuple -/
namespace Ts
open PySem L2 PyProof.Rows PySem.Spec
section
variable {s : Shared} {prog : Program} {w : World} {A : Around} {E : Value → Shared → Prop}
theorem whole {t sl : Addr} {items : Array Value} {vl vu : Value} {lo hi : Option Int} {Q : Value → Shared → Prop} (ht : IsTup s.heap t items) (hs : s.heap.IsSliceOf sl vl vu .none) (pl : IsPart vl lo) (pu : IsPart vu hi)
    (hl : HT.sIx items.size 0 lo = 0) (hh : HT.sIx items.size items.size hi = items.size) (h : Q (.ref t) s) : wpAny (model prog w) A (getItem (.ref t) (.ref sl)) Q E s := by
  obtain ⟨os, so1, so2, so3⟩ := id hs
  have tys : s.TypeIs (.ref sl) "slice" := ⟨os, so1, so2⟩
  unfold getItem
  try (with_reducible refine wpAny_holding ?_)
  try refine wpAny_bind (wpAny_pure ?_)
  refine wpAny_bind (wpAny_sequenceKey ht.typeIs (by decide) (wpAny_bind (wpAny_callSpecial?_slot (name := Str.ofString "__getitem__") ht.typeIs slot_tuple_getitem
    (wpAny_call_entry slot_tuple_getitem ht.typeIs entry_tuple_getitem ?_ (args_tuple_getitem _ _)))))
  (show wpAny _ _ (Builtin.Tuple.tupleItemsOf (.ref t) >>= _) _ _ s); refine wpAny_bind (tupleItemsOf_ ht (wpAny_bind (wpAny_typeOf tys ?_)))
  rw [if_pos (by decide)]
  refine wpAny_bind (HT.sliceApplied_gen hs pl pu ?_)
  have hyes : (((HT.sIx items.size 0 lo : Nat) : Int) == 0 && (1 : Int) == 1 && (HT.sIx items.size items.size hi - HT.sIx items.size 0 lo) == items.size) = true := by
    rw [hl, hh]
    simp
  show wpAny _ _ (if (((HT.sIx items.size 0 lo : Nat) : Int) == 0 && (1 : Int) == 1 && (HT.sIx items.size items.size hi - HT.sIx items.size 0 lo) == items.size) = true then _ else _) _ _ s
  rw [if_pos hyes]
  unfold Builtin.Tuple.tupleIsExact
  refine wpAny_bind (wpAny_bind (wpAny_typeOf ht.typeIs (wpAny_pure ?_)))
  rw [if_pos (by decide)]
  first
    | exact wpAny_bind (wpAny_pure (wpAny_pure ⟨_, rfl, wpAny_pure h⟩))
    | (wp_walk; exact ⟨_, rfl, wpAny_pure h⟩)
theorem rep1 (l : Addr) (items : Array Value) (n : Nat) (dd : Option Addr) (sl : Array (Option Value)) (u : Tok) :
    Meets (Builtin.«tuple.__mul__» ⟨[.ref l, .int 1 u], []⟩) (fun _ R s => s.heap.get? l = some { cls := .type "tuple", dict := dd, data := .seq items n, slots := sl } ∧ R (.ok (.ret (Value.ref l))) s) :=
  .of_wp fun _ _ _ R sh h => by
    obtain ⟨hp, g, d, tk, os⟩ := sh; obtain ⟨hl, h⟩ := h
    have f1 := AutoSeq1.idx_int
    have c0 : (decide ((1 : Int) < -(2 ^ 63)) || decide ((1 : Int) ≥ 2 ^ 63)) = false := by decide
    have c1 : (items.isEmpty || (1 : Int) == 1) = true := by simp
    wp_walk using wpAny_loadPart' hl; exact ⟨_, rfl, h⟩
end
/-- what a tuple's slice is, the whole or less -/
def rSl (K : PySem.W.Frag) : V → Option Int → Option Int → Hp → VK → Prop := fun x lo hi H Q => ∃ a xs, x = .ref a ∧ SqT K H a xs ∧ ∀ p H', Same H H' → SqT K H' p (cutV xs lo hi) → Q (.ref p) H'
section
variable {X : Cx}
theorem sl : SlR X (rSl X.K) := by
  intro pn s σ H x v vl vu lo hi sp Q Iv rx hs pl pu hh
  obtain ⟨a, xs, rfl, hxs, q⟩ := hh
  by_cases hw : (HT.sIx xs.length 0 lo = 0) ∧ (HT.sIx xs.length xs.length hi = xs.length)
  · cases rx
    obtain ⟨ws1, r, ht, hbd⟩ := Iv.tuple hxs
    have eln : ws1.toArray.size = xs.length := by rw [List.size_toArray]; exact r.length.symm
    refine ⟨"tuple", _, PyProof.Rows.slot_tuple_getitem.lookup, ht.typeIs, whole ht hs pl pu (by rw [eln]; exact hw.1) (by rw [eln]; exact hw.2) ⟨.ref a, H, Iv, rfl, q a H (fun _ _ h => h) ?_⟩⟩
    have e : cutV xs lo hi = xs := by
      unfold cutV
      rw [hw.1, hw.2]
      simp
    rw [e]
    exact hxs
  · exact sl_tup pn s σ H _ v vl vu lo hi sp Q Iv rx hs pl pu ⟨a, xs, rfl, hxs, hw, fun p hp => q p _ (fun b o h => by rw [upd_ne (ne_of_none h hp)]; exact h) (SqT.of upd_same)⟩
/-- a sum of tuples -/
def rCat (K : PySem.W.Frag) : R2 := fun x y H Q => ∃ a b xs ys, x = .ref a ∧ y = .ref b ∧ SqT K H a xs ∧ SqT K H b ys ∧ xs.length + ys.length ≤ sizeLine ∧ ∀ p H', Same H H' → SqT K H' p (xs ++ ys) → Q (.ref p) H'
theorem cat : OpR X (binaryOp .Add) (rCat X.K) := by
  intro pn s σ H x y v u Q Iv rx ry hh
  obtain ⟨a, b, xs, ys, rfl, rfl, hta, hb, hbd, q⟩ := hh
  by_cases hxs : xs = []
  · subst hxs
    cases rx
    cases ry
    obtain ⟨ws1, rv1, p1, _⟩ := Iv.tuple hta
    obtain ⟨ws2, rv2, p2, _⟩ := Iv.tuple hb
    cases rv1
    obtain ⟨⟨cls, dd, data, sl⟩, ho, hc, n, hdt⟩ := id p1
    obtain ⟨⟨cls2, dd2, data2, sl2⟩, ho2, hc2, n2, hd2⟩ := id p2
    simp only at hc hdt hc2 hd2
    subst hc hdt hc2 hd2
    exact concat_meets ⟨_, ho, rfl⟩ ⟨_, ho2, rfl⟩ noFill_tuple_add seq_tuple_add PySem.F.slot_tuple_add PySem.F.entry_tuple_add (PySem.F.args_tuple_add_2 _ _) (tuple_addW0 a b _ ws2.toArray n n2 dd dd2 sl sl2 (by simp)) ⟨ho, ho2, ⟨.ref b, H, Iv, rfl, q b H (fun _ _ h => h) hb⟩⟩
  · refine op_catT pn s σ H _ _ v u Q Iv rx ry ⟨a, b, xs, ys, rfl, rfl, hta, hb, hxs, hbd, fun e => q a H (fun _ _ h => h) (by rw [e, List.append_nil]; exact hta), fun _ p hp => q p _ (fun b o h => by rw [upd_ne (ne_of_none h hp)]; exact h) (SqT.of upd_same)⟩
/-- a tuple some times -/
def rRep (K : PySem.W.Frag) : R2 := fun x y H Q => ∃ l k xs, x = .ref l ∧ y = .int k ∧ SqT K H l xs ∧ xs ≠ [] ∧ 1 ≤ k ∧ k ≤ 1000 ∧ xs.length ≤ 1000 ∧ ∀ p H', Same H H' → SqT K H' p (List.replicate k.toNat xs).flatten → Q (.ref p) H'
theorem rep : OpR X (binaryOp .Mult) (rRep X.K) := by
  intro pn s σ H x y v u Q Iv rx ry hh
  obtain ⟨l, k, xs, rfl, rfl, hTu, hnn, h1, h2, hbd, q⟩ := hh
  by_cases hk : k = 1
  · subst hk
    cases rx
    obtain ⟨t, rfl⟩ := ry
    obtain ⟨ws1, r, ⟨⟨cls, dd, data, sl⟩, ho, hc, n, hdt⟩, hs⟩ := Iv.tuple hTu
    simp only at hc hdt
    subst hc hdt
    exact wpAny_binaryOp_repeat_ref (T := "tuple") (U := "int") (by decide) ⟨_, ho, rfl⟩ (fun s' => typeIs_int s' 1 t) noFill_tuple_mul F.fills_int_mul F.slot_int_rmul repeat_tuple F.slot_int_index.lookup (call_meets F.slot_int_rmul (typeIs_int s 1 t) F.entry_int_rmul (F.args_int_rmul_2 _ _) (int_rmul_tuple 1 t l ws1.toArray n dd sl)
      ⟨ho, rfl, ⟨_, ho, rfl⟩, call_meets F.slot_tuple_mul ⟨_, ho, rfl⟩ F.entry_tuple_mul (F.args_tuple_mul_2 _ _) (rep1 l ws1.toArray n dd sl t) ⟨ho, ⟨.ref l, H, Iv, rfl, q l H (fun _ _ h => h) (by simpa using hTu)⟩⟩⟩)
  · exact op_repT pn s σ H _ _ v u Q Iv rx ry ⟨l, k, xs, rfl, rfl, hTu, hnn, by omega, h2, hbd, fun p hp => q p _ (fun b o h => by rw [upd_ne (ne_of_none h hp)]; exact h) (SqT.of upd_same)⟩
/-- tuple(..) of a list or a tuple -/
def rTup (K : PySem.W.Frag) : List V → Hp → VK → Prop := fun xs H Q => ∃ a ys, xs = [.ref a] ∧ (SqL K H a ys ∨ SqT K H a ys) ∧ ∀ p H', Same H H' → SqT K H' p ys → Q (.ref p) H'
theorem tup : CallR X (.type "tuple") (rTup X.K) := by
  intro pn s σ H xs us Q Iv r hh
  obtain ⟨a, ys, rfl, hta, q⟩ := hh
  refine call_tuple_of pn s σ H _ us Q Iv r ⟨a, ys, rfl, ?_⟩
  rcases hta with hta | hta
  · exact .inl ⟨hta, fun l hl => q l _ (fun b o h => by rw [upd_ne (ne_of_none h hl)]; exact h) (SqT.of upd_same)⟩
  · exact .inr ⟨hta, q a H (fun _ _ h => h) hta⟩
end
theorem same {K : PySem.W.Frag} {H H' : Hp} {a : Addr} {xs : List V} (e : Same H H') (h : SqT K H a xs) : SqT K H' a xs := by
  rcases h with (h | ⟨fo, h⟩) | h
  · exact Or.inl (Or.inl (e _ _ h))
  · exact Or.inl (Or.inr ⟨fo, e _ _ h⟩)
  · exact Or.inr h
end Ts

set_option maxHeartbeats 4000000
namespace Ts
open PySem L2 PyProof.Rows PySem.Spec
/-! ### a tuple no times; the place of a bool; a tuple in a tuple; lcm -/
theorem rep0 (l : Addr) (items : Array Value) (n : Nat) (dd : Option Addr) (sl : Array (Option Value)) (u : Tok) (hi : items.isEmpty = false) :
    Meets (Builtin.«tuple.__mul__» ⟨[.ref l, .int 0 u], []⟩) (fun _ R s => s.heap.get? l = some { cls := .type "tuple", dict := dd, data := .seq items n, slots := sl } ∧
      R (.ok (.ret (Value.ref s.heap.objs.size))) { s with heap := s.heap.push { cls := Value.type "tuple", data := Data.seq #[] }, toks := s.toks }) :=
  .of_wp fun prog w A R s h => by
    obtain ⟨hp, g, d, tk, os⟩ := s
    obtain ⟨hl, h⟩ := h
    have f1 := AutoSeq1.idx_int
    have c0 : (decide ((0 : Int) < -(2 ^ 63)) || decide ((0 : Int) ≥ 2 ^ 63)) = false := by decide
    have c1 : (items.isEmpty || (0 : Int) == 1) = false := by rw [hi]; rfl
    have c2 : (decide ((0 : Int) ≤ 0) || items.isEmpty) = true := by simp
    wp_walk using wpAny_loadPart' hl
    repeat (first
      | (refine wpAny_ite_false (decide_eq_false (by rw [c1]; exact Bool.false_ne_true)) ?_; wp_walk using wpAny_loadPart' hl)
      | (refine wpAny_ite_true (decide_eq_true c2) ?_; wp_walk using wpAny_loadPart' hl))
    exact ⟨_, rfl, h⟩
/-- a tuple some times, or none -/
def rRep0 (K : PySem.W.Frag) : R2 := fun x y H Q => ∃ l k xs, x = .ref l ∧ y = .int k ∧ SqT K H l xs ∧ xs ≠ [] ∧ 0 ≤ k ∧ k ≤ 1000 ∧ xs.length ≤ 1000 ∧ ∀ p H', Same H H' → SqT K H' p (List.replicate k.toNat xs).flatten → Q (.ref p) H'
section
variable {X : Cx}
theorem repz : OpR X (binaryOp .Mult) (rRep0 X.K) := by
  intro pn s σ H x y v u Q Iv rx ry hh
  obtain ⟨l, k, xs, rfl, rfl, hTu, hnn, h1, h2, hbd, q⟩ := hh
  by_cases hk : k = 0
  · subst hk
    cases rx
    obtain ⟨t, rfl⟩ := ry
    obtain ⟨ws1, r, ⟨⟨cls, dd, data, sl⟩, ho, hc, n, hdt⟩, hs⟩ := Iv.tuple hTu
    simp only at hc hdt
    subst hc hdt
    have hi : ws1.toArray.isEmpty = false := by
      cases ws1 with
      | nil => cases r; exact absurd rfl hnn
      | cons a b => rfl
    refine wpAny_binaryOp_repeat_ref (T := "tuple") (U := "int") (by decide) ⟨_, ho, rfl⟩ (fun s' => typeIs_int s' 0 t) noFill_tuple_mul F.fills_int_mul F.slot_int_rmul repeat_tuple F.slot_int_index.lookup (call_meets F.slot_int_rmul (typeIs_int s 0 t) F.entry_int_rmul (F.args_int_rmul_2 _ _) (int_rmul_tuple 0 t l ws1.toArray n dd sl)
      ⟨ho, rfl, ⟨_, ho, rfl⟩, call_meets F.slot_tuple_mul ⟨_, ho, rfl⟩ F.entry_tuple_mul (F.args_tuple_mul_2 _ _) (rep0 l ws1.toArray n dd sl t hi) ⟨ho, ?_⟩⟩)
    refine ⟨.ref s.heap.objs.size, _, Iv.laid (t' := s.toks) (o := .tup []) (fun b ob q => Heap.get?_push_of_some _ q) (Nat.le_refl _) ?_, rfl, q _ _ (fun b o h => by rw [upd_ne (ne_of_none h (Iv.hok.fresh (Nat.le_refl _)))]; exact h) (SqT.of upd_same)⟩
    exact ⟨Nat.zero_le _, [], .nil, IsTup.new _ _⟩
  · exact rep pn s σ H _ _ v u Q Iv rx ry ⟨l, k, xs, rfl, rfl, hTu, hnn, by omega, h2, hbd, q⟩
/-- t.index(b), a tuple of bools -/
def rIdxB (K : PySem.W.Frag) : V → List V → Hp → VK → Prop := fun x xs H Q => ∃ (p : Addr) (ys : List Bool) (z : Bool) (j : Nat), x = .ref p ∧ xs = [.bl z] ∧ SqT K H p (ys.map V.bl) ∧ ys[j]? = some z ∧ (∀ m, m < j → ys[m]? ≠ some z) ∧ Q (.int (j : Nat)) H
theorem mt_idxB : MtR X "tuple.index" (rIdxB X.K) := by
  intro pins s σ H x xs v us Q I rx rs h
  obtain ⟨p, ys, z, j, rfl, rfl, hq, hy, hno, q⟩ := h
  cases rx
  obtain ⟨u, rfl, hu⟩ := vals1 rs
  have hu : u = .bool z := hu
  subst hu
  obtain ⟨its, r, pl, hz⟩ := I.tuple hq
  obtain ⟨⟨cls, dd, dt, sl⟩, ho, hc, n, hd⟩ := pl
  simp only at hc hd
  subst hc
  subst hd
  have hl : its.toArray.size = ys.length := by rw [List.size_toArray, ← r.length, List.length_map]
  have hj : j < its.toArray.size := by rw [hl]; exact (List.getElem?_eq_some_iff.mp hy).1
  have at' : ∀ (m : Nat) (hm : m < its.toArray.size), ∃ y, ys[m]? = some y ∧ its.toArray[m] = Value.bool y := fun m hm => by
    have hm' : m < ys.length := by rw [← hl]; exact hm
    obtain ⟨w, hw, hw'⟩ := r.get (i := m) (x := .bl ys[m]) (by simp [hm'])
    refine ⟨ys[m], List.getElem?_eq_getElem hm', ?_⟩
    have e := (List.getElem?_eq_some_iff.mp hw).2
    have hw' : w = .bool ys[m] := hw'
    rw [← hw', ← e]
    simp
  have fl : (ys.map V.bl).all flatV = true := by
    rw [List.all_map]
    exact List.all_eq_true.mpr fun _ _ => rfl
  refine call_meets PySem.F.slot_tuple_index ⟨_, ho, rfl⟩ PySem.F.entry_tuple_index (PySem.F.args_tuple_index_2 _ _) (TI.tuple_indexAt p its.toArray n dd sl (.bool z) (eqU (.bl z)) j hj ?_ ?_)
    ⟨ho, fun w hw => mem_eqAt (x := .bl z) rfl rfl r fl w (by simpa using hw), ⟨.int (j : Nat), H, I.tok _, ⟨_, rfl⟩, q⟩⟩
  · obtain ⟨y, h1, h2⟩ := at' j hj
    rw [hy] at h1
    cases h1
    rw [h2]
    show (z == z) = true
    exact beq_self_eq_true z
  · intro m hm hmj
    obtain ⟨y, h1, h2⟩ := at' m hm
    rw [h2]
    show (y == z) = false
    exact beq_eq_false_iff_ne.mpr fun e => hno m hmj (e ▸ h1)
/-- x in t, t a tuple of data -/
def rInT (K : PySem.W.Frag) : R2 := fun x y H Q => ∃ d ds, Dp K H x d ∧ Dp K H y (.tuple ds) ∧ SeqAt.shaped d = true ∧ SeqAt.shaped (.tuple ds) = true ∧ Q (.bl (ds.any fun z => PyData.eqv z d)) H
theorem op_inT (hu : X.A.units + 65 < cLine) : OpR X (compareOp .In) (rInT X.K) := by
  intro pins s σ H x y v u Q I rx ry h
  obtain ⟨d, ds, hd, he, sd, se, q⟩ := h
  obtain ⟨as, r1⟩ := Dp.reads I d x v hd rx
  obtain ⟨bs, r2⟩ := Dp.reads I (.tuple ds) y u he ry
  exact SeqAt.in_tuple_reads r2 r1 (SeqAt.canLay_of_shaped se) (SeqAt.canLay_of_shaped sd) (room_in_shaped sd hu) ⟨.bl _, H, I, rfl, q⟩
def rLcm : List V → Hp → VK → Prop := fun vs H Q => ∃ a b : Nat, vs = [.int (a : Int), .int (b : Int)] ∧ a < 2 ^ 64 ∧ b < 2 ^ 64 ∧ Q (.int ((Nat.lcm a b : Nat) : Int)) H
theorem cr_lcm : CallR X (.builtin "math.lcm") rLcm := by
  intro pins s σ H vs us Q I r h
  obtain ⟨a, b, rfl, ha, hb, q⟩ := h
  obtain ⟨t, u, rfl⟩ := Vals.int2 r
  exact PySem.W.mc_lcm (by simpa using ha) (by simpa using hb) fun _ => ⟨.int _, H, I.tok _, ⟨_, rfl⟩, q⟩
end
end Ts

set_option maxHeartbeats 4000000
/-! ### tuples whose object has no dict -/
namespace Tn
open PySem L2 PyProof.Rows PySem.Spec
def NT (K : PySem.W.Frag) (H : Hp) (p : Addr) (xs : List V) : Prop := SqT K H p xs ∧ ((∃ ob, H p = some (.frz ob (.tup xs)) ∧ ob.dict = none) ∨ ∃ o, K.lookup p = some o ∧ o.cls = .type "tuple" ∧ o.dict = none)
theorem same {K : PySem.W.Frag} {H H' : Hp} {p : Addr} {xs : List V} (s : Same H H') (h : NT K H p xs) : NT K H' p xs := by
  refine ⟨Ts.same s h.1, ?_⟩
  rcases h.2 with ⟨ob, h1, h2⟩ | h
  · exact .inl ⟨ob, s _ _ h1, h2⟩
  · exact .inr h
theorem of {K : PySem.W.Frag} {H : Hp} {p : Addr} {xs : List V} {ob : Obj} (e : H p = some (.frz ob (.tup xs))) (d : ob.dict = none) : NT K H p xs := ⟨.inl (.inr ⟨ob, e⟩), .inl ⟨ob, e, d⟩⟩
section
variable {X : Cx}
theorem land {pn : List (Addr × Obj)} {σ : L2.St} {H : Hp} {s : Shared} {xs : List V} {its : List Value} (Iv : Inv X pn σ H s) (r : Vals xs its) (hl : xs.length ≤ sizeLine) {Q : VK}
    (q : ∀ p H', Same H H' → NT X.K H' p xs → Q (.ref p) H') : EP X pn σ Q (.ref s.heap.objs.size) { s with heap := s.heap.push { cls := .type "tuple", data := .seq its.toArray } } := by
  refine ⟨.ref s.heap.objs.size, _, Iv.laid (t' := s.toks) (o := .frz { cls := .type "tuple", data := .seq its.toArray } (.tup xs)) (fun b ob q => Heap.get?_push_of_some _ q) (Nat.le_refl _) ?_, rfl, q _ _ (fun b o h => by rw [upd_ne (ne_of_none h (Iv.hok.fresh (Nat.le_refl _)))]; exact h) (of upd_same rfl)⟩
  exact ⟨Heap.get?_push_size _ rfl, hl, its, r, IsTup.new _ _⟩
def rSl (K : PySem.W.Frag) : V → Option Int → Option Int → Hp → VK → Prop := fun x lo hi H Q => ∃ a xs, x = .ref a ∧ NT K H a xs ∧ ∀ p H', Same H H' → NT K H' p (cutV xs lo hi) → Q (.ref p) H'
theorem sl : SlR X (rSl X.K) := by
  intro pn s σ H x v vl vu lo hi sp Q Iv rx hs pl pu hh
  obtain ⟨a, xs, rfl, hxs, q⟩ := hh
  cases rx
  obtain ⟨ws1, r, ht, hbd⟩ := Iv.tuple hxs.1
  have eln : ws1.toArray.size = xs.length := by rw [List.size_toArray]; exact r.length.symm
  by_cases hw : (HT.sIx xs.length 0 lo = 0) ∧ (HT.sIx xs.length xs.length hi = xs.length)
  · refine ⟨"tuple", _, PyProof.Rows.slot_tuple_getitem.lookup, ht.typeIs, Ts.whole ht hs pl pu (by rw [eln]; exact hw.1) (by rw [eln]; exact hw.2) ⟨.ref a, H, Iv, rfl, q a H (fun _ _ h => h) ?_⟩⟩
    have e : cutV xs lo hi = xs := by
      unfold cutV
      rw [hw.1, hw.2]
      simp
    rw [e]
    exact hxs
  · refine ⟨"tuple", _, PyProof.Rows.slot_tuple_getitem.lookup, ht.typeIs, ?_⟩
    refine HT.getItem_tuple_cut ht hs pl pu (by rw [eln]; exact hw) ?_ (by rw [eln]; exact hbd)
    rw [eln]
    exact land Iv ((r.drop (HT.sIx xs.length 0 lo)).take (HT.sIx xs.length xs.length hi - HT.sIx xs.length 0 lo)) (Nat.le_trans (cutV_length xs lo hi) hbd) q
def rCat (K : PySem.W.Frag) : R2 := fun x y H Q => ∃ a b xs ys, x = .ref a ∧ y = .ref b ∧ NT K H a xs ∧ NT K H b ys ∧ xs.length + ys.length ≤ sizeLine ∧ ∀ p H', Same H H' → NT K H' p (xs ++ ys) → Q (.ref p) H'
theorem cat : OpR X (binaryOp .Add) (rCat X.K) := by
  intro pn s σ H x y v u Q Iv rx ry hh
  obtain ⟨a, b, xs, ys, rfl, rfl, hta, hb, hbd, q⟩ := hh
  cases rx
  cases ry
  obtain ⟨ws1, rv1, p1, _⟩ := Iv.tuple hta.1
  obtain ⟨ws2, rv2, p2, _⟩ := Iv.tuple hb.1
  by_cases hxs : xs = []
  · subst hxs
    cases rv1
    obtain ⟨⟨cls, dd, data, sl⟩, ho, hc, n, hdt⟩ := id p1
    obtain ⟨⟨cls2, dd2, data2, sl2⟩, ho2, hc2, n2, hd2⟩ := id p2
    simp only at hc hdt hc2 hd2
    subst hc hdt hc2 hd2
    exact concat_meets ⟨_, ho, rfl⟩ ⟨_, ho2, rfl⟩ noFill_tuple_add seq_tuple_add PySem.F.slot_tuple_add PySem.F.entry_tuple_add (PySem.F.args_tuple_add_2 _ _) (tuple_addW0 a b _ ws2.toArray n n2 dd dd2 sl sl2 (by simp)) ⟨ho, ho2, ⟨.ref b, H, Iv, rfl, q b H (fun _ _ h => h) hb⟩⟩
  · refine HT.cat_tup p1 p2 (fun z => hxs (rv1.nil_iff.mp z)) (fun z => ⟨.ref a, H, Iv, rfl, q a H (fun _ _ h => h) (by rw [rv2.nil_iff.mp z, List.append_nil]; exact hta)⟩) (fun z => ?_) (by rw [← rv1.length, ← rv2.length]; exact hbd)
    exact land Iv (rv1.append rv2) (by rw [List.length_append]; exact hbd) q
def rRep (K : PySem.W.Frag) : R2 := fun x y H Q => ∃ l k xs, x = .ref l ∧ y = .int k ∧ NT K H l xs ∧ xs ≠ [] ∧ 0 ≤ k ∧ k ≤ 1000 ∧ xs.length ≤ 1000 ∧ ∀ p H', Same H H' → NT K H' p (List.replicate k.toNat xs).flatten → Q (.ref p) H'
theorem rep : OpR X (binaryOp .Mult) (rRep X.K) := by
  intro pn s σ H x y v u Q Iv rx ry hh
  obtain ⟨l, k, xs, rfl, rfl, hTu, hnn, h0, h2, hz, q⟩ := hh
  cases rx
  obtain ⟨t, rfl⟩ := ry
  obtain ⟨its, r, ⟨⟨cls, dd, data, sl⟩, ho, hc, n, hdt⟩, hs⟩ := Iv.tuple hTu.1
  simp only at hc hdt
  subst hc hdt
  have hle : its.length = xs.length := r.length.symm
  have hi : its.toArray.isEmpty = false := by
    cases its with
    | nil => cases r; exact absurd rfl hnn
    | cons a b => rfl
  rcases (show k = 0 ∨ k = 1 ∨ 2 ≤ k by omega) with hk | hk | h1
  · subst hk
    refine wpAny_binaryOp_repeat_ref (T := "tuple") (U := "int") (by decide) ⟨_, ho, rfl⟩ (fun s' => typeIs_int s' 0 t) noFill_tuple_mul F.fills_int_mul F.slot_int_rmul repeat_tuple F.slot_int_index.lookup (call_meets F.slot_int_rmul (typeIs_int s 0 t) F.entry_int_rmul (F.args_int_rmul_2 _ _) (int_rmul_tuple 0 t l its.toArray n dd sl)
      ⟨ho, rfl, ⟨_, ho, rfl⟩, call_meets F.slot_tuple_mul ⟨_, ho, rfl⟩ F.entry_tuple_mul (F.args_tuple_mul_2 _ _) (Ts.rep0 l its.toArray n dd sl t hi) ⟨ho, ?_⟩⟩)
    exact land (its := []) Iv .nil (Nat.zero_le _) q
  · subst hk
    exact wpAny_binaryOp_repeat_ref (T := "tuple") (U := "int") (by decide) ⟨_, ho, rfl⟩ (fun s' => typeIs_int s' 1 t) noFill_tuple_mul F.fills_int_mul F.slot_int_rmul repeat_tuple F.slot_int_index.lookup (call_meets F.slot_int_rmul (typeIs_int s 1 t) F.entry_int_rmul (F.args_int_rmul_2 _ _) (int_rmul_tuple 1 t l its.toArray n dd sl)
      ⟨ho, rfl, ⟨_, ho, rfl⟩, call_meets F.slot_tuple_mul ⟨_, ho, rfl⟩ F.entry_tuple_mul (F.args_tuple_mul_2 _ _) (Ts.rep1 l its.toArray n dd sl t) ⟨ho, ⟨.ref l, H, Iv, rfl, q l H (fun _ _ h => h) (by simpa using hTu)⟩⟩⟩)
  · have hsz0 : its.toArray.size = xs.length := by rw [List.size_toArray, hle]
    have hm : ((its.toArray.size : Nat) : Int) * k ≤ 1000000 := by
      rw [hsz0]
      have a1 : ((xs.length : Nat) : Int) * k ≤ 1000 * k := Int.mul_le_mul_of_nonneg_right (by omega) (by omega)
      omega
    have flen : (List.replicate k.toNat its).flatten.length ≤ sizeLine := by
      rw [PyProof.Rows.lm_len_rep_flat, hle, sizeLine_eq]
      have a1 : k.toNat * xs.length ≤ 1000 * 1000 := Nat.mul_le_mul (by omega) hz
      omega
    have c0 : (decide (k < -(2 ^ 63)) || decide (k ≥ 2 ^ 63)) = false := by
      rw [decide_eq_false (by omega), decide_eq_false (by omega)] <;> rfl
    have c1 : (its.toArray.isEmpty || k == 1) = false := by
      rw [hi, Bool.false_or]
      exact beq_eq_false_iff_ne.mpr (by omega)
    have c2 : (decide (k ≤ 0) || its.toArray.isEmpty) = false := by
      rw [hi, Bool.or_false]
      exact decide_eq_false (by omega)
    have c4 : Builtin.Tuple.tupleTooMany (((its.toArray.size : Nat) : Int) * k) = false := by
      unfold Builtin.Tuple.tupleTooMany
      rw [sizeLine_eq]
      exact decide_eq_false (by omega)
    refine wpAny_binaryOp_repeat_ref (T := "tuple") (U := "int") (by decide) ⟨_, ho, rfl⟩ (fun s' => typeIs_int s' k t) noFill_tuple_mul F.fills_int_mul F.slot_int_rmul repeat_tuple F.slot_int_index.lookup
      (call_meets F.slot_int_rmul (typeIs_int s k t) F.entry_int_rmul (F.args_int_rmul_2 _ _) (int_rmul_tuple k t l its.toArray n dd sl)
        ⟨ho, rfl, ⟨_, ho, rfl⟩, call_meets F.slot_tuple_mul ⟨_, ho, rfl⟩ F.entry_tuple_mul (F.args_tuple_mul_2 _ _) (tuple_mulW l its.toArray n dd sl k t c0 c1 c2 (by omega) c4 (by rw [size_rep, List.size_toArray]; exact flen)) ⟨ho, ?_⟩⟩)
    rw [size_rep]
    refine land Iv (r.rep k.toNat) ?_ q
    rw [PyProof.Rows.lm_len_rep_flat, sizeLine_eq]
    have a1 : k.toNat * xs.length ≤ 1000 * 1000 := Nat.mul_le_mul (by omega) hz
    omega
def rTup (K : PySem.W.Frag) : List V → Hp → VK → Prop := fun xs H Q => ∃ a ys, xs = [.ref a] ∧ (SqL K H a ys ∨ NT K H a ys) ∧ ∀ p H', Same H H' → NT K H' p ys → Q (.ref p) H'
theorem tup : CallR X (.type "tuple") (rTup X.K) := by
  intro pn s σ H xs us Q I r hh
  obtain ⟨p, ys, rfl, h, q⟩ := hh
  obtain ⟨u, rfl, rx⟩ := vals1 r
  cases rx
  rcases h with hq | hq
  · obtain ⟨its, r', pl, hz⟩ := I.list hq
    have hlen := r'.length
    refine call_tuple_list pl.isList (fun h' kp => ?_) (by simp only [List.size_toArray] <;> omega)
    have I1 : Inv X pn σ H { s with heap := h' } := I.kept (t' := s.toks) kp
    exact land I1 r' hz q
  · obtain ⟨its, r', pl, hz⟩ := I.tuple hq.1
    exact call_tuple_same pl ⟨.ref p, H, I, rfl, q p H (fun _ _ h => h) hq⟩
variable {e : Expr} {es : List Expr} {t : TA} {pos : Pos}
def tTupN (K : PySem.W.Frag) (t : TA) : TE := fun σ H Q => t σ H fun xs H1 => xs.length ≤ sizeLine ∧ ∀ p H', Same H1 H' → NT K H' p xs → Q (.ref p) H'
theorem pe_tupN {x1} (h : PA X es t) : PE X (.Tuple es x1 pos) (tTupN X.K t) := by
  refine ⟨fun pins s σ H Q I hq => ?_⟩
  refine wpAny_Tuple_spliced (thn (h.run pos pins s σ H _ I hq) fun us s1 ⟨xs, H1, I1, r, z, q⟩ => ⟨by rw [← r.length]; exact z, ?_⟩)
  exact land I1 r z q
variable {o : Expr} {to : TE} {name : Str} {apos cpos : Pos} {id : String} {r : V → List V → Hp → VK → Prop}
def tBMN (K : PySem.W.Frag) (r : V → List V → Hp → VK → Prop) (to : TE) (t : TA) : TE := fun σ H Q => to σ H fun x H1 => (∃ p xs, x = .ref p ∧ NT K H1 p xs) ∧ t σ H1 fun vs H2 => r x vs H2 Q
theorem pe_bmN (slot : Slot "tuple" name id) (hty : typeOf (.builtin id) = pure (.type "method_descriptor")) (hm : MtR X id r) (ho : PE X o to) (ha : PA X (e :: es) t)
    (hbase : attributeBase o name X.env (eval o X.env) = eval o X.env := by rfl)
    (hfew : ((backTo cpos (starEach (e :: es) X.env)).all (fun x => !x.1) && (backToKw cpos (keywordEach [] X.env)).all (fun x => x.1.isSome)
      && decide ((e :: es).length + ([] : List Keyword).length + (if ([] : List Keyword).isEmpty then 0 else 1) < 30)) = true := by rfl)
    (hline : (apos.endLine == cpos.line) = true := by rfl) (hs : starEach (e :: es) X.env = (false, eval e X.env) :: starEach es X.env := by rfl) (hplain : (backTo cpos (starEach es X.env)).any (·.1) = false := by rfl) :
    PE X (.Call (.Attribute o name apos) (e :: es) [] cpos) (tBMN X.K r to t) := by
  refine ⟨fun pins s σ H Q I h => ?_⟩
  refine wpAny_Call_method_late hbase hfew hline rfl (thn (ho.run pins s σ H _ I h) fun v s1 ⟨x, H1, I1, r1, ⟨p, xs, ep, ty⟩, q1⟩ => ?_)
  subst ep
  cases r1
  obtain ⟨its, rr, pl, hz⟩ := I1.tuple ty.1
  have h2 : ∀ a, Value.ref p = .ref a → ∃ ob, s1.heap.get? a = some ob ∧ ob.dict = none := by
    intro a ea
    cases ea
    rcases ty.2 with ⟨ob, e1, e2⟩ | ⟨ob, e1, _, e2⟩
    · have := I1.hok p _ e1
      exact ⟨ob, this.1, e2⟩
    · exact ⟨ob, I1.kIn p ob e1, e2⟩
  refine ⟨"tuple", id, PySem.F.plainAttrs_tuple, slot, hty, pl.typeIs, h2, ?_⟩
  have hA := ha.run cpos pins s1 σ H1 _ I1 q1
  rw [hs] at hA ⊢
  refine Calls.callWith_builtin (by show (false || (backTo cpos (starEach es X.env)).any (·.1)) = false; rw [hplain] <;> rfl) (Calls.evalArgs_plain ?_)
  exact thn hA fun us s2 ⟨vs, H2, I2, r2, q2⟩ => hm pins s2 σ H2 (.ref p) vs (.ref p) us Q I2 rfl r2 q2
end
end Tn

namespace Mw
open PySem L2 SX
theorem cut_suf (xs : List V) (i : Nat) (h : i ≤ xs.length) : cutV xs (some (i : Int)) none = xs.drop i := by
  unfold cutV
  rw [HT.sIx_none, HT.sIx_nat, Nat.min_eq_left h, List.take_of_length_le]
  rw [List.length_drop]
  exact Nat.le_refl _
/-- for i, x in enumerate(xs, start=c) -/
theorem for_enumC {K : PySem.W.Frag} {a : Addr} {c : Int} {xs : List V} {g : TG} {tb : TS} {D : Ends} {σ : L2.St} {H : Hp} (Pv : Nat → L2.St → Hp → Prop) (h0 : Pv 0 σ H) (hl : ∀ i σ H, i ≤ xs.length → Pv i σ H → SqL K H a xs)
    (hs : ∀ i x σ H T, xs[i]? = some x → Pv i σ H → H T = none → g (.ref T) σ (upd H T (.tup [.int (c + (i : Nat)), x])) fun σ2 H2 => tb { D with nx := Pv (i + 1), ct := Pv (i + 1), bk := D.nx } σ2 H2) (hd : ∀ σ H, Pv xs.length σ H → D.nx σ H) :
    ∃ W : Nat → Nat → L2.St → Hp → Prop, (∃ m, W 0 m σ H) ∧ ∀ i m σ H, W i m σ H →
      ((En.IteC K a c).stop i H ∧ D.nx σ H) ∨ ((En.IteC K a c).go i H ∧ ∃ N : L2.St → Hp → Prop, (∀ σ' H', N σ' H' → ∃ m', m' < m ∧ W (i + 1) m' σ' H') ∧ ∀ x H', (En.IteC K a c).yld i H x H' → g x σ H' fun σ2 H2 => tb { D with nx := N, ct := N, bk := D.nx } σ2 H2) := by
  refine ⟨fun i m σ H => m = xs.length - i ∧ i ≤ xs.length ∧ Pv i σ H, ⟨xs.length, rfl, Nat.zero_le _, h0⟩, ?_⟩
  rintro i m σ H ⟨rfl, hi, p⟩
  have q := hl i σ H hi p
  by_cases hlt : i < xs.length
  · refine .inr ⟨⟨xs, xs[i], q, List.getElem?_eq_getElem hlt⟩, Pv (i + 1), fun σ' H' p' => ⟨xs.length - (i + 1), by omega, rfl, hlt, p'⟩, fun x H' y => ?_⟩
    obtain ⟨T, y, rfl, hT, rfl, hy⟩ := y
    exact hs i y σ H T (hy xs q) p hT
  · have e : i = xs.length := by omega
    subst e
    exact .inl ⟨⟨xs, q, Nat.le_refl _⟩, hd σ H p⟩
/-- the first place of an item -/
def ixOf (c : Str) : List Str → Nat
  | [] => 0
  | b :: L => if b = c then 0 else ixOf c L + 1
theorem ixOf_ok {c : Str} : ∀ {L : List Str}, c ∈ L → L[ixOf c L]? = some c ∧ ∀ m, m < ixOf c L → L[m]? ≠ some c
  | b :: L, h => by
    unfold ixOf
    by_cases e : b = c
    · rw [if_pos e]
      exact ⟨by rw [e]; rfl, fun m hm => absurd hm (Nat.not_lt_zero _)⟩
    · rw [if_neg e]
      obtain ⟨h1, h2⟩ := ixOf_ok (L := L) (by
        rcases List.mem_cons.mp h with h | h
        · exact absurd h.symm e
        · exact h)
      refine ⟨by simpa using h1, fun m hm => ?_⟩
      cases m with
      | zero => simpa using e
      | succ m => simpa using h2 m (Nat.lt_of_succ_lt_succ hm)
def cats : List Str := ["zero", "one", "two", "few", "many"]
/-- the number of the first wrong line -/
def bad : List Str → Nat → Nat → Option Nat
  | [], _, _ => none
  | r :: rs, k, n => match okRu (cats.drop k) r with
    | none => some n
    | some c => bad rs (k + (ixOf c (cats.drop k) + 1)) (n + 1)
def nlS : Str := S [10]
theorem okRu_in {ns : List Str} {a c : Str} (h : okRu ns a = some c) : c ∈ ns := by
  unfold okRu at h
  split at h
  · rename_i e
    cases h
    exact e.1
  · cases h
section
variable {P : Program} {w : World} {K : PySem.W.Frag} {mg : Str → Option Value} {base : Heap} {CE fB : Addr} {fdB : FuncData}
/-! ### parse_language -/
abbrev sPg : Stmt := top 19
theorem scPg : FnScope ["text", "rules", "allowed", "lines", "line", "row", "rule"] ["text"] (defScope sPg) := ⟨rfl, rfl, rfl, by decide +kernel, rfl, by decide +kernel, by decide +kernel⟩
def spPg (CE : Addr) : Sp := fun vs H Q E => ∃ (a : Str) (m : Nat), vs = [.str a] ∧ (1 ≤ a.length ∧ a.length ≤ 3000) ∧ (Txt.split a nlS).length ≤ 100 ∧ (Txt.split a nlS).all smRu = true ∧ bad (Txt.split a nlS) 0 1 = some m ∧ LErr CE H E (m : Int)
theorem ok_pg {f fU ca : Addr} {fd fdU : FuncData} (F : Fun K "parse_language" "parse_language" sPg f fd)
    (GU : FnOk P w K mg base (L2.CX P w) 8 fU fdU ["text", "line", "allowed"] (spPu K CE)) (bU : Binds K fdU ["text", "line", "allowed"] []) (kU : PySem.W.keepIn K (.ref fU) = true) (mU : mg "parse_rule" = some (.ref fU))
    (mCat : mg "CATEGORIES" = some (.ref ca)) (hCat : ∀ H, Tn.NT K H ca (cats.map V.str)) (me : mg "enumerate" = none) : FnOk P w K mg base (L2.CX P w) 9 f fd ["text"] (spPg CE) := by
  refine F.okX scPg (fun vs H Q E h => ?_) (fun cdv A outer s H vs Q E hr h => ?_)
  · obtain ⟨rs, m, rfl, _⟩ := h
    rfl
  obtain ⟨a, m, rfl, ⟨ha1, ha2⟩, hn, hall, hbad, hE⟩ := h
  have nd := scPg.nd
  refine ⟨_, (pss_cons (ps_set (i := 1) nd rfl (.inl rfl) (pe_lst pa_nil))
      (pss_cons (ps_set (i := 2) nd rfl (.inl rfl) (pe_glob rfl mCat (v := .ref ca) rfl))
      (Evl.pss_cut (ps_set (i := 3) nd rfl (.inl rfl) (pe_ifExp (pt_truth (pv 0) (by intro _; rfl)) (pe_split (pv 0) pe_str) (pe_lst pa_nil)))
      (pss_cons (ps_for (passes_of rfl) rfl (En.pi_enumC rfl me (pa_cons (pv 3) pa_nil) (pk_cons pe_int pk_nil)) (pg_tup rfl (pgs_cons (pg_name (i := 4) nd rfl (.inl rfl)) (pgs_cons (pg_name (i := 5) nd rfl (.inl rfl)) pgs_nil))) (pss_cons (ps_set (i := 6) nd rfl (.inl rfl) (pe_call GU hr rfl mU kU bU .nil (Ca.passA (Ca.takesA_of (takes_of rfl rfl rfl rfl))) (pa_cons (pv 5) (pa_cons (pv 4) (pa_cons (pv 2) pa_nil)))))
      (pss_cons (ps_expr (pe_bm PySem.F.plainAttrs_list PySem.F.slot_list_append PySem.F.type_list_append mt_append (pv 1) (pa_cons (pv 6) pa_nil)))
      (pss_one (ps_set (i := 2) nd rfl (.inl rfl) (pe_slice Tn.sl (pv 2) (po_some (pe_op op_add (Tn.pe_bmN PySem.F.slot_tuple_index PySem.F.type_tuple_index Tx1.mt_idxS (pv 2) (pa_cons (pe_ix ix_tup (pv 6) pe_int (fun _ _ => rfl)) pa_nil)) pe_int)) po_none))))))
      (pss_one (ps_never)))))), ?_⟩
  refine ⟨Nat.zero_le _, fun rl hrl => ?_⟩
  generalize hH0 : upd H rl (.lst []) = HR
  have s0 : Same H HR := by rw [← hH0]; exact same_new hrl _
  have hr0 : HR rl = some (.lst []) := by rw [← hH0]; exact upd_same
  refine ⟨fun σ' H' => ∃ lp, σ' = [some (.str a), some (.ref rl), some (.ref ca), some (.ref lp), none, none, none] ∧ Same HR H' ∧ H' lp = some (.lst ((Txt.split a nlS).map V.str)) ∧ lp ≠ rl, ?_, ?_⟩
  · refine ⟨_, rfl, _, ⟨le_line (by omega), rfl⟩, ?_⟩
    have h1 : (((a.length : Nat) : Int) != 0) = true := by
      simp only [bne_iff_ne]
      omega
    rw [h1]
    refine iteT ⟨_, rfl, ⟨_, rfl⟩, _, _, rfl, rfl, rfl, le_line (by omega), fun lp hlp => ?_⟩
    rw [show ("\n" : Str) = nlS by decide +kernel]
    exact ⟨lp, rfl, same_new hlp _, upd_same, (ne_of_none hr0 hlp).symm⟩
  rintro σ' H1 ⟨lp, rfl, s1, hlp, hne⟩
  refine ⟨_, rfl, lp, _, 1, rfl, rfl, SqL.of hlp, by decide, by decide, ?_⟩
  generalize hws : Txt.split a nlS = ws at *
  refine for_enumC (K := K) (a := lp) (xs := ws.map V.str) (fun i σ H' => ∃ (al : Addr) (k : Nat) (vs : List V) (o4 o5 o6 : Option V), σ = [some (.str a), some (.ref rl), some (.ref al), some (.ref lp), o4, o5, o6] ∧ H' lp = some (.lst (ws.map V.str)) ∧ Same H H' ∧ H' rl = some (.lst vs) ∧ vs.length = i ∧ Tn.NT K H' al ((cats.drop k).map V.str) ∧ bad (ws.drop i) k (i + 1) = some m)
    ⟨ca, 0, [], none, none, none, rfl, hlp, s0.trans s1, s1 _ _ hr0, rfl, hCat _, hbad⟩ (fun i σ H' _ ⟨_, _, _, _, _, _, _, e, _⟩ => SqL.of e) ?_ ?_
  · rintro i x σ H2 T hx ⟨al, k, vs, o4, o5, o6, rfl, hlp2, s2, hrl2, hvl, hnt, hbd⟩ hT
    rw [List.getElem?_map] at hx
    cases hz : ws[i]? with
    | none => rw [hz] at hx; cases hx
    | some r =>
      rw [hz] at hx
      cases hx
      have hi := (List.getElem?_eq_some_iff.mp hz).1
      have hdr : ws.drop i = r :: ws.drop (i + 1) := by
        rw [List.drop_eq_getElem_cons hi, (List.getElem?_eq_some_iff.mp hz).2]
      rw [hdr] at hbd
      have hsm := List.all_eq_true.mp hall r (List.mem_of_getElem? hz)
      have sT : Same H2 (upd H2 T (.tup [.int (1 + (i : Nat)), .str r])) := same_new hT _
      have hnt' := Tn.same sT hnt
      refine ⟨T, _, rfl, .inl (.inl upd_same), rfl, _, _, rfl, _, [], rfl, rfl, ?_⟩
      refine ⟨_, rfl, _, rfl, _, rfl, r, _, al, cats.drop k, rfl, hnt'.1, hsm, fun z => ?_, fun c p v H3 hok s3 hp0 hp3 => ?_⟩
      · unfold bad at hbd
        rw [z] at hbd
        cases hbd
        have z2 := (hE.same s2).same sT
        rw [show (((i + 1 : Nat) : Nat) : Int) = 1 + (i : Nat) by omega] at z2
        exact z2
      have hmem := okRu_in hok
      have hbd' : bad (ws.drop (i + 1)) (k + (ixOf c (cats.drop k) + 1)) (i + 1 + 1) = some m := by
        unfold bad at hbd
        rw [hok] at hbd
        exact hbd
      have s23 := sT.trans s3
      have hrl3 := s23 _ _ hrl2
      have prl : p ≠ rl := by rintro rfl; rw [sT _ _ hrl2] at hp0; cases hp0
      refine ⟨_, rfl, .inl ⟨rfl, _, SqL.of hrl3⟩, _, rfl, rl, vs, _, rfl, rfl, hrl3, sz_line (by omega), ?_⟩
      generalize hH4 : upd H3 rl (.lst (vs ++ [.ref p])) = H4
      have tk : ∀ b o, b ≠ rl → H3 b = some o → H4 b = some o := fun b o n h => by
        rw [← hH4, upd_ne n]
        exact h
      have hnt3 := Tn.same s3 hnt'
      have hnt4 : Tn.NT K H4 al ((cats.drop k).map V.str) := by
        have key : ∀ {xs : List V}, SqT K H3 al xs → SqT K H4 al xs := fun {xs} h => by
          rcases h with (h | ⟨fo, h⟩) | h
          · exact .inl (.inl (tk _ _ (by rintro rfl; rw [hrl3] at h; cases h) h))
          · exact .inl (.inr ⟨fo, tk _ _ (by rintro rfl; rw [hrl3] at h; cases h) h⟩)
          · exact .inr h
        refine ⟨key hnt3.1, ?_⟩
        rcases hnt3.2 with ⟨ob, h, d⟩ | h
        · exact .inl ⟨ob, tk _ _ (by rintro rfl; rw [hrl3] at h; cases h) h, d⟩
        · exact .inr h
      have hp4 : H4 p = some (.tup [.str c, v]) := tk _ _ prl hp3
      obtain ⟨hj, hjm⟩ := ixOf_ok hmem
      have hjl := (List.getElem?_eq_some_iff.mp hj).1
      generalize ixOf c (cats.drop k) = j at hj hjm hjl hbd'
      refine ⟨_, rfl, _, rfl, ⟨al, _, rfl, hnt4⟩, _, rfl, p, _, 0, .str c, rfl, rfl, .inl (.inl hp4), atI_nat (j := 0) rfl, al, cats.drop k, c, j, rfl, rfl, hnt4.1, hj, hjm, ?_⟩
      refine ⟨_, _, rfl, rfl, ?_⟩
      refine ⟨_, rfl, al, _, rfl, hnt4, fun p5 H5 s5 hnt5 => ?_⟩
      rw [show ((j : Int) + 1) = ((j + 1 : Nat) : Int) by omega, cut_suf _ _ (by rw [List.length_map]; omega), ← List.map_drop, List.drop_drop] at hnt5
      have hlp4 : H4 lp = some (.lst (ws.map V.str)) := tk _ _ hne (s23 _ _ hlp2)
      have hrl4 : H4 rl = some (.lst (vs ++ [.ref p])) := by rw [← hH4]; exact upd_same
      have sH4 : Same H H4 := fun b o h => tk _ _ (by rintro rfl; rw [hrl] at h; cases h) (s23 _ _ (s2 _ _ h))
      exact ⟨p5, k + (j + 1), vs ++ [.ref p], _, _, _, rfl, s5 _ _ hlp4, sH4.trans s5, s5 _ _ hrl4, by rw [List.length_append, hvl]; rfl, hnt5, hbd'⟩
  · rintro σ H2 ⟨al, k, vs, o4, o5, o6, rfl, hlp2, s2, hrl2, hvl, hnt, hbd⟩
    rw [List.length_map, List.drop_length] at hbd
    cases hbd
end
end Mw

namespace Mw
open PySem L2 SX
/-! ### the law's lines -/
def wr0 : List Str := ["", "one", "one:", "one: ", "one:n in 1", "six: n in 1", "One: n in 1", "two: n in", "two: in 1", "two: n 1", "two: n is 1", "two: m in 1"]
def wr1 : List Str := ["two: n in 2..1", "two: n in 2..2", "two: n in 1...2", "two: n in 1..2..3", "two: n in 01", "two: n in 10000", "two: n in -1"]
def wr2 : List Str := ["two: n mod in 1", "two: n mod 1 in 0", "two: n mod 101 in 0", "two: n mod 010 in 0", "two: n in not 1", "two: not n in 1"]
def wr3 : List Str := ["two: n in 1,", "two: n in ,1", "two: n in 1, 2", "two: n in 1 and", "two: n in 1 or", "two: n in 1  or n in 2", " two: n in 1"]
def wr4 : List Str := ["two: n in 1 ", "two: n in 1,2,3,4,5,6,7,8,9", "other: n in 1", "two: n in 1\tor n in 2", "two: n in 1 and or n in 2", "two: n in 1 AND n in 2"]
def wrong : List Str := wr0 ++ wr1 ++ wr2 ++ wr3 ++ wr4
def good : List Str := ["zero: n in 0", "one: n mod 10 in 1 and n mod 100 not in 11", "two: n in 2", "few: n in 3..4 or n mod 7 in 0", "many: n in 9999"]
def thr : List Str := ["one: n in 1", "zero: n in 0", "two: n in 3"]
theorem bad_app : ∀ {xs : List Str} {k n m : Nat} (ys : List Str), bad xs k n = some m → bad (xs ++ ys) k n = some m
  | [], _, _, _, _, h => by cases h
  | r :: rs, k, n, m, ys, h => by
    rw [List.cons_append]
    unfold bad at h ⊢
    cases e : okRu (cats.drop k) r with
    | none =>
      rw [e] at h
      exact h
    | some c =>
      rw [e] at h
      exact bad_app ys h
theorem wrong_all : (wrong.all fun w => (List.range 5).all fun i => decide (bad (good.take i ++ [w]) 0 1 = some (i + 1))) = true := by decide +kernel
theorem wrong_at {w : Str} {i : Nat} (h : w ∈ wrong) (hi : i < 5) : bad (good.take i ++ [w]) 0 1 = some (i + 1) := by
  have := List.all_eq_true.mp wrong_all w h
  exact of_decide_eq_true (List.all_eq_true.mp this i (List.mem_range.mpr hi))
/-- the line that is spoilt is the first wrong one -/
theorem bad_set {w : Str} {i : Nat} {xs : List Str} (h : w ∈ wrong) (hi : i < 5) (h1 : xs.take i = good.take i) (h2 : xs[i]? = some w) : bad xs 0 1 = some (i + 1) := by
  have hl := (List.getElem?_eq_some_iff.mp h2).1
  have e : xs = (good.take i ++ [w]) ++ xs.drop (i + 1) := by
    conv => lhs; rw [← List.take_append_drop (i + 1) xs, List.take_add_one, h2, h1]
    rfl
  rw [e]
  exact bad_app _ (wrong_at h hi)
theorem thr_all : (thr.all fun x => decide (bad ["one: n in 1", "two: n in 2", x] 0 1 = some 3)) = true := by decide +kernel
theorem sm_all : ((wrong ++ good ++ thr).all fun x => smRu x && (!x.cps.toList.any (· == 10)) && decide (x.length ≤ 60)) = true := by decide +kernel
theorem sm_at {x : Str} (h : x ∈ wrong ++ good ++ thr) : smRu x = true ∧ 10 ∉ x.cps.toList ∧ x.length ≤ 60 := by
  have := List.all_eq_true.mp sm_all x h
  simp only [Bool.and_eq_true, decide_eq_true_eq, Bool.not_eq_true'] at this
  refine ⟨this.1.1, fun z => ?_, this.2⟩
  have h2 := this.1.2
  rw [List.any_eq_false] at h2
  exact h2 10 z (by rfl)
end Mw

namespace Mw
open PySem L2 SX
theorem tl_back (xs : List Str) : (xs.map TL.tl).map S = xs := by
  induction xs with
  | nil => rfl
  | cons x xs ih => rw [List.map_cons, List.map_cons, ih, show S (TL.tl x) = x from S_tl x]
theorem lines_back {xs : List Str} (hn : xs ≠ []) (h : ∀ x ∈ xs, 10 ∉ x.cps.toList) : Txt.split (Txt.join nlS xs) nlS = xs := by
  have e := tl_back xs
  rw [← e]
  unfold nlS
  rw [join_S, split_S (by simp) (by decide)]
  rw [TL.spl_join (by simpa using hn) fun p hp => ?_]
  obtain ⟨x, hx, rfl⟩ := List.mem_map.mp hp
  exact h x hx
theorem sum_len {N : Nat} : ∀ {xs : List Str}, (∀ x ∈ xs, x.length ≤ N) → (xs.map (·.length)).sum ≤ xs.length * N
  | [], _ => Nat.zero_le _
  | x :: xs, h => by
    have h1 := h x List.mem_cons_self
    have h2 := sum_len (N := N) fun y hy => h y (List.mem_cons_of_mem _ hy)
    rw [List.map_cons, List.sum_cons, List.length_cons, Nat.succ_mul]
    omega
end Mw

namespace Mw
open PySem L2
/-! ### isinstance(e, D), e an exception of just the class C, with fields -/
structure IsC (K : PySem.W.Frag) (C : Addr) : Prop where
  cl : (PySem.W.clsIn K C).isSome = true
  ga : PySem.W.findIn K (.ref C) "__getattribute__" = some (some (.builtin "BaseException.__getattribute__"))
  gg : PySem.W.findIn K (.ref C) "__getattr__" = some none
  eb : PySem.W.subIn K (.ref C) (.type "BaseException") = some true
  ca : PySem.W.findIn K (.ref C) "__class__" = some (some (.builtin "object.__class__"))
  cg : PySem.W.specialIn K (.builtin "object.__class__") "__get__" = some (some (.builtin "getset_descriptor.__get__"))
  ct : PySem.W.takesIn K (.builtin "object.__class__") = some true
  ob : PySem.W.mroIn K C (.type "object") = some true
def rIsY (K : PySem.W.Frag) (D a : Addr) (cls : Value) (d : Option Addr) : List V → Hp → VK → Prop := fun xs H Q => ∃ (C : Addr) (b : Bool), xs = [.ref a, .ref D] ∧ cls = .ref C ∧ IsC K C ∧ PySem.W.kitOne K (.ref C) (.ref D) = some b ∧ ∃ dd fs, d = some dd ∧ H dd = some (.xd fs) ∧ Q (.bl b) H
theorem call_isY {X : Cx} {a D : Addr} {oe : Obj} {cls : Value} {d : Option Addr} {pn : List (Addr × Obj)} (hz : Zc cls d oe) (hf : ∃ vs, oe.data = .fields vs) : CallR (X.suite a ((a, oe) :: pn)) (.builtin "isinstance") (rIsY X.K D a cls d) := by
  intro pins s σ H xs us Q I r h
  obtain ⟨C, b, rfl, rfl, T, e1, dd, fs, rfl, hdd, q⟩ := h
  cases r with
  | cons rx rr =>
    cases rr with
    | cons rt rr =>
      cases rr
      cases rx
      cases rt
      obtain ⟨hget, _⟩ := I.pin (a, oe) (List.mem_append.mpr (.inl List.mem_cons_self))
      obtain ⟨vs, hv⟩ := hf
      have hx : ObjOk X.prog X.w H s.heap dd (.xd fs) := I.hok dd _ hdd
      obtain ⟨mA, hns, _⟩ := hx
      obtain ⟨od, ho, _⟩ := lookIn_ns hns
      have J : PySem.W.InstAt s.heap a oe C (some od) := ⟨hget, hz.1, by unfold PySem.W.notCls; rw [hv] <;> rfl, by rw [hz.2]; exact ho⟩
      exact PySem.W.kia_one (PySem.W.kitx_exc T.cl T.ga T.gg T.eb T.ca T.cg T.ct T.ob) I.kIn J e1 (fun z => nomatch z) fun tk => ⟨.bl b, H, I.kept (t' := tk) fun _ _ z => z, rfl, q⟩
/-- what the row says of an error's class, read -/
structure EX (K : PySem.W.Frag) (mg : Str → Option Value) (x : Str) (C M : Addr) : Prop where
  m : mg x = some (.ref C)
  I : IsC K C
  F : XfC K C
  no : PySem.W.findIn K (.ref C) "line" = some none
  ex : PySem.W.exmOne K (.ref C) (.ref M) = some true
end Mw

namespace Mw
open PySem L2 SX
theorem len_joinL {S : Tx} {N : Nat} : ∀ {ps : List Tx}, (∀ p ∈ ps, p.length ≤ N) → (TL.joinL S ps).length ≤ ps.length * (N + S.length)
  | [], _ => Nat.zero_le _
  | [p], h => by
    have := h p (by simp)
    show p.length ≤ 1 * (N + S.length)
    omega
  | p :: q :: r, h => by
    have h1 := h p (by simp)
    have h2 := len_joinL (S := S) (N := N) (ps := q :: r) fun x hx => h x (List.mem_cons_of_mem _ hx)
    show (p ++ (S ++ TL.joinL S (q :: r))).length ≤ _
    rw [List.length_append, List.length_append]
    have e : (p :: q :: r).length * (N + S.length) = (q :: r).length * (N + S.length) + (N + S.length) := Nat.succ_mul _ _
    omega
/-- lines whose first wrong one is known -/
structure OKL (xs : List Str) (i : Nat) : Prop where
  b : bad xs 0 1 = some (i + 1)
  m : ∀ x ∈ xs, x ∈ wrong ++ good ++ thr
  n : xs ≠ []
  l : xs.length ≤ 5
  l2 : 2 ≤ xs.length
  i : i < 5
theorem mem_w {x : Str} (h : x ∈ wrong) : x ∈ wrong ++ good ++ thr := List.mem_append_left _ (List.mem_append_left _ h)
theorem mem_g {x : Str} (h : x ∈ good) : x ∈ wrong ++ good ++ thr := List.mem_append_left _ (List.mem_append_right _ h)
theorem mem_t {x : Str} (h : x ∈ thr) : x ∈ wrong ++ good ++ thr := List.mem_append_right _ h
theorem okl1 {w : Str} {i : Nat} (hw : w ∈ wrong) (hi : i < 5) : OKL (good.set i w) i := by
  refine ⟨bad_set hw hi ?_ ?_, fun x hx => ?_, ?_, ?_, by rw [List.length_set]; decide, hi⟩
  · match i, hi with
    | 0, _ | 1, _ | 2, _ | 3, _ | 4, _ => rfl
  · match i, hi with
    | 0, _ | 1, _ | 2, _ | 3, _ | 4, _ => rfl
  · rcases List.mem_or_eq_of_mem_set hx with h | rfl
    · exact mem_g h
    · exact mem_w hw
  · intro e
    have := congrArg List.length e
    rw [List.length_set] at this
    cases this
  · rw [List.length_set]
    decide
theorem okl2 {w w2 : Str} {i : Nat} (hw : w ∈ wrong) (hw2 : w2 ∈ wrong) (hi : i < 4) : OKL ((good.set i w).set 4 w2) i := by
  refine ⟨bad_set hw (by omega) ?_ ?_, fun x hx => ?_, ?_, ?_, by rw [List.length_set, List.length_set]; decide, by omega⟩
  · match i, hi with
    | 0, _ | 1, _ | 2, _ | 3, _ => rfl
  · match i, hi with
    | 0, _ | 1, _ | 2, _ | 3, _ => rfl
  · rcases List.mem_or_eq_of_mem_set hx with h | rfl
    · exact (okl1 hw (by omega)).m x h
    · exact mem_w hw2
  · intro e
    have := congrArg List.length e
    rw [List.length_set, List.length_set] at this
    cases this
  · rw [List.length_set, List.length_set]
    decide
theorem okl3 {x : Str} (h : x ∈ thr) : OKL ["one: n in 1", "two: n in 2", x] 2 := by
  refine ⟨of_decide_eq_true (List.all_eq_true.mp thr_all x h), fun y hy => ?_, by simp, by simp, by simp, by decide⟩
  have a1 : ("one: n in 1" : Str) ∈ thr := by decide +kernel
  simp only [List.mem_cons, List.not_mem_nil, or_false] at hy
  rcases hy with rfl | rfl | rfl
  · exact mem_t a1
  · exact mem_g (by decide +kernel)
  · exact mem_t h
theorem OKL.two {xs : List Str} {i : Nat} (h : OKL xs i) : 1 ≤ (Txt.join nlS xs).length ∧ (Txt.join nlS xs).length ≤ 3000 := by
  have e : Txt.join nlS xs = S (TL.joinL [10] (xs.map TL.tl)) := by
    conv => lhs; rw [← tl_back xs]
    exact join_S _ _
  rw [e, S_len]
  constructor
  · match xs, h.l2 with
    | x :: y :: r, _ => simp [TL.joinL]; omega
  · refine Nat.le_trans (len_joinL (S := [10]) (N := 60) fun p hp => ?_) ?_
    · obtain ⟨x, hx, rfl⟩ := List.mem_map.mp hp
      exact (sm_at (h.m x hx)).2.2
    · rw [List.length_map]
      exact Nat.le_trans (Nat.mul_le_mul_right 61 h.l) (by decide)
/-- their text, as parse_language wants it -/
theorem OKL.text {xs : List Str} {i : Nat} (h : OKL xs i) : Txt.split (Txt.join nlS xs) nlS = xs ∧ (Txt.split (Txt.join nlS xs) nlS).all smRu = true ∧ (xs.map (·.length)).sum ≤ 300 := by
  have e := lines_back h.n fun x hx => (sm_at (h.m x hx)).2.1
  refine ⟨e, ?_, ?_⟩
  · rw [e]
    exact List.all_eq_true.mpr fun x hx => (sm_at (h.m x hx)).1
  · refine Nat.le_trans (sum_len fun x hx => (sm_at (h.m x hx)).2.2) ?_
    exact Nat.mul_le_mul_right 60 h.l
end Mw

namespace Mw
open PySem L2 SX
def rJn (K : PySem.W.Frag) : V → List V → Hp → VK → Prop := fun x xs H Q => ∃ a p, ∃ ys : List Str, x = .str a ∧ xs = [.ref p] ∧ (SqL K H p (ys.map V.str) ∨ SqT K H p (ys.map V.str)) ∧ (ys.map (·.length)).sum + ys.length * a.length ≤ 16777216 ∧ Q (.str (Txt.join a ys)) H
theorem cat2 {H : Hp} {w0 v1 w1 : Addr} {xs ys : List Str} (_hw : H w0 = some (.lst (xs.map V.str))) (h1 : H v1 = none) (k1 : upd H v1 (.lst (ys.map V.str)) w1 = none) :
    Same H (upd (upd H v1 (.lst (ys.map V.str))) w1 (.lst ((xs ++ ys).map V.str))) ∧ upd (upd H v1 (.lst (ys.map V.str))) w1 (.lst ((xs ++ ys).map V.str)) w1 = some (.lst ((xs ++ ys).map V.str)) :=
  ⟨(same_new h1 _).trans (same_new k1 _), upd_same⟩
section
variable {P : Program} {w : World} {K : PySem.W.Frag} {mg : Str → Option Value} {base : Heap}
abbrev sLaw : Stmt := top 24
abbrev nLaw : List Str := ["script", "box", "wrong", "turn", "lines", "first", "e"]
theorem scLaw : FnScope nLaw ["script"] (defScope sLaw) := ⟨rfl, rfl, rfl, by decide +kernel, rfl, by decide +kernel, by decide +kernel⟩
def spLaw (K : PySem.W.Frag) : Sp := fun vs H Q _ => ∃ (a : Addr) (ns : List Int), vs = [.ref a] ∧ SqL K H a (ns.map V.int) ∧ ∀ H', Q (.bl true) H'
theorem ok_law {f fG fD fP CE M : Addr} {fd fdG fdD fdP : FuncData} (F : Fun K "law" "law" sLaw f fd)
    (gG : FnOk P w K mg base CX0 2 fG fdG ["script", "first", "last"] (spDigits K)) (bG : Binds K fdG ["script", "first", "last"] []) (kG : PySem.W.keepIn K (.ref fG) = true) (mG : mg "_law_digits" = some (.ref fG))
    (gD : FnOk P w K mg base CX0 1 fD fdD ["box", "many"] spDraw) (bD : Binds K fdD ["box", "many"] []) (kD : PySem.W.keepIn K (.ref fD) = true) (mD : mg "_law_draw" = some (.ref fD))
    (GP : FnOk P w K mg base (L2.CX P w) 9 fP fdP ["text"] (spPg CE)) (bP : Binds K fdP ["text"] []) (kP : PySem.W.keepIn K (.ref fP) = true) (mP : mg "parse_language" = some (.ref fP))
    (mM : mg "MessagewaysError" = some (.ref M)) (EX : EX K mg "LineError" CE M) (mi : mg "isinstance" = none) (mB : mg "bool" = none) (mr : mg "range" = none) (ml : mg "len" = none) :
    FnOk P w K mg base CX0 10 f fd ["script"] (spLaw K) := by
  refine F.ok scLaw (fun vs H Q E h => ?_) (fun cdv A outer s H vs Q E hr h => ?_)
  · obtain ⟨a, ns, rfl, _⟩ := h
    rfl
  obtain ⟨a, ns, rfl, hS, q⟩ := h
  have nd := scLaw.nd
  refine ⟨_, (pss_cons (ps_set (i := 1) nd rfl (.inl rfl) (pe_lst (pa_cons (pe_call gG (hr.mono (by decide)) rfl mG kG bG .nil pass0 (pa_cons (pv 0) (pa_cons pe_int (pa_cons pe_int pa_nil)))) (pa_cons pe_int pa_nil))))
      (pss_cons (ps_set (i := 2) nd rfl (.inl rfl) (pe_lst (pa_cons pe_str (pa_cons pe_str (pa_cons pe_str (pa_cons pe_str (pa_cons pe_str (pa_cons pe_str (pa_cons pe_str (pa_cons pe_str (pa_cons pe_str (pa_cons pe_str (pa_cons pe_str (pa_cons pe_str pa_nil))))))))))))))
      (pss_cons (ps_set (i := 2) nd rfl (.inl rfl) (pe_op op_cat (pv 2) (pe_lst (pa_cons pe_str (pa_cons pe_str (pa_cons pe_str (pa_cons pe_str (pa_cons pe_str (pa_cons pe_str (pa_cons pe_str pa_nil))))))))))
      (pss_cons (ps_set (i := 2) nd rfl (.inl rfl) (pe_op op_cat (pv 2) (pe_lst (pa_cons pe_str (pa_cons pe_str (pa_cons pe_str (pa_cons pe_str (pa_cons pe_str (pa_cons pe_str pa_nil)))))))))
      (pss_cons (ps_set (i := 2) nd rfl (.inl rfl) (pe_op op_cat (pv 2) (pe_lst (pa_cons pe_str (pa_cons pe_str (pa_cons pe_str (pa_cons pe_str (pa_cons pe_str (pa_cons pe_str (pa_cons pe_str pa_nil))))))))))
      (pss_cons (ps_set (i := 2) nd rfl (.inl rfl) (pe_op op_cat (pv 2) (pe_lst (pa_cons pe_str (pa_cons pe_str (pa_cons pe_str (pa_cons pe_str (pa_cons pe_str (pa_cons pe_str pa_nil)))))))))
      (pss_cons (ps_for PassesOwn.never rfl (pi_range1 rfl mr (pa_cons pe_int pa_nil)) (pg_name (i := 3) nd rfl (.inl rfl)) (pss_cons (ps_set (i := 4) nd rfl (.inl rfl) (pe_lst (pa_cons pe_str (pa_cons pe_str (pa_cons pe_str (pa_cons pe_str (pa_cons pe_str pa_nil)))))))
      (pss_cons (ps_set (i := 5) nd rfl (.inl rfl) (pe_call gD (hr.mono (by decide)) rfl mD kD bD .nil pass0 (pa_cons (pv 1) (pa_cons pe_int pa_nil))))
      (pss_cons (ps_asg (pe_ix ix_list (pv 2) (pe_call gD (hr.mono (by decide)) rfl mD kD bD .nil pass0 (pa_cons (pv 1) (pa_cons (pe_callB call_len_seq (by rfl) ml PySem.boot_len (pa_cons (pv 2) pa_nil)) pa_nil))) (fun _ _ => rfl)) (pg_sub (pv 4) (pv 5) set_list))
      (Evl.pss_cut (ps_if (PW.pt (pw_and (pt_cmpR op_eq (pe_call gD (hr.mono (by decide)) rfl mD kD bD .nil pass0 (pa_cons (pv 1) (pa_cons pe_int pa_nil))) pe_int (nomark _)) (pw_and1 (pt_cmpR op_lt (pv 5) pe_int (nomark _))))) (pss_one (ps_asg (pe_ix ix_list (pv 2) (pe_call gD (hr.mono (by decide)) rfl mD kD bD .nil pass0 (pa_cons (pv 1) (pa_cons (pe_callB call_len_seq (by rfl) ml PySem.boot_len (pa_cons (pv 2) pa_nil)) pa_nil))) (fun _ _ => rfl)) (pg_sub (pv 4) pe_int set_list))) pss_nil)
      (Evl.pss_cut (ps_if (pt_cmpR op_eq (pe_call gD (hr.mono (by decide)) rfl mD kD bD .nil pass0 (pa_cons (pv 1) (pa_cons pe_int pa_nil))) pe_int (nomark _)) (pss_cons (ps_set (i := 4) nd rfl (.inl rfl) (pe_lst (pa_cons pe_str (pa_cons pe_str (pa_cons (pe_ix ix_list (pe_lst (pa_cons pe_str (pa_cons pe_str (pa_cons pe_str pa_nil)))) (pe_call gD (hr.mono (by decide)) rfl mD kD bD .nil pass0 (pa_cons (pv 1) (pa_cons pe_int pa_nil))) (fun _ _ => rfl)) pa_nil)))))
      (pss_one (ps_set (i := 5) nd rfl (.inl rfl) pe_int))) pss_nil)
      (pss_cons (ps_try_as (i := 6) (tb := fun W => tDrop (tCallS (spPg CE) (WE W) (tCons (tM1 (rJn K) (tC (.str "\n")) (tVar 4)) tNil)))
    (ts := fun a cls d => tSeq (tIfS (tOr (tNot (tB (tCB (rIsY K CE a cls d) (tCons (tVar 6) (tCons (tC (.ref CE)) tNil))))) (tOr (tB (tCB (rIsi K) (tCons (tXf a cls d CE "line" (tVar 6)) (tCons (tC (.ty "bool")) tNil)))) (tTest (tOp rNe (tXf a cls d CE "line" (tVar 6)) (tOp (rI0 fun i j => .int (i + j)) (tVar 5) (tC (.int 1))))))) (tRet (tC (.bl false))) tNext) tCont) (Wout := fun _ _ _ _ => False) rfl rfl nd rfl rfl ⟨rfl, by decide, .inl mM⟩ takes0
    (fun W pn xe tk _ => pss_one (ps_expr (by exact pe_callS GP (hr.mono (by decide)) rfl mP kP bP (fun σ => passAt tk σ) (by exact (pa_cons (pe_join pe_str (pv 4)) pa_nil)))))
    (fun a oe cls d pn hz hf => pss_cons (ps_if (PW.pt (pw_or (pt_not (pt_val (by exact (pe_callB (call_isY hz hf) (by rfl) mi PyProof.Rows.boot_isinstance (pa_cons (pv 6) (pa_cons (pe_glob rfl EX.m (v := .ref CE) rfl) pa_nil)))))) (pw_or (pt_val (by exact (pe_callB (id := "isinstance") (r := rIsi K) call_isi (by rfl) mi (by decide +kernel) (pa_cons (pe_xf EX.F EX.no hz hf (pv 6)) (pa_cons (pe_bltn (v := .ty "bool") (by rfl) mB (by decide +kernel) rfl) pa_nil))))) (pw_or1 (pt_cmpR op_ne (pe_xf EX.F EX.no hz hf (pv 6)) (pe_op op_add (pv 5) pe_int) (nomark _)))))) (pss_one (ps_ret pe_bl)) pss_nil) (pss_one ps_continue)))
      (pss_one (ps_ret pe_bl)))))))))
      (pss_one (ps_ret pe_bl))))))))), ?_⟩
  refine ⟨_, rfl, a, ns, rfl, hS, fun d H1 ds hd0 s1 hd => ⟨by show 2 ≤ sizeLine; decide, fun B hB => ?_⟩⟩
  have ndB : d ≠ B := ne_of_none hd hB
  generalize hH0 : upd H1 B (.lst [.ref d, .int 0]) = H0
  have hB0 : H0 B = some (.lst [.ref d, .int 0]) := by rw [← hH0]; exact upd_same
  have hbox : Box H0 B d := ⟨ds, 0, hB0, by rw [← hH0, upd_ne ndB]; exact hd, Int.le_refl 0⟩
  clear hH0
  -- the wrong lines
  refine ⟨by show 12 ≤ sizeLine; decide, fun w0 h0 => ?_⟩
  have S0 : Same H0 (upd H0 w0 (.lst (wr0.map V.str))) := same_new h0 _
  have e0 : upd H0 w0 (.lst (wr0.map V.str)) w0 = some (.lst (wr0.map V.str)) := upd_same
  change (gName 2 (.ref w0) _ (upd H0 w0 (.lst (wr0.map V.str))) _)
  generalize upd H0 w0 (.lst (wr0.map V.str)) = G0 at S0 e0 ⊢
  refine ⟨_, rfl, by show 7 ≤ sizeLine; decide, fun v1 h1 => ⟨w0, v1, _, wr1.map V.str, rfl, rfl, (same_new h1 _) _ _ e0, upd_same, by show 19 ≤ sizeLine; decide, fun w1 k1 => ?_⟩⟩
  obtain ⟨S1, e1⟩ := cat2 (ys := wr1) e0 h1 k1
  change (gName 2 (.ref w1) _ (upd (upd G0 v1 (.lst (wr1.map V.str))) w1 (.lst ((wr0 ++ wr1).map V.str))) _)
  generalize upd (upd G0 v1 (.lst (wr1.map V.str))) w1 (.lst ((wr0 ++ wr1).map V.str)) = G1 at S1 e1 ⊢
  refine ⟨_, rfl, by show 6 ≤ sizeLine; decide, fun v2 h2 => ⟨w1, v2, _, wr2.map V.str, rfl, rfl, (same_new h2 _) _ _ e1, upd_same, by show 25 ≤ sizeLine; decide, fun w2 k2 => ?_⟩⟩
  obtain ⟨S2, e2⟩ := cat2 (ys := wr2) e1 h2 k2
  change (gName 2 (.ref w2) _ (upd (upd G1 v2 (.lst (wr2.map V.str))) w2 (.lst ((wr0 ++ wr1 ++ wr2).map V.str))) _)
  generalize upd (upd G1 v2 (.lst (wr2.map V.str))) w2 (.lst ((wr0 ++ wr1 ++ wr2).map V.str)) = G2 at S2 e2 ⊢
  refine ⟨_, rfl, by show 7 ≤ sizeLine; decide, fun v3 h3 => ⟨w2, v3, _, wr3.map V.str, rfl, rfl, (same_new h3 _) _ _ e2, upd_same, by show 32 ≤ sizeLine; decide, fun w3 k3 => ?_⟩⟩
  obtain ⟨S3, e3⟩ := cat2 (ys := wr3) e2 h3 k3
  change (gName 2 (.ref w3) _ (upd (upd G2 v3 (.lst (wr3.map V.str))) w3 (.lst ((wr0 ++ wr1 ++ wr2 ++ wr3).map V.str))) _)
  generalize upd (upd G2 v3 (.lst (wr3.map V.str))) w3 (.lst ((wr0 ++ wr1 ++ wr2 ++ wr3).map V.str)) = G3 at S3 e3 ⊢
  refine ⟨_, rfl, by show 6 ≤ sizeLine; decide, fun v4 h4 => ⟨w3, v4, _, wr4.map V.str, rfl, rfl, (same_new h4 _) _ _ e3, upd_same, by show 38 ≤ sizeLine; decide, fun w4 k4 => ?_⟩⟩
  obtain ⟨S4, e4⟩ := cat2 (ys := wr4) e3 h4 k4
  change (gName 2 (.ref w4) _ (upd (upd G3 v4 (.lst (wr4.map V.str))) w4 (.lst ((wr0 ++ wr1 ++ wr2 ++ wr3 ++ wr4).map V.str))) _)
  generalize upd (upd G3 v4 (.lst (wr4.map V.str))) w4 (.lst ((wr0 ++ wr1 ++ wr2 ++ wr3 ++ wr4).map V.str)) = G4 at S4 e4 ⊢
  have bx : Box G4 B d := hbox.same ((((S0.trans S1).trans S2).trans S3).trans S4)
  have hW : G4 w4 = some (.lst (wrong.map V.str)) := e4
  have b3 : Box (upd G3 v4 (.lst (wr4.map V.str))) B d := (hbox.same (((S0.trans S1).trans S2).trans S3)).same (same_new h4 _)
  have nB := b3.neB k4
  have nD := b3.neD k4
  clear b3 S0 S1 S2 S3 S4 e0 e1 e2 e3 e4 h0 h1 h2 h3 h4 k1 k2 k3 k4 hbox hB0
  refine ⟨4, rfl, by decide, by decide, for_range (lo := 0) (n := 4) (fun i σ H' => (∃ o3 o4 o5 o6, σ = [some (.ref a), some (.ref B), some (.ref w4), o3, o4, o5, o6]) ∧ Box H' B d ∧ H' w4 = some (.lst (wrong.map V.str)) ∧ w4 ≠ B ∧ w4 ≠ d) ⟨⟨_, _, _, _, rfl⟩, bx, hW, nB, nD⟩ ?_ ?_⟩
  · rintro i σ H4 hi ⟨⟨o3, o4, o5, o6, rfl⟩, b4, w4h, nB, nD⟩
    refine ⟨by show 5 ≤ sizeLine; decide, fun l hl => ?_⟩
    have lB := b4.neB hl
    have lD := b4.neD hl
    have lW : w4 ≠ l := ne_of_none w4h hl
    have S5 : Same H4 (upd H4 l (.lst (good.map V.str))) := same_new hl _
    have e5 : upd H4 l (.lst (good.map V.str)) l = some (.lst (good.map V.str)) := upd_same
    change (gName 4 (.ref l) _ (upd H4 l (.lst (good.map V.str))) _)
    generalize upd H4 l (.lst (good.map V.str)) = H5 at S5 e5 ⊢
    refine ⟨_, rfl, B, d, 5, rfl, by decide, b4.same S5, fun z H6 z0 z1 g6 b6 => ?_⟩
    have w6 := g6.ext _ _ nB (S5 _ _ w4h)
    have e6 := g6.ext _ _ lB e5
    refine ⟨_, rfl, _, rfl, _, rfl, w4, _, rfl, .inl (SqL.of w6), B, d, _, rfl, by decide, b6, fun z2 H7 z20 z21 g7 b7 => ?_⟩
    obtain ⟨wr, hwr, hat⟩ := pick (l := wrong) (g := V.str) (z := z2) z20 (by rw [List.length_map] at z21; exact z21)
    have w7 := g7.ext _ _ nB w6
    have e7 := g7.ext _ _ lB e6
    obtain ⟨fi, rfl⟩ : ∃ fi : Nat, z = (fi : Int) := ⟨z.toNat, by omega⟩
    have hfi : fi < 5 := by omega
    refine ⟨w4, _, z2, .str wr, rfl, rfl, SqL.of w7, hat, ?_⟩
    refine ⟨_, rfl, _, rfl, l, _, _, fi, rfl, rfl, e7, ?_, ?_⟩
    · show ixN 5 (fi : Int) = some fi
      match fi, hfi with
      | 0, _ | 1, _ | 2, _ | 3, _ | 4, _ => rfl
    have e8 : upd H7 l (.lst ((good.map V.str).set fi (.str wr))) l = some (.lst ((good.set fi wr).map V.str)) := by rw [upd_same, List.map_set]
    have b8 : Box (upd H7 l (.lst ((good.map V.str).set fi (.str wr)))) B d := b7.mut lB lD _
    have w8 : upd H7 l (.lst ((good.map V.str).set fi (.str wr))) w4 = some (.lst (wrong.map V.str)) := by rw [upd_ne lW]; exact w7
    have k8 := okl1 hwr hfi
    generalize upd H7 l (.lst ((good.map V.str).set fi (.str wr))) = H8 at e8 b8 w8 ⊢
    -- perhaps the last line, too
    refine ⟨fun σ' H' => ∃ xs, σ' = [some (.ref a), some (.ref B), some (.ref w4), some (.int (0 + i)), some (.ref l), some (.int (fi : Int)), o6] ∧ Box H' B d ∧ H' w4 = some (.lst (wrong.map V.str)) ∧ H' l = some (.lst (xs.map V.str)) ∧ OKL xs fi, ?_, ?_⟩
    · refine ⟨_, rfl, B, d, 3, rfl, by decide, b8, fun y HA y0 y1 gA bA => ⟨rfl, _, rfl, ?_⟩⟩
      have wA := gA.ext _ _ nB w8
      have eA := gA.ext _ _ lB e8
      refine ite2 (fun c => ?_) (fun c => iteF ⟨good.set fi wr, rfl, bA, wA, eA, k8⟩)
      refine ⟨_, rfl, _, _, rfl, rfl, _, rfl, ?_⟩
      refine ite2 (fun c2 => ?_) (fun c2 => ⟨good.set fi wr, rfl, bA, wA, eA, k8⟩)
      have hf4 : fi < 4 := by
        have := of_decide_eq_true c2
        omega
      refine ⟨_, rfl, _, rfl, _, rfl, w4, _, rfl, .inl (SqL.of wA), B, d, _, rfl, by decide, bA, fun z3 HB z30 z31 gB bB => ?_⟩
      obtain ⟨w2, hw2, hat2⟩ := pick (l := wrong) (g := V.str) (z := z3) z30 (by rw [List.length_map] at z31; exact z31)
      refine ⟨w4, _, z3, .str w2, rfl, rfl, SqL.of (gB.ext _ _ nB wA), hat2, ?_⟩
      refine ⟨_, rfl, l, _, 4, 4, rfl, rfl, gB.ext _ _ lB eA, ?_, (good.set fi wr).set 4 w2, rfl, bB.mut lB lD _, by rw [upd_ne lW]; exact gB.ext _ _ nB wA, by rw [upd_same]; simp only [List.map_set], okl2 hwr hw2 hf4⟩
      rw [List.length_map, List.length_set]
      rfl
    rintro σ' H9 ⟨xs, rfl, b9, w9, e9, k9⟩
    -- perhaps three other lines
    refine ⟨fun σ' H' => ∃ l' xs fi', σ' = [some (.ref a), some (.ref B), some (.ref w4), some (.int (0 + i)), some (.ref l'), some (.int (fi' : Nat)), o6] ∧ Box H' B d ∧ H' w4 = some (.lst (wrong.map V.str)) ∧ H' l' = some (.lst (xs.map V.str)) ∧ OKL xs fi', ?_, ?_⟩
    · refine ⟨_, rfl, B, d, 5, rfl, by decide, b9, fun y HA y0 y1 gA bA => ⟨rfl, _, rfl, ?_⟩⟩
      have wA := gA.ext _ _ nB w9
      refine ite2 (fun c => ?_) (fun c => ⟨l, xs, fi, rfl, bA, wA, gA.ext _ _ lB e9, k9⟩)
      refine ⟨by show 3 ≤ sizeLine; decide, fun l3 hl3 => ?_⟩
      have l3B := bA.neB hl3
      have wB : upd HA l3 (.lst (thr.map V.str)) w4 = some (.lst (wrong.map V.str)) := same_new hl3 _ _ _ wA
      refine ⟨_, rfl, B, d, 3, rfl, by decide, bA.same (same_new hl3 (.lst (thr.map V.str))), fun z3 HB z30 z31 gB bB => ?_⟩
      obtain ⟨x, hx, hat3⟩ := pick (l := thr) (g := V.str) (z := z3) z30 (by show z3 < ((3 : Nat) : Int); omega)
      refine ⟨l3, _, z3, .str x, rfl, rfl, SqL.of (gB.ext _ _ l3B (show upd HA l3 (.lst (thr.map V.str)) l3 = _ from upd_same)), hat3, by show 3 ≤ sizeLine; decide, fun l4 hl4 => ?_⟩
      exact ⟨l4, ["one: n in 1", "two: n in 2", x], 2, rfl, bB.same (same_new hl4 _), same_new hl4 _ _ _ (gB.ext _ _ nB wB), upd_same, okl3 hx⟩
    rintro σ' H10 ⟨l', xs', fi', rfl, b10, w10, e10, k10⟩
    obtain ⟨tx1, tx2, tx3⟩ := k10.text
    obtain ⟨ty1, ty2⟩ := k10.two
    have hk := k10.i
    refine ⟨⟨_, rfl⟩, _, rfl, _, l', xs', rfl, rfl, .inl (SqL.of e10), ?_, ?_⟩
    · have e1 : ("\n" : Str).length = 1 := by decide +kernel
      have := k10.l
      rw [e1]
      omega
    rw [show ("\n" : Str) = nlS by decide +kernel]
    refine ⟨_, fi' + 1, rfl, ⟨ty1, ty2⟩, by rw [tx1]; have := k10.l; omega, tx2, by rw [tx1]; exact k10.b, ⟨by omega, by omega⟩, fun dx H11 hdx s11 hxd => ?_⟩
    refine ⟨true, EX.ex, fun _ e he => ?_, fun z => Bool.noConfusion z⟩
    refine ⟨_, rfl, CE, true, rfl, rfl, EX.I, if_pos (by simp), dx, _, rfl, hxd, _, rfl, ?_⟩
    refine ⟨_, rfl, rfl, rfl, dx, _, _, rfl, hxd, rfl, ?_⟩
    refine ⟨.int ((fi' + 1 : Nat) : Int), .ty "bool", .type "int", .type "bool", false, rfl, .ty "bool", .base (.int _), kit_ty (by decide +kernel), false, rfl, ?_⟩
    refine ⟨_, rfl, rfl, rfl, dx, _, _, rfl, hxd, rfl, _, rfl, _, _, rfl, rfl, rfl, _, rfl, ?_⟩
    rw [show (!decide (V.int ((fi' + 1 : Nat) : Int) = V.int ((fi' : Int) + 1))) = false by simp]
    refine iteF ?_
    exact ⟨⟨_, _, _, _, rfl⟩, b10.same s11, s11 _ _ w10, nB, nD⟩
  · rintro σ H4 ⟨⟨o3, o4, o5, o6, rfl⟩, b4, w4h, nB, nD⟩
    exact q H4
end
end Mw

namespace Mw
open PySem L2
set_option maxHeartbeats 0 in
theorem all_mk {l : PySem.W.OpenLaw} {w : World} {K : PySem.W.Frag} {h : Heap} {mg : Str → Option Value} {fa f1 f2 f3 f4 f5 f6 f7 f8 f9 f10 f11 f12 M ca X1 fB1 cc1 cda1 N1 : Addr} (X : K.In h) (G : h.Ns mainGlobals mg) (hfa : mg "law" = some (.ref fa))
    {od1 an1 od2 an2 od3 an3 od4 an4 od5 an5 od6 an6 od7 an7 od8 an8 od9 an9 od10 an10 od11 an11 od12 an12 odB1 anB1 cdd1 cd01 dd1 : Option Addr} {sl1 sl2 sl3 sl4 sl5 sl6 sl7 sl8 sl9 sl10 sl11 sl12 sC slB1 ccs1 cs01 : Array (Option Value)} {oc1 kV1 dc1 pm1 cd1 ct1 oc2 kV2 dc2 pm2 cd2 ct2 oc3 kV3 dc3 pm3 cd3 ct3 oc4 kV4 dc4 pm4 cd4 ct4 oc5 kV5 dc5 pm5 cd5 ct5 oc6 kV6 dc6 pm6 cd6 ct6 oc7 kV7 dc7 pm7 cd7 ct7 oc8 kV8 dc8 pm8 cd8 ct8 oc9 kV9 dc9 pm9 cd9 ct9 oc10 kV10 dc10 pm10 cd10 ct10 oc11 kV11 dc11 pm11 cd11 ct11 oc12 kV12 dc12 pm12 cd12 ct12 ocB1 kVB1 dcB1 pmB1 ctB1 ccl1 ce01 : Value} {u1 u2 u3 u4 u5 tF t1 t2 t3 t4 : Tok} {kC : Nat}
    {nm1 qn1 file1 : Str} {bs1 sub1 : List Value} {sn1 : List Str} {ab1 : Bool} {col1 : Option Bool} {m01 m11 m21 m31 m51 : Option Value} {cvs1 : Array Value} {tf1 : Tok}
    (a1 : PySem.W.nsIn K mainGlobals "parse_number" = some (some (.ref f1))) (l1 : K.lookup f1 = some ⟨oc1, od1, .func (PySem.W.fnOf "parse_number" "parse_number" (defArgs sPn) (defBody sPn) (defScope sPn) .none kV1 dc1 pm1 an1 cd1 ct1), sl1⟩) (c1 : PySem.W.codeIn K cd1 "parse_number" = true) (k1 : PySem.W.keepIn K (.ref f1) = true)
    (a2 : PySem.W.nsIn K mainGlobals "parse_modulus" = some (some (.ref f2))) (l2 : K.lookup f2 = some ⟨oc2, od2, .func (PySem.W.fnOf "parse_modulus" "parse_modulus" (defArgs sPm) (defBody sPm) (defScope sPm) .none kV2 dc2 pm2 an2 cd2 ct2), sl2⟩) (c2 : PySem.W.codeIn K cd2 "parse_modulus" = true) (k2 : PySem.W.keepIn K (.ref f2) = true)
    (a3 : PySem.W.nsIn K mainGlobals "parse_range" = some (some (.ref f3))) (l3 : K.lookup f3 = some ⟨oc3, od3, .func (PySem.W.fnOf "parse_range" "parse_range" (defArgs sPr) (defBody sPr) (defScope sPr) .none kV3 dc3 pm3 an3 cd3 ct3), sl3⟩) (c3 : PySem.W.codeIn K cd3 "parse_range" = true) (k3 : PySem.W.keepIn K (.ref f3) = true)
    (a4 : PySem.W.nsIn K mainGlobals "parse_ranges" = some (some (.ref f4))) (l4 : K.lookup f4 = some ⟨oc4, od4, .func (PySem.W.fnOf "parse_ranges" "parse_ranges" (defArgs sPs) (defBody sPs) (defScope sPs) .none kV4 dc4 pm4 an4 cd4 ct4), sl4⟩) (c4 : PySem.W.codeIn K cd4 "parse_ranges" = true) (k4 : PySem.W.keepIn K (.ref f4) = true)
    (a5 : PySem.W.nsIn K mainGlobals "parse_relation" = some (some (.ref f5))) (l5 : K.lookup f5 = some ⟨oc5, od5, .func (PySem.W.fnOf "parse_relation" "parse_relation" (defArgs sPl) (defBody sPl) (defScope sPl) .none kV5 dc5 pm5 an5 cd5 ct5), sl5⟩) (c5 : PySem.W.codeIn K cd5 "parse_relation" = true) (k5 : PySem.W.keepIn K (.ref f5) = true)
    (a6 : PySem.W.nsIn K mainGlobals "parse_condition" = some (some (.ref f6))) (l6 : K.lookup f6 = some ⟨oc6, od6, .func (PySem.W.fnOf "parse_condition" "parse_condition" (defArgs sPc) (defBody sPc) (defScope sPc) .none kV6 dc6 pm6 an6 cd6 ct6), sl6⟩) (c6 : PySem.W.codeIn K cd6 "parse_condition" = true) (k6 : PySem.W.keepIn K (.ref f6) = true)
    (a7 : PySem.W.nsIn K mainGlobals "parse_rule" = some (some (.ref f7))) (l7 : K.lookup f7 = some ⟨oc7, od7, .func (PySem.W.fnOf "parse_rule" "parse_rule" (defArgs sPu) (defBody sPu) (defScope sPu) .none kV7 dc7 pm7 an7 cd7 ct7), sl7⟩) (c7 : PySem.W.codeIn K cd7 "parse_rule" = true) (k7 : PySem.W.keepIn K (.ref f7) = true)
    (a8 : PySem.W.nsIn K mainGlobals "parse_language" = some (some (.ref f8))) (l8 : K.lookup f8 = some ⟨oc8, od8, .func (PySem.W.fnOf "parse_language" "parse_language" (defArgs sPg) (defBody sPg) (defScope sPg) .none kV8 dc8 pm8 an8 cd8 ct8), sl8⟩) (c8 : PySem.W.codeIn K cd8 "parse_language" = true) (k8 : PySem.W.keepIn K (.ref f8) = true)
    (a9 : PySem.W.nsIn K mainGlobals "_law_cell" = some (some (.ref f9))) (l9 : K.lookup f9 = some ⟨oc9, od9, .func (PySem.W.fnOf "_law_cell" "_law_cell" (defArgs sCell) (defBody sCell) (defScope sCell) .none kV9 dc9 pm9 an9 cd9 ct9), sl9⟩) (c9 : PySem.W.codeIn K cd9 "_law_cell" = true) (k9 : PySem.W.keepIn K (.ref f9) = true)
    (a10 : PySem.W.nsIn K mainGlobals "_law_digits" = some (some (.ref f10))) (l10 : K.lookup f10 = some ⟨oc10, od10, .func (PySem.W.fnOf "_law_digits" "_law_digits" (defArgs sDigits) (defBody sDigits) (defScope sDigits) .none kV10 dc10 pm10 an10 cd10 ct10), sl10⟩) (c10 : PySem.W.codeIn K cd10 "_law_digits" = true) (k10 : PySem.W.keepIn K (.ref f10) = true)
    (a11 : PySem.W.nsIn K mainGlobals "_law_draw" = some (some (.ref f11))) (l11 : K.lookup f11 = some ⟨oc11, od11, .func (PySem.W.fnOf "_law_draw" "_law_draw" (defArgs sDraw) (defBody sDraw) (defScope sDraw) .none kV11 dc11 pm11 an11 cd11 ct11), sl11⟩) (c11 : PySem.W.codeIn K cd11 "_law_draw" = true) (k11 : PySem.W.keepIn K (.ref f11) = true)
    (a12 : PySem.W.nsIn K mainGlobals "law" = some (some (.ref f12))) (l12 : K.lookup f12 = some ⟨oc12, od12, .func (PySem.W.fnOf "law" "law" (defArgs sLaw) (defBody sLaw) (defScope sLaw) .none kV12 dc12 pm12 an12 cd12 ct12), sl12⟩) (c12 : PySem.W.codeIn K cd12 "law" = true) (k12 : PySem.W.keepIn K (.ref f12) = true)
    (aK : PySem.W.nsIn K mainGlobals "CATEGORIES" = some (some (.ref ca)))
    (xK : K.lookup ca = some ⟨.type "tuple", none, .seq #[.str "zero" u1, .str "one" u2, .str "two" u3, .str "few" u4, .str "many" u5] kC, sC⟩)
    (aF : PySem.W.nsIn K mainGlobals "FIGURES" = some (some (.str "0123456789" tF)))
    (q1 : PySem.W.nsIn K mainGlobals "MOST_FIGURES" = some (some (.int 4 t1)))
    (q2 : PySem.W.nsIn K mainGlobals "MOST_RANGES" = some (some (.int 8 t2)))
    (q3 : PySem.W.nsIn K mainGlobals "LEAST_MODULUS" = some (some (.int 2 t3)))
    (q4 : PySem.W.nsIn K mainGlobals "MOST_MODULUS" = some (some (.int 100 t4)))
    (aM : PySem.W.nsIn K mainGlobals "MessagewaysError" = some (some (.ref M)))
    (ebM : PySem.W.subIn K (.ref M) (.type "BaseException") = some true)
    (hdM : PySem.W.hasDictIn K M = true)
    (tM : PySem.W.typeIn K (.ref M) = some (.type "type"))
    (op : PySem.W.nsIn K cStatics "thirdparty.any" = some none)
    (cg : PySem.W.specialIn K (.builtin "object.__class__") "__get__" = some (some (.builtin "getset_descriptor.__get__")))
    (ct : PySem.W.takesIn K (.builtin "object.__class__") = some true)
    (top : (l.prog.main.scope.names.lookup ("super" : Str)).isSome = false)
    (aC1 : PySem.W.nsIn K mainGlobals "LineError" = some (some (.ref X1)))
    (xC1 : K.lookup X1 = some (excClassObj nm1 qn1 X1 N1 bs1 [.ref M, .type "ValueError", .type "Exception", .type "BaseException", .type "object"] true sn1 sub1 ab1 col1 dd1 m01 m11 m21 m31 m51 "ValueError.__new__"))
    (sa1 : PySem.W.findIn K (.ref X1) "__setattr__" = some (some (.builtin "object.__setattr__")))
    (ga1 : PySem.W.findIn K (.ref X1) "__getattribute__" = some (some (.builtin "BaseException.__getattribute__")))
    (gg1 : PySem.W.findIn K (.ref X1) "__getattr__" = some none)
    (no1 : PySem.W.findIn K (.ref X1) "line" = some none)
    (iC1 : PySem.W.findIn K (.ref X1) "__init__" = some (some (.ref fB1)))
    (tI1 : PySem.W.typeIn K (.ref fB1) = some (.type "function"))
    (lB1 : K.lookup fB1 = some ⟨ocB1, odB1, .func (PySem.W.fnX "__init__" "LineError.__init__" (defArgs sLe) (defBody sLe) (defScope sLe) [("__class__", cc1)] .none kVB1 dcB1 pmB1 anB1 (.ref cda1) ctB1), slB1⟩)
    (cB1 : PySem.W.codeIn K (.ref cda1) "LineError.__init__" = true)
    (lc1 : K.lookup cda1 = some ⟨ccl1, cdd1, .fields cvs1, ccs1⟩)
    (hv1 : cvs1[2]? = some (.str file1 tf1))
    (hf1 : ((l.prog.main.file : Str) == file1) = true)
    (lx1 : K.lookup cc1 = some ⟨ce01, cd01, .cell (some (.ref X1)), cs01⟩)
    (mr1 : PySem.W.mroIn K X1 (.ref X1) = some true)
    (sm1 : PySem.W.ks_superIn K X1 X1 "__init__" = some (some (.builtin "ValueError.__init__")))
    (iV1 : PySem.W.subIn K (.ref X1) (.type "ValueError") = some true)
    (eb1 : PySem.W.subIn K (.ref X1) (.type "BaseException") = some true)
    (tC1 : PySem.W.typeIn K (.ref X1) = some (.type "type"))
    (kC1 : PySem.W.keepIn K (.ref X1) = true)
    (hdC1 : PySem.W.hasDictIn K X1 = true)
    (ca1 : PySem.W.findIn K (.ref X1) "__class__" = some (some (.builtin "object.__class__")))
    (ob1 : PySem.W.mroIn K X1 (.type "object") = some true)
    (sCM1 : PySem.W.subIn K (.ref X1) (.ref M) = some true)
    (z1 : PySem.W.nsIn K mainGlobals "len" = some none) (z2 : PySem.W.nsIn K mainGlobals "range" = some none) (z3 : PySem.W.nsIn K mainGlobals "int" = some none) (z4 : PySem.W.nsIn K mainGlobals "enumerate" = some none) (z5 : PySem.W.nsIn K mainGlobals "isinstance" = some none) (z6 : PySem.W.nsIn K mainGlobals "bool" = some none) (z7 : PySem.W.nsIn K mainGlobals "super" = some none) :
    ∃ fd : FuncData, (∀ (s : Shared) (v : Value), BindsTo s fd ⟨[v], []⟩ [("script", v)]) ∧ ∀ base : Heap, K.In base → base.Ns mainGlobals mg → FnOk l.prog w K mg base CX0 10 fa fd ["script"] (spLaw K) := by
  have e := hfa.symm.trans (PySem.W.mg_of X G a12)
  cases e
  have F1 := fun_mk (st := sPn) l1 c1 k1
  have F2 := fun_mk (st := sPm) l2 c2 k2
  have F3 := fun_mk (st := sPr) l3 c3 k3
  have F4 := fun_mk (st := sPs) l4 c4 k4
  have F5 := fun_mk (st := sPl) l5 c5 k5
  have F6 := fun_mk (st := sPc) l6 c6 k6
  have F7 := fun_mk (st := sPu) l7 c7 k7
  have F8 := fun_mk (st := sPg) l8 c8 k8
  have F9 := fun_mk (st := sCell) l9 c9 k9
  have F10 := fun_mk (st := sDigits) l10 c10 k10
  have F11 := fun_mk (st := sDraw) l11 c11 k11
  have F12 := fun_mk (st := sLaw) l12 c12 k12
  have b1 := F1.binds (ps := ["figures", "line"]) fun _ _ _ _ _ _ us hl => match us, hl with | [_, _], _ => rfl
  have b2 := F2.binds (ps := ["figures", "line"]) fun _ _ _ _ _ _ us hl => match us, hl with | [_, _], _ => rfl
  have b3 := F3.binds (ps := ["text", "line"]) fun _ _ _ _ _ _ us hl => match us, hl with | [_, _], _ => rfl
  have b4 := F4.binds (ps := ["text", "line"]) fun _ _ _ _ _ _ us hl => match us, hl with | [_, _], _ => rfl
  have b5 := F5.binds (ps := ["text", "line"]) fun _ _ _ _ _ _ us hl => match us, hl with | [_, _], _ => rfl
  have b6 := F6.binds (ps := ["text", "line"]) fun _ _ _ _ _ _ us hl => match us, hl with | [_, _], _ => rfl
  have b7 := F7.binds (ps := ["text", "line", "allowed"]) fun _ _ _ _ _ _ us hl => match us, hl with | [_, _, _], _ => rfl
  have b8 := F8.binds (ps := ["text"]) fun _ _ _ _ _ _ us hl => match us, hl with | [_], _ => rfl
  have b9 := F9.binds (ps := ["script", "k"]) fun _ _ _ _ _ _ us hl => match us, hl with | [_, _], _ => rfl
  have b10 := F10.binds (ps := ["script", "first", "last"]) fun _ _ _ _ _ _ us hl => match us, hl with | [_, _, _], _ => rfl
  have b11 := F11.binds (ps := ["box", "many"]) fun _ _ _ _ _ _ us hl => match us, hl with | [_, _], _ => rfl
  have b12 := F12.binds (ps := ["script"]) fun _ _ _ _ _ _ us hl => match us, hl with | [_], _ => rfl
  have g1 := PySem.W.mg_of X G a1
  have g2 := PySem.W.mg_of X G a2
  have g3 := PySem.W.mg_of X G a3
  have g4 := PySem.W.mg_of X G a4
  have g5 := PySem.W.mg_of X G a5
  have g6 := PySem.W.mg_of X G a6
  have g7 := PySem.W.mg_of X G a7
  have g8 := PySem.W.mg_of X G a8
  have g9 := PySem.W.mg_of X G a9
  have g10 := PySem.W.mg_of X G a10
  have g11 := PySem.W.mg_of X G a11
  have g12 := PySem.W.mg_of X G a12
  have y1 := PySem.W.mg_none_of X G z1
  have y2 := PySem.W.mg_none_of X G z2
  have y3 := PySem.W.mg_none_of X G z3
  have y4 := PySem.W.mg_none_of X G z4
  have y5 := PySem.W.mg_none_of X G z5
  have y6 := PySem.W.mg_none_of X G z6
  have y7 := PySem.W.mg_none_of X G z7
  have gMe := PySem.W.mg_of X G aM
  have gFi := PySem.W.mg_of X G aF
  have gQ1 := PySem.W.mg_of X G q1
  have gQ2 := PySem.W.mg_of X G q2
  have gQ3 := PySem.W.mg_of X G q3
  have gQ4 := PySem.W.mg_of X G q4
  have hCat : ∀ H, Tn.NT K H ca (cats.map V.str) := fun H => ⟨.inr ⟨_, _, _, xK, rfl, rfl, by show 5 ≤ sizeLine; decide, .cons ⟨_, rfl⟩ (.cons ⟨_, rfl⟩ (.cons ⟨_, rfl⟩ (.cons ⟨_, rfl⟩ (.cons ⟨_, rfl⟩ .nil))))⟩, .inr ⟨_, xK, rfl, rfl⟩⟩
  have gX1 := PySem.W.mg_of X G aC1
  have TC1 : OexC K X1 := ⟨⟨nm1, qn1, N1, bs1, _, sn1, sub1, ab1, col1, dd1, m01, m11, m21, m31, m51, xC1, by rfl⟩, sa1, eb1, tC1, kC1⟩
  have icl1 : ∃ cd, PySem.W.clsIn K X1 = some cd := ⟨_, by unfold PySem.W.clsIn; rw [xC1] <;> rfl⟩
  have U1 : Sx.Sup l.prog K mg X1 cc1 cda1 fB1 (nLe cc1 cda1) ["self", "line"] := ⟨TC1, ⟨_, _, _, _, _, _, _, _, _, lB1⟩, rfl, rfl, cB1, ⟨_, rfl, rfl⟩, ⟨_, _, _, _, _, _, lc1, hv1, hf1⟩, ⟨_, _, _, lx1⟩, icl1, mr1, y7, rfl, top, sm1, op, iV1⟩
  have IX1 : IsC K X1 := ⟨by obtain ⟨cd, h⟩ := icl1; rw [h]; rfl, ga1, gg1, eb1, ca1, cg, ct, ob1⟩
  have XX1 : XfC K X1 := ⟨ga1, gg1, eb1, hdC1⟩
  have exM1 : PySem.W.exmOne K (.ref X1) (.ref M) = some true := PySem.W.exm_ref ebM hdM tM sCM1
  have EX1 : EX K mg "LineError" X1 M := ⟨gX1, IX1, XX1, no1, exM1⟩
  have bBd1 : Binds K (PySem.W.fnX "__init__" "LineError.__init__" (defArgs sLe) (defBody sLe) (defScope sLe) [("__class__", cc1)] .none kVB1 dcB1 pmB1 anB1 (.ref cda1) ctB1) ["self", "line"] [] := .all fun us hl => match us, hl with | [_, _], _ => rfl
  refine ⟨PySem.W.fnOf "law" "law" (defArgs sLaw) (defBody sLaw) (defScope sLaw) .none kV12 dc12 pm12 an12 cd12 ct12, fun s v => .of_eq rfl, fun base _ _ => ?_⟩
  have EC1 : EL l.prog w K mg base X1 fB1 _ := ⟨TC1, gX1, iC1, tI1, ok_le (P := l.prog) (w := w) (mg := mg) (base := base) (CX := L2.CX l.prog w) U1 no1 lB1, bBd1⟩
  have gPn := ok_pn F1 EC1 gFi gQ1 y1 y3
  have gPm := ok_pm F2 EC1 gPn b1 k1 g1 gQ3 gQ4
  have gPr := ok_pr F3 EC1 gPn b1 k1 g1
  have gPs := ok_ps F4 EC1 gPr b3 k3 g3 gQ2 y1
  have gPl := ok_pl F5 EC1 gPs b4 k4 g4 gPm b2 k2 g2
  have gPc := ok_pc F6 gPl b5 k5 g5
  have gPu := ok_pu F7 EC1 gPc b6 k6 g6
  have gPg := ok_pg F8 gPu b7 k7 g7 (PySem.W.mg_of X G aK) hCat y4
  have gCe := ok_cell (P := l.prog) (w := w) (mg := mg) (base := base) F9 y1
  have gDg := ok_digits F10 gCe b9 k9 g9 y2 y3
  have gDr := ok_draw (P := l.prog) (w := w) (mg := mg) (base := base) F11 y1 y3
  exact ok_law F12 gDg b10 k10 g10 gDr b11 k11 g11 gPg b8 k8 g8 gMe EX1 y5 y6 y2 y1
theorem walk {l : PySem.W.OpenLaw} {q : Program} {loose : List Str} {XP : (Str → Option Value) → Heap → Prop} {YP : World → Heap → Prop} {d : DefRec} {K : Params → PySem.W.Frag} (hn : l.most = some 63) (hdf : d.params.defaults = [])
    (hY : ∀ (w : World) (h : Heap), YP w h → (K w.params).In h)
    (F : ∀ (w : World) (mg : Str → Option Value) (fa : Addr) (h : Heap), (K w.params).In h → h.Ns mainGlobals mg → mg d.name = some (.ref fa) →
      ∃ fd : FuncData, (∀ (s : Shared) (u : Value), BindsTo s fd ⟨[u], []⟩ [("script", u)]) ∧ ∀ base : Heap, (K w.params).In base → base.Ns mainGlobals mg → FnOk l.prog w (K w.params) mg base CX0 10 fa fd ["script"] (spLaw (K w.params))) :
    PySem.W.WalkO q loose XP YP l.row.toRowW d [] (fun f vs => PySem.call f vs) :=
  L2.walk_of (n := 63) (k := 10) (x := "script") (CX := fun _ => CX0) (sp := fun w => spLaw (K w.params)) hn (by decide) hdf ⟨rfl, by decide, by decide⟩ hY F (fun _ _ a ns _ _ hS => ⟨a, ns, rfl, hS, fun _ => rfl⟩) fun _ _ _ _ _ z => z
end Mw
open PySem PySem.W PyProof.Rows
set_option maxRecDepth 100000 in
set_option maxHeartbeats 0 in
theorem PySem.Challenge.cw_messageways_k06_first_wrong_rule_holds : PySem.Challenge.rw_messageways_k06_first_wrong_rule.Holds := by
  w_on; o_law; k_head; (case hw => w_witness2)
  k_fill
  refine Mw.walk (l := PySem.Challenge.rw_messageways_k06_first_wrong_rule) rfl rfl (fun w h Y => PySem.W.kIn_of Y) ?F
  case F =>
    intro w mg fa h KX G hmg
    refine' Mw.all_mk KX G hmg ?a1 ?l1 ?c1 ?k1 ?a2 ?l2 ?c2 ?k2 ?a3 ?l3 ?c3 ?k3 ?a4 ?l4 ?c4 ?k4 ?a5 ?l5 ?c5 ?k5 ?a6 ?l6 ?c6 ?k6 ?a7 ?l7 ?c7 ?k7 ?a8 ?l8 ?c8 ?k8 ?a9 ?l9 ?c9 ?k9 ?a10 ?l10 ?c10 ?k10 ?a11 ?l11 ?c11 ?k11 ?a12 ?l12 ?c12 ?k12 ?aK ?xK ?aF ?q1 ?q2 ?q3 ?q4 ?aM ?ebM ?hdM ?tM ?op ?cg ?ct ?top ?aC1 ?xC1 ?sa1 ?ga1 ?gg1 ?no1 ?iC1 ?tI1 ?lB1 ?cB1 ?lc1 ?hv1 ?hf1 ?lx1 ?mr1 ?sm1 ?iV1 ?eb1 ?tC1 ?kC1 ?hdC1 ?ca1 ?ob1 ?sCM1 ?z1 ?z2 ?z3 ?z4 ?z5 ?z6 ?z7
    (case a1 => k_is); (case l1 => k_is); (case c1 => k_is); (case k1 => k_is)
    (case a2 => k_is); (case l2 => k_is); (case c2 => k_is); (case k2 => k_is)
    (case a3 => k_is); (case l3 => k_is); (case c3 => k_is); (case k3 => k_is)
    (case a4 => k_is); (case l4 => k_is); (case c4 => k_is); (case k4 => k_is)
    (case a5 => k_is); (case l5 => k_is); (case c5 => k_is); (case k5 => k_is)
    (case a6 => k_is); (case l6 => k_is); (case c6 => k_is); (case k6 => k_is)
    (case a7 => k_is); (case l7 => k_is); (case c7 => k_is); (case k7 => k_is)
    (case a8 => k_is); (case l8 => k_is); (case c8 => k_is); (case k8 => k_is)
    (case a9 => k_is); (case l9 => k_is); (case c9 => k_is); (case k9 => k_is)
    (case a10 => k_is); (case l10 => k_is); (case c10 => k_is); (case k10 => k_is)
    (case a11 => k_is); (case l11 => k_is); (case c11 => k_is); (case k11 => k_is)
    (case a12 => k_is); (case l12 => k_is); (case c12 => k_is); (case k12 => k_is)
    (case aK => k_is)
    (case xK => k_is)
    (case aF => k_is)
    (case q1 => k_is)
    (case q2 => k_is)
    (case q3 => k_is)
    (case q4 => k_is)
    (case aM => k_is)
    (case ebM => k_is)
    (case hdM => k_is)
    (case tM => k_is)
    (case op => k_is)
    (case cg => k_is)
    (case ct => k_is)
    (case top => decide +kernel)
    (case aC1 => k_is)
    (case xC1 => k_is)
    (case sa1 => k_is)
    (case ga1 => k_is)
    (case gg1 => k_is)
    (case no1 => k_is)
    (case iC1 => k_is)
    (case tI1 => k_is)
    (case lB1 => k_is)
    (case cB1 => k_is)
    (case lc1 => k_is)
    (case hv1 => rfl)
    (case hf1 => decide +kernel)
    (case lx1 => k_is)
    (case mr1 => k_is)
    (case sm1 => ks_is)
    (case iV1 => k_is)
    (case eb1 => k_is)
    (case tC1 => k_is)
    (case kC1 => k_is)
    (case hdC1 => k_is)
    (case ca1 => k_is)
    (case ob1 => k_is)
    (case sCM1 => k_is)
    (case z1 => k_is)
    (case z2 => k_is)
    (case z3 => k_is)
    (case z4 => k_is)
    (case z5 => k_is)
    (case z6 => k_is)
    (case z7 => k_is)

