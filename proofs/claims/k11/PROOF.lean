import PyProof.Rows.All
import Wide.All
import OpenK.AllK
import Wide.FinOn
import HandS.Base
import HandS.Call
import HandS.List
import HandS.Comp
import HandS.Ends
import HandS.Dict
import HandS.Iter
import HandS.Text
import HandS.Words
import HandS.WordsList
import HandS.Evl
import HandS.Style
import HandS.Walk
import HandS.Zip
import KE.KExcSuper
import HandS.Exc
import HandS.ExcInit
import HandS.Nested
import HandS.FStr
import HandS.WordsExc
import HandS.IsInst
import HandS.ExcIs
import HandS.ExcField
import HandS.WordsDict
import HandS.More
import HandS.RaiseMore
import KE.KExcIs
import PySem.Challenge.RW_messageways_k11_what_messages_show
set_option Elab.async false
set_option maxRecDepth 100000
namespace Mw
open PySem L2
def top (i : Nat) : Stmt := PySem.Challenge.pw_messageways_k11_what_messages_show.main.body.getD i (.Pass ⟨0, 0, 0, 0⟩)
/-! ### trees of messages: a message is a chain of nodes, the cases of a choice a chain of cas -/
inductive T where
  | nil
  | text (s : Str) (r : T)
  | shw (n : Str) (r : T)
  | num (r : T)
  | cho (hd : List V) (cs o r : T)
  | cas (k : V) (m r : T)
/-- the values vs are the nodes (the cases) of the tree, as the heap has them -/
def Nodes (H : Hp) : T → List V → Prop
  | .nil, vs => vs = []
  | .text s r, vs => ∃ p ws, vs = .ref p :: ws ∧ H p = some (.tup [.str "text", .str s]) ∧ Nodes H r ws
  | .shw n r, vs => ∃ p ws, vs = .ref p :: ws ∧ H p = some (.tup [.str "show", .str n]) ∧ Nodes H r ws
  | .num r, vs => ∃ p ws, vs = .ref p :: ws ∧ H p = some (.tup [.str "number"]) ∧ Nodes H r ws
  | .cho hd cs o r, vs => ∃ p ws ca cvs oa ovs, vs = .ref p :: ws ∧ H p = some (.tup (hd ++ [.ref ca, .ref oa])) ∧ H ca = some (.lst cvs) ∧ Nodes H cs cvs ∧ H oa = some (.lst ovs) ∧ Nodes H o ovs ∧ Nodes H r ws
  | .cas k m r, vs => ∃ p ws ma mvs, vs = .ref p :: ws ∧ H p = some (.tup [k, .ref ma]) ∧ H ma = some (.lst mvs) ∧ Nodes H m mvs ∧ Nodes H r ws
/-- a list at a that is a message -/
def At (H : Hp) (a : Addr) (t : T) : Prop := ∃ vs, H a = some (.lst vs) ∧ Nodes H t vs
/-- all but the box stays; the box is a list of a ref and an int -/
def IsBox (vs : List V) : Prop := ∃ d i, vs = [.ref d, .int i]
def Ext (B : Addr) (H H' : Hp) : Prop := ∀ b o, b ≠ B → H b = some o → H' b = some o
theorem Ext.refl {B : Addr} (H : Hp) : Ext B H H := fun _ _ _ h => h
theorem Ext.trans {B : Addr} {H H1 H2 : Hp} (a : Ext B H H1) (b : Ext B H1 H2) : Ext B H H2 := fun c o n h => b c o n (a c o n h)
theorem Ext.of {B : Addr} {H H' : Hp} (s : Same H H') : Ext B H H' := fun b o _ h => s b o h
theorem same_new {H : Hp} {p : Addr} (h : H p = none) (o : HO) : Same H (upd H p o) := fun b u q => by
  rw [upd_ne (ne_of_none q h)]
  exact q
theorem same_mut {H H' : Hp} {p : Addr} (s : Same H H') (h : H p = none) (o : HO) : Same H (upd H' p o) := fun b u q => by
  rw [upd_ne (ne_of_none q h)]
  exact s b u q
theorem Nodes.refs {H : Hp} : ∀ {t : T} {vs : List V}, Nodes H t vs → ∀ v ∈ vs, ∃ a, v = .ref a
  | .nil, _, h, v, hv => by
    have h' : _ = [] := h
    subst h'
    cases hv
  | .text s r, _, h, v, hv => by
    obtain ⟨p, ws, rfl, _, hr⟩ := h
    rcases List.mem_cons.mp hv with rfl | hv
    · exact ⟨_, rfl⟩
    · exact Nodes.refs hr v hv
  | .shw n r, _, h, v, hv => by
    obtain ⟨p, ws, rfl, _, hr⟩ := h
    rcases List.mem_cons.mp hv with rfl | hv
    · exact ⟨_, rfl⟩
    · exact Nodes.refs hr v hv
  | .num r, _, h, v, hv => by
    obtain ⟨p, ws, rfl, _, hr⟩ := h
    rcases List.mem_cons.mp hv with rfl | hv
    · exact ⟨_, rfl⟩
    · exact Nodes.refs hr v hv
  | .cho hd cs o r, _, h, v, hv => by
    obtain ⟨p, ws, ca, cvs, oa, ovs, rfl, _, _, _, _, _, hr⟩ := h
    rcases List.mem_cons.mp hv with rfl | hv
    · exact ⟨_, rfl⟩
    · exact Nodes.refs hr v hv
  | .cas k m r, _, h, v, hv => by
    obtain ⟨p, ws, ma, mvs, rfl, _, _, _, hr⟩ := h
    rcases List.mem_cons.mp hv with rfl | hv
    · exact ⟨_, rfl⟩
    · exact Nodes.refs hr v hv
theorem Nodes.notBox {H : Hp} {t : T} {vs : List V} (h : Nodes H t vs) : ¬ IsBox vs := by
  rintro ⟨d, i, rfl⟩
  obtain ⟨a, e⟩ := h.refs (.int i) (by simp)
  cases e
theorem lst_ne {B a : Addr} {H : Hp} {bs vs : List V} (hb : H B = some (.lst bs)) (ib : IsBox bs) (ha : H a = some (.lst vs)) (nv : ¬ IsBox vs) : a ≠ B := by
  intro e
  subst e
  rw [hb] at ha
  cases ha
  exact nv ib
theorem tup_ne {B a : Addr} {H : Hp} {bs vs : List V} (hb : H B = some (.lst bs)) (ha : H a = some (.tup vs)) : a ≠ B := by
  intro e
  subst e
  rw [hb] at ha
  cases ha
/-- a tree stays where all but the box stays -/
theorem Nodes.ext {B : Addr} {H H' : Hp} {bs : List V} (hb : H B = some (.lst bs)) (ib : IsBox bs) (e : Ext B H H') : ∀ {t : T} {vs : List V}, Nodes H t vs → Nodes H' t vs
  | .nil, _, h => h
  | .text s r, _, h => by
    obtain ⟨p, ws, rfl, hp, hr⟩ := h
    exact ⟨p, ws, rfl, e _ _ (tup_ne hb hp) hp, Nodes.ext hb ib e hr⟩
  | .shw n r, _, h => by
    obtain ⟨p, ws, rfl, hp, hr⟩ := h
    exact ⟨p, ws, rfl, e _ _ (tup_ne hb hp) hp, Nodes.ext hb ib e hr⟩
  | .num r, _, h => by
    obtain ⟨p, ws, rfl, hp, hr⟩ := h
    exact ⟨p, ws, rfl, e _ _ (tup_ne hb hp) hp, Nodes.ext hb ib e hr⟩
  | .cho hd cs o r, _, h => by
    obtain ⟨p, ws, ca, cvs, oa, ovs, rfl, hp, hc, hcs, ho, hos, hr⟩ := h
    exact ⟨p, ws, ca, cvs, oa, ovs, rfl, e _ _ (tup_ne hb hp) hp, e _ _ (lst_ne hb ib hc hcs.notBox) hc, Nodes.ext hb ib e hcs, e _ _ (lst_ne hb ib ho hos.notBox) ho, Nodes.ext hb ib e hos, Nodes.ext hb ib e hr⟩
  | .cas k m r, _, h => by
    obtain ⟨p, ws, ma, mvs, rfl, hp, hm, hms, hr⟩ := h
    exact ⟨p, ws, ma, mvs, rfl, e _ _ (tup_ne hb hp) hp, e _ _ (lst_ne hb ib hm hms.notBox) hm, Nodes.ext hb ib e hms, Nodes.ext hb ib e hr⟩
theorem Nodes.same {H H' : Hp} (e : Same H H') : ∀ {t : T} {vs : List V}, Nodes H t vs → Nodes H' t vs
  | .nil, _, h => h
  | .text s r, _, h => by
    obtain ⟨p, ws, rfl, hp, hr⟩ := h
    exact ⟨p, ws, rfl, e _ _ hp, Nodes.same e hr⟩
  | .shw n r, _, h => by
    obtain ⟨p, ws, rfl, hp, hr⟩ := h
    exact ⟨p, ws, rfl, e _ _ hp, Nodes.same e hr⟩
  | .num r, _, h => by
    obtain ⟨p, ws, rfl, hp, hr⟩ := h
    exact ⟨p, ws, rfl, e _ _ hp, Nodes.same e hr⟩
  | .cho hd cs o r, _, h => by
    obtain ⟨p, ws, ca, cvs, oa, ovs, rfl, hp, hc, hcs, ho, hos, hr⟩ := h
    exact ⟨p, ws, ca, cvs, oa, ovs, rfl, e _ _ hp, e _ _ hc, Nodes.same e hcs, e _ _ ho, Nodes.same e hos, Nodes.same e hr⟩
  | .cas k m r, _, h => by
    obtain ⟨p, ws, ma, mvs, rfl, hp, hm, hms, hr⟩ := h
    exact ⟨p, ws, ma, mvs, rfl, e _ _ hp, e _ _ hm, Nodes.same e hms, Nodes.same e hr⟩
/-- two chains, one behind the other -/
def T.app : T → T → T
  | .nil, u => u
  | .text s r, u => .text s (r.app u)
  | .shw n r, u => .shw n (r.app u)
  | .num r, u => .num (r.app u)
  | .cho hd cs o r, u => .cho hd cs o (r.app u)
  | .cas k m r, u => .cas k m (r.app u)
theorem Nodes.app {H : Hp} {u : T} {us : List V} (hu : Nodes H u us) : ∀ {t : T} {vs : List V}, Nodes H t vs → Nodes H (t.app u) (vs ++ us)
  | .nil, _, h => by
    have h' : _ = [] := h
    subst h'
    exact hu
  | .text s r, _, h => by
    obtain ⟨p, ws, rfl, hp, hr⟩ := h
    exact ⟨p, ws ++ us, rfl, hp, Nodes.app hu hr⟩
  | .shw n r, _, h => by
    obtain ⟨p, ws, rfl, hp, hr⟩ := h
    exact ⟨p, ws ++ us, rfl, hp, Nodes.app hu hr⟩
  | .num r, _, h => by
    obtain ⟨p, ws, rfl, hp, hr⟩ := h
    exact ⟨p, ws ++ us, rfl, hp, Nodes.app hu hr⟩
  | .cho hd cs o r, _, h => by
    obtain ⟨p, ws, ca, cvs, oa, ovs, rfl, hp, hc, hcs, ho, hos, hr⟩ := h
    exact ⟨p, ws ++ us, ca, cvs, oa, ovs, rfl, hp, hc, hcs, ho, hos, Nodes.app hu hr⟩
  | .cas k m r, _, h => by
    obtain ⟨p, ws, ma, mvs, rfl, hp, hm, hms, hr⟩ := h
    exact ⟨p, ws ++ us, ma, mvs, rfl, hp, hm, hms, Nodes.app hu hr⟩
section
variable {P : Program} {w : World} {K : PySem.W.Frag} {mg : Str → Option Value} {base : Heap}
/-! ### _law_cell -/
abbrev sCell : Stmt := top 26
theorem scCell : FnScope ["script", "k"] ["script", "k"] (defScope sCell) := ⟨rfl, rfl, rfl, by decide +kernel, rfl, by decide +kernel, by decide +kernel⟩
def spCell (K : PySem.W.Frag) : Sp := fun vs H Q _ => ∃ (a : Addr) (ns : List Int) (k : Int), vs = [.ref a, .int k] ∧ SqL K H a (ns.map V.int) ∧ 0 ≤ k ∧ ∀ z, Q (.int z) H
theorem ok_cell {f : Addr} {fd : FuncData} (F : Fun K "_law_cell" "_law_cell" sCell f fd) (ml : mg "len" = none) : FnOk P w K mg base CX0 1 f fd ["script", "k"] (spCell K) := by
  refine F.ok scCell (fun vs H Q E h => ?_) (fun cdv A outer s H vs Q E hr h => ?_)
  · obtain ⟨a, ns, k, rfl, _⟩ := h
    rfl
  obtain ⟨a, ns, k, rfl, hS, h0, q⟩ := h
  refine ⟨_, pss_cons (ps_if (pt_cmpR op_lt (pv 1) (pe_callB call_len_seq (by rfl) ml PySem.boot_len (pa_cons (pv 0) pa_nil)) (nomark _)) (pss_one (ps_ret (pe_ix ix_list (pv 0) (pv 1) (fun _ _ => rfl)))) pss_nil)
    (pss_one (ps_ret pe_int)), ?_⟩
  refine ⟨_, rfl, _, rfl, a, _, rfl, .inl hS, _, _, rfl, rfl, _, rfl, ?_⟩
  refine ite2 (fun c => ?_) (fun c => ?_)
  · have c' := of_decide_eq_true c
    rw [List.length_map] at c'
    have hk : k.toNat < ns.length := by omega
    refine ⟨_, rfl, _, rfl, a, _, k, .int ns[k.toNat], rfl, rfl, hS, at_of (j := k.toNat) (by omega) (by rw [List.getElem?_map, List.getElem?_eq_getElem hk] <;> rfl), q _⟩
  · exact q _
end
end Mw

namespace Mw
open PySem L2
section
variable {P : Program} {w : World} {K : PySem.W.Frag} {mg : Str → Option Value} {base : Heap}
/-! ### _law_digits: a new list of ints -/
abbrev sDigits : Stmt := top 27
theorem scDigits : FnScope ["script", "first", "last", "digits", "k", "cell", "turn", "seed"] ["script", "first", "last"] (defScope sDigits) := ⟨rfl, rfl, rfl, by decide +kernel, rfl, by decide +kernel, by decide +kernel⟩
def spDigits (K : PySem.W.Frag) : Sp := fun vs H Q _ => ∃ (a : Addr) (ns : List Int), vs = [.ref a, .int 0, .int 63] ∧ SqL K H a (ns.map V.int) ∧ ∀ (d : Addr) (H' : Hp) (ds : List Int), H d = none → Same H H' → H' d = some (.lst (ds.map V.int)) → Q (.ref d) H'
theorem len_ints (ds : List Int) (z : Int) : ds.map V.int ++ [V.int z] = (ds ++ [z]).map V.int := by simp
theorem ok_digits {f fC : Addr} {fd fdC : FuncData} (F : Fun K "_law_digits" "_law_digits" sDigits f fd) (GC : FnOk P w K mg base CX0 1 fC fdC ["script", "k"] (spCell K)) (bC : Binds K fdC ["script", "k"] []) (kC : PySem.W.keepIn K (.ref fC) = true) (mC : mg "_law_cell" = some (.ref fC)) (mr : mg "range" = none) (mi : mg "int" = none) :
    FnOk P w K mg base CX0 2 f fd ["script", "first", "last"] (spDigits K) := by
  refine F.ok scDigits (fun vs H Q E h => ?_) (fun cdv A outer s H vs Q E hr h => ?_)
  · obtain ⟨a, ns, rfl, _⟩ := h
    rfl
  obtain ⟨a, ns, rfl, hS, q⟩ := h
  have nd := scDigits.nd
  refine ⟨_, pss_cons (ps_set (i := 3) nd rfl (.inl rfl) (pe_lst pa_nil))
    (pss_cons (ps_for PassesOwn.never rfl (pi_range2 rfl mr (pa_cons (pv 1) (pa_cons (pv 2) pa_nil))) (pg_name (i := 4) nd rfl (.inl rfl))
      (pss_cons (ps_set (i := 5) nd rfl (.inl rfl) (pe_call GC hr rfl mC kC bC .nil pass0 (pa_cons (pv 0) (pa_cons (pv 4) pa_nil))))
      (Evl.pss_cut (ps_if (pt_cmpR op_lt (pv 5) pe_int (nomark _)) (pss_one (ps_set (i := 5) nd rfl (.inl rfl) (pe_op op_sub pe_int (pe_op op_mul pe_int (pv 5))))) pss_nil)
      (pss_one (ps_if (pt_cmpR op_ge (pv 5) (pe_op op_pow pe_int pe_int) (nomark _))
        (pss_one (ps_for PassesOwn.never rfl (pi_range1 rfl mr (pa_cons pe_int pa_nil)) (pg_name (i := 6) nd rfl (.inl rfl))
          (pss_one (ps_if (pt_cmpR op_gt (pv 5) pe_int (nomark _))
            (pss_cons (ps_expr (pe_bm PySem.F.plainAttrs_list PySem.F.slot_list_append PySem.F.type_list_append mt_append (pv 3) (pa_cons (pe_op op_mod (pe_callTy call_int1 (by rfl) mi (by decide +kernel) (pa_cons (pv 5) pa_nil)) pe_int) pa_nil)))
            (pss_one (ps_set (i := 5) nd rfl (.inl rfl) (pe_op op_fdiv (pv 5) pe_int)))) pss_nil))))
        (pss_cons (ps_set (i := 7) nd rfl (.inl rfl) (pe_op op_mod (pe_callTy call_int1 (by rfl) mi (by decide +kernel) (pa_cons (pe_op op_add (pe_op op_add (pe_op op_mul (pv 5) pe_int) (pe_op op_mul (pv 4) pe_int)) pe_int) pa_nil)) pe_int))
        (pss_one (ps_for PassesOwn.never rfl (pi_range1 rfl mr (pa_cons pe_int pa_nil)) (pg_name (i := 6) nd rfl (.inl rfl))
          (pss_cons (ps_set (i := 7) nd rfl (.inl rfl) (pe_op op_mod (pe_callTy call_int1 (by rfl) mi (by decide +kernel) (pa_cons (pe_op op_add (pe_op op_add (pe_op op_mul (pv 7) pe_int) (pe_op op_mul pe_int (pv 6))) pe_int) pa_nil)) pe_int))
          (pss_one (ps_expr (pe_bm PySem.F.plainAttrs_list PySem.F.slot_list_append PySem.F.type_list_append mt_append (pv 3) (pa_cons (pe_op op_mod (pe_callTy call_int1 (by rfl) mi (by decide +kernel) (pa_cons (pe_op op_fdiv (pv 7) pe_int) pa_nil)) pe_int) pa_nil)))))))))))))
    (pss_one (ps_ret (pv 3)))), ?_⟩
  refine ⟨Nat.zero_le _, fun d nd0 => ?_⟩
  have s1 : Same H (upd H d (.lst [])) := same_new nd0 _
  refine ⟨_, rfl, _, rfl, 0, 63, rfl, by decide, for_range (lo := 0) (n := (63 - 0 : Int).toNat) (fun i σ H' => ∃ (ds : List Int) (o4 o5 o6 o7 : Option V), σ = [some (.ref a), some (.int 0), some (.int 63), some (.ref d), o4, o5, o6, o7] ∧ Same H H' ∧ H' d = some (.lst (ds.map V.int)) ∧ ds.length ≤ 60 * i)
    ⟨[], none, none, none, none, rfl, s1, upd_same, Nat.le_refl _⟩ ?_ ?_⟩
  · rintro i σ H2 hi ⟨ds, o4, o5, o6, o7, rfl, s2, hd, hl⟩
    refine ⟨_, rfl, _, rfl, a, ns, _, rfl, s2.seq hS, by omega, fun z => ?_⟩
    refine ⟨fun σ' H' => ∃ z' : Int, σ' = [some (.ref a), some (.int 0), some (.int 63), some (.ref d), some (.int (0 + i)), some (.int z'), o6, o7] ∧ H' = H2, ?_, ?_⟩
    · refine ⟨_, rfl, _, _, rfl, rfl, _, rfl, ?_⟩
      refine ite2 (fun _ => ?_) (fun _ => ?_)
      · exact ⟨_, rfl, _, _, rfl, rfl, .inl (by decide), _, _, rfl, rfl, _, rfl, rfl⟩
      · exact ⟨_, rfl, rfl⟩
    · rintro σ' H' ⟨z', rfl, rfl⟩
      refine ⟨_, rfl, _, _, rfl, rfl, (by unfold CPow; decide), _, _, rfl, rfl, _, rfl, ?_⟩
      refine ite2 (fun _ => ?_) (fun _ => ?_)
      · refine ⟨60, rfl, by decide, by decide, for_range (lo := 0) (n := 60) (fun j σ H' => ∃ (ds' : List Int) (z' : Int) (o6 : Option V), σ = [some (.ref a), some (.int 0), some (.int 63), some (.ref d), some (.int (0 + i)), some (.int z'), o6, o7] ∧ Same H H' ∧ H' d = some (.lst (ds'.map V.int)) ∧ ds'.length ≤ 60 * i + j)
          ⟨ds, z', o6, rfl, s2, hd, hl⟩ ?_ ?_⟩
        · rintro j σ H3 hj ⟨ds', z'', o6, rfl, s3, hd3, hl3⟩
          refine ⟨_, rfl, _, _, rfl, rfl, _, rfl, ?_⟩
          refine ite2 (fun _ => ?_) (fun _ => ?_)
          · refine ⟨_, rfl, .inl ⟨rfl, _, SqL.of hd3⟩, _, rfl, .inl ⟨_, rfl, _, _, rfl, rfl, (by show (0 : Int) < 1000; decide), d, _, _, rfl, rfl, hd3, ?_, ?_⟩⟩
            · rw [List.length_map]
              exact Nat.lt_of_lt_of_le (show ds'.length < 100000 by omega) (by decide)
            · refine ⟨_, rfl, _, _, rfl, rfl, ⟨by decide, by decide⟩, ds' ++ [z'' % 1000], _, _, rfl, same_mut s3 nd0 _, ?_, ?_⟩
              · rw [upd_same, len_ints]
              · rw [List.length_append, List.length_singleton]
                omega
          · exact ⟨ds', _, _, rfl, s3, hd3, by omega⟩
        · rintro σ H3 ⟨ds', z'', o6, rfl, s3, hd3, hl3⟩
          exact ⟨ds', _, _, _, _, rfl, s3, hd3, by omega⟩
      · refine ⟨_, rfl, _, _, rfl, rfl, .inr (by decide), _, rfl, _, _, rfl, rfl, .inr (by decide), _, _, rfl, rfl, _, _, rfl, rfl, .inl ⟨_, rfl, _, _, rfl, rfl, (by show (0 : Int) < 2147483647; decide), ?_⟩⟩
        refine ⟨12, rfl, by decide, by decide, for_range (lo := 0) (n := 12) (fun j σ H' => ∃ (ds' : List Int) (z7 : Int) (o6 : Option V), σ = [some (.ref a), some (.int 0), some (.int 63), some (.ref d), some (.int (0 + i)), some (.int z'), o6, some (.int z7)] ∧ Same H H' ∧ H' d = some (.lst (ds'.map V.int)) ∧ ds'.length ≤ 60 * i + j)
          ⟨ds, _, o6, rfl, s2, hd, hl⟩ ?_ ?_⟩
        · rintro j σ H3 hj ⟨ds', z7, o6, rfl, s3, hd3, hl3⟩
          refine ⟨_, rfl, _, _, rfl, rfl, .inr (by decide), _, rfl, _, _, rfl, rfl, .inl (by decide), _, _, rfl, rfl, _, _, rfl, rfl, .inl ⟨_, rfl, _, _, rfl, rfl, (by show (0 : Int) < 2147483647; decide), ?_⟩⟩
          refine ⟨_, rfl, .inl ⟨rfl, _, SqL.of hd3⟩, _, rfl, _, _, rfl, rfl, ⟨by decide, by decide⟩, .inl ⟨_, rfl, _, _, rfl, rfl, (by show (0 : Int) < 1000; decide), d, _, _, rfl, rfl, hd3, ?_, ?_⟩⟩
          · rw [List.length_map]
            exact Nat.lt_of_lt_of_le (show ds'.length < 100000 by omega) (by decide)
          · refine ⟨ds' ++ [((z7 * 16807 + 7 * (0 + (j : Int)) + 1) % 2147483647 / 997) % 1000], _, _, rfl, same_mut s3 nd0 _, ?_, ?_⟩
            · rw [upd_same, len_ints]
            · rw [List.length_append, List.length_singleton]
              omega
        · rintro σ H3 ⟨ds', z7, o6, rfl, s3, hd3, hl3⟩
          exact ⟨ds', _, _, _, _, rfl, s3, hd3, by omega⟩
  · rintro σ H2 ⟨ds, o4, o5, o6, o7, rfl, s2, hd, hl⟩
    exact ⟨_, rfl, q d H2 ds nd0 s2 hd⟩
end
end Mw

namespace Mw
open PySem L2
/-! ### how a heap goes on: all but the box stays, nothing is given up -/
structure Go (B : Addr) (H H' : Hp) : Prop where
  ext : ∀ b o, b ≠ B → H b = some o → H' b = some o
  dom : ∀ b, H' b = none → H b = none
theorem Go.refl (B : Addr) (H : Hp) : Go B H H := ⟨fun _ _ _ h => h, fun _ h => h⟩
theorem Go.trans {B : Addr} {H H1 H2 : Hp} (a : Go B H H1) (b : Go B H1 H2) : Go B H H2 := ⟨fun c o n h => b.ext c o n (a.ext c o n h), fun c h => a.dom c (b.dom c h)⟩
theorem upd_none {H : Hp} {p b : Addr} {o : HO} (h : upd H p o b = none) : H b = none := by
  unfold upd at h
  split at h
  · cases h
  · exact h
theorem Go.new {B : Addr} {H : Hp} {p : Addr} (h : H p = none) (o : HO) : Go B H (upd H p o) := ⟨fun b u _ q => same_new h o b u q, fun b q => upd_none q⟩
theorem Go.mut {B : Addr} {H H' : Hp} {p : Addr} (g : Go B H H') (h : H p = none) (o : HO) : Go B H (upd H' p o) :=
  ⟨fun b u n q => by
    rw [upd_ne (ne_of_none q h)]
    exact g.ext b u n q, fun b q => g.dom b (upd_none q)⟩
theorem Go.box (B : Addr) (H : Hp) (o : HO) : Go B H (upd H B o) := ⟨fun b u n q => by rw [upd_ne n]; exact q, fun b q => upd_none q⟩
theorem Go.same {B : Addr} {H H' : Hp} (s : Same H H') : Go B H H' := ⟨fun b o _ h => s b o h, fun b h => s.free h⟩
/-- what is new in H, seen from H0 -/
def fr (H0 H : Hp) : Hp := fun a => match H0 a with
  | none => H a
  | some _ => none
theorem fr_new {H0 H : Hp} {a : Addr} (h : H0 a = none) : fr H0 H a = H a := by
  unfold fr
  rw [h]
theorem fr_old {H0 H : Hp} {a : Addr} {o : HO} (h : H0 a = some o) : fr H0 H a = none := by
  unfold fr
  rw [h]
theorem fr_in {H0 H : Hp} {a : Addr} {o : HO} (h : fr H0 H a = some o) : H0 a = none ∧ H a = some o := by
  unfold fr at h
  split at h
  · exact ⟨by assumption, h⟩
  · cases h
theorem fr_go {B : Addr} {H0 H1 H2 : Hp} {ob : HO} (hb : H0 B = some ob) (g : Go B H1 H2) : Same (fr H0 H1) (fr H0 H2) := fun a o h => by
  obtain ⟨h0, h1⟩ := fr_in h
  rw [fr_new h0]
  exact g.ext a o (by rintro rfl; rw [hb] at h0; cases h0) h1
theorem fr_same {H0 H1 H2 : Hp} (g : Same H1 H2) : Same (fr H0 H1) (fr H0 H2) := fun a o h => by
  obtain ⟨h0, h1⟩ := fr_in h
  rw [fr_new h0]
  exact g a o h1
theorem fr_mut {H0 H1 : Hp} {l : Addr} {ol : HO} (hl : H0 l = some ol) (o : HO) : Same (fr H0 H1) (fr H0 (upd H1 l o)) := fun a u h => by
  obtain ⟨h0, h1⟩ := fr_in h
  rw [fr_new h0, upd_ne (by rintro rfl; rw [hl] at h0; cases h0)]
  exact h1
theorem fr_dom {H0 H1 H2 : Hp} (g : ∀ b, H1 b = none → H0 b = none) : Same (fr H1 H2) (fr H0 H2) := fun a u h => by
  obtain ⟨h0, h1⟩ := fr_in h
  rw [fr_new (g a h0)]
  exact h1
theorem fr_out {H0 H : Hp} : Same (fr H0 H) H := fun a o h => (fr_in h).2
/-- the box: digits and a place -/
def Box (H : Hp) (B d : Addr) : Prop := ∃ (ds : List Int) (i : Int), H B = some (.lst [.ref d, .int i]) ∧ H d = some (.lst (ds.map V.int)) ∧ 0 ≤ i
theorem Box.isB {H : Hp} {B d : Addr} (b : Box H B d) : ∃ o, H B = some o := by
  obtain ⟨ds, i, h, _⟩ := b
  exact ⟨_, h⟩
theorem Box.isD {H : Hp} {B d : Addr} (b : Box H B d) : ∃ o, H d = some o := by
  obtain ⟨ds, i, _, h, _⟩ := b
  exact ⟨_, h⟩
theorem Box.neB {H : Hp} {B d l : Addr} (b : Box H B d) (h : H l = none) : l ≠ B := by
  obtain ⟨o, hB⟩ := b.isB
  exact (ne_of_none hB h).symm
theorem Box.neD {H : Hp} {B d l : Addr} (b : Box H B d) (h : H l = none) : l ≠ d := by
  obtain ⟨o, hB⟩ := b.isD
  exact (ne_of_none hB h).symm
theorem Box.ne {H : Hp} {B d : Addr} {ds : List Int} {i : Int} (h : H B = some (.lst [.ref d, .int i])) (hd : H d = some (.lst (ds.map V.int))) : d ≠ B := by
  rintro rfl
  rw [h] at hd
  cases ds with
  | nil => cases hd
  | cons z r => cases hd
theorem Box.same {H H' : Hp} {B d : Addr} (s : Same H H') (b : Box H B d) : Box H' B d := by
  obtain ⟨ds, i, h, hd, hi⟩ := b
  exact ⟨ds, i, s _ _ h, s _ _ hd, hi⟩
theorem Box.mut {H : Hp} {B d l : Addr} (b : Box H B d) (hB : l ≠ B) (hd : l ≠ d) (o : HO) : Box (upd H l o) B d := by
  obtain ⟨ds, i, h, hd', hi⟩ := b
  exact ⟨ds, i, by rw [upd_ne hB.symm]; exact h, by rw [upd_ne hd.symm]; exact hd', hi⟩
theorem Box.new {H : Hp} {B d l : Addr} (b : Box H B d) (h : H l = none) (o : HO) : Box (upd H l o) B d := b.mut (b.neB h) (b.neD h) o
section
variable {P : Program} {w : World} {K : PySem.W.Frag} {mg : Str → Option Value} {base : Heap}
/-! ### _law_draw -/
abbrev sDraw : Stmt := top 28
theorem scDraw : FnScope ["box", "many", "at"] ["box", "many"] (defScope sDraw) := ⟨rfl, rfl, rfl, by decide +kernel, rfl, by decide +kernel, by decide +kernel⟩
def spDraw : Sp := fun vs H Q _ => ∃ (B d : Addr) (n : Int), vs = [.ref B, .int n] ∧ 0 < n ∧ Box H B d ∧ ∀ z H', 0 ≤ z → z < n → Go B H H' → Box H' B d → Q (.int z) H'
theorem ok_draw {f : Addr} {fd : FuncData} (F : Fun K "_law_draw" "_law_draw" sDraw f fd) (ml : mg "len" = none) (mi : mg "int" = none) : FnOk P w K mg base CX0 1 f fd ["box", "many"] spDraw := by
  refine F.ok scDraw (fun vs H Q E h => ?_) (fun cdv A outer s H vs Q E hr h => ?_)
  · obtain ⟨B, d, n, rfl, _⟩ := h
    rfl
  obtain ⟨B, d, n, rfl, h0, ⟨ds, i, hB, hd, hi⟩, q⟩ := h
  have nd := scDraw.nd
  refine ⟨_, pss_cons (ps_set (i := 2) nd rfl (.inl rfl) (pe_ix ix_list (pv 0) pe_int (fun _ _ => rfl)))
    (pss_cons (ps_asg (pe_op op_add (pv 2) pe_int) (pg_sub (pv 0) pe_int set_list))
    (pss_cons (ps_if (pt_cmpR op_lt (pv 2) (pe_callB call_len_seq (by rfl) ml PySem.boot_len (pa_cons (pe_ix ix_list (pv 0) pe_int (fun _ _ => rfl)) pa_nil)) (nomark _))
      (pss_one (ps_ret (pe_op op_mod (pe_callTy call_int1 (by rfl) mi (by decide +kernel) (pa_cons (pe_ix ix_list (pe_ix ix_list (pv 0) pe_int (fun _ _ => rfl)) (pv 2) (fun _ _ => rfl)) pa_nil)) (pv 1)))) pss_nil)
    (pss_one (ps_ret pe_int)))), ?_⟩
  have ne : d ≠ B := Box.ne hB hd
  refine ⟨_, rfl, B, _, 1, _, rfl, rfl, SqL.of hB, atI_nat (j := 1) rfl, ?_⟩
  refine ⟨_, rfl, _, _, rfl, rfl, _, rfl, B, _, 1, 1, rfl, rfl, hB, rfl, ?_⟩
  have hB' : upd H B (.lst [.ref d, .int (i + 1)]) B = some (.lst [.ref d, .int (i + 1)]) := upd_same
  have hd' : upd H B (.lst [.ref d, .int (i + 1)]) d = some (.lst (ds.map V.int)) := by rw [upd_ne ne]; exact hd
  have hb : Box (upd H B (.lst [.ref d, .int (i + 1)])) B d := ⟨ds, i + 1, hB', hd', by omega⟩
  refine ⟨_, rfl, _, rfl, B, _, 0, _, rfl, rfl, SqL.of hB', atI_nat (j := 0) rfl, d, _, rfl, .inl (SqL.of hd'), _, _, rfl, rfl, _, rfl, ?_⟩
  refine ite2 (fun c => ?_) (fun c => ?_)
  · have c' := of_decide_eq_true c
    rw [List.length_map] at c'
    have hk : i.toNat < ds.length := by omega
    refine ⟨_, rfl, B, _, 0, _, rfl, rfl, SqL.of hB', atI_nat (j := 0) rfl, _, rfl, d, _, i, .int ds[i.toNat], rfl, rfl, SqL.of hd', at_of (j := i.toNat) (by omega) (by rw [List.getElem?_map, List.getElem?_eq_getElem hk] <;> rfl), .inl ⟨_, rfl, _, rfl, _, _, rfl, rfl, h0, ?_⟩⟩
    exact q _ _ (Int.emod_nonneg _ (by omega)) (Int.emod_lt_of_pos _ h0) (Go.box B H _) hb
  · exact q 0 _ (by omega) h0 (Go.box B H _) hb
/-! ### _law_string -/
abbrev sString : Stmt := top 29
theorem scString : FnScope ["box"] ["box"] (defScope sString) := ⟨rfl, rfl, rfl, by decide +kernel, rfl, by decide +kernel, by decide +kernel⟩
def menu : List Str := ["a", "b ", " files", "'", "{x}", "#", "a'{'", "1\n2", "other {", "~"]
def spString : Sp := fun vs H Q _ => ∃ (B d : Addr), vs = [.ref B] ∧ Box H B d ∧ ∀ s H', s ∈ menu → Go B H H' → Box H' B d → Q (.str s) H'
theorem pick {α : Type} {l : List α} {g : α → V} {z : Int} (h0 : 0 ≤ z) (h : z < (l.length : Int)) : ∃ x, x ∈ l ∧ atI (l.map g) z = some (g x) := by
  have hk : z.toNat < l.length := by omega
  exact ⟨l[z.toNat], List.getElem_mem hk, at_of (j := z.toNat) (by omega) (by rw [List.getElem?_map, List.getElem?_eq_getElem hk] <;> rfl)⟩
theorem ok_string {f fD : Addr} {fd fdD : FuncData} (F : Fun K "_law_string" "_law_string" sString f fd) (GD : FnOk P w K mg base CX0 1 fD fdD ["box", "many"] spDraw) (bD : Binds K fdD ["box", "many"] []) (kD : PySem.W.keepIn K (.ref fD) = true) (mD : mg "_law_draw" = some (.ref fD)) :
    FnOk P w K mg base CX0 2 f fd ["box"] spString := by
  refine F.ok scString (fun vs H Q E h => ?_) (fun cdv A outer s H vs Q E hr h => ?_)
  · obtain ⟨B, d, rfl, _⟩ := h
    rfl
  obtain ⟨B, d, rfl, hb, q⟩ := h
  refine ⟨_, pss_one (ps_ret (pe_ix ix_list (pe_lst (pa_cons pe_str (pa_cons pe_str (pa_cons pe_str (pa_cons pe_str (pa_cons pe_str (pa_cons pe_str (pa_cons pe_str (pa_cons pe_str (pa_cons pe_str (pa_cons pe_str pa_nil)))))))))))
    (pe_call GD hr rfl mD kD bD .nil pass0 (pa_cons (pv 0) (pa_cons pe_int pa_nil))) (fun _ _ => rfl))), ?_⟩
  refine ⟨by decide, fun l hl => ?_⟩
  have s1 : Same H (upd H l (.lst (menu.map V.str))) := same_new hl _
  have nB : l ≠ B := hb.neB hl
  refine ⟨_, rfl, B, d, 10, rfl, by decide, hb.same s1, fun z H' h0 h1 g hb' => ?_⟩
  obtain ⟨x, hx, ha⟩ := pick (l := menu) (g := V.str) (z := z) h0 (by show z < ((10 : Nat) : Int); omega)
  refine ⟨l, _, z, .str x, rfl, rfl, SqL.of (g.ext _ _ nB upd_same), ha, ?_⟩
  exact q x _ hx ((Go.new hl _).trans g) hb'
end
end Mw

namespace Mw
open PySem L2
/-! ### what the law's messages are -/
def T.notText : T → Bool
  | .text _ _ => false
  | _ => true
def T.lastText : T → Bool
  | .nil => false
  | .text _ r => match r with | .nil => true | _ => r.lastText
  | .shw _ r => r.lastText
  | .num r => r.lastText
  | .cho _ _ _ r => r.lastText
  | .cas _ _ r => r.lastText
def T.len : T → Nat
  | .nil => 0
  | .text _ r => r.len + 1
  | .shw _ r => r.len + 1
  | .num r => r.len + 1
  | .cho _ _ _ r => r.len + 1
  | .cas _ _ r => r.len + 1
def T.sz : T → Nat
  | .nil => 0
  | .text s r => 1 + s.length + r.sz
  | .shw _ r => 1 + r.sz
  | .num r => 1 + r.sz
  | .cho _ cs o r => 1 + cs.sz + o.sz + r.sz
  | .cas _ m r => 1 + m.sz + r.sz
def T.keys : T → List V
  | .cas k _ r => k :: r.keys
  | _ => []
def words3 : List Str := ["a", "one", "select"]
def nums4 : List Int := [0, 1, 2, 12]
def cats5 : List Str := ["zero", "one", "two", "few", "many"]
def names4 : List Str := ["n", "w", "who", "count"]
def skeys : List V := words3.map V.str
def pkeys : List V := nums4.map V.int ++ cats5.map V.str
/-- a choice's head, and what stands within it: inside a plural or not, its keys -/
inductive HdOk : List V → Bool → Bool → List V → Prop where
  | sel {n : Str} {i : Bool} {ks : List V} (hn : n = "w" ∨ n = "kind") (hk : ks.Sublist skeys) : HdOk [.str "select", .str n] i i ks
  | plu {n : Str} {off : Int} {i : Bool} {ks : List V} (hn : n = "n" ∨ n = "count") (ho : off = 0 ∨ off = 1 ∨ off = 2) (hk : ks.Sublist pkeys ∨ ks.Sublist pkeys.reverse) : HdOk [.str "plural", .str n, .int off] i true ks
/-- c: cases, not a message; d: so many levels of choices; i: inside a plural -/
def Gd : T → Bool → Nat → Bool → Prop
  | .nil, _, _, _ => True
  | .text s r, c, d, i => c = false ∧ s ∈ menu ∧ r.notText = true ∧ Gd r c d i
  | .shw n r, c, d, i => c = false ∧ n ∈ names4 ∧ Gd r c d i
  | .num r, c, d, i => c = false ∧ i = true ∧ Gd r c d i
  | .cho hd cs o r, c, d, i => c = false ∧ (∃ e j, d = e + 1 ∧ HdOk hd i j cs.keys ∧ Gd cs true e j ∧ Gd o false e j) ∧ Gd r c d i
  | .cas _ m r, c, d, i => c = true ∧ Gd m false d i ∧ Gd r c d i
theorem T.app_len (u : T) : ∀ t : T, (t.app u).len = t.len + u.len
  | .nil => by simp [T.app, T.len]
  | .text _ r => by simp [T.app, T.len, T.app_len u r]; omega
  | .shw _ r => by simp [T.app, T.len, T.app_len u r]; omega
  | .num r => by simp [T.app, T.len, T.app_len u r]; omega
  | .cho _ _ _ r => by simp [T.app, T.len, T.app_len u r]; omega
  | .cas _ _ r => by simp [T.app, T.len, T.app_len u r]; omega
theorem T.app_sz (u : T) : ∀ t : T, (t.app u).sz = t.sz + u.sz
  | .nil => by simp [T.app, T.sz]
  | .text _ r => by simp [T.app, T.sz, T.app_sz u r]; omega
  | .shw _ r => by simp [T.app, T.sz, T.app_sz u r]; omega
  | .num r => by simp [T.app, T.sz, T.app_sz u r]; omega
  | .cho _ _ _ r => by simp [T.app, T.sz, T.app_sz u r]; omega
  | .cas _ _ r => by simp [T.app, T.sz, T.app_sz u r]; omega
theorem T.app_keys (k : V) (m u : T) : ∀ (t : T) (d : Nat) (i : Bool), Gd t true d i → (t.app (.cas k m u)).keys = t.keys ++ k :: u.keys
  | .nil, _, _, _ => rfl
  | .text _ r, _, _, h => by cases h.1
  | .shw _ r, _, _, h => by cases h.1
  | .num r, _, _, h => by cases h.1
  | .cho _ _ _ r, _, _, h => by cases h.1
  | .cas _ _ r, d, i, h => by simp [T.app, T.keys, T.app_keys k m u r d i h.2.2]
theorem T.notText_app {r u : T} (h : r.notText = true) (hu : r = .nil → u.notText = true) : (r.app u).notText = true := by
  cases r <;> first | exact hu rfl | rfl | cases h
theorem Gd.app {u : T} {c : Bool} {d : Nat} {i : Bool} (hu : Gd u c d i) : ∀ {t : T}, Gd t c d i → (t.lastText = true → u.notText = true) → Gd (t.app u) c d i
  | .nil, _, _ => hu
  | .text s r, h, l => by
    refine ⟨h.1, h.2.1, T.notText_app h.2.2.1 (fun e => ?_), Gd.app hu h.2.2.2 (fun e => ?_)⟩
    · subst e
      exact l rfl
    · refine l ?_
      cases r <;> first | rfl | exact e
  | .shw n r, h, l => ⟨h.1, h.2.1, Gd.app hu h.2.2 l⟩
  | .num r, h, l => ⟨h.1, h.2.1, Gd.app hu h.2.2 l⟩
  | .cho hd cs o r, h, l => ⟨h.1, h.2.1, Gd.app hu h.2.2 l⟩
  | .cas k m r, h, l => ⟨h.1, h.2.1, Gd.app hu h.2.2 l⟩
theorem Nodes.length {H : Hp} : ∀ {t : T} {vs : List V}, Nodes H t vs → vs.length = t.len
  | .nil, _, h => by
    have h' : _ = [] := h
    subst h'
    rfl
  | .text s r, _, h => by
    obtain ⟨p, ws, rfl, _, hr⟩ := h
    exact congrArg (· + 1) hr.length
  | .shw n r, _, h => by
    obtain ⟨p, ws, rfl, _, hr⟩ := h
    exact congrArg (· + 1) hr.length
  | .num r, _, h => by
    obtain ⟨p, ws, rfl, _, hr⟩ := h
    exact congrArg (· + 1) hr.length
  | .cho hd cs o r, _, h => by
    obtain ⟨p, ws, ca, cvs, oa, ovs, rfl, _, _, _, _, _, hr⟩ := h
    exact congrArg (· + 1) hr.length
  | .cas k m r, _, h => by
    obtain ⟨p, ws, ma, mvs, rfl, _, _, _, hr⟩ := h
    exact congrArg (· + 1) hr.length
/-- a message's last node is a tuple whose first item tells whether it is a text -/
theorem Nodes.last {H : Hp} : ∀ {t : T} {vs : List V} {d : Nat} {i : Bool}, Nodes H t vs → Gd t false d i → vs ≠ [] → ∃ us p x xs, vs = us ++ [.ref p] ∧ H p = some (.tup (.str x :: xs)) ∧ (x = "text" ↔ t.lastText = true)
  | .nil, _, _, _, h, _, n => absurd h n
  | .text s r, _, d, i, h, g, _ => by
    obtain ⟨p, ws, rfl, hp, hr⟩ := h
    by_cases e : ws = []
    · subst e
      have : r = .nil := by
        have := hr.length
        cases r <;> first | rfl | (simp [T.len] at this)
      subst this
      exact ⟨[], p, _, _, rfl, hp, by simp [T.lastText]⟩
    · obtain ⟨us, q, x, xs, e1, e2, e3⟩ := Nodes.last hr g.2.2.2 e
      refine ⟨.ref p :: us, q, x, xs, by rw [e1]; rfl, e2, ?_⟩
      rw [e3]
      cases r <;> first | rfl | (exfalso; exact e hr)
  | .shw s r, _, d, i, h, g, _ => by
    obtain ⟨p, ws, rfl, hp, hr⟩ := h
    by_cases e : ws = []
    · subst e
      have : r = .nil := by
        have := hr.length
        cases r <;> first | rfl | (simp [T.len] at this)
      subst this
      exact ⟨[], p, _, _, rfl, hp, by simp [T.lastText]; decide⟩
    · obtain ⟨us, q, x, xs, e1, e2, e3⟩ := Nodes.last hr g.2.2 e
      exact ⟨.ref p :: us, q, x, xs, by rw [e1]; rfl, e2, e3⟩
  | .num r, _, d, i, h, g, _ => by
    obtain ⟨p, ws, rfl, hp, hr⟩ := h
    by_cases e : ws = []
    · subst e
      have : r = .nil := by
        have := hr.length
        cases r <;> first | rfl | (simp [T.len] at this)
      subst this
      exact ⟨[], p, _, _, rfl, hp, by simp [T.lastText]; decide⟩
    · obtain ⟨us, q, x, xs, e1, e2, e3⟩ := Nodes.last hr g.2.2 e
      exact ⟨.ref p :: us, q, x, xs, by rw [e1]; rfl, e2, e3⟩
  | .cho hd cs o r, _, d, i, h, g, _ => by
    obtain ⟨p, ws, ca, cvs, oa, ovs, rfl, hp, _, _, _, _, hr⟩ := h
    by_cases e : ws = []
    · subst e
      have : r = .nil := by
        have := hr.length
        cases r <;> first | rfl | (simp [T.len] at this)
      subst this
      obtain ⟨_, ⟨e', j, _, hh, _⟩, _⟩ := g
      cases hh with
      | sel => exact ⟨[], p, _, _, rfl, hp, by simp [T.lastText]; decide⟩
      | plu => exact ⟨[], p, _, _, rfl, hp, by simp [T.lastText]; decide⟩
    · obtain ⟨us, q, x, xs, e1, e2, e3⟩ := Nodes.last hr g.2.2 e
      exact ⟨.ref p :: us, q, x, xs, by rw [e1]; rfl, e2, e3⟩
  | .cas k m r, _, _, _, _, g, _ => by cases g.1
/-- the sizes by levels -/
def nodeW : Nat → Nat
  | 0 => 8
  | d + 1 => 10 + 30 * nodeW d
def msgW (d : Nat) : Nat := 3 * nodeW d
theorem nodeW_ge : ∀ d, 8 ≤ nodeW d
  | 0 => Nat.le_refl _
  | d + 1 => by have := nodeW_ge d; show 8 ≤ 10 + 30 * nodeW d; omega
theorem menu_len {s : Str} (h : s ∈ menu) : s.length ≤ 7 := by
  have a : ∀ s ∈ menu, s.length ≤ 7 := by decide +kernel
  exact a s h
end Mw

namespace Mw
open PySem L2
section
variable {P : Program} {w : World} {K : PySem.W.Frag} {mg : Str → Option Value} {base : Heap}
/-! ### the builder's promises -/
abbrev sSel : Stmt := top 30
abbrev sPlu : Stmt := top 31
abbrev sMsg : Stmt := top 32
theorem scSel : FnScope ["box", "depth", "inside", "cases", "word"] ["box", "depth", "inside"] (defScope sSel) := ⟨rfl, rfl, rfl, by decide +kernel, rfl, by decide +kernel, by decide +kernel⟩
theorem scPlu : FnScope ["box", "depth", "cases", "key"] ["box", "depth"] (defScope sPlu) := ⟨rfl, rfl, rfl, by decide +kernel, rfl, by decide +kernel, by decide +kernel⟩
theorem scMsg : FnScope ["box", "depth", "inside", "message", "turn", "kind"] ["box", "depth", "inside"] (defScope sMsg) := ⟨rfl, rfl, rfl, by decide +kernel, rfl, by decide +kernel, by decide +kernel⟩
/-- a new message of at most d levels -/
def spMsg (d : Nat) : Sp := fun vs H Q _ => ∃ (B b : Addr) (i : Bool), vs = [.ref B, .int d, .bl i] ∧ Box H B b ∧
  ∀ r H' t, Go B H H' → Box H' B b → At (fr H H') r t → Gd t false d i → t.sz ≤ msgW d → t.len ≤ 3 → Q (.ref r) H'
/-- a new node: a choice -/
def NodeAt (H H' : Hp) (p : Addr) (d : Nat) (i : Bool) : Prop := ∃ hd cs o, Nodes (fr H H') (.cho hd cs o .nil) [.ref p] ∧ Gd (.cho hd cs o .nil) false d i ∧ (T.cho hd cs o .nil).sz ≤ nodeW d
def spSel (d : Nat) : Sp := fun vs H Q _ => ∃ (B b : Addr) (i : Bool) (e : Nat), d = e + 1 ∧ vs = [.ref B, .int d, .bl i] ∧ Box H B b ∧ ∀ p H', Go B H H' → Box H' B b → NodeAt H H' p d i → Q (.ref p) H'
def spPlu (d : Nat) : Sp := fun vs H Q _ => ∃ (B b : Addr) (e : Nat), d = e + 1 ∧ vs = [.ref B, .int d] ∧ Box H B b ∧ ∀ p H', Go B H H' → Box H' B b → (∀ i, NodeAt H H' p d i) → Q (.ref p) H'
theorem sz_line {n : Nat} (h : n < 10000000) : n < sizeLine := Nat.lt_of_lt_of_le h (by decide)
theorem le_line {n : Nat} (h : n < 10000000) : n ≤ sizeLine := Nat.le_of_lt (sz_line h)
end
end Mw

namespace Mw
open PySem L2
def MsgInv (B b : Addr) (H H1 : Hp) (l : Addr) (d : Nat) (ins : Bool) (i : Nat) (σ : St) (H' : Hp) : Prop :=
  ∃ vs t o4 o5, σ = [some (.ref B), some (.int d), some (.bl ins), some (.ref l), o4, o5] ∧ Go B H H' ∧ Box H' B b ∧ H' l = some (.lst vs) ∧ Nodes (fr H1 H') t vs ∧ Gd t false d ins ∧ t.sz ≤ i * nodeW d ∧ t.len ≤ i
theorem dom1 {B l : Addr} {H H' : Hp} {o o' : HO} (g : Go B H H') (hl : H' l = some o') : ∀ c, H' c = none → upd H l o c = none := fun c hc => by
  rw [upd_ne (by rintro rfl; rw [hl] at hc; cases hc)]
  exact g.dom c hc
theorem MsgInv.grow {B b l p : Addr} {H H' H'' : Hp} {d : Nat} {ins : Bool} {i : Nat} {vs : List V} {t u : T} {o4 o5 : Option V} {o : HO} (hl0 : H l = none) (hlB : l ≠ B) (hlb : l ≠ b) (hB : ∃ o, H B = some o)
    (g : Go B H H') (hl : H' l = some (.lst vs)) (hn : Nodes (fr (upd H l o) H') t vs) (hg : Gd t false d ins) (hs : t.sz ≤ i * nodeW d) (hlen : t.len ≤ i)
    (g2 : Go B H' H'') (hb : Box H'' B b) (hu : Nodes (fr (upd H l o) H'') u [.ref p]) (gu : Gd u false d ins) (su : u.sz ≤ nodeW d) (lu : u.len = 1) (nt : t.lastText = true → u.notText = true) :
    MsgInv B b H (upd H l o) l d ins (i + 1) [some (.ref B), some (.int d), some (.bl ins), some (.ref l), o4, o5] (upd H'' l (.lst (vs ++ [.ref p]))) := by
  obtain ⟨oB, hB⟩ := hB
  have hB1 : upd H l o B = some oB := by rw [upd_ne hlB.symm]; exact hB
  refine ⟨vs ++ [.ref p], t.app u, o4, o5, rfl, (g.trans g2).mut hl0 _, hb.mut hlB hlb _, upd_same, ?_, hg |> fun h => Gd.app gu h nt, ?_, ?_⟩
  · exact Nodes.same (fr_mut upd_same _) (Nodes.app hu (Nodes.same (fr_go hB1 g2) hn))
  · rw [T.app_sz, Nat.add_mul, Nat.one_mul]
    omega
  · rw [T.app_len]
    omega
/-! ### tests that come to a Bool, the heap as it is -/
theorem t_or {t u : TT} {σ : L2.St} {H : Hp} {Q : Bool → Hp → Prop} (a b : Bool) (ht : ∀ Q : Bool → Hp → Prop, Q a H → t σ H Q) (hu : a = false → ∀ Q : Bool → Hp → Prop, Q b H → u σ H Q) (q : Q (a || b) H) : tOr t u σ H Q := by
  refine ht _ ?_
  cases a with
  | true => exact iteT q
  | false => exact iteF (hu rfl _ q)
theorem t_and {t u : TT} {σ : L2.St} {H : Hp} {Q : Bool → Hp → Prop} (a b : Bool) (ht : ∀ Q : Bool → Hp → Prop, Q a H → t σ H Q) (hu : a = true → ∀ Q : Bool → Hp → Prop, Q b H → u σ H Q) (q : Q (a && b) H) : tAnd t u σ H Q := by
  refine ht _ ?_
  cases a with
  | true => exact iteT (hu rfl _ q)
  | false => exact iteF q
theorem i_or {t u : TT} {tu tw : TS} {D : Ends} {σ : L2.St} {H : Hp} (a b : Bool) (ht : ∀ Q : Bool → Hp → Prop, Q a H → t σ H Q) (hu : a = false → ∀ Q : Bool → Hp → Prop, Q b H → u σ H Q) (q : if (a || b) = true then tu D σ H else tw D σ H) : tIfS (tOr t u) tu tw D σ H :=
  t_or (Q := fun c H1 => if c = true then tu D σ H1 else tw D σ H1) a b ht hu q
theorem int_eq {i j : Int} (h : V.int i = V.int j) : i = j := by cases h; rfl
theorem str_eq {i j : Str} (h : V.str i = V.str j) : i = j := by cases h; rfl
section
variable {P : Program} {w : World} {K : PySem.W.Frag} {mg : Str → Option Value} {base : Heap}
theorem pickL {l : List Str} {z : Int} (h0 : 0 ≤ z) (h : z < (l.length : Int)) : ∃ x, x ∈ l ∧ atI (l.map V.str) z = some (V.str x) := pick h0 h
theorem ok_msg {k d : Nat} {f fD fT fS fP : Addr} {fd fdD fdT fdS fdP : FuncData} (hk : 2 ≤ k) (F : Fun K "_law_message" "_law_message" sMsg f fd)
    (GD : FnOk P w K mg base CX0 1 fD fdD ["box", "many"] spDraw) (bD : Binds K fdD ["box", "many"] []) (kD : PySem.W.keepIn K (.ref fD) = true) (mD : mg "_law_draw" = some (.ref fD))
    (GT : FnOk P w K mg base CX0 2 fT fdT ["box"] spString) (bT : Binds K fdT ["box"] []) (kT : PySem.W.keepIn K (.ref fT) = true) (mT : mg "_law_string" = some (.ref fT))
    (GS : FnOk P w K mg base CX0 k fS fdS ["box", "depth", "inside"] (spSel d)) (bS : Binds K fdS ["box", "depth", "inside"] []) (kS : PySem.W.keepIn K (.ref fS) = true) (mS : mg "_law_select" = some (.ref fS))
    (GP : FnOk P w K mg base CX0 k fP fdP ["box", "depth"] (spPlu d)) (bP : Binds K fdP ["box", "depth"] []) (kP : PySem.W.keepIn K (.ref fP) = true) (mP : mg "_law_plural" = some (.ref fP))
    (mr : mg "range" = none) (ml : mg "len" = none) : FnOk P w K mg base CX0 (k + 1) f fd ["box", "depth", "inside"] (spMsg d) := by
  refine F.ok scMsg (fun vs H Q E h => ?_) (fun cdv A outer s H vs Q E hr h => ?_)
  · obtain ⟨B, b, i, rfl, _⟩ := h
    rfl
  obtain ⟨B, b, ins, rfl, hb, q⟩ := h
  have nd := scMsg.nd
  have hr1 : Room 1 _ := hr.mono (by omega)
  have hr2 : Room 2 _ := hr.mono hk
  refine ⟨_, pss_cons (ps_set (i := 3) nd rfl (.inl rfl) (pe_lst pa_nil))
    (pss_cons (ps_for PassesOwn.never rfl (pi_range1 rfl mr (pa_cons (pe_call GD hr1 rfl mD kD bD .nil pass0 (pa_cons (pv 0) (pa_cons pe_int pa_nil))) pa_nil)) (pg_name (i := 4) nd rfl (.inl rfl))
      (pss_cons (ps_set (i := 5) nd rfl (.inl rfl) (pe_call GD hr1 rfl mD kD bD .nil pass0 (pa_cons (pv 0) (pa_cons pe_int pa_nil))))
      (pss_one (ps_if (PW.pt (pw_or (pt_cmpR op_lt (pv 5) pe_int (nomark _)) (pw_or1 (PW.pt (pw_and (pt_cmpR op_eq (pv 1) pe_int (nomark _)) (pw_and1 (pt_cmpR op_gt (pv 5) pe_int (nomark _))))))))
        (pss_one (ps_if (PW.pt (pw_or (pt_cmpR op_eq (pe_callB call_len_seq (by rfl) ml PySem.boot_len (pa_cons (pv 3) pa_nil)) pe_int (nomark _)) (pw_or1 (pt_cmpR op_ne (pe_ix ix_tup (pe_ix ix_list (pv 3) (pe_un un_neg pe_int) (fun _ _ => rfl)) pe_int (fun _ _ => rfl)) pe_str (nomark _)))))
          (pss_one (ps_expr (pe_bm PySem.F.plainAttrs_list PySem.F.slot_list_append PySem.F.type_list_append mt_append (pv 3) (pa_cons (pe_tup (pa_cons pe_str (pa_cons (pe_call GT hr2 rfl mT kT bT .nil pass0 (pa_cons (pv 0) pa_nil)) pa_nil))) pa_nil)))) pss_nil))
        (pss_one (ps_if (pt_cmpR op_eq (pv 5) pe_int (nomark _))
          (pss_one (ps_expr (pe_bm PySem.F.plainAttrs_list PySem.F.slot_list_append PySem.F.type_list_append mt_append (pv 3) (pa_cons (pe_tup (pa_cons pe_str (pa_cons (pe_ix ix_list (pe_lst (pa_cons pe_str (pa_cons pe_str (pa_cons pe_str (pa_cons pe_str pa_nil))))) (pe_call GD hr1 rfl mD kD bD .nil pass0 (pa_cons (pv 0) (pa_cons pe_int pa_nil))) (fun _ _ => rfl)) pa_nil))) pa_nil))))
          (pss_one (ps_if (pt_cmpR op_eq (pv 5) pe_int (nomark _))
            (pss_one (ps_if (pt_val (pv 2)) (pss_one (ps_expr (pe_bm PySem.F.plainAttrs_list PySem.F.slot_list_append PySem.F.type_list_append mt_append (pv 3) (pa_cons (pe_tup (pa_cons pe_str pa_nil)) pa_nil)))) pss_nil))
            (pss_one (ps_if (pt_cmpR op_lt (pv 5) pe_int (nomark _))
              (pss_one (ps_expr (pe_bm PySem.F.plainAttrs_list PySem.F.slot_list_append PySem.F.type_list_append mt_append (pv 3) (pa_cons (pe_call GP hr rfl mP kP bP .nil pass0 (pa_cons (pv 0) (pa_cons (pv 1) pa_nil))) pa_nil))))
              (pss_one (ps_expr (pe_bm PySem.F.plainAttrs_list PySem.F.slot_list_append PySem.F.type_list_append mt_append (pv 3) (pa_cons (pe_call GS hr rfl mS kS bS .nil pass0 (pa_cons (pv 0) (pa_cons (pv 1) (pa_cons (pv 2) pa_nil)))) pa_nil))))))))))))))
    (pss_one (ps_ret (pv 3)))), ?_⟩
  refine ⟨Nat.zero_le _, fun l hl => ?_⟩
  have hlB := hb.neB hl
  have hlb := hb.neD hl
  have hBs := hb.isB
  refine ⟨_, rfl, B, b, 4, rfl, by decide, hb.new hl _, fun z H2 z0 z4 g2 hb2 => ?_⟩
  refine ⟨z, rfl, by omega, by omega, for_range (lo := 0) (n := z.toNat) (MsgInv B b H (upd H l (.lst [])) l d ins) ⟨[], .nil, none, none, rfl, (Go.new hl _).trans g2, hb2, g2.ext _ _ hlB upd_same, rfl, trivial, Nat.zero_le _, Nat.le_refl _⟩ ?_ ?_⟩
  rotate_left
  · rintro σ H' ⟨vs, t, o4, o5, rfl, g, hb', hl', hn, hg, hs, hlen⟩
    refine ⟨_, rfl, q l H' t g hb' ⟨vs, ?_, ?_⟩ hg ?_ (by omega)⟩
    · rw [fr_new hl]
      exact hl'
    · exact Nodes.same (fr_dom fun c hc => upd_none hc) hn
    · have : z.toNat * nodeW d ≤ 3 * nodeW d := Nat.mul_le_mul_right _ (by omega)
      exact Nat.le_trans hs this
  · rintro i σ H' hi ⟨vs, t, o4, o5, rfl, g, hb', hl', hn, hg, hs, hlen⟩
    have hvs : vs.length < 1000 := by
      rw [hn.length]
      omega
    refine ⟨_, rfl, B, b, 8, rfl, by decide, hb', fun kind H3 k0 k8 g3 hb3 => ?_⟩
    have hl3 : H3 l = some (.lst vs) := g3.ext _ _ hlB hl'
    have g03 := g.trans g3
    have hB1 : ∃ o, upd H l (HO.lst []) B = some o := by
      obtain ⟨o, h⟩ := hBs
      exact ⟨o, by rw [upd_ne hlB.symm]; exact h⟩
    have hn3 : Nodes (fr (upd H l (.lst [])) H3) t vs := by
      obtain ⟨o, h⟩ := hB1
      exact Nodes.same (fr_go h g3) hn
    dsimp only [gName]
    refine i_or (decide (kind < 3)) (decide (V.int (d : Int) = V.int 0) && decide (4 < kind)) (fun Q q => ⟨_, rfl, _, _, rfl, rfl, _, rfl, q⟩)
      (fun _ Q q => t_and (decide (V.int (d : Int) = V.int 0)) (decide (4 < kind)) (fun Q q => ⟨_, rfl, rfl, _, rfl, q⟩) (fun _ Q q => ⟨_, rfl, _, _, rfl, rfl, _, rfl, q⟩) q) ?_
    refine ite2 (fun c => ?_) (fun c => ?_)
    · -- a text
      refine i_or (decide (V.int (vs.length : Int) = V.int 0)) (!t.lastText) (fun Q q => ⟨_, rfl, l, _, rfl, .inl (SqL.of hl3), rfl, _, rfl, q⟩) (fun e Q q => ?_) ?_
      · have ne : vs ≠ [] := by
          rintro rfl
          cases e
        obtain ⟨us, p, x, xs, e1, e2, e3⟩ := Nodes.last hn3 hg ne
        refine ⟨_, rfl, 1, rfl, l, _, -1, .ref p, rfl, rfl, SqL.of hl3, by rw [e1]; exact atI_last _ _, p, _, 0, .str x, rfl, rfl, .inl (.inl (fr_out _ _ e2)), atI_nat (j := 0) rfl, rfl, _, rfl, ?_⟩
        have eb : (!t.lastText) = (!decide (V.str x = V.str "text")) := by
          cases ht : t.lastText with
          | true =>
            rw [e3.mpr ht, decide_eq_true rfl]
          | false =>
            rw [decide_eq_false]
            intro z
            rw [e3.mp (str_eq z)] at ht
            cases ht
        rw [← eb]
        exact q
      · refine ite2 (fun c2 => ?_) (fun c2 => ?_)
        · have nl : t.lastText = true → T.notText (.text "" .nil) = true := fun hlt => by
            exfalso
            rw [hlt] at c2
            have c3 := of_decide_eq_true ((Bool.or_false _).symm.trans c2)
            have : vs = [] := List.length_eq_zero_iff.mp (by have := int_eq c3; omega)
            subst this
            have ht : t = .nil := by
              have := hn3.length
              cases t <;> first | rfl | (simp [T.len] at this)
            subst ht
            cases hlt
          refine ⟨_, rfl, .inl ⟨rfl, _, SqL.of hl3⟩, _, rfl, B, b, rfl, hb3, fun x H4 hx g4 hb4 => ⟨by show 2 ≤ sizeLine; decide, fun p hp => ?_⟩⟩
          have hl4 : H4 l = some (.lst vs) := g4.ext _ _ hlB hl3
          have hp1 : upd H l (HO.lst []) p = none := dom1 (g03.trans g4) hl4 p hp
          refine ⟨l, _, _, rfl, rfl, (by rw [upd_ne (ne_of_none hl4 hp)]; exact hl4), sz_line (by omega), ?_⟩
          exact MsgInv.grow (u := .text x .nil) hl hlB hlb hBs g03 hl3 hn3 hg hs hlen (g4.trans (Go.new hp _)) (hb4.new hp _) ⟨p, [], rfl, by rw [fr_new hp1]; exact upd_same, rfl⟩ ⟨rfl, hx, rfl, trivial⟩
            (by have := menu_len hx; have := nodeW_ge d; show 1 + x.length + 0 ≤ _; omega) rfl nl
        · exact ⟨vs, t, _, _, rfl, g03, hb3, hl3, hn3, hg, by rw [Nat.add_mul]; omega, by omega⟩
    · -- another kind of node
      have hd1 : ¬ kind < 3 ∧ ¬ (d = 0 ∧ 4 < kind) := by
        constructor
        · intro h
          exact c (by rw [decide_eq_true h]; rfl)
        · rintro ⟨rfl, h⟩
          refine c ?_
          rw [decide_eq_true h]
          exact Bool.or_true _
      refine ⟨_, rfl, rfl, _, rfl, ite2 (fun c3 => ?_) (fun c3 => ⟨_, rfl, rfl, _, rfl, ite2 (fun c4 => ?_) (fun c4 => ⟨_, rfl, _, _, rfl, rfl, _, rfl, ite2 (fun c5 => ?_) (fun c5 => ?_)⟩)⟩)⟩
      · -- show
        refine ⟨_, rfl, .inl ⟨rfl, _, SqL.of hl3⟩, by decide, fun m hm => ?_⟩
        have hmB := hb3.neB hm
        refine ⟨_, rfl, B, b, 4, rfl, by decide, hb3.new hm _, fun z' H4 z0' z4' g4 hb4 => ?_⟩
        obtain ⟨x, hx, ha⟩ := pickL (l := names4) z0' (by show z' < ((4 : Nat) : Int); omega)
        refine ⟨m, _, z', .str x, rfl, rfl, SqL.of (g4.ext _ _ hmB upd_same), ha, by show 2 ≤ sizeLine; decide, fun p hp => ?_⟩
        have g34 : Go B H3 H4 := (Go.new hm _).trans g4
        have hl4 : H4 l = some (.lst vs) := g34.ext _ _ hlB hl3
        have hp1 : upd H l (HO.lst []) p = none := dom1 (g03.trans g34) hl4 p hp
        refine ⟨l, _, _, rfl, rfl, (by rw [upd_ne (ne_of_none hl4 hp)]; exact hl4), sz_line (by omega), ?_⟩
        exact MsgInv.grow (u := .shw x .nil) hl hlB hlb hBs g03 hl3 hn3 hg hs hlen (g34.trans (Go.new hp _)) (hb4.new hp _) ⟨p, [], rfl, by rw [fr_new hp1]; exact upd_same, rfl⟩ ⟨rfl, hx, trivial⟩
            (by have := nodeW_ge d; show 1 + 0 ≤ _; omega) rfl fun _ => rfl
      · -- number
        refine ⟨_, rfl, _, rfl, ite2 (fun c6 => ?_) (fun c6 => ?_)⟩
        · refine ⟨_, rfl, .inl ⟨rfl, _, SqL.of hl3⟩, by show 1 ≤ sizeLine; decide, fun p hp => ?_⟩
          have hp1 : upd H l (HO.lst []) p = none := dom1 g03 hl3 p hp
          refine ⟨l, _, _, rfl, rfl, (by rw [upd_ne (ne_of_none hl3 hp)]; exact hl3), sz_line (by omega), ?_⟩
          exact MsgInv.grow (u := .num .nil) hl hlB hlb hBs g03 hl3 hn3 hg hs hlen (Go.new hp _) (hb3.new hp _) ⟨p, [], rfl, by rw [fr_new hp1]; exact upd_same, rfl⟩ ⟨rfl, c6, trivial⟩
            (by have := nodeW_ge d; show 1 + 0 ≤ _; omega) rfl fun _ => rfl
        · exact ⟨vs, t, _, _, rfl, g03, hb3, hl3, hn3, hg, by rw [Nat.add_mul]; omega, by omega⟩
      all_goals
        have hk4 : ¬ kind = 4 := fun e => c4 (by rw [e]; rfl)
        have hk3 : ¬ kind = 3 := fun e => c3 (by rw [e]; rfl)
        obtain ⟨e, he⟩ : ∃ e, d = e + 1 := by
          cases d with
          | zero => exact absurd (by omega) (fun h => hd1.2 ⟨rfl, h⟩)
          | succ e => exact ⟨e, rfl⟩
      · refine ⟨_, rfl, .inl ⟨rfl, _, SqL.of hl3⟩, _, rfl, _, rfl, B, b, e, he, rfl, hb3, fun p H4 g4 hb4 hN => ?_⟩
        obtain ⟨hd', cs, o, n1, n2, n3⟩ := hN ins
        have hl4 : H4 l = some (.lst vs) := g4.ext _ _ hlB hl3
        refine ⟨l, _, _, rfl, rfl, hl4, sz_line (by omega), ?_⟩
        exact MsgInv.grow hl hlB hlb hBs g03 hl3 hn3 hg hs hlen g4 hb4 (Nodes.same (fr_dom (dom1 g03 hl3)) n1) n2 n3 rfl fun _ => rfl
      · refine ⟨_, rfl, .inl ⟨rfl, _, SqL.of hl3⟩, _, rfl, _, rfl, _, rfl, B, b, ins, e, he, rfl, hb3, fun p H4 g4 hb4 hN => ?_⟩
        obtain ⟨hd', cs, o, n1, n2, n3⟩ := hN
        have hl4 : H4 l = some (.lst vs) := g4.ext _ _ hlB hl3
        refine ⟨l, _, _, rfl, rfl, hl4, sz_line (by omega), ?_⟩
        exact MsgInv.grow hl hlB hlb hBs g03 hl3 hn3 hg hs hlen g4 hb4 (Nodes.same (fr_dom (dom1 g03 hl3)) n1) n2 n3 rfl fun _ => rfl
end
end Mw

namespace Mw
open PySem L2
def CasInv (B b l wl : Addr) (H H1 : Hp) (ks : List V) (e : Nat) (j : Bool) (i : Nat) (H' : Hp) : Prop :=
  ∃ vs t, Go B H H' ∧ Box H' B b ∧ H' wl = some (.lst ks) ∧ H' l = some (.lst vs) ∧ Nodes (fr H1 H') t vs ∧ Gd t true e j ∧ t.keys.Sublist (ks.take i) ∧ t.sz ≤ i * (1 + msgW e)
theorem CasInv.skip {B b l wl : Addr} {H H1 H' H'' : Hp} {ks : List V} {e : Nat} {j : Bool} {i : Nat} (h : CasInv B b l wl H H1 ks e j i H') (hlB : l ≠ B) (hwB : wl ≠ B) (hB : ∃ o, H1 B = some o) (g : Go B H' H'') (hb : Box H'' B b) : CasInv B b l wl H H1 ks e j i H'' := by
  obtain ⟨vs, t, g1, _, hw, hl, hn, hg, hk, hs⟩ := h
  obtain ⟨o, hB⟩ := hB
  exact ⟨vs, t, g1.trans g, hb, g.ext _ _ hwB hw, g.ext _ _ hlB hl, Nodes.same (fr_go hB g) hn, hg, hk, hs⟩
theorem take_mono {α : Type} {ys xs : List α} {i : Nat} (h : ys.Sublist (xs.take i)) : ys.Sublist (xs.take (i + 1)) :=
  h.trans (by rw [List.take_succ]; exact List.sublist_append_left _ _)
theorem CasInv.next {B b l wl : Addr} {H H1 H' : Hp} {ks : List V} {e : Nat} {j : Bool} {i : Nat} (h : CasInv B b l wl H H1 ks e j i H') : CasInv B b l wl H H1 ks e j (i + 1) H' := by
  obtain ⟨vs, t, g1, hb, hw, hl, hn, hg, hk, hs⟩ := h
  exact ⟨vs, t, g1, hb, hw, hl, hn, hg, take_mono hk, by rw [Nat.add_mul]; omega⟩
theorem CasInv.grow {B b l wl p r : Addr} {H H' H'' : Hp} {ks : List V} {e : Nat} {j : Bool} {i : Nat} {vs : List V} {t m : T} {k : V} {o : HO} (hl0 : H l = none) (hlB : l ≠ B) (hlb : l ≠ b) (hlw : wl ≠ l) (hwB : wl ≠ B) (hB : ∃ o, H B = some o)
    (g : Go B H H') (hl : H' l = some (.lst vs)) (hw : H' wl = some (.lst ks)) (hn : Nodes (fr (upd H l o) H') t vs) (hg : Gd t true e j) (hs : t.sz ≤ i * (1 + msgW e)) (hk : t.keys.Sublist (ks.take i)) (hki : ks[i]? = some k)
    (g2 : Go B H' H'') (hb : Box H'' B b) (hr : At (fr H' H'') r m) (gm : Gd m false e j) (sm : m.sz ≤ msgW e) (hp : H'' p = none) :
    CasInv B b l wl H (upd H l o) ks e j (i + 1) (upd (upd H'' p (.tup [k, .ref r])) l (.lst (vs ++ [.ref p]))) := by
  obtain ⟨oB, hB⟩ := hB
  have hB1 : upd H l o B = some oB := by rw [upd_ne hlB.symm]; exact hB
  have hl2 : H'' l = some (.lst vs) := g2.ext _ _ hlB hl
  have hw2 : H'' wl = some (.lst ks) := g2.ext _ _ hwB hw
  have hp1 : upd H l o p = none := dom1 (g.trans g2) hl2 p hp
  have s3 : Same H'' (upd H'' p (.tup [k, .ref r])) := same_new hp _
  have hu : Nodes (fr (upd H l o) (upd H'' p (.tup [k, .ref r]))) (.cas k m .nil) [.ref p] := by
    obtain ⟨ws, hr1, hr2⟩ := hr
    have sd : Same (fr H' H'') (fr (upd H l o) (upd H'' p (.tup [k, .ref r]))) := Same.trans (fr_dom (dom1 g hl)) (fr_same s3)
    exact ⟨p, [], r, ws, rfl, by rw [fr_new hp1]; exact upd_same, sd _ _ hr1, Nodes.same sd hr2, rfl⟩
  refine ⟨vs ++ [.ref p], t.app (.cas k m .nil), ((g.trans g2).trans (Go.new hp _)).mut hl0 _, (hb.new hp _).mut hlB hlb _, ?_, upd_same, ?_, ?_, ?_, ?_⟩
  · rw [upd_ne hlw]
    exact s3 _ _ hw2
  · exact Nodes.same (fr_mut upd_same _) (Nodes.app hu (Nodes.same (fr_same s3) (Nodes.same (fr_go hB1 g2) hn)))
  · exact Gd.app (show Gd (.cas k m .nil) true e j from ⟨rfl, gm, trivial⟩) hg fun _ => rfl
  · rw [T.app_keys k m .nil t e j hg, List.take_succ, hki]
    exact hk.append (List.Sublist.refl _)
  · rw [T.app_sz, Nat.add_mul, Nat.one_mul]
    have : (T.cas k m .nil).sz = 1 + m.sz := by simp [T.sz]
    omega
/-- the choice at the end -/
theorem cho_end {B l r p : Addr} {H H' H'' : Hp} {hd : List V} {e : Nat} {i j : Bool} {vs : List V} {t o : T} {ol : HO} (hl0 : H l = none) (hlB : l ≠ B) (hB : ∃ o, H B = some o)
    (g : Go B H H') (hl : H' l = some (.lst vs)) (hn : Nodes (fr (upd H l ol) H') t vs) (hg : Gd t true e j) (hs : t.sz ≤ 9 * (1 + msgW e))
    (g2 : Go B H' H'') (hr : At (fr H' H'') r o) (go : Gd o false e j) (so : o.sz ≤ msgW e) (hp : H'' p = none) (hh : HdOk hd i j t.keys) :
    NodeAt H (upd H'' p (.tup (hd ++ [.ref l, .ref r]))) p (e + 1) i := by
  obtain ⟨oB, hB⟩ := hB
  have hB1 : upd H l ol B = some oB := by rw [upd_ne hlB.symm]; exact hB
  have hl2 : H'' l = some (.lst vs) := g2.ext _ _ hlB hl
  have s3 : Same H'' (upd H'' p (.tup (hd ++ [.ref l, .ref r]))) := same_new hp _
  have hp0 : H p = none := (g.trans g2).dom p hp
  obtain ⟨ws, hr1, hr2⟩ := hr
  have sd : Same (fr H' H'') (fr H (upd H'' p (.tup (hd ++ [.ref l, .ref r])))) := Same.trans (fr_dom g.dom) (fr_same s3)
  refine ⟨hd, t, o, ⟨p, [], l, vs, r, ws, rfl, by rw [fr_new hp0]; exact upd_same, ?_, ?_, sd _ _ hr1, Nodes.same sd hr2, rfl⟩, ⟨rfl, ⟨e, j, rfl, hh, hg, go⟩, trivial⟩, ?_⟩
  · rw [fr_new hl0]
    exact s3 _ _ hl2
  · exact Nodes.same (Same.trans (fr_go hB1 g2) (Same.trans (fr_dom fun c hc => upd_none hc) (fr_same s3))) hn
  · show 1 + t.sz + o.sz + 0 ≤ 10 + 30 * nodeW e
    have e1 : msgW e = 3 * nodeW e := rfl
    rw [e1] at hs so
    omega
section
variable {P : Program} {w : World} {K : PySem.W.Frag} {mg : Str → Option Value} {base : Heap}
theorem args_m (B : Addr) (e : Nat) (i : Bool) : [V.ref B, V.int (((e + 1 : Nat) : Int) - 1), V.bl i] = [V.ref B, V.int (e : Int), V.bl i] := by
  rw [show ((e + 1 : Nat) : Int) - 1 = (e : Int) by omega]
theorem cas_len : ∀ (t : T) (d : Nat) (j : Bool), Gd t true d j → t.len = t.keys.length := by
  intro t
  induction t with
  | cas k m r _ ih => intro d j h; simp [T.len, T.keys, ih d j h.2.2]
  | nil => intro d j h; rfl
  | _ => intro d j h; cases h.1
theorem ok_sel {k e : Nat} {f fD fM : Addr} {fd fdD fdM : FuncData} (hk : 1 ≤ k) (F : Fun K "_law_select" "_law_select" sSel f fd)
    (GD : FnOk P w K mg base CX0 1 fD fdD ["box", "many"] spDraw) (bD : Binds K fdD ["box", "many"] []) (kD : PySem.W.keepIn K (.ref fD) = true) (mD : mg "_law_draw" = some (.ref fD))
    (GM : FnOk P w K mg base CX0 k fM fdM ["box", "depth", "inside"] (spMsg e)) (bM : Binds K fdM ["box", "depth", "inside"] []) (kM : PySem.W.keepIn K (.ref fM) = true) (mM : mg "_law_message" = some (.ref fM)) :
    FnOk P w K mg base CX0 (k + 1) f fd ["box", "depth", "inside"] (spSel (e + 1)) := by
  refine F.ok scSel (fun vs H Q E h => ?_) (fun cdv A outer s H vs Q E hr h => ?_)
  · obtain ⟨B, b, i, _, _, rfl, _⟩ := h
    rfl
  obtain ⟨B, b, ins, _, _, rfl, hb, q⟩ := h
  have nd := scSel.nd
  have hr1 : Room 1 _ := hr.mono hk
  refine ⟨_, pss_cons (ps_set (i := 3) nd rfl (.inl rfl) (pe_lst pa_nil))
    (pss_cons (ps_for PassesOwn.never rfl (pi_list (pe_lst (pa_cons pe_str (pa_cons pe_str (pa_cons pe_str pa_nil))))) (pg_name (i := 4) nd rfl (.inl rfl))
      (pss_one (ps_if (pt_cmpR op_eq (pe_call GD hr1 rfl mD kD bD .nil pass0 (pa_cons (pv 0) (pa_cons pe_int pa_nil))) pe_int (nomark _))
        (pss_one (ps_expr (pe_bm PySem.F.plainAttrs_list PySem.F.slot_list_append PySem.F.type_list_append mt_append (pv 3) (pa_cons (pe_tup (pa_cons (pv 4) (pa_cons (pe_call GM hr rfl mM kM bM .nil pass0 (pa_cons (pv 0) (pa_cons (pe_op op_sub (pv 1) pe_int) (pa_cons (pv 2) pa_nil)))) pa_nil))) pa_nil)))) pss_nil)))
    (pss_one (ps_ret (pe_tup (pa_cons pe_str (pa_cons (pe_ix ix_list (pe_lst (pa_cons pe_str (pa_cons pe_str pa_nil))) (pe_call GD hr1 rfl mD kD bD .nil pass0 (pa_cons (pv 0) (pa_cons pe_int pa_nil))) (fun _ _ => rfl)) (pa_cons (pv 3) (pa_cons (pe_call GM hr rfl mM kM bM .nil pass0 (pa_cons (pv 0) (pa_cons (pe_op op_sub (pv 1) pe_int) (pa_cons (pv 2) pa_nil)))) pa_nil)))))))), ?_⟩
  refine ⟨Nat.zero_le _, fun l hl => ?_⟩
  have hlB := hb.neB hl
  have hlb := hb.neD hl
  have hBs := hb.isB
  have hB1 : ∃ o, upd H l (HO.lst []) B = some o := by
    obtain ⟨o, h⟩ := hBs
    exact ⟨o, by rw [upd_ne hlB.symm]; exact h⟩
  refine ⟨by show 3 ≤ sizeLine; decide, fun wl hwl => ?_⟩
  have hb1 := hb.new hl (.lst [])
  have hwB := hb1.neB hwl
  have hwl' : wl ≠ l := by
    rintro rfl
    rw [upd_same] at hwl
    cases hwl
  refine ⟨wl, rfl, ⟨_, SqL.of upd_same⟩, for_list (xs := skeys) (fun i σ H' => ∃ o4, σ = [some (.ref B), some (.int ((e + 1 : Nat) : Int)), some (.bl ins), some (.ref l), o4] ∧ CasInv B b l wl H (upd H l (.lst [])) skeys e ins i H')
    ⟨none, rfl, [], .nil, (Go.new hl _).trans (Go.new hwl _), hb1.new hwl _, upd_same, by rw [upd_ne hwl'.symm]; exact upd_same, rfl, trivial, List.nil_sublist _, Nat.zero_le _⟩
    (fun i σ H' _ ⟨_, _, _, _, _, _, hw, _⟩ => SqL.of hw) ?_ ?_⟩
  · rintro i x σ H' hx ⟨o4, rfl, I⟩
    obtain ⟨vs0, t0, _, hbI, _⟩ := id I
    refine ⟨_, rfl, B, b, 3, rfl, by decide, hbI, fun z H3 z0 z3 g3 hb3 => ?_⟩
    have I3 := I.skip hlB hwB hB1 g3 hb3
    refine ⟨rfl, _, rfl, ite2 (fun c => ?_) (fun c => ?_)⟩
    · obtain ⟨vs, t, g1, _, hw, hl3, hn, hg, hks, hs⟩ := I3
      have hi3 : i < 3 := (List.getElem?_eq_some_iff.mp hx).1
      have hvs : vs.length < 1000 := by
        rw [hn.length]
        rw [cas_len t e ins hg]
        have := hks.length_le
        rw [List.length_take] at this
        omega
      refine ⟨_, rfl, .inl ⟨rfl, _, SqL.of hl3⟩, _, rfl, _, rfl, _, rfl, _, _, rfl, rfl, _, rfl, B, b, ins, args_m B e ins, hb3, fun r H4 m g4 hb4 hr4 gm sm _ => ?_⟩
      refine ⟨by show 2 ≤ sizeLine; decide, fun p hp => ?_⟩
      have hl4 : H4 l = some (.lst vs) := g4.ext _ _ hlB hl3
      refine ⟨l, _, _, rfl, rfl, (by rw [upd_ne (ne_of_none hl4 hp)]; exact hl4), sz_line (by omega), ?_⟩
      exact ⟨_, rfl, CasInv.grow hl hlB hlb hwl' hwB hBs g1 hl3 hw hn hg hs hks hx g4 hb4 hr4 gm sm hp⟩
    · exact ⟨_, rfl, I3.next⟩
  · rintro σ H' ⟨o4, rfl, I⟩
    obtain ⟨vs, t, g1, hb', hw, hl', hn, hg, hks, hs⟩ := I
    refine ⟨by decide, fun m hm => ?_⟩
    have hmB := hb'.neB hm
    refine ⟨_, rfl, B, b, 2, rfl, by decide, hb'.new hm _, fun z H3 z0 z2 g3 hb3 => ?_⟩
    obtain ⟨x, hx, ha⟩ := pickL (l := ["w", "kind"]) z0 (by show z < ((2 : Nat) : Int); omega)
    refine ⟨m, _, z, .str x, rfl, rfl, SqL.of (g3.ext _ _ hmB upd_same), ha, ?_⟩
    refine ⟨_, rfl, _, rfl, _, rfl, _, _, rfl, rfl, _, rfl, B, b, ins, args_m B e ins, hb3, fun r H4 o g4 hb4 hr4 go so _ => ?_⟩
    have g34 : Go B H' H3 := (Go.new hm _).trans g3
    refine ⟨by show 4 ≤ sizeLine; decide, fun p hp => ?_⟩
    refine q p _ ((g1.trans (g34.trans g4)).trans (Go.new hp _)) (hb4.new hp _) ?_
    have hl3 : H3 l = some (.lst vs) := g34.ext _ _ hlB hl'
    obtain ⟨oB, hB1'⟩ := hB1
    have sk : t.keys.Sublist skeys := by
      have : skeys.take skeys.length = skeys := List.take_length
      rw [this] at hks
      exact hks
    have hs9 : t.sz ≤ 9 * (1 + msgW e) := Nat.le_trans hs (Nat.mul_le_mul_right _ (by decide))
    exact cho_end (hd := [.str "select", .str x]) hl hlB hBs (g1.trans g34) hl3 (Nodes.same (fr_go hB1' g34) hn) hg hs9 g4 hr4 go so hp (.sel (by simpa using hx) sk)
end
end Mw

namespace Mw
open PySem L2
/-- cases backwards -/
def T.rev : T → T
  | .cas k m r => r.rev.app (.cas k m .nil)
  | _ => .nil
theorem Gd.rev {e : Nat} {j : Bool} : ∀ {t : T}, Gd t true e j → Gd t.rev true e j ∧ t.rev.keys = t.keys.reverse ∧ t.rev.sz = t.sz ∧ ∀ {H : Hp} {vs : List V}, Nodes H t vs → Nodes H t.rev vs.reverse
  | .nil, _ => ⟨trivial, rfl, rfl, fun {H vs} h => by
    have h' : vs = [] := h
    subst h'
    exact rfl⟩
  | .text _ _, h => by cases h.1
  | .shw _ _, h => by cases h.1
  | .num _, h => by cases h.1
  | .cho _ _ _ _, h => by cases h.1
  | .cas k m r, h => by
    obtain ⟨i1, i2, i3, i4⟩ := Gd.rev h.2.2
    refine ⟨Gd.app (show Gd (.cas k m .nil) true e j from ⟨rfl, h.2.1, trivial⟩) i1 fun _ => rfl, ?_, ?_, fun {H vs} hn => ?_⟩
    · show (r.rev.app (.cas k m .nil)).keys = (k :: r.keys).reverse
      rw [T.app_keys k m .nil r.rev e j i1, i2, List.reverse_cons]
      rfl
    · show (r.rev.app (.cas k m .nil)).sz = 1 + m.sz + r.sz
      rw [T.app_sz, i3]
      simp [T.sz]
      omega
    · obtain ⟨p, ws, ma, mvs, rfl, hp, hm, hms, hr⟩ := hn
      rw [List.reverse_cons]
      exact Nodes.app (show Nodes H (.cas k m .nil) [.ref p] from ⟨p, [], ma, mvs, rfl, hp, hm, hms, rfl⟩) (i4 hr)
section
variable {P : Program} {w : World} {K : PySem.W.Frag} {mg : Str → Option Value} {base : Heap}
theorem args_p (B : Addr) (e : Nat) : [V.ref B, V.int (((e + 1 : Nat) : Int) - 1), V.bl true] = [V.ref B, V.int (e : Int), V.bl true] := args_m B e true
theorem ok_plu {k e : Nat} {f fD fM : Addr} {fd fdD fdM : FuncData} (hk : 1 ≤ k) (F : Fun K "_law_plural" "_law_plural" sPlu f fd)
    (GD : FnOk P w K mg base CX0 1 fD fdD ["box", "many"] spDraw) (bD : Binds K fdD ["box", "many"] []) (kD : PySem.W.keepIn K (.ref fD) = true) (mD : mg "_law_draw" = some (.ref fD))
    (GM : FnOk P w K mg base CX0 k fM fdM ["box", "depth", "inside"] (spMsg e)) (bM : Binds K fdM ["box", "depth", "inside"] []) (kM : PySem.W.keepIn K (.ref fM) = true) (mM : mg "_law_message" = some (.ref fM)) :
    FnOk P w K mg base CX0 (k + 1) f fd ["box", "depth"] (spPlu (e + 1)) := by
  refine F.ok scPlu (fun vs H Q E h => ?_) (fun cdv A outer s H vs Q E hr h => ?_)
  · obtain ⟨B, b, _, _, rfl, _⟩ := h
    rfl
  obtain ⟨B, b, _, _, rfl, hb, q⟩ := h
  have nd := scPlu.nd
  have hr1 : Room 1 _ := hr.mono hk
  refine ⟨_, pss_cons (ps_set (i := 2) nd rfl (.inl rfl) (pe_lst pa_nil))
    (pss_cons (ps_for PassesOwn.never rfl (pi_list (pe_lst (pa_cons pe_int (pa_cons pe_int (pa_cons pe_int (pa_cons pe_int (pa_cons pe_str (pa_cons pe_str (pa_cons pe_str (pa_cons pe_str (pa_cons pe_str pa_nil))))))))))) (pg_name (i := 3) nd rfl (.inl rfl))
      (pss_one (ps_if (pt_cmpR op_eq (pe_call GD hr1 rfl mD kD bD .nil pass0 (pa_cons (pv 0) (pa_cons pe_int pa_nil))) pe_int (nomark _))
        (pss_one (ps_expr (pe_bm PySem.F.plainAttrs_list PySem.F.slot_list_append PySem.F.type_list_append mt_append (pv 2) (pa_cons (pe_tup (pa_cons (pv 3) (pa_cons (pe_call GM hr rfl mM kM bM .nil pass0 (pa_cons (pv 0) (pa_cons (pe_op op_sub (pv 1) pe_int) (pa_cons pe_bl pa_nil)))) pa_nil))) pa_nil)))) pss_nil)))
    (Evl.pss_cut (ps_if (pt_cmpR op_eq (pe_call GD hr1 rfl mD kD bD .nil pass0 (pa_cons (pv 0) (pa_cons pe_int pa_nil))) pe_int (nomark _))
        (pss_one (ps_expr (pe_bm0 PySem.F.plainAttrs_list PySem.F.slot_list_reverse PySem.F.type_list_reverse mt_reverse (pv 2)))) pss_nil)
    (pss_one (ps_ret (pe_tup (pa_cons pe_str (pa_cons (pe_ix ix_list (pe_lst (pa_cons pe_str (pa_cons pe_str pa_nil))) (pe_call GD hr1 rfl mD kD bD .nil pass0 (pa_cons (pv 0) (pa_cons pe_int pa_nil))) (fun _ _ => rfl))
      (pa_cons (pe_ix ix_list (pe_lst (pa_cons pe_int (pa_cons pe_int (pa_cons pe_int (pa_cons pe_int pa_nil))))) (pe_call GD hr1 rfl mD kD bD .nil pass0 (pa_cons (pv 0) (pa_cons pe_int pa_nil))) (fun _ _ => rfl))
      (pa_cons (pv 2) (pa_cons (pe_call GM hr rfl mM kM bM .nil pass0 (pa_cons (pv 0) (pa_cons (pe_op op_sub (pv 1) pe_int) (pa_cons pe_bl pa_nil)))) pa_nil)))))))))), ?_⟩
  refine ⟨Nat.zero_le _, fun l hl => ?_⟩
  have hlB := hb.neB hl
  have hlb := hb.neD hl
  have hBs := hb.isB
  have hB1 : ∃ o, upd H l (HO.lst []) B = some o := by
    obtain ⟨o, h⟩ := hBs
    exact ⟨o, by rw [upd_ne hlB.symm]; exact h⟩
  refine ⟨by show 9 ≤ sizeLine; decide, fun wl hwl => ?_⟩
  have hb1 := hb.new hl (.lst [])
  have hwB := hb1.neB hwl
  have hwl' : wl ≠ l := by
    rintro rfl
    rw [upd_same] at hwl
    cases hwl
  refine ⟨wl, rfl, ⟨_, SqL.of upd_same⟩, for_list (xs := pkeys) (fun i σ H' => ∃ o4, σ = [some (.ref B), some (.int ((e + 1 : Nat) : Int)), some (.ref l), o4] ∧ CasInv B b l wl H (upd H l (.lst [])) pkeys e true i H')
    ⟨none, rfl, [], .nil, (Go.new hl _).trans (Go.new hwl _), hb1.new hwl _, upd_same, by rw [upd_ne hwl'.symm]; exact upd_same, rfl, trivial, List.nil_sublist _, Nat.zero_le _⟩
    (fun i σ H' _ ⟨_, _, _, _, _, _, hw, _⟩ => SqL.of hw) ?_ ?_⟩
  · rintro i x σ H' hx ⟨o4, rfl, I⟩
    obtain ⟨vs0, t0, _, hbI, _⟩ := id I
    refine ⟨_, rfl, B, b, 5, rfl, by decide, hbI, fun z H3 z0 z3 g3 hb3 => ?_⟩
    have I3 := I.skip hlB hwB hB1 g3 hb3
    refine ⟨rfl, _, rfl, ite2 (fun c => ?_) (fun c => ?_)⟩
    · obtain ⟨vs, t, g1, _, hw, hl3, hn, hg, hks, hs⟩ := I3
      have hi3 : i < 9 := (List.getElem?_eq_some_iff.mp hx).1
      have hvs : vs.length < 1000 := by
        rw [hn.length]
        rw [cas_len t e true hg]
        have := hks.length_le
        rw [List.length_take] at this
        omega
      refine ⟨_, rfl, .inl ⟨rfl, _, SqL.of hl3⟩, _, rfl, _, rfl, _, rfl, _, _, rfl, rfl, B, b, true, args_p B e, hb3, fun r H4 m g4 hb4 hr4 gm sm _ => ?_⟩
      refine ⟨by show 2 ≤ sizeLine; decide, fun p hp => ?_⟩
      have hl4 : H4 l = some (.lst vs) := g4.ext _ _ hlB hl3
      refine ⟨l, _, _, rfl, rfl, (by rw [upd_ne (ne_of_none hl4 hp)]; exact hl4), sz_line (by omega), ?_⟩
      exact ⟨_, rfl, CasInv.grow hl hlB hlb hwl' hwB hBs g1 hl3 hw hn hg hs hks hx g4 hb4 hr4 gm sm hp⟩
    · exact ⟨_, rfl, I3.next⟩
  · rintro σ H' ⟨o4, rfl, I⟩
    obtain ⟨vs0, t0, _, hbI, _⟩ := id I
    refine ⟨fun σ' H3 => ∃ o4 vs t, σ' = [some (.ref B), some (.int ((e + 1 : Nat) : Int)), some (.ref l), o4] ∧ Go B H H3 ∧ Box H3 B b ∧ H3 l = some (.lst vs) ∧ Nodes (fr (upd H l (.lst [])) H3) t vs ∧ Gd t true e true ∧ (t.keys.Sublist pkeys ∨ t.keys.Sublist pkeys.reverse) ∧ t.sz ≤ 9 * (1 + msgW e), ?_, ?_⟩
    · refine ⟨_, rfl, B, b, 3, rfl, by decide, hbI, fun z H3 z0 z3 g3 hb3 => ?_⟩
      obtain ⟨vs, t, g1, _, hw, hl', hn, hg, hks, hs⟩ := I.skip hlB hwB hB1 g3 hb3
      have sk : t.keys.Sublist pkeys := by
        have : pkeys.take pkeys.length = pkeys := List.take_length
        rw [this] at hks
        exact hks
      have hs9 : t.sz ≤ 9 * (1 + msgW e) := hs
      refine ⟨rfl, _, rfl, ite2 (fun c => ?_) (fun c => ?_)⟩
      · refine ⟨_, rfl, .inl ⟨rfl, _, SqL.of hl'⟩, l, _, rfl, rfl, hl', ?_⟩
        obtain ⟨r1, r2, r3, r4⟩ := Gd.rev hg
        refine ⟨_, vs.reverse, t.rev, rfl, g1.mut hl _, hb3.mut hlB hlb _, upd_same, Nodes.same (fr_mut upd_same _) (r4 hn), r1, .inr ?_, by rw [r3]; exact hs9⟩
        rw [r2]
        exact sk.reverse
      · exact ⟨_, vs, t, rfl, g1, hb3, hl', hn, hg, .inl sk, hs9⟩
    · rintro σ' H2 ⟨o4, vs, t, rfl, g1, hb', hl', hn, hg, hks, hs9⟩
      refine ⟨by decide, fun m hm => ?_⟩
      have hmB := hb'.neB hm
      refine ⟨_, rfl, B, b, 2, rfl, by decide, hb'.new hm _, fun z H3 z0 z2 g3 hb3 => ?_⟩
      obtain ⟨x, hx, ha⟩ := pickL (l := ["n", "count"]) z0 (by show z < ((2 : Nat) : Int); omega)
      refine ⟨m, _, z, .str x, rfl, rfl, SqL.of (g3.ext _ _ hmB upd_same), ha, ?_⟩
      have g23 : Go B H2 H3 := (Go.new hm _).trans g3
      refine ⟨by decide, fun m' hm' => ?_⟩
      have hmB' := hb3.neB hm'
      refine ⟨_, rfl, B, b, 4, rfl, by decide, hb3.new hm' _, fun z' H4 z0' z2' g4 hb4 => ?_⟩
      obtain ⟨y, hy, ha'⟩ := pick (l := ([0, 0, 1, 2] : List Int)) (g := V.int) z0' (by show z' < ((4 : Nat) : Int); omega)
      refine ⟨m', _, z', .int y, rfl, rfl, SqL.of (g4.ext _ _ hmB' upd_same), ha', ?_⟩
      have g24 : Go B H2 H4 := g23.trans ((Go.new hm' _).trans g4)
      refine ⟨_, rfl, _, rfl, _, rfl, _, _, rfl, rfl, B, b, true, args_p B e, hb4, fun r H5 o g5 hb5 hr5 go so _ => ?_⟩
      refine ⟨by show 5 ≤ sizeLine; decide, fun p hp => ?_⟩
      refine q p _ ((g1.trans (g24.trans g5)).trans (Go.new hp _)) (hb5.new hp _) fun i => ?_
      have hl3 : H4 l = some (.lst vs) := g24.ext _ _ hlB hl'
      obtain ⟨oB, hB1'⟩ := hB1
      exact cho_end (hd := [.str "plural", .str x, .int y]) (i := i) hl hlB hBs (g1.trans g24) hl3 (Nodes.same (fr_go hB1' g24) hn) hg hs9 g5 hr5 go so hp (.plu (by simpa using hx) (by simpa using hy) hks)
end
end Mw

namespace Mw
open PySem L2
/-! ### nodes one by one -/
def HdW (hd : List V) : Prop := (∃ n, hd = [.str "select", .str n]) ∨ ∃ n off, hd = [.str "plural", .str n, .int off]
def KeyW (k : V) : Prop := (∃ s, k = .str s) ∨ ∃ i, k = .int i
/-- what any message is, and any chain of cases (c) -/
def Wf : T → Bool → Prop
  | .nil, _ => True
  | .text _ r, c => c = false ∧ Wf r c
  | .shw _ r, c => c = false ∧ Wf r c
  | .num r, c => c = false ∧ Wf r c
  | .cho hd cs o r, c => c = false ∧ HdW hd ∧ Wf cs true ∧ Wf o false ∧ Wf r c
  | .cas k m r, c => c = true ∧ KeyW k ∧ Wf m false ∧ Wf r c
def T.single : T → Prop
  | .nil => False
  | .text _ r => r = .nil
  | .shw _ r => r = .nil
  | .num r => r = .nil
  | .cho _ _ _ r => r = .nil
  | .cas _ _ r => r = .nil
def T.isCho : T → Bool
  | .cho _ _ _ _ => true
  | _ => false
def T.isText : T → Bool
  | .text _ _ => true
  | _ => false
def T.nodes : T → List T
  | .nil => []
  | .text s r => .text s .nil :: r.nodes
  | .shw n r => .shw n .nil :: r.nodes
  | .num r => .num .nil :: r.nodes
  | .cho hd cs o r => .cho hd cs o .nil :: r.nodes
  | .cas k m r => .cas k m .nil :: r.nodes
def T.msgs : T → List T
  | .cas _ m r => m :: r.msgs
  | _ => []
def T.inner : T → List T
  | .cho _ cs o _ => cs.msgs ++ [o]
  | _ => []
def Ns (H : Hp) : List T → List V → Prop
  | [], vs => vs = []
  | u :: us, vs => ∃ v ws, vs = v :: ws ∧ Nodes H u [v] ∧ Ns H us ws
def Ats (H : Hp) : List T → List V → Prop
  | [], vs => vs = []
  | t :: ts, vs => ∃ a ws, vs = .ref a :: ws ∧ At H a t ∧ Ats H ts ws
theorem At.same {H H' : Hp} {a : Addr} {t : T} (s : Same H H') (h : At H a t) : At H' a t := by
  obtain ⟨vs, h1, h2⟩ := h
  exact ⟨vs, s _ _ h1, Nodes.same s h2⟩
theorem Ns.same {H H' : Hp} (s : Same H H') : ∀ {us : List T} {vs : List V}, Ns H us vs → Ns H' us vs
  | [], _, h => h
  | u :: us, _, h => by
    obtain ⟨v, ws, rfl, h1, h2⟩ := h
    exact ⟨v, ws, rfl, Nodes.same s h1, Ns.same s h2⟩
theorem Ats.same {H H' : Hp} (s : Same H H') : ∀ {us : List T} {vs : List V}, Ats H us vs → Ats H' us vs
  | [], _, h => h
  | u :: us, _, h => by
    obtain ⟨v, ws, rfl, h1, h2⟩ := h
    exact ⟨v, ws, rfl, h1.same s, Ats.same s h2⟩
theorem Ns.length {H : Hp} : ∀ {us : List T} {vs : List V}, Ns H us vs → vs.length = us.length
  | [], _, h => by rw [show _ = [] from h]; rfl
  | u :: us, _, h => by
    obtain ⟨v, ws, rfl, _, h2⟩ := h
    exact congrArg (· + 1) h2.length
theorem Ats.length {H : Hp} : ∀ {us : List T} {vs : List V}, Ats H us vs → vs.length = us.length
  | [], _, h => by rw [show _ = [] from h]; rfl
  | u :: us, _, h => by
    obtain ⟨v, ws, rfl, _, h2⟩ := h
    exact congrArg (· + 1) h2.length
theorem Ns.append {H : Hp} {us' : List T} {vs' : List V} (h' : Ns H us' vs') : ∀ {us : List T} {vs : List V}, Ns H us vs → Ns H (us ++ us') (vs ++ vs')
  | [], _, h => by rw [show _ = [] from h]; exact h'
  | u :: us, _, h => by
    obtain ⟨v, ws, rfl, h1, h2⟩ := h
    exact ⟨v, ws ++ vs', rfl, h1, Ns.append h' h2⟩
theorem Ats.append {H : Hp} {us' : List T} {vs' : List V} (h' : Ats H us' vs') : ∀ {us : List T} {vs : List V}, Ats H us vs → Ats H (us ++ us') (vs ++ vs')
  | [], _, h => by rw [show _ = [] from h]; exact h'
  | u :: us, _, h => by
    obtain ⟨v, ws, rfl, h1, h2⟩ := h
    exact ⟨v, ws ++ vs', rfl, h1, Ats.append h' h2⟩
theorem Ns.get {H : Hp} : ∀ {us : List T} {vs : List V} {i : Nat} {v : V}, Ns H us vs → vs[i]? = some v → ∃ u, us[i]? = some u ∧ Nodes H u [v]
  | [], _, i, v, h, e => by
    rw [show _ = [] from h] at e
    simp at e
  | u :: us, _, 0, v, h, e => by
    obtain ⟨x, ws, rfl, h1, h2⟩ := h
    have : x = v := by simpa using e
    subst this
    exact ⟨u, rfl, h1⟩
  | u :: us, _, i + 1, v, h, e => by
    obtain ⟨x, ws, rfl, h1, h2⟩ := h
    obtain ⟨u', e1, e2⟩ := Ns.get (i := i) h2 (by simpa using e)
    exact ⟨u', by simpa using e1, e2⟩
theorem Ats.get {H : Hp} : ∀ {us : List T} {vs : List V} {i : Nat} {v : V}, Ats H us vs → vs[i]? = some v → ∃ u a, us[i]? = some u ∧ v = .ref a ∧ At H a u
  | [], _, i, v, h, e => by
    rw [show _ = [] from h] at e
    simp at e
  | u :: us, _, 0, v, h, e => by
    obtain ⟨x, ws, rfl, h1, h2⟩ := h
    have : V.ref x = v := by simpa using e
    subst this
    exact ⟨u, x, rfl, rfl, h1⟩
  | u :: us, _, i + 1, v, h, e => by
    obtain ⟨x, ws, rfl, h1, h2⟩ := h
    obtain ⟨u', a, e1, e2⟩ := Ats.get (i := i) h2 (by simpa using e)
    exact ⟨u', a, by simpa using e1, e2⟩
theorem Nodes.ns {H : Hp} : ∀ {t : T} {vs : List V}, Nodes H t vs → Ns H t.nodes vs
  | .nil, _, h => h
  | .text s r, _, h => by
    obtain ⟨p, ws, rfl, hp, hr⟩ := h
    exact ⟨_, ws, rfl, ⟨p, [], rfl, hp, rfl⟩, Nodes.ns hr⟩
  | .shw n r, _, h => by
    obtain ⟨p, ws, rfl, hp, hr⟩ := h
    exact ⟨_, ws, rfl, ⟨p, [], rfl, hp, rfl⟩, Nodes.ns hr⟩
  | .num r, _, h => by
    obtain ⟨p, ws, rfl, hp, hr⟩ := h
    exact ⟨_, ws, rfl, ⟨p, [], rfl, hp, rfl⟩, Nodes.ns hr⟩
  | .cho hd cs o r, _, h => by
    obtain ⟨p, ws, ca, cvs, oa, ovs, rfl, hp, hc, hcs, ho, hos, hr⟩ := h
    exact ⟨_, ws, rfl, ⟨p, [], ca, cvs, oa, ovs, rfl, hp, hc, hcs, ho, hos, rfl⟩, Nodes.ns hr⟩
  | .cas k m r, _, h => by
    obtain ⟨p, ws, ma, mvs, rfl, hp, hm, hms, hr⟩ := h
    exact ⟨_, ws, rfl, ⟨p, [], ma, mvs, rfl, hp, hm, hms, rfl⟩, Nodes.ns hr⟩
theorem Ns.nodes {H : Hp} : ∀ {t : T} {vs : List V}, Ns H t.nodes vs → Nodes H t vs
  | .nil, _, h => h
  | .text s r, _, h => by
    obtain ⟨v, ws, rfl, ⟨p, _, e, hp, _⟩, hr⟩ := h
    cases e
    exact ⟨p, ws, rfl, hp, Ns.nodes hr⟩
  | .shw n r, _, h => by
    obtain ⟨v, ws, rfl, ⟨p, _, e, hp, _⟩, hr⟩ := h
    cases e
    exact ⟨p, ws, rfl, hp, Ns.nodes hr⟩
  | .num r, _, h => by
    obtain ⟨v, ws, rfl, ⟨p, _, e, hp, _⟩, hr⟩ := h
    cases e
    exact ⟨p, ws, rfl, hp, Ns.nodes hr⟩
  | .cho hd cs o r, _, h => by
    obtain ⟨v, ws, rfl, ⟨p, _, ca, cvs, oa, ovs, e, hp, hc, hcs, ho, hos, _⟩, hr⟩ := h
    cases e
    exact ⟨p, ws, ca, cvs, oa, ovs, rfl, hp, hc, hcs, ho, hos, Ns.nodes hr⟩
  | .cas k m r, _, h => by
    obtain ⟨v, ws, rfl, ⟨p, _, ma, mvs, e, hp, hm, hms, _⟩, hr⟩ := h
    cases e
    exact ⟨p, ws, ma, mvs, rfl, hp, hm, hms, Ns.nodes hr⟩
/-- a node of a message: what its tuple begins with -/
theorem node_of {H : Hp} {u : T} {v : V} (h : Nodes H u [v]) (w : Wf u false) : ∃ p x xs, v = .ref p ∧ H p = some (.tup (.str x :: xs)) ∧ u.single ∧
    ((x = "select" ∨ x = "plural") ↔ u.isCho = true) ∧ (x = "text" ↔ u.isText = true) := by
  cases u with
  | nil => cases (show [v] = [] from h)
  | text s r =>
    obtain ⟨p, ws, e, hp, hr⟩ := h
    cases e
    have : r = .nil := by
      have := hr.length
      cases r <;> first | rfl | (simp [T.len] at this)
    exact ⟨p, _, _, rfl, hp, this, by simp [T.isCho]; decide, by simp [T.isText]⟩
  | shw n r =>
    obtain ⟨p, ws, e, hp, hr⟩ := h
    cases e
    have : r = .nil := by
      have := hr.length
      cases r <;> first | rfl | (simp [T.len] at this)
    exact ⟨p, _, _, rfl, hp, this, by simp [T.isCho]; decide, by simp [T.isText]; decide⟩
  | num r =>
    obtain ⟨p, ws, e, hp, hr⟩ := h
    cases e
    have : r = .nil := by
      have := hr.length
      cases r <;> first | rfl | (simp [T.len] at this)
    exact ⟨p, _, _, rfl, hp, this, by simp [T.isCho]; decide, by simp [T.isText]; decide⟩
  | cho hd cs o r =>
    obtain ⟨p, ws, ca, cvs, oa, ovs, e, hp, _, _, _, _, hr⟩ := h
    cases e
    have : r = .nil := by
      have := hr.length
      cases r <;> first | rfl | (simp [T.len] at this)
    rcases w.2.1 with ⟨n, rfl⟩ | ⟨n, off, rfl⟩
    · exact ⟨p, _, _, rfl, hp, this, by simp [T.isCho], by simp [T.isText]; decide⟩
    · exact ⟨p, _, _, rfl, hp, this, by simp [T.isCho], by simp [T.isText]; decide⟩
  | cas k m r => cases w.1
theorem Nodes.msgs {H : Hp} : ∀ {t : T} {vs : List V}, Nodes H t vs → Wf t true → ∃ ms, Ats H t.msgs ms ∧ vs.length = ms.length ∧ ∀ (i : Nat) (v : V), vs[i]? = some v → ∃ (p : Addr) (k : V) (a : Addr), v = V.ref p ∧ H p = some (.tup [k, .ref a]) ∧ ms[i]? = some (V.ref a)
  | .nil, _, h, _ => ⟨[], rfl, by rw [show _ = [] from h], fun i v e => by rw [show _ = [] from h] at e; simp at e⟩
  | .text s r, _, h, w => by cases w.1
  | .shw n r, _, h, w => by cases w.1
  | .num r, _, h, w => by cases w.1
  | .cho hd cs o r, _, h, w => by cases w.1
  | .cas k m r, _, h, w => by
    obtain ⟨p, ws, ma, mvs, rfl, hp, hm, hms, hr⟩ := h
    obtain ⟨ms, h1, h2, h3⟩ := Nodes.msgs hr w.2.2.2
    refine ⟨.ref ma :: ms, ⟨ma, ms, rfl, ⟨mvs, hm, hms⟩, h1⟩, congrArg (· + 1) h2, fun i v e => ?_⟩
    cases i with
    | zero =>
      have : V.ref p = v := by simpa using e
      subst this
      exact ⟨p, k, ma, rfl, hp, rfl⟩
    | succ i =>
      obtain ⟨q, k', a, e1, e2, e3⟩ := h3 i v (by simpa using e)
      exact ⟨q, k', a, e1, e2, by simpa using e3⟩
end Mw

namespace Mw
open PySem L2
theorem atI_m1 {α : Type} (xs : List α) (a b : α) : atI (xs ++ [a, b]) (-1) = some b := by
  rw [show xs ++ [a, b] = (xs ++ [a]) ++ [b] by simp]
  exact atI_last _ _
theorem atI_m2 {α : Type} (xs : List α) (a b : α) : atI (xs ++ [a, b]) (-2) = some a := by
  unfold atI ixN
  have hl : (xs ++ [a, b]).length = xs.length + 2 := by simp
  rw [if_neg (by decide), if_pos (by rw [hl]; omega), hl]
  show (xs ++ [a, b])[((-2 : Int) + ((xs.length + 2 : Nat) : Int)).toNat]? = some a
  rw [show ((-2 : Int) + ((xs.length + 2 : Nat) : Int)).toNat = xs.length by omega]
  rw [List.getElem?_append_right (Nat.le_refl _), Nat.sub_self]
  rfl
section
variable {P : Program} {w : World} {K : PySem.W.Frag} {mg : Str → Option Value} {base : Heap}
/-! ### is_choice -/
abbrev sIs : Stmt := top 6
theorem scIs : FnScope ["node"] ["node"] (defScope sIs) := ⟨rfl, rfl, rfl, by decide +kernel, rfl, by decide +kernel, by decide +kernel⟩
def spIs : Sp := fun vs H Q _ => ∃ (v : V) (u : T), vs = [v] ∧ Nodes H u [v] ∧ Wf u false ∧ ∀ H', Same H H' → Q (.bl u.isCho) H'
theorem in_two (x a b : Str) : inV (.str x) [.str a, .str b] = decide (x = a ∨ x = b) := by
  have h : ∀ c d : Str, (c == d) = decide (d = c) := fun c d => by
    by_cases e : d = c
    · subst e
      simp
    · rw [decide_eq_false e]
      exact beq_eq_false_iff_ne.mpr fun z => e z.symm
  unfold inV
  simp only [List.any_cons, List.any_nil, Bool.or_false, eqV, h]
  exact (Bool.decide_or _ _).symm
theorem ok_is {f : Addr} {fd : FuncData} (F : Fun K "is_choice" "is_choice" sIs f fd) : FnOk P w K mg base CX0 1 f fd ["node"] spIs := by
  refine F.ok scIs (fun vs H Q E h => ?_) (fun cdv A outer s H vs Q E hr h => ?_)
  · obtain ⟨v, u, rfl, _⟩ := h
    rfl
  obtain ⟨v, u, rfl, hn, hw, q⟩ := h
  obtain ⟨p, x, xs, rfl, hp, _, hc, _⟩ := node_of hn hw
  refine ⟨_, pss_one (ps_ret (pe_cmpR op_in_seq (pe_ix ix_tup (pv 0) pe_int (fun _ _ => rfl)) (pe_tup (pa_cons pe_str (pa_cons pe_str pa_nil))) (by rfl))), ?_⟩
  refine ⟨_, rfl, p, _, 0, .str x, rfl, rfl, .inl (.inl hp), atI_nat (j := 0) rfl, by show 2 ≤ sizeLine; decide, fun t ht => ⟨t, _, rfl, .inr (.inl (.inl upd_same)), rfl, rfl, ?_⟩⟩
  have e : inV (V.str x) [.str "select", .str "plural"] = u.isCho := by
    rw [in_two]
    cases hu : u.isCho with
    | true => exact decide_eq_true (hc.mpr hu)
    | false => exact decide_eq_false fun z => by rw [hc.mp z] at hu; cases hu
  show Q (.bl (inV (V.str x) [.str "select", .str "plural"])) _
  rw [e]
  exact q _ (same_new ht _)
/-! ### cases_of, other_of -/
abbrev sCases : Stmt := top 7
abbrev sOther : Stmt := top 8
theorem scCases : FnScope ["node"] ["node"] (defScope sCases) := ⟨rfl, rfl, rfl, by decide +kernel, rfl, by decide +kernel, by decide +kernel⟩
theorem scOther : FnScope ["node"] ["node"] (defScope sOther) := ⟨rfl, rfl, rfl, by decide +kernel, rfl, by decide +kernel, by decide +kernel⟩
def spCases : Sp := fun vs H Q _ => ∃ (p ca oa : Addr) (hd cvs : List V), vs = [.ref p] ∧ H p = some (.tup (hd ++ [.ref ca, .ref oa])) ∧ H ca = some (.lst cvs) ∧ ∀ l, H l = none → Q (.ref l) (upd H l (.lst cvs))
def spOther : Sp := fun vs H Q _ => ∃ (p ca oa : Addr) (hd : List V), vs = [.ref p] ∧ H p = some (.tup (hd ++ [.ref ca, .ref oa])) ∧ Q (.ref oa) H
theorem ok_cases {f : Addr} {fd : FuncData} (F : Fun K "cases_of" "cases_of" sCases f fd) (ml : mg "list" = none) : FnOk P w K mg base CX0 1 f fd ["node"] spCases := by
  refine F.ok scCases (fun vs H Q E h => ?_) (fun cdv A outer s H vs Q E hr h => ?_)
  · obtain ⟨p, ca, oa, hd, cvs, rfl, _⟩ := h
    rfl
  obtain ⟨p, ca, oa, hd, cvs, rfl, hp, hc, q⟩ := h
  refine ⟨_, pss_one (ps_ret (pe_callTy call_list_of (by rfl) ml (by decide +kernel) (pa_cons (pe_ix ix_tup (pv 0) (pe_un un_neg pe_int) (fun _ _ => rfl)) pa_nil))), ?_⟩
  exact ⟨_, rfl, 2, rfl, p, _, -2, .ref ca, rfl, rfl, .inl (.inl hp), atI_m2 _ _ _, ca, _, rfl, .inl (SqL.of hc), q⟩
theorem ok_other {f : Addr} {fd : FuncData} (F : Fun K "other_of" "other_of" sOther f fd) : FnOk P w K mg base CX0 1 f fd ["node"] spOther := by
  refine F.ok scOther (fun vs H Q E h => ?_) (fun cdv A outer s H vs Q E hr h => ?_)
  · obtain ⟨p, ca, oa, hd, rfl, _⟩ := h
    rfl
  obtain ⟨p, ca, oa, hd, rfl, hp, q⟩ := h
  refine ⟨_, pss_one (ps_ret (pe_ix ix_tup (pv 0) (pe_un un_neg pe_int) (fun _ _ => rfl))), ?_⟩
  exact ⟨_, rfl, 1, rfl, p, _, -1, .ref oa, rfl, rfl, .inl (.inl hp), atI_m1 _ _ _, q⟩
end
end Mw

/-! an __init__ whose first statement is super().__init__(..), of an own class below ValueError -/
namespace Sx
open PySem PySem.Spec PyProof.Rows L2 NdefX
/-- what the row says of the class at C (the cell cc holds it) and of its __init__ at f -/
structure Sup (P : Program) (K : PySem.W.Frag) (mg : Str → Option Value) (C cc cda f : Addr) (F : NF) (ps : List Str) : Prop where
  T : OexC K C
  fn : ∃ (dV kV doc pm ct oc : Value) (an od : Option Addr) (osl : Array (Option Value)), K.lookup f = some ⟨oc, od, .func (PySem.W.fnX F.name F.qual F.params F.body F.scope F.cl dV kV doc pm an (.ref F.c) ct), osl⟩
  cl : F.cl = [(("__class__" : Str), cc)]
  fc : F.c = cda
  cd : PySem.W.codeIn K (.ref cda) F.qual = true
  ar : ∃ ar : Arg, (F.params.posonlyargs ++ F.params.args).head? = some ar ∧ ps[0]? = some ar.arg
  code : ∃ (ccl : Value) (cdd : Option Addr) (vs : Array Value) (ccs : Array (Option Value)) (file : Str) (tf : Tok), K.lookup cda = some ⟨ccl, cdd, .fields vs, ccs⟩ ∧ vs[2]? = some (.str file tf) ∧ ((P.main.file : Str) == file) = true
  cell : ∃ (c1 : Value) (d1 : Option Addr) (s1 : Array (Option Value)), K.lookup cc = some ⟨c1, d1, .cell (some (.ref C)), s1⟩
  isC : ∃ cd, PySem.W.clsIn K C = some cd
  sub : PySem.W.mroIn K C (.ref C) = some true
  gs : mg "super" = none
  ks : F.scope.names.lookup ("super" : Str) = some .globalImplicit
  top : (P.main.scope.names.lookup ("super" : Str)).isSome = false
  sm : PySem.W.ks_superIn K C C "__init__" = some (some (.builtin "ValueError.__init__"))
  opq : PySem.W.nsIn K cStatics "thirdparty.any" = some none
  isV : PySem.W.subIn K (.ref C) (.type "ValueError") = some true
section
variable {M : Model} {A : Around} {E : Value → Shared → Prop} {h : Heap} {g : Array GenState} {d : Drawn} {t : Nat} {os : OsState}
variable {nm q : Str} {C N : Addr} {bs bm : List Value} {hdct : Bool} {sn : List Str} {sub : List Value} {ab : Bool} {col : Option Bool} {dd : Option Addr} {k0 k1 k2 k3 k5 : Option Value}
theorem cw_mw {pos : Pos} {u x : Addr} {i : String} {env : Env} {e : Expr} {es : List Expr} {s : Shared} {Q : Value → Shared → Prop} (he : starEach (e :: es) env = (false, eval e env) :: starEach es env) (hpl : (backTo pos (starEach es env)).any (·.1) = false)
    (h : wpAny M A (spliced (backTo pos (starEach (e :: es) env))) (fun vs s1 => PySem.W.KxsAt i u x s1.heap ∧ wpAny M A (call (.ref u) vs) Q E s1) E s) : wpAny M A (callWith pos (.ref u) [] (backTo pos (starEach (e :: es) env)) []) Q E s := by
  have hb : (backTo pos (starEach (e :: es) env)).any (·.1) = false := by
    rw [he]
    show (false || (backTo pos (starEach es env)).any (·.1)) = false
    rw [hpl]
    rfl
  refine PySem.W.kxs_callWith (i := i) (x := x) hb ?_
  rw [he] at h ⊢
  exact Calls.evalArgs_plain h
theorem call_mw {P : Program} {w : World} {u e t0 : Addr} {us : List Value} {Q : Value → Shared → Prop} (hC : h.get? C = some (excClassObj nm q C N bs bm hdct sn sub ab col dd k0 k1 k2 k3 k5 "ValueError.__new__"))
    (he : h.get? e = some (HandSPX.excO C t0)) (hu : h.get? u = some (PySem.W.kxs_mw "ValueError.__init__" e)) (hl : us.length ≤ sizeLine)
    (hq : ∀ h' t1, (∀ b o, b ≠ e → h.get? b = some o → h'.get? b = some o) → h'.get? e = some (HandSPX.excO C t1) → Q .none ⟨h', g, d, t, os⟩) : wpAny (model P w) A (call (.ref u) us) Q E ⟨h, g, d, t, os⟩ := by
  refine wpAny_call (codeAny_of_tree ?_)
  show wpAny (model P w) A.in1 (callAny (Value.ref u) ⟨us, []⟩) _ _ _
  simp only [callAny]
  refine wpAny_bind (wpAny_load hu ?_)
  have tw : (Value.type "method-wrapper" == Value.type "method" || Value.type "method-wrapper" == Value.type "builtin_function_or_method" || Value.type "method-wrapper" == Value.type "method-wrapper") = true := by decide
  simp only [PySem.W.kxs_mw, tw, if_true]
  refine PySem.W.KFB.if_so (by decide) ?_
  refine wpAny_bind (PySem.W.check_bound_init F.excBase_ValueError.toExcCallFacts hC he rfl ?_)
  refine wpAny_bind (wpAny_pure (wpAny_pure ?_))
  refine ⟨plainId_quiet F.excBase_ValueError.init.plain _, codeAny_builtin F.excBase_ValueError.initEntry ?_⟩
  rw [Around.under_plainId F.excBase_ValueError.init.plain _]
  refine PySem.W.exc_init_tree (cls := .ref C) (t0 := t0) (dv := none) (c2 := .none) (c3 := .none) (b4 := .bool false) he hl (fun h' k e' _ => ?_)
  exact hq h' _ k e'
end
section
variable {CX : CXT} {P : Program} {w : World} {K : PySem.W.Frag} {mg : Str → Option Value} {base : Heap} {C cc cda f : Addr} {F : NF} {N ps : List Str} {k : Nat} {sp : Sp} {body rest : List Stmt} {p0 p1 p2 p3 p4 : Pos} {e : Expr} {es : List Expr}
theorem fn_super {dV kV doc pm ct : Value} {an : Option Addr} {oc : Value} {od : Option Addr} {osl : Array (Option Value)} (U : Sup P K mg C cc cda f F ps) (lk : K.lookup f = some ⟨oc, od, .func (PySem.W.fnX F.name F.qual F.params F.body F.scope F.cl dV kV doc pm an (.ref F.c) ct), osl⟩)
    (S : NScope N ps ["__class__"] F.scope)
    (hbd : F.body = .Expr (.Call (.Attribute (.Call (.Name "super" p0) [] [] p1) "__init__" p2) (e :: es) [] p3) p4 :: rest)
    (len : ∀ vs H Q E, sp vs H Q E → vs.length = ps.length)
    (he : ∀ env, starEach (e :: es) env = (false, eval e env) :: starEach es env) (hpl : ∀ env, (backTo p3 (starEach es env)).any (·.1) = false)
    (hev : ∀ env, eval (.Call (.Attribute (.Call (.Name "super" p0) [] [] p1) "__init__" p2) (e :: es) [] p3) env = (do
      let ov ← attributeBase (.Call (.Name "super" p0) [] [] p1) "__init__" env (eval (.Call (.Name "super" p0) [] [] p1) env)
      standAt p2.atName
      let (f, first) ← holding [ov] (getMethod ov "__init__" (pure false))
      callWith p3 f first (backTo p3 (starEach (e :: es) env)) []))
    (hin : ∀ env : Env, env.scope = F.scope → interactive env = false)
    (hsw : ∀ env : Env, swapsWith (.Call (.Attribute (.Call (.Name "super" p0) [] [] p1) "__init__" p2) (e :: es) [] p3) none p4.line env = pure false)
    (hbody : ∀ (A : Around) (outer : List Env) (s : Shared) (H : Hp) (vs : List V) (Q : VK) (E : XK), Room k (A.deeper (envF F f s.heap.objs.size)) → sp vs H Q E →
      ∃ (x : Addr) (ta : TA) (t : TS), vs[0]? = some (.ref x) ∧ H x = some (exo x C none) ∧ PA (ncx CX P w K mg base N F f A outer s H E) (e :: es) ta ∧ PSs (ncx CX P w K mg base N F f A outer s H E) rest t ∧
        ta (startF N vs [none]) H fun us H1 => us.length ≤ 1000 ∧ H1 x = some (exo x C none) ∧ t { nx := fun _ H' => Q .non H', rt := Q } (startF N vs [none]) H1) :
    FnOk P w K mg base CX (k + 1) f (PySem.W.fnX F.name F.qual F.params F.body F.scope F.cl dV kV doc pm an (.ref F.c) ct) ps sp := by
  refine ⟨len, fun A outer s H args us vs Q E hr e0 hb r hsp => ?_⟩
  have hl := len _ _ _ _ hsp
  have KX : K.In s.heap := e0.mod.kin.keeps fun b o z => (e0.bs b o z).1
  have lim : s.heap.NoLimit := e0.mod.nolimit.keeps fun b o z => (e0.bs b o z).1
  obtain ⟨ar, ha1, ha2⟩ := U.ar
  obtain ⟨ccl, cdd, cvs, ccs, file, tf, hco, hv2, hfi⟩ := U.code
  obtain ⟨c1, d1, s1, hce⟩ := U.cell
  obtain ⟨cdC, hcC⟩ := U.isC
  have hfc := U.fc
  subst hfc
  refine PySem.ks_codeAny_call_defAt (fd := PySem.W.fnX F.name F.qual F.params F.body F.scope F.cl dV kV doc pm an (.ref F.c) ct) hr.depth (KX _ _ lk) rfl lim (PySem.W.codeRec_of KX U.cd) rfl hb S.nocell (fun ⟨n, _⟩ hy => S.par n (List.of_mem_zip hy).1) (fun h₁ hns kp => ?_) S.co S.gen S.kind
  show PySem.wpAt (model P w) (A.deeper (envF F f s.heap.objs.size)) (.func F.body (envF F f s.heap.objs.size)) (execs F.body (envF F f s.heap.objs.size)) _ _ _
  obtain ⟨x, ta, t, hx0, hHx, hA, hS, hq⟩ := hbody A outer s H vs Q E (hr.deeper _) hsp
  have CA : CellsAt F.cl ["__class__"] [none] s.heap H := by
    have hcb := e0.bs cc _ (e0.mod.kin _ _ hce)
    rw [U.cl]
    refine ⟨rfl, fun y c z => ?_, fun y z c a b => ?_, fun i y hy => ?_⟩
    · have : y = "__class__" ∧ c = cc := by
        simp only [List.lookup] at z
        split at z
        · rename_i q
          exact ⟨by simpa using q, (Option.some.inj z).symm⟩
        · cases z
      rw [this.2]
      exact ⟨hcb.2, _, ⟨_, hcb.1, rfl⟩⟩
    · simp only [List.lookup] at a b
      split at a
      · split at b
        · rename_i q1 _ q2
          rw [show y = "__class__" by simpa using q1, show z = "__class__" by simpa using q2]
        · cases b
      · cases a
    · have : y = "__class__" := by
        cases i with
        | zero => exact (Option.some.inj hy).symm
        | succ i => simp at hy
      subst this
      refine ⟨cc, by simp [List.lookup], fun v hv => ?_⟩
      cases i with
      | zero => cases hv
      | succ i => simp at hv
  have I : Inv (ncx CX P w K mg base N F f A outer s H E) [] (startF N vs [none]) H { s with heap := h₁, toks := s.toks + (ps.zip us).length } := inv_startN S hr.hd e0 hl r CA hns kp
  have KX1 : K.In h₁ := KX.keeps kp
  have hkc : F.scope.names.lookup ("__class__" : Str) = some .free := S.frk _ List.mem_cons_self
  have npar : ps.Nodup := by
    have q := S.pre
    have z : (N.take (ps.length + [("__class__" : Str)].length)).Nodup := S.nd.sublist (List.take_sublist _ N)
    rw [q] at z
    exact (List.nodup_append.mp z).1
  have hux : us[0]? = some (.ref x) := by
    cases r with
    | nil => simp at hx0
    | @cons v0 u0 vr ur rv rr =>
      simp at hx0
      subst hx0
      obtain rfl : u0 = Value.ref x := rv
      rfl
  have hself : (ps.zip us).reverse.lookup ar.arg = some (.ref x) := zip_look npar ha2 hux
  have hka : F.scope.names.lookup ar.arg = some .local := S.par _ (List.mem_of_getElem? ha2)
  obtain ⟨t1, hox⟩ := exo_at I.hok hHx
  have hox' : h₁.get? x = some (HandSPX.excO C t1) := hox
  rw [hbd]
  obtain ⟨sh, sg, sd, st, so⟩ := s
  have hi := hin (envF F f sh.objs.size) rfl
  refine PySem.ks_wpAt_execs_cons (PySem.ks_wpAt_Expr_any (PySem.ks_wpAt_MethodCall (pl := pure false) ?_ (hev _)) hi (hsw _))
  obtain ⟨oD, hD1, hD2⟩ : ∃ oD, h₁.get? C = some oD ∧ oD.data = .cls cdC := by
    unfold PySem.W.clsIn at hcC
    split at hcC
    · rename_i c d cd' sl ho
      cases hcC
      exact ⟨_, KX1 _ _ ho, rfl⟩
    · cases hcC
  refine PySem.ks_wpAt_super_base (env := envF F f sh.objs.size) U.ks hkc (by decide) rfl (KX1 _ _ lk) rfl ha1 rfl (KX1 _ _ hco) rfl hv2 hfi U.top ?_
  obtain ⟨mb, hb1, hb2⟩ := I.mod.blt
  refine PySem.W.ks_loadName_global S.kind U.ks (Calls.loadGlobal_builtin (I.mod.glob.keeps I.bk) U.gs (hb1.keeps I.bk) ((hb2 "super" (by decide)).trans PyProof.Rows.Boot.«super») ⟨rfl, ?_⟩)
  refine wpAny_loadName_free S.kind hkc (c := cc) (by show F.cl.lookup _ = _; rw [U.cl]; rfl) ⟨_, KX1 _ _ hce, rfl⟩ ?_
  refine wpAny_loadName_local S.kind hka hns hself ?_
  refine PySem.ks_wpAny_isType_cls hD1 hD2 ⟨rfl, ?_⟩
  refine PySem.ks_wpAny_call_super hD1 hD2 hox' rfl (fun c z => by cases z) (PySem.W.looks_mroIn KX1 U.sub) (fun h2 es2 k2 => ?_)
  have KX2 : K.In h2 := KX1.keeps k2
  have IA : PySem.W.InstAt h2 x (HandSPX.excO C t1) C none := ⟨k2 _ _ hox', rfl, rfl, trivial⟩
  have hII : PySem.W.Looks (model P w) h2 (isInstance (.ref x) (.type "ValueError")) true := IA.type.andThen (PySem.W.looks_subIn KX2 U.isV)
  have hm := U.sm
  unfold PySem.W.ks_superIn at hm
  rw [hcC] at hm
  refine PySem.W.kxs_getMethod PySem.W.kxs_ValueError es2 (PySem.W.looks_opaque KX2 U.opq) (l₀ := cdC.mro) ?_ rfl KX2 hm hII (PySem.W.ks_ne KX2 IA hcC) (by decide) ?_
  · exact fun A Q E s k q => wpAny_bind ((PySem.W.looks_clsIn KX2 hcC) A _ E s k (wpAny_pure q))
  have hu : (h2.push (PySem.W.kxs_mw "ValueError.__init__" x)).get? h2.objs.size = some (PySem.W.kxs_mw "ValueError.__init__" x) := Heap.get?_push_size _ rfl
  have k3 : ∀ b o, h₁.get? b = some o → (h2.push (PySem.W.kxs_mw "ValueError.__init__" x)).get? b = some o := fun b o z => Heap.get?_push_of_some _ (k2 b o z)
  have I3 : Inv (ncx CX P w K mg base N F f A outer ⟨sh, sg, sd, st, so⟩ H E) [] (startF N vs [none]) H ⟨h2.push (PySem.W.kxs_mw "ValueError.__init__" x), sg, sd, st + (ps.zip us).length + 1, so⟩ := I.kept (t' := st + (ps.zip us).length + 1) k3
  have I2 : Inv (ncx CX P w K mg base N F f A outer ⟨sh, sg, sd, st, so⟩ H E) [] (startF N vs [none]) H ⟨h2, sg, sd, st + (ps.zip us).length, so⟩ := I.kept (t' := st + (ps.zip us).length) k2
  have I4 : Inv (ncx CX P w K mg base N F f A outer ⟨sh, sg, sd, st, so⟩ H E) [(h2.objs.size, PySem.W.kxs_mw "ValueError.__init__" x)] (startF N vs [none]) H ⟨h2.push (PySem.W.kxs_mw "ValueError.__init__" x), sg, sd, st + (ps.zip us).length + 1, so⟩ :=
    I3.pins_of fun p hp => by
      rw [List.mem_singleton] at hp
      subst hp
      exact ⟨hu, I2.hok.fresh (Nat.le_refl _), fun z => absurd I2.lt (by rw [← z]; exact Nat.lt_irrefl _), I2.nofs (Nat.le_refl _), fun v z => by cases z⟩
  refine cw_mw (i := "ValueError.__init__") (x := x) (he _) (hpl _) ?_
  refine thn (hA.run p3 _ _ _ H _ (I4.tok _) hq) fun us2 s2 hz => ?_
  obtain ⟨vs2, H2, J, r2, hl2, hx2, ht2⟩ := hz
  obtain ⟨hpu, _⟩ := J.pin (h2.objs.size, PySem.W.kxs_mw "ValueError.__init__" x) (List.mem_append_right _ List.mem_cons_self)
  refine ⟨hpu, ?_⟩
  obtain ⟨nm, q, NN, bs, bm, sn, sub, ab, col, dd, k0, k1, kk2, kk3, k5, hCl, hbm⟩ := U.T.cls
  obtain ⟨t2, ho2⟩ := exo_at J.hok hx2
  have hlen2 : us2.length ≤ sizeLine := by
    rw [← Paired.length r2, sizeLine_eq]
    omega
  obtain ⟨hp2, g2, d2, tk2, os2⟩ := s2
  refine call_mw (J.kIn _ _ hCl) ho2 hpu hlen2 fun h' t3 k3 hx3 => ?_
  have J1 := J.write (t' := tk2) (x := x) (e := x) (o := exo x C none) (by rw [hx2]; exact True.intro) (.inl rfl) k3 ⟨_, hx3⟩ (exo_ok hx3)
  have eu : upd H2 x (exo x C none) = H2 := by
    funext b
    by_cases hb : b = x
    · rw [hb, upd_same, hx2]
    · rw [upd_ne hb]
  rw [eu] at J1
  have J2 := J1.pins_of (pins' := []) fun p hp => absurd hp (by simp)
  refine PySem.wpAt_of_wpAny (wpAny_mono (hS.run [] _ (startF N vs [none]) H2 _ J2 ht2) (fun fl s' hs => ?_) fun e s' hs => hs)
  cases fl with
  | ret u =>
    obtain ⟨v, σ', H', G, rv, q⟩ := hs
    exact ⟨v, H', G.os, G.bare, G.base, G.hok, rv, q⟩
  | next =>
    obtain ⟨σ', H', G, q⟩ := hs
    exact ⟨V.non, H', G.os, G.bare, G.base, G.hok, rfl, q⟩
  | brk => exact hs.elim fun _ z => z.elim fun _ z => False.elim z.2
  | cont => exact hs.elim fun _ z => z.elim fun _ z => False.elim z.2
end
end Sx

namespace Mw
open PySem L2
/-! ### lists of the heap beside lists -/
def A2 {α : Type} (R : α → V → Prop) : List α → List V → Prop
  | [], vs => vs = []
  | x :: xs, vs => ∃ v ws, vs = v :: ws ∧ R x v ∧ A2 R xs ws
theorem A2.mono {α : Type} {R S : α → V → Prop} (h : ∀ x v, R x v → S x v) : ∀ {xs : List α} {vs : List V}, A2 R xs vs → A2 S xs vs
  | [], _, e => e
  | x :: xs, _, e => by
    obtain ⟨v, ws, rfl, h1, h2⟩ := e
    exact ⟨v, ws, rfl, h _ _ h1, A2.mono h h2⟩
theorem A2.length {α : Type} {R : α → V → Prop} : ∀ {xs : List α} {vs : List V}, A2 R xs vs → vs.length = xs.length
  | [], _, e => by rw [show _ = [] from e]; rfl
  | x :: xs, _, e => by
    obtain ⟨v, ws, rfl, _, h2⟩ := e
    exact congrArg (· + 1) h2.length
theorem A2.get {α : Type} {R : α → V → Prop} : ∀ {xs : List α} {vs : List V} {i : Nat} {v : V}, A2 R xs vs → vs[i]? = some v → ∃ x, xs[i]? = some x ∧ R x v
  | [], _, i, v, h, e => by
    rw [show _ = [] from h] at e
    simp at e
  | x :: xs, _, 0, v, h, e => by
    obtain ⟨y, ws, rfl, h1, h2⟩ := h
    have : y = v := by simpa using e
    subst this
    exact ⟨x, rfl, h1⟩
  | x :: xs, _, i + 1, v, h, e => by
    obtain ⟨y, ws, rfl, h1, h2⟩ := h
    obtain ⟨x', e1, e2⟩ := A2.get (i := i) h2 (by simpa using e)
    exact ⟨x', by simpa using e1, e2⟩
theorem A2.app {α : Type} {R : α → V → Prop} {ys : List α} {us : List V} (h' : A2 R ys us) : ∀ {xs : List α} {vs : List V}, A2 R xs vs → A2 R (xs ++ ys) (vs ++ us)
  | [], _, e => by rw [show _ = [] from e]; exact h'
  | x :: xs, _, e => by
    obtain ⟨v, ws, rfl, h1, h2⟩ := e
    exact ⟨v, ws ++ us, rfl, h1, A2.app h' h2⟩
theorem A2.one {α : Type} {R : α → V → Prop} {x : α} {v : V} (h : R x v) : A2 R [x] [v] := ⟨v, [], rfl, h, rfl⟩
theorem A2.snoc {α : Type} {R : α → V → Prop} {xs : List α} {vs : List V} {x : α} {v : V} (h' : A2 R xs vs) (h : R x v) : A2 R (xs ++ [x]) (vs ++ [v]) := A2.app (A2.one h) h'
/-- a list at v, its items beside xs -/
def Ls {α : Type} (R : Hp → α → V → Prop) (H : Hp) (xs : List α) (v : V) : Prop := ∃ r vs, v = .ref r ∧ H r = some (.lst vs) ∧ A2 (R H) xs vs ∧ vs.length < 100000
theorem Ls.same {α : Type} {R : Hp → α → V → Prop} (m : ∀ {H H' : Hp}, Same H H' → ∀ x v, R H x v → R H' x v) {H H' : Hp} (s : Same H H') {xs : List α} {v : V} (h : Ls R H xs v) : Ls R H' xs v := by
  obtain ⟨r, vs, e, h1, h2, h3⟩ := h
  exact ⟨r, vs, e, s _ _ h1, h2.mono (m s), h3⟩
abbrev Rg := Int × Int
abbrev Rel := Int × Bool × List Rg
def RgAt (H : Hp) (x : Rg) (v : V) : Prop := ∃ p, v = .ref p ∧ H p = some (.tup [.int x.1, .int x.2])
def RelAt (H : Hp) (x : Rel) (v : V) : Prop := ∃ p q, v = .ref p ∧ H p = some (.tup [.int x.1, .bl x.2.1, q]) ∧ Ls RgAt H x.2.2 q ∧ 0 ≤ x.1
theorem RgAt.same {H H' : Hp} (s : Same H H') (x : Rg) (v : V) (h : RgAt H x v) : RgAt H' x v := by
  obtain ⟨p, e, h1⟩ := h
  exact ⟨p, e, s _ _ h1⟩
theorem RelAt.same {H H' : Hp} (s : Same H H') (x : Rel) (v : V) (h : RelAt H x v) : RelAt H' x v := by
  obtain ⟨p, q, e, h1, h2, h3⟩ := h
  exact ⟨p, q, e, s _ _ h1, h2.same RgAt.same s, h3⟩
abbrev RowAt (H : Hp) (x : List Rel) (v : V) : Prop := Ls RelAt H x v
theorem RowAt.same {H H' : Hp} (s : Same H H') (x : List Rel) (v : V) (h : RowAt H x v) : RowAt H' x v := Ls.same RelAt.same s h
abbrev ConAt (H : Hp) (x : List (List Rel)) (v : V) : Prop := Ls RowAt H x v
theorem ConAt.same {H H' : Hp} (s : Same H H') (x : List (List Rel)) (v : V) (h : ConAt H x v) : ConAt H' x v := Ls.same RowAt.same s h
abbrev Rule := Str × List (List Rel)
def RuAt (H : Hp) (x : Rule) (v : V) : Prop := ∃ p q, v = .ref p ∧ H p = some (.tup [.str x.1, q]) ∧ ConAt H x.2 q
theorem RuAt.same {H H' : Hp} (s : Same H H') (x : Rule) (v : V) (h : RuAt H x v) : RuAt H' x v := by
  obtain ⟨p, q, e, h1, h2⟩ := h
  exact ⟨p, q, e, s _ _ h1, h2.same s⟩
abbrev RusAt (H : Hp) (x : List Rule) (v : V) : Prop := Ls RuAt H x v
theorem RusAt.same {H H' : Hp} (s : Same H H') (x : List Rule) (v : V) (h : RusAt H x v) : RusAt H' x v := Ls.same RuAt.same s h
/-! ### what holds for a number -/
def rgB (n : Int) (r : Rg) : Bool := decide (r.1 ≤ n) && decide (n ≤ r.2)
def lookN (m n : Int) : Int := if m = 0 then n else n % m
def relB (n : Int) (x : Rel) : Bool := x.2.1 == x.2.2.any (rgB (lookN x.1 n))
def conB (n : Int) (c : List (List Rel)) : Bool := c.any fun row => row.all (relB n)
def catB (n : Int) : List Rule → Str
  | [] => "other"
  | r :: rs => if conB n r.2 then r.1 else catB n rs
def catN (rs : List Rule) (n : Int) : Str := if n < 0 then "other" else catB n rs
theorem take_map {α β : Type} {xs : List α} {i : Nat} {x : α} (g : α → β) (h : xs[i]? = some x) : (xs.take (i + 1)).map g = (xs.take i).map g ++ [g x] := by
  rw [List.take_succ, h, List.map_append]
  rfl
theorem get_lt {α : Type} {xs : List α} {i : Nat} {x : α} (h : xs[i]? = some x) : i < xs.length := (List.getElem?_eq_some_iff.mp h).1
section
variable {P : Program} {w : World} {K : PySem.W.Frag} {mg : Str → Option Value} {base : Heap}
/-! ### relation_holds -/
abbrev sRh : Stmt := top 12
theorem scRh : FnScope ["relation", "number", "modulus", "inside", "ranges", "looked_at", "low", "high"] ["relation", "number"] (defScope sRh) := ⟨rfl, rfl, rfl, by decide +kernel, rfl, by decide +kernel, by decide +kernel⟩
def spRh : Sp := fun vs H Q _ => ∃ (v : V) (x : Rel) (n : Int), vs = [v, .int n] ∧ RelAt H x v ∧ ∀ H', Same H H' → Q (.bl (relB n x)) H'
theorem ok_rh {f : Addr} {fd : FuncData} (F : Fun K "relation_holds" "relation_holds" sRh f fd) (ma : mg "any" = none) : FnOk P w K mg base CX0 1 f fd ["relation", "number"] spRh := by
  refine F.ok scRh (fun vs H Q E h => ?_) (fun cdv A outer s H vs Q E hr h => ?_)
  · obtain ⟨v, x, n, rfl, _⟩ := h
    rfl
  obtain ⟨v, x, n, rfl, ⟨p, rv, rfl, hp, ⟨r, rvs, rfl, hr1, ha, hl⟩, hm⟩, q⟩ := h
  have nd := scRh.nd
  refine ⟨_, pss_cons (ps_asg (pv 0) (pg_tup rfl (pgs_cons (pg_name (i := 2) nd rfl (.inl rfl)) (pgs_cons (pg_name (i := 3) nd rfl (.inl rfl)) (pgs_cons (pg_name (i := 4) nd rfl (.inl rfl)) pgs_nil)))))
    (pss_cons (ps_set (i := 5) nd rfl (.inr rfl) (pe_ifExp (pt_truth (pv 2) (by intro _; rfl)) (pe_op op_mod (pv 1) (pv 2)) (pv 1)))
    (pss_one (ps_ret (pe_cmpR op_eq (pv 3) (pe_callB (cr_any rfl) (by rfl) ma (by decide +kernel) (pa_cons
      (pe_lc (own := [("low", 6), ("high", 7)]) (g := gTup K 2 (gCons (gName 6) (gCons (gName 7) gNil))) (tt := tYes) rfl nd (pi_list (pv 4)) (blkOk_by (N := ["relation", "number", "modulus", "inside", "ranges", "looked_at", "low", "high"]) (sc := defScope sRh) (by decide +kernel))
        (fun _ _ _ _ _ => pg_tup rfl (pgs_cons (pg_name (i := 6) nd rfl (.inl rfl)) (pgs_cons (pg_name (i := 7) nd rfl (.inl rfl)) pgs_nil))) (fun _ _ _ _ _ => pts_nil)
        (fun _ _ _ _ _ => pe_chain op_le op_le (pv 6) (pv 5) (pv 7))) pa_nil)) (nomark _))))), ?_⟩
  refine ⟨_, rfl, p, _, rfl, .inl (.inl hp), rfl, ?_⟩
  obtain ⟨m, i, rs⟩ := x
  have hm' : 0 ≤ m := hm
  have fin : tRet (tOp rEq (tVar 3) (tCB (rAny K) (tCons (tLc (iList K (tVar 4)) (gTup K 2 (gCons (gName 6) (gCons (gName 7) gNil))) tYes (tChain (rI0 fun i j => V.bl (decide (i ≤ j))) (rI0 fun i j => V.bl (decide (i ≤ j))) (tVar 6) (tVar 5) (tVar 7)) [6, 7]) tNil)))
      { nx := fun _ H' => Q V.non H', rt := Q } [some (.ref p), some (.int n), some (.int m), some (.bl i), some (.ref r), some (.int (lookN m n)), none, none] H := by
    refine ⟨_, rfl, _, rfl, r, rfl, ⟨_, SqL.of hr1⟩, fun D hD => ?_⟩
    have s1 : Same H (upd H D (.lst [])) := same_new hD _
    refine lc_list (xs := rvs) (fun j H' => Same H H' ∧ H' D = some (.lst ((rs.take j).map fun z => V.bl (rgB (lookN m n) z)))) ⟨s1, upd_same⟩ (fun j H' _ ⟨s', _⟩ => SqL.of (s' _ _ hr1)) ?_ ?_
    · rintro j x H' hx ⟨s', hD'⟩
      obtain ⟨⟨lo, hi⟩, hz, t, rfl, ht⟩ := A2.get ha hx
      have hlt := get_lt hz
      have hlen := ha.length
      refine ⟨t, _, rfl, .inl (.inl (s' _ _ ht)), rfl, .int lo, _, rfl, .int hi, [], rfl, rfl, rfl, ?_⟩
      have put : ∀ b : Bool, rgB (lookN m n) (lo, hi) = b → ∃ acc, H' D = some (.lst acc) ∧ acc.length < sizeLine ∧ (Same H (upd H' D (.lst (acc ++ [V.bl b]))) ∧ upd H' D (.lst (acc ++ [V.bl b])) D = some (.lst ((rs.take (j + 1)).map fun z => V.bl (rgB (lookN m n) z)))) := by
        intro b hb
        refine ⟨_, hD', sz_line (by rw [List.length_map, List.length_take]; have : rs.length < 100000 := hlen ▸ hl; omega), same_mut s' hD _, ?_⟩
        rw [upd_same, take_map _ hz, hb]
      refine ⟨_, rfl, _, rfl, _, _, rfl, rfl, _, rfl, ?_⟩
      refine ite2 (fun c => ?_) (fun c => ?_)
      · refine ⟨_, rfl, _, _, rfl, rfl, ?_⟩
        refine put _ ?_
        unfold rgB
        rw [show decide (lo ≤ lookN m n) = true from c, Bool.true_and]
      · refine put false ?_
        unfold rgB
        rw [show decide (lo ≤ lookN m n) = false from Bool.eq_false_iff.mpr c, Bool.false_and]
    · rintro H' ⟨s', hD'⟩
      have e1 : rs.length = rvs.length := ha.length.symm
      rw [← e1, List.take_length] at hD'
      refine ⟨D, rs.map (rgB (lookN m n)), rfl, SqL.of (by rw [List.map_map]; exact hD'), ?_⟩
      refine ⟨rfl, ?_⟩
      have e2 : decide (V.bl i = V.bl ((rs.map (rgB (lookN m n))).any id)) = relB n (m, i, rs) := by
        rw [dec_bl, List.any_map]
        rfl
      rw [e2]
      exact q H' s'
  refine ⟨.int m, _, rfl, .bl i, _, rfl, .ref r, [], rfl, rfl, _, rfl, (m != 0), rfl, ?_⟩
  refine ite2 (fun c => ?_) (fun c => ?_)
  · have c' : m ≠ 0 := by simpa using c
    refine ⟨_, rfl, _, rfl, _, _, rfl, rfl, by omega, ?_⟩
    have e : lookN m n = n % m := by unfold lookN; rw [if_neg c']
    have f' := fin
    rw [e] at f'
    exact f'
  · have c' : m = 0 := by simpa using c
    have e : lookN m n = n := by unfold lookN; rw [if_pos c']
    refine ⟨_, rfl, ?_⟩
    have f' := fin
    rw [e] at f'
    exact f'
end
end Mw

namespace Mw
open PySem L2
section
variable {P : Program} {w : World} {K : PySem.W.Frag} {mg : Str → Option Value} {base : Heap}
/-! ### condition_holds -/
abbrev sCh : Stmt := top 13
theorem scCh : FnScope ["condition", "number", "row", "relation"] ["condition", "number"] (defScope sCh) := ⟨rfl, rfl, rfl, by decide +kernel, rfl, by decide +kernel, by decide +kernel⟩
def spCh : Sp := fun vs H Q _ => ∃ (v : V) (x : List (List Rel)) (n : Int), vs = [v, .int n] ∧ ConAt H x v ∧ ∀ H', Same H H' → Q (.bl (conB n x)) H'
theorem ok_ch {f fR : Addr} {fd fdR : FuncData} (F : Fun K "condition_holds" "condition_holds" sCh f fd)
    (GR : FnOk P w K mg base CX0 1 fR fdR ["relation", "number"] spRh) (bR : Binds K fdR ["relation", "number"] []) (kR : PySem.W.keepIn K (.ref fR) = true) (mR : mg "relation_holds" = some (.ref fR))
    (ma : mg "any" = none) (ml : mg "all" = none) : FnOk P w K mg base CX0 2 f fd ["condition", "number"] spCh := by
  refine F.ok scCh (fun vs H Q E h => ?_) (fun cdv A outer s H vs Q E hr h => ?_)
  · obtain ⟨v, x, n, rfl, _⟩ := h
    rfl
  obtain ⟨v, x, n, rfl, ⟨r, cvs, rfl, hr1, ha, hl⟩, q⟩ := h
  have nd := scCh.nd
  refine ⟨_, pss_one (ps_ret (pe_callB (cr_any rfl) (by rfl) ma (by decide +kernel) (pa_cons
      (pe_lc (own := [("row", 2)]) (g := gName 2) (tt := tYes) (te := tCB (rAll K) (tCons (tLc (iList K (tVar 2)) (gName 3) tYes (tCall spRh [] E0 (tCons (tVar 3) (tCons (tVar 1) tNil))) [3]) tNil)) rfl nd (pi_list (pv 0)) (blkOk_by (N := ["condition", "number", "row", "relation"]) (sc := defScope sCh) (by decide +kernel))
        (fun _ _ _ _ _ => pg_name (i := 2) nd rfl (.inl rfl)) (fun _ _ _ _ _ => pts_nil)
        (fun _ _ _ _ _ => by
          refine pe_callB (id := "all") (r := rAll K) (cr_all rfl) (by rfl) ml (by decide +kernel) (pa_cons ?_ pa_nil)
          refine pe_lc (own := [("relation", 3)]) (g := gName 3) (tt := tYes) (wi := iList K (tVar 2)) rfl nd (pi_list (pv 2)) ?_ (fun _ _ _ _ _ => ?_) (fun _ _ _ _ _ => pts_nil) (fun _ _ _ _ _ => ?_)
          · exact blkOk_by (N := ["condition", "number", "row", "relation"]) (sc := { kind := .function, names := [(".0", .local), ("row", .local), ("all", .globalImplicit), ("number", .cell)], isGenerator := false, isCoroutine := false }) (by decide +kernel)
          · exact pg_name (i := 3) nd rfl (.inl rfl)
          · exact pe_call GR hr rfl mR kR bR .nil pass0 (pa_cons (pv 3) (pa_cons (pv 1) pa_nil)))) pa_nil))), ?_⟩
  refine ⟨_, rfl, r, rfl, ⟨_, SqL.of hr1⟩, fun D hD => ?_⟩
  have s1 : Same H (upd H D (.lst [])) := same_new hD _
  refine lc_list (xs := cvs) (fun j H' => Same H H' ∧ H' D = some (.lst ((x.take j).map fun z => V.bl (z.all (relB n))))) ⟨s1, upd_same⟩ (fun j H' _ ⟨s', _⟩ => SqL.of (s' _ _ hr1)) ?_ ?_
  · rintro j y H' hx ⟨s', hD'⟩
    obtain ⟨row, hz, rr, rvs, rfl, hrr, har, hlr⟩ := A2.get ha hx
    have hlt := get_lt hz
    have hlen := ha.length
    have hrow' := s' _ _ hrr
    refine ⟨rfl, _, rfl, rr, rfl, ⟨_, SqL.of hrow'⟩, fun D2 hD2 => ?_⟩
    have s2 : Same H (upd H' D2 (.lst [])) := s'.trans (same_new hD2 _)
    have hne : D ≠ D2 := ne_of_none hD' hD2
    refine lc_list (xs := rvs) (fun j2 H2 => Same H H2 ∧ H2 D = some (.lst ((x.take j).map fun z => V.bl (z.all (relB n)))) ∧ H2 D2 = some (.lst ((row.take j2).map fun z => V.bl (relB n z)))) ⟨s2, by rw [upd_ne hne]; exact hD', upd_same⟩ (fun j2 H2 _ ⟨s', _⟩ => SqL.of (s' _ _ hrr)) ?_ ?_
    · rintro j2 y2 H2 hx2 ⟨s3, hD3, hD23⟩
      obtain ⟨rel, hz2, hrel⟩ := A2.get har hx2
      have hlt2 := get_lt hz2
      have hlen2 := har.length
      refine ⟨rfl, _, rfl, _, rfl, y2, rel, n, rfl, hrel.same s3, fun H3 s4 => ?_⟩
      refine ⟨_, s4 _ _ hD23, sz_line (by rw [List.length_map, List.length_take]; omega), same_mut (s3.trans s4) (s'.free hD2) _, ?_, ?_⟩
      · rw [upd_ne hne]
        exact s4 _ _ hD3
      · rw [upd_same, take_map _ hz2]
    · rintro H2 ⟨s3, hD3, hD23⟩
      have e1 : row.length = rvs.length := har.length.symm
      rw [← e1, List.take_length] at hD23
      refine ⟨D2, row.map (relB n), rfl, SqL.of (by rw [List.map_map]; exact hD23), ?_⟩
      refine ⟨_, hD3, sz_line (by rw [List.length_map, List.length_take]; omega), same_mut s3 hD _, ?_⟩
      rw [upd_same, take_map _ hz, List.all_map]
      rfl
  · rintro H' ⟨s', hD'⟩
    have e1 : x.length = cvs.length := ha.length.symm
    rw [← e1, List.take_length] at hD'
    refine ⟨D, x.map (fun row => row.all (relB n)), rfl, SqL.of (by rw [List.map_map]; exact hD'), ?_⟩
    rw [List.any_map]
    exact q H' s'
end
end Mw

namespace Mw
open PySem L2
/-- what the row says of the class Language -/
structure LC (K : PySem.W.Frag) (C : Addr) : Prop where
  c : Cls K C
  nr : NoAttr K C "rules"
/-- a language at v -/
def LanAt (C : Addr) (H : Hp) (rs : List Rule) (v : V) : Prop := ∃ o dx q, v = .ref o ∧ H o = some (.ins C dx [("rules", q)]) ∧ RusAt H rs q
theorem LanAt.same {C : Addr} {H H' : Hp} (s : Same H H') {rs : List Rule} {v : V} (h : LanAt C H rs v) : LanAt C H' rs v := by
  obtain ⟨o, dx, q, e, h1, h2⟩ := h
  exact ⟨o, dx, q, e, s _ _ h1, h2.same s⟩
theorem catB_drop {n : Int} {rs : List Rule} {i : Nat} {r : Rule} (h : rs[i]? = some r) : catB n (rs.drop i) = if conB n r.2 then r.1 else catB n (rs.drop (i + 1)) := by
  have e : rs.drop i = r :: rs.drop (i + 1) := by
    rw [List.drop_eq_getElem_cons (get_lt h)]
    have := List.getElem?_eq_some_iff.mp h
    obtain ⟨_, h2⟩ := this
    rw [h2]
  rw [e]
  rfl
section
variable {P : Program} {w : World} {K : PySem.W.Frag} {mg : Str → Option Value} {base : Heap} {C : Addr}
/-! ### category_of -/
abbrev sCo : Stmt := top 14
theorem scCo : FnScope ["language", "number", "category", "condition"] ["language", "number"] (defScope sCo) := ⟨rfl, rfl, rfl, by decide +kernel, rfl, by decide +kernel, by decide +kernel⟩
def spCo (C : Addr) : Sp := fun vs H Q _ => ∃ (v : V) (rs : List Rule) (n : Int), vs = [v, .int n] ∧ LanAt C H rs v ∧ ∀ H', Same H H' → Q (.str (catN rs n)) H'
theorem ok_co {f fR : Addr} {fd fdR : FuncData} (F : Fun K "category_of" "category_of" sCo f fd) (L : LC K C)
    (GR : FnOk P w K mg base CX0 2 fR fdR ["condition", "number"] spCh) (bR : Binds K fdR ["condition", "number"] []) (kR : PySem.W.keepIn K (.ref fR) = true) (mR : mg "condition_holds" = some (.ref fR)) :
    FnOk P w K mg base CX0 3 f fd ["language", "number"] (spCo C) := by
  refine F.ok scCo (fun vs H Q E h => ?_) (fun cdv A outer s H vs Q E hr h => ?_)
  · obtain ⟨v, x, n, rfl, _⟩ := h
    rfl
  obtain ⟨v, rs, n, rfl, ⟨o, dx, qv, rfl, ho, ⟨r, rvs, rfl, hr1, ha, hl⟩⟩, q⟩ := h
  have nd := scCo.nd
  refine ⟨_, pss_cons (ps_if (pt_cmpR op_lt (pv 1) pe_int (nomark _)) (pss_one (ps_ret pe_str)) pss_nil)
    (pss_cons (ps_for PassesOwn.never rfl (pi_list (pe_fld (pv 0) rfl)) (pg_tup rfl (pgs_cons (pg_name (i := 2) nd rfl (.inl rfl)) (pgs_cons (pg_name (i := 3) nd rfl (.inl rfl)) pgs_nil)))
      (pss_one (ps_if (pt_val (pe_call GR hr rfl mR kR bR .nil pass0 (pa_cons (pv 3) (pa_cons (pv 1) pa_nil)))) (pss_one (ps_ret (pv 2))) pss_nil)))
    (pss_one (ps_ret pe_str))), ?_⟩
  refine ⟨_, rfl, _, _, rfl, rfl, _, rfl, ?_⟩
  refine ite2 (fun c => ?_) (fun c => ?_)
  · have c' := of_decide_eq_true c
    have e : catN rs n = "other" := by unfold catN; rw [if_pos c']
    rw [e] at q
    exact q H fun _ _ h => h
  have c' : ¬ n < 0 := of_decide_eq_false (Bool.eq_false_iff.mpr c)
  have e : catN rs n = catB n rs := by unfold catN; rw [if_neg c']
  rw [e] at q
  refine ⟨_, rfl, o, C, dx, _, .ref r, rfl, ho, L.c, L.nr, rfl, r, rfl, ⟨_, SqL.of hr1⟩, ?_⟩
  refine for_list (xs := rvs) (fun i σ H' => Same H H' ∧ (∃ o2 o3, σ = [some (.ref o), some (.int n), o2, o3]) ∧ catB n rs = catB n (rs.drop i)) ⟨fun _ _ h => h, ⟨_, _, rfl⟩, rfl⟩ (fun i σ H' _ ⟨s', _⟩ => SqL.of (s' _ _ hr1)) ?_ ?_
  · rintro i x σ H' hx ⟨s', ⟨o2, o3, rfl⟩, hcat⟩
    obtain ⟨⟨ct, con⟩, hz, p, cv, rfl, hp, hcon⟩ := A2.get ha hx
    rw [catB_drop hz] at hcat
    refine ⟨p, _, rfl, .inl (.inl (s' _ _ hp)), rfl, .str ct, _, rfl, cv, [], rfl, rfl, ?_⟩
    refine ⟨_, rfl, _, rfl, cv, con, n, rfl, hcon.same s', fun H2 s2 => ⟨_, rfl, ?_⟩⟩
    cases hb : conB n con with
    | true =>
      rw [if_pos (show conB n (ct, con).2 = true from hb)] at hcat
      refine ⟨_, rfl, ?_⟩
      have q' := q H2 (s'.trans s2)
      rw [hcat] at q'
      exact q'
    | false =>
      rw [if_neg (show ¬ conB n (ct, con).2 = true by rw [show conB n (ct, con).2 = false from hb]; exact Bool.false_ne_true)] at hcat
      exact ⟨s'.trans s2, ⟨_, _, rfl⟩, hcat⟩
  · rintro σ H' ⟨s', ⟨o2, o3, rfl⟩, hcat⟩
    rw [show rs.drop rvs.length = [] from List.drop_eq_nil_of_le (Nat.le_of_eq ha.length.symm)] at hcat
    have q' := q H' s'
    rw [hcat] at q'
    exact q'
end
end Mw

namespace Mw
open PySem L2
theorem conB_drop {n : Int} {x : List (List Rel)} {i : Nat} {r : List Rel} (h : x[i]? = some r) : conB n (x.drop i) = (r.all (relB n) || conB n (x.drop (i + 1))) := by
  have e : x.drop i = r :: x.drop (i + 1) := by
    rw [List.drop_eq_getElem_cons (get_lt h)]
    obtain ⟨_, h2⟩ := List.getElem?_eq_some_iff.mp h
    rw [h2]
  rw [e]
  rfl
theorem all_take {α : Type} {x : List α} {i : Nat} {r : α} (g : α → Bool) (h : x[i]? = some r) : (x.take (i + 1)).all g = ((x.take i).all g && g r) := by
  rw [List.take_succ, h, List.all_append]
  simp
theorem any_take {α : Type} {x : List α} {i : Nat} {r : α} (g : α → Bool) (h : x[i]? = some r) : (x.take (i + 1)).any g = ((x.take i).any g || g r) := by
  rw [List.take_succ, h, List.any_append]
  simp
section
variable {P : Program} {w : World} {K : PySem.W.Frag} {mg : Str → Option Value} {base : Heap} {C : Addr}
/-! ### _law_holds -/
abbrev sLh : Stmt := top 36
abbrev nLh : List Str := ["condition", "number", "row", "good", "modulus", "inside", "ranges", "value", "within", "low", "high"]
theorem scLh : FnScope nLh ["condition", "number"] (defScope sLh) := ⟨rfl, rfl, rfl, by decide +kernel, rfl, by decide +kernel, by decide +kernel⟩
theorem ok_lh {f : Addr} {fd : FuncData} (F : Fun K "_law_holds" "_law_holds" sLh f fd) (mi : mg "int" = none) : FnOk P w K mg base CX0 1 f fd ["condition", "number"] spCh := by
  refine F.ok scLh (fun vs H Q E h => ?_) (fun cdv A outer s H vs Q E hr h => ?_)
  · obtain ⟨v, x, n, rfl, _⟩ := h
    rfl
  obtain ⟨v, x, n, rfl, ⟨r, cvs, rfl, hr1, ha, hl⟩, q⟩ := h
  have nd := scLh.nd
  refine ⟨_, pss_cons (ps_for PassesOwn.never rfl (pi_list (pv 0)) (pg_name (i := 2) nd rfl (.inl rfl))
      (pss_cons (ps_set (i := 3) nd rfl (.inl rfl) pe_bl)
      (pss_cons (ps_for PassesOwn.never rfl (pi_list (pv 2)) (pg_tup rfl (pgs_cons (pg_name (i := 4) nd rfl (.inl rfl)) (pgs_cons (pg_name (i := 5) nd rfl (.inl rfl)) (pgs_cons (pg_name (i := 6) nd rfl (.inl rfl)) pgs_nil))))
        (pss_cons (ps_set (i := 7) nd rfl (.inl rfl) (pv 1))
        (Evl.pss_cut (ps_if (pt_cmpR op_gt (pv 4) pe_int (nomark _)) (pss_one (ps_set (i := 7) nd rfl (.inl rfl) (pe_op op_mod (pe_callTy call_int1 (by rfl) mi (by decide +kernel) (pa_cons (pv 1) pa_nil)) (pv 4)))) pss_nil)
        (pss_cons (ps_set (i := 8) nd rfl (.inl rfl) pe_bl)
        (pss_cons (ps_for PassesOwn.never rfl (pi_list (pv 6)) (pg_tup rfl (pgs_cons (pg_name (i := 9) nd rfl (.inl rfl)) (pgs_cons (pg_name (i := 10) nd rfl (.inl rfl)) pgs_nil)))
          (pss_one (ps_if (pt_chain op_le op_le (pv 9) (pv 7) (pv 10)) (pss_one (ps_set (i := 8) nd rfl (.inl rfl) pe_bl)) pss_nil)))
        (pss_one (ps_if (pt_cmpR op_ne (pv 8) (pv 5) (nomark _)) (pss_one (ps_set (i := 3) nd rfl (.inl rfl) pe_bl)) pss_nil)))))))
      (pss_one (ps_if (pt_val (pv 3)) (pss_one (ps_ret pe_bl)) pss_nil)))))
    (pss_one (ps_ret pe_bl)), ?_⟩
  refine ⟨_, rfl, r, rfl, ⟨_, SqL.of hr1⟩, ?_⟩
  refine for_list (xs := cvs) (fun i σ H' => H' = H ∧ (∃ o2 o3 o4 o5 o6 o7 o8 o9 o10, σ = [some (.ref r), some (.int n), o2, o3, o4, o5, o6, o7, o8, o9, o10]) ∧ conB n x = conB n (x.drop i)) ⟨rfl, ⟨_, _, _, _, _, _, _, _, _, rfl⟩, rfl⟩ (fun i σ H' _ ⟨e, _⟩ => by rw [e]; exact SqL.of hr1) ?_ ?_
  · rintro i y σ H' hx ⟨rfl, ⟨o2, o3, o4, o5, o6, o7, o8, o9, o10, rfl⟩, hcon⟩
    obtain ⟨row, hz, rr, rvs, rfl, hrr, har, hlr⟩ := A2.get ha hx
    rw [conB_drop hz] at hcon
    refine ⟨_, rfl, rr, rfl, ⟨_, SqL.of hrr⟩, ?_⟩
    refine for_list (xs := rvs) (fun j σ H2 => H2 = H' ∧ (∃ g o4 o5 o6 o7 o8 o9 o10, g = (row.take j).all (relB n) ∧ σ = [some (.ref r), some (.int n), some (.ref rr), some (.bl g), o4, o5, o6, o7, o8, o9, o10])) ⟨rfl, ⟨_, _, _, _, _, _, _, _, rfl, rfl⟩⟩ (fun i σ H2 _ ⟨e, _⟩ => by rw [e]; exact SqL.of hrr) ?_ ?_
    · rintro j y2 σ H2 hx2 ⟨rfl, ⟨g, o4, o5, o6, o7, o8, o9, o10, eg, rfl⟩⟩
      obtain ⟨⟨m, ins, rs⟩, hz2, p, qv, rfl, hp, ⟨ra, gvs, rfl, hra, hag, hlg⟩, hm⟩ := A2.get har hx2
      have hm' : 0 ≤ m := hm
      refine ⟨p, _, rfl, .inl (.inl hp), rfl, .int m, _, rfl, .bl ins, _, rfl, .ref ra, [], rfl, rfl, ?_⟩
      refine ⟨_, rfl, fun σ' H3 => H3 = H2 ∧ σ' = [some (.ref r), some (.int n), some (.ref rr), some (.bl g), some (.int m), some (.bl ins), some (.ref ra), some (.int (lookN m n)), o8, o9, o10], ?_, ?_⟩
      · refine ⟨_, rfl, _, _, rfl, rfl, _, rfl, ?_⟩
        refine ite2 (fun c => ?_) (fun c => ?_)
        · have c' := of_decide_eq_true c
          have e : lookN m n = n % m := by unfold lookN; rw [if_neg (by omega)]
          refine ⟨_, rfl, .inl ⟨n, rfl, _, rfl, _, _, rfl, rfl, c', ?_⟩⟩
          rw [e]
          exact ⟨rfl, rfl⟩
        · have c' := of_decide_eq_false (Bool.eq_false_iff.mpr c)
          have e : lookN m n = n := by unfold lookN; rw [if_pos (by omega)]
          rw [e]
          exact ⟨rfl, rfl⟩
      rintro σ' H3 ⟨rfl, rfl⟩
      refine ⟨_, rfl, ra, rfl, ⟨_, SqL.of hra⟩, ?_⟩
      refine for_list (xs := gvs) (fun k σ H4 => H4 = H3 ∧ (∃ b o9 o10, b = (rs.take k).any (rgB (lookN m n)) ∧ σ = [some (.ref r), some (.int n), some (.ref rr), some (.bl g), some (.int m), some (.bl ins), some (.ref ra), some (.int (lookN m n)), some (.bl b), o9, o10])) ⟨rfl, ⟨_, _, _, rfl, rfl⟩⟩ (fun i σ H4 _ ⟨e, _⟩ => by rw [e]; exact SqL.of hra) ?_ ?_
      · rintro k y3 σ H4 hx3 ⟨rfl, ⟨b, o9, o10, eb, rfl⟩⟩
        obtain ⟨⟨lo, hi⟩, hz3, t, rfl, ht⟩ := A2.get hag hx3
        have e := any_take (rgB (lookN m n)) hz3
        refine ⟨t, _, rfl, .inl (.inl ht), rfl, .int lo, _, rfl, .int hi, [], rfl, rfl, ?_⟩
        refine ⟨_, rfl, _, rfl, _, _, rfl, rfl, _, rfl, ?_⟩
        have put : ∀ b' : Bool, rgB (lookN m n) (lo, hi) = b' → (b || b') = (rs.take (k + 1)).any (rgB (lookN m n)) := fun b' hb => by rw [e, hb, eb]
        refine ite2 (fun c => ?_) (fun c => ?_)
        · refine ⟨_, rfl, _, _, rfl, rfl, _, rfl, ?_⟩
          refine ite2 (fun c2 => ?_) (fun c2 => ?_)
          · have h1 : rgB (lookN m n) (lo, hi) = true := by
              unfold rgB
              rw [show decide (lo ≤ lookN m n) = true from c, show decide (lookN m n ≤ hi) = true from c2]
              rfl
            exact ⟨rfl, ⟨_, _, _, by rw [← put true h1, Bool.or_true], rfl⟩⟩
          · have h1 : rgB (lookN m n) (lo, hi) = false := by
              unfold rgB
              rw [show decide (lookN m n ≤ hi) = false from Bool.eq_false_iff.mpr c2, Bool.and_false]
            exact ⟨rfl, ⟨_, _, _, by rw [← put false h1, Bool.or_false], rfl⟩⟩
        · have h1 : rgB (lookN m n) (lo, hi) = false := by
            unfold rgB
            rw [show decide (lo ≤ lookN m n) = false from Bool.eq_false_iff.mpr c, Bool.false_and]
          refine ⟨_, rfl, ?_⟩
          exact ⟨rfl, ⟨_, _, _, by rw [← put false h1, Bool.or_false], rfl⟩⟩
      · rintro σ H4 ⟨rfl, ⟨b, o9, o10, eb, rfl⟩⟩
        have e1 : rs.length = gvs.length := hag.length.symm
        rw [← e1, List.take_length] at eb
        have e := all_take (relB n) hz2
        have e2 : relB n (m, ins, rs) = (ins == b) := by rw [eb]; rfl
        rw [e2, ← eg] at e
        refine ⟨_, rfl, _, rfl, rfl, _, rfl, ?_⟩
        cases b <;> cases ins
        · exact ⟨rfl, ⟨_, _, _, _, _, _, _, _, by rw [e]; simp, rfl⟩⟩
        · exact ⟨rfl, ⟨_, _, _, _, _, _, _, _, by rw [e]; simp, rfl⟩⟩
        · exact ⟨rfl, ⟨_, _, _, _, _, _, _, _, by rw [e]; simp, rfl⟩⟩
        · exact ⟨rfl, ⟨_, _, _, _, _, _, _, _, by rw [e]; simp, rfl⟩⟩
    · rintro σ H2 ⟨rfl, ⟨g, o4, o5, o6, o7, o8, o9, o10, eg, rfl⟩⟩
      have e1 : row.length = rvs.length := har.length.symm
      rw [← e1, List.take_length] at eg
      subst eg
      refine ⟨_, rfl, _, rfl, ?_⟩
      cases hb : row.all (relB n) with
      | true =>
        rw [hb, Bool.true_or] at hcon
        have q' := q H2 fun _ _ h => h
        rw [hcon] at q'
        exact q'
      | false =>
        rw [hb, Bool.false_or] at hcon
        exact ⟨rfl, ⟨_, _, _, _, _, _, _, _, _, rfl⟩, hcon⟩
  · rintro σ H' ⟨rfl, ⟨o2, o3, o4, o5, o6, o7, o8, o9, o10, rfl⟩, hcon⟩
    rw [show x.drop cvs.length = [] from List.drop_eq_nil_of_le (Nat.le_of_eq ha.length.symm)] at hcon
    have q' := q H' fun _ _ h => h
    rw [hcon] at q'
    exact q'
end
end Mw

namespace Mw
open PySem L2
section
variable {P : Program} {w : World} {K : PySem.W.Frag} {mg : Str → Option Value} {base : Heap} {C : Addr}
/-! ### _law_category -/
abbrev sLc : Stmt := top 37
theorem scLc : FnScope ["rules", "number", "category", "condition"] ["rules", "number"] (defScope sLc) := ⟨rfl, rfl, rfl, by decide +kernel, rfl, by decide +kernel, by decide +kernel⟩
def spLc : Sp := fun vs H Q _ => ∃ (v : V) (rs : List Rule) (n : Int), vs = [v, .int n] ∧ RusAt H rs v ∧ ∀ H', Same H H' → Q (.str (catN rs n)) H'
theorem ok_lcat {f fR : Addr} {fd fdR : FuncData} (F : Fun K "_law_category" "_law_category" sLc f fd)
    (GR : FnOk P w K mg base CX0 1 fR fdR ["condition", "number"] spCh) (bR : Binds K fdR ["condition", "number"] []) (kR : PySem.W.keepIn K (.ref fR) = true) (mR : mg "_law_holds" = some (.ref fR)) :
    FnOk P w K mg base CX0 2 f fd ["rules", "number"] spLc := by
  refine F.ok scLc (fun vs H Q E h => ?_) (fun cdv A outer s H vs Q E hr h => ?_)
  · obtain ⟨v, x, n, rfl, _⟩ := h
    rfl
  obtain ⟨v, rs, n, rfl, ⟨r, rvs, rfl, hr1, ha, hl⟩, q⟩ := h
  have nd := scLc.nd
  refine ⟨_, pss_cons (ps_if (pt_cmpR op_ge (pv 1) pe_int (nomark _))
      (pss_one (ps_for PassesOwn.never rfl (pi_list (pv 0)) (pg_tup rfl (pgs_cons (pg_name (i := 2) nd rfl (.inl rfl)) (pgs_cons (pg_name (i := 3) nd rfl (.inl rfl)) pgs_nil)))
        (pss_one (ps_if (pt_val (pe_call GR hr rfl mR kR bR .nil pass0 (pa_cons (pv 3) (pa_cons (pv 1) pa_nil)))) (pss_one (ps_ret (pv 2))) pss_nil)))) pss_nil)
    (pss_one (ps_ret pe_str)), ?_⟩
  refine ⟨_, rfl, _, _, rfl, rfl, _, rfl, ?_⟩
  refine ite2 (fun c => ?_) (fun c => ?_)
  · have c' : ¬ n < 0 := by
      have := of_decide_eq_true c
      omega
    have e : catN rs n = catB n rs := by unfold catN; rw [if_neg c']
    rw [e] at q
    refine ⟨_, rfl, r, rfl, ⟨_, SqL.of hr1⟩, ?_⟩
    refine for_list (xs := rvs) (fun i σ H' => Same H H' ∧ (∃ o2 o3, σ = [some (.ref r), some (.int n), o2, o3]) ∧ catB n rs = catB n (rs.drop i)) ⟨fun _ _ h => h, ⟨_, _, rfl⟩, rfl⟩ (fun i σ H' _ ⟨s', _⟩ => SqL.of (s' _ _ hr1)) ?_ ?_
    · rintro i x σ H' hx ⟨s', ⟨o2, o3, rfl⟩, hcat⟩
      obtain ⟨⟨ct, con⟩, hz, p, cv, rfl, hp, hcon⟩ := A2.get ha hx
      rw [catB_drop hz] at hcat
      refine ⟨p, _, rfl, .inl (.inl (s' _ _ hp)), rfl, .str ct, _, rfl, cv, [], rfl, rfl, ?_⟩
      refine ⟨_, rfl, _, rfl, cv, con, n, rfl, hcon.same s', fun H2 s2 => ⟨_, rfl, ?_⟩⟩
      cases hb : conB n con with
      | true =>
        rw [if_pos (show conB n (ct, con).2 = true from hb)] at hcat
        refine ⟨_, rfl, ?_⟩
        have q' := q H2 (s'.trans s2)
        rw [hcat] at q'
        exact q'
      | false =>
        rw [if_neg (show ¬ conB n (ct, con).2 = true by rw [show conB n (ct, con).2 = false from hb]; exact Bool.false_ne_true)] at hcat
        exact ⟨s'.trans s2, ⟨_, _, rfl⟩, hcat⟩
    · rintro σ H' ⟨s', ⟨o2, o3, rfl⟩, hcat⟩
      rw [show rs.drop rvs.length = [] from List.drop_eq_nil_of_le (Nat.le_of_eq ha.length.symm)] at hcat
      have q' := q H' s'
      rw [hcat] at q'
      exact q'
  · have c' : n < 0 := by
      have := of_decide_eq_false (Bool.eq_false_iff.mpr c)
      omega
    have e : catN rs n = "other" := by unfold catN; rw [if_pos c']
    rw [e] at q
    exact q H fun _ _ h => h
/-! ### _law_far -/
abbrev sFar : Stmt := top 40
theorem scFar : FnScope ["box"] ["box"] (defScope sFar) := ⟨rfl, rfl, rfl, by decide +kernel, rfl, by decide +kernel, by decide +kernel⟩
def spFar : Sp := fun vs H Q _ => ∃ (B d : Addr), vs = [.ref B] ∧ Box H B d ∧ ∀ z H', 0 ≤ z → z < 10 ^ 13 → Go B H H' → Box H' B d → Q (.int z) H'
theorem ok_far {f fD : Addr} {fd fdD : FuncData} (F : Fun K "_law_far" "_law_far" sFar f fd)
    (GD : FnOk P w K mg base CX0 1 fD fdD ["box", "many"] spDraw) (bD : Binds K fdD ["box", "many"] []) (kD : PySem.W.keepIn K (.ref fD) = true) (mD : mg "_law_draw" = some (.ref fD)) :
    FnOk P w K mg base CX0 2 f fd ["box"] spFar := by
  refine F.ok scFar (fun vs H Q E h => ?_) (fun cdv A outer s H vs Q E hr h => ?_)
  · obtain ⟨B, d, rfl, _⟩ := h
    rfl
  obtain ⟨B, d, rfl, hb, q⟩ := h
  refine ⟨_, pss_one (ps_ret (pe_ix ix_list (pe_lst (pa_cons (pe_call GD hr rfl mD kD bD .nil pass0 (pa_cons (pv 0) (pa_cons pe_int pa_nil)))
    (pa_cons (pe_call GD hr rfl mD kD bD .nil pass0 (pa_cons (pv 0) (pa_cons pe_int pa_nil)))
    (pa_cons (pe_op op_add (pe_op op_mul (pe_call GD hr rfl mD kD bD .nil pass0 (pa_cons (pv 0) (pa_cons pe_int pa_nil))) pe_int) (pe_call GD hr rfl mD kD bD .nil pass0 (pa_cons (pv 0) (pa_cons pe_int pa_nil)))) pa_nil))))
    (pe_call GD hr rfl mD kD bD .nil pass0 (pa_cons (pv 0) (pa_cons pe_int pa_nil))) (fun _ _ => rfl))), ?_⟩
  refine ⟨_, rfl, B, d, 40, rfl, by decide, hb, fun a H1 a0 a1 g1 b1 => ?_⟩
  refine ⟨_, rfl, B, d, 1000, rfl, by decide, b1, fun b H2 b0 b1' g2 b2 => ?_⟩
  refine ⟨_, rfl, B, d, 1000, rfl, by decide, b2, fun c H3 c0 c1 g3 b3 => ?_⟩
  refine ⟨_, _, rfl, rfl, .inr (by decide), ?_⟩
  refine ⟨_, rfl, B, d, 1000, rfl, by decide, b3, fun e H4 e0 e1 g4 b4 => ?_⟩
  refine ⟨_, _, rfl, rfl, ?_⟩
  refine ⟨by show 3 ≤ sizeLine; decide, fun l hl => ?_⟩
  have nB := b4.neB hl
  refine ⟨_, rfl, B, d, 3, rfl, by decide, b4.new hl _, fun z H5 z0 z1 g5 b5 => ?_⟩
  obtain ⟨x, hx, hat⟩ := pick (l := ([a, b, c * 1000000007 + e] : List Int)) (g := V.int) (z := z) z0 (by show z < ((3 : Nat) : Int); omega)
  refine ⟨l, _, z, .int x, rfl, rfl, SqL.of (g5.ext _ _ nB upd_same), hat, ?_⟩
  refine q x H5 ?_ ?_ (((((g1.trans g2).trans g3).trans g4).trans (Go.new hl _)).trans g5) b5
  · have h3 : 0 ≤ c * 1000000007 + e := by omega
    simp only [List.mem_cons, List.not_mem_nil, or_false] at hx
    rcases hx with rfl | rfl | rfl
    · exact a0
    · exact b0
    · exact h3
  have h4 : c * 1000000007 + e < 10 ^ 13 := by omega
  simp only [List.mem_cons, List.not_mem_nil, or_false] at hx
  rcases hx with rfl | rfl | rfl
  · omega
  · omega
  · exact h4
end
end Mw

namespace Mw
open PySem L2
theorem fr_new_obj {H0 H : Hp} {p : Addr} {o : HO} (h0 : H0 p = none) (h : H p = some o) : fr H0 H p = some o := by rw [fr_new h0]; exact h
section
variable {P : Program} {w : World} {K : PySem.W.Frag} {mg : Str → Option Value} {base : Heap} {C : Addr}
/-! ### _law_relation -/
abbrev sLr : Stmt := top 33
abbrev nLr : List Str := ["box", "modulus", "ranges", "turn", "low"]
theorem scLr : FnScope nLr ["box"] (defScope sLr) := ⟨rfl, rfl, rfl, by decide +kernel, rfl, by decide +kernel, by decide +kernel⟩
def spLr : Sp := fun vs H Q _ => ∃ (B d : Addr), vs = [.ref B] ∧ Box H B d ∧ ∀ v x H', Go B H H' → Box H' B d → RelAt (fr H H') x v → Q v H'
theorem ok_lr {f fD : Addr} {fd fdD : FuncData} (F : Fun K "_law_relation" "_law_relation" sLr f fd)
    (GD : FnOk P w K mg base CX0 1 fD fdD ["box", "many"] spDraw) (bD : Binds K fdD ["box", "many"] []) (kD : PySem.W.keepIn K (.ref fD) = true) (mD : mg "_law_draw" = some (.ref fD))
    (mr : mg "range" = none) (mi : mg "int" = none) :
    FnOk P w K mg base CX0 2 f fd ["box"] spLr := by
  refine F.ok scLr (fun vs H Q E h => ?_) (fun cdv A outer s H vs Q E hr h => ?_)
  · obtain ⟨B, d, rfl, _⟩ := h
    rfl
  obtain ⟨B, d, rfl, hb, q⟩ := h
  have nd := scLr.nd
  refine ⟨_, pss_cons (ps_set (i := 1) nd rfl (.inl rfl) (pe_ix ix_list (pe_lst (pa_cons pe_int (pa_cons pe_int (pa_cons pe_int (pa_cons pe_int (pa_cons pe_int (pa_cons pe_int (pa_cons pe_int pa_nil))))))))
      (pe_call GD hr rfl mD kD bD .nil pass0 (pa_cons (pv 0) (pa_cons pe_int pa_nil))) (fun _ _ => rfl)))
    (pss_cons (ps_set (i := 2) nd rfl (.inl rfl) (pe_lst pa_nil))
    (pss_cons (ps_for PassesOwn.never rfl (pi_range1 rfl mr (pa_cons (pe_op op_add pe_int (pe_call GD hr rfl mD kD bD .nil pass0 (pa_cons (pv 0) (pa_cons pe_int pa_nil)))) pa_nil)) (pg_name (i := 3) nd rfl (.inl rfl))
      (pss_cons (ps_set (i := 4) nd rfl (.inl rfl) (pe_call GD hr rfl mD kD bD .nil pass0 (pa_cons (pv 0) (pa_cons
          (pe_ix ix_list (pe_lst (pa_cons pe_int (pa_cons pe_int pa_nil))) (pe_callTy call_int1 (by rfl) mi (by decide +kernel) (pa_cons (pe_cmpR op_in_seq (pv 1) (pe_tup (pa_cons pe_int (pa_cons pe_int (pa_cons pe_int pa_nil)))) (by rfl)) pa_nil)) (fun _ _ => rfl)) pa_nil))))
      (pss_one (ps_expr (pe_bm PySem.F.plainAttrs_list PySem.F.slot_list_append PySem.F.type_list_append mt_append (pv 2) (pa_cons
          (pe_tup (pa_cons (pv 4) (pa_cons (pe_op op_add (pv 4) (pe_ix ix_list (pe_lst (pa_cons pe_int (pa_cons pe_int (pa_cons pe_int (pa_cons pe_int pa_nil))))) (pe_call GD hr rfl mD kD bD .nil pass0 (pa_cons (pv 0) (pa_cons pe_int pa_nil))) (fun _ _ => rfl))) pa_nil))) pa_nil))))))
    (pss_one (ps_ret (pe_tup (pa_cons (pv 1) (pa_cons (pe_cmpR op_gt (pe_call GD hr rfl mD kD bD .nil pass0 (pa_cons (pv 0) (pa_cons pe_int pa_nil))) pe_int (nomark _)) (pa_cons (pv 2) pa_nil)))))))), ?_⟩
  refine ⟨by show 7 ≤ sizeLine; decide, fun l hl => ?_⟩
  have lB := hb.neB hl
  refine ⟨_, rfl, B, d, 7, rfl, by decide, hb.new hl _, fun z H2 z0 z1 g2 b2 => ?_⟩
  obtain ⟨m, hm, hat⟩ := pick (l := ([0, 0, 2, 3, 4, 10, 100] : List Int)) (g := V.int) (z := z) z0 (by show z < ((7 : Nat) : Int); omega)
  have hm0 : 0 ≤ m := (by decide : ∀ m ∈ ([0, 0, 2, 3, 4, 10, 100] : List Int), 0 ≤ m) m hm
  refine ⟨l, _, z, .int m, rfl, rfl, SqL.of (g2.ext _ _ lB upd_same), hat, ?_⟩
  have G02 : Go B H H2 := (Go.new hl _).trans g2
  refine ⟨Nat.zero_le _, fun rl hrl => ?_⟩
  have rB := b2.neB hrl
  have hrl0 : H rl = none := G02.dom rl hrl
  generalize hH3 : upd H2 rl (.lst []) = H3
  have hrl3 : H3 rl = some (.lst []) := by rw [← hH3]; exact upd_same
  have b3 : Box H3 B d := by rw [← hH3]; exact b2.new hrl _
  have G03 : Go B H H3 := by rw [← hH3]; exact G02.trans (Go.new hrl _)
  obtain ⟨ob3, hB3⟩ := b3.isB
  refine ⟨_, rfl, B, d, 3, rfl, by decide, b3, fun y H4 y0 y3 g4 b4 => ⟨_, _, rfl, rfl, ?_⟩⟩
  refine ⟨1 + y, rfl, by omega, by omega, for_range (lo := 0) (n := (1 + y).toNat) (fun i σ H' => ∃ (rs : List Rg) (vs : List V) (o3 o4 : Option V), σ = [some (.ref B), some (.int m), some (.ref rl), o3, o4] ∧ Go B H H' ∧ (∀ b, H' b = none → H3 b = none) ∧ Box H' B d ∧ H' rl = some (.lst vs) ∧ A2 (RgAt (fr H3 H')) rs vs ∧ vs.length = i)
    ⟨[], [], _, _, rfl, G03.trans g4, g4.dom, b4, g4.ext _ _ rB hrl3, rfl, rfl⟩ ?_ ?_⟩
  · rintro i σ H5 hi ⟨rs, vs, o3, o4, rfl, g5, dm, b5, hrl5, ha5, hlen⟩
    refine ⟨_, rfl, by show 2 ≤ sizeLine; decide, fun l2 hl2 => ?_⟩
    have l2B := b5.neB hl2
    have b6 := b5.new hl2 (.lst [.int 12, .int 4])
    have e6 := Go.new (B := B) hl2 (.lst [.int 12, .int 4])
    refine ⟨_, rfl, by show 3 ≤ sizeLine; decide, fun t2 ht2 => ?_⟩
    have b7 := b6.new ht2 (.tup [.int 2, .int 3, .int 4])
    have e7 := Go.new (B := B) ht2 (.tup [.int 2, .int 3, .int 4])
    refine ⟨t2, _, rfl, .inr (.inl (.inl upd_same)), rfl, rfl, .inr ⟨_, rfl, ?_⟩⟩
    have pickb : ∀ k : Bool, ∃ y, y ∈ ([12, 4] : List Int) ∧ atI (([12, 4] : List Int).map V.int) (if k then 1 else 0) = some (.int y) := fun k => by
      cases k
      · exact ⟨12, by decide, rfl⟩
      · exact ⟨4, by decide, rfl⟩
    obtain ⟨y2, hy2, hat2⟩ := pickb (inV (V.int m) [.int 2, .int 3, .int 4])
    have hy20 : 0 < y2 := (by decide : ∀ m ∈ ([12, 4] : List Int), 0 < m) y2 hy2
    refine ⟨l2, _, _, .int y2, rfl, rfl, SqL.of (e7.ext _ _ l2B upd_same), hat2, ?_⟩
    refine ⟨B, d, y2, rfl, hy20, b7, fun lo H8 lo0 lo1 g8 b8 => ?_⟩
    have G58 := (e6.trans e7).trans g8
    have hrl8 := G58.ext _ _ rB hrl5
    refine ⟨_, rfl, .inl ⟨rfl, _, SqL.of hrl8⟩, _, rfl, _, rfl, by show 4 ≤ sizeLine; decide, fun l4 hl4 => ?_⟩
    have l4B := b8.neB hl4
    have b9 := b8.new hl4 (.lst [.int 0, .int 0, .int 1, .int 3])
    have e9 := Go.new (B := B) hl4 (.lst [.int 0, .int 0, .int 1, .int 3])
    refine ⟨_, rfl, B, d, 4, rfl, by decide, b9, fun u HA u0 u1 gA bA => ?_⟩
    obtain ⟨x4, hx4, hat4⟩ := pick (l := ([0, 0, 1, 3] : List Int)) (g := V.int) (z := u) u0 (by show u < ((4 : Nat) : Int); omega)
    refine ⟨l4, _, u, .int x4, rfl, rfl, SqL.of (gA.ext _ _ l4B upd_same), hat4, _, _, rfl, rfl, by show 2 ≤ sizeLine; decide, fun p hp => ?_⟩
    have G5A := (G58.trans e9).trans gA
    have eB := Go.new (B := B) hp (.tup [.int lo, .int (lo + x4)])
    have G5B := G5A.trans eB
    have hrlB := G5B.ext _ _ rB hrl5
    have bB := bA.new hp (.tup [.int lo, .int (lo + x4)])
    have hrd : rl ≠ d := b2.neD hrl
    have h3p : H3 p = none := dm p (G5A.dom p hp)
    have prl : p ≠ rl := by rintro rfl; rw [hrl3] at h3p; cases h3p
    refine ⟨rl, vs, _, rfl, rfl, hrlB, sz_line (by omega), rs ++ [(lo, lo + x4)], _, _, _, rfl, (g5.trans G5B).mut hrl0 _, fun b hb => dm b (G5B.dom b (upd_none hb)), bB.mut rB hrd _, upd_same, ?_, by rw [List.length_append, hlen]; rfl⟩
    refine A2.snoc (ha5.mono fun x v h => ?_) ⟨p, rfl, fr_new_obj h3p (by rw [upd_ne prl]; exact upd_same)⟩
    exact RgAt.same ((fr_go hB3 G5B).trans (fr_mut hrl3 _)) x v h
  · rintro σ H5 ⟨rs, vs, o3, o4, rfl, g5, dm, b5, hrl5, ha5, hlen⟩
    have G0e := g5
    obtain ⟨ob, hB0⟩ := hb.isB
    refine ⟨_, rfl, _, rfl, B, d, 3, rfl, by decide, b5, fun u H6 u0 u3 g6 b6 => ⟨_, _, rfl, rfl, _, rfl, by show 3 ≤ sizeLine; decide, fun p hp => ?_⟩⟩
    have G6 := g6.trans (Go.new (B := B) hp (.tup [.int m, .bl (decide (0 < u)), .ref rl]))
    refine q (.ref p) (m, decide (0 < u), rs) _ (G0e.trans G6) (b6.new hp _) ⟨p, .ref rl, rfl, fr_new_obj ((G0e.trans g6).dom p hp) upd_same, ⟨rl, vs, rfl, fr_new_obj hrl0 (G6.ext _ _ rB hrl5), ha5.mono fun x v h => ?_, by omega⟩, hm0⟩
    exact RgAt.same ((fr_dom G03.dom).trans (fr_go (B := B) hB0 G6)) x v h
end
end Mw

namespace Mw
open PySem L2
section
variable {P : Program} {w : World} {K : PySem.W.Frag} {mg : Str → Option Value} {base : Heap} {C : Addr}
/-! ### _law_condition -/
abbrev sLn : Stmt := top 34
abbrev nLn : List Str := ["box", "rows", "turn", "k"]
theorem scLn : FnScope nLn ["box"] (defScope sLn) := ⟨rfl, rfl, rfl, by decide +kernel, rfl, by decide +kernel, by decide +kernel⟩
def Full (x : List (List Rel)) : Prop := x ≠ [] ∧ ∀ r ∈ x, r ≠ []
def spLn : Sp := fun vs H Q _ => ∃ (B d : Addr), vs = [.ref B] ∧ Box H B d ∧ ∀ v x H', Go B H H' → Box H' B d → ConAt (fr H H') x v → Full x → Q v H'
theorem ok_ln {f fD fR : Addr} {fd fdD fdR : FuncData} (F : Fun K "_law_condition" "_law_condition" sLn f fd)
    (GD : FnOk P w K mg base CX0 1 fD fdD ["box", "many"] spDraw) (bD : Binds K fdD ["box", "many"] []) (kD : PySem.W.keepIn K (.ref fD) = true) (mD : mg "_law_draw" = some (.ref fD))
    (GR : FnOk P w K mg base CX0 2 fR fdR ["box"] spLr) (bR : Binds K fdR ["box"] []) (kR : PySem.W.keepIn K (.ref fR) = true) (mR : mg "_law_relation" = some (.ref fR))
    (mr : mg "range" = none) :
    FnOk P w K mg base CX0 3 f fd ["box"] spLn := by
  refine F.ok scLn (fun vs H Q E h => ?_) (fun cdv A outer s H vs Q E hr h => ?_)
  · obtain ⟨B, d, rfl, _⟩ := h
    rfl
  obtain ⟨B, d, rfl, hb, q⟩ := h
  have nd := scLn.nd
  refine ⟨_, pss_cons (ps_set (i := 1) nd rfl (.inl rfl) (pe_lst pa_nil))
    (pss_cons (ps_for PassesOwn.never rfl (pi_range1 rfl mr (pa_cons (pe_op op_add pe_int (pe_call GD (hr.mono (by decide)) rfl mD kD bD .nil pass0 (pa_cons (pv 0) (pa_cons pe_int pa_nil)))) pa_nil)) (pg_name (i := 2) nd rfl (.inl rfl))
      (pss_one (ps_expr (pe_bm PySem.F.plainAttrs_list PySem.F.slot_list_append PySem.F.type_list_append mt_append (pv 1) (pa_cons
          (pe_lc (own := [("k", 3)]) (g := gName 3) (tt := tYes) (te := tCall spLr [] E0 (tCons (tVar 0) tNil)) rfl nd (pi_range1 rfl mr (pa_cons (pe_op op_add pe_int (pe_call GD (hr.mono (by decide)) rfl mD kD bD .nil pass0 (pa_cons (pv 0) (pa_cons pe_int pa_nil)))) pa_nil)) (blkOk_by (N := nLn) (sc := defScope sLn) (by decide +kernel))
            (fun _ _ _ _ _ => pg_name (i := 3) nd rfl (.inl rfl)) (fun _ _ _ _ _ => pts_nil)
            (fun _ _ _ _ _ => pe_call GR hr rfl mR kR bR .nil pass0 (pa_cons (pv 0) pa_nil))) pa_nil)))))
    (pss_one (ps_ret (pv 1)))), ?_⟩
  refine ⟨Nat.zero_le _, fun rl hrl => ?_⟩
  have rB := hb.neB hrl
  have rd := hb.neD hrl
  generalize hH3 : upd H rl (.lst []) = H3
  have hrl3 : H3 rl = some (.lst []) := by rw [← hH3]; exact upd_same
  have b3 : Box H3 B d := by rw [← hH3]; exact hb.new hrl _
  have G03 : Go B H H3 := by rw [← hH3]; exact Go.new hrl _
  obtain ⟨ob3, hB3⟩ := b3.isB
  obtain ⟨ob, hB0⟩ := hb.isB
  refine ⟨_, rfl, B, d, 2, rfl, by decide, b3, fun y H4 y0 y3 g4 b4 => ⟨_, _, rfl, rfl, ?_⟩⟩
  refine ⟨1 + y, rfl, by omega, by omega, for_range (lo := 0) (n := (1 + y).toNat) (fun i σ H' => ∃ (x : List (List Rel)) (vs : List V) (o2 o3 : Option V), σ = [some (.ref B), some (.ref rl), o2, o3] ∧ Go B H H' ∧ (∀ b, H' b = none → H3 b = none) ∧ Box H' B d ∧ H' rl = some (.lst vs) ∧ A2 (RowAt (fr H3 H')) x vs ∧ vs.length = i ∧ ∀ r ∈ x, r ≠ [])
    ⟨[], [], _, _, rfl, G03.trans g4, g4.dom, b4, g4.ext _ _ rB hrl3, rfl, rfl, fun r h => by cases h⟩ ?_ ?_⟩
  · rintro i σ H5 hi ⟨x, vs, o2, o3, rfl, g5, dm, b5, hrl5, ha5, hlen, hne⟩
    refine ⟨_, rfl, .inl ⟨rfl, _, SqL.of hrl5⟩, ?_⟩
    refine ⟨_, rfl, B, d, 2, rfl, by decide, b5, fun u H6 u0 u2 g6 b6 => ⟨_, _, rfl, rfl, ?_⟩⟩
    refine ⟨1 + u, rfl, by omega, by omega, fun D hD => ?_⟩
    have DB := b6.neB hD
    have Dd := b6.neD hD
    have DH3 : H3 D = none := dm D (g6.dom D hD)
    have hrl6 := g6.ext _ _ rB hrl5
    have Drl : D ≠ rl := (ne_of_none hrl6 hD).symm
    generalize hH7 : upd H6 D (.lst []) = H7
    have hD7 : H7 D = some (.lst []) := by rw [← hH7]; exact upd_same
    have b7 : Box H7 B d := by rw [← hH7]; exact b6.new hD _
    have G67 : Go B H6 H7 := by rw [← hH7]; exact Go.new hD _
    have h7none : ∀ b, H7 b = none → H3 b = none := fun b hb => dm b (g6.dom b (G67.dom b hb))
    rw [← hH7]
    refine lc_range (lo := 0) (n := (1 + u).toNat) (fun j H' => ∃ (r : List Rel) (ws : List V), Go B H6 H' ∧ (∀ b, H' b = none → H7 b = none) ∧ Box H' B d ∧ H' D = some (.lst ws) ∧ A2 (RelAt (fr H7 H')) r ws ∧ ws.length = j) ⟨[], [], by rw [hH7]; exact G67, by rw [hH7]; exact fun _ h => h, by rw [hH7]; exact b7, by rw [hH7]; exact hD7, rfl, rfl⟩ ?_ ?_
    · rintro j H8 hj ⟨r, ws, g8, dm8, b8, hD8, ha8, hl8⟩
      refine ⟨rfl, _, rfl, B, d, rfl, b8, fun v z H9 g9 b9 hz => ?_⟩
      have hD9 := g9.ext _ _ DB hD8
      obtain ⟨ob7, hB7⟩ := b7.isB
      refine ⟨ws, hD9, sz_line (by omega), r ++ [z], ws ++ [v], (g8.trans g9).mut hD _, fun b hb => dm8 b (g9.dom b (upd_none hb)), b9.mut DB Dd _, upd_same, ?_, by rw [List.length_append, hl8]; rfl⟩
      refine A2.snoc (ha8.mono fun x v h => RelAt.same ((fr_go hB7 g9).trans (fr_mut hD7 _)) x v h) ?_
      exact RelAt.same ((fr_dom dm8).trans (fr_mut hD7 _)) z v hz
    · rintro H8 ⟨r, ws, g8, dm8, b8, hD8, ha8, hl8⟩
      have G58 := g6.trans g8
      have hrl8 := G58.ext _ _ rB hrl5
      refine ⟨rl, vs, _, rfl, rfl, hrl8, sz_line (by omega), x ++ [r], vs ++ [.ref D], _, _, rfl, (g5.trans G58).mut hrl _, fun b hb => dm b (G58.dom b (upd_none hb)), b8.mut rB rd _, upd_same, ?_, by rw [List.length_append, hlen]; rfl, ?_⟩
      · refine A2.snoc (ha5.mono fun x v h => RowAt.same ((fr_go hB3 G58).trans (fr_mut hrl3 _)) x v h) ?_
        refine ⟨D, ws, rfl, fr_new_obj DH3 (by rw [upd_ne Drl]; exact hD8), ha8.mono fun x v h => ?_, by omega⟩
        exact RelAt.same ((fr_dom h7none).trans (fr_mut hrl3 _)) x v h
      · intro r' hr'
        rcases List.mem_append.mp hr' with h | h
        · exact hne r' h
        · rw [List.mem_singleton] at h
          subst h
          intro e
          have := ha8.length
          rw [e, hl8] at this
          simp at this
          omega
  · rintro σ H5 ⟨x, vs, o2, o3, rfl, g5, dm, b5, hrl5, ha5, hlen, hne⟩
    refine ⟨_, rfl, q (.ref rl) x H5 g5 b5 ⟨rl, vs, rfl, fr_new_obj hrl hrl5, ha5.mono fun x v h => RowAt.same (fr_dom G03.dom) x v h, by omega⟩ ⟨fun e => ?_, hne⟩⟩
    have := ha5.length
    rw [e, hlen] at this
    simp at this
    omega
end
end Mw

namespace Mw
open PySem L2
section
variable {P : Program} {w : World} {K : PySem.W.Frag} {mg : Str → Option Value} {base : Heap} {C : Addr}
/-! ### _law_rules -/
abbrev sLu : Stmt := top 35
abbrev nLu : List Str := ["box", "rules", "category"]
theorem scLu : FnScope nLu ["box"] (defScope sLu) := ⟨rfl, rfl, rfl, by decide +kernel, rfl, by decide +kernel, by decide +kernel⟩
def spLu : Sp := fun vs H Q _ => ∃ (B d : Addr), vs = [.ref B] ∧ Box H B d ∧ ∀ v x H', Go B H H' → Box H' B d → RusAt (fr H H') x v → Q v H'
theorem ok_lu {f fD fR : Addr} {fd fdD fdR : FuncData} (F : Fun K "_law_rules" "_law_rules" sLu f fd)
    (GD : FnOk P w K mg base CX0 1 fD fdD ["box", "many"] spDraw) (bD : Binds K fdD ["box", "many"] []) (kD : PySem.W.keepIn K (.ref fD) = true) (mD : mg "_law_draw" = some (.ref fD))
    (GR : FnOk P w K mg base CX0 3 fR fdR ["box"] spLn) (bR : Binds K fdR ["box"] []) (kR : PySem.W.keepIn K (.ref fR) = true) (mR : mg "_law_condition" = some (.ref fR)) :
    FnOk P w K mg base CX0 4 f fd ["box"] spLu := by
  refine F.ok scLu (fun vs H Q E h => ?_) (fun cdv A outer s H vs Q E hr h => ?_)
  · obtain ⟨B, d, rfl, _⟩ := h
    rfl
  obtain ⟨B, d, rfl, hb, q⟩ := h
  have nd := scLu.nd
  refine ⟨_, pss_cons (ps_set (i := 1) nd rfl (.inl rfl) (pe_lst pa_nil))
    (pss_cons (ps_for PassesOwn.never rfl (pi_list (pe_lst (pa_cons pe_str (pa_cons pe_str (pa_cons pe_str (pa_cons pe_str (pa_cons pe_str pa_nil))))))) (pg_name (i := 2) nd rfl (.inl rfl))
      (pss_one (ps_if (pt_cmpR op_eq (pe_call GD (hr.mono (by decide)) rfl mD kD bD .nil pass0 (pa_cons (pv 0) (pa_cons pe_int pa_nil))) pe_int (nomark _))
        (pss_one (ps_expr (pe_bm PySem.F.plainAttrs_list PySem.F.slot_list_append PySem.F.type_list_append mt_append (pv 1) (pa_cons
          (pe_tup (pa_cons (pv 2) (pa_cons (pe_call GR hr rfl mR kR bR .nil pass0 (pa_cons (pv 0) pa_nil)) pa_nil))) pa_nil)))) pss_nil)))
    (pss_one (ps_ret (pv 1)))), ?_⟩
  refine ⟨Nat.zero_le _, fun rl hrl => ?_⟩
  have rB := hb.neB hrl
  have rd := hb.neD hrl
  generalize hH3 : upd H rl (.lst []) = H3
  have hrl3 : H3 rl = some (.lst []) := by rw [← hH3]; exact upd_same
  have b3 : Box H3 B d := by rw [← hH3]; exact hb.new hrl _
  have G03 : Go B H H3 := by rw [← hH3]; exact Go.new hrl _
  obtain ⟨ob3, hB3⟩ := b3.isB
  refine ⟨by show 5 ≤ sizeLine; decide, fun l hl => ?_⟩
  have lB := b3.neB hl
  have lrl : l ≠ rl := (ne_of_none hrl3 hl).symm
  refine ⟨l, rfl, ⟨_, SqL.of upd_same⟩, ?_⟩
  have G3 := Go.new (B := B) hl (.lst [.str "zero", .str "one", .str "two", .str "few", .str "many"])
  refine for_list (xs := [.str "zero", .str "one", .str "two", .str "few", .str "many"]) (fun i σ H' => ∃ (x : List Rule) (vs : List V) (o2 : Option V), σ = [some (.ref B), some (.ref rl), o2] ∧ Go B H H' ∧ (∀ b, H' b = none → H3 b = none) ∧ Box H' B d ∧ H' rl = some (.lst vs) ∧ A2 (RuAt (fr H3 H')) x vs ∧ vs.length ≤ i ∧ H' l = some (.lst [.str "zero", .str "one", .str "two", .str "few", .str "many"]))
    ⟨[], [], _, rfl, G03.trans G3, G3.dom, b3.new hl _, G3.ext _ _ rB hrl3, rfl, Nat.le_refl _, upd_same⟩ (fun i σ H' _ ⟨x, vs, o2, _, _, _, _, _, _, _, e⟩ => SqL.of e) ?_ ?_
  · rintro i y σ H5 hx ⟨x, vs, o2, rfl, g5, dm, b5, hrl5, ha5, hlen, hl5⟩
    have hi : i < 5 := get_lt hx
    have hy : ∃ c, y = V.str c := by
      have := List.mem_of_getElem? hx
      simp only [List.mem_cons, List.not_mem_nil, or_false] at this
      rcases this with rfl | rfl | rfl | rfl | rfl <;> exact ⟨_, rfl⟩
    obtain ⟨c, rfl⟩ := hy
    refine ⟨_, rfl, B, d, 3, rfl, by decide, b5, fun u H6 u0 u2 g6 b6 => ⟨rfl, _, rfl, ?_⟩⟩
    have hrl6 := g6.ext _ _ rB hrl5
    have hl6 := g6.ext _ _ lB hl5
    refine ite2 (fun cc => ?_) (fun cc => ?_)
    · refine ⟨_, rfl, .inl ⟨rfl, _, SqL.of hrl6⟩, _, rfl, _, rfl, B, d, rfl, b6, fun v z H7 g7 b7 hz _ => ⟨by show 2 ≤ sizeLine; decide, fun p hp => ?_⟩⟩
      have G57 := g6.trans g7
      have eB := Go.new (B := B) hp (.tup [.str c, v])
      have G5 := G57.trans eB
      have h3p : H3 p = none := dm p (G57.dom p hp)
      have prl : p ≠ rl := by rintro rfl; rw [hrl3] at h3p; cases h3p
      obtain ⟨ob6, hB6⟩ := b6.isB
      refine ⟨rl, vs, _, rfl, rfl, G5.ext _ _ rB hrl5, sz_line (by omega), x ++ [(c, z)], _, _, rfl, (g5.trans G5).mut hrl _, fun b hb => dm b (G5.dom b (upd_none hb)), (b7.new hp _).mut rB rd _, upd_same, ?_, by rw [List.length_append]; show vs.length + 1 ≤ i + 1; omega, by rw [upd_ne lrl]; exact G5.ext _ _ lB hl5⟩
      refine A2.snoc (ha5.mono fun x v h => RuAt.same ((fr_go hB3 G5).trans (fr_mut hrl3 _)) x v h) ⟨p, v, rfl, fr_new_obj h3p (by rw [upd_ne prl]; exact upd_same), ?_⟩
      exact ConAt.same ((fr_dom fun b hb => dm b (g6.dom b hb)).trans ((fr_go hB3 eB).trans (fr_mut hrl3 _))) z v hz
    · exact ⟨x, vs, _, rfl, g5.trans g6, fun b hb => dm b (g6.dom b hb), b6, hrl6, ha5.mono fun x v h => RuAt.same (fr_go hB3 g6) x v h, by omega, hl6⟩
  · rintro σ H5 ⟨x, vs, o2, rfl, g5, dm, b5, hrl5, ha5, hlen, hl5⟩
    refine ⟨_, rfl, q (.ref rl) x H5 g5 b5 ⟨rl, vs, rfl, fr_new_obj hrl hrl5, ha5.mono fun x v h => RuAt.same (fr_dom G03.dom) x v h, ?_⟩⟩
    have h5 : vs.length ≤ 5 := hlen
    omega
end
end Mw

namespace Mw
open PySem L2
/-! ### a heap without some addresses -/
def hids (L : List Addr) (H : Hp) : Hp := fun a => if a ∈ L then none else H a
theorem hids_ne {L : List Addr} {a : Addr} {H : Hp} (h : a ∉ L) : hids L H a = H a := by
  unfold hids
  rw [if_neg h]
theorem hids_in {L : List Addr} {a : Addr} {H : Hp} {o : HO} (h : hids L H a = some o) : a ∉ L ∧ H a = some o := by
  unfold hids at h
  split at h
  · cases h
  · exact ⟨by assumption, h⟩
theorem hids_same {L : List Addr} {H H1 : Hp} (s : Same H H1) : Same (hids L H) (hids L H1) := fun a o h => by
  obtain ⟨h1, h2⟩ := hids_in h
  rw [hids_ne h1]
  exact s _ _ h2
theorem hids_add {L : List Addr} {l : Addr} {H H1 : Hp} (hl : H l = none) (s : Same H H1) : Same (hids L H) (hids (l :: L) H1) := fun a o h => by
  obtain ⟨h1, h2⟩ := hids_in h
  have ne : a ≠ l := by rintro rfl; rw [hl] at h2; cases h2
  rw [hids_ne (by simp [ne, h1])]
  exact s _ _ h2
theorem hids_mut {L : List Addr} {l : Addr} {H : Hp} (hl : l ∈ L) (o : HO) : Same (hids L H) (hids L (upd H l o)) := fun a u h => by
  obtain ⟨h1, h2⟩ := hids_in h
  have ne : a ≠ l := by rintro rfl; exact h1 hl
  rw [hids_ne h1, upd_ne ne]
  exact h2
theorem hids_drop {L : List Addr} {l : Addr} {H : Hp} : Same (hids (l :: L) H) (hids L H) := fun a u h => by
  obtain ⟨h1, h2⟩ := hids_in h
  rw [hids_ne fun z => h1 (List.mem_cons_of_mem _ z)]
  exact h2
theorem hids_sub {L L' : List Addr} {H : Hp} (h : ∀ a ∈ L', a ∈ L) : Same (hids L H) (hids L' H) := fun a u e => by
  obtain ⟨h1, h2⟩ := hids_in e
  rw [hids_ne fun z => h1 (h a z)]
  exact h2
/-- all of L stand in H -/
def In (L : List Addr) (H : Hp) : Prop := ∀ b ∈ L, ∃ o, H b = some o
theorem In.same {L : List Addr} {H H' : Hp} (s : Same H H') (i : In L H) : In L H' := fun b hb => by
  obtain ⟨o, h⟩ := i b hb
  exact ⟨o, s _ _ h⟩
theorem In.new {L : List Addr} {H : Hp} {p : Addr} (i : In L H) (h : H p = none) : p ∉ L := fun hp => by
  obtain ⟨o, e⟩ := i p hp
  rw [h] at e
  cases e
theorem In.cons {L : List Addr} {H : Hp} {l : Addr} {o : HO} (i : In L H) (h : H l = some o) : In (l :: L) H := fun b hb => by
  rcases List.mem_cons.mp hb with rfl | hb
  · exact ⟨o, h⟩
  · exact i b hb
def rLo (K : PySem.W.Frag) : List V → Hp → VK → Prop := fun xs H Q => ∃ p ys, xs = [.ref p] ∧ (SqL K H p ys ∨ SqT K H p ys) ∧ ∀ l, H l = none → Q (.ref l) (upd H l (.lst ys))
section
variable {P : Program} {w : World} {K : PySem.W.Frag} {mg : Str → Option Value} {base : Heap} {C : Addr}
/-! ### copied -/
abbrev sCd : Stmt := top 11
abbrev nCd : List Str := ["condition", "row", "modulus", "inside", "ranges"]
theorem scCd : FnScope nCd ["condition"] (defScope sCd) := ⟨rfl, rfl, rfl, by decide +kernel, rfl, by decide +kernel, by decide +kernel⟩
def spCd : Sp := fun vs H Q _ => ∃ (v : V) (x : List (List Rel)) (L : List Addr), vs = [v] ∧ In L H ∧ ConAt (hids L H) x v ∧ ∀ v' H', Same H H' → ConAt (hids L H') x v' → Q v' H'
theorem ok_cd {f : Addr} {fd : FuncData} (F : Fun K "copied" "copied" sCd f fd) (ml : mg "list" = none) : FnOk P w K mg base CX0 1 f fd ["condition"] spCd := by
  refine F.ok scCd (fun vs H Q E h => ?_) (fun cdv A outer s H vs Q E hr h => ?_)
  · obtain ⟨v, x, L, rfl, _⟩ := h
    rfl
  obtain ⟨v, x, L, rfl, iL, ⟨r, cvs, rfl, hr1, ha, hl⟩, q⟩ := h
  have nd := scCd.nd
  refine ⟨_, pss_one (ps_ret (pe_lc (own := [("row", 1)]) (g := gName 1) (tt := tYes)
      (te := tLc (iList K (tVar 1)) (gTup K 3 (gCons (gName 2) (gCons (gName 3) (gCons (gName 4) gNil)))) tYes (tTup (tCons (tVar 2) (tCons (tVar 3) (tCons (tCB (rLo K) (tCons (tVar 4) tNil)) tNil)))) [2, 3, 4])
      rfl nd (pi_list (pv 0)) (blkOk_by (N := nCd) (sc := defScope sCd) (by decide +kernel)) (fun _ _ _ _ _ => pg_name (i := 1) nd rfl (.inl rfl)) (fun _ _ _ _ _ => pts_nil)
      (fun _ _ _ _ _ => by
        refine pe_lc (own := [("modulus", 2), ("inside", 3), ("ranges", 4)]) rfl nd (pi_list (pv 1)) ?_ (fun _ _ _ _ _ => ?_) (fun _ _ _ _ _ => pts_nil) (fun _ _ _ _ _ => ?_)
        · exact blkOk_by (N := nCd) (sc := { kind := .function, names := [(".0", .local), ("row", .local)], isGenerator := false, isCoroutine := false }) (by decide +kernel)
        · exact pg_tup rfl (pgs_cons (pg_name (i := 2) nd rfl (.inl rfl)) (pgs_cons (pg_name (i := 3) nd rfl (.inl rfl)) (pgs_cons (pg_name (i := 4) nd rfl (.inl rfl)) pgs_nil)))
        · exact pe_tup (pa_cons (pv 2) (pa_cons (pv 3) (pa_cons (pe_callTy call_list_of (by rfl) ml (by decide +kernel) (pa_cons (pv 4) pa_nil)) pa_nil)))))), ?_⟩
  have hr1' := (hids_in hr1).2
  refine ⟨_, rfl, r, rfl, ⟨_, SqL.of hr1'⟩, fun D hD => ?_⟩
  have s1 : Same H (upd H D (.lst [])) := same_new hD _
  have hlen := ha.length
  refine lc_list (xs := cvs) (fun j H' => ∃ vs, Same H H' ∧ H' D = some (.lst vs) ∧ A2 (RowAt (hids (D :: L) H')) (x.take j) vs) ⟨[], s1, upd_same, rfl⟩ (fun j H' _ ⟨_, s', _⟩ => SqL.of (s' _ _ hr1')) ?_ ?_
  · rintro j y H' hx ⟨vs, s', hD', ha'⟩
    obtain ⟨row, hz, rr, rvs, rfl, hrr, har, hlr⟩ := A2.get ha hx
    have hrr' := s' _ _ (hids_in hrr).2
    have hlt := get_lt hx
    have hlen2 := har.length
    have hvl := ha'.length
    rw [List.length_take] at hvl
    refine ⟨rfl, _, rfl, rr, rfl, ⟨_, SqL.of hrr'⟩, fun D2 hD2 => ?_⟩
    have s2 : Same H' (upd H' D2 (.lst [])) := same_new hD2 _
    have hne : D ≠ D2 := ne_of_none hD' hD2
    refine lc_list (xs := rvs) (fun k H2 => ∃ ws, Same H' H2 ∧ H2 D2 = some (.lst ws) ∧ A2 (RelAt (hids (D2 :: D :: L) H2)) (row.take k) ws) ⟨[], s2, upd_same, rfl⟩ (fun k H2 _ ⟨_, s3, _⟩ => SqL.of (s3 _ _ hrr')) ?_ ?_
    · rintro k y2 H2 hx2 ⟨ws, s3, hD22, ha2⟩
      obtain ⟨⟨m, ins, rs⟩, hz2, p, qv, rfl, hp, ⟨ra, gvs, rfl, hra, hag, hlg⟩, hm⟩ := A2.get har hx2
      have s02 := s'.trans s3
      have hlt2 := get_lt hx2
      have hwl := ha2.length
      rw [List.length_take] at hwl
      refine ⟨p, _, rfl, .inl (.inl (s02 _ _ (hids_in hp).2)), rfl, .int m, _, rfl, .bl ins, _, rfl, .ref ra, [], rfl, rfl, rfl, ?_⟩
      refine ⟨_, rfl, _, rfl, _, rfl, ra, gvs, rfl, .inl (SqL.of (s02 _ _ (hids_in hra).2)), fun l hl => ⟨by show 3 ≤ sizeLine; decide, fun t ht => ?_⟩⟩
      have e1 : Same H2 (upd H2 l (.lst gvs)) := same_new hl _
      have e2 : Same (upd H2 l (.lst gvs)) (upd (upd H2 l (.lst gvs)) t (.tup [.int m, .bl ins, .ref l])) := same_new ht _
      have s4 := s3.trans (e1.trans e2)
      have hl2 : l ≠ D2 := (ne_of_none hD22 hl).symm
      have ht2 : t ≠ D2 := (ne_of_none (e1 _ _ hD22) ht).symm
      have i2 : In (D2 :: D :: L) H2 := ((iL.same s02).cons (s3 _ _ hD')).cons hD22
      have nl := i2.new hl
      have nt := (i2.same e1).new ht
      refine ⟨ws, (e1.trans e2) _ _ hD22, sz_line (by omega), ws ++ [.ref t], same_mut s4 hD2 _, upd_same, ?_⟩
      rw [List.take_succ, hz2]
      refine A2.snoc (ha2.mono fun x v h => RelAt.same ((hids_same (e1.trans e2)).trans (hids_mut (List.mem_cons_self) _)) x v h) ?_
      refine ⟨t, .ref l, rfl, by rw [hids_ne nt, upd_ne ht2]; exact upd_same, ⟨l, gvs, rfl, ?_, ?_, hlg⟩, hm⟩
      · rw [hids_ne nl, upd_ne hl2]
        exact e2 _ _ upd_same
      · refine hag.mono fun x v h => RgAt.same ?_ x v h
        have z1 : Same (hids L H) (hids (D :: L) H') := hids_add hD s'
        have z2 : Same (hids (D :: L) H') (hids (D2 :: D :: L) (upd (upd H2 l (.lst gvs)) t (.tup [.int m, .bl ins, .ref l]))) := hids_add hD2 s4
        exact (z1.trans z2).trans (hids_mut List.mem_cons_self _)
    · rintro H2 ⟨ws, s3, hD22, ha2⟩
      rw [show row.take rvs.length = row by rw [hlen2, List.take_length]] at ha2
      have hD3 := s3 _ _ hD'
      refine ⟨vs, hD3, sz_line (by omega), vs ++ [.ref D2], same_mut (s'.trans s3) hD _, upd_same, ?_⟩
      rw [List.take_succ, hz]
      have nD2 : D2 ∉ (D :: L) := ((iL.same s').cons hD').new hD2
      refine A2.snoc (ha'.mono fun x v h => RowAt.same ((hids_same s3).trans (hids_mut List.mem_cons_self _)) x v h) ⟨D2, ws, rfl, by rw [hids_ne nD2, upd_ne hne.symm]; exact hD22, ha2.mono fun x v h => RelAt.same (hids_drop.trans (hids_mut List.mem_cons_self _)) x v h, ?_⟩
      have := ha2.length
      omega
  · rintro H' ⟨vs, s', hD', ha'⟩
    rw [show x.take cvs.length = x by rw [hlen, List.take_length]] at ha'
    have nD : D ∉ L := iL.new hD
    refine q (.ref D) H' s' ⟨D, vs, rfl, by rw [hids_ne nD]; exact hD', ha'.mono fun x v h => RowAt.same hids_drop x v h, ?_⟩
    have := ha'.length
    omega
end
end Mw

namespace Mw
open PySem L2
def mth (s : Stmt) (i : Nat) : Stmt := match s with
  | .ClassDef _ _ _ b _ _ _ _ _ _ _ => b.getD i (.Pass ⟨0, 0, 0, 0⟩)
  | s => s
section
variable {P : Program} {w : World} {K : PySem.W.Frag} {mg : Str → Option Value} {base : Heap} {C : Addr}
/-! ### Language.__init__ -/
abbrev sLi : Stmt := mth (top 10) 0
abbrev nLi : List Str := ["self", "rules", "category", "condition"]
theorem scLi : FnScope nLi ["self", "rules"] (defScope sLi) := ⟨rfl, rfl, rfl, by decide +kernel, rfl, by decide +kernel, by decide +kernel⟩
def spLi (C : Addr) : Sp := fun vs H Q _ => ∃ (o dx : Addr) (v : V) (x : List Rule) (L : List Addr), vs = [.ref o, v] ∧ H o = some (.ins C dx []) ∧ In L H ∧ RusAt (hids (o :: L) H) x v ∧
  ∀ q H', (∀ a u, H a = some u → a ≠ o → H' a = some u) → H' o = some (.ins C dx [("rules", q)]) → RusAt (hids (o :: L) H') x q → Q .non H'
theorem ok_li {f fR : Addr} {fd fdR : FuncData} (F : Fun K "__init__" "Language.__init__" sLi f fd) (Lc : LC K C)
    (GR : FnOk P w K mg base CX0 1 fR fdR ["condition"] spCd) (bR : Binds K fdR ["condition"] []) (kR : PySem.W.keepIn K (.ref fR) = true) (mR : mg "copied" = some (.ref fR)) :
    FnOk P w K mg base CX0 2 f fd ["self", "rules"] (spLi C) := by
  refine F.ok scLi (fun vs H Q E h => ?_) (fun cdv A outer s H vs Q E hr h => ?_)
  · obtain ⟨o, dx, v, x, L, rfl, _⟩ := h
    rfl
  obtain ⟨o, dx, v, x, L, rfl, ho, iL, ⟨r, rvs, rfl, hr1, ha, hl⟩, q⟩ := h
  have nd := scLi.nd
  refine ⟨_, pss_one (ps_fld (pv 0) (pe_lc (own := [("category", 2), ("condition", 3)]) (g := gTup K 2 (gCons (gName 2) (gCons (gName 3) gNil))) (tt := tYes)
      (te := tTup (tCons (tVar 2) (tCons (tCall spCd [] E0 (tCons (tVar 3) tNil)) tNil))) rfl nd (pi_list (pv 1)) (blkOk_by (N := nLi) (sc := defScope sLi) (by decide +kernel))
      (fun _ _ _ _ _ => pg_tup rfl (pgs_cons (pg_name (i := 2) nd rfl (.inl rfl)) (pgs_cons (pg_name (i := 3) nd rfl (.inl rfl)) pgs_nil))) (fun _ _ _ _ _ => pts_nil)
      (fun _ _ _ _ _ => pe_tup (pa_cons (pv 2) (pa_cons (pe_call GR hr rfl mR kR bR .nil pass0 (pa_cons (pv 3) pa_nil)) pa_nil)))) rfl), ?_⟩
  have hr1' := (hids_in hr1).2
  have iO : In (o :: L) H := iL.cons ho
  refine ⟨_, rfl, r, rfl, ⟨_, SqL.of hr1'⟩, fun D hD => ?_⟩
  have s1 : Same H (upd H D (.lst [])) := same_new hD _
  have hlen := ha.length
  refine lc_list (xs := rvs) (fun j H' => ∃ vs, Same H H' ∧ H' D = some (.lst vs) ∧ A2 (RuAt (hids (D :: o :: L) H')) (x.take j) vs) ⟨[], s1, upd_same, rfl⟩ (fun j H' _ ⟨_, s', _⟩ => SqL.of (s' _ _ hr1')) ?_ ?_
  · rintro j y H' hx ⟨vs, s', hD', ha'⟩
    obtain ⟨⟨c, z⟩, hz, p, cv, rfl, hp, hcon⟩ := A2.get ha hx
    have hlt := get_lt hx
    have hvl := ha'.length
    rw [List.length_take] at hvl
    have iD : In (D :: o :: L) H' := (iO.same s').cons hD'
    refine ⟨p, _, rfl, .inl (.inl (s' _ _ (hids_in hp).2)), rfl, .str c, _, rfl, cv, [], rfl, rfl, rfl, ?_⟩
    refine ⟨_, rfl, _, rfl, cv, z, D :: o :: L, rfl, iD, hcon.same (hids_add hD s'), fun v' H2 s2 hv' => ⟨by show 2 ≤ sizeLine; decide, fun t ht => ?_⟩⟩
    have e2 : Same H2 (upd H2 t (.tup [.str c, v'])) := same_new ht _
    have hD2 := s2 _ _ hD'
    have nt := (iD.same s2).new ht
    have tD : t ≠ D := fun e => nt (by rw [e]; exact List.mem_cons_self)
    refine ⟨vs, e2 _ _ hD2, sz_line (by omega), vs ++ [.ref t], same_mut ((s'.trans s2).trans e2) hD _, upd_same, ?_⟩
    rw [List.take_succ, hz]
    refine A2.snoc (ha'.mono fun x v h => RuAt.same ((hids_same (s2.trans e2)).trans (hids_mut List.mem_cons_self _)) x v h) ⟨t, v', rfl, by rw [hids_ne nt, upd_ne tD]; exact upd_same, hv'.same ((hids_same e2).trans (hids_mut List.mem_cons_self _))⟩
  · rintro H' ⟨vs, s', hD', ha'⟩
    rw [show x.take rvs.length = x by rw [hlen, List.take_length]] at ha'
    have nD : D ∉ (o :: L) := iO.new hD
    have Do : D ≠ o := fun e => nD (by rw [e]; exact List.mem_cons_self)
    refine ⟨_, rfl, o, C, dx, _, rfl, s' _ _ ho, Lc.c, Lc.nr, by show 0 < 1000; decide, ?_⟩
    refine q (.ref D) _ (fun a u h ne => by rw [upd_ne ne]; exact s' _ _ h) upd_same ⟨D, vs, rfl, by rw [hids_ne nD, upd_ne Do]; exact hD', ha'.mono fun x v h => RuAt.same (hids_drop.trans (hids_mut List.mem_cons_self _)) x v h, ?_⟩
    have := ha'.length
    omega
end
end Mw

namespace Mw
open PySem L2 NdefX Sx
theorem slen (a b : Str) : (a ++ b).length = a.length + b.length := by
  show (a.cps ++ b.cps).size = _
  rw [Array.size_append]
  rfl
abbrev sMi : Stmt := mth (top 2) 0
abbrev sWa : Stmt := mth (top 3) 0
abbrev nMi (cc cda : Addr) : NF := ⟨"__init__", "MissingArgument.__init__", defArgs sMi, defBody sMi, defScope sMi, [("__class__", cc)], cda⟩
abbrev nWa (cc cda : Addr) : NF := ⟨"__init__", "WrongArgument.__init__", defArgs sWa, defBody sWa, defScope sWa, [("__class__", cc)], cda⟩
theorem scMi : NScope ["self", "name", "__class__"] ["self", "name"] ["__class__"] (defScope sMi) := nscope_by (by decide +kernel)
theorem scWa : NScope ["self", "name", "__class__"] ["self", "name"] ["__class__"] (defScope sWa) := nscope_by (by decide +kernel)
def spBad (C : Addr) : Sp := fun vs H Q _ => ∃ (x : Addr) (n : Str), vs = [.ref x, .str n] ∧ n.length ≤ 100 ∧ H x = some (exo x C none) ∧ ∀ dx, H dx = none → dx ≠ x → Q .non (upd (upd H dx (exd dx [("name", .str n)])) x (exo x C (some dx)))
section
variable {P : Program} {w : World} {K : PySem.W.Frag} {mg : Str → Option Value} {base : Heap}
theorem ok_mi {CX : CXT} {C cc cda f : Addr} {dV kV doc pm ct oc : Value} {an od : Option Addr} {osl : Array (Option Value)} (U : Sup P K mg C cc cda f (nMi cc cda) ["self", "name"]) (no : PySem.W.findIn K (.ref C) "name" = some none)
    (lk : K.lookup f = some ⟨oc, od, .func (PySem.W.fnX "__init__" "MissingArgument.__init__" (defArgs sMi) (defBody sMi) (defScope sMi) [("__class__", cc)] dV kV doc pm an (.ref cda) ct), osl⟩) :
    FnOk P w K mg base CX 1 f (PySem.W.fnX "__init__" "MissingArgument.__init__" (defArgs sMi) (defBody sMi) (defScope sMi) [("__class__", cc)] dV kV doc pm an (.ref cda) ct) ["self", "name"] (spBad C) := by
  refine fn_super (k := 0) (F := nMi cc cda) U lk scMi rfl (fun vs H Q E h => ?_) (fun _ => rfl) (fun _ => rfl) (fun _ => rfl) (fun env h => by unfold interactive; rw [h]; rfl) (fun _ => rfl) (fun A outer s H vs Q E hr h => ?_)
  · obtain ⟨x, n, rfl, _⟩ := h
    rfl
  obtain ⟨x, n, rfl, hn, hx, q⟩ := h
  refine ⟨x, _, _, rfl, hx, pa_cons (pe_joined (.cons pe_str (.cons (pe_fmt (pv 1)) .nil))) pa_nil, pss_one (ps_ost (pv 0) (pv 1)), ?_⟩
  have e1 : (Str.empty ++ ("there is no argument " : Str)).length ≤ 40 := by decide +kernel
  refine ⟨_, rfl, Nat.le_trans e1 (by decide), _, rfl, .inl ⟨n, rfl, Nat.le_trans hn (by decide), n, rfl, ?_, by show 1 ≤ 1000; decide, hx, ?_⟩⟩
  · rw [slen]
    exact Nat.le_trans (Nat.add_le_add e1 hn) (by decide)
  · exact ⟨_, rfl, _, rfl, x, C, rfl, U.T, no, .inl ⟨hx, q⟩⟩
theorem ok_wa {CX : CXT} {C cc cda f : Addr} {dV kV doc pm ct oc : Value} {an od : Option Addr} {osl : Array (Option Value)} (U : Sup P K mg C cc cda f (nWa cc cda) ["self", "name"]) (no : PySem.W.findIn K (.ref C) "name" = some none)
    (lk : K.lookup f = some ⟨oc, od, .func (PySem.W.fnX "__init__" "WrongArgument.__init__" (defArgs sWa) (defBody sWa) (defScope sWa) [("__class__", cc)] dV kV doc pm an (.ref cda) ct), osl⟩) :
    FnOk P w K mg base CX 1 f (PySem.W.fnX "__init__" "WrongArgument.__init__" (defArgs sWa) (defBody sWa) (defScope sWa) [("__class__", cc)] dV kV doc pm an (.ref cda) ct) ["self", "name"] (spBad C) := by
  refine fn_super (k := 0) (F := nWa cc cda) U lk scWa rfl (fun vs H Q E h => ?_) (fun _ => rfl) (fun _ => rfl) (fun _ => rfl) (fun env h => by unfold interactive; rw [h]; rfl) (fun _ => rfl) (fun A outer s H vs Q E hr h => ?_)
  · obtain ⟨x, n, rfl, _⟩ := h
    rfl
  obtain ⟨x, n, rfl, hn, hx, q⟩ := h
  refine ⟨x, _, _, rfl, hx, pa_cons (pe_joined (.cons pe_str (.cons (pe_fmt (pv 1)) (.cons pe_str .nil)))) pa_nil, pss_one (ps_ost (pv 0) (pv 1)), ?_⟩
  have e1 : (Str.empty ++ ("the argument " : Str)).length ≤ 40 := by decide +kernel
  refine ⟨_, rfl, Nat.le_trans e1 (by decide), _, rfl, .inl ⟨n, rfl, Nat.le_trans hn (by decide), n, rfl, ?_, _, rfl, ?_, by show 1 ≤ 1000; decide, hx, ?_⟩⟩
  · rw [slen]
    exact Nat.le_trans (Nat.add_le_add e1 hn) (by decide)
  · rw [slen, slen]
    have e2 : (" is of the wrong kind" : Str).length ≤ 40 := by decide +kernel
    exact Nat.le_trans (Nat.add_le_add (Nat.add_le_add e1 hn) e2) (by decide)
  · exact ⟨_, rfl, _, rfl, x, C, rfl, U.T, no, .inl ⟨hx, q⟩⟩
end
end Mw

namespace Mw
open PySem L2
theorem ps_dead {X : Cx} {st : Stmt} : PS X st (fun _ _ _ => False) := ⟨fun _ _ _ _ _ _ h => h.elim⟩
abbrev tl (x : Str) : List Nat := x.cps.toList
def catS (ys : List Str) : Str := ⟨((ys.map tl).flatten).toArray⟩
theorem joinL_nil : ∀ ls : List (List Nat), TL.joinL [] ls = ls.flatten
  | [] => rfl
  | [p] => by simp [TL.joinL]
  | p :: q :: r => by
    show p ++ ([] ++ TL.joinL [] (q :: r)) = _
    rw [joinL_nil (q :: r)]
    simp
theorem join_cat (ys : List Str) : Txt.join ("" : Str) ys = catS ys := by
  rw [TL.join_eq]
  refine TL.ext_tl ?_
  rw [TL.tl_join]
  show TL.joinL [] _ = _
  rw [joinL_nil]
  rfl
theorem join_one (x : Str) : Txt.join ("" : Str) [x] = x := by
  rw [join_cat]
  exact TL.ext_tl (by show ([x].map tl).flatten = tl x; simp)
theorem fig_str {n : Int} (h : n < 0) : (("-" : Str) ++ (toString (-n) : Str)) = (toString n : Str) := by
  cases n with
  | ofNat m => exact absurd h (by simp)
  | negSucc m =>
    have e : (-(Int.negSucc m)) = ((m + 1 : Nat) : Int) := rfl
    rw [e]
    show Str.ofString "-" ++ Str.ofString (toString ((m + 1 : Nat) : Int)) = Str.ofString (toString (Int.negSucc m))
    have e2 : toString (Int.negSucc m) = "-" ++ toString ((m + 1 : Nat) : Int) := rfl
    rw [e2]
    refine TL.ext_tl ?_
    rw [TL.tl_append]
    show (Str.ofString "-").cps.toList ++ (Str.ofString (toString ((m + 1 : Nat) : Int))).cps.toList = (Str.ofString ("-" ++ toString ((m + 1 : Nat) : Int))).cps.toList
    rw [Str.ofString_eq_toList, Str.ofString_eq_toList, Str.ofString_eq_toList]
    simp
theorem str_len40 {m : Int} (h0 : 0 ≤ m) (h : m < 10 ^ 30) : (toString m : Str).length ≤ 40 := by
  obtain ⟨k, rfl⟩ := Int.eq_ofNat_of_zero_le h0
  show (Str.ofString (toString ((k : Nat) : Int))).cps.size ≤ 40
  rw [Str.ofString_eq_toList]
  show ((Nat.repr k).toList.map Char.toNat).toArray.size ≤ 40
  rw [List.size_toArray, List.length_map, String.length_toList]
  exact Nat.le_trans ((Nat.length_repr_le_iff (k := 30) (by omega)).mpr (by omega)) (by omega)
section
variable {P : Program} {w : World} {K : PySem.W.Frag} {mg : Str → Option Value} {base : Heap} {C : Addr}
/-! ### figures_of -/
abbrev sFg : Stmt := top 17
theorem scFg : FnScope ["number", "sign", "groups", "rest", "last"] ["number"] (defScope sFg) := ⟨rfl, rfl, rfl, by decide +kernel, rfl, by decide +kernel, by decide +kernel⟩
def spFg : Sp := fun vs H Q _ => ∃ n : Int, vs = [.int n] ∧ n.natAbs < 10 ^ 30 ∧ ∀ H', Same H H' → Q (.str (toString n)) H'
theorem ok_fg {f : Addr} {fd : FuncData} (F : Fun K "figures_of" "figures_of" sFg f fd) (ma : mg "abs" = none) (ms : mg "str" = none) : FnOk P w K mg base CX0 1 f fd ["number"] spFg := by
  refine F.ok scFg (fun vs H Q E h => ?_) (fun cdv A outer s H vs Q E hr h => ?_)
  · obtain ⟨n, rfl, _⟩ := h
    rfl
  obtain ⟨n, rfl, hb, q⟩ := h
  have nd := scFg.nd
  refine ⟨_, pss_cons (ps_set (i := 1) nd rfl (.inl rfl) (pe_ifExp (pt_cmpR op_lt (pv 0) pe_int (nomark _)) pe_str pe_str))
    (pss_cons (ps_set (i := 2) nd rfl (.inl rfl) (pe_lst pa_nil))
    (pss_cons (ps_set (i := 3) nd rfl (.inl rfl) (pe_callB call_abs (by rfl) ma (by decide +kernel) (pa_cons (pv 0) pa_nil)))
    (pss_cons (ps_while PassesOwn.never (pt_cmpR op_ge (pv 3) (pe_op op_pow pe_int pe_int) (nomark _)) (pss_cons ps_dead (pss_one ps_dead)))
    (pss_cons (ps_expr (pe_bm PySem.F.plainAttrs_list PySem.F.slot_list_append PySem.F.type_list_append mt_append (pv 2) (pa_cons (pe_op op_add_str (pv 1) (pe_callTy call_str_int (by rfl) ms (by decide +kernel) (pa_cons (pv 3) pa_nil))) pa_nil)))
    (pss_one (ps_ret (pe_join pe_str (pe_revL (pv 2))))))))), ?_⟩
  have big : (10 : Int) ^ 60 > 10 ^ 30 := by decide
  have two : ∃ sg : Str, sg.length ≤ 1 ∧ sg ++ (toString (if n < 0 then -n else n) : Str) = (toString n : Str) ∧ ∀ Q' : VK, Q' (.str sg) H → tIf (tTest (tOp (rI0 fun i j => V.bl (decide (i < j))) (tVar 0) (tC (.int 0)))) (tC (.str "-")) (tC (.str "")) [some (.int n), none, none, none, none] H Q' := by
    by_cases h : n < 0
    · refine ⟨"-", by decide, by rw [if_pos h]; exact fig_str h, fun Q' q' => ⟨_, rfl, _, _, rfl, rfl, _, rfl, ?_⟩⟩
      rw [decide_eq_true h]
      exact q'
    · refine ⟨"", by decide, ?_, fun Q' q' => ⟨_, rfl, _, _, rfl, rfl, _, rfl, ?_⟩⟩
      · rw [if_neg h]
        exact TL.ext_tl (by rw [TL.tl_append]; rfl)
      · rw [decide_eq_false h]
        exact q'
  obtain ⟨sg, hs1, hs2, hs3⟩ := two
  refine hs3 _ ⟨Nat.zero_le _, fun gl hgl => ?_⟩
  have s1 : Same H (upd H gl (.lst [])) := same_new hgl _
  have hn : (if n < 0 then -n else n) < 10 ^ 30 := by
    split <;> omega
  refine ⟨_, rfl, n, rfl, ?_⟩
  generalize hm : (if n < 0 then -n else n) = m at hn hs2
  have hm0 : 0 ≤ m := by rw [← hm]; split <;> omega
  refine ⟨fun _ σ H' => H' = upd H gl (.lst []) ∧ σ = [some (.int n), some (.str sg), some (.ref gl), some (.int m), none], ⟨0, rfl, ?_⟩, ?_⟩
  · rw [← hm]
    rfl
  rintro _ σ H' ⟨rfl, rfl⟩
  refine ⟨_, rfl, _, _, rfl, rfl, by unfold CPow; decide, _, _, rfl, rfl, _, rfl, ?_⟩
  rw [show decide ((10 : Int) ^ (60 : Int).toNat ≤ m) = false from decide_eq_false (by show ¬ (10 : Int) ^ 60 ≤ m; omega)]
  have hgl' : upd H gl (.lst []) gl = some (.lst []) := upd_same
  have hl40 := str_len40 hm0 hn
  refine ⟨_, rfl, .inl ⟨rfl, _, SqL.of hgl'⟩, _, rfl, _, rfl, m, rfl, ?_, _, _, rfl, rfl, ?_, gl, [], _, rfl, rfl, hgl', by decide, ?_⟩
  · have : m.natAbs < 2 ^ 1000 := by
      have e : (10 : Nat) ^ 30 < 2 ^ 1000 := by decide +kernel
      omega
    rcases Nat.eq_zero_or_pos m.natAbs with z | z
    · rw [z]
      decide
    · exact Nat.lt_trans ((Nat.log2_lt (by omega)).mpr this) (by decide)
  · exact Nat.le_trans (Nat.add_le_add hs1 hl40) (by decide)
  rw [hs2]
  refine ⟨⟨_, rfl⟩, _, rfl, gl, _, rfl, SqL.of upd_same, fun p hp => ?_⟩
  refine ⟨_, p, [(toString n : Str)], rfl, rfl, .inl (SqL.of upd_same), ?_, ?_⟩
  · have : (toString n : Str).length ≤ 41 := by
      rw [← hs2, slen]
      omega
    show (toString n : Str).length + 0 + 1 * 0 ≤ 16777216
    omega
  · rw [join_one]
    exact q _ ((same_mut (s1) hgl _).trans (same_new hp _))
end
end Mw

namespace Mw
open PySem L2
/-! ### arguments and what a choice chooses -/
def AvOk (v : V) : Prop := (∃ s : Str, v = .str s ∧ s.length ≤ 100) ∨ ∃ i : Int, v = .int i ∧ i.natAbs < 10 ^ 20
def vt (v : V) (off : Int) : Str := match v with
  | .str s => s
  | .int i => toString (i - off)
  | _ => ""
def fcs : T → V → Option T
  | .cas k m r, key => if k = key then some m else fcs r key
  | _, _ => none
def chP (cs o : T) (rs : List Rule) (i off : Int) : T := (fcs cs (.int i)).getD ((fcs cs (.str (catN rs (i - off)))).getD o)
def chS (cs o : T) (s : Str) : T := (fcs cs (.str s)).getD o
def KeyI (k : V) : Prop := (∃ s, k = .str s) ∨ ∃ i, k = .int i
theorem scal_key {a b : V} (ha : KeyI a) (hb : KeyI b) : scal a b = true := by
  rcases ha with ⟨s, rfl⟩ | ⟨i, rfl⟩ <;> rcases hb with ⟨t, rfl⟩ | ⟨j, rfl⟩ <;> rfl
/-- the cases by their places -/
theorem cas_at {H : Hp} : ∀ {cs : T} {cvs : List V}, Nodes H cs cvs → Wf cs true → ∃ ks : List (V × T), ks.length = cvs.length ∧ (∀ key, fcs cs key = (ks.find? fun q => decide (q.1 = key)).map (·.2)) ∧ ∀ (i : Nat) (v : V), cvs[i]? = some v → ∃ (p a : Addr) (q : V × T), v = .ref p ∧ ks[i]? = some q ∧ H p = some (.tup [q.1, .ref a]) ∧ At H a q.2 ∧ KeyI q.1
  | .nil, _, h, _ => ⟨[], by rw [show _ = [] from h]; rfl, fun _ => rfl, fun i v e => by rw [show _ = [] from h] at e; simp at e⟩
  | .text _ _, _, _, w => by cases w.1
  | .shw _ _, _, _, w => by cases w.1
  | .num _, _, _, w => by cases w.1
  | .cho _ _ _ _, _, _, w => by cases w.1
  | .cas k m r, _, h, w => by
    obtain ⟨p, ws, ma, mvs, rfl, hp, hm, hms, hr⟩ := h
    obtain ⟨ks, e1, e2, e3⟩ := cas_at hr w.2.2.2
    refine ⟨(k, m) :: ks, congrArg (· + 1) e1, fun key => ?_, fun i v e => ?_⟩
    · show (if k = key then some m else fcs r key) = _
      rw [List.find?_cons]
      by_cases z : k = key
      · simp [z]
      · simp [z, e2]
    · cases i with
      | zero =>
        have : V.ref p = v := by simpa using e
        subst this
        exact ⟨p, ma, (k, m), rfl, rfl, hp, ⟨mvs, hm, hms⟩, w.2.1⟩
      | succ i =>
        obtain ⟨p', a, q, h1, h2, h3⟩ := e3 i v (by simpa using e)
        exact ⟨p', a, q, h1, by simpa using h2, h3⟩
section
variable {P : Program} {w : World} {K : PySem.W.Frag} {mg : Str → Option Value} {base : Heap} {C : Addr}
abbrev sTx : Stmt := top 18
theorem scTx : FnScope ["argument", "offset"] ["argument", "offset"] (defScope sTx) := ⟨rfl, rfl, rfl, by decide +kernel, rfl, by decide +kernel, by decide +kernel⟩
def spTx : Sp := fun vs H Q _ => ∃ (v : V) (off : Int), vs = [v, .int off] ∧ AvOk v ∧ 0 ≤ off ∧ off ≤ 9 ∧ ∀ H', Same H H' → Q (.str (vt v off)) H'
theorem ok_tx {f fG : Addr} {fd fdG : FuncData} (F : Fun K "text_of" "text_of" sTx f fd) (GG : FnOk P w K mg base CX0 1 fG fdG ["number"] spFg) (bG : Binds K fdG ["number"] []) (kG : PySem.W.keepIn K (.ref fG) = true) (mG : mg "figures_of" = some (.ref fG)) (mi : mg "isinstance" = none) (ms : mg "str" = none) :
    FnOk P w K mg base CX0 2 f fd ["argument", "offset"] spTx := by
  refine F.ok scTx (fun vs H Q E h => ?_) (fun cdv A outer s H vs Q E hr h => ?_)
  · obtain ⟨v, off, rfl, _⟩ := h
    rfl
  obtain ⟨v, off, rfl, hv, h0, h9, q⟩ := h
  refine ⟨_, pss_one (ps_ret (pe_ifExp (pt_val (pe_callB call_isi (by rfl) mi (by decide +kernel) (pa_cons (pv 0) (pa_cons (pe_bltn (v := .ty "str") (by rfl) ms (by decide +kernel) rfl) pa_nil)))) (pv 0)
    (pe_call GG hr rfl mG kG bG .nil pass0 (pa_cons (pe_op op_sub (pv 0) (pv 1)) pa_nil)))), ?_⟩
  rcases hv with ⟨s, rfl, _⟩ | ⟨i, rfl, hi⟩
  · refine ⟨_, rfl, .str s, .ty "str", .type "str", .type "str", true, rfl, .ty "str", .base (.str s), rfl, true, rfl, ?_⟩
    exact iteT ⟨_, rfl, q H (Same.refl _)⟩
  · refine ⟨_, rfl, .int i, .ty "str", .type "int", .type "str", false, rfl, .ty "str", .base (.int i), kit_ty (by decide +kernel), false, rfl, ?_⟩
    refine iteF ⟨_, rfl, _, rfl, _, _, rfl, rfl, i - off, rfl, ?_, q⟩
    have e : (10 : Nat) ^ 20 + 9 < 10 ^ 30 := by decide
    omega
/-! ### case_with -/
abbrev sCw : Stmt := top 19
theorem scCw : FnScope ["node", "key", "known", "message"] ["node", "key"] (defScope sCw) := ⟨rfl, rfl, rfl, by decide +kernel, rfl, by decide +kernel, by decide +kernel⟩
def spCw : Sp := fun vs H Q _ => ∃ (H0 : Hp) (p ca oa : Addr) (hd cvs : List V) (cs : T) (key : V), vs = [.ref p, key] ∧ Same H0 H ∧ H0 p = some (.tup (hd ++ [.ref ca, .ref oa])) ∧ H0 ca = some (.lst cvs) ∧ Nodes H0 cs cvs ∧ Wf cs true ∧ KeyI key ∧
  (∀ m, fcs cs key = some m → ∀ a H', Same H H' → At H0 a m → Q (.ref a) H') ∧ (fcs cs key = none → ∀ H', Same H H' → Q .non H')
theorem ok_cw {f fC : Addr} {fd fdC : FuncData} (F : Fun K "case_with" "case_with" sCw f fd) (GC : FnOk P w K mg base CX0 1 fC fdC ["node"] spCases) (bC : Binds K fdC ["node"] []) (kC : PySem.W.keepIn K (.ref fC) = true) (mC : mg "cases_of" = some (.ref fC)) :
    FnOk P w K mg base CX0 2 f fd ["node", "key"] spCw := by
  refine F.ok scCw (fun vs H Q E h => ?_) (fun cdv A outer s H vs Q E hr h => ?_)
  · obtain ⟨H0, p, ca, oa, hd, cvs, cs, key, rfl, _⟩ := h
    rfl
  obtain ⟨H0, p, ca, oa, hd, cvs, cs, key, rfl, s0, hp, hca, hcs, hw, hk, q1, q2⟩ := h
  have nd := scCw.nd
  refine ⟨_, pss_cons (ps_for PassesOwn.never rfl (pi_list (pe_call GC hr rfl mC kC bC .nil pass0 (pa_cons (pv 0) pa_nil))) (pg_tup rfl (pgs_cons (pg_name (i := 2) nd rfl (.inl rfl)) (pgs_cons (pg_name (i := 3) nd rfl (.inl rfl)) pgs_nil)))
      (pss_one (ps_if (pt_cmpR op_eq (pv 2) (pv 1) (nomark _)) (pss_one (ps_ret (pv 3))) pss_nil)))
    (pss_one (ps_ret pe_non)), ?_⟩
  obtain ⟨ks, e1, e2, e3⟩ := cas_at hcs hw
  refine ⟨_, rfl, p, ca, oa, hd, cvs, rfl, s0 _ _ hp, s0 _ _ hca, fun l hl => ⟨l, rfl, ⟨_, SqL.of upd_same⟩, ?_⟩⟩
  have s1 : Same H (upd H l (.lst cvs)) := same_new hl _
  refine for_list (xs := cvs) (fun i σ H' => H' = upd H l (.lst cvs) ∧ (∃ o2 o3, σ = [some (.ref p), some key, o2, o3]) ∧ fcs cs key = ((ks.drop i).find? fun q => decide (q.1 = key)).map (·.2)) ⟨rfl, ⟨_, _, rfl⟩, e2 key⟩ (fun i σ H' _ ⟨e, _⟩ => by rw [e]; exact SqL.of upd_same) ?_ ?_
  · rintro i v σ H' hx ⟨rfl, ⟨o2, o3, rfl⟩, hf⟩
    obtain ⟨t, a, qk, rfl, hq, ht, hat, hki⟩ := e3 i v hx
    have ed : ks.drop i = qk :: ks.drop (i + 1) := by
      obtain ⟨h1, h2⟩ := List.getElem?_eq_some_iff.mp hq
      rw [List.drop_eq_getElem_cons h1, h2]
    rw [ed, List.find?_cons] at hf
    refine ⟨t, _, rfl, .inl (.inl (s1 _ _ (s0 _ _ ht))), rfl, qk.1, _, rfl, .ref a, [], rfl, rfl, ?_⟩
    refine ⟨_, rfl, _, rfl, scal_key hki hk, _, rfl, ?_⟩
    refine ite2 (fun c => ?_) (fun c => ?_)
    · rw [c] at hf
      exact ⟨_, rfl, q1 qk.2 hf a _ s1 hat⟩
    · have c' : decide (qk.1 = key) = false := Bool.eq_false_iff.mpr c
      rw [c'] at hf
      exact ⟨rfl, ⟨_, _, rfl⟩, hf⟩
  · rintro σ H' ⟨rfl, ⟨o2, o3, rfl⟩, hf⟩
    rw [← e1, List.drop_length] at hf
    exact q2 hf _ s1
/-! ### counted, selected -/
abbrev sCt : Stmt := top 20
theorem scCt : FnScope ["node", "language", "number", "key", "message"] ["node", "language", "number"] (defScope sCt) := ⟨rfl, rfl, rfl, by decide +kernel, rfl, by decide +kernel, by decide +kernel⟩
def spCt (C : Addr) : Sp := fun vs H Q _ => ∃ (H0 : Hp) (p ca oa : Addr) (n : Str) (off i : Int) (cvs : List V) (cs o : T) (rs : List Rule) (vl : V), vs = [.ref p, vl, .int i] ∧ Same H0 H ∧ H0 p = some (.tup ([.str "plural", .str n, .int off] ++ [.ref ca, .ref oa])) ∧ H0 ca = some (.lst cvs) ∧ Nodes H0 cs cvs ∧ Wf cs true ∧ At H0 oa o ∧ LanAt C H rs vl ∧
  ∀ a H', Same H H' → At H0 a (chP cs o rs i off) → Q (.ref a) H'
theorem ok_ct {f fW fG fO : Addr} {fd fdW fdG fdO : FuncData} (F : Fun K "counted" "counted" sCt f fd) (GW : FnOk P w K mg base CX0 2 fW fdW ["node", "key"] spCw) (bW : Binds K fdW ["node", "key"] []) (kW : PySem.W.keepIn K (.ref fW) = true) (mW : mg "case_with" = some (.ref fW))
    (GG : FnOk P w K mg base CX0 3 fG fdG ["language", "number"] (spCo C)) (bG : Binds K fdG ["language", "number"] []) (kG : PySem.W.keepIn K (.ref fG) = true) (mG : mg "category_of" = some (.ref fG))
    (GO : FnOk P w K mg base CX0 1 fO fdO ["node"] spOther) (bO : Binds K fdO ["node"] []) (kO : PySem.W.keepIn K (.ref fO) = true) (mO : mg "other_of" = some (.ref fO)) :
    FnOk P w K mg base CX0 4 f fd ["node", "language", "number"] (spCt C) := by
  refine F.ok scCt (fun vs H Q E h => ?_) (fun cdv A outer s H vs Q E hr h => ?_)
  · obtain ⟨H0, p, ca, oa, n, off, i, cvs, cs, o, rs, vl, rfl, _⟩ := h
    rfl
  obtain ⟨H0, p, ca, oa, n, off, i, cvs, cs, o, rs, vl, rfl, s0, hp, hca, hcs, hw, ho, hL, q⟩ := h
  have nd := scCt.nd
  refine ⟨_, pss_cons (ps_for PassesOwn.never rfl (pi_tup (pe_tup (pa_cons (pv 2) (pa_cons (pe_call GG hr rfl mG kG bG .nil pass0 (pa_cons (pv 1) (pa_cons (pe_op op_sub (pv 2) (pe_ix ix_tup (pv 0) pe_int (fun _ _ => rfl))) pa_nil))) pa_nil)))) (pg_name (i := 3) nd rfl (.inl rfl))
      (pss_cons (ps_set (i := 4) nd rfl (.inl rfl) (pe_call GW (hr.mono (by decide)) rfl mW kW bW .nil pass0 (pa_cons (pv 0) (pa_cons (pv 3) pa_nil))))
      (pss_one (ps_if (pt_cmpR op_notN (pv 4) pe_non (nomark _)) (pss_one (ps_ret (pv 4))) pss_nil))))
    (pss_one (ps_ret (pe_call GO (hr.mono (by decide)) rfl mO kO bO .nil pass0 (pa_cons (pv 0) pa_nil)))), ?_⟩
  refine ⟨_, rfl, _, rfl, _, rfl, _, rfl, p, _, 2, .int off, rfl, rfl, .inl (.inl (s0 _ _ hp)), atI_nat (j := 2) rfl, _, _, rfl, rfl, vl, rs, i - off, rfl, hL, fun H1 s1 => ?_⟩
  refine ⟨by show 2 ≤ sizeLine; decide, fun u hu => ⟨u, rfl, ⟨_, SqT.of upd_same⟩, ?_⟩⟩
  have s2 : Same H (upd H1 u (.tup [.int i, .str (catN rs (i - off))])) := s1.trans (same_new hu _)
  generalize hH2 : upd H1 u (.tup [.int i, .str (catN rs (i - off))]) = H2 at s2 ⊢
  have hu2 : H2 u = some (.tup [.int i, .str (catN rs (i - off))]) := by rw [← hH2]; exact upd_same
  have turn : ∀ (key : V) (o4 : Option V) (H' : Hp) (N : L2.St → Hp → Prop) (D : Ends), KeyI key → Same H H' → (∀ m, fcs cs key = some m → ∀ a H3, Same H' H3 → At H0 a m → Q (.ref a) H3) → (fcs cs key = none → ∀ H3, Same H' H3 → N [some (.ref p), some vl, some (.int i), some key, some .non] H3) → D.nx = N → D.rt = Q →
      tSeq (tAsg (tCall spCw [] E0 (tCons (tVar 0) (tCons (tVar 3) tNil))) (gName 4)) (tIfS (tTest (tOp (fun x y H Q => y = .non ∧ Q (.bl (!decide (x = .non))) H) (tVar 4) (tC .non))) (tRet (tVar 4)) tNext) D [some (.ref p), some vl, some (.int i), some key, o4] H' := by
    intro key o4 H' N D hk s' h1 h2 e1 e2
    refine ⟨_, rfl, _, rfl, H0, p, ca, oa, _, cvs, cs, key, rfl, s0.trans s', hp, hca, hcs, hw, hk, fun m hm a H3 s3 ha => ?_, fun hm H3 s3 => ?_⟩
    · refine ⟨_, rfl, rfl, _, rfl, ?_⟩
      rw [show (!decide (V.ref a = V.non)) = true by simp]
      refine ⟨_, rfl, ?_⟩
      rw [e2]
      exact h1 m hm a H3 s3 ha
    · refine ⟨_, rfl, rfl, _, rfl, ?_⟩
      rw [show (!decide (V.non = V.non)) = false by simp]
      show D.nx _ _
      rw [e1]
      exact h2 hm H3 s3
  refine for_tup (xs := [.int i, .str (catN rs (i - off))]) (fun j σ H' => Same H2 H' ∧ (∃ o3 o4, σ = [some (.ref p), some vl, some (.int i), o3, o4]) ∧ (1 ≤ j → fcs cs (.int i) = none) ∧ (2 ≤ j → fcs cs (.str (catN rs (i - off))) = none)) ⟨Same.refl _, ⟨_, _, rfl⟩, (fun z => by omega), (fun z => by omega)⟩ (fun j σ H' _ ⟨s', _⟩ => .inl (.inl (s' _ _ hu2))) ?_ ?_
  · rintro j x σ H' hx ⟨s', ⟨o3, o4, rfl⟩, h1, h2⟩
    have hj : j < 2 := get_lt hx
    rcases (show j = 0 ∨ j = 1 by omega) with rfl | rfl
    · have : V.int i = x := by simpa using hx
      subst this
      exact turn (.int i) o4 H' _ _ (.inr ⟨_, rfl⟩) (s2.trans s') (fun m hm a H3 s3 ha => q a H3 ((s2.trans s').trans s3) (by unfold chP; rw [hm]; exact ha)) (fun hm H3 s3 => ⟨s'.trans s3, ⟨_, _, rfl⟩, fun _ => hm, fun z => by omega⟩) rfl rfl
    · have : V.str (catN rs (i - off)) = x := by simpa using hx
      subst this
      have h1' := h1 (by omega)
      exact turn (.str (catN rs (i - off))) o4 H' _ _ (.inl ⟨_, rfl⟩) (s2.trans s') (fun m hm a H3 s3 ha => q a H3 ((s2.trans s').trans s3) (by unfold chP; rw [h1', hm]; exact ha)) (fun hm H3 s3 => ⟨s'.trans s3, ⟨_, _, rfl⟩, fun _ => h1', fun _ => hm⟩) rfl rfl
  · rintro σ H' ⟨s', ⟨o3, o4, rfl⟩, h1, h2⟩
    have hs := s2.trans s'
    refine ⟨_, rfl, p, ca, oa, _, rfl, hs _ _ (s0 _ _ hp), ?_⟩
    exact q oa H' hs (by unfold chP; rw [h1 (by show 1 ≤ 2; decide), h2 (by show 2 ≤ 2; decide)]; exact ho)
abbrev sSd : Stmt := top 21
theorem scSd : FnScope ["node", "word", "message"] ["node", "word"] (defScope sSd) := ⟨rfl, rfl, rfl, by decide +kernel, rfl, by decide +kernel, by decide +kernel⟩
def spSd : Sp := fun vs H Q _ => ∃ (H0 : Hp) (p ca oa : Addr) (hd cvs : List V) (cs o : T) (s : Str), vs = [.ref p, .str s] ∧ Same H0 H ∧ H0 p = some (.tup (hd ++ [.ref ca, .ref oa])) ∧ H0 ca = some (.lst cvs) ∧ Nodes H0 cs cvs ∧ Wf cs true ∧ At H0 oa o ∧ ∀ a H', Same H H' → At H0 a (chS cs o s) → Q (.ref a) H'
theorem ok_sd {f fW fO : Addr} {fd fdW fdO : FuncData} (F : Fun K "selected" "selected" sSd f fd) (GW : FnOk P w K mg base CX0 2 fW fdW ["node", "key"] spCw) (bW : Binds K fdW ["node", "key"] []) (kW : PySem.W.keepIn K (.ref fW) = true) (mW : mg "case_with" = some (.ref fW))
    (GO : FnOk P w K mg base CX0 1 fO fdO ["node"] spOther) (bO : Binds K fdO ["node"] []) (kO : PySem.W.keepIn K (.ref fO) = true) (mO : mg "other_of" = some (.ref fO)) :
    FnOk P w K mg base CX0 3 f fd ["node", "word"] spSd := by
  refine F.ok scSd (fun vs H Q E h => ?_) (fun cdv A outer s H vs Q E hr h => ?_)
  · obtain ⟨H0, p, ca, oa, hd, cvs, cs, o, s, rfl, _⟩ := h
    rfl
  obtain ⟨H0, p, ca, oa, hd, cvs, cs, o, wd, rfl, s0, hp, hca, hcs, hw, ho, q⟩ := h
  have nd := scSd.nd
  refine ⟨_, pss_cons (ps_set (i := 2) nd rfl (.inl rfl) (pe_call GW hr rfl mW kW bW .nil pass0 (pa_cons (pv 0) (pa_cons (pv 1) pa_nil))))
    (pss_one (ps_ret (pe_ifExp (pt_cmpR op_isN (pv 2) pe_non (nomark _)) (pe_call GO (hr.mono (by decide)) rfl mO kO bO .nil pass0 (pa_cons (pv 0) pa_nil)) (pv 2)))), ?_⟩
  refine ⟨_, rfl, _, rfl, H0, p, ca, oa, hd, cvs, cs, .str wd, rfl, s0, hp, hca, hcs, hw, .inl ⟨_, rfl⟩, fun m hm a H3 s3 ha => ?_, fun hm H3 s3 => ?_⟩
  · refine ⟨_, rfl, rfl, _, rfl, ?_⟩
    rw [show decide (V.ref a = V.non) = false by simp]
    exact ⟨_, rfl, q a H3 s3 (by unfold chS; rw [hm]; exact ha)⟩
  · refine ⟨_, rfl, rfl, _, rfl, ?_⟩
    rw [show decide (V.non = V.non) = true by simp]
    refine ⟨_, rfl, p, ca, oa, hd, rfl, s3 _ _ (s0 _ _ hp), ?_⟩
    exact q oa H3 s3 (by unfold chS; rw [hm]; exact ho)
end
end Mw

namespace Mw
open PySem L2
/-! ### arguments by names -/
abbrev Av := List (Str × V)
def akv (l : Av) : List (L2.Key × V) := l.map fun p => (Sum.inr p.1, p.2)
def aval (l : Av) (n : Str) : Option V := (l.find? fun p => decide (p.1 = n)).map (·.2)
theorem val_akv (n : Str) : ∀ l : Av, valV (akv l) (Sum.inr n) = aval l n
  | [] => rfl
  | p :: r => by
    by_cases e : p.1 = n
    · rw [show aval (p :: r) n = some p.2 by simp [aval, e]]
      exact valV_pos (p := ((Sum.inr p.1 : L2.Key), p.2)) (by rw [e])
    · rw [show aval (p :: r) n = aval r n by simp [aval, e], ← val_akv n r]
      exact valV_neg (p := ((Sum.inr p.1 : L2.Key), p.2)) (fun z => e (Sum.inr.inj z))
def vkind : V → Str
  | .str _ => "text"
  | _ => "number"
def kOk (k : Str) (v : V) : Prop := k = "any" ∨ k = vkind v
/-- what the row says of the kinds by words -/
structure KA (K : PySem.W.Frag) (mg : Str → Option Value) (w : World) (kd : Addr) (es : Array DictEntry) (n : Nat) : Prop where
  g : mg "ASKED_KINDS" = some (.ref kd)
  d : KDict K w kd es n
  k1 : ∃ t, PySem.W.nsIn K kd "show" = some (some (.str "any" t))
  k2 : ∃ t, PySem.W.nsIn K kd "select" = some (some (.str "text" t))
  k3 : ∃ t, PySem.W.nsIn K kd "plural" = some (some (.str "number" t))
/-- what the row says of an error's class with its __init__ -/
structure EC (P : Program) (w : World) (K : PySem.W.Frag) (mg : Str → Option Value) (base : Heap) (x : Str) (C : Addr) : Prop where
  U : OexC K C
  m : mg x = some (.ref C)
  F : ∃ fB fd, PySem.W.findIn K (.ref C) "__init__" = some (some (.ref fB)) ∧ PySem.W.typeIn K (.ref fB) = some (.type "function") ∧ FnOk P w K mg base (L2.CX P w) 1 fB fd ["self", "name"] (spBad C) ∧ Binds K fd ["self", "name"] []
abbrev sAk : Stmt := top 22
theorem scAk : FnScope ["node", "arguments", "name", "argument", "kind"] ["node", "arguments"] (defScope sAk) := ⟨rfl, rfl, rfl, by decide +kernel, rfl, by decide +kernel, by decide +kernel⟩
def askd (x kd : Str) : Prop := (x = "show" ∧ kd = "any") ∨ (x = "select" ∧ kd = "text") ∨ (x = "plural" ∧ kd = "number")
def spAk (CM CW : Addr) : Sp := fun vs H Q E => ∃ (p d : Addr) (x nm kd : Str) (xs : List V) (args : Av), vs = [.ref p, .ref d] ∧ H p = some (.tup (.str x :: .str nm :: xs)) ∧ askd x kd ∧ nm.length ≤ 100 ∧ H d = some (.dK (akv args)) ∧ (∀ v, aval args nm = some v → AvOk v) ∧
  (∀ v, aval args nm = some v → kOk kd v → ∀ H', Same H H' → Q v H') ∧
  (aval args nm = none → ∀ dx H', H dx = none → Same H H' → H' dx = some (.xd [("name", .str nm)]) → E (.ref CM) (some dx) H') ∧
  (∀ v, aval args nm = some v → ¬ kOk kd v → ∀ dx H', H dx = none → Same H H' → H' dx = some (.xd [("name", .str nm)]) → E (.ref CW) (some dx) H')
section
variable {P : Program} {w : World} {K : PySem.W.Frag} {mg : Str → Option Value} {base : Heap}
theorem ok_ak {f CM CW kd : Addr} {fd : FuncData} {es : Array DictEntry} {n : Nat} (F : Fun K "asked_argument" "asked_argument" sAk f fd) (A1 : KA K mg w kd es n) (mi : mg "isinstance" = none) (ms : mg "str" = none)
    (EM : EC P w K mg base "MissingArgument" CM) (EW : EC P w K mg base "WrongArgument" CW) :
    FnOk P w K mg base (L2.CX P w) 3 f fd ["node", "arguments"] (spAk CM CW) := by
  obtain ⟨UM, mM, fM, fdM, iM, tM, GM, bM⟩ := EM
  obtain ⟨UW, mW, fW, fdW, iW, tW, GW, bW⟩ := EW
  refine F.okX scAk (fun vs H Q E h => ?_) (fun cdv A outer s H vs Q E hr h => ?_)
  · obtain ⟨p, d, x, nm, kd, xs, args, rfl, _⟩ := h
    rfl
  obtain ⟨p, d, x, nm, k, xs, args, rfl, hp, hx, hnm, hd, hav, q1, q2, q3⟩ := h
  have nd := scAk.nd
  have hu := hu_of hr
  refine ⟨_, pss_cons (ps_set (i := 2) nd rfl (.inl rfl) (pe_ix ix_tup (pv 0) pe_int (fun _ _ => rfl)))
    (pss_cons (ps_if (pt_cmp (pc_dnotin hu (pv 2) (pv 1))) (pss_one (ps_raise rfl (takes_of rfl rfl rfl rfl) (pmk_oex (k := 1) UM iM tM GM hr bM .nil passL rfl mM (pa_cons (pv 2) pa_nil)))) pss_nil)
    (pss_cons (ps_set (i := 3) nd rfl (.inl rfl) (pe_dget hu (pv 1) (pv 2) (fun _ _ => rfl)))
    (pss_cons (ps_set (i := 4) nd rfl (.inl rfl) (pe_ifExp (pt_val (pe_callB call_isi (by rfl) mi (by decide +kernel) (pa_cons (pv 3) (pa_cons (pe_bltn (v := .ty "str") (by rfl) ms (by decide +kernel) rfl) pa_nil)))) pe_str pe_str))
    (pss_cons (ps_if (pt_cmpR op_notIn_seq (pe_ix ix_kdict (pe_glob rfl A1.g (v := .ref kd) rfl) (pe_ix ix_tup (pv 0) pe_int (fun _ _ => rfl)) (fun _ _ => rfl)) (pe_tup (pa_cons pe_str (pa_cons (pv 4) pa_nil))) (by rfl)) (pss_one (ps_raise rfl (takes_of rfl rfl rfl rfl) (pmk_oex (k := 1) UW iW tW GW hr bW .nil passL rfl mW (pa_cons (pv 2) pa_nil)))) pss_nil)
    (pss_one (ps_ret (pv 3))))))), ?_⟩
  obtain ⟨tk, hkind⟩ : ∃ tk, PySem.W.nsIn K kd x = some (some (.str k tk)) := by
    rcases hx with ⟨rfl, rfl⟩ | ⟨rfl, rfl⟩ | ⟨rfl, rfl⟩
    · exact A1.k1
    · exact A1.k2
    · exact A1.k3
  refine ⟨_, rfl, p, _, 1, .str nm, rfl, rfl, .inl (.inl hp), atI_nat (j := 1) rfl, ?_⟩
  refine ⟨_, rfl, _, rfl, d, _, rfl, DGet.k (k := Sum.inr nm) hd, _, rfl, ?_⟩
  rw [val_akv]
  cases hv : aval args nm with
  | none =>
    refine iteT ⟨_, rfl, by show 1 ≤ 1000; decide, fun e he => ⟨e, nm, rfl, hnm, upd_same, fun dx hdx hne => ⟨rfl, dx, _, upd_same, by rw [upd_ne hne]; exact upd_same, (upd_none hdx), ?_⟩⟩⟩
    have hdxH : H dx = none := upd_none hdx
    refine q2 hv dx _ hdxH (fun b o hb => ?_) upd_same
    have b1 : b ≠ dx := ne_of_none hb hdxH
    have b2 : b ≠ e := ne_of_none hb he
    rw [upd_ne b1, del_ne b2, upd_ne b2, upd_ne b1, upd_ne b2]
    exact hb
  | some v =>
    have hvo := hav v hv
    have hg : DGet H d (.str nm) (some v) := by
      rw [← hv, ← val_akv]
      exact DGet.k (k := Sum.inr nm) hd
    refine iteF ⟨_, rfl, _, rfl, d, v, rfl, hg, ?_⟩
    have vOk : ∀ Q' : VK, Q' (.str (vkind v)) H → tIf (tTest (tCB (rIsi K) (tCons (tVar 3) (tCons (tC (.ty "str")) tNil)))) (tC (.str "text")) (tC (.str "number")) [some (.ref p), some (.ref d), some (.str nm), some v, none] H Q' := by
      intro Q' q'
      rcases hvo with ⟨t, rfl, _⟩ | ⟨i, rfl, _⟩
      · refine ⟨_, rfl, .str t, .ty "str", .type "str", .type "str", true, rfl, .ty "str", .base (.str t), rfl, true, rfl, ?_⟩
        exact q'
      · refine ⟨_, rfl, .int i, .ty "str", .type "int", .type "str", false, rfl, .ty "str", .base (.int i), kit_ty (by decide +kernel), false, rfl, ?_⟩
        exact q'
    refine vOk _ ?_
    refine ⟨_, rfl, p, _, 0, .str x, rfl, rfl, .inl (.inl hp), atI_nat (j := 0) rfl, kd, x, .str k, rfl, rfl, ⟨es, n, _, A1.d.at_, A1.d.lit, hkind, ⟨tk, rfl⟩⟩, ?_⟩
    refine ⟨_, rfl, by show 2 ≤ sizeLine; decide, fun tt htt => ⟨tt, _, rfl, .inr (.inl (.inl upd_same)), rfl, rfl, _, rfl, ?_⟩⟩
    have s1 : Same H (upd H tt (.tup [.str "any", .str (vkind v)])) := same_new htt _
    show (if (!inV (V.str k) [.str "any", .str (vkind v)]) = true then _ else _)
    rw [in_two]
    by_cases c : kOk k v
    · rw [show (!decide (k = Str.ofString "any" ∨ k = vkind v)) = false by rw [decide_eq_true (show k = Str.ofString "any" ∨ k = vkind v from c)]; rfl]
      exact iteF ⟨_, rfl, q1 v hv c _ s1⟩
    · rw [show (!decide (k = Str.ofString "any" ∨ k = vkind v)) = true by rw [decide_eq_false (show ¬ (k = Str.ofString "any" ∨ k = vkind v) from c)]; rfl]
      refine iteT ⟨_, rfl, by show 1 ≤ 1000; decide, fun e he => ⟨e, nm, rfl, hnm, upd_same, fun dx hdx hne => ⟨rfl, dx, _, upd_same, by rw [upd_ne hne]; exact upd_same, (upd_none hdx), ?_⟩⟩⟩
      have hdxH : H dx = none := s1.free (upd_none hdx)
      have heH : H e = none := s1.free he
      refine q3 v hv c dx _ hdxH (fun b o hb => ?_) upd_same
      have b1 : b ≠ dx := ne_of_none hb hdxH
      have b2 : b ≠ e := ne_of_none hb heH
      rw [upd_ne b1, del_ne b2, upd_ne b2, upd_ne b1, upd_ne b2]
      exact s1 _ _ hb
end
end Mw

namespace Mw
open PySem L2
inductive R where
  | ok (s : Str)
  | mis (n : Str)
  | wr (n : Str)
def R.cat : R → R → R
  | .ok s, .ok t => .ok (s ++ t)
  | .ok _, r => r
  | r, _ => r
def nt : Option Int → Str
  | some i => toString i
  | none => ""
mutual
def ev (rs : List Rule) (args : Av) : T → Option Int → R
  | .nil, _ => .ok ""
  | .text s r, l => (R.ok s).cat (ev rs args r l)
  | .shw n r, l => (match aval args n with | none => R.mis n | some v => .ok (vt v 0)).cat (ev rs args r l)
  | .num r, l => (R.ok (nt l)).cat (ev rs args r l)
  | .cho hd cs o r, l => (match hd with
      | [_, .str n] => match aval args n with
        | none => R.mis n
        | some (.str s) => (evc rs args cs (.str s) l).getD (ev rs args o l)
        | some _ => .wr n
      | [_, .str n, .int off] => match aval args n with
        | none => R.mis n
        | some (.int i) => (evc rs args cs (.int i) (some (i - off))).getD ((evc rs args cs (.str (catN rs (i - off))) (some (i - off))).getD (ev rs args o (some (i - off))))
        | some _ => .wr n
      | _ => .ok "").cat (ev rs args r l)
  | .cas _ _ _, _ => .ok ""
def evc (rs : List Rule) (args : Av) : T → V → Option Int → Option R
  | .cas k m r, key, l => if k = key then some (ev rs args m l) else evc rs args r key l
  | _, _, _ => none
end
theorem evc_fcs (rs : List Rule) (args : Av) (key : V) (l : Option Int) : ∀ cs : T, evc rs args cs key l = (fcs cs key).map fun m => ev rs args m l
  | .nil => by simp [evc, fcs]
  | .text _ _ => by simp [evc, fcs]
  | .shw _ _ => by simp [evc, fcs]
  | .num _ => by simp [evc, fcs]
  | .cho _ _ _ _ => by simp [evc, fcs]
  | .cas k m r => by
    rw [evc, fcs]
    split
    · rfl
    · exact evc_fcs rs args key l r
end Mw

namespace Mw
open PySem L2
theorem str_unit (s : Str) : s ++ ("" : Str) = s := TL.ext_tl (by rw [TL.tl_append]; exact List.append_nil _)
theorem R.cat_unit : ∀ r : R, r.cat (.ok "") = r
  | .ok s => congrArg R.ok (str_unit s)
  | .mis _ => rfl
  | .wr _ => rfl
theorem str_assoc (a b c : Str) : a ++ b ++ c = a ++ (b ++ c) := TL.ext_tl (by simp only [TL.tl_append, List.append_assoc])
theorem R.cat_assoc : ∀ a b c : R, (a.cat b).cat c = a.cat (b.cat c)
  | .ok a, .ok b, .ok c => congrArg R.ok (str_assoc a b c)
  | .ok _, .ok _, .mis _ => rfl
  | .ok _, .ok _, .wr _ => rfl
  | .ok _, .mis _, _ => rfl
  | .ok _, .wr _, _ => rfl
  | .mis _, _, _ => rfl
  | .wr _, _, _ => rfl
def onum : Option Int → V
  | some i => .int i
  | none => .non
def AvsOk (args : Av) : Prop := ∀ n v, aval args n = some v → AvOk v
def GS (e : T × Option Int) : Prop := ∃ d i, Gd e.1 false d i ∧ e.1.single ∧ (i = true → ∃ x, e.2 = some x ∧ x.natAbs < 10 ^ 21)
theorem name4_len {n : Str} (h : n ∈ names4) : n.length ≤ 100 := by
  have a : ∀ s ∈ names4, s.length ≤ 100 := by decide +kernel
  exact a n h
/-- what a call that may raise gives: R -/
def Out (CM CW : Addr) (H : Hp) (Q : VK) (E : XK) (r : R) : Prop := (∀ s, r = .ok s → ∀ H', Same H H' → Q (.str s) H') ∧
  (∀ n, r = .mis n → ∀ dx H', H dx = none → Same H H' → H' dx = some (.xd [("name", .str n)]) → E (.ref CM) (some dx) H') ∧
  (∀ n, r = .wr n → ∀ dx H', H dx = none → Same H H' → H' dx = some (.xd [("name", .str n)]) → E (.ref CW) (some dx) H')
abbrev sTl : Stmt := top 23
theorem scTl : FnScope ["node", "number", "arguments"] ["node", "number", "arguments"] (defScope sTl) := ⟨rfl, rfl, rfl, by decide +kernel, rfl, by decide +kernel, by decide +kernel⟩
def spTl (CM CW : Addr) : Sp := fun vs H Q E => ∃ (v : V) (d : Addr) (u : T) (l : Option Int) (args : Av) (rs : List Rule), vs = [v, onum l, .ref d] ∧ Nodes H u [v] ∧ GS (u, l) ∧ u.isCho = false ∧ H d = some (.dK (akv args)) ∧ AvsOk args ∧ Out CM CW H Q E (ev rs args u l)
section
variable {P : Program} {w : World} {K : PySem.W.Frag} {mg : Str → Option Value} {base : Heap}
theorem ok_tl {f fA fX fG CM CW : Addr} {fd fdA fdX fdG : FuncData} (F : Fun K "text_of_leaf" "text_of_leaf" sTl f fd)
    (GA : FnOk P w K mg base (L2.CX P w) 3 fA fdA ["node", "arguments"] (spAk CM CW)) (bA : Binds K fdA ["node", "arguments"] []) (kA : PySem.W.keepIn K (.ref fA) = true) (mA : mg "asked_argument" = some (.ref fA))
    (GX : FnOk P w K mg base CX0 2 fX fdX ["argument", "offset"] spTx) (bX : Binds K fdX ["argument", "offset"] []) (kX : PySem.W.keepIn K (.ref fX) = true) (mX : mg "text_of" = some (.ref fX))
    (GG : FnOk P w K mg base CX0 1 fG fdG ["number"] spFg) (bG : Binds K fdG ["number"] []) (kG : PySem.W.keepIn K (.ref fG) = true) (mG : mg "figures_of" = some (.ref fG)) :
    FnOk P w K mg base (L2.CX P w) 4 f fd ["node", "number", "arguments"] (spTl CM CW) := by
  refine F.okX scTl (fun vs H Q E h => ?_) (fun cdv A outer s H vs Q E hr h => ?_)
  · obtain ⟨v, d, u, l, args, rs, rfl, _⟩ := h
    rfl
  obtain ⟨v, d, u, l, args, rs, rfl, hv, ⟨dp, i, hg, hs, hi⟩, hc, hd, hav, q1, q2, q3⟩ := h
  have nd := scTl.nd
  refine ⟨_, pss_cons (ps_if (pt_cmpR op_eq (pe_ix ix_tup (pv 0) pe_int (fun _ _ => rfl)) pe_str (nomark _)) (pss_one (ps_ret (pe_ix ix_tup (pv 0) pe_int (fun _ _ => rfl)))) pss_nil)
    (pss_cons (ps_if (pt_cmpR op_eq (pe_ix ix_tup (pv 0) pe_int (fun _ _ => rfl)) pe_str (nomark _)) (pss_one (ps_ret (pe_call GG (hr.mono (by decide)) rfl mG kG bG .nil pass0 (pa_cons (pv 1) pa_nil)))) pss_nil)
    (pss_one (ps_ret (pe_call GX (hr.mono (by decide)) rfl mX kX bX .nil pass0 (pa_cons (pe_call GA hr rfl mA kA bA .nil (passes_call (takes_of rfl rfl rfl rfl) (fun _ _ _ _ h => h)) (pa_cons (pv 0) (pa_cons (pv 2) pa_nil))) (pa_cons pe_int pa_nil)))))), ?_⟩
  cases u with
  | nil => cases hs
  | cho hd' cs o r => cases hc
  | cas k m r => cases hg.1
  | text x r =>
    cases (show r = .nil from hs)
    obtain ⟨p, ws, e, hp, _⟩ := hv
    cases e
    refine ⟨_, rfl, p, _, 0, .str "text", rfl, rfl, .inl (.inl hp), atI_nat (j := 0) rfl, rfl, _, rfl, ?_⟩
    refine iteT ⟨_, rfl, p, _, 1, .str x, rfl, rfl, .inl (.inl hp), atI_nat (j := 1) rfl, ?_⟩
    exact q1 x (by simp [ev, R.cat_unit]) H (Same.refl _)
  | num r =>
    cases (show r = .nil from hs)
    obtain ⟨p, ws, e, hp, _⟩ := hv
    cases e
    obtain ⟨x, hx, hb⟩ := hi hg.2.1
    have hx : l = some x := hx
    subst hx
    refine ⟨_, rfl, p, _, 0, .str "number", rfl, rfl, .inl (.inl hp), atI_nat (j := 0) rfl, rfl, _, rfl, ?_⟩
    refine iteF ⟨_, rfl, p, _, 0, .str "number", rfl, rfl, .inl (.inl hp), atI_nat (j := 0) rfl, rfl, _, rfl, ?_⟩
    refine iteT ⟨_, rfl, x, rfl, Nat.lt_trans hb (by decide), fun H' s' => q1 _ ?_ H' s'⟩
    simp [ev, R.cat_unit, nt]
  | shw n r =>
    cases (show r = .nil from hs)
    obtain ⟨p, ws, e, hp, _⟩ := hv
    cases e
    refine ⟨_, rfl, p, _, 0, .str "show", rfl, rfl, .inl (.inl hp), atI_nat (j := 0) rfl, rfl, _, rfl, ?_⟩
    refine iteF ⟨_, rfl, p, _, 0, .str "show", rfl, rfl, .inl (.inl hp), atI_nat (j := 0) rfl, rfl, _, rfl, ?_⟩
    refine iteF ⟨_, rfl, _, rfl, p, d, "show", n, "any", [], args, rfl, hp, .inl ⟨rfl, rfl⟩, name4_len hg.2.1, hd, hav n, fun v hv _ H' s' => ?_, fun hv dx H' h1 h2 h3 => ?_, fun v hv hn => absurd (.inl rfl) hn⟩
    · refine ⟨v, 0, rfl, hav n v hv, by decide, by decide, fun H2 s2 => ?_⟩
      exact q1 _ (by simp [ev, hv, R.cat_unit]) H2 (s'.trans s2)
    · exact q2 n (by simp [ev, hv, R.cat]) dx H' h1 h2 h3
end
end Mw

namespace Mw
open PySem L2
theorem key_w {k : V} {ks : List V} (h : k ∈ ks) (hk : (∃ l : List V, ks.Sublist l ∧ ∀ x ∈ l, KeyW x)) : KeyW k := by
  obtain ⟨l, h1, h2⟩ := hk
  exact h2 k (h1.subset h)
theorem hd_keys {hd : List V} {i j : Bool} {ks : List V} (h : HdOk hd i j ks) : HdW hd ∧ ∀ k ∈ ks, KeyW k := by
  have sk : ∀ x ∈ skeys, KeyW x := fun x hx => by
    obtain ⟨s, _, rfl⟩ := List.mem_map.mp hx
    exact .inl ⟨s, rfl⟩
  have pk : ∀ x ∈ pkeys, KeyW x := fun x hx => by
    rcases List.mem_append.mp hx with hx | hx
    · obtain ⟨s, _, rfl⟩ := List.mem_map.mp hx
      exact .inr ⟨s, rfl⟩
    · obtain ⟨s, _, rfl⟩ := List.mem_map.mp hx
      exact .inl ⟨s, rfl⟩
  cases h with
  | sel hn hk => exact ⟨.inl ⟨_, rfl⟩, fun k hm => sk k (hk.subset hm)⟩
  | plu hn ho hk =>
    refine ⟨.inr ⟨_, _, rfl⟩, fun k hm => ?_⟩
    rcases hk with hk | hk
    · exact pk k (hk.subset hm)
    · exact pk k (List.mem_reverse.mp (hk.subset hm))
theorem Gd.nk {t : T} {d : Nat} {i : Bool} (g : Gd t false d i) : ∀ k ∈ t.keys, KeyW k := by
  intro k hk
  cases t with
  | cas a b c => exact absurd g.1 (by decide)
  | _ => cases hk
theorem Gd.wf : ∀ {t : T} {c : Bool} {d : Nat} {i : Bool}, Gd t c d i → (∀ k ∈ t.keys, KeyW k) → Wf t c
  | .nil, _, _, _, _, _ => trivial
  | .text _ r, _, _, _, g, _ => by
    obtain ⟨rfl, _, _, g⟩ := g
    exact ⟨rfl, g.wf g.nk⟩
  | .shw _ r, _, _, _, g, _ => by
    obtain ⟨rfl, _, g⟩ := g
    exact ⟨rfl, g.wf g.nk⟩
  | .num r, _, _, _, g, _ => by
    obtain ⟨rfl, _, g⟩ := g
    exact ⟨rfl, g.wf g.nk⟩
  | .cho hd cs o r, _, _, _, g, _ => by
    obtain ⟨rfl, ⟨e, j, rfl, h, g1, g2⟩, g⟩ := g
    exact ⟨rfl, (hd_keys h).1, g1.wf (hd_keys h).2, g2.wf g2.nk, g.wf g.nk⟩
  | .cas k m r, _, _, _, g, hk => by
    obtain ⟨rfl, g1, g⟩ := g
    exact ⟨rfl, hk k List.mem_cons_self, g1.wf g1.nk, g.wf fun k' h => hk k' (List.mem_cons_of_mem _ h)⟩
theorem Gd.wfm {t : T} {d : Nat} {i : Bool} (g : Gd t false d i) : Wf t false := g.wf g.nk
theorem fcs_gd {d : Nat} {i : Bool} {key : V} {m : T} : ∀ {cs : T}, Gd cs true d i → fcs cs key = some m → Gd m false d i ∧ m.sz < cs.sz
  | .nil, _, h => by cases h
  | .text _ _, g, _ => by cases g.1
  | .shw _ _, g, _ => by cases g.1
  | .num _, g, _ => by cases g.1
  | .cho _ _ _ _, g, _ => by cases g.1
  | .cas k n r, g, h => by
    have h : (if k = key then some n else fcs r key) = some m := h
    split at h
    · cases h
      exact ⟨g.2.1, by simp only [T.sz]; omega⟩
    · obtain ⟨h1, h2⟩ := fcs_gd g.2.2 h
      exact ⟨h1, by simp only [T.sz]; omega⟩
theorem chS_gd {d : Nat} {i : Bool} {cs o : T} {s : Str} (g : Gd cs true d i) (go : Gd o false d i) : Gd (chS cs o s) false d i ∧ (chS cs o s).sz ≤ cs.sz + o.sz := by
  unfold chS
  cases h : fcs cs (.str s) with
  | none => exact ⟨go, by show o.sz ≤ _; omega⟩
  | some m =>
    obtain ⟨h1, h2⟩ := fcs_gd g h
    exact ⟨h1, by show m.sz ≤ _; omega⟩
theorem chP_gd {d : Nat} {j : Bool} {cs o : T} {rs : List Rule} {i off : Int} (g : Gd cs true d j) (go : Gd o false d j) : Gd (chP cs o rs i off) false d j ∧ (chP cs o rs i off).sz ≤ cs.sz + o.sz := by
  unfold chP
  cases h : fcs cs (.int i) with
  | some m =>
    obtain ⟨h1, h2⟩ := fcs_gd g h
    exact ⟨h1, by show m.sz ≤ _; omega⟩
  | none =>
    cases h : fcs cs (.str (catN rs (i - off))) with
    | none => exact ⟨go, by show o.sz ≤ _; omega⟩
    | some m =>
      obtain ⟨h1, h2⟩ := fcs_gd g h
      exact ⟨h1, by show m.sz ≤ _; omega⟩
def evs (rs : List Rule) (args : Av) (st : List (T × Option Int)) : R := st.foldr (fun e acc => (ev rs args e.1 e.2).cat acc) (.ok "")
theorem evs_app (rs : List Rule) (args : Av) (ys : List (T × Option Int)) : ∀ xs, evs rs args (xs ++ ys) = (evs rs args xs).cat (evs rs args ys)
  | [] => by
    show evs rs args ys = (R.ok "").cat (evs rs args ys)
    cases evs rs args ys with
    | ok s => exact congrArg R.ok (TL.ext_tl (by rw [TL.tl_append]; rfl))
    | mis n => rfl
    | wr n => rfl
  | x :: xs => by
    show (ev rs args x.1 x.2).cat (evs rs args (xs ++ ys)) = ((ev rs args x.1 x.2).cat (evs rs args xs)).cat _
    rw [evs_app rs args ys xs, R.cat_assoc]
theorem ev_nodes (rs : List Rule) (args : Av) (l : Option Int) : ∀ {t : T} {d : Nat} {i : Bool}, Gd t false d i → ev rs args t l = evs rs args (t.nodes.map fun u => (u, l))
  | .nil, _, _, _ => by simp [ev, T.nodes, evs]
  | .text s r, _, _, g => by
    have h := ev_nodes rs args l g.2.2.2
    simp only [T.nodes, List.map_cons, evs, List.foldr_cons] at h ⊢
    rw [← h]
    simp [ev, R.cat_unit]
  | .shw n r, _, _, g => by
    have h := ev_nodes rs args l g.2.2
    simp only [T.nodes, List.map_cons, evs, List.foldr_cons] at h ⊢
    rw [← h]
    simp [ev, R.cat_unit]
  | .num r, _, _, g => by
    have h := ev_nodes rs args l g.2.2
    simp only [T.nodes, List.map_cons, evs, List.foldr_cons] at h ⊢
    rw [← h]
    simp [ev, R.cat_unit]
  | .cho hd cs o r, _, _, g => by
    have h := ev_nodes rs args l g.2.2
    simp only [T.nodes, List.map_cons, evs, List.foldr_cons] at h ⊢
    rw [← h]
    simp only [ev, R.cat_unit]
  | .cas _ _ _, _, _, g => by cases g.1
theorem ev_sel {rs : List Rule} {args : Av} {l : Option Int} {x : V} {n s : Str} {cs o : T} (h : aval args n = some (.str s)) : ev rs args (.cho [x, .str n] cs o .nil) l = ev rs args (chS cs o s) l := by
  simp only [ev, h, R.cat_unit, evc_fcs, chS]
  cases fcs cs (.str s) <;> rfl
theorem ev_plu {rs : List Rule} {args : Av} {l : Option Int} {x : V} {n : Str} {i off : Int} {cs o : T} (h : aval args n = some (.int i)) : ev rs args (.cho [x, .str n, .int off] cs o .nil) l = ev rs args (chP cs o rs i off) (some (i - off)) := by
  simp only [ev, h, R.cat_unit, evc_fcs, chP]
  cases fcs cs (.int i) with
  | some _ => rfl
  | none => cases fcs cs (.str (catN rs (i - off))) <;> rfl
theorem nodes_gd : ∀ {t : T} {d : Nat} {i : Bool}, Gd t false d i → ∀ u ∈ t.nodes, Gd u false d i ∧ u.single
  | .nil, _, _, _, u, h => by cases h
  | .text s r, _, _, g, u, h => by
    rcases List.mem_cons.mp h with rfl | h
    · exact ⟨⟨rfl, g.2.1, rfl, trivial⟩, rfl⟩
    · exact nodes_gd g.2.2.2 u h
  | .shw s r, _, _, g, u, h => by
    rcases List.mem_cons.mp h with rfl | h
    · exact ⟨⟨rfl, g.2.1, trivial⟩, rfl⟩
    · exact nodes_gd g.2.2 u h
  | .num r, _, _, g, u, h => by
    rcases List.mem_cons.mp h with rfl | h
    · exact ⟨⟨rfl, g.2.1, trivial⟩, rfl⟩
    · exact nodes_gd g.2.2 u h
  | .cho hd cs o r, _, _, g, u, h => by
    rcases List.mem_cons.mp h with rfl | h
    · exact ⟨⟨rfl, g.2.1, trivial⟩, rfl⟩
    · exact nodes_gd g.2.2 u h
  | .cas _ _ _, _, _, g, _, _ => by cases g.1
def szS (st : List (T × Option Int)) : Nat := (st.map fun e => e.1.sz).sum
theorem szS_app (a b : List (T × Option Int)) : szS (a ++ b) = szS a + szS b := by
  unfold szS
  rw [List.map_append, List.sum_append]
theorem szS_nodes (l : Option Int) : ∀ t : T, szS (t.nodes.map fun u => (u, l)) = t.sz
  | .nil => rfl
  | .text s r => by have := szS_nodes l r; simp only [szS, T.nodes, T.sz, List.map_cons, List.sum_cons] at *; omega
  | .shw s r => by have := szS_nodes l r; simp only [szS, T.nodes, T.sz, List.map_cons, List.sum_cons] at *; omega
  | .num r => by have := szS_nodes l r; simp only [szS, T.nodes, T.sz, List.map_cons, List.sum_cons] at *; omega
  | .cho _ cs o r => by have := szS_nodes l r; simp only [szS, T.nodes, T.sz, List.map_cons, List.sum_cons] at *; omega
  | .cas _ m r => by have := szS_nodes l r; simp only [szS, T.nodes, T.sz, List.map_cons, List.sum_cons] at *; omega
theorem len_nodes : ∀ t : T, t.nodes.length ≤ t.sz
  | .nil => Nat.le_refl _
  | .text s r => by have := len_nodes r; simp only [T.nodes, T.sz, List.length_cons] at *; omega
  | .shw s r => by have := len_nodes r; simp only [T.nodes, T.sz, List.length_cons] at *; omega
  | .num r => by have := len_nodes r; simp only [T.nodes, T.sz, List.length_cons] at *; omega
  | .cho _ cs o r => by have := len_nodes r; simp only [T.nodes, T.sz, List.length_cons] at *; omega
  | .cas _ m r => by have := len_nodes r; simp only [T.nodes, T.sz, List.length_cons] at *; omega
end Mw

namespace Mw
open PySem L2
def Tk (H H' : Hp) : Prop := ∀ b xs, H b = some (.tup xs) → H' b = some (.tup xs)
theorem Tk.of {H H' : Hp} (s : Same H H') : Tk H H' := fun b xs h => s b _ h
theorem Tk.trans {H H1 H2 : Hp} (a : Tk H H1) (b : Tk H1 H2) : Tk H H2 := fun c xs h => b c xs (a c xs h)
theorem Tk.lst {H : Hp} {l : Addr} {xs ys : List V} (h : H l = some (.lst xs)) : Tk H (upd H l (.lst ys)) := fun b zs hb => by
  rw [upd_ne (fun e => by rw [e, h] at hb; cases hb)]
  exact hb
abbrev En := T × Option Int
def SAt (H0 H : Hp) (e : En) (v : V) : Prop := ∃ p np, v = .ref p ∧ H p = some (.tup [.ref np, onum e.2]) ∧ Nodes H0 e.1 [.ref np]
theorem SAt.mono {H0 H H' : Hp} (k : Tk H H') (e : En) (v : V) (h : SAt H0 H e v) : SAt H0 H' e v := by
  obtain ⟨p, np, rfl, h1, h2⟩ := h
  exact ⟨p, np, rfl, k _ _ h1, h2⟩
theorem A2.unsnoc {α : Type} {R : α → V → Prop} {x : α} : ∀ {xs : List α} {vs : List V}, A2 R (xs ++ [x]) vs → ∃ ws v, vs = ws ++ [v] ∧ A2 R xs ws ∧ R x v
  | [], _, e => by
    obtain ⟨v, ws, rfl, h1, h2⟩ := e
    rw [show ws = [] from h2]
    exact ⟨[], v, rfl, rfl, h1⟩
  | y :: xs, _, e => by
    obtain ⟨v, ws, rfl, h1, h2⟩ := e
    obtain ⟨us, z, rfl, h3, h4⟩ := A2.unsnoc h2
    exact ⟨v :: us, z, rfl, ⟨v, us, rfl, h1, h3⟩, h4⟩
theorem A2.nil_of {α : Type} {R : α → V → Prop} {vs : List V} (h : A2 R ([] : List α) vs) : vs = [] := h
theorem Ns.rget {H : Hp} {us : List T} {vs : List V} {i : Nat} {v : V} (h : Ns H us vs) (e : vs.reverse[i]? = some v) : ∃ u, us.reverse[i]? = some u ∧ Nodes H u [v] := by
  have hi : i < vs.length := by
    have := get_lt e
    rw [List.length_reverse] at this
    exact this
  rw [List.getElem?_reverse hi] at e
  obtain ⟨u, h1, h2⟩ := h.get e
  have hl := h.length
  refine ⟨u, ?_, h2⟩
  rw [List.getElem?_reverse (by omega), ← hl]
  exact h1
/-- the entries of a message, the last one first -/
def prs (t : T) (l : Option Int) : List En := (t.nodes.map fun u => (u, l)).reverse
theorem prs_take {t : T} {l : Option Int} {i : Nat} {u : T} (h : t.nodes.reverse[i]? = some u) : (prs t l).take (i + 1) = (prs t l).take i ++ [(u, l)] := by
  have e : (prs t l)[i]? = some (u, l) := by
    unfold prs
    rw [← List.map_reverse, List.getElem?_map, h]
    rfl
  rw [List.take_succ, e]
  rfl
theorem prs_len (t : T) (l : Option Int) : (prs t l).length = t.nodes.length := by
  unfold prs
  rw [List.length_reverse, List.length_map]
theorem catS_snoc (acc : List Str) (s : Str) : catS (acc ++ [s]) = catS acc ++ s := by
  refine TL.ext_tl ?_
  rw [TL.tl_append]
  show ((acc ++ [s]).map tl).flatten = (acc.map tl).flatten ++ tl s
  simp
theorem int_len {i : Int} (h : i.natAbs < 10 ^ 30) : (toString i : Str).length ≤ 41 := by
  by_cases c : i < 0
  · rw [← fig_str c, slen]
    have := str_len40 (m := -i) (by omega) (by omega)
    have e : ("-" : Str).length = 1 := by decide +kernel
    omega
  · have := str_len40 (m := i) (by omega) (by omega)
    omega
theorem vt_len {v : V} (h : AvOk v) : (vt v 0).length ≤ 100 := by
  rcases h with ⟨s, rfl, h⟩ | ⟨i, rfl, h⟩
  · exact h
  · have := int_len (i := i - 0) (by
      have e : (10 : Nat) ^ 20 < 10 ^ 30 := by decide
      omega)
    show (toString (i - 0) : Str).length ≤ 100
    omega
theorem leaf_len {rs : List Rule} {args : Av} {u : T} {l : Option Int} {s : Str} (ha : AvsOk args) (g : GS (u, l)) (hc : u.isCho = false) (h : ev rs args u l = .ok s) : s.length ≤ 100 := by
  obtain ⟨d, i, g, hs, hi⟩ := g
  cases u with
  | nil => cases hs
  | cho _ _ _ _ => cases hc
  | cas _ _ _ => cases g.1
  | text x r =>
    cases (show r = .nil from hs)
    simp only [ev, R.cat_unit] at h
    cases h
    have := menu_len g.2.1
    omega
  | num r =>
    cases (show r = .nil from hs)
    obtain ⟨x, hx, hb⟩ := hi g.2.1
    have hx : l = some x := hx
    subst hx
    simp only [ev, R.cat_unit, nt] at h
    cases h
    have := int_len (i := x) (Nat.lt_trans hb (by decide))
    omega
  | shw n r =>
    cases (show r = .nil from hs)
    simp only [ev, R.cat_unit] at h
    cases hv : aval args n with
    | none => rw [hv] at h; cases h
    | some v =>
      rw [hv] at h
      cases h
      exact vt_len (ha n v hv)
theorem sum_len : ∀ {acc : List Str}, (∀ x ∈ acc, x.length ≤ 100) → (acc.map (·.length)).sum ≤ 100 * acc.length
  | [], _ => Nat.le_refl _
  | x :: acc, h => by
    have h1 := h x List.mem_cons_self
    have h2 := sum_len fun y hy => h y (List.mem_cons_of_mem _ hy)
    simp only [List.map_cons, List.sum_cons, List.length_cons]
    omega
theorem sng_sz {u : T} (h : u.single) : 1 ≤ u.sz := by
  cases u with
  | nil => cases h
  | _ => simp only [T.sz]; omega
theorem st_len : ∀ st : List En, (∀ e ∈ st, GS e) → st.length ≤ szS st
  | [], _ => Nat.le_refl _
  | e :: st, h => by
    have h1 := st_len st fun x hx => h x (List.mem_cons_of_mem _ hx)
    obtain ⟨_, _, _, h2, _⟩ := h e List.mem_cons_self
    have h3 := sng_sz h2
    show st.length + 1 ≤ e.1.sz + szS st
    omega
theorem kt_ok {v : V} (h : AvOk v) (k : kOk "text" v) : ∃ s, v = .str s := by
  rcases h with ⟨s, rfl, _⟩ | ⟨i, rfl, _⟩
  · exact ⟨s, rfl⟩
  · exact absurd (show (("text" : Str) = "any" ∨ ("text" : Str) = "number") from k) (by decide +kernel)
theorem kt_no {v : V} (h : AvOk v) (k : ¬ kOk "text" v) : ∃ i, v = .int i := by
  rcases h with ⟨s, rfl, _⟩ | ⟨i, rfl, _⟩
  · exact absurd (.inr rfl) k
  · exact ⟨i, rfl⟩
theorem kn_ok {v : V} (h : AvOk v) (k : kOk "number" v) : ∃ i, v = .int i ∧ i.natAbs < 10 ^ 20 := by
  rcases h with ⟨s, rfl, _⟩ | ⟨i, rfl, h⟩
  · exact absurd (show (("number" : Str) = "any" ∨ ("number" : Str) = "text") from k) (by decide +kernel)
  · exact ⟨i, rfl, h⟩
theorem kn_no {v : V} (h : AvOk v) (k : ¬ kOk "number" v) : ∃ s, v = .str s := by
  rcases h with ⟨s, rfl, _⟩ | ⟨i, rfl, _⟩
  · exact ⟨s, rfl⟩
  · exact absurd (.inr rfl) k
theorem ev_selm {rs : List Rule} {args : Av} {l : Option Int} {x : V} {n : Str} {cs o : T} (h : aval args n = none) : ev rs args (.cho [x, .str n] cs o .nil) l = .mis n := by simp only [ev, h, R.cat_unit]
theorem ev_selw {rs : List Rule} {args : Av} {l : Option Int} {x : V} {n : Str} {i : Int} {cs o : T} (h : aval args n = some (.int i)) : ev rs args (.cho [x, .str n] cs o .nil) l = .wr n := by simp only [ev, h, R.cat_unit]
theorem ev_plum {rs : List Rule} {args : Av} {l : Option Int} {x : V} {n : Str} {off : Int} {cs o : T} (h : aval args n = none) : ev rs args (.cho [x, .str n, .int off] cs o .nil) l = .mis n := by simp only [ev, h, R.cat_unit]
theorem ev_pluw {rs : List Rule} {args : Av} {l : Option Int} {x : V} {n s : Str} {off : Int} {cs o : T} (h : aval args n = some (.str s)) : ev rs args (.cho [x, .str n, .int off] cs o .nil) l = .wr n := by simp only [ev, h, R.cat_unit]
theorem nm_sel {n : Str} (h : n = "w" ∨ n = "kind") : n.length ≤ 100 := by
  have a : ∀ s ∈ (["w", "kind"] : List Str), s.length ≤ 100 := by decide +kernel
  exact a n (by simpa using h)
theorem nm_plu {n : Str} (h : n = "n" ∨ n = "count") : n.length ≤ 100 := by
  have a : ∀ s ∈ (["n", "count"] : List Str), s.length ≤ 100 := by decide +kernel
  exact a n (by simpa using h)
abbrev sSh : Stmt := top 24
abbrev nSh : List Str := ["message", "language", "arguments", "strings", "node", "ahead", "number", "argument", "chosen", "inner"]
theorem scSh : FnScope nSh ["message", "language", "arguments"] (defScope sSh) := ⟨rfl, rfl, rfl, by decide +kernel, rfl, by decide +kernel, by decide +kernel⟩
def spSh (C CM CW : Addr) : Sp := fun vs H Q E => ∃ (a d : Addr) (vl : V) (t : T) (dp : Nat) (rs : List Rule) (args : Av), vs = [.ref a, vl, .ref d] ∧ At H a t ∧ Gd t false dp false ∧ t.sz < 80000 ∧ LanAt C H rs vl ∧ H d = some (.dK (akv args)) ∧ AvsOk args ∧ Out CM CW H Q E (ev rs args t none)
section
variable {P : Program} {w : World} {K : PySem.W.Frag} {mg : Str → Option Value} {base : Heap} {C : Addr}
theorem ok_sh {f fI fL fA fC fS CM CW : Addr} {fd fdI fdL fdA fdC fdS : FuncData} (F : Fun K "shown" "shown" sSh f fd)
    (GI : FnOk P w K mg base CX0 1 fI fdI ["node"] spIs) (bI : Binds K fdI ["node"] []) (kI : PySem.W.keepIn K (.ref fI) = true) (mI : mg "is_choice" = some (.ref fI))
    (GL : FnOk P w K mg base (L2.CX P w) 4 fL fdL ["node", "number", "arguments"] (spTl CM CW)) (bL : Binds K fdL ["node", "number", "arguments"] []) (kL : PySem.W.keepIn K (.ref fL) = true) (mL : mg "text_of_leaf" = some (.ref fL))
    (GA : FnOk P w K mg base (L2.CX P w) 3 fA fdA ["node", "arguments"] (spAk CM CW)) (bA : Binds K fdA ["node", "arguments"] []) (kA : PySem.W.keepIn K (.ref fA) = true) (mA : mg "asked_argument" = some (.ref fA))
    (GC : FnOk P w K mg base CX0 4 fC fdC ["node", "language", "number"] (spCt C)) (bC : Binds K fdC ["node", "language", "number"] []) (kC : PySem.W.keepIn K (.ref fC) = true) (mC : mg "counted" = some (.ref fC))
    (GS' : FnOk P w K mg base CX0 3 fS fdS ["node", "word"] spSd) (bS : Binds K fdS ["node", "word"] []) (kS : PySem.W.keepIn K (.ref fS) = true) (mS : mg "selected" = some (.ref fS)) :
    FnOk P w K mg base (L2.CX P w) 5 f fd ["message", "language", "arguments"] (spSh C CM CW) := by
  refine F.okX scSh (fun vs H Q E h => ?_) (fun cdv A outer s H vs Q E hr h => ?_)
  · obtain ⟨a, d, vl, t, dp, rs, args, rfl, _⟩ := h
    rfl
  obtain ⟨a, d, vl, t, dp, rs, args, rfl, ⟨vs, ha, hn⟩, hg, hz, hL, hd, hav, q1, q2, q3⟩ := h
  have nd := scSh.nd
  refine ⟨_, pss_cons (ps_set (i := 3) nd rfl (.inl rfl) (pe_lst pa_nil))
    (pss_cons (ps_setLc (i := 5) (own := [("node", 4)]) (g := gName 4) (tt := tYes) (te := tTup (tCons (tVar 4) (tCons (tC .non) tNil))) rfl nd rfl rfl (sw_true rfl rfl rfl (by decide +kernel)) (pi_list (pe_revL (pv 0))) (blkOk_by (N := nSh) (sc := defScope sSh) (by decide +kernel))
      (fun _ _ _ _ _ => pg_name (i := 4) nd rfl (.inl rfl)) (fun _ _ _ _ _ => pts_nil) (fun _ _ _ _ _ => pe_tup (pa_cons (pv 4) (pa_cons pe_non pa_nil))))
    (pss_cons (ps_while (passes_of rfl) (pt_truth (pv 5) (by intro _; rfl))
      (pss_cons (ps_asg (pe_bm0 PySem.F.plainAttrs_list PySem.F.slot_list_pop PySem.F.type_list_pop mt_pop (pv 5)) (pg_tup rfl (pgs_cons (pg_name (i := 4) nd rfl (.inl rfl)) (pgs_cons (pg_name (i := 6) nd rfl (.inr rfl)) pgs_nil))))
      (pss_cons (ps_if (pt_not (pt_val (pe_call GI (hr.mono (by decide)) rfl mI kI bI .nil pass0 (pa_cons (pv 4) pa_nil))))
        (pss_cons (ps_expr (pe_bm PySem.F.plainAttrs_list PySem.F.slot_list_append PySem.F.type_list_append mt_append (pv 3) (pa_cons (pe_call GL hr rfl mL kL bL .nil (passes_call (takes_of rfl rfl rfl rfl) (fun _ _ _ _ h => h)) (pa_cons (pv 4) (pa_cons (pv 6) (pa_cons (pv 2) pa_nil)))) pa_nil))) (pss_one ps_continue)) pss_nil)
      (pss_cons (ps_set (i := 7) nd rfl (.inl rfl) (pe_call GA (hr.mono (by decide)) rfl mA kA bA .nil (passes_call (takes_of rfl rfl rfl rfl) (fun _ _ _ _ h => h)) (pa_cons (pv 4) (pa_cons (pv 2) pa_nil))))
      (Evl.pss_cut (ps_if (pt_cmpR op_eq (pe_ix ix_tup (pv 4) pe_int (fun _ _ => rfl)) pe_str (nomark _))
        (pss_cons (ps_set (i := 6) nd rfl (.inr rfl) (pe_op op_sub (pv 7) (pe_ix ix_tup (pv 4) pe_int (fun _ _ => rfl))))
          (pss_one (ps_set (i := 8) nd rfl (.inl rfl) (pe_call GC hr rfl mC kC bC .nil pass0 (pa_cons (pv 4) (pa_cons (pv 1) (pa_cons (pv 7) pa_nil)))))))
        (pss_one (ps_set (i := 8) nd rfl (.inl rfl) (pe_call GS' (hr.mono (by decide)) rfl mS kS bS .nil pass0 (pa_cons (pv 4) (pa_cons (pv 7) pa_nil))))))
      (pss_one (ps_expr (pe_bm PySem.F.plainAttrs_list PySem.F.slot_list_extend PySem.F.type_list_extend mt_extend (pv 5) (pa_cons
        (pe_lc (own := [("inner", 9)]) (g := gName 9) (tt := tYes) (te := tTup (tCons (tVar 9) (tCons (tVar 6) tNil))) rfl nd (pi_list (pe_revL (pv 8))) (blkOk_by (N := nSh) (sc := defScope sSh) (by decide +kernel))
          (fun _ _ _ _ _ => pg_name (i := 9) nd rfl (.inl rfl)) (fun _ _ _ _ _ => pts_nil) (fun _ _ _ _ _ => pe_tup (pa_cons (pv 9) (pa_cons (pv 6) pa_nil)))) pa_nil)))))))))
    (pss_one (ps_ret (pe_join pe_str (pv 3)))))), ?_⟩
  refine ⟨Nat.zero_le _, fun sl hsl => ?_⟩
  have s1 : Same H (upd H sl (.lst [])) := same_new hsl _
  refine ⟨_, rfl, a, vs, rfl, SqL.of (s1 _ _ ha), fun rl hrl => ⟨rl, rfl, ⟨_, SqL.of upd_same⟩, fun al hal => ?_⟩⟩
  have s2 : Same H (upd (upd H sl (.lst [])) rl (.lst vs.reverse)) := s1.trans (same_new hrl _)
  have s3 : Same H (upd (upd (upd H sl (.lst [])) rl (.lst vs.reverse)) al (.lst [])) := s2.trans (same_new hal _)
  have hsr : sl ≠ rl := fun e => by rw [← e, upd_same] at hrl; cases hrl
  have hsa : sl ≠ al := fun e => by rw [← e, upd_ne hsr, upd_same] at hal; cases hal
  have hra : rl ≠ al := fun e => by rw [← e, upd_same] at hal; cases hal
  have hal0 : H al = none := s2.free hal
  have hNs := hn.ns
  have hvl : vs.length = t.nodes.length := hNs.length
  have htl := len_nodes t
  refine lc_list (xs := vs.reverse) (fun j H' => ∃ acc, Same H H' ∧ H' sl = some (.lst []) ∧ H' rl = some (.lst vs.reverse) ∧ H' al = some (.lst acc) ∧ A2 (SAt H H') ((prs t none).take j) acc)
    ⟨[], s3, by rw [upd_ne hsa, upd_ne hsr]; exact upd_same, by rw [upd_ne hra]; exact upd_same, upd_same, rfl⟩ (fun j H' _ ⟨_, _, _, h, _⟩ => SqL.of h) ?_ ?_
  · rintro j x H' hx ⟨acc, s', hs', hr', ha', hA⟩
    obtain ⟨u, hu, hun⟩ := hNs.rget hx
    obtain ⟨np, rfl⟩ := hun.refs x (List.mem_singleton.mpr rfl)
    refine ⟨rfl, _, rfl, by show 2 ≤ sizeLine; decide, fun p hp => ?_⟩
    have e1 : Same H' (upd H' p (.tup [.ref np, .non])) := same_new hp _
    have k1 : upd H' p (.tup [.ref np, .non]) al = some (.lst acc) := e1 _ _ ha'
    have pa : p ≠ al := (ne_of_none ha' hp).symm
    have hl := hA.length
    rw [List.length_take, prs_len] at hl
    refine ⟨acc, k1, sz_line (by omega), acc ++ [.ref p], same_mut (s'.trans e1) hal0 _, by rw [upd_ne hsa]; exact e1 _ _ hs', by rw [upd_ne hra]; exact e1 _ _ hr', upd_same, ?_⟩
    rw [prs_take hu]
    refine A2.snoc (hA.mono (SAt.mono ((Tk.of e1).trans (Tk.lst k1)))) ⟨p, np, rfl, ?_, hun⟩
    rw [upd_ne pa]
    exact upd_same
  rintro H1 ⟨acc1, s4, hsl1, hrl1, hal1, hA1⟩
  have e0 : (prs t none).take vs.reverse.length = prs t none := by
    rw [List.length_reverse, hvl, ← prs_len t none, List.take_length]
  rw [e0] at hA1
  have hsl0 : H sl = none := hsl
  refine ⟨fun m σ H' => ∃ (acc : List Str) (st : List En) (ws : List V) (o4 o6 o7 o8 o9 : Option V), σ = [some (.ref a), some vl, some (.ref d), some (.ref sl), o4, some (.ref al), o6, o7, o8, o9] ∧ Same H H' ∧ H' sl = some (.lst (acc.map V.str)) ∧ H' al = some (.lst ws) ∧ A2 (SAt H H') st.reverse ws ∧ (∀ e ∈ st, GS e) ∧
      ev rs args t none = (R.ok (catS acc)).cat (evs rs args st) ∧ acc.length + szS st ≤ t.sz ∧ (∀ x ∈ acc, x.length ≤ 100) ∧ m = szS st,
    ⟨_, [], t.nodes.map (fun u => (u, none)), acc1, none, none, none, none, none, rfl, s4, hsl1, hal1, hA1, ?_, ?_, ?_, ?_, rfl⟩, ?_⟩
  · intro e he
    obtain ⟨u, hu, rfl⟩ := List.mem_map.mp he
    obtain ⟨h1, h2⟩ := nodes_gd hg u hu
    exact ⟨dp, false, h1, h2, fun z => by cases z⟩
  · rw [ev_nodes rs args none hg]
    exact (evs_app rs args _ []).trans rfl
  · rw [szS_nodes]
    exact Nat.le_of_eq (Nat.zero_add _)
  · intro x hx
    cases hx
  rintro m σ H' ⟨acc, st, ws, o4, o6, o7, o8, o9, rfl, s', hs', ha', hA, hG, hev, hsz, hlen, rfl⟩
  refine ⟨.ref al, rfl, !ws.isEmpty, .inl ⟨ws, SqL.of ha', rfl⟩, ?_⟩
  cases st with
  | nil =>
    have e : ws = [] := A2.nil_of hA
    subst e
    have hl : (acc.map (·.length)).sum ≤ 100 * acc.length := sum_len hlen
    refine iteF ⟨⟨_, rfl⟩, _, rfl, _, sl, acc, rfl, rfl, .inl (SqL.of hs'), ?_, ?_⟩
    · show (acc.map (·.length)).sum + acc.length * 0 ≤ 16777216
      omega
    · rw [join_cat]
      refine q1 _ ?_ H' s'
      rw [hev]
      exact congrArg R.ok (str_unit _)
  | cons e st =>
    obtain ⟨u, l⟩ := e
    rw [List.reverse_cons] at hA
    obtain ⟨ws', v, rfl, hA', p, np, rfl, hp, hun⟩ := A2.unsnoc hA
    have hT : (!(ws' ++ [V.ref p]).isEmpty) = true := by simp
    rw [hT]
    refine iteT ?_
    have hGe : GS (u, l) := hG _ List.mem_cons_self
    have hGr : ∀ e ∈ st, GS e := fun e he => hG e (List.mem_cons_of_mem _ he)
    have hszu : acc.length + (u.sz + szS st) ≤ t.sz := hsz
    refine ⟨fun σ' H'' => ∃ m', m' < szS ((u, l) :: st) ∧ ∃ (acc : List Str) (st : List En) (ws : List V) (o4 o6 o7 o8 o9 : Option V), σ' = [some (.ref a), some vl, some (.ref d), some (.ref sl), o4, some (.ref al), o6, o7, o8, o9] ∧ Same H H'' ∧ H'' sl = some (.lst (acc.map V.str)) ∧ H'' al = some (.lst ws) ∧ A2 (SAt H H'') st.reverse ws ∧ (∀ e ∈ st, GS e) ∧
      ev rs args t none = (R.ok (catS acc)).cat (evs rs args st) ∧ acc.length + szS st ≤ t.sz ∧ (∀ x ∈ acc, x.length ≤ 100) ∧ m' = szS st, fun σ' H'' z => z, ?_⟩
    refine ⟨.ref al, rfl, .inl ⟨rfl, _, SqL.of ha'⟩, al, _, .ref p, rfl, rfl, ha', by simp, ?_⟩
    rw [List.dropLast_concat]
    have k1 : Tk H' (upd H' al (.lst ws')) := Tk.lst ha'
    have s5 : Same H (upd H' al (.lst ws')) := same_mut s' hal0 _
    have hs5 : upd H' al (.lst ws') sl = some (.lst (acc.map V.str)) := by rw [upd_ne hsa]; exact hs'
    have ha5 : upd H' al (.lst ws') al = some (.lst ws') := upd_same
    have hA5 : A2 (SAt H (upd H' al (.lst ws'))) st.reverse ws' := hA'.mono (SAt.mono k1)
    have hp5 := k1 _ _ hp
    generalize upd H' al (.lst ws') = H5 at s5 hs5 ha5 hA5 hp5 ⊢
    clear k1 hA hA' hp ha' hs' s' hG hsz
    obtain ⟨dp', i', hgu, hsg, hi'⟩ := id hGe
    have uw : Wf u false := hgu.wfm
    refine ⟨p, _, rfl, .inl (.inl hp5), rfl, .ref np, _, rfl, onum l, [], rfl, rfl, ?_⟩
    refine ⟨_, rfl, .ref np, u, rfl, Nodes.same s5 hun, uw, fun H6 s6 => ⟨_, rfl, ?_⟩⟩
    have hev' : ev rs args t none = (R.ok (catS acc)).cat ((ev rs args u l).cat (evs rs args st)) := hev
    cases hu : u.isCho with
    | false =>
      refine iteT ⟨_, rfl, .inl ⟨rfl, _, SqL.of (s6 _ _ hs5)⟩, ?_⟩
      have s56 := s5.trans s6
      refine ⟨_, rfl, _, rfl, _, rfl, .ref np, d, u, l, args, rs, rfl, Nodes.same s56 hun, hGe, hu, s56 _ _ hd, hav, fun x hx H7 s7 => ?_, fun n hx dx H7 h1 s7 h3 => ?_, fun n hx dx H7 h1 s7 h3 => ?_⟩
      · have hx100 := leaf_len hav hGe hu hx
        have s67 := s6.trans s7
        have hs7 := s67 _ _ hs5
        have ha7 := s67 _ _ ha5
        have uz : 1 ≤ u.sz := by
          cases u with
          | nil => cases hsg
          | _ => simp only [T.sz]; omega
        refine ⟨sl, _, _, rfl, rfl, hs7, sz_line (by rw [List.length_map]; omega), ?_⟩
        refine ⟨szS st, ?_, acc ++ [x], st, ws', _, _, o7, o8, o9, rfl, same_mut (s5.trans s67) hsl0 _, ?_, ?_, ?_, hGr, ?_, ?_, ?_, rfl⟩
        · show szS st < u.sz + szS st
          omega
        · rw [upd_same, List.map_append]
          rfl
        · rw [upd_ne hsa.symm]
          exact ha7
        · exact hA5.mono (SAt.mono ((Tk.of s67).trans (Tk.lst hs7)))
        · rw [hev', hx, catS_snoc, ← R.cat_assoc]
          rfl
        · rw [List.length_append]
          show acc.length + 1 + _ ≤ _
          omega
        · intro y hy
          rcases List.mem_append.mp hy with hy | hy
          · exact hlen y hy
          · rw [List.mem_singleton.mp hy]
            exact hx100
      · exact q2 n (by rw [hev', hx]; rfl) dx H7 (s56.free h1) (s56.trans s7) h3
      · exact q3 n (by rw [hev', hx]; rfl) dx H7 (s56.free h1) (s56.trans s7) h3
    | true =>
      refine iteF ?_
      have s56 := s5.trans s6
      cases u with
      | cho hd' cs o r =>
        cases (show r = .nil from hsg)
        obtain ⟨p2, ws2, ca, cvs, oa, ovs, e2, hp2, hca, hcs, hoa, hos, _⟩ := hun
        cases e2
        obtain ⟨_, ⟨e', j, rfl, hk, g1, g2⟩, _⟩ := hgu
        have wcs : Wf cs true := uw.2.2.1
        have hsz2 : acc.length + (1 + cs.sz + o.sz + 0 + szS st) ≤ t.sz := hszu
        obtain ⟨x, nm, kd, xs', ehd, hask, hnm, emis, ewr⟩ : ∃ (x nm kd : Str) (xs' : List V), hd' = .str x :: .str nm :: xs' ∧ askd x kd ∧ nm.length ≤ 100 ∧ (aval args nm = none → ev rs args (.cho hd' cs o .nil) l = .mis nm) ∧ (∀ v, aval args nm = some v → ¬ kOk kd v → ev rs args (.cho hd' cs o .nil) l = .wr nm) := by
          cases hk with
          | sel hn hks => exact ⟨_, _, "text", _, rfl, .inr (.inl ⟨rfl, rfl⟩), nm_sel hn, ev_selm, fun v hv z => by
              obtain ⟨i, rfl⟩ := kt_no (hav _ _ hv) z
              exact ev_selw hv⟩
          | plu hn ho hks => exact ⟨_, _, "number", _, rfl, .inr (.inr ⟨rfl, rfl⟩), nm_plu hn, ev_plum, fun v hv z => by
              obtain ⟨i, rfl⟩ := kn_no (hav _ _ hv) z
              exact ev_pluw hv⟩
        have hp2' : H np = some (.tup (.str x :: .str nm :: (xs' ++ [.ref ca, .ref oa]))) := by rw [hp2, ehd]; rfl
        refine ⟨_, rfl, _, rfl, np, d, x, nm, kd, _, args, rfl, s56 _ _ hp2', hask, hnm, s56 _ _ hd, hav nm, fun v hv hkv H7 s7 => ?_, fun hv dx H7 h1 s7 h3 => ?_, fun v hv hkv dx H7 h1 s7 h3 => ?_⟩
        · have s67 := s6.trans s7
          have sH7 := s5.trans s67
          refine ⟨fun σ H' => ∃ (ch : Addr) (m : T) (l' : Option Int), σ = [some (.ref a), some vl, some (.ref d), some (.ref sl), some (.ref np), some (.ref al), some (onum l'), some v, some (.ref ch), o9] ∧ Same H5 H' ∧ At H ch m ∧ Gd m false e' j ∧ (j = true → ∃ x, l' = some x ∧ x.natAbs < 10 ^ 21) ∧ m.sz ≤ cs.sz + o.sz ∧ ev rs args (.cho hd' cs o .nil) l = ev rs args m l', ?_, ?_⟩
          · refine ⟨_, rfl, np, _, 0, .str x, rfl, rfl, .inl (.inl (sH7 _ _ hp2')), atI_nat (j := 0) rfl, rfl, _, rfl, ?_⟩
            cases hk with
            | sel hn hks =>
              cases ehd
              have hkd : kd = "text" := by
                rcases hask with ⟨z, _⟩ | ⟨_, z⟩ | ⟨z, _⟩
                · exact absurd z (by decide +kernel)
                · exact z
                · exact absurd z (by decide +kernel)
              subst hkd
              obtain ⟨sv, rfl⟩ := kt_ok (hav _ _ hv) hkv
              obtain ⟨c1, c2⟩ := chS_gd (s := sv) g1 g2
              refine iteF ⟨_, rfl, _, rfl, H, np, ca, oa, _, cvs, cs, o, sv, rfl, sH7, hp2, hca, hcs, wcs, ⟨ovs, hoa, hos⟩, fun ch H8 s8 hch => ?_⟩
              exact ⟨ch, _, l, rfl, s67.trans s8, hch, c1, hi', c2, ev_sel hv⟩
            | @plu n off _ _ hn ho hks =>
              cases ehd
              have hkd : kd = "number" := by
                rcases hask with ⟨z, _⟩ | ⟨z, _⟩ | ⟨_, z⟩
                · exact absurd z (by decide +kernel)
                · exact absurd z (by decide +kernel)
                · exact z
              subst hkd
              obtain ⟨iv, rfl, hib⟩ := kn_ok (hav _ _ hv) hkv
              obtain ⟨c1, c2⟩ := chP_gd (rs := rs) (i := iv) (off := off) g1 g2
              refine iteT ⟨_, rfl, _, rfl, np, _, 2, .int off, rfl, rfl, .inl (.inl (sH7 _ _ hp2')), atI_nat (j := 2) rfl, _, _, rfl, rfl, ?_⟩
              refine ⟨_, rfl, _, rfl, _, rfl, H, np, ca, oa, _, off, iv, cvs, cs, o, rs, vl, rfl, sH7, hp2, hca, hcs, wcs, ⟨ovs, hoa, hos⟩, hL.same sH7, fun ch H8 s8 hch => ?_⟩
              refine ⟨ch, _, some (iv - off), rfl, s67.trans s8, hch, c1, fun _ => ⟨_, rfl, ?_⟩, c2, ev_plu hv⟩
              have e : (10 : Nat) ^ 20 + 9 < 10 ^ 21 := by decide
              omega
          rintro σ H8 ⟨ch, m, l', rfl, s58, ⟨mvs, hch, hmn⟩, gm, hm', mz, hevm⟩
          have hs8 := s58 _ _ hs5
          have ha8 := s58 _ _ ha5
          have sH8 := s5.trans s58
          have mNs := hmn.ns
          have hml : mvs.length = m.nodes.length := mNs.length
          have mtl := len_nodes m
          refine ⟨_, rfl, .inl ⟨rfl, _, SqL.of ha8⟩, _, rfl, ch, mvs, rfl, SqL.of (sH8 _ _ hch), fun rl hrl => ⟨rl, rfl, ⟨_, SqL.of upd_same⟩, fun D hD => ?_⟩⟩
          have e1 : Same H8 (upd H8 rl (.lst mvs.reverse)) := same_new hrl _
          have e2 : Same H8 (upd (upd H8 rl (.lst mvs.reverse)) D (.lst [])) := e1.trans (same_new hD _)
          have rD : rl ≠ D := fun e => by rw [← e, upd_same] at hD; cases hD
          have hD0 : H8 D = none := e1.free hD
          refine lc_list (xs := mvs.reverse) (fun i H' => ∃ acc, Same H8 H' ∧ H' rl = some (.lst mvs.reverse) ∧ H' D = some (.lst acc) ∧ A2 (SAt H H') ((prs m l').take i) acc)
            ⟨[], e2, by rw [upd_ne rD]; exact upd_same, upd_same, rfl⟩ (fun i H' _ ⟨_, _, h, _⟩ => SqL.of h) ?_ ?_
          · rintro i y H' hy ⟨ac, s9, hr9, hD9, hA9⟩
            obtain ⟨u, hu, hun⟩ := mNs.rget hy
            obtain ⟨np', rfl⟩ := hun.refs y (List.mem_singleton.mpr rfl)
            refine ⟨rfl, _, rfl, _, rfl, by show 2 ≤ sizeLine; decide, fun p hp => ?_⟩
            have f1 : Same H' (upd H' p (.tup [.ref np', onum l'])) := same_new hp _
            have k1 : upd H' p (.tup [.ref np', onum l']) D = some (.lst ac) := f1 _ _ hD9
            have pD : p ≠ D := (ne_of_none hD9 hp).symm
            have hl := hA9.length
            rw [List.length_take, prs_len] at hl
            refine ⟨ac, k1, sz_line (by omega), ac ++ [.ref p], same_mut (s9.trans f1) hD0 _, by rw [upd_ne rD]; exact f1 _ _ hr9, upd_same, ?_⟩
            rw [prs_take hu]
            refine A2.snoc (hA9.mono (SAt.mono ((Tk.of f1).trans (Tk.lst k1)))) ⟨p, np', rfl, ?_, hun⟩
            rw [upd_ne pD]
            exact upd_same
          · rintro H9 ⟨ac, s9, hr9, hD9, hA9⟩
            have e0 : (prs m l').take mvs.reverse.length = prs m l' := by
              rw [List.length_reverse, hml, ← prs_len m l', List.take_length]
            rw [e0] at hA9
            have aD : al ≠ D := ne_of_none ha8 hD0
            have hw := hA5.length
            have hac := hA9.length
            rw [prs_len] at hac
            have hst := st_len st hGr
            rw [List.length_reverse] at hw
            refine ⟨al, D, ws', ac, rfl, rfl, s9 _ _ ha8, hD9, le_line (by omega), ?_⟩
            refine ⟨szS (m.nodes.map (fun u => (u, l')) ++ st), ?_, acc, m.nodes.map (fun u => (u, l')) ++ st, ws' ++ ac, _, _, _, _, _, rfl, same_mut (sH8.trans s9) hal0 _, ?_, upd_same, ?_, ?_, ?_, ?_, hlen, rfl⟩
            · rw [szS_app, szS_nodes]
              show m.sz + szS st < (1 + cs.sz + o.sz + 0) + szS st
              omega
            · rw [upd_ne hsa]
              exact s9 _ _ hs8
            · rw [List.reverse_append]
              exact A2.app (hA9.mono (SAt.mono (Tk.lst (s9 _ _ ha8)))) (hA5.mono (SAt.mono ((Tk.of (s58.trans s9)).trans (Tk.lst (s9 _ _ ha8)))))
            · intro e he
              rcases List.mem_append.mp he with he | he
              · obtain ⟨u, hu, rfl⟩ := List.mem_map.mp he
                obtain ⟨h1, h2⟩ := nodes_gd gm u hu
                exact ⟨e', j, h1, h2, hm'⟩
              · exact hGr e he
            · rw [hev', hevm, ev_nodes rs args l' gm, evs_app]
            · rw [szS_app, szS_nodes]
              omega
        · exact q2 nm (by rw [hev', emis hv]; rfl) dx H7 (s56.free h1) (s56.trans s7) h3
        · exact q3 nm (by rw [hev', ewr v hv hkv]; rfl) dx H7 (s56.free h1) (s56.trans s7) h3
      | _ => cases hu
end
end Mw

namespace Mw
open PySem L2
def T.dep : T → Nat
  | .nil => 0
  | .text _ r => r.dep
  | .shw _ r => r.dep
  | .num r => r.dep
  | .cho _ cs o r => max (max cs.dep o.dep + 1) r.dep
  | .cas _ m r => max m.dep r.dep
/-! ### a message as plain data: what == and repr look at -/
def vD : V → PyData
  | .str s => .str s
  | .int i => .int i
  | _ => .none
def dat : T → List PyData
  | .nil => []
  | .text s r => .tuple [.str "text", .str s] :: dat r
  | .shw n r => .tuple [.str "show", .str n] :: dat r
  | .num r => .tuple [.str "number"] :: dat r
  | .cho hd cs o r => .tuple (hd.map vD ++ [.list (dat cs), .list (dat o)]) :: dat r
  | .cas k m r => .tuple [vD k, .list (dat m)] :: dat r
/-- small leaves: texts of a few signs, small numbers -/
def VOk : V → Prop
  | .str s => PyData.strOk s = true ∧ (reprText s).length ≤ 12
  | .int i => i = 0 ∨ i = 1 ∨ i = 2 ∨ i = 12
  | _ => False
def SOk : T → Prop
  | .nil => True
  | .text s r => PyData.strOk s = true ∧ SOk r
  | .shw n r => VOk (.str n) ∧ SOk r
  | .num r => SOk r
  | .cho hd cs o r => (∀ v ∈ hd, VOk v) ∧ hd.length ≤ 3 ∧ SOk cs ∧ SOk o ∧ SOk r
  | .cas k m r => VOk k ∧ SOk m ∧ SOk r
theorem dp_flat {K : PySem.W.Frag} {H : Hp} {v : V} (h : VOk v) : Dp K H v (vD v) := by
  cases v with
  | str s => exact .str s
  | int i => exact .int i
  | _ => cases h
theorem dpa_app {K : PySem.W.Frag} {H : Hp} {ys : List V} {es : List PyData} (h' : DpAll K H ys es) : ∀ {xs : List V} {ds : List PyData}, DpAll K H xs ds → DpAll K H (xs ++ ys) (ds ++ es)
  | _, _, .nil => h'
  | _, _, .cons a b => .cons a (dpa_app h' b)
theorem dpa_flat {K : PySem.W.Frag} {H : Hp} : ∀ {hd : List V}, (∀ v ∈ hd, VOk v) → DpAll K H hd (hd.map vD)
  | [], _ => .nil
  | v :: r, h => .cons (dp_flat (h v (by simp))) (dpa_flat fun x hx => h x (List.mem_cons_of_mem _ hx))
theorem Nodes.dp {K : PySem.W.Frag} {H : Hp} : ∀ {t : T} {vs : List V}, Nodes H t vs → SOk t → DpAll K H vs (dat t)
  | .nil, _, h, _ => by rw [show _ = [] from h]; exact .nil
  | .text s r, _, h, w => by
    obtain ⟨p, ws, rfl, hp, hr⟩ := h
    exact .cons (.tup (.inl (.inl hp)) (.cons (.str _) (.cons (.str _) .nil))) (Nodes.dp hr w.2)
  | .shw n r, _, h, w => by
    obtain ⟨p, ws, rfl, hp, hr⟩ := h
    exact .cons (.tup (.inl (.inl hp)) (.cons (.str _) (.cons (.str _) .nil))) (Nodes.dp hr w.2)
  | .num r, _, h, w => by
    obtain ⟨p, ws, rfl, hp, hr⟩ := h
    exact .cons (.tup (.inl (.inl hp)) (.cons (.str _) .nil)) (Nodes.dp hr w)
  | .cho hd cs o r, _, h, w => by
    obtain ⟨p, ws, ca, cvs, oa, ovs, rfl, hp, hc, hcs, ho, hos, hr⟩ := h
    exact .cons (.tup (.inl (.inl hp)) (dpa_app (.cons (.lst (SqL.of hc) (Nodes.dp hcs w.2.2.1)) (.cons (.lst (SqL.of ho) (Nodes.dp hos w.2.2.2.1)) .nil)) (dpa_flat w.1))) (Nodes.dp hr w.2.2.2.2)
  | .cas k m r, _, h, w => by
    obtain ⟨p, ws, ma, mvs, rfl, hp, hm, hms, hr⟩ := h
    exact .cons (.tup (.inl (.inl hp)) (.cons (dp_flat w.1) (.cons (.lst (SqL.of hm) (Nodes.dp hms w.2.1)) .nil))) (Nodes.dp hr w.2.2)
theorem At.dp {K : PySem.W.Frag} {H : Hp} {a : Addr} {t : T} (h : At H a t) (w : SOk t) : Dp K H (.ref a) (.list (dat t)) := by
  obtain ⟨vs, h1, h2⟩ := h
  exact .lst (SqL.of h1) (h2.dp w)
theorem vd_ok {v : V} (h : VOk v) : (vD v).canLay0 = true ∧ (vD v).showable = true ∧ (vD v).hasDict = false ∧ (vD v).depth = 0 ∧ (vD v).shown.length ≤ 12 := by
  cases v with
  | str s =>
    exact ⟨h.1, rfl, rfl, rfl, h.2⟩
  | int i =>
    have hi : ∀ i : Int, i = 0 ∨ i = 1 ∨ i = 2 ∨ i = 12 → (PyData.int i).showable = true ∧ (PyData.int i).shown.length ≤ 12 := by
      rintro i (rfl | rfl | rfl | rfl) <;> exact ⟨by decide +kernel, by decide +kernel⟩
    exact ⟨rfl, (hi i h).1, rfl, rfl, (hi i h).2⟩
  | _ => cases h
theorem hd_ok : ∀ {hd : List V}, (∀ v ∈ hd, VOk v) → PyData.canLayAll0 (hd.map vD) = true ∧ PyData.showableAll (hd.map vD) = true ∧ PyData.hasDictAll (hd.map vD) = false ∧ PyData.depthAll (hd.map vD) = 0
  | [], _ => ⟨rfl, rfl, rfl, rfl⟩
  | v :: r, h => by
    obtain ⟨a1, a2, a3, a4, _⟩ := vd_ok (h v (by simp))
    obtain ⟨b1, b2, b3, b4⟩ := hd_ok (hd := r) fun x hx => h x (List.mem_cons_of_mem _ hx)
    refine ⟨?_, ?_, ?_, ?_⟩
    · simp only [List.map_cons, PyData.canLayAll0, a1, b1, Bool.and_self]
    · simp only [List.map_cons, PyData.showableAll, a2, b2, Bool.and_self]
    · simp only [List.map_cons, PyData.hasDictAll, a3, b3, Bool.or_self]
    · simp only [List.map_cons, PyData.depthAll, a4, b4, Nat.max_self]
theorem cl_app : ∀ (xs ys : List PyData), PyData.canLayAll0 (xs ++ ys) = (PyData.canLayAll0 xs && PyData.canLayAll0 ys)
  | [], _ => rfl
  | x :: xs, ys => by simp only [List.cons_append, PyData.canLayAll0, cl_app xs ys, Bool.and_assoc]
theorem sh_app : ∀ (xs ys : List PyData), PyData.showableAll (xs ++ ys) = (PyData.showableAll xs && PyData.showableAll ys)
  | [], _ => rfl
  | x :: xs, ys => by simp only [List.cons_append, PyData.showableAll, sh_app xs ys, Bool.and_assoc]
theorem hs_app : ∀ (xs ys : List PyData), PyData.hasDictAll (xs ++ ys) = (PyData.hasDictAll xs || PyData.hasDictAll ys)
  | [], _ => rfl
  | x :: xs, ys => by simp only [List.cons_append, PyData.hasDictAll, hs_app xs ys, Bool.or_assoc]
theorem dp_app : ∀ (xs ys : List PyData), PyData.depthAll (xs ++ ys) = max (PyData.depthAll xs) (PyData.depthAll ys)
  | [], _ => by simp [PyData.depthAll]
  | x :: xs, ys => by simp only [List.cons_append, PyData.depthAll, dp_app xs ys, Nat.max_assoc]
theorem sa_app : ∀ (xs ys : List PyData), PyData.shownAll (xs ++ ys) = PyData.shownAll xs ++ PyData.shownAll ys
  | [], _ => rfl
  | x :: xs, ys => by simp only [List.cons_append, PyData.shownAll, sa_app xs ys]
theorem dat_ok : ∀ {t : T}, SOk t → PyData.canLayAll0 (dat t) = true ∧ PyData.showableAll (dat t) = true ∧ PyData.hasDictAll (dat t) = false
  | .nil, _ => ⟨rfl, rfl, rfl⟩
  | .text s r, w => by
    obtain ⟨a1, a2, a3⟩ := dat_ok w.2
    have h : PyData.strOk ("text" : Str) = true := by decide +kernel
    refine ⟨?_, ?_, ?_⟩
    · simp only [dat, PyData.canLayAll0, PyData.canLay0, h, w.1, a1, Bool.and_self]
    · simp only [dat, PyData.showableAll, PyData.showable, a2, Bool.and_self]
    · simp only [dat, PyData.hasDictAll, PyData.hasDict, a3, Bool.or_self]
  | .shw n r, w => by
    obtain ⟨a1, a2, a3⟩ := dat_ok w.2
    have h : PyData.strOk ("show" : Str) = true := by decide +kernel
    have h2 : PyData.strOk n = true := w.1.1
    refine ⟨?_, ?_, ?_⟩
    · simp only [dat, PyData.canLayAll0, PyData.canLay0, h, h2, a1, Bool.and_self]
    · simp only [dat, PyData.showableAll, PyData.showable, a2, Bool.and_self]
    · simp only [dat, PyData.hasDictAll, PyData.hasDict, a3, Bool.or_self]
  | .num r, w => by
    obtain ⟨a1, a2, a3⟩ := dat_ok (t := r) w
    have h : PyData.strOk ("number" : Str) = true := by decide +kernel
    refine ⟨?_, ?_, ?_⟩
    · simp only [dat, PyData.canLayAll0, PyData.canLay0, h, a1, Bool.and_self]
    · simp only [dat, PyData.showableAll, PyData.showable, a2, Bool.and_self]
    · simp only [dat, PyData.hasDictAll, PyData.hasDict, a3, Bool.or_self]
  | .cho hd cs o r, w => by
    obtain ⟨a1, a2, a3⟩ := dat_ok w.2.2.2.2
    obtain ⟨b1, b2, b3⟩ := dat_ok w.2.2.1
    obtain ⟨c1, c2, c3⟩ := dat_ok w.2.2.2.1
    obtain ⟨d1, d2, d3, _⟩ := hd_ok w.1
    refine ⟨?_, ?_, ?_⟩
    · simp only [dat, PyData.canLayAll0, PyData.canLay0, cl_app, a1, b1, c1, d1, Bool.and_self]
    · simp only [dat, PyData.showableAll, PyData.showable, sh_app, a2, b2, c2, d2, Bool.and_self]
    · simp only [dat, PyData.hasDictAll, PyData.hasDict, hs_app, a3, b3, c3, d3, Bool.or_self]
  | .cas k m r, w => by
    obtain ⟨a1, a2, a3⟩ := dat_ok w.2.2
    obtain ⟨b1, b2, b3⟩ := dat_ok w.2.1
    obtain ⟨d1, d2, d3, _⟩ := vd_ok w.1
    refine ⟨?_, ?_, ?_⟩
    · simp only [dat, PyData.canLayAll0, PyData.canLay0, a1, b1, d1, Bool.and_self]
    · simp only [dat, PyData.showableAll, PyData.showable, a2, b2, d2, Bool.and_self]
    · simp only [dat, PyData.hasDictAll, PyData.hasDict, a3, b3, d3, Bool.or_self]
theorem dat_depth : ∀ {t : T} {c : Bool}, Wf t c → SOk t → PyData.depthAll (dat t) ≤ 4 * t.dep + (if c then 3 else 1)
  | .nil, c, _, _ => Nat.zero_le _
  | .text s r, c, w, s' => by
    have hc := w.1
    subst hc
    have h := dat_depth w.2 s'.2
    simp only [dat, PyData.depthAll, PyData.depth, T.dep, Bool.false_eq_true, if_false] at h ⊢
    omega
  | .shw n r, c, w, s' => by
    have hc := w.1
    subst hc
    have h := dat_depth w.2 s'.2
    simp only [dat, PyData.depthAll, PyData.depth, T.dep, Bool.false_eq_true, if_false] at h ⊢
    omega
  | .num r, c, w, s' => by
    have hc := w.1
    subst hc
    have h := dat_depth w.2 (show SOk r from s')
    simp only [dat, PyData.depthAll, PyData.depth, T.dep, Bool.false_eq_true, if_false] at h ⊢
    omega
  | .cho hd cs o r, c, w, s' => by
    have hc := w.1
    subst hc
    have h1 := dat_depth w.2.2.1 s'.2.2.1
    have h2 := dat_depth w.2.2.2.1 s'.2.2.2.1
    have h3 := dat_depth w.2.2.2.2 s'.2.2.2.2
    obtain ⟨_, _, _, h4⟩ := hd_ok s'.1
    simp only [dat, PyData.depthAll, PyData.depth, T.dep, dp_app, h4]
    simp only [if_true, Bool.false_eq_true, if_false] at h1 h2 h3 ⊢
    omega
  | .cas k m r, c, w, s' => by
    have h1 := dat_depth w.2.2.1 s'.2.1
    have h3 := dat_depth w.2.2.2 s'.2.2
    obtain ⟨_, _, _, h4, _⟩ := vd_ok s'.1
    have hc := w.1
    subst hc
    simp only [dat, PyData.depthAll, PyData.depth, T.dep, h4]
    simp only [if_true, Bool.false_eq_true, if_false] at h1 h3 ⊢
    omega
instance (v : V) : Decidable (VOk v) := by
  unfold VOk
  split <;> infer_instance
theorem menu_ok {s : Str} (h : s ∈ menu) : PyData.strOk s = true ∧ s ≠ ("" : Str) := by
  have a : ∀ s ∈ menu, PyData.strOk s = true ∧ s ≠ ("" : Str) := by decide +kernel
  exact a s h
theorem keys_ok : (∀ v ∈ skeys, VOk v ∧ KeyW v) ∧ ∀ v ∈ pkeys, VOk v ∧ KeyW v := by
  have a : (∀ v ∈ skeys, VOk v) ∧ ∀ v ∈ pkeys, VOk v := by decide +kernel
  refine ⟨fun v h => ⟨a.1 v h, ?_⟩, fun v h => ⟨a.2 v h, ?_⟩⟩
  · obtain ⟨s, _, rfl⟩ := List.mem_map.mp h
    exact .inl ⟨s, rfl⟩
  · rcases List.mem_append.mp h with h | h
    · obtain ⟨i, _, rfl⟩ := List.mem_map.mp h
      exact .inr ⟨i, rfl⟩
    · obtain ⟨s, _, rfl⟩ := List.mem_map.mp h
      exact .inl ⟨s, rfl⟩
theorem hdok_all {hd ks : List V} {i j : Bool} (h : HdOk hd i j ks) : HdW hd ∧ (∀ v ∈ hd, VOk v) ∧ hd.length ≤ 3 ∧ ∀ v ∈ ks, VOk v ∧ KeyW v := by
  cases h with
  | @sel n _ _ hn hk =>
    refine ⟨.inl ⟨n, rfl⟩, ?_, by simp, fun v h => keys_ok.1 v (hk.subset h)⟩
    have a : ∀ n : Str, n ∈ (["w", "kind"] : List Str) → ∀ v ∈ [V.str "select", V.str n], VOk v := by decide +kernel
    exact a n (by simpa using hn)
  | @plu n off _ _ hn ho hk =>
    refine ⟨.inr ⟨n, off, rfl⟩, ?_, by simp, fun v h => keys_ok.2 v ?_⟩
    · have a : ∀ n : Str, n ∈ (["n", "count"] : List Str) → ∀ v ∈ [V.str "plural", V.str n], VOk v := by decide +kernel
      intro v hv
      simp only [List.mem_cons, List.not_mem_nil, or_false] at hv
      rcases hv with rfl | rfl | rfl
      · exact a n (by simpa using hn) _ (by simp)
      · exact a n (by simpa using hn) _ (by simp)
      · rcases ho with rfl | rfl | rfl <;> decide +kernel
    · rcases hk with hk | hk
      · exact hk.subset h
      · exact List.mem_reverse.mp (hk.subset h)
theorem Gd.all : ∀ {t : T} {c : Bool} {d : Nat} {i : Bool}, Gd t c d i → (c = true → ∀ v ∈ t.keys, VOk v ∧ KeyW v) → Wf t c ∧ SOk t ∧ t.dep ≤ d
  | .nil, _, _, _, _, _ => ⟨trivial, trivial, Nat.zero_le _⟩
  | .text s r, c, d, i, h, _ => by
    obtain ⟨h1, h2, h3⟩ := Gd.all h.2.2.2 fun e => by rw [h.1] at e; cases e
    exact ⟨⟨h.1, h1⟩, ⟨(menu_ok h.2.1).1, h2⟩, h3⟩
  | .shw n r, c, d, i, h, _ => by
    obtain ⟨h1, h2, h3⟩ := Gd.all h.2.2 fun e => by rw [h.1] at e; cases e
    have a : ∀ n ∈ names4, VOk (.str n) := by decide +kernel
    exact ⟨⟨h.1, h1⟩, ⟨a n h.2.1, h2⟩, h3⟩
  | .num r, c, d, i, h, _ => by
    obtain ⟨h1, h2, h3⟩ := Gd.all h.2.2 fun e => by rw [h.1] at e; cases e
    exact ⟨⟨h.1, h1⟩, h2, h3⟩
  | .cho hd cs o r, c, d, i, h, _ => by
    obtain ⟨e, j, rfl, hh, g1, g2⟩ := h.2.1
    obtain ⟨a1, a2, a3, a4⟩ := hdok_all hh
    obtain ⟨h1, h2, h3⟩ := Gd.all h.2.2 fun e => by rw [h.1] at e; cases e
    obtain ⟨b1, b2, b3⟩ := Gd.all g1 fun _ => a4
    obtain ⟨c1, c2, c3⟩ := Gd.all g2 fun e => by cases e
    refine ⟨⟨h.1, a1, b1, c1, h1⟩, ⟨a2, a3, b2, c2, h2⟩, ?_⟩
    simp only [T.dep]
    omega
  | .cas k m r, c, d, i, h, hk => by
    have hk' := hk h.1
    obtain ⟨h1, h2, h3⟩ := Gd.all h.2.2 fun _ v hv => hk' v (by simp [T.keys, hv])
    obtain ⟨b1, b2, b3⟩ := Gd.all h.2.1 fun e => by cases e
    have hkk := hk' k (by simp [T.keys])
    refine ⟨⟨h.1, hkk.2, b1, h1⟩, ⟨hkk.1, b2, h2⟩, ?_⟩
    simp only [T.dep]
    omega
/-- the builder's messages are in plain form -/
theorem shaped_of {t : T} (hs : SOk t) (hw : Wf t false) (hd : t.dep ≤ 10) : SeqAt.shaped (.list (dat t)) = true := by
  have h4 := dat_depth hw hs
  simp only [Bool.false_eq_true, if_false] at h4
  unfold SeqAt.shaped
  rw [Bool.and_eq_true]
  refine ⟨(dat_ok hs).1, decide_eq_true ?_⟩
  show PyData.depthAll (dat t) + 1 ≤ 64
  omega
end Mw

namespace Mw
open PySem L2
def T.prs : T → List (V × T)
  | .cas k m r => (k, m) :: r.prs
  | _ => []
theorem fcs_prs (key : V) : ∀ cs : T, fcs cs key = (cs.prs.find? fun q => decide (q.1 = key)).map (·.2)
  | .nil => rfl
  | .text _ _ => rfl
  | .shw _ _ => rfl
  | .num _ => rfl
  | .cho _ _ _ _ => rfl
  | .cas k m r => by
    show (if k = key then some m else fcs r key) = _
    rw [show (T.cas k m r).prs = (k, m) :: r.prs from rfl, List.find?_cons]
    by_cases z : k = key
    · simp [z]
    · simp [z, fcs_prs key r]
theorem prs_at {H : Hp} : ∀ {cs : T} {cvs : List V}, Nodes H cs cvs → Wf cs true → cs.prs.length = cvs.length ∧ ∀ (i : Nat) (v : V), cvs[i]? = some v → ∃ (p a : Addr) (q : V × T), v = .ref p ∧ cs.prs[i]? = some q ∧ H p = some (.tup [q.1, .ref a]) ∧ At H a q.2 ∧ KeyI q.1
  | .nil, _, h, _ => ⟨by rw [show _ = [] from h]; rfl, fun i v e => by rw [show _ = [] from h] at e; simp at e⟩
  | .text _ _, _, _, w => by cases w.1
  | .shw _ _, _, _, w => by cases w.1
  | .num _, _, _, w => by cases w.1
  | .cho _ _ _ _, _, _, w => by cases w.1
  | .cas k m r, _, h, w => by
    obtain ⟨p, ws, ma, mvs, rfl, hp, hm, hms, hr⟩ := h
    obtain ⟨e1, e3⟩ := prs_at hr w.2.2.2
    refine ⟨congrArg (· + 1) e1, fun i v e => ?_⟩
    cases i with
    | zero =>
      have : V.ref p = v := by simpa using e
      subst this
      exact ⟨p, ma, (k, m), rfl, rfl, hp, ⟨mvs, hm, hms⟩, w.2.1⟩
    | succ i => exact e3 i v (by simpa using e)
theorem prs_sz : ∀ cs : T, cs.prs.length ≤ cs.sz
  | .nil => Nat.le_refl _
  | .text _ _ => Nat.zero_le _
  | .shw _ _ => Nat.zero_le _
  | .num _ => Nat.zero_le _
  | .cho _ _ _ _ => Nat.zero_le _
  | .cas k m r => by
    have := prs_sz r
    show r.prs.length + 1 ≤ 1 + m.sz + r.sz
    omega
theorem prs_ok : ∀ {cs : T}, SOk cs → Wf cs true → ∀ q ∈ cs.prs, SOk q.2 ∧ Wf q.2 false ∧ q.2.dep ≤ cs.dep
  | .nil, _, _, q, h => by cases h
  | .text _ _, _, _, q, h => by cases h
  | .shw _ _, _, _, q, h => by cases h
  | .num _, _, _, q, h => by cases h
  | .cho _ _ _ _, _, _, q, h => by cases h
  | .cas k m r, s, w, q, h => by
    rcases List.mem_cons.mp h with rfl | h
    · exact ⟨s.2.1, w.2.2.1, by simp only [T.dep]; omega⟩
    · obtain ⟨h1, h2, h3⟩ := prs_ok s.2.2 w.2.2.2 q h
      exact ⟨h1, h2, by simp only [T.dep]; omega⟩
def exD (acc : List (Addr × T)) : List PyData := acc.map fun e => .list (dat e.2)
theorem ex_dp {K : PySem.W.Frag} {H : Hp} : ∀ {acc : List (Addr × T)}, (∀ e ∈ acc, At H e.1 e.2 ∧ SOk e.2) → DpAll K H (acc.map fun e => V.ref e.1) (exD acc)
  | [], _ => .nil
  | e :: acc, h => .cons ((h e List.mem_cons_self).1.dp (h e List.mem_cons_self).2) (ex_dp fun x hx => h x (List.mem_cons_of_mem _ hx))
theorem ex_ok : ∀ {acc : List (Addr × T)}, (∀ e ∈ acc, SOk e.2 ∧ Wf e.2 false ∧ e.2.dep ≤ 10) → PyData.canLayAll0 (exD acc) = true ∧ PyData.depthAll (exD acc) ≤ 60
  | [], _ => ⟨rfl, Nat.zero_le _⟩
  | e :: acc, h => by
    obtain ⟨h1, h2, h3⟩ := h e List.mem_cons_self
    obtain ⟨a, b⟩ := ex_ok fun x hx => h x (List.mem_cons_of_mem _ hx)
    have h4 := dat_depth h2 h1
    simp only [Bool.false_eq_true, if_false] at h4
    have h5 := (dat_ok h1).1
    simp only [exD, List.map_cons, PyData.canLayAll0, PyData.canLay0, PyData.depthAll, PyData.depth] at *
    exact ⟨by rw [h5, a]; rfl, by omega⟩
theorem ex_shaped {acc : List (Addr × T)} (h : ∀ e ∈ acc, SOk e.2 ∧ Wf e.2 false ∧ e.2.dep ≤ 10) : SeqAt.shaped (.list (exD acc)) = true := by
  obtain ⟨a, b⟩ := ex_ok h
  unfold SeqAt.shaped
  rw [Bool.and_eq_true]
  refine ⟨a, decide_eq_true ?_⟩
  show PyData.depthAll (exD acc) + 1 ≤ 64
  omega
section
variable {P : Program} {w : World} {K : PySem.W.Frag} {mg : Str → Option Value} {base : Heap}
abbrev sLch : Stmt := top 41
abbrev nLch : List Str := ["node", "rules", "value", "word", "inner", "key", "exact"]
theorem scLch : FnScope nLch ["node", "rules", "value"] (defScope sLch) := ⟨rfl, rfl, rfl, by decide +kernel, rfl, by decide +kernel, by decide +kernel⟩
def spLch : Sp := fun vs H Q _ => ∃ (H0 : Hp) (p ca oa : Addr) (hd cvs : List V) (cs o : T) (rs : List Rule) (rv v : V), vs = [.ref p, rv, v] ∧ Same H0 H ∧ H0 p = some (.tup (hd ++ [.ref ca, .ref oa])) ∧ H0 ca = some (.lst cvs) ∧ Nodes H0 cs cvs ∧ Wf cs true ∧ SOk cs ∧ cs.dep ≤ 10 ∧ cs.sz < 80000 ∧ At H0 oa o ∧ RusAt H rs rv ∧
  ((∃ n s, hd = [.str "select", .str n] ∧ v = .str s ∧ ∀ a H', Same H H' → At H0 a (chS cs o s) → Q (.ref a) H') ∨ (∃ n off i, hd = [.str "plural", .str n, .int off] ∧ v = .int i ∧ ∀ a H', Same H H' → At H0 a (chP cs o rs i off) → Q (.ref a) H'))
theorem ok_lch {f fC : Addr} {fd fdC : FuncData} (F : Fun K "_law_chosen" "_law_chosen" sLch f fd) (GC : FnOk P w K mg base CX0 2 fC fdC ["rules", "number"] spLc) (bC : Binds K fdC ["rules", "number"] []) (kC : PySem.W.keepIn K (.ref fC) = true) (mC : mg "_law_category" = some (.ref fC)) (mi : mg "isinstance" = none) (ms : mg "str" = none) :
    FnOk P w K mg base CX0 3 f fd ["node", "rules", "value"] spLch := by
  refine F.ok scLch (fun vs H Q E h => ?_) (fun cdv A outer s H vs Q E hr h => ?_)
  · obtain ⟨H0, p, ca, oa, hd, cvs, cs, o, rs, rv, v, rfl, _⟩ := h
    rfl
  obtain ⟨H0, p, ca, oa, hd, cvs, cs, o, rs, rv, v, rfl, s0, hp, hca, hcs, hw, hsok, hdp, hsz, ho, hR, hh⟩ := h
  have nd := scLch.nd
  refine ⟨_, pss_cons (ps_if (pt_cmpR op_eq (pe_ix ix_tup (pv 0) pe_int (fun _ _ => rfl)) pe_str (nomark _))
      (pss_cons (ps_for PassesOwn.never rfl (pi_list (pe_ix ix_tup (pv 0) pe_int (fun _ _ => rfl))) (pg_tup rfl (pgs_cons (pg_name (i := 3) nd rfl (.inl rfl)) (pgs_cons (pg_name (i := 4) nd rfl (.inl rfl)) pgs_nil)))
        (pss_one (ps_if (pt_cmpR op_eq (pv 3) (pv 2) (nomark _)) (pss_one (ps_ret (pv 4))) pss_nil)))
      (pss_one (ps_ret (pe_ix ix_tup (pv 0) pe_int (fun _ _ => rfl))))) pss_nil)
    (pss_cons (ps_setLc (i := 6) (own := [("key", 5), ("inner", 4)]) (g := gTup K 2 (gCons (gName 5) (gCons (gName 4) gNil))) (tt := tAnd (tNot (tB (tCB (rIsi K) (tCons (tVar 5) (tCons (tC (.ty "str")) tNil))))) (tTest (tOp rEq (tVar 5) (tVar 2)))) (te := tVar 4) rfl nd rfl rfl (sw_true rfl rfl rfl (by decide +kernel)) (pi_list (pe_ix ix_tup (pv 0) pe_int (fun _ _ => rfl))) (blkOk_by (N := nLch) (sc := defScope sLch) (by decide +kernel))
      (fun _ _ _ _ _ => pg_tup rfl (pgs_cons (pg_name (i := 5) nd rfl (.inl rfl)) (pgs_cons (pg_name (i := 4) nd rfl (.inl rfl)) pgs_nil)))
      (fun _ _ _ _ _ => pts_one (PW.pt (pw_and (pt_not (pt_val (pe_callB (id := "isinstance") (r := rIsi K) call_isi (by rfl) mi (by decide +kernel) (pa_cons (pv 5) (pa_cons (pe_bltn (v := .ty "str") (by rfl) ms (by decide +kernel) rfl) pa_nil))))) (pw_and1 (pt_cmpR op_eq (pv 5) (pv 2) (nomark _)))))) (fun _ _ _ _ _ => pv 4))
    (pss_cons (ps_if (pt_cmpR (op_neD hr.units) (pv 6) (pe_lst pa_nil) (nomark _)) (pss_one (ps_ret (pe_ix ix_list (pv 6) pe_int (fun _ _ => rfl)))) pss_nil)
    (pss_cons (ps_for PassesOwn.never rfl (pi_list (pe_ix ix_tup (pv 0) pe_int (fun _ _ => rfl))) (pg_tup rfl (pgs_cons (pg_name (i := 5) nd rfl (.inl rfl)) (pgs_cons (pg_name (i := 4) nd rfl (.inl rfl)) pgs_nil)))
      (pss_one (ps_if (pt_cmpR op_eq (pv 5) (pe_call GC hr rfl mC kC bC .nil pass0 (pa_cons (pv 1) (pa_cons (pe_op op_sub (pv 2) (pe_ix ix_tup (pv 0) pe_int (fun _ _ => rfl))) pa_nil))) (nomark _)) (pss_one (ps_ret (pv 4))) pss_nil)))
    (pss_one (ps_ret (pe_ix ix_tup (pv 0) pe_int (fun _ _ => rfl))))))), ?_⟩
  have hcaH := s0 _ _ hca
  obtain ⟨e1, e3⟩ := prs_at hcs hw
  have ekey : ∀ key, fcs cs key = ((cs.prs.drop 0).find? fun q => decide (q.1 = key)).map (·.2) := fun key => fcs_prs key cs
  have edrop : ∀ {i : Nat} {qk : V × T}, cs.prs[i]? = some qk → cs.prs.drop i = qk :: cs.prs.drop (i + 1) := fun {i qk} hq => by
    obtain ⟨h1, h2⟩ := List.getElem?_eq_some_iff.mp hq
    rw [List.drop_eq_getElem_cons h1, h2]
  rcases hh with ⟨n, sv, rfl, rfl, q⟩ | ⟨n, off, iv, rfl, rfl, q⟩
  · have hpH := s0 _ _ hp
    refine ⟨_, rfl, p, _, 0, .str "select", rfl, rfl, .inl (.inl hpH), atI_nat (j := 0) rfl, rfl, _, rfl, iteT ?_⟩
    refine ⟨_, rfl, p, _, 2, .ref ca, rfl, rfl, .inl (.inl hpH), atI_nat (j := 2) rfl, ca, rfl, ⟨_, SqL.of hcaH⟩, ?_⟩
    refine for_list (xs := cvs) (fun i σ H' => H' = H ∧ (∃ o3 o4 o5 o6, σ = [some (.ref p), some rv, some (.str sv), o3, o4, o5, o6]) ∧ fcs cs (.str sv) = ((cs.prs.drop i).find? fun q => decide (q.1 = V.str sv)).map (·.2)) ⟨rfl, ⟨_, _, _, _, rfl⟩, ekey _⟩ (fun i σ H' _ ⟨e, _⟩ => by rw [e]; exact SqL.of hcaH) ?_ ?_
    · rintro i v σ H' hx ⟨rfl, ⟨o3, o4, o5, o6, rfl⟩, hf⟩
      obtain ⟨t, a, qk, rfl, hq, ht, hat, hki⟩ := e3 i v hx
      rw [edrop hq, List.find?_cons] at hf
      refine ⟨t, _, rfl, .inl (.inl (s0 _ _ ht)), rfl, qk.1, _, rfl, .ref a, [], rfl, rfl, ?_⟩
      refine ⟨_, rfl, _, rfl, scal_key hki (.inl ⟨_, rfl⟩), _, rfl, ?_⟩
      refine ite2 (fun c => ?_) (fun c => ?_)
      · rw [c] at hf
        exact ⟨_, rfl, q a H' (Same.refl _) (by unfold chS; rw [hf]; exact hat)⟩
      · have c' : decide (qk.1 = V.str sv) = false := Bool.eq_false_iff.mpr c
        rw [c'] at hf
        exact ⟨rfl, ⟨_, _, _, _, rfl⟩, hf⟩
    · rintro σ H' ⟨rfl, ⟨o3, o4, o5, o6, rfl⟩, hf⟩
      rw [← e1, List.drop_length] at hf
      refine ⟨_, rfl, p, _, 3, .ref oa, rfl, rfl, .inl (.inl hpH), atI_nat (j := 3) rfl, ?_⟩
      exact q oa H' (Same.refl _) (by unfold chS; rw [hf]; exact ho)
  · have hpH := s0 _ _ hp
    refine ⟨_, rfl, p, _, 0, .str "plural", rfl, rfl, .inl (.inl hpH), atI_nat (j := 0) rfl, rfl, _, rfl, iteF ?_⟩
    refine ⟨_, rfl, p, _, 3, .ref ca, rfl, rfl, .inl (.inl hpH), atI_nat (j := 3) rfl, ca, rfl, ⟨_, SqL.of hcaH⟩, fun D hD => ?_⟩
    have cl : cvs.length < 100000 := by
      have := prs_sz cs
      omega
    have hsD : Same H (upd H D (.lst [])) := same_new hD _
    refine lc_list (xs := cvs) (fun i H' => ∃ acc : List (Addr × T), Same H H' ∧ H' D = some (.lst (acc.map fun e => V.ref e.1)) ∧ (∀ e ∈ acc, At H0 e.1 e.2 ∧ ∃ q ∈ cs.prs, q.2 = e.2) ∧ acc.map (·.2) = ((cs.prs.take i).filter fun q => decide (q.1 = V.int iv)).map (·.2) ∧ acc.length ≤ i)
      ⟨[], hsD, upd_same, (fun e he => by cases he), rfl, Nat.le_refl _⟩ (fun i H' _ ⟨_, s', _⟩ => SqL.of (s' _ _ hcaH)) ?_ ?_
    · rintro i v H' hx ⟨acc, s', hD', hacc, hmap, hal⟩
      obtain ⟨t, a, qk, rfl, hq, ht, hat, hki⟩ := e3 i v hx
      have hi := get_lt hx
      have etk : cs.prs.take (i + 1) = cs.prs.take i ++ [qk] := by
        rw [List.take_succ, hq]
        rfl
      refine ⟨t, _, rfl, .inl (.inl (s' _ _ (s0 _ _ ht))), rfl, qk.1, _, rfl, .ref a, [], rfl, rfl, rfl, ?_⟩
      have skip : decide (qk.1 = V.int iv) = false → ∃ acc : List (Addr × T), Same H H' ∧ H' D = some (.lst (acc.map fun e => V.ref e.1)) ∧ (∀ e ∈ acc, At H0 e.1 e.2 ∧ ∃ q ∈ cs.prs, q.2 = e.2) ∧ acc.map (·.2) = ((cs.prs.take (i + 1)).filter fun q => decide (q.1 = V.int iv)).map (·.2) ∧ acc.length ≤ i + 1 := fun c =>
        ⟨acc, s', hD', hacc, by rw [hmap, etk, List.filter_append]; simp [c], by omega⟩
      rcases hki with ⟨ks, hks⟩ | ⟨ki, hki⟩
      · refine ⟨_, rfl, .str ks, .ty "str", .type "str", .type "str", true, by rw [hks], .ty "str", .base (.str ks), rfl, true, rfl, ?_⟩
        exact skip (by rw [hks]; rfl)
      · refine ⟨_, rfl, .int ki, .ty "str", .type "int", .type "str", false, by rw [hki], .ty "str", .base (.int ki), kit_ty (by decide +kernel), false, rfl, ?_⟩
        refine ⟨_, rfl, _, rfl, by rw [hki]; rfl, _, rfl, ?_⟩
        refine ite2 (fun c => ?_) (fun c => ?_)
        · refine ⟨_, rfl, acc.map (fun e => V.ref e.1), hD', sz_line (by rw [List.length_map]; omega), acc ++ [(a, qk.2)], same_mut s' hD _, ?_, ?_, ?_, by rw [List.length_append]; exact Nat.succ_le_succ hal⟩
          · rw [upd_same, List.map_append]
            rfl
          · intro e he
            rcases List.mem_append.mp he with he | he
            · exact hacc e he
            · rw [List.mem_singleton.mp he]
              exact ⟨hat, qk, List.mem_of_getElem? hq, rfl⟩
          · rw [List.map_append, hmap, etk, List.filter_append, List.map_append, List.filter_cons, if_pos c]
            rfl
        · exact skip (Bool.eq_false_iff.mpr c)
    · rintro H1 ⟨acc, s1, hD1, hacc, hmap, hal⟩
      rw [← e1, List.take_length] at hmap
      have hsok' : ∀ e ∈ acc, SOk e.2 ∧ Wf e.2 false ∧ e.2.dep ≤ 10 := fun e he => by
        obtain ⟨_, q', hq', e'⟩ := hacc e he
        obtain ⟨h1, h2, h3⟩ := prs_ok hsok hw q' hq'
        rw [← e']
        exact ⟨h1, h2, by omega⟩
      have hat' : ∀ e ∈ acc, At H1 e.1 e.2 ∧ SOk e.2 := fun e he => ⟨(hacc e he).1.same (s0.trans s1), (hsok' e he).1⟩
      have hfind : fcs cs (.int iv) = acc.head?.map (·.2) := by
        rw [fcs_prs, ← List.head?_filter, ← List.head?_map, ← List.head?_map, hmap]
      refine ⟨_, rfl, Nat.zero_le _, fun z hz => ?_⟩
      have sz : Same H1 (upd H1 z (.lst [])) := same_new hz _
      refine ⟨.list (exD acc), .list [], .lst (SqL.of (sz _ _ hD1)) (ex_dp fun e he => ⟨(hat' e he).1.same sz, (hat' e he).2⟩), .lst (SqL.of upd_same) .nil, ex_shaped hsok', rfl, _, rfl, ?_⟩
      have s2 := s1.trans sz
      cases acc with
      | cons e acc =>
        refine iteT ⟨_, rfl, D, _, 0, .ref e.1, rfl, rfl, SqL.of (sz _ _ hD1), atI_nat (j := 0) rfl, ?_⟩
        refine q e.1 _ s2 ?_
        unfold chP
        rw [hfind]
        exact (hacc e List.mem_cons_self).1
      | nil =>
        refine iteF ?_
        refine ⟨_, rfl, p, _, 3, .ref ca, rfl, rfl, .inl (.inl (s2 _ _ hpH)), atI_nat (j := 3) rfl, ca, rfl, ⟨_, SqL.of (s2 _ _ hcaH)⟩, ?_⟩
        refine for_list (xs := cvs) (fun i σ H' => Same H H' ∧ (∃ o3 o4 o5, σ = [some (.ref p), some rv, some (.int iv), o3, o4, o5, some (.ref D)]) ∧ fcs cs (.str (catN rs (iv - off))) = ((cs.prs.drop i).find? fun q => decide (q.1 = V.str (catN rs (iv - off)))).map (·.2)) ⟨s2, ⟨_, _, _, rfl⟩, ekey _⟩ (fun i σ H' _ ⟨s', _⟩ => SqL.of (s' _ _ hcaH)) ?_ ?_
        · rintro i v σ H' hx ⟨s', ⟨o3, o4, o5, rfl⟩, hf⟩
          obtain ⟨t, a, qk, rfl, hq, ht, hat, hki⟩ := e3 i v hx
          rw [edrop hq, List.find?_cons] at hf
          refine ⟨t, _, rfl, .inl (.inl (s' _ _ (s0 _ _ ht))), rfl, qk.1, _, rfl, .ref a, [], rfl, rfl, ?_⟩
          refine ⟨_, rfl, _, rfl, _, rfl, _, rfl, p, _, 2, .int off, rfl, rfl, .inl (.inl (s' _ _ hpH)), atI_nat (j := 2) rfl, _, _, rfl, rfl, rv, rs, iv - off, rfl, hR.same s', fun H2 s3 => ?_⟩
          refine ⟨scal_key hki (.inl ⟨_, rfl⟩), _, rfl, ?_⟩
          refine ite2 (fun c => ?_) (fun c => ?_)
          · rw [c] at hf
            exact ⟨_, rfl, q a H2 (s'.trans s3) (by unfold chP; rw [hfind, hf]; exact hat)⟩
          · have c' : decide (qk.1 = V.str (catN rs (iv - off))) = false := Bool.eq_false_iff.mpr c
            rw [c'] at hf
            exact ⟨s'.trans s3, ⟨_, _, _, rfl⟩, hf⟩
        · rintro σ H' ⟨s', ⟨o3, o4, o5, rfl⟩, hf⟩
          rw [← e1, List.drop_length] at hf
          refine ⟨_, rfl, p, _, 4, .ref oa, rfl, rfl, .inl (.inl (s' _ _ hpH)), atI_nat (j := 4) rfl, ?_⟩
          exact q oa H' s' (by unfold chP; rw [hfind, hf]; exact ho)
end
end Mw

namespace Mw
open PySem L2
theorem R.cat_ok : ∀ {a b : R} {x : Str}, a.cat b = .ok x → ∃ y z, a = .ok y ∧ b = .ok z ∧ x = y ++ z
  | .ok y, .ok z, x, h => ⟨y, z, rfl, rfl, by cases h; rfl⟩
  | .ok _, .mis _, _, h => by cases h
  | .ok _, .wr _, _, h => by cases h
  | .mis _, _, _, h => by cases h
  | .wr _, _, _, h => by cases h
theorem evs_len {rs : List Rule} {args : Av} : ∀ {st : List En} {f : Str}, (∀ e ∈ st, ∀ s, ev rs args e.1 e.2 = .ok s → s.length ≤ 100 * e.1.sz) → evs rs args st = .ok f → f.length ≤ 100 * szS st
  | [], f, _, h => by
    cases h
    exact Nat.le_refl _
  | e :: st, f, hh, h => by
    obtain ⟨y, z, h1, h2, rfl⟩ := R.cat_ok (show (ev rs args e.1 e.2).cat (evs rs args st) = .ok f from h)
    have a := hh e List.mem_cons_self y h1
    have b := evs_len (fun x hx => hh x (List.mem_cons_of_mem _ hx)) h2
    rw [slen]
    show _ ≤ 100 * (e.1.sz + szS st)
    omega
theorem node_sz : ∀ {t u : T}, u ∈ t.nodes → u.sz ≤ t.sz
  | .nil, u, h => by cases h
  | .text s r, u, h => by
    rcases List.mem_cons.mp h with rfl | h
    · simp only [T.sz]; omega
    · have := node_sz h; simp only [T.sz]; omega
  | .shw s r, u, h => by
    rcases List.mem_cons.mp h with rfl | h
    · simp only [T.sz]; omega
    · have := node_sz h; simp only [T.sz]; omega
  | .num r, u, h => by
    rcases List.mem_cons.mp h with rfl | h
    · simp only [T.sz]; omega
    · have := node_sz h; simp only [T.sz]; omega
  | .cho hd cs o r, u, h => by
    rcases List.mem_cons.mp h with rfl | h
    · simp only [T.sz]; omega
    · have := node_sz h; simp only [T.sz]; omega
  | .cas k m r, u, h => by
    rcases List.mem_cons.mp h with rfl | h
    · simp only [T.sz]; omega
    · have := node_sz h; simp only [T.sz]; omega
theorem ev_len {rs : List Rule} {args : Av} (ha : AvsOk args) : ∀ (n : Nat) {t : T} {l : Option Int} {d : Nat} {i : Bool} {s : Str}, Gd t false d i → (i = true → ∃ x, l = some x ∧ x.natAbs < 10 ^ 21) → t.sz ≤ n → ev rs args t l = .ok s → s.length ≤ 100 * t.sz := by
  intro n
  induction n with
  | zero =>
    intro t l d i s g hi hz h
    cases t with
    | nil =>
      simp only [ev] at h
      cases h
      exact Nat.zero_le _
    | _ => simp only [T.sz] at hz; omega
  | succ n ih =>
    intro t l d i s g hi hz h
    rw [ev_nodes rs args l g] at h
    rw [← szS_nodes l t]
    refine evs_len (fun e he s' hs' => ?_) h
    obtain ⟨u, hu, rfl⟩ := List.mem_map.mp he
    obtain ⟨gu, su⟩ := nodes_gd g u hu
    have uz := node_sz hu
    cases hc : u.isCho with
    | false =>
      have h1 := leaf_len ha ⟨d, i, gu, su, hi⟩ hc hs'
      have h2 := sng_sz su
      show s'.length ≤ 100 * u.sz
      omega
    | true =>
      cases u with
      | cho hd cs o r =>
        cases (show r = .nil from su)
        obtain ⟨_, ⟨e, j, rfl, hk, g1, g2⟩, _⟩ := gu
        show s'.length ≤ 100 * (1 + cs.sz + o.sz + 0)
        have uz : 1 + cs.sz + o.sz + 0 ≤ t.sz := uz
        cases hk with
        | @sel nm _ _ hn hks =>
          cases hv : aval args nm with
          | none => simp only [ev_selm hv] at hs'; cases hs'
          | some v =>
            rcases ha nm v hv with ⟨sv, rfl, _⟩ | ⟨iv, rfl, _⟩
            · obtain ⟨c1, c2⟩ := chS_gd (s := sv) g1 g2
              simp only [ev_sel hv] at hs'
              have := ih c1 hi (by omega) hs'
              omega
            · simp only [ev_selw hv] at hs'; cases hs'
        | @plu nm off _ _ hn ho hks =>
          cases hv : aval args nm with
          | none => simp only [ev_plum hv] at hs'; cases hs'
          | some v =>
            rcases ha nm v hv with ⟨sv, rfl, _⟩ | ⟨iv, rfl, hib⟩
            · simp only [ev_pluw hv] at hs'; cases hs'
            · obtain ⟨c1, c2⟩ := chP_gd (rs := rs) (i := iv) (off := off) g1 g2
              simp only [ev_plu hv] at hs'
              have := ih c1 (fun _ => ⟨_, rfl, by
                have e : (10 : Nat) ^ 20 + 9 < 10 ^ 21 := by decide
                omega⟩) (by omega) hs'
              omega
      | _ => cases hc
def RV (H : Hp) : R → V → Prop
  | .ok s, v => v = .str s
  | .mis n, v => ∃ p, v = .ref p ∧ H p = some (.tup [.str "missing", .str n])
  | .wr n, v => ∃ p, v = .ref p ∧ H p = some (.tup [.str "wrong", .str n])
theorem call_str_any {X : Cx} : CallR X (.type "str") (fun xs H Q => (∃ i, xs = [.int i] ∧ i.natAbs.log2 < 1920 ∧ Q (.str (toString i)) H) ∨ ∃ a, xs = [.str a] ∧ Q (.str a) H) := by
  intro pins s σ H xs us Q I r h
  rcases h with h | h
  · exact call_str_int pins s σ H xs us Q I r h
  · exact SkE.call_str_str pins s σ H xs us Q I r h
theorem log_ok {i : Int} (h : i.natAbs < 10 ^ 30) : i.natAbs.log2 < 1920 := by
  rcases Nat.eq_zero_or_pos i.natAbs with z | z
  · rw [z]
    decide
  · have e : (10 : Nat) ^ 30 < 2 ^ 1000 := by decide +kernel
    exact Nat.lt_trans ((Nat.log2_lt (by omega)).mpr (Nat.lt_trans h e)) (by decide)
abbrev sLs : Stmt := top 42
abbrev nLs : List Str := ["message", "rules", "arguments", "left", "found", "node", "value", "more", "inner"]
theorem scLs : FnScope nLs ["message", "rules", "arguments", "left"] (defScope sLs) := ⟨rfl, rfl, rfl, by decide +kernel, rfl, by decide +kernel, by decide +kernel⟩
def spLs (m : Nat) : Sp := fun vs H Q _ => ∃ (H0 : Hp) (a dd : Addr) (t : T) (d : Nat) (i : Bool) (l : Option Int) (rs : List Rule) (rv : V) (args : Av), vs = [.ref a, rv, .ref dd, onum l] ∧ Same H0 H ∧ At H0 a t ∧ Gd t false d i ∧ d < m ∧ d ≤ 10 ∧ (i = true → ∃ x, l = some x ∧ x.natAbs < 10 ^ 21) ∧ t.sz < 80000 ∧ RusAt H rs rv ∧ H dd = some (.dK (akv args)) ∧ AvsOk args ∧
  ∀ v H', Same H H' → RV H' (ev rs args t l) v → Q v H'
section
variable {P : Program} {w : World} {K : PySem.W.Frag} {mg : Str → Option Value} {base : Heap}
theorem ok_ls_turn {n : Nat} {f fC : Addr} {fd fdC : FuncData} (F : Fun K "_law_show" "_law_show" sLs f fd) (G : FnOk P w K mg base CX0 (n + 3) f fd ["message", "rules", "arguments", "left"] (spLs n)) (b : Binds K fd ["message", "rules", "arguments", "left"] []) (m : mg "_law_show" = some (.ref f))
    (GC : FnOk P w K mg base CX0 3 fC fdC ["node", "rules", "value"] spLch) (bC : Binds K fdC ["node", "rules", "value"] []) (kC : PySem.W.keepIn K (.ref fC) = true) (mC : mg "_law_chosen" = some (.ref fC)) (mi : mg "isinstance" = none) (ms : mg "str" = none) (mt : mg "tuple" = none) :
    FnOk P w K mg base CX0 (n + 1 + 3) f fd ["message", "rules", "arguments", "left"] (spLs (n + 1)) := by
  refine F.ok scLs (fun vs H Q E h => ?_) (fun cdv A outer s H vs Q E hr h => ?_)
  · obtain ⟨H0, a, dd, t, d, i, l, rs, rv, args, rfl, _⟩ := h
    rfl
  obtain ⟨H0, a, dd, t, d, i, l, rs, rv, args, rfl, s0, ⟨vs, ha, hn⟩, hg, hdn, hd10, hi, hz, hR, hd, hav, q⟩ := h
  have nd := scLs.nd
  have k := F.kp
  have hu := hu_of hr
  refine ⟨_, pss_cons (ps_set (i := 4) nd rfl (.inl rfl) pe_str)
    (pss_cons (ps_for PassesOwn.never rfl (pi_list (pv 0)) (pg_name (i := 5) nd rfl (.inl rfl))
      (pss_one (ps_if (pt_cmpR op_eq (pe_ix ix_tup (pv 5) pe_int (fun _ _ => rfl)) pe_str (nomark _))
        (pss_one (ps_set (i := 4) nd rfl (.inl rfl) (pe_op op_add_str (pv 4) (pe_ix ix_tup (pv 5) pe_int (fun _ _ => rfl)))))
        (pss_one (ps_if (pt_cmpR op_eq (pe_ix ix_tup (pv 5) pe_int (fun _ _ => rfl)) pe_str (nomark _))
          (pss_one (ps_set (i := 4) nd rfl (.inl rfl) (pe_op op_add_str (pv 4) (pe_callTy call_str_int (by rfl) ms (by decide +kernel) (pa_cons (pv 3) pa_nil)))))
          (pss_one (ps_if (pt_cmp (pc_dnotin hu (pe_ix ix_tup (pv 5) pe_int (fun _ _ => rfl)) (pv 2)))
            (pss_one (ps_ret (pe_tup (pa_cons pe_str (pa_cons (pe_ix ix_tup (pv 5) pe_int (fun _ _ => rfl)) pa_nil)))))
            (pss_one (ps_if (pt_cmpR op_eq (pe_ix ix_tup (pv 5) pe_int (fun _ _ => rfl)) pe_str (nomark _))
              (pss_one (ps_set (i := 4) nd rfl (.inl rfl) (pe_op op_add_str (pv 4) (pe_callTy call_str_any (by rfl) ms (by decide +kernel) (pa_cons (pe_dget hu (pv 2) (pe_ix ix_tup (pv 5) pe_int (fun _ _ => rfl)) (fun _ _ => rfl)) pa_nil)))))
              (pss_one (ps_if (pt_cmpR op_ne (pe_callB call_isi (by rfl) mi (by decide +kernel) (pa_cons (pe_dget hu (pv 2) (pe_ix ix_tup (pv 5) pe_int (fun _ _ => rfl)) (fun _ _ => rfl)) (pa_cons (pe_bltn (v := .ty "str") (by rfl) ms (by decide +kernel) rfl) pa_nil))) (pe_cmpR op_eq (pe_ix ix_tup (pv 5) pe_int (fun _ _ => rfl)) pe_str (nomark _)) (nomark _))
                (pss_one (ps_ret (pe_tup (pa_cons pe_str (pa_cons (pe_ix ix_tup (pv 5) pe_int (fun _ _ => rfl)) pa_nil)))))
                (pss_cons (ps_set (i := 6) nd rfl (.inl rfl) (pe_dget hu (pv 2) (pe_ix ix_tup (pv 5) pe_int (fun _ _ => rfl)) (fun _ _ => rfl)))
                (pss_cons (ps_set (i := 7) nd rfl (.inl rfl) (pv 3))
                (Evl.pss_cut (ps_if (pt_cmpR op_eq (pe_ix ix_tup (pv 5) pe_int (fun _ _ => rfl)) pe_str (nomark _)) (pss_one (ps_set (i := 7) nd rfl (.inl rfl) (pe_op op_sub (pv 6) (pe_ix ix_tup (pv 5) pe_int (fun _ _ => rfl))))) pss_nil)
                (pss_cons (ps_set (i := 8) nd rfl (.inl rfl) (pe_call G hr rfl m k b .nil pass0 (pa_cons (pe_call GC (hr.mono (by omega)) rfl mC kC bC .nil pass0 (pa_cons (pv 5) (pa_cons (pv 1) (pa_cons (pv 6) pa_nil)))) (pa_cons (pv 1) (pa_cons (pv 2) (pa_cons (pv 7) pa_nil))))))
                (pss_cons (ps_if (pt_val (pe_callB call_isi (by rfl) mi (by decide +kernel) (pa_cons (pv 8) (pa_cons (pe_bltn (v := .ty "tuple") (by rfl) mt (by decide +kernel) rfl) pa_nil)))) (pss_one (ps_ret (pv 8))) pss_nil)
                (pss_one (ps_set (i := 4) nd rfl (.inl rfl) (pe_op op_add_str (pv 4) (pv 8))))))))))))))))))))
    (pss_one (ps_ret (pv 4)))), ?_⟩
  have hNs := hn.ns
  have haH := s0 _ _ ha
  generalize hL : (t.nodes.map fun u => (u, l) : List En) = L
  have hevL : ev rs args t l = evs rs args L := by rw [ev_nodes rs args l hg, hL]
  have hszL : szS L = t.sz := by rw [← hL, szS_nodes]
  have hLen : ∀ e ∈ L, ∀ s, ev rs args e.1 e.2 = .ok s → s.length ≤ 100 * e.1.sz := by
    intro e he s' hs'
    rw [← hL] at he
    obtain ⟨u, hu, rfl⟩ := List.mem_map.mp he
    obtain ⟨gu, su⟩ := nodes_gd hg u hu
    exact ev_len hav u.sz gu hi (Nat.le_refl _) hs'
  have hLl : L.length = vs.length := by rw [← hL, List.length_map, hNs.length]
  refine ⟨_, rfl, a, rfl, ⟨_, SqL.of haH⟩, ?_⟩
  refine for_list (xs := vs) (fun j σ H' => ∃ (f : Str) (o5 o6 o7 o8 : Option V), σ = [some (.ref a), some rv, some (.ref dd), some (onum l), some (.str f), o5, o6, o7, o8] ∧ Same H H' ∧ evs rs args (L.take j) = .ok f) ⟨_, _, _, _, _, rfl, Same.refl _, rfl⟩ (fun j σ H' _ ⟨_, _, _, _, _, _, s', _⟩ => SqL.of (s' _ _ haH)) ?_ ?_
  · rintro j x σ H' hx ⟨f, o5, o6, o7, o8, rfl, s', hf⟩
    obtain ⟨u, hu, hun⟩ := hNs.get hx
    have hum : u ∈ t.nodes := List.mem_of_getElem? hu
    obtain ⟨gu, su⟩ := nodes_gd hg u hum
    have hLj : L[j]? = some (u, l) := by
      rw [← hL, List.getElem?_map, hu]
      rfl
    have htk : L.take (j + 1) = L.take j ++ [(u, l)] := by
      rw [List.take_succ, hLj]
      rfl
    have hsp : evs rs args L = (R.ok f).cat ((ev rs args u l).cat (evs rs args (L.drop (j + 1)))) := by
      have e : L = L.take j ++ ((u, l) :: L.drop (j + 1)) := by
        obtain ⟨h1, h2⟩ := List.getElem?_eq_some_iff.mp hLj
        rw [← h2, ← List.drop_eq_getElem_cons h1, List.take_append_drop]
      have z : evs rs args (L.take j ++ ((u, l) :: L.drop (j + 1))) = (R.ok f).cat ((ev rs args u l).cat (evs rs args (L.drop (j + 1)))) := by
        rw [evs_app, hf]
        rfl
      rw [← e] at z
      exact z
    have hszj : szS (L.take j) + u.sz ≤ t.sz := by
      have e : szS (L.take (j + 1)) + szS (L.drop (j + 1)) = szS L := by rw [← szS_app, List.take_append_drop]
      rw [htk, szS_app, hszL] at e
      have : szS [(u, l)] = u.sz := by simp [szS]
      omega
    have hfl : f.length ≤ 100 * szS (L.take j) := evs_len (fun e he => hLen e (List.mem_of_mem_take he)) hf
    -- a piece of text is put on
    have add : ∀ (g : Str) (o5 o6 o7 o8 : Option V) (H2 : Hp), Same H H2 → ev rs args u l = .ok g → ∃ (f1 : Str) (o5' o6' o7' o8' : Option V), [some (V.ref a), some rv, some (.ref dd), some (onum l), some (.str (f ++ g)), o5, o6, o7, o8] = [some (.ref a), some rv, some (.ref dd), some (onum l), some (.str f1), o5', o6', o7', o8'] ∧ Same H H2 ∧ evs rs args (L.take (j + 1)) = .ok f1 := by
      intro g o5 o6 o7 o8 H2 s2 h
      refine ⟨f ++ g, _, _, _, _, rfl, s2, ?_⟩
      have e : evs rs args [(u, l)] = .ok g := by
        show (ev rs args u l).cat (.ok "") = _
        rw [R.cat_unit, h]
      rw [htk, evs_app, hf, e]
      rfl
    have lenOk : ∀ g : Str, ev rs args u l = .ok g → f.length + g.length ≤ sizeLine := by
      intro g h
      have := hLen (u, l) (by rw [← hL]; exact List.mem_map.mpr ⟨u, hum, rfl⟩) g h
      have : g.length ≤ 100 * u.sz := this
      exact le_line (by omega)
    cases u with
    | nil => cases su
    | cas k m r => cases gu.1
    | text sx r =>
      cases (show r = .nil from su)
      obtain ⟨p, ws, e, hp, _⟩ := hun
      cases e
      have hp' := s' _ _ (s0 _ _ hp)
      have hev : ev rs args (.text sx .nil) l = .ok sx := by simp only [ev, R.cat_unit]
      refine ⟨_, rfl, p, _, 0, .str "text", rfl, rfl, .inl (.inl hp'), atI_nat (j := 0) rfl, rfl, _, rfl, iteT ?_⟩
      refine ⟨_, rfl, _, rfl, p, _, 1, .str sx, rfl, rfl, .inl (.inl hp'), atI_nat (j := 1) rfl, _, _, rfl, rfl, lenOk _ hev, ?_⟩
      exact add sx _ _ _ _ H' s' hev
    | num r =>
      cases (show r = .nil from su)
      obtain ⟨p, ws, e, hp, _⟩ := hun
      cases e
      have hp' := s' _ _ (s0 _ _ hp)
      obtain ⟨x, rfl, hb⟩ := hi gu.2.1
      have hev : ev rs args (.num .nil) (some x) = .ok (toString x) := by simp only [ev, R.cat_unit, nt]
      refine ⟨_, rfl, p, _, 0, .str "number", rfl, rfl, .inl (.inl hp'), atI_nat (j := 0) rfl, rfl, _, rfl, iteF ?_⟩
      refine ⟨_, rfl, p, _, 0, .str "number", rfl, rfl, .inl (.inl hp'), atI_nat (j := 0) rfl, rfl, _, rfl, iteT ?_⟩
      refine ⟨_, rfl, _, rfl, x, rfl, log_ok (Nat.lt_trans hb (by decide)), _, _, rfl, rfl, lenOk _ hev, ?_⟩
      exact add _ _ _ _ _ H' s' hev
    | shw n r =>
      cases (show r = .nil from su)
      obtain ⟨p, ws, e, hp, _⟩ := hun
      cases e
      have hp' := s' _ _ (s0 _ _ hp)
      have hd' := s' _ _ hd
      refine ⟨_, rfl, p, _, 0, .str "show", rfl, rfl, .inl (.inl hp'), atI_nat (j := 0) rfl, rfl, _, rfl, iteF ?_⟩
      refine ⟨_, rfl, p, _, 0, .str "show", rfl, rfl, .inl (.inl hp'), atI_nat (j := 0) rfl, rfl, _, rfl, iteF ?_⟩
      refine ⟨_, rfl, p, _, 1, .str n, rfl, rfl, .inl (.inl hp'), atI_nat (j := 1) rfl, _, rfl, dd, _, rfl, DGet.k (k := Sum.inr n) hd', _, rfl, ?_⟩
      rw [val_akv]
      cases hv : aval args n with
      | none =>
        have hev : ev rs args (.shw n .nil) l = .mis n := by simp only [ev, R.cat_unit, hv]
        refine iteT ⟨_, rfl, p, _, 1, .str n, rfl, rfl, .inl (.inl hp'), atI_nat (j := 1) rfl, by show 2 ≤ sizeLine; decide, fun tp htp => ?_⟩
        exact q _ _ (s'.trans (same_new htp _)) (by rw [hevL, hsp, hev]; exact ⟨tp, rfl, upd_same⟩)
      | some v =>
        have hg : DGet H' dd (.str n) (some v) := by
          rw [← hv, ← val_akv]
          exact DGet.k (k := Sum.inr n) hd'
        have hev : ev rs args (.shw n .nil) l = .ok (vt v 0) := by simp only [ev, R.cat_unit, hv]
        refine iteF ⟨_, rfl, p, _, 0, .str "show", rfl, rfl, .inl (.inl hp'), atI_nat (j := 0) rfl, rfl, _, rfl, iteT ?_⟩
        refine ⟨_, rfl, _, rfl, _, rfl, p, _, 1, .str n, rfl, rfl, .inl (.inl hp'), atI_nat (j := 1) rfl, dd, v, rfl, hg, ?_⟩
        rcases hav n v hv with ⟨sv, rfl, _⟩ | ⟨iv, rfl, hib⟩
        · refine .inr ⟨sv, rfl, _, _, rfl, rfl, lenOk _ hev, ?_⟩
          exact add _ _ _ _ _ H' s' hev
        · have hev' : ev rs args (.shw n .nil) l = .ok (toString iv) := by
            rw [hev]
            show R.ok (toString (iv - 0)) = _
            rw [Int.sub_zero]
          refine .inl ⟨iv, rfl, log_ok (Nat.lt_trans hib (by decide)), _, _, rfl, rfl, lenOk _ hev', ?_⟩
          exact add _ _ _ _ _ H' s' hev'
    | cho hd' cs o r =>
      cases (show r = .nil from su)
      obtain ⟨p, ws, ca, cvs, oa, ovs, e, hp, hca, hcs, hoa, hos, _⟩ := hun
      cases e
      obtain ⟨uw, usok, udp⟩ := Gd.all gu fun e => by cases e
      obtain ⟨_, ⟨e', jb, rfl, hk, g1, g2⟩, _⟩ := gu
      have wcs : Wf cs true := uw.2.2.1
      have scs : SOk cs := usok.2.2.1
      have dcs : cs.dep ≤ 10 := by
        simp only [T.dep] at udp
        omega
      have uz : 1 + cs.sz + o.sz + 0 ≤ t.sz := node_sz hum
      obtain ⟨x, nm, xs', ehd, hx1, hx2, hx3, emis⟩ : ∃ (x nm : Str) (xs' : List V), hd' = .str x :: .str nm :: xs' ∧ decide (V.str x = V.str "text") = false ∧ decide (V.str x = V.str "number") = false ∧ decide (V.str x = V.str "show") = false ∧ (aval args nm = none → ev rs args (.cho hd' cs o .nil) l = .mis nm) := by
        cases hk with
        | sel hn hks => exact ⟨_, _, _, rfl, by decide +kernel, by decide +kernel, by decide +kernel, ev_selm⟩
        | plu hn ho hks => exact ⟨_, _, _, rfl, by decide +kernel, by decide +kernel, by decide +kernel, ev_plum⟩
      have hp0 : H0 p = some (.tup (.str x :: .str nm :: (xs' ++ [.ref ca, .ref oa]))) := by rw [hp, ehd]; rfl
      have hp' := s' _ _ (s0 _ _ hp0)
      have hd2 := s' _ _ hd
      refine ⟨_, rfl, p, _, 0, .str x, rfl, rfl, .inl (.inl hp'), atI_nat (j := 0) rfl, rfl, _, rfl, ?_⟩
      rw [hx1]
      refine iteF ⟨_, rfl, p, _, 0, .str x, rfl, rfl, .inl (.inl hp'), atI_nat (j := 0) rfl, rfl, _, rfl, ?_⟩
      rw [hx2]
      refine iteF ⟨_, rfl, p, _, 1, .str nm, rfl, rfl, .inl (.inl hp'), atI_nat (j := 1) rfl, _, rfl, dd, _, rfl, DGet.k (k := Sum.inr nm) hd2, _, rfl, ?_⟩
      rw [val_akv]
      cases hv : aval args nm with
      | none =>
        refine iteT ⟨_, rfl, p, _, 1, .str nm, rfl, rfl, .inl (.inl hp'), atI_nat (j := 1) rfl, by show 2 ≤ sizeLine; decide, fun tp htp => ?_⟩
        exact q _ _ (s'.trans (same_new htp _)) (by rw [hevL, hsp, emis hv]; exact ⟨tp, rfl, upd_same⟩)
      | some v =>
        have hg : DGet H' dd (.str nm) (some v) := by
          rw [← hv, ← val_akv]
          exact DGet.k (k := Sum.inr nm) hd2
        refine iteF ⟨_, rfl, p, _, 0, .str x, rfl, rfl, .inl (.inl hp'), atI_nat (j := 0) rfl, rfl, _, rfl, ?_⟩
        rw [hx3]
        refine iteF ⟨_, rfl, _, rfl, p, _, 1, .str nm, rfl, rfl, .inl (.inl hp'), atI_nat (j := 1) rfl, dd, v, rfl, hg, ?_⟩
        -- wrong, or a message is chosen
        have wrong : ev rs args (.cho hd' cs o .nil) l = .wr nm → ∀ (tp : Addr), H' tp = none → Q (.ref tp) (upd H' tp (.tup [.str "wrong", .str nm])) := fun hw tp htp => q _ _ (s'.trans (same_new htp _)) (by rw [hevL, hsp, hw]; exact ⟨tp, rfl, upd_same⟩)
        cases hk with
        | @sel nm' _ _ hn hks =>
          cases ehd
          rcases hav nm v hv with ⟨sv, rfl, _⟩ | ⟨iv, rfl, hib⟩
          · refine ⟨.str sv, .ty "str", .type "str", .type "str", true, rfl, .ty "str", .base (.str sv), rfl, ?_⟩
            refine ⟨_, rfl, p, _, 0, .str "select", rfl, rfl, .inl (.inl hp'), atI_nat (j := 0) rfl, rfl, rfl, _, rfl, ?_⟩
            refine iteF ⟨_, rfl, _, rfl, p, _, 1, .str nm, rfl, rfl, .inl (.inl hp'), atI_nat (j := 1) rfl, dd, _, rfl, hg, ?_⟩
            obtain ⟨c1, c2⟩ := chS_gd (s := sv) g1 g2
            have hch := ev_sel (rs := rs) (l := l) (x := V.str "select") (cs := cs) (o := o) hv
            refine ⟨_, rfl, fun σ H2 => H2 = H' ∧ σ = [some (.ref a), some rv, some (.ref dd), some (onum l), some (.str f), some (.ref p), some (.str sv), some (onum l), o8], ?_, ?_⟩
            · refine ⟨_, rfl, p, _, 0, .str "select", rfl, rfl, .inl (.inl hp'), atI_nat (j := 0) rfl, rfl, _, rfl, iteF ⟨rfl, rfl⟩⟩
            rintro σ H2 ⟨rfl, rfl⟩
            refine ⟨_, rfl, _, rfl, _, rfl, H0, p, ca, oa, _, cvs, cs, o, rs, rv, _, rfl, s0.trans s', hp, hca, hcs, wcs, scs, dcs, by omega, ⟨ovs, hoa, hos⟩, hR.same s', .inl ⟨_, sv, rfl, rfl, fun ch H3 s3 hch3 => ?_⟩⟩
            have s23 := s'.trans s3
            refine ⟨_, rfl, _, rfl, _, rfl, H0, ch, dd, _, e', i, l, rs, rv, args, rfl, s0.trans s23, hch3, c1, by omega, by omega, hi, by omega, hR.same s23, s23 _ _ hd, hav, fun y H4 s4 hy => ?_⟩
            have s24 := s23.trans s4
            rw [← hch] at hy
            cases hr' : ev rs args (.cho [.str "select", .str nm] cs o .nil) l with
            | ok g =>
              rw [hr'] at hy
              have hy : y = .str g := hy
              subst hy
              refine ⟨_, rfl, .str g, .ty "tuple", .type "str", .type "tuple", false, rfl, .ty "tuple", .base (.str g), kit_ty (by decide +kernel), false, rfl, ?_⟩
              refine iteF ⟨_, rfl, _, rfl, _, _, rfl, rfl, lenOk _ hr', ?_⟩
              exact add g _ _ _ _ H4 s24 hr'
            | mis n =>
              rw [hr'] at hy
              obtain ⟨tp, rfl, htp⟩ := hy
              refine ⟨_, rfl, .ref tp, .ty "tuple", .type "tuple", .type "tuple", true, rfl, .ty "tuple", .base (.tup htp), kit_ty (by decide +kernel), true, rfl, ?_⟩
              refine iteT ⟨_, rfl, q _ H4 s24 ?_⟩
              rw [hevL, hsp, hr']
              exact ⟨tp, rfl, htp⟩
            | wr n =>
              rw [hr'] at hy
              obtain ⟨tp, rfl, htp⟩ := hy
              refine ⟨_, rfl, .ref tp, .ty "tuple", .type "tuple", .type "tuple", true, rfl, .ty "tuple", .base (.tup htp), kit_ty (by decide +kernel), true, rfl, ?_⟩
              refine iteT ⟨_, rfl, q _ H4 s24 ?_⟩
              rw [hevL, hsp, hr']
              exact ⟨tp, rfl, htp⟩
          · refine ⟨.int iv, .ty "str", .type "int", .type "str", false, rfl, .ty "str", .base (.int iv), kit_ty (by decide +kernel), ?_⟩
            refine ⟨_, rfl, p, _, 0, .str "select", rfl, rfl, .inl (.inl hp'), atI_nat (j := 0) rfl, rfl, rfl, _, rfl, ?_⟩
            refine iteT ⟨_, rfl, p, _, 1, .str nm, rfl, rfl, .inl (.inl hp'), atI_nat (j := 1) rfl, by show 2 ≤ sizeLine; decide, fun tp htp => ?_⟩
            exact wrong (ev_selw hv) tp htp
        | @plu nm' off _ _ hn ho hks =>
          cases ehd
          rcases hav nm v hv with ⟨sv, rfl, _⟩ | ⟨iv, rfl, hib⟩
          · refine ⟨.str sv, .ty "str", .type "str", .type "str", true, rfl, .ty "str", .base (.str sv), rfl, ?_⟩
            refine ⟨_, rfl, p, _, 0, .str "plural", rfl, rfl, .inl (.inl hp'), atI_nat (j := 0) rfl, rfl, rfl, _, rfl, ?_⟩
            refine iteT ⟨_, rfl, p, _, 1, .str nm, rfl, rfl, .inl (.inl hp'), atI_nat (j := 1) rfl, by show 2 ≤ sizeLine; decide, fun tp htp => ?_⟩
            exact wrong (ev_pluw hv) tp htp
          · refine ⟨.int iv, .ty "str", .type "int", .type "str", false, rfl, .ty "str", .base (.int iv), kit_ty (by decide +kernel), ?_⟩
            refine ⟨_, rfl, p, _, 0, .str "plural", rfl, rfl, .inl (.inl hp'), atI_nat (j := 0) rfl, rfl, rfl, _, rfl, ?_⟩
            refine iteF ⟨_, rfl, _, rfl, p, _, 1, .str nm, rfl, rfl, .inl (.inl hp'), atI_nat (j := 1) rfl, dd, _, rfl, hg, ?_⟩
            obtain ⟨c1, c2⟩ := chP_gd (rs := rs) (i := iv) (off := off) g1 g2
            have hch := ev_plu (rs := rs) (l := l) (x := V.str "plural") (off := off) (cs := cs) (o := o) hv
            refine ⟨_, rfl, fun σ H2 => H2 = H' ∧ σ = [some (.ref a), some rv, some (.ref dd), some (onum l), some (.str f), some (.ref p), some (.int iv), some (.int (iv - off)), o8], ?_, ?_⟩
            · refine ⟨_, rfl, p, _, 0, .str "plural", rfl, rfl, .inl (.inl hp'), atI_nat (j := 0) rfl, rfl, _, rfl, iteT ?_⟩
              exact ⟨_, rfl, _, rfl, p, _, 2, .int off, rfl, rfl, .inl (.inl hp'), atI_nat (j := 2) rfl, _, _, rfl, rfl, rfl, rfl⟩
            rintro σ H2 ⟨rfl, rfl⟩
            refine ⟨_, rfl, _, rfl, _, rfl, H0, p, ca, oa, _, cvs, cs, o, rs, rv, _, rfl, s0.trans s', hp, hca, hcs, wcs, scs, dcs, by omega, ⟨ovs, hoa, hos⟩, hR.same s', .inr ⟨_, off, iv, rfl, rfl, fun ch H3 s3 hch3 => ?_⟩⟩
            have s23 := s'.trans s3
            have hib2 : (iv - off).natAbs < 10 ^ 21 := by
              have e : (10 : Nat) ^ 20 + 9 < 10 ^ 21 := by decide
              omega
            refine ⟨_, rfl, _, rfl, _, rfl, H0, ch, dd, _, e', true, some (iv - off), rs, rv, args, rfl, s0.trans s23, hch3, c1, by omega, by omega, fun _ => ⟨_, rfl, hib2⟩, by omega, hR.same s23, s23 _ _ hd, hav, fun y H4 s4 hy => ?_⟩
            have s24 := s23.trans s4
            rw [← hch] at hy
            cases hr' : ev rs args (.cho [.str "plural", .str nm, .int off] cs o .nil) l with
            | ok g =>
              rw [hr'] at hy
              have hy : y = .str g := hy
              subst hy
              refine ⟨_, rfl, .str g, .ty "tuple", .type "str", .type "tuple", false, rfl, .ty "tuple", .base (.str g), kit_ty (by decide +kernel), false, rfl, ?_⟩
              refine iteF ⟨_, rfl, _, rfl, _, _, rfl, rfl, lenOk _ hr', ?_⟩
              exact add g _ _ _ _ H4 s24 hr'
            | mis n =>
              rw [hr'] at hy
              obtain ⟨tp, rfl, htp⟩ := hy
              refine ⟨_, rfl, .ref tp, .ty "tuple", .type "tuple", .type "tuple", true, rfl, .ty "tuple", .base (.tup htp), kit_ty (by decide +kernel), true, rfl, ?_⟩
              refine iteT ⟨_, rfl, q _ H4 s24 ?_⟩
              rw [hevL, hsp, hr']
              exact ⟨tp, rfl, htp⟩
            | wr n =>
              rw [hr'] at hy
              obtain ⟨tp, rfl, htp⟩ := hy
              refine ⟨_, rfl, .ref tp, .ty "tuple", .type "tuple", .type "tuple", true, rfl, .ty "tuple", .base (.tup htp), kit_ty (by decide +kernel), true, rfl, ?_⟩
              refine iteT ⟨_, rfl, q _ H4 s24 ?_⟩
              rw [hevL, hsp, hr']
              exact ⟨tp, rfl, htp⟩
  · rintro σ H' ⟨f, o5, o6, o7, o8, rfl, s', hf⟩
    rw [← hLl, List.take_length] at hf
    exact ⟨_, rfl, q _ H' s' (by rw [hevL, hf]; rfl)⟩
theorem none_left {k : Nat} {f : Addr} {fd : FuncData} {ps : List Str} {sp : Sp} (no : ∀ vs H Q E, ¬ sp vs H Q E) : FnOk P w K mg base CX0 k f fd ps sp :=
  ⟨fun vs H Q E h => absurd h (no vs H Q E), fun A outer s H args us vs Q E _ _ _ _ h => absurd h (no vs H Q E)⟩
theorem ok_ls {f fC : Addr} {fd fdC : FuncData} (F : Fun K "_law_show" "_law_show" sLs f fd) (b : Binds K fd ["message", "rules", "arguments", "left"] []) (m : mg "_law_show" = some (.ref f))
    (GC : FnOk P w K mg base CX0 3 fC fdC ["node", "rules", "value"] spLch) (bC : Binds K fdC ["node", "rules", "value"] []) (kC : PySem.W.keepIn K (.ref fC) = true) (mC : mg "_law_chosen" = some (.ref fC)) (mi : mg "isinstance" = none) (ms : mg "str" = none) (mt : mg "tuple" = none) :
    ∀ n, FnOk P w K mg base CX0 (n + 3) f fd ["message", "rules", "arguments", "left"] (spLs n)
  | 0 => none_left fun vs H Q E ⟨_, _, _, _, _, _, _, _, _, _, _, _, _, _, h, _⟩ => Nat.not_lt_zero _ h
  | n + 1 => ok_ls_turn F (ok_ls F b m GC bC kC mC mi ms mt n) b m GC bC kC mC mi ms mt
end
end Mw

namespace Mw
open PySem L2
/-! ### isinstance(e, D), e an exception of just the class C, with fields -/
structure IsC (K : PySem.W.Frag) (C : Addr) : Prop where
  cl : (PySem.W.clsIn K C).isSome = true
  ga : PySem.W.findIn K (.ref C) "__getattribute__" = some (some (.builtin "BaseException.__getattribute__"))
  gg : PySem.W.findIn K (.ref C) "__getattr__" = some none
  eb : PySem.W.subIn K (.ref C) (.type "BaseException") = some true
  ca : PySem.W.findIn K (.ref C) "__class__" = some (some (.builtin "object.__class__"))
  cg : PySem.W.specialIn K (.builtin "object.__class__") "__get__" = some (some (.builtin "getset_descriptor.__get__"))
  ct : PySem.W.takesIn K (.builtin "object.__class__") = some true
  ob : PySem.W.mroIn K C (.type "object") = some true
def rIsY (K : PySem.W.Frag) (D a : Addr) (cls : Value) (d : Option Addr) : List V → Hp → VK → Prop := fun xs H Q => ∃ (C : Addr) (b : Bool), xs = [.ref a, .ref D] ∧ cls = .ref C ∧ IsC K C ∧ PySem.W.kitOne K (.ref C) (.ref D) = some b ∧ ∃ dd fs, d = some dd ∧ H dd = some (.xd fs) ∧ Q (.bl b) H
theorem call_isY {X : Cx} {a D : Addr} {oe : Obj} {cls : Value} {d : Option Addr} {pn : List (Addr × Obj)} (hz : Zc cls d oe) (hf : ∃ vs, oe.data = .fields vs) : CallR (X.suite a ((a, oe) :: pn)) (.builtin "isinstance") (rIsY X.K D a cls d) := by
  intro pins s σ H xs us Q I r h
  obtain ⟨C, b, rfl, rfl, T, e1, dd, fs, rfl, hdd, q⟩ := h
  cases r with
  | cons rx rr =>
    cases rr with
    | cons rt rr =>
      cases rr
      cases rx
      cases rt
      obtain ⟨hget, _⟩ := I.pin (a, oe) (List.mem_append.mpr (.inl List.mem_cons_self))
      obtain ⟨vs, hv⟩ := hf
      have hx : ObjOk X.prog X.w H s.heap dd (.xd fs) := I.hok dd _ hdd
      obtain ⟨mA, hns, _⟩ := hx
      obtain ⟨od, ho, _⟩ := lookIn_ns hns
      have J : PySem.W.InstAt s.heap a oe C (some od) := ⟨hget, hz.1, by unfold PySem.W.notCls; rw [hv] <;> rfl, by rw [hz.2]; exact ho⟩
      exact PySem.W.kia_one (PySem.W.kitx_exc T.cl T.ga T.gg T.eb T.ca T.cg T.ct T.ob) I.kIn J e1 (fun z => nomatch z) fun tk => ⟨.bl b, H, I.kept (t' := tk) fun _ _ z => z, rfl, q⟩
abbrev sTold : Stmt := top 43
theorem scTold : FnScope ["message", "language", "arguments", "e"] ["message", "language", "arguments"] (defScope sTold) := ⟨rfl, rfl, rfl, by decide +kernel, rfl, by decide +kernel, by decide +kernel⟩
def spTold (C : Addr) : Sp := fun vs H Q _ => ∃ (a d : Addr) (vl : V) (t : T) (dp : Nat) (rs : List Rule) (args : Av), vs = [.ref a, vl, .ref d] ∧ At H a t ∧ Gd t false dp false ∧ t.sz < 80000 ∧ LanAt C H rs vl ∧ H d = some (.dK (akv args)) ∧ AvsOk args ∧
  ∀ v H', Same H H' → RV H' (ev rs args t none) v → Q v H'
/-- what the row says of an error's class, read -/
structure EX (K : PySem.W.Frag) (mg : Str → Option Value) (x : Str) (C M : Addr) : Prop where
  m : mg x = some (.ref C)
  I : IsC K C
  F : XfC K C
  no : PySem.W.findIn K (.ref C) "name" = some none
  ex : PySem.W.exmOne K (.ref C) (.ref M) = some true
section
variable {P : Program} {w : World} {K : PySem.W.Frag} {mg : Str → Option Value} {base : Heap} {C : Addr}
theorem ok_told {f fS CM CW M : Addr} {fd fdS : FuncData} (F : Fun K "_law_told" "_law_told" sTold f fd) (GS' : FnOk P w K mg base (L2.CX P w) 5 fS fdS ["message", "language", "arguments"] (spSh C CM CW)) (bS : Binds K fdS ["message", "language", "arguments"] []) (kS : PySem.W.keepIn K (.ref fS) = true) (mS : mg "shown" = some (.ref fS))
    (mi : mg "isinstance" = none) (mM : mg "MessagewaysError" = some (.ref M)) (EM : EX K mg "MissingArgument" CM M) (EW : EX K mg "WrongArgument" CW M) (ne : PySem.W.kitOne K (.ref CW) (.ref CM) = some false) :
    FnOk P w K mg base CX0 6 f fd ["message", "language", "arguments"] (spTold C) := by
  refine F.ok scTold (fun vs H Q E h => ?_) (fun cdv A outer s H vs Q E hr h => ?_)
  · obtain ⟨a, d, vl, t, dp, rs, args, rfl, _⟩ := h
    rfl
  obtain ⟨a, d, vl, t, dp, rs, args, rfl, ha, hg, hz, hL, hd, hav, q⟩ := h
  have nd := scTold.nd
  refine ⟨_, pss_one (ps_try_as (i := 3) (tb := fun W => tRet (tCallS (spSh C CM CW) (WE W) (tCons (tVar 0) (tCons (tVar 1) (tCons (tVar 2) tNil)))))
    (ts := fun a cls d => tSeq (tIfS (tB (tCB (rIsY K CM a cls d) (tCons (tVar 3) (tCons (tC (.ref CM)) tNil)))) (tRet (tTup (tCons (tC (.str "missing")) (tCons (tXf a cls d CM "name" (tVar 3)) tNil)))) tNext)
      (tSeq (tIfS (tB (tCB (rIsY K CW a cls d) (tCons (tVar 3) (tCons (tC (.ref CW)) tNil)))) (tRet (tTup (tCons (tC (.str "wrong")) (tCons (tXf a cls d CW "name" (tVar 3)) tNil)))) tNext)
      (tRet (tTup (tCons (tC (.str "other")) (tCons (tC (.str "")) tNil)))))) (Wout := fun _ _ _ _ => False) rfl rfl nd rfl rfl ⟨rfl, by decide, .inl mM⟩ takes0
    (fun W pn xe tk _ => pss_one (ps_ret (by exact pe_callS GS' hr rfl mS kS bS (fun σ => passAt tk σ) (by exact (pa_cons (pv 0) (pa_cons (pv 1) (pa_cons (pv 2) pa_nil)))))))
    (fun a oe cls d pn hz hf => pss_cons (ps_if (pt_val (by exact (pe_callB (call_isY hz hf) (by rfl) mi PyProof.Rows.boot_isinstance (pa_cons (pv 3) (pa_cons (pe_glob rfl EM.m (v := .ref CM) rfl) pa_nil))))) (pss_one (ps_ret (by exact (pe_tup (pa_cons pe_str (pa_cons (pe_xf EM.F EM.no hz hf (pv 3)) pa_nil)))))) pss_nil)
      (pss_cons (ps_if (pt_val (by exact (pe_callB (call_isY hz hf) (by rfl) mi PyProof.Rows.boot_isinstance (pa_cons (pv 3) (pa_cons (pe_glob rfl EW.m (v := .ref CW) rfl) pa_nil))))) (pss_one (ps_ret (by exact (pe_tup (pa_cons pe_str (pa_cons (pe_xf EW.F EW.no hz hf (pv 3)) pa_nil)))))) pss_nil)
      (pss_one (ps_ret (pe_tup (pa_cons pe_str (pa_cons pe_str pa_nil)))))))), ?_⟩
  refine ⟨_, rfl, _, rfl, _, rfl, a, d, vl, t, dp, rs, args, rfl, ha, hg, hz, hL, hd, hav, fun x hx H' s' => ?_, fun n hx dx H' hdx s' hxd => ?_, fun n hx dx H' hdx s' hxd => ?_⟩
  · exact q _ H' s' (by rw [hx]; rfl)
  · refine ⟨true, EM.ex, fun _ e he => ?_, fun z => Bool.noConfusion z⟩
    refine ⟨_, rfl, CM, true, rfl, rfl, EM.I, if_pos (by simp), dx, _, rfl, hxd, _, rfl, ?_⟩
    refine iteT ⟨_, rfl, rfl, rfl, dx, _, _, rfl, hxd, rfl, by show 2 ≤ sizeLine; decide, fun tp htp => ?_⟩
    exact q _ _ (s'.trans (same_new htp _)) (by rw [hx]; exact ⟨tp, rfl, upd_same⟩)
  · refine ⟨true, EW.ex, fun _ e he => ?_, fun z => Bool.noConfusion z⟩
    refine ⟨_, rfl, CW, false, rfl, rfl, EW.I, ne, dx, _, rfl, hxd, _, rfl, ?_⟩
    refine iteF ⟨_, rfl, CW, true, rfl, rfl, EW.I, if_pos (by simp), dx, _, rfl, hxd, _, rfl, ?_⟩
    refine iteT ⟨_, rfl, rfl, rfl, dx, _, _, rfl, hxd, rfl, by show 2 ≤ sizeLine; decide, fun tp htp => ?_⟩
    exact q _ _ (s'.trans (same_new htp _)) (by rw [hx]; exact ⟨tp, rfl, upd_same⟩)
end
end Mw

namespace Mw
open PySem L2
theorem evs_name {rs : List Rule} {args : Av} {n : Str} : ∀ {st : List En}, (∀ e ∈ st, ev rs args e.1 e.2 = .mis n ∨ ev rs args e.1 e.2 = .wr n → PyData.strOk n = true) → evs rs args st = .mis n ∨ evs rs args st = .wr n → PyData.strOk n = true
  | [], _, h => by rcases h with h | h <;> cases h
  | e :: st, hh, h => by
    have h : (ev rs args e.1 e.2).cat (evs rs args st) = .mis n ∨ (ev rs args e.1 e.2).cat (evs rs args st) = .wr n := h
    cases he : ev rs args e.1 e.2 with
    | mis m =>
      rw [he] at h
      rcases h with h | h
      · cases h
        exact hh e List.mem_cons_self (.inl he)
      · cases h
    | wr m =>
      rw [he] at h
      rcases h with h | h
      · cases h
      · cases h
        exact hh e List.mem_cons_self (.inr he)
    | ok s =>
      rw [he] at h
      refine evs_name (st := st) (fun x hx => hh x (List.mem_cons_of_mem _ hx)) ?_
      cases hr : evs rs args st with
      | ok s2 => rw [hr] at h; rcases h with h | h <;> cases h
      | mis m => rw [hr] at h; rcases h with h | h <;> cases h <;> exact .inl rfl
      | wr m => rw [hr] at h; rcases h with h | h <;> cases h <;> exact .inr rfl
theorem nm_ok : (∀ n ∈ names4, PyData.strOk n = true) ∧ (∀ n : Str, n = "w" ∨ n = "kind" ∨ n = "n" ∨ n = "count" → PyData.strOk n = true) := by
  refine ⟨by decide +kernel, fun n h => ?_⟩
  rcases h with rfl | rfl | rfl | rfl <;> decide +kernel
theorem ev_name {rs : List Rule} {args : Av} (ha : AvsOk args) {nn : Str} : ∀ (n : Nat) {t : T} {l : Option Int} {d : Nat} {i : Bool}, Gd t false d i → t.sz ≤ n → ev rs args t l = .mis nn ∨ ev rs args t l = .wr nn → PyData.strOk nn = true := by
  intro n
  induction n with
  | zero =>
    intro t l d i g hz h
    cases t with
    | nil => simp only [ev] at h; rcases h with h | h <;> cases h
    | _ => simp only [T.sz] at hz; omega
  | succ n ih =>
    intro t l d i g hz h
    rw [ev_nodes rs args l g] at h
    refine evs_name (fun e he hs' => ?_) h
    obtain ⟨u, hu, rfl⟩ := List.mem_map.mp he
    obtain ⟨gu, su⟩ := nodes_gd g u hu
    have uz := node_sz hu
    have hs' : ev rs args u l = .mis nn ∨ ev rs args u l = .wr nn := hs'
    cases u with
    | nil => cases su
    | cas k m r => cases gu.1
    | text x r =>
      cases (show r = .nil from su)
      simp only [ev, R.cat_unit] at hs'
      rcases hs' with h | h <;> cases h
    | num r =>
      cases (show r = .nil from su)
      simp only [ev, R.cat_unit] at hs'
      rcases hs' with h | h <;> cases h
    | shw m r =>
      cases (show r = .nil from su)
      simp only [ev, R.cat_unit] at hs'
      cases hv : aval args m with
      | none =>
        rw [hv] at hs'
        rcases hs' with h | h <;> cases h
        exact nm_ok.1 _ gu.2.1
      | some v =>
        rw [hv] at hs'
        rcases hs' with h | h <;> cases h
    | cho hd cs o r =>
      cases (show r = .nil from su)
      obtain ⟨_, ⟨e, j, rfl, hk, g1, g2⟩, _⟩ := gu
      have uz : 1 + cs.sz + o.sz + 0 ≤ t.sz := uz
      cases hk with
      | @sel nm _ _ hn hks =>
        have nok : PyData.strOk nm = true := nm_ok.2 nm (by rcases hn with h | h <;> simp [h])
        cases hv : aval args nm with
        | none =>
          simp only [ev_selm hv] at hs'
          rcases hs' with h | h <;> cases h
          exact nok
        | some v =>
          rcases ha nm v hv with ⟨sv, rfl, _⟩ | ⟨iv, rfl, _⟩
          · obtain ⟨c1, c2⟩ := chS_gd (s := sv) g1 g2
            simp only [ev_sel hv] at hs'
            exact ih c1 (by omega) hs'
          · simp only [ev_selw hv] at hs'
            rcases hs' with h | h <;> cases h
            exact nok
      | @plu nm off _ _ hn ho hks =>
        have nok : PyData.strOk nm = true := nm_ok.2 nm (by rcases hn with h | h <;> simp [h])
        cases hv : aval args nm with
        | none =>
          simp only [ev_plum hv] at hs'
          rcases hs' with h | h <;> cases h
          exact nok
        | some v =>
          rcases ha nm v hv with ⟨sv, rfl, _⟩ | ⟨iv, rfl, hib⟩
          · simp only [ev_pluw hv] at hs'
            rcases hs' with h | h <;> cases h
            exact nok
          · obtain ⟨c1, c2⟩ := chP_gd (rs := rs) (i := iv) (off := off) g1 g2
            simp only [ev_plu hv] at hs'
            exact ih c1 (by omega) hs'
theorem RV.same {H H' : Hp} (s : Same H H') : ∀ {r : R} {v : V}, RV H r v → RV H' r v
  | .ok _, _, h => h
  | .mis n, v, ⟨p, h1, h2⟩ => ⟨p, h1, s _ _ h2⟩
  | .wr n, v, ⟨p, h1, h2⟩ => ⟨p, h1, s _ _ h2⟩
/-- x != y, of scalars or of plain data -/
def rNeX (K : PySem.W.Frag) : V → V → Hp → VK → Prop := fun x y H Q => rNe x y H Q ∨ rNeD K x y H Q
theorem op_neX {X : Cx} (hu : X.A.units + 64 < cLine) : OpR X (compareOp .NotEq) (rNeX X.K) := by
  intro pins s σ H x y u v Q I rx ry h
  rcases h with h | h
  · exact op_ne pins s σ H x y u v Q I rx ry h
  · exact op_neD hu pins s σ H x y u v Q I rx ry h
theorem shaped_two {a n : Str} (ha : PyData.strOk a = true) (hn : PyData.strOk n = true) : SeqAt.shaped (.tuple [.str a, .str n]) = true := by
  unfold SeqAt.shaped
  rw [Bool.and_eq_true]
  refine ⟨?_, decide_eq_true (by simp [PyData.depth, PyData.depthAll])⟩
  simp only [PyData.canLay0, PyData.canLayAll0, ha, hn, Bool.and_self]
theorem told_ne {K : PySem.W.Frag} {H : Hp} {Q : VK} {r : R} {v1 v2 : V} (h1 : RV H r v1) (h2 : RV H r v2) (hn : ∀ n, r = .mis n ∨ r = .wr n → PyData.strOk n = true) (q : Q (.bl false) H) : rNeX K v1 v2 H Q := by
  cases r with
  | ok s =>
    have h1 : v1 = .str s := h1
    have h2 : v2 = .str s := h2
    subst h1 h2
    refine .inl ⟨rfl, ?_⟩
    rw [show (!decide (V.str s = V.str s)) = false by simp]
    exact q
  | mis n =>
    obtain ⟨p1, rfl, e1⟩ := h1
    obtain ⟨p2, rfl, e2⟩ := h2
    have sh := shaped_two (a := "missing") (by decide +kernel) (hn n (.inl rfl))
    refine .inr ⟨_, _, .tup (.inl (.inl e1)) (.cons (.str _) (.cons (.str _) .nil)), .tup (.inl (.inl e2)) (.cons (.str _) (.cons (.str _) .nil)), sh, sh, ?_⟩
    rw [SeqAt.eqv_refl _ (SeqAt.canLay_of_shaped sh)]
    exact q
  | wr n =>
    obtain ⟨p1, rfl, e1⟩ := h1
    obtain ⟨p2, rfl, e2⟩ := h2
    have sh := shaped_two (a := "wrong") (by decide +kernel) (hn n (.inr rfl))
    refine .inr ⟨_, _, .tup (.inl (.inl e1)) (.cons (.str _) (.cons (.str _) .nil)), .tup (.inl (.inl e2)) (.cons (.str _) (.cons (.str _) .nil)), sh, sh, ?_⟩
    rw [SeqAt.eqv_refl _ (SeqAt.canLay_of_shaped sh)]
    exact q
/-! ### a dict of arguments, written -/
def aput (l : Av) (n : Str) (v : V) : Av := if (l.any fun p => decide (p.1 = n)) = true then l.map (fun p => if p.1 = n then (p.1, v) else p) else l ++ [(n, v)]
theorem inr_dec (a b : Str) : (decide ((Sum.inr a : L2.Key) = Sum.inr b)) = decide (a = b) := by
  by_cases h : a = b
  · subst h
    simp
  · simp [h]
theorem put_akv (l : Av) (n : Str) (v : V) : putK (akv l) (Sum.inr n) v = akv (aput l n v) := by
  have a : ((akv l).any fun q => decide (q.1 = Sum.inr n)) = (l.any fun p => decide (p.1 = n)) := by
    unfold akv
    rw [List.any_map]
    congr 1
    funext p
    exact inr_dec _ _
  unfold putK aput
  rw [a]
  split
  · unfold akv
    rw [List.map_map, List.map_map]
    refine List.map_congr_left fun p _ => ?_
    show (if (Sum.inr p.1 : L2.Key) = Sum.inr n then ((Sum.inr p.1 : L2.Key), v) else (Sum.inr p.1, p.2)) = _
    by_cases h : p.1 = n
    · simp [h]
    · simp [h]
  · unfold akv
    rw [List.map_append]
    rfl
theorem aput_mem {l : Av} {n : Str} {v : V} : ∀ p ∈ aput l n v, p ∈ l ∨ p.2 = v := by
  intro p hp
  unfold aput at hp
  split at hp
  · obtain ⟨q, hq, rfl⟩ := List.mem_map.mp hp
    by_cases h : q.1 = n
    · simp [h]
    · simp [h, hq]
  · rcases List.mem_append.mp hp with h | h
    · exact .inl h
    · rw [List.mem_singleton.mp h]
      exact .inr rfl
theorem aput_len {l : Av} {n : Str} {v : V} : (aput l n v).length ≤ l.length + 1 := by
  unfold aput
  split
  · rw [List.length_map]; omega
  · rw [List.length_append]; exact Nat.le_refl _
def AllAv (l : Av) : Prop := ∀ p ∈ l, AvOk p.2
theorem AllAv.put {l : Av} {n : Str} {v : V} (h : AllAv l) (hv : AvOk v) : AllAv (aput l n v) := fun p hp => by
  rcases aput_mem p hp with z | z
  · exact h p z
  · rw [z]; exact hv
theorem AllAv.ok {l : Av} (h : AllAv l) : AvsOk l := fun n v hv => by
  unfold aval at hv
  cases hf : l.find? fun p => decide (p.1 = n) with
  | none => rw [hf] at hv; cases hv
  | some p =>
    rw [hf] at hv
    cases hv
    exact h p (List.mem_of_find?_eq_some hf)
end Mw

namespace Mw
open PySem L2
theorem hids_out {L : List Addr} {H : Hp} : Same (hids L H) H := fun _ _ h => (hids_in h).2
theorem hids_go {B : Addr} {H H1 : Hp} (g : Go B H H1) : Same (hids [B] H) (hids [B] H1) := fun a o h => by
  obtain ⟨h1, h2⟩ := hids_in h
  rw [hids_ne h1]
  exact g.ext a o (by simpa using h1) h2
theorem fr_hids {B : Addr} {H0 H : Hp} {ob : HO} (hB : H0 B = some ob) : Same (fr H0 H) (hids [B] H) := fun a o h => by
  obtain ⟨h0, h1⟩ := fr_in h
  rw [hids_ne (by simp; rintro rfl; rw [hB] at h0; cases h0)]
  exact h1
section
variable {P : Program} {w : World} {K : PySem.W.Frag} {mg : Str → Option Value} {base : Heap} {C : Addr}
abbrev sLaw : Stmt := top 44
abbrev nLaw : List Str := ["script", "box", "message", "rules", "language", "turn", "arguments", "name", "value", "node"]
theorem scLaw : FnScope nLaw ["script"] (defScope sLaw) := ⟨rfl, rfl, rfl, by decide +kernel, rfl, by decide +kernel, by decide +kernel⟩
def spLaw (K : PySem.W.Frag) : Sp := fun vs H Q _ => ∃ (a : Addr) (ns : List Int), vs = [.ref a] ∧ SqL K H a (ns.map V.int) ∧ ∀ H', Q (.bl true) H'
/-- what stays from turn to turn -/
structure St0 (C B d r : Addr) (t : T) (rs : List Rule) (vr vl : V) (H : Hp) : Prop where
  b : Box H B d
  m : At (hids [B] H) r t
  r : RusAt (hids [B] H) rs vr
  l : LanAt C (hids [B] H) rs vl
theorem St0.go {C B d r : Addr} {t : T} {rs : List Rule} {vr vl : V} {H H' : Hp} (h : St0 C B d r t rs vr vl H) (g : Go B H H') (b : Box H' B d) : St0 C B d r t rs vr vl H' :=
  ⟨b, h.m.same (hids_go g), h.r.same (hids_go g), h.l.same (hids_go g)⟩
theorem St0.same {C B d r : Addr} {t : T} {rs : List Rule} {vr vl : V} {H H' : Hp} (h : St0 C B d r t rs vr vl H) (s : Same H H') : St0 C B d r t rs vr vl H' := h.go (Go.same s) (h.b.same s)
abbrev nms : List V := [.str "n", .str "count", .str "w", .str "kind", .str "who"]
/-- within a turn -/
structure Inn (C B d r dd nl : Addr) (t : T) (rs : List Rule) (vr vl : V) (H4 H : Hp) (args : Av) (k : Nat) : Prop where
  st : St0 C B d r t rs vr vl H
  g : Go B H4 H
  n : H nl = some (.lst nms)
  a : H dd = some (.dK (akv args))
  av : AllAv args
  ln : args.length ≤ k
  nB : nl ≠ B
  dB : dd ≠ B
  dD : dd ≠ d
  h0 : H4 dd = none
  nd : nl ≠ dd
theorem Inn.go {C B d r dd nl : Addr} {t : T} {rs : List Rule} {vr vl : V} {H4 H H' : Hp} {args : Av} {k : Nat} (h : Inn C B d r dd nl t rs vr vl H4 H args k) (g : Go B H H') (b : Box H' B d) : Inn C B d r dd nl t rs vr vl H4 H' args k :=
  ⟨h.st.go g b, h.g.trans g, g.ext _ _ h.nB h.n, g.ext _ _ h.dB h.a, h.av, h.ln, h.nB, h.dB, h.dD, h.h0, h.nd⟩
theorem Inn.same {C B d r dd nl : Addr} {t : T} {rs : List Rule} {vr vl : V} {H4 H H' : Hp} {args : Av} {k : Nat} (h : Inn C B d r dd nl t rs vr vl H4 H args k) (s : Same H H') : Inn C B d r dd nl t rs vr vl H4 H' args k := h.go (Go.same s) (h.st.b.same s)
theorem Inn.mono {C B d r dd nl : Addr} {t : T} {rs : List Rule} {vr vl : V} {H4 H : Hp} {args : Av} {k k' : Nat} (h : Inn C B d r dd nl t rs vr vl H4 H args k) (e : k ≤ k') : Inn C B d r dd nl t rs vr vl H4 H args k' :=
  ⟨h.st, h.g, h.n, h.a, h.av, Nat.le_trans h.ln e, h.nB, h.dB, h.dD, h.h0, h.nd⟩
theorem hids_upd {B l : Addr} {H H' : Hp} (s : Same (hids [B] H) (hids [B] H')) (h : hids [B] H l = none) (o : HO) : Same (hids [B] H) (hids [B] (upd H' l o)) := fun a u e => by
  obtain ⟨h1, h2⟩ := hids_in (s a u e)
  rw [hids_ne h1, upd_ne (fun z => by rw [z, h] at e; cases e)]
  exact h2
theorem val_ok1 {x : Str} (h : x ∈ (["a", "one", "other", "zz", ""] : List Str)) : AvOk (.str x) := by
  have a : ∀ s ∈ (["a", "one", "other", "zz", ""] : List Str), s.length ≤ 100 := by decide +kernel
  exact .inl ⟨x, rfl, a x h⟩
theorem val_ok3 {v : V} (h : v ∈ ([V.int 7, V.str "a"] : List V)) : AvOk v := by
  simp only [List.mem_cons, List.not_mem_nil, or_false] at h
  rcases h with rfl | rfl
  · exact .inr ⟨7, rfl, by decide⟩
  · exact .inl ⟨"a", rfl, by decide +kernel⟩
theorem ok_law {f fG fW fU fF fD fI fT fS fC fX fN CM CW : Addr} {fd fdG fdW fdU fdF fdD fdI fdT fdS fdC fdX fdN : FuncData} (F : Fun K "law" "law" sLaw f fd)
    (gG : FnOk P w K mg base CX0 2 fG fdG ["script", "first", "last"] (spDigits K)) (bG : Binds K fdG ["script", "first", "last"] []) (kG : PySem.W.keepIn K (.ref fG) = true) (mG : mg "_law_digits" = some (.ref fG))
    (gW : FnOk P w K mg base CX0 7 fW fdW ["box", "depth", "inside"] (spMsg 2)) (bW : Binds K fdW ["box", "depth", "inside"] []) (kW : PySem.W.keepIn K (.ref fW) = true) (mW : mg "_law_message" = some (.ref fW))
    (gU : FnOk P w K mg base CX0 4 fU fdU ["box"] spLu) (bU : Binds K fdU ["box"] []) (kU : PySem.W.keepIn K (.ref fU) = true) (mU : mg "_law_rules" = some (.ref fU))
    (M : Mk K C fI) (mC : mg "Language" = some (.ref C)) (gI : FnOk P w K mg base CX0 2 fI fdI ["self", "rules"] (spLi C)) (bI : Binds K fdI ["self", "rules"] [])
    (gF : FnOk P w K mg base CX0 2 fF fdF ["box"] spFar) (bF : Binds K fdF ["box"] []) (kF : PySem.W.keepIn K (.ref fF) = true) (mF : mg "_law_far" = some (.ref fF))
    (gD : FnOk P w K mg base CX0 1 fD fdD ["box", "many"] spDraw) (bD : Binds K fdD ["box", "many"] []) (kD : PySem.W.keepIn K (.ref fD) = true) (mD : mg "_law_draw" = some (.ref fD))
    (gT : FnOk P w K mg base CX0 6 fT fdT ["message", "language", "arguments"] (spTold C)) (bT : Binds K fdT ["message", "language", "arguments"] []) (kT : PySem.W.keepIn K (.ref fT) = true) (mT : mg "_law_told" = some (.ref fT))
    (gS : FnOk P w K mg base CX0 6 fS fdS ["message", "rules", "arguments", "left"] (spLs 3)) (bS : Binds K fdS ["message", "rules", "arguments", "left"] []) (kS : PySem.W.keepIn K (.ref fS) = true) (mS : mg "_law_show" = some (.ref fS))
    (gC : FnOk P w K mg base CX0 4 fC fdC ["node", "language", "number"] (spCt C)) (bC : Binds K fdC ["node", "language", "number"] []) (kC : PySem.W.keepIn K (.ref fC) = true) (mCt : mg "counted" = some (.ref fC))
    (gX : FnOk P w K mg base CX0 3 fX fdX ["node", "rules", "value"] spLch) (bX : Binds K fdX ["node", "rules", "value"] []) (kX : PySem.W.keepIn K (.ref fX) = true) (mX : mg "_law_chosen" = some (.ref fX))
    (gN : FnOk P w K mg base (L2.CX P w) 5 fN fdN ["message", "language", "arguments"] (spSh C CM CW)) (bN : Binds K fdN ["message", "language", "arguments"] []) (kN : PySem.W.keepIn K (.ref fN) = true) (mN : mg "shown" = some (.ref fN))
    (mr : mg "range" = none) :
    FnOk P w K mg base CX0 8 f fd ["script"] (spLaw K) := by
  refine F.ok scLaw (fun vs H Q E h => ?_) (fun cdv A outer s H vs Q E hr h => ?_)
  · obtain ⟨a, ns, rfl, _⟩ := h
    rfl
  obtain ⟨a, ns, rfl, hS, q⟩ := h
  have nd := scLaw.nd
  have hu := hu_of hr
  refine ⟨_, pss_cons (ps_set (i := 1) nd rfl (.inl rfl) (pe_lst (pa_cons (pe_call gG (hr.mono (by decide)) rfl mG kG bG .nil pass0 (pa_cons (pv 0) (pa_cons pe_int (pa_cons pe_int pa_nil)))) (pa_cons pe_int pa_nil))))
    (pss_cons (ps_set (i := 2) nd rfl (.inl rfl) (pe_call gW (hr.mono (by decide)) rfl mW kW bW .nil pass0 (pa_cons (pv 1) (pa_cons pe_int (pa_cons pe_bl pa_nil)))))
    (pss_cons (ps_set (i := 3) nd rfl (.inl rfl) (pe_call gU (hr.mono (by decide)) rfl mU kU bU .nil pass0 (pa_cons (pv 1) pa_nil)))
    (pss_cons (ps_set (i := 4) nd rfl (.inl rfl) (pe_make M gI (hr.mono (by decide)) rfl mC bI .nil pass0 (pa_cons (pv 3) pa_nil)))
    (pss_cons (ps_for PassesOwn.never rfl (pi_range1 rfl mr (pa_cons pe_int pa_nil)) (pg_name (i := 5) nd rfl (.inl rfl))
      (pss_cons (ps_set (i := 6) nd rfl (.inl rfl) pe_dnewK)
      (pss_cons (ps_for PassesOwn.never rfl (pi_list (pe_lst (pa_cons pe_str (pa_cons pe_str (pa_cons pe_str (pa_cons pe_str (pa_cons pe_str pa_nil))))))) (pg_name (i := 7) nd rfl (.inl rfl))
        (pss_cons (ps_set (i := 8) nd rfl (.inl rfl) (pe_ix ix_list (pe_lst (pa_cons pe_str (pa_cons pe_str (pa_cons pe_str (pa_cons pe_str (pa_cons pe_str pa_nil)))))) (pe_call gD (hr.mono (by decide)) rfl mD kD bD .nil pass0 (pa_cons (pv 1) (pa_cons pe_int pa_nil))) (fun _ _ => rfl)))
        (Evl.pss_cut (ps_if (pt_cmpR op_in_seq (pv 7) (pe_tup (pa_cons pe_str (pa_cons pe_str pa_nil))) (by rfl))
          (pss_one (ps_set (i := 8) nd rfl (.inl rfl) (pe_ix ix_list (pe_lst (pa_cons (pe_call gD (hr.mono (by decide)) rfl mD kD bD .nil pass0 (pa_cons (pv 1) (pa_cons pe_int pa_nil))) (pa_cons (pe_call gD (hr.mono (by decide)) rfl mD kD bD .nil pass0 (pa_cons (pv 1) (pa_cons pe_int pa_nil))) (pa_cons (pe_call gF (hr.mono (by decide)) rfl mF kF bF .nil pass0 (pa_cons (pv 1) pa_nil)) pa_nil)))) (pe_call gD (hr.mono (by decide)) rfl mD kD bD .nil pass0 (pa_cons (pv 1) (pa_cons pe_int pa_nil))) (fun _ _ => rfl)))) pss_nil)
        (Evl.pss_cut (ps_if (pt_cmpR op_eq (pe_call gD (hr.mono (by decide)) rfl mD kD bD .nil pass0 (pa_cons (pv 1) (pa_cons pe_int pa_nil))) pe_int (nomark _))
          (pss_one (ps_set (i := 8) nd rfl (.inl rfl) (pe_ix ix_list (pe_lst (pa_cons pe_int (pa_cons pe_str pa_nil))) (pe_call gD (hr.mono (by decide)) rfl mD kD bD .nil pass0 (pa_cons (pv 1) (pa_cons pe_int pa_nil))) (fun _ _ => rfl)))) pss_nil)
        (pss_one (ps_if (pt_cmpR op_gt (pe_call gD (hr.mono (by decide)) rfl mD kD bD .nil pass0 (pa_cons (pv 1) (pa_cons pe_int pa_nil))) pe_int (nomark _))
          (pss_one (ps_dput hu (pv 6) (pv 7) (pv 8) rfl)) pss_nil))))))
      (pss_one (ps_if (pt_cmpR (op_neX hr.units) (pe_call gT (hr.mono (by decide)) rfl mT kT bT .nil pass0 (pa_cons (pv 2) (pa_cons (pv 4) (pa_cons (pv 6) pa_nil)))) (pe_call gS (hr.mono (by decide)) rfl mS kS bS .nil pass0 (pa_cons (pv 2) (pa_cons (pv 3) (pa_cons (pv 6) (pa_cons pe_non pa_nil))))) (nomark _))
        (pss_one (ps_ret pe_bl)) pss_nil)))))
    (pss_cons (ps_for PassesOwn.never rfl (pi_list (pv 2)) (pg_name (i := 9) nd rfl (.inl rfl))
      (pss_one (ps_if (PW.pt (pw_and (pt_cmpR op_eq (pe_ix ix_tup (pv 9) pe_int (fun _ _ => rfl)) pe_str (nomark _)) (pw_and1 (pt_cmpR (op_neD hr.units) (pe_call gC (hr.mono (by decide)) rfl mCt kC bC .nil pass0 (pa_cons (pv 9) (pa_cons (pv 4) (pa_cons pe_int pa_nil)))) (pe_call gX (hr.mono (by decide)) rfl mX kX bX .nil pass0 (pa_cons (pv 9) (pa_cons (pv 3) (pa_cons pe_int pa_nil)))) (nomark _)))))
        (pss_one (ps_ret pe_bl)) pss_nil)))
    (pss_one (ps_ret (pe_cmpR op_eq (pe_call gN (hr.mono (by decide)) rfl mN kN bN .nil passL (pa_cons (pe_lst pa_nil) (pa_cons (pv 4) (pa_cons pe_dnewK pa_nil)))) pe_str (nomark _))))))))), ?_⟩
  refine ⟨_, rfl, a, ns, rfl, hS, fun d H1 ds hd0 s1 hd => ⟨by show 2 ≤ sizeLine; decide, fun B hB => ?_⟩⟩
  have ndB : d ≠ B := ne_of_none hd hB
  generalize hH0 : upd H1 B (.lst [.ref d, .int 0]) = H0
  have hB0 : H0 B = some (.lst [.ref d, .int 0]) := by rw [← hH0]; exact upd_same
  have hbox : Box H0 B d := ⟨ds, 0, hB0, by rw [← hH0, upd_ne ndB]; exact hd, Int.le_refl 0⟩
  refine ⟨_, rfl, B, d, false, rfl, hbox, fun r H2 t g2 b2 hat hgd hsz hlen => ?_⟩
  have tz : t.sz < 80000 := Nat.lt_of_le_of_lt hsz (by decide)
  obtain ⟨tw, tok, td⟩ := Gd.all hgd fun e => by cases e
  have hat2 : At (hids [B] H2) r t := hat.same (fr_hids hB0)
  obtain ⟨ob2, hB2⟩ := b2.isB
  refine ⟨_, rfl, B, d, rfl, b2, fun vr rs H3 g3 b3 hrs => ?_⟩
  have hat3 : At (hids [B] H3) r t := hat2.same (hids_go g3)
  have hrs3 : RusAt (hids [B] H3) rs vr := hrs.same (fr_hids hB2)
  refine ⟨_, rfl, fun o dx ho hdx ne => ?_⟩
  have S2 : Same H3 (upd (upd H3 dx (.own o)) o (.ins C dx [])) := same_mut (same_new hdx _) ho _
  have oB := b3.neB ho
  have i2 : In [B] (upd (upd H3 dx (.own o)) o (.ins C dx [])) := fun b hb => by
    rw [List.mem_singleton] at hb
    subst hb
    exact (b3.same S2).isB
  refine ⟨o, dx, vr, rs, [B], rfl, upd_same, i2, hrs3.same (hids_add ho S2), fun q3 HL k3 ho3 hq3 => ⟨rfl, ?_⟩⟩
  have S3 : Same H3 HL := fun b u h => k3 b u (S2 b u h) (by rintro rfl; rw [ho] at h; cases h)
  have st3 : St0 C B d r t rs vr (.ref o) HL := ⟨b3.same S3, hat3.same (hids_same S3), hrs3.same (hids_same S3), ⟨o, dx, q3, rfl, by rw [hids_ne (by simpa using oB)]; exact ho3, hq3.same hids_drop⟩⟩
  refine ⟨5, rfl, by decide, by decide, for_range (lo := 0) (n := 5) (fun i σ H' => (∃ o5 o6 o7 o8 o9, σ = [some (.ref a), some (.ref B), some (.ref r), some vr, some (.ref o), o5, o6, o7, o8, o9]) ∧ St0 C B d r t rs vr (.ref o) H') ⟨⟨_, _, _, _, _, rfl⟩, st3⟩ ?_ ?_⟩
  · rintro i σ H4 hi ⟨⟨o5, o6, o7, o8, o9, rfl⟩, st4⟩
    intro dd hdd
    have sd : Same H4 (upd H4 dd (.dK [])) := same_new hdd _
    refine ⟨by show 5 ≤ sizeLine; decide, fun nl hnl => ⟨nl, rfl, ⟨_, SqL.of upd_same⟩, ?_⟩⟩
    have sn : Same (upd H4 dd (.dK [])) (upd (upd H4 dd (.dK [])) nl (.lst nms)) := same_new hnl _
    have nnd : nl ≠ dd := (ne_of_none upd_same hnl).symm
    have inn0 : Inn C B d r dd nl t rs vr (.ref o) H4 (upd (upd H4 dd (.dK [])) nl (.lst nms)) [] 0 :=
      ⟨st4.same (sd.trans sn), Go.same (sd.trans sn), upd_same, sn _ _ upd_same, (fun p hp => by cases hp), Nat.le_refl _, st4.b.neB (sd.free hnl), st4.b.neB hdd, st4.b.neD hdd, hdd, nnd⟩
    refine for_list (xs := nms) (fun k σ H' => ∃ (args : Av) (o7 o8 o9 : Option V), σ = [some (.ref a), some (.ref B), some (.ref r), some vr, some (.ref o), some (.int (0 + i)), some (.ref dd), o7, o8, o9] ∧ Inn C B d r dd nl t rs vr (.ref o) H4 H' args k) ⟨[], _, _, _, rfl, inn0⟩ (fun k σ H' _ ⟨_, _, _, _, _, h⟩ => SqL.of h.n) ?_ ?_
    · rintro k x σ H5 hx ⟨args, o7, o8, o9, rfl, inn⟩
      obtain ⟨nm, rfl⟩ : ∃ nm, x = V.str nm := by
        have := List.mem_of_getElem? hx
        simp only [nms, List.mem_cons, List.not_mem_nil, or_false] at this
        rcases this with rfl | rfl | rfl | rfl | rfl <;> exact ⟨_, rfl⟩
      refine ⟨by show 5 ≤ sizeLine; decide, fun l hl => ?_⟩
      have lB := inn.st.b.neB hl
      have inn1 := inn.same (same_new hl (.lst [.str "a", .str "one", .str "other", .str "zz", .str ""]))
      refine ⟨_, rfl, B, d, 5, rfl, by decide, inn1.st.b, fun z H6 z0 z1 g6 b6 => ?_⟩
      have inn2 := inn1.go g6 b6
      obtain ⟨x, hx', hat⟩ := pick (l := (["a", "one", "other", "zz", ""] : List Str)) (g := V.str) (z := z) z0 (by show z < ((5 : Nat) : Int); omega)
      refine ⟨l, _, z, .str x, rfl, rfl, SqL.of (g6.ext _ _ lB upd_same), hat, ?_⟩
      have avx := val_ok1 hx'
      refine ⟨fun σ H' => ∃ v, AvOk v ∧ σ = [some (.ref a), some (.ref B), some (.ref r), some vr, some (.ref o), some (.int (0 + i)), some (.ref dd), some (.str nm), some v, o9] ∧ Inn C B d r dd nl t rs vr (.ref o) H4 H' args k, ?_, ?_⟩
      · refine ⟨_, rfl, by show 2 ≤ sizeLine; decide, fun tp htp => ⟨tp, _, rfl, .inr (.inl (.inl upd_same)), rfl, rfl, _, rfl, ?_⟩⟩
        have inn3 := inn2.same (same_new htp (.tup [.str "n", .str "count"]))
        refine ite2 (fun c => ?_) (fun c => ⟨_, avx, rfl, inn3⟩)
        refine ⟨_, rfl, B, d, 4, rfl, by decide, inn3.st.b, fun y1 H7 y10 y11 g7 b7 => ?_⟩
        have inn4 := inn3.go g7 b7
        refine ⟨_, rfl, B, d, 30, rfl, by decide, b7, fun y2 H8 y20 y21 g8 b8 => ?_⟩
        have inn5 := inn4.go g8 b8
        refine ⟨_, rfl, B, d, rfl, b8, fun y3 H9 y30 y31 g9 b9 => ?_⟩
        have inn6 := inn5.go g9 b9
        refine ⟨by show 3 ≤ sizeLine; decide, fun l2 hl2 => ?_⟩
        have l2B := b9.neB hl2
        have inn7 := inn6.same (same_new hl2 (.lst [.int y1, .int y2, .int y3]))
        refine ⟨_, rfl, B, d, 3, rfl, by decide, inn7.st.b, fun z2 HA z20 z21 gA bA => ?_⟩
        obtain ⟨x2, hx2, hat2⟩ := pick (l := ([y1, y2, y3] : List Int)) (g := V.int) (z := z2) z20 (by show z2 < ((3 : Nat) : Int); omega)
        refine ⟨l2, _, z2, .int x2, rfl, rfl, SqL.of (gA.ext _ _ l2B upd_same), hat2, ?_⟩
        refine ⟨_, .inr ⟨x2, rfl, ?_⟩, rfl, inn7.go gA bA⟩
        have e1 : (10 : Nat) ^ 13 < 10 ^ 20 := by decide
        have e2 : (10 : Int) ^ 13 = ((10 ^ 13 : Nat) : Int) := by decide
        simp only [List.mem_cons, List.not_mem_nil, or_false] at hx2
        rcases hx2 with rfl | rfl | rfl <;> omega
      rintro σ H7 ⟨v, avv, rfl, inn3⟩
      refine ⟨fun σ H' => ∃ v, AvOk v ∧ σ = [some (.ref a), some (.ref B), some (.ref r), some vr, some (.ref o), some (.int (0 + i)), some (.ref dd), some (.str nm), some v, o9] ∧ Inn C B d r dd nl t rs vr (.ref o) H4 H' args k, ?_, ?_⟩
      · refine ⟨_, rfl, B, d, 20, rfl, by decide, inn3.st.b, fun y H8 y0 y1 g8 b8 => ⟨rfl, _, rfl, ?_⟩⟩
        have inn4 := inn3.go g8 b8
        refine ite2 (fun c => ?_) (fun c => ⟨_, avv, rfl, inn4⟩)
        refine ⟨by show 2 ≤ sizeLine; decide, fun l2 hl2 => ?_⟩
        have l2B := b8.neB hl2
        have inn5 := inn4.same (same_new hl2 (.lst [.int 7, .str "a"]))
        refine ⟨_, rfl, B, d, 2, rfl, by decide, inn5.st.b, fun z2 HA z20 z21 gA bA => ?_⟩
        obtain ⟨x2, hx2, hat2⟩ := pick (l := ([V.int 7, V.str "a"] : List V)) (g := id) (z := z2) z20 (by show z2 < ((2 : Nat) : Int); omega)
        refine ⟨l2, _, z2, x2, rfl, rfl, SqL.of (gA.ext _ _ l2B upd_same), hat2, ?_⟩
        exact ⟨_, val_ok3 hx2, rfl, inn5.go gA bA⟩
      rintro σ H8 ⟨v, avv, rfl, inn4⟩
      refine ⟨_, rfl, B, d, 20, rfl, by decide, inn4.st.b, fun y H9 y0 y1 g9 b9 => ⟨_, _, rfl, rfl, _, rfl, ?_⟩⟩
      have inn5 := inn4.go g9 b9
      refine ite2 (fun c => ?_) (fun c => ⟨args, _, _, _, rfl, inn5.mono (by omega)⟩)
      have hk : k < 5 := get_lt hx
      refine ⟨_, rfl, _, rfl, _, rfl, dd, _, rfl, DPut.k (k := Sum.inr nm) inn5.a (sz_line (by unfold akv; rw [List.length_map]; have := inn5.ln; omega)), ?_⟩
      rw [put_akv]
      refine ⟨aput args nm v, _, _, _, rfl, ?_⟩
      have su : ∀ oo, Same (hids [B] H4) (hids [B] (upd H9 dd oo)) := hids_upd (hids_go inn5.g) (by rw [hids_ne (by simpa using inn5.dB)]; exact hdd)
      exact ⟨⟨inn5.st.b.mut inn5.dB inn5.dD _, st4.m.same (su _), st4.r.same (su _), st4.l.same (su _)⟩, inn5.g.mut hdd _, by rw [upd_ne nnd]; exact inn5.n, upd_same, inn5.av.put avv, Nat.le_trans aput_len (Nat.succ_le_succ inn5.ln), inn5.nB, inn5.dB, inn5.dD, hdd, nnd⟩
    · rintro σ H5 ⟨args, o7, o8, o9, rfl, inn⟩
      have aok := inn.av.ok
      refine ⟨_, rfl, _, rfl, _, rfl, r, dd, .ref o, t, 2, rs, args, rfl, inn.st.m.same hids_out, hgd, tz, inn.st.l.same hids_out, inn.a, aok, fun v1 H6 s6 h1 => ?_⟩
      have inn6 := inn.same s6
      refine ⟨_, rfl, _, rfl, _, rfl, H6, r, dd, t, 2, false, none, rs, vr, args, rfl, Same.refl _, inn6.st.m.same hids_out, hgd, by decide, by decide, (fun z => by cases z), tz, inn6.st.r.same hids_out, inn6.a, aok, fun v2 H7 s7 h2 => ?_⟩
      refine told_ne (h1.same s7) h2 (fun n hn => ev_name aok t.sz hgd (Nat.le_refl _) hn) ⟨_, rfl, ?_⟩
      exact ⟨⟨_, _, _, _, _, rfl⟩, (inn6.same s7).st⟩
  · rintro σ H4 ⟨⟨o5, o6, o7, o8, o9, rfl⟩, st4⟩
    obtain ⟨mvs, hr4, hmn⟩ := st4.m.same hids_out
    have mNs := hmn.ns
    refine ⟨_, rfl, r, rfl, ⟨_, SqL.of hr4⟩, for_list (xs := mvs) (fun k σ H' => Same H4 H' ∧ ∃ o9, σ = [some (.ref a), some (.ref B), some (.ref r), some vr, some (.ref o), o5, o6, o7, o8, o9]) ⟨Same.refl _, _, rfl⟩ (fun k σ H' _ ⟨s', _⟩ => SqL.of (s' _ _ hr4)) ?_ ?_⟩
    · rintro k x σ H5 hx ⟨s5, o9, rfl⟩
      obtain ⟨u, hu, hun⟩ := mNs.get hx
      have hum : u ∈ t.nodes := List.mem_of_getElem? hu
      obtain ⟨gu, su⟩ := nodes_gd hgd u hum
      have uz := node_sz hum
      have st5 := st4.same s5
      obtain ⟨p, y, ys, rfl, hp, _, _, _⟩ := node_of hun gu.wfm
      refine ⟨_, rfl, p, _, 0, .str y, rfl, rfl, .inl (.inl (s5 _ _ hp)), atI_nat (j := 0) rfl, rfl, _, rfl, ?_⟩
      refine ite2 (fun c => ?_) (fun c => iteF ⟨s5, _, rfl⟩)
      have hy : V.str y = V.str "plural" := of_decide_eq_true c
      obtain ⟨uw, usok, udp⟩ := Gd.all gu fun e => by cases e
      have hp2 : ∀ {xs : List V} {x : Str}, H4 p = some (.tup (.str x :: xs)) → x = "plural" := fun {xs x} h => by
        rw [hp] at h
        cases h
        cases hy
        rfl
      cases u with
      | nil => cases su
      | cas k m r => cases gu.1
      | text sx r =>
        obtain ⟨p', ws, e, h1, _⟩ := hun
        cases e
        exact absurd (hp2 h1) (by decide +kernel)
      | num r =>
        obtain ⟨p', ws, e, h1, _⟩ := hun
        cases e
        exact absurd (hp2 h1) (by decide +kernel)
      | shw n r =>
        obtain ⟨p', ws, e, h1, _⟩ := hun
        cases e
        exact absurd (hp2 h1) (by decide +kernel)
      | cho hd' cs oo rr =>
        cases (show rr = .nil from su)
        obtain ⟨p', ws, ca, cvs, oa, ovs, e, h1, hca, hcs, hoa, hos, _⟩ := hun
        cases e
        have gu' := gu
        obtain ⟨_, ⟨e', j, he', hk, g1, g2⟩, _⟩ := gu'
        have uz : 1 + cs.sz + oo.sz + 0 ≤ t.sz := uz
        have dcs : cs.dep ≤ 10 := by
          simp only [T.dep] at udp
          omega
        cases hk with
        | sel hn hks => exact absurd (hp2 h1) (by decide +kernel)
        | @plu nm off _ _ hn hoff hks =>
          refine ⟨_, rfl, _, rfl, H4, p, ca, oa, nm, off, 3, cvs, cs, oo, rs, .ref o, rfl, s5, h1, hca, hcs, uw.2.2.1, ⟨ovs, hoa, hos⟩, st5.l.same hids_out, fun a1 H6 s6 ha1 => ?_⟩
          have s46 := s5.trans s6
          have st6 := st5.same s6
          refine ⟨_, rfl, _, rfl, H4, p, ca, oa, _, cvs, cs, oo, rs, vr, _, rfl, s46, h1, hca, hcs, uw.2.2.1, usok.2.2.1, dcs, by omega, ⟨ovs, hoa, hos⟩, st6.r.same hids_out, .inr ⟨nm, off, 3, rfl, rfl, fun a2 H7 s7 ha2 => ?_⟩⟩
          have s47 := s46.trans s7
          obtain ⟨c1, _⟩ := chP_gd (rs := rs) (i := 3) (off := off) g1 g2
          obtain ⟨cw, csok, cdp⟩ := Gd.all c1 fun e => by cases e
          have sh := shaped_of csok cw (by omega)
          refine ⟨_, _, (ha1.same s47).dp csok, (ha2.same s47).dp csok, sh, sh, ?_⟩
          rw [SeqAt.eqv_refl _ (SeqAt.canLay_of_shaped sh)]
          exact ⟨_, rfl, s47, _, rfl⟩
    · rintro σ H5 ⟨s5, o9, rfl⟩
      have st5 := st4.same s5
      refine ⟨Nat.zero_le _, fun el hel => ?_⟩
      have e1 : Same H5 (upd H5 el (.lst [])) := same_new hel _
      refine ⟨_, rfl, fun ed hed => ?_⟩
      have e2 : Same (upd H5 el (.lst [])) (upd (upd H5 el (.lst [])) ed (.dK [])) := same_new hed _
      have st6 := st5.same (e1.trans e2)
      have e0 : ev rs ([] : Av) .nil none = .ok "" := by simp only [ev]
      refine ⟨el, ed, .ref o, .nil, 0, rs, [], rfl, ⟨[], e2 _ _ upd_same, rfl⟩, trivial, by decide, st6.l.same hids_out, upd_same, (fun n v h => by cases h), fun sx hs H7 s7 => ?_, (fun n h => by rw [e0] at h; cases h), (fun n h => by rw [e0] at h; cases h)⟩
      rw [e0] at hs
      cases hs
      refine ⟨rfl, ?_⟩
      exact q H7
end
end Mw

namespace Mw
open PySem L2
theorem both {P : Program} {w : World} {K : PySem.W.Frag} {mg : Str → Option Value} {base : Heap} {fD fT fS fP fM : Addr} {fdD fdT fdS fdP fdM : FuncData}
    (GD : FnOk P w K mg base CX0 1 fD fdD ["box", "many"] spDraw) (bD : Binds K fdD ["box", "many"] []) (kD : PySem.W.keepIn K (.ref fD) = true) (mD : mg "_law_draw" = some (.ref fD))
    (GT : FnOk P w K mg base CX0 2 fT fdT ["box"] spString) (bT : Binds K fdT ["box"] []) (kT : PySem.W.keepIn K (.ref fT) = true) (mT : mg "_law_string" = some (.ref fT))
    (FS : Fun K "_law_select" "_law_select" sSel fS fdS) (bS : Binds K fdS ["box", "depth", "inside"] []) (mS : mg "_law_select" = some (.ref fS))
    (FP : Fun K "_law_plural" "_law_plural" sPlu fP fdP) (bP : Binds K fdP ["box", "depth"] []) (mP : mg "_law_plural" = some (.ref fP))
    (FM : Fun K "_law_message" "_law_message" sMsg fM fdM) (bM : Binds K fdM ["box", "depth", "inside"] []) (mM : mg "_law_message" = some (.ref fM)) (mr : mg "range" = none) (ml : mg "len" = none) :
    ∀ d, FnOk P w K mg base CX0 (2 * d + 3) fM fdM ["box", "depth", "inside"] (spMsg d)
  | 0 => ok_msg (k := 2) (Nat.le_refl _) FM GD bD kD mD GT bT kT mT ((none_left fun vs H Q E ⟨_, _, _, e, h, _⟩ => by omega).mono (Nat.zero_le _)) bS FS.kp mS ((none_left fun vs H Q E ⟨_, _, e, h, _⟩ => by omega).mono (Nat.zero_le _)) bP FP.kp mP mr ml
  | d + 1 => by
    have ih := both GD bD kD mD GT bT kT mT FS bS mS FP bP mP FM bM mM mr ml d
    have hs := ok_sel (k := 2 * d + 3) (by omega) FS GD bD kD mD ih bM FM.kp mM
    have hp := ok_plu (k := 2 * d + 3) (by omega) FP GD bD kD mD ih bM FM.kp mM
    exact ok_msg (k := 2 * d + 4) (by omega) FM GD bD kD mD GT bT kT mT hs bS FS.kp mS hp bP FP.kp mP mr ml
set_option maxHeartbeats 0 in
theorem all_mk {l : PySem.W.OpenLaw} {w : World} {K : PySem.W.Frag} {h : Heap} {mg : Str → Option Value} {fa f1 f2 f3 f4 f5 f6 f7 f8 f9 f10 f11 f12 f13 f14 f15 f16 f17 f18 f19 f20 f21 f22 f23 f24 f25 f26 f27 f28 f29 f30 f31 f32 C fI M kd X1 fB1 cc1 cda1 N1 X2 fB2 cc2 cda2 N2 : Addr} (X : K.In h) (G : h.Ns mainGlobals mg) (hfa : mg "law" = some (.ref fa))
    {od1 an1 od2 an2 od3 an3 od4 an4 od5 an5 od6 an6 od7 an7 od8 an8 od9 an9 od10 an10 od11 an11 od12 an12 od13 an13 od14 an14 od15 an15 od16 an16 od17 an17 od18 an18 od19 an19 od20 an20 od21 an21 od22 an22 od23 an23 od24 an24 od25 an25 od26 an26 od27 an27 od28 an28 od29 an29 od30 an30 od31 an31 od32 an32 odI anI odB1 anB1 cdd1 cd01 dd1 odB2 anB2 cdd2 cd02 dd2 : Option Addr} {sl1 sl2 sl3 sl4 sl5 sl6 sl7 sl8 sl9 sl10 sl11 sl12 sl13 sl14 sl15 sl16 sl17 sl18 sl19 sl20 sl21 sl22 sl23 sl24 sl25 sl26 sl27 sl28 sl29 sl30 sl31 sl32 slI slB1 ccs1 cs01 slB2 ccs2 cs02 : Array (Option Value)} {oc1 kV1 dc1 pm1 cd1 ct1 oc2 kV2 dc2 pm2 cd2 ct2 oc3 kV3 dc3 pm3 cd3 ct3 oc4 kV4 dc4 pm4 cd4 ct4 oc5 kV5 dc5 pm5 cd5 ct5 oc6 kV6 dc6 pm6 cd6 ct6 oc7 kV7 dc7 pm7 cd7 ct7 oc8 kV8 dc8 pm8 cd8 ct8 oc9 kV9 dc9 pm9 cd9 ct9 oc10 kV10 dc10 pm10 cd10 ct10 oc11 kV11 dc11 pm11 cd11 ct11 oc12 kV12 dc12 pm12 cd12 ct12 oc13 kV13 dc13 pm13 cd13 ct13 oc14 kV14 dc14 pm14 cd14 ct14 oc15 kV15 dc15 pm15 cd15 ct15 oc16 kV16 dc16 pm16 cd16 ct16 oc17 kV17 dc17 pm17 cd17 ct17 oc18 kV18 dc18 pm18 cd18 ct18 oc19 kV19 dc19 pm19 cd19 ct19 oc20 kV20 dc20 pm20 cd20 ct20 oc21 kV21 dc21 pm21 cd21 ct21 oc22 kV22 dc22 pm22 cd22 ct22 oc23 kV23 dc23 pm23 cd23 ct23 oc24 kV24 dc24 pm24 cd24 ct24 oc25 kV25 dc25 pm25 cd25 ct25 oc26 kV26 dc26 pm26 cd26 ct26 oc27 kV27 dc27 pm27 cd27 ct27 oc28 kV28 dc28 pm28 cd28 ct28 oc29 kV29 dc29 pm29 cd29 ct29 oc30 kV30 dc30 pm30 cd30 ct30 oc31 kV31 dc31 pm31 cd31 ct31 oc32 kV32 dc32 pm32 cd32 ct32 ocI kVI dcI pmI cdI ctI ocB1 kVB1 dcB1 pmB1 ctB1 ccl1 ce01 ocB2 kVB2 dcB2 pmB2 ctB2 ccl2 ce02 : Value}
    {nm1 qn1 file1 nm2 qn2 file2 : Str} {bs1 sub1 bs2 sub2 : List Value} {sn1 sn2 : List Str} {ab1 ab2 : Bool} {col1 col2 : Option Bool} {m01 m11 m21 m31 m51 m02 m12 m22 m32 m52 : Option Value} {cvs1 cvs2 : Array Value} {tf1 tf2 t1 t2 t3 : Tok} {es : Array DictEntry} {en : Nat}
    (a1 : PySem.W.nsIn K mainGlobals "is_choice" = some (some (.ref f1))) (l1 : K.lookup f1 = some ⟨oc1, od1, .func (PySem.W.fnOf "is_choice" "is_choice" (defArgs sIs) (defBody sIs) (defScope sIs) .none kV1 dc1 pm1 an1 cd1 ct1), sl1⟩) (c1 : PySem.W.codeIn K cd1 "is_choice" = true) (k1 : PySem.W.keepIn K (.ref f1) = true)
    (a2 : PySem.W.nsIn K mainGlobals "cases_of" = some (some (.ref f2))) (l2 : K.lookup f2 = some ⟨oc2, od2, .func (PySem.W.fnOf "cases_of" "cases_of" (defArgs sCases) (defBody sCases) (defScope sCases) .none kV2 dc2 pm2 an2 cd2 ct2), sl2⟩) (c2 : PySem.W.codeIn K cd2 "cases_of" = true) (k2 : PySem.W.keepIn K (.ref f2) = true)
    (a3 : PySem.W.nsIn K mainGlobals "other_of" = some (some (.ref f3))) (l3 : K.lookup f3 = some ⟨oc3, od3, .func (PySem.W.fnOf "other_of" "other_of" (defArgs sOther) (defBody sOther) (defScope sOther) .none kV3 dc3 pm3 an3 cd3 ct3), sl3⟩) (c3 : PySem.W.codeIn K cd3 "other_of" = true) (k3 : PySem.W.keepIn K (.ref f3) = true)
    (a4 : PySem.W.nsIn K mainGlobals "copied" = some (some (.ref f4))) (l4 : K.lookup f4 = some ⟨oc4, od4, .func (PySem.W.fnOf "copied" "copied" (defArgs sCd) (defBody sCd) (defScope sCd) .none kV4 dc4 pm4 an4 cd4 ct4), sl4⟩) (c4 : PySem.W.codeIn K cd4 "copied" = true) (k4 : PySem.W.keepIn K (.ref f4) = true)
    (a5 : PySem.W.nsIn K mainGlobals "relation_holds" = some (some (.ref f5))) (l5 : K.lookup f5 = some ⟨oc5, od5, .func (PySem.W.fnOf "relation_holds" "relation_holds" (defArgs sRh) (defBody sRh) (defScope sRh) .none kV5 dc5 pm5 an5 cd5 ct5), sl5⟩) (c5 : PySem.W.codeIn K cd5 "relation_holds" = true) (k5 : PySem.W.keepIn K (.ref f5) = true)
    (a6 : PySem.W.nsIn K mainGlobals "condition_holds" = some (some (.ref f6))) (l6 : K.lookup f6 = some ⟨oc6, od6, .func (PySem.W.fnOf "condition_holds" "condition_holds" (defArgs sCh) (defBody sCh) (defScope sCh) .none kV6 dc6 pm6 an6 cd6 ct6), sl6⟩) (c6 : PySem.W.codeIn K cd6 "condition_holds" = true) (k6 : PySem.W.keepIn K (.ref f6) = true)
    (a7 : PySem.W.nsIn K mainGlobals "category_of" = some (some (.ref f7))) (l7 : K.lookup f7 = some ⟨oc7, od7, .func (PySem.W.fnOf "category_of" "category_of" (defArgs sCo) (defBody sCo) (defScope sCo) .none kV7 dc7 pm7 an7 cd7 ct7), sl7⟩) (c7 : PySem.W.codeIn K cd7 "category_of" = true) (k7 : PySem.W.keepIn K (.ref f7) = true)
    (a8 : PySem.W.nsIn K mainGlobals "figures_of" = some (some (.ref f8))) (l8 : K.lookup f8 = some ⟨oc8, od8, .func (PySem.W.fnOf "figures_of" "figures_of" (defArgs sFg) (defBody sFg) (defScope sFg) .none kV8 dc8 pm8 an8 cd8 ct8), sl8⟩) (c8 : PySem.W.codeIn K cd8 "figures_of" = true) (k8 : PySem.W.keepIn K (.ref f8) = true)
    (a9 : PySem.W.nsIn K mainGlobals "text_of" = some (some (.ref f9))) (l9 : K.lookup f9 = some ⟨oc9, od9, .func (PySem.W.fnOf "text_of" "text_of" (defArgs sTx) (defBody sTx) (defScope sTx) .none kV9 dc9 pm9 an9 cd9 ct9), sl9⟩) (c9 : PySem.W.codeIn K cd9 "text_of" = true) (k9 : PySem.W.keepIn K (.ref f9) = true)
    (a10 : PySem.W.nsIn K mainGlobals "case_with" = some (some (.ref f10))) (l10 : K.lookup f10 = some ⟨oc10, od10, .func (PySem.W.fnOf "case_with" "case_with" (defArgs sCw) (defBody sCw) (defScope sCw) .none kV10 dc10 pm10 an10 cd10 ct10), sl10⟩) (c10 : PySem.W.codeIn K cd10 "case_with" = true) (k10 : PySem.W.keepIn K (.ref f10) = true)
    (a11 : PySem.W.nsIn K mainGlobals "counted" = some (some (.ref f11))) (l11 : K.lookup f11 = some ⟨oc11, od11, .func (PySem.W.fnOf "counted" "counted" (defArgs sCt) (defBody sCt) (defScope sCt) .none kV11 dc11 pm11 an11 cd11 ct11), sl11⟩) (c11 : PySem.W.codeIn K cd11 "counted" = true) (k11 : PySem.W.keepIn K (.ref f11) = true)
    (a12 : PySem.W.nsIn K mainGlobals "selected" = some (some (.ref f12))) (l12 : K.lookup f12 = some ⟨oc12, od12, .func (PySem.W.fnOf "selected" "selected" (defArgs sSd) (defBody sSd) (defScope sSd) .none kV12 dc12 pm12 an12 cd12 ct12), sl12⟩) (c12 : PySem.W.codeIn K cd12 "selected" = true) (k12 : PySem.W.keepIn K (.ref f12) = true)
    (a13 : PySem.W.nsIn K mainGlobals "asked_argument" = some (some (.ref f13))) (l13 : K.lookup f13 = some ⟨oc13, od13, .func (PySem.W.fnOf "asked_argument" "asked_argument" (defArgs sAk) (defBody sAk) (defScope sAk) .none kV13 dc13 pm13 an13 cd13 ct13), sl13⟩) (c13 : PySem.W.codeIn K cd13 "asked_argument" = true) (k13 : PySem.W.keepIn K (.ref f13) = true)
    (a14 : PySem.W.nsIn K mainGlobals "text_of_leaf" = some (some (.ref f14))) (l14 : K.lookup f14 = some ⟨oc14, od14, .func (PySem.W.fnOf "text_of_leaf" "text_of_leaf" (defArgs sTl) (defBody sTl) (defScope sTl) .none kV14 dc14 pm14 an14 cd14 ct14), sl14⟩) (c14 : PySem.W.codeIn K cd14 "text_of_leaf" = true) (k14 : PySem.W.keepIn K (.ref f14) = true)
    (a15 : PySem.W.nsIn K mainGlobals "shown" = some (some (.ref f15))) (l15 : K.lookup f15 = some ⟨oc15, od15, .func (PySem.W.fnOf "shown" "shown" (defArgs sSh) (defBody sSh) (defScope sSh) .none kV15 dc15 pm15 an15 cd15 ct15), sl15⟩) (c15 : PySem.W.codeIn K cd15 "shown" = true) (k15 : PySem.W.keepIn K (.ref f15) = true)
    (a16 : PySem.W.nsIn K mainGlobals "_law_cell" = some (some (.ref f16))) (l16 : K.lookup f16 = some ⟨oc16, od16, .func (PySem.W.fnOf "_law_cell" "_law_cell" (defArgs sCell) (defBody sCell) (defScope sCell) .none kV16 dc16 pm16 an16 cd16 ct16), sl16⟩) (c16 : PySem.W.codeIn K cd16 "_law_cell" = true) (k16 : PySem.W.keepIn K (.ref f16) = true)
    (a17 : PySem.W.nsIn K mainGlobals "_law_digits" = some (some (.ref f17))) (l17 : K.lookup f17 = some ⟨oc17, od17, .func (PySem.W.fnOf "_law_digits" "_law_digits" (defArgs sDigits) (defBody sDigits) (defScope sDigits) .none kV17 dc17 pm17 an17 cd17 ct17), sl17⟩) (c17 : PySem.W.codeIn K cd17 "_law_digits" = true) (k17 : PySem.W.keepIn K (.ref f17) = true)
    (a18 : PySem.W.nsIn K mainGlobals "_law_draw" = some (some (.ref f18))) (l18 : K.lookup f18 = some ⟨oc18, od18, .func (PySem.W.fnOf "_law_draw" "_law_draw" (defArgs sDraw) (defBody sDraw) (defScope sDraw) .none kV18 dc18 pm18 an18 cd18 ct18), sl18⟩) (c18 : PySem.W.codeIn K cd18 "_law_draw" = true) (k18 : PySem.W.keepIn K (.ref f18) = true)
    (a19 : PySem.W.nsIn K mainGlobals "_law_string" = some (some (.ref f19))) (l19 : K.lookup f19 = some ⟨oc19, od19, .func (PySem.W.fnOf "_law_string" "_law_string" (defArgs sString) (defBody sString) (defScope sString) .none kV19 dc19 pm19 an19 cd19 ct19), sl19⟩) (c19 : PySem.W.codeIn K cd19 "_law_string" = true) (k19 : PySem.W.keepIn K (.ref f19) = true)
    (a20 : PySem.W.nsIn K mainGlobals "_law_select" = some (some (.ref f20))) (l20 : K.lookup f20 = some ⟨oc20, od20, .func (PySem.W.fnOf "_law_select" "_law_select" (defArgs sSel) (defBody sSel) (defScope sSel) .none kV20 dc20 pm20 an20 cd20 ct20), sl20⟩) (c20 : PySem.W.codeIn K cd20 "_law_select" = true) (k20 : PySem.W.keepIn K (.ref f20) = true)
    (a21 : PySem.W.nsIn K mainGlobals "_law_plural" = some (some (.ref f21))) (l21 : K.lookup f21 = some ⟨oc21, od21, .func (PySem.W.fnOf "_law_plural" "_law_plural" (defArgs sPlu) (defBody sPlu) (defScope sPlu) .none kV21 dc21 pm21 an21 cd21 ct21), sl21⟩) (c21 : PySem.W.codeIn K cd21 "_law_plural" = true) (k21 : PySem.W.keepIn K (.ref f21) = true)
    (a22 : PySem.W.nsIn K mainGlobals "_law_message" = some (some (.ref f22))) (l22 : K.lookup f22 = some ⟨oc22, od22, .func (PySem.W.fnOf "_law_message" "_law_message" (defArgs sMsg) (defBody sMsg) (defScope sMsg) .none kV22 dc22 pm22 an22 cd22 ct22), sl22⟩) (c22 : PySem.W.codeIn K cd22 "_law_message" = true) (k22 : PySem.W.keepIn K (.ref f22) = true)
    (a23 : PySem.W.nsIn K mainGlobals "_law_relation" = some (some (.ref f23))) (l23 : K.lookup f23 = some ⟨oc23, od23, .func (PySem.W.fnOf "_law_relation" "_law_relation" (defArgs sLr) (defBody sLr) (defScope sLr) .none kV23 dc23 pm23 an23 cd23 ct23), sl23⟩) (c23 : PySem.W.codeIn K cd23 "_law_relation" = true) (k23 : PySem.W.keepIn K (.ref f23) = true)
    (a24 : PySem.W.nsIn K mainGlobals "_law_condition" = some (some (.ref f24))) (l24 : K.lookup f24 = some ⟨oc24, od24, .func (PySem.W.fnOf "_law_condition" "_law_condition" (defArgs sLn) (defBody sLn) (defScope sLn) .none kV24 dc24 pm24 an24 cd24 ct24), sl24⟩) (c24 : PySem.W.codeIn K cd24 "_law_condition" = true) (k24 : PySem.W.keepIn K (.ref f24) = true)
    (a25 : PySem.W.nsIn K mainGlobals "_law_rules" = some (some (.ref f25))) (l25 : K.lookup f25 = some ⟨oc25, od25, .func (PySem.W.fnOf "_law_rules" "_law_rules" (defArgs sLu) (defBody sLu) (defScope sLu) .none kV25 dc25 pm25 an25 cd25 ct25), sl25⟩) (c25 : PySem.W.codeIn K cd25 "_law_rules" = true) (k25 : PySem.W.keepIn K (.ref f25) = true)
    (a26 : PySem.W.nsIn K mainGlobals "_law_holds" = some (some (.ref f26))) (l26 : K.lookup f26 = some ⟨oc26, od26, .func (PySem.W.fnOf "_law_holds" "_law_holds" (defArgs sLh) (defBody sLh) (defScope sLh) .none kV26 dc26 pm26 an26 cd26 ct26), sl26⟩) (c26 : PySem.W.codeIn K cd26 "_law_holds" = true) (k26 : PySem.W.keepIn K (.ref f26) = true)
    (a27 : PySem.W.nsIn K mainGlobals "_law_category" = some (some (.ref f27))) (l27 : K.lookup f27 = some ⟨oc27, od27, .func (PySem.W.fnOf "_law_category" "_law_category" (defArgs sLc) (defBody sLc) (defScope sLc) .none kV27 dc27 pm27 an27 cd27 ct27), sl27⟩) (c27 : PySem.W.codeIn K cd27 "_law_category" = true) (k27 : PySem.W.keepIn K (.ref f27) = true)
    (a28 : PySem.W.nsIn K mainGlobals "_law_far" = some (some (.ref f28))) (l28 : K.lookup f28 = some ⟨oc28, od28, .func (PySem.W.fnOf "_law_far" "_law_far" (defArgs sFar) (defBody sFar) (defScope sFar) .none kV28 dc28 pm28 an28 cd28 ct28), sl28⟩) (c28 : PySem.W.codeIn K cd28 "_law_far" = true) (k28 : PySem.W.keepIn K (.ref f28) = true)
    (a29 : PySem.W.nsIn K mainGlobals "_law_chosen" = some (some (.ref f29))) (l29 : K.lookup f29 = some ⟨oc29, od29, .func (PySem.W.fnOf "_law_chosen" "_law_chosen" (defArgs sLch) (defBody sLch) (defScope sLch) .none kV29 dc29 pm29 an29 cd29 ct29), sl29⟩) (c29 : PySem.W.codeIn K cd29 "_law_chosen" = true) (k29 : PySem.W.keepIn K (.ref f29) = true)
    (a30 : PySem.W.nsIn K mainGlobals "_law_show" = some (some (.ref f30))) (l30 : K.lookup f30 = some ⟨oc30, od30, .func (PySem.W.fnOf "_law_show" "_law_show" (defArgs sLs) (defBody sLs) (defScope sLs) .none kV30 dc30 pm30 an30 cd30 ct30), sl30⟩) (c30 : PySem.W.codeIn K cd30 "_law_show" = true) (k30 : PySem.W.keepIn K (.ref f30) = true)
    (a31 : PySem.W.nsIn K mainGlobals "_law_told" = some (some (.ref f31))) (l31 : K.lookup f31 = some ⟨oc31, od31, .func (PySem.W.fnOf "_law_told" "_law_told" (defArgs sTold) (defBody sTold) (defScope sTold) .none kV31 dc31 pm31 an31 cd31 ct31), sl31⟩) (c31 : PySem.W.codeIn K cd31 "_law_told" = true) (k31 : PySem.W.keepIn K (.ref f31) = true)
    (a32 : PySem.W.nsIn K mainGlobals "law" = some (some (.ref f32))) (l32 : K.lookup f32 = some ⟨oc32, od32, .func (PySem.W.fnOf "law" "law" (defArgs sLaw) (defBody sLaw) (defScope sLaw) .none kV32 dc32 pm32 an32 cd32 ct32), sl32⟩) (c32 : PySem.W.codeIn K cd32 "law" = true) (k32 : PySem.W.keepIn K (.ref f32) = true)
    (aC : PySem.W.nsIn K mainGlobals "Language" = some (some (.ref C)))
    (mk1 : PySem.W.makesIn K C = true)
    (mk2 : PySem.W.findIn K (.ref C) "__init__" = some (some (.ref fI)))
    (mk3 : PySem.W.isFn K (.ref fI) = true)
    (mk4 : PySem.W.keepIn K (.ref C) = true)
    (lI : K.lookup fI = some ⟨ocI, odI, .func (PySem.W.fnOf "__init__" "Language.__init__" (defArgs sLi) (defBody sLi) (defScope sLi) .none kVI dcI pmI anI cdI ctI), slI⟩)
    (cI : PySem.W.codeIn K cdI "Language.__init__" = true)
    (kI : PySem.W.keepIn K (.ref fI) = true)
    (pg : PySem.W.plainGet K C Str.empty = true)
    (hd : PySem.W.hasDictIn K C = true)
    (po : PySem.W.plainOver K C = true)
    (sa : PySem.W.findIn K (.ref C) "__setattr__" = some (some (.builtin "object.__setattr__")))
    (nr : PySem.W.findIn K (.ref C) "rules" = some none)
    (aM : PySem.W.nsIn K mainGlobals "MessagewaysError" = some (some (.ref M)))
    (aK : PySem.W.nsIn K mainGlobals "ASKED_KINDS" = some (some (.ref kd)))
    (xK : K.lookup kd = some ⟨.type "dict", none, .dict es en, #[]⟩)
    (lit : PySem.W.KeysLit w.params es.toList)
    (low : (kd == sysModules) = false)
    (e1 : PySem.W.nsIn K kd "show" = some (some (.str "any" t1)))
    (e2 : PySem.W.nsIn K kd "select" = some (some (.str "text" t2)))
    (e3 : PySem.W.nsIn K kd "plural" = some (some (.str "number" t3)))
    (ebM : PySem.W.subIn K (.ref M) (.type "BaseException") = some true)
    (hdM : PySem.W.hasDictIn K M = true)
    (tM : PySem.W.typeIn K (.ref M) = some (.type "type"))
    (op : PySem.W.nsIn K cStatics "thirdparty.any" = some none)
    (cg : PySem.W.specialIn K (.builtin "object.__class__") "__get__" = some (some (.builtin "getset_descriptor.__get__")))
    (ct : PySem.W.takesIn K (.builtin "object.__class__") = some true)
    (top : (l.prog.main.scope.names.lookup ("super" : Str)).isSome = false)
    (aC1 : PySem.W.nsIn K mainGlobals "MissingArgument" = some (some (.ref X1)))
    (xC1 : K.lookup X1 = some (excClassObj nm1 qn1 X1 N1 bs1 [.ref M, .type "ValueError", .type "Exception", .type "BaseException", .type "object"] true sn1 sub1 ab1 col1 dd1 m01 m11 m21 m31 m51 "ValueError.__new__"))
    (sa1 : PySem.W.findIn K (.ref X1) "__setattr__" = some (some (.builtin "object.__setattr__")))
    (ga1 : PySem.W.findIn K (.ref X1) "__getattribute__" = some (some (.builtin "BaseException.__getattribute__")))
    (gg1 : PySem.W.findIn K (.ref X1) "__getattr__" = some none)
    (no1 : PySem.W.findIn K (.ref X1) "name" = some none)
    (iC1 : PySem.W.findIn K (.ref X1) "__init__" = some (some (.ref fB1)))
    (tI1 : PySem.W.typeIn K (.ref fB1) = some (.type "function"))
    (lB1 : K.lookup fB1 = some ⟨ocB1, odB1, .func (PySem.W.fnX "__init__" "MissingArgument.__init__" (defArgs sMi) (defBody sMi) (defScope sMi) [("__class__", cc1)] .none kVB1 dcB1 pmB1 anB1 (.ref cda1) ctB1), slB1⟩)
    (cB1 : PySem.W.codeIn K (.ref cda1) "MissingArgument.__init__" = true)
    (lc1 : K.lookup cda1 = some ⟨ccl1, cdd1, .fields cvs1, ccs1⟩)
    (hv1 : cvs1[2]? = some (.str file1 tf1))
    (hf1 : ((l.prog.main.file : Str) == file1) = true)
    (lx1 : K.lookup cc1 = some ⟨ce01, cd01, .cell (some (.ref X1)), cs01⟩)
    (mr1 : PySem.W.mroIn K X1 (.ref X1) = some true)
    (sm1 : PySem.W.ks_superIn K X1 X1 "__init__" = some (some (.builtin "ValueError.__init__")))
    (iV1 : PySem.W.subIn K (.ref X1) (.type "ValueError") = some true)
    (eb1 : PySem.W.subIn K (.ref X1) (.type "BaseException") = some true)
    (tC1 : PySem.W.typeIn K (.ref X1) = some (.type "type"))
    (kC1 : PySem.W.keepIn K (.ref X1) = true)
    (hdC1 : PySem.W.hasDictIn K X1 = true)
    (ca1 : PySem.W.findIn K (.ref X1) "__class__" = some (some (.builtin "object.__class__")))
    (ob1 : PySem.W.mroIn K X1 (.type "object") = some true)
    (sCM1 : PySem.W.subIn K (.ref X1) (.ref M) = some true)
    (aC2 : PySem.W.nsIn K mainGlobals "WrongArgument" = some (some (.ref X2)))
    (xC2 : K.lookup X2 = some (excClassObj nm2 qn2 X2 N2 bs2 [.ref M, .type "ValueError", .type "Exception", .type "BaseException", .type "object"] true sn2 sub2 ab2 col2 dd2 m02 m12 m22 m32 m52 "ValueError.__new__"))
    (sa2 : PySem.W.findIn K (.ref X2) "__setattr__" = some (some (.builtin "object.__setattr__")))
    (ga2 : PySem.W.findIn K (.ref X2) "__getattribute__" = some (some (.builtin "BaseException.__getattribute__")))
    (gg2 : PySem.W.findIn K (.ref X2) "__getattr__" = some none)
    (no2 : PySem.W.findIn K (.ref X2) "name" = some none)
    (iC2 : PySem.W.findIn K (.ref X2) "__init__" = some (some (.ref fB2)))
    (tI2 : PySem.W.typeIn K (.ref fB2) = some (.type "function"))
    (lB2 : K.lookup fB2 = some ⟨ocB2, odB2, .func (PySem.W.fnX "__init__" "WrongArgument.__init__" (defArgs sWa) (defBody sWa) (defScope sWa) [("__class__", cc2)] .none kVB2 dcB2 pmB2 anB2 (.ref cda2) ctB2), slB2⟩)
    (cB2 : PySem.W.codeIn K (.ref cda2) "WrongArgument.__init__" = true)
    (lc2 : K.lookup cda2 = some ⟨ccl2, cdd2, .fields cvs2, ccs2⟩)
    (hv2 : cvs2[2]? = some (.str file2 tf2))
    (hf2 : ((l.prog.main.file : Str) == file2) = true)
    (lx2 : K.lookup cc2 = some ⟨ce02, cd02, .cell (some (.ref X2)), cs02⟩)
    (mr2 : PySem.W.mroIn K X2 (.ref X2) = some true)
    (sm2 : PySem.W.ks_superIn K X2 X2 "__init__" = some (some (.builtin "ValueError.__init__")))
    (iV2 : PySem.W.subIn K (.ref X2) (.type "ValueError") = some true)
    (eb2 : PySem.W.subIn K (.ref X2) (.type "BaseException") = some true)
    (tC2 : PySem.W.typeIn K (.ref X2) = some (.type "type"))
    (kC2 : PySem.W.keepIn K (.ref X2) = true)
    (hdC2 : PySem.W.hasDictIn K X2 = true)
    (ca2 : PySem.W.findIn K (.ref X2) "__class__" = some (some (.builtin "object.__class__")))
    (ob2 : PySem.W.mroIn K X2 (.type "object") = some true)
    (sCM2 : PySem.W.subIn K (.ref X2) (.ref M) = some true)
    (ne1 : X2 ≠ X1)
    (ne2 : PySem.W.subIn K (.ref X2) (.ref X1) = some false)
    (z1 : PySem.W.nsIn K mainGlobals "len" = some none) (z2 : PySem.W.nsIn K mainGlobals "list" = some none) (z3 : PySem.W.nsIn K mainGlobals "range" = some none) (z4 : PySem.W.nsIn K mainGlobals "int" = some none) (z5 : PySem.W.nsIn K mainGlobals "any" = some none) (z6 : PySem.W.nsIn K mainGlobals "all" = some none) (z7 : PySem.W.nsIn K mainGlobals "abs" = some none) (z8 : PySem.W.nsIn K mainGlobals "isinstance" = some none) (z9 : PySem.W.nsIn K mainGlobals "str" = some none) (z10 : PySem.W.nsIn K mainGlobals "tuple" = some none) (z11 : PySem.W.nsIn K mainGlobals "super" = some none) :
    ∃ fd : FuncData, (∀ (s : Shared) (v : Value), BindsTo s fd ⟨[v], []⟩ [("script", v)]) ∧ ∀ base : Heap, K.In base → base.Ns mainGlobals mg → FnOk l.prog w K mg base CX0 8 fa fd ["script"] (spLaw K) := by
  have e := hfa.symm.trans (PySem.W.mg_of X G a32)
  cases e
  have F1 := fun_mk (st := sIs) l1 c1 k1
  have F2 := fun_mk (st := sCases) l2 c2 k2
  have F3 := fun_mk (st := sOther) l3 c3 k3
  have F4 := fun_mk (st := sCd) l4 c4 k4
  have F5 := fun_mk (st := sRh) l5 c5 k5
  have F6 := fun_mk (st := sCh) l6 c6 k6
  have F7 := fun_mk (st := sCo) l7 c7 k7
  have F8 := fun_mk (st := sFg) l8 c8 k8
  have F9 := fun_mk (st := sTx) l9 c9 k9
  have F10 := fun_mk (st := sCw) l10 c10 k10
  have F11 := fun_mk (st := sCt) l11 c11 k11
  have F12 := fun_mk (st := sSd) l12 c12 k12
  have F13 := fun_mk (st := sAk) l13 c13 k13
  have F14 := fun_mk (st := sTl) l14 c14 k14
  have F15 := fun_mk (st := sSh) l15 c15 k15
  have F16 := fun_mk (st := sCell) l16 c16 k16
  have F17 := fun_mk (st := sDigits) l17 c17 k17
  have F18 := fun_mk (st := sDraw) l18 c18 k18
  have F19 := fun_mk (st := sString) l19 c19 k19
  have F20 := fun_mk (st := sSel) l20 c20 k20
  have F21 := fun_mk (st := sPlu) l21 c21 k21
  have F22 := fun_mk (st := sMsg) l22 c22 k22
  have F23 := fun_mk (st := sLr) l23 c23 k23
  have F24 := fun_mk (st := sLn) l24 c24 k24
  have F25 := fun_mk (st := sLu) l25 c25 k25
  have F26 := fun_mk (st := sLh) l26 c26 k26
  have F27 := fun_mk (st := sLc) l27 c27 k27
  have F28 := fun_mk (st := sFar) l28 c28 k28
  have F29 := fun_mk (st := sLch) l29 c29 k29
  have F30 := fun_mk (st := sLs) l30 c30 k30
  have F31 := fun_mk (st := sTold) l31 c31 k31
  have F32 := fun_mk (st := sLaw) l32 c32 k32
  have FI := fun_mk (st := sLi) lI cI kI
  have b1 := F1.binds (ps := ["node"]) fun _ _ _ _ _ _ us hl => match us, hl with | [_], _ => rfl
  have b2 := F2.binds (ps := ["node"]) fun _ _ _ _ _ _ us hl => match us, hl with | [_], _ => rfl
  have b3 := F3.binds (ps := ["node"]) fun _ _ _ _ _ _ us hl => match us, hl with | [_], _ => rfl
  have b4 := F4.binds (ps := ["condition"]) fun _ _ _ _ _ _ us hl => match us, hl with | [_], _ => rfl
  have b5 := F5.binds (ps := ["relation", "number"]) fun _ _ _ _ _ _ us hl => match us, hl with | [_, _], _ => rfl
  have b6 := F6.binds (ps := ["condition", "number"]) fun _ _ _ _ _ _ us hl => match us, hl with | [_, _], _ => rfl
  have b7 := F7.binds (ps := ["language", "number"]) fun _ _ _ _ _ _ us hl => match us, hl with | [_, _], _ => rfl
  have b8 := F8.binds (ps := ["number"]) fun _ _ _ _ _ _ us hl => match us, hl with | [_], _ => rfl
  have b9 := F9.binds (ps := ["argument", "offset"]) fun _ _ _ _ _ _ us hl => match us, hl with | [_, _], _ => rfl
  have b10 := F10.binds (ps := ["node", "key"]) fun _ _ _ _ _ _ us hl => match us, hl with | [_, _], _ => rfl
  have b11 := F11.binds (ps := ["node", "language", "number"]) fun _ _ _ _ _ _ us hl => match us, hl with | [_, _, _], _ => rfl
  have b12 := F12.binds (ps := ["node", "word"]) fun _ _ _ _ _ _ us hl => match us, hl with | [_, _], _ => rfl
  have b13 := F13.binds (ps := ["node", "arguments"]) fun _ _ _ _ _ _ us hl => match us, hl with | [_, _], _ => rfl
  have b14 := F14.binds (ps := ["node", "number", "arguments"]) fun _ _ _ _ _ _ us hl => match us, hl with | [_, _, _], _ => rfl
  have b15 := F15.binds (ps := ["message", "language", "arguments"]) fun _ _ _ _ _ _ us hl => match us, hl with | [_, _, _], _ => rfl
  have b16 := F16.binds (ps := ["script", "k"]) fun _ _ _ _ _ _ us hl => match us, hl with | [_, _], _ => rfl
  have b17 := F17.binds (ps := ["script", "first", "last"]) fun _ _ _ _ _ _ us hl => match us, hl with | [_, _, _], _ => rfl
  have b18 := F18.binds (ps := ["box", "many"]) fun _ _ _ _ _ _ us hl => match us, hl with | [_, _], _ => rfl
  have b19 := F19.binds (ps := ["box"]) fun _ _ _ _ _ _ us hl => match us, hl with | [_], _ => rfl
  have b20 := F20.binds (ps := ["box", "depth", "inside"]) fun _ _ _ _ _ _ us hl => match us, hl with | [_, _, _], _ => rfl
  have b21 := F21.binds (ps := ["box", "depth"]) fun _ _ _ _ _ _ us hl => match us, hl with | [_, _], _ => rfl
  have b22 := F22.binds (ps := ["box", "depth", "inside"]) fun _ _ _ _ _ _ us hl => match us, hl with | [_, _, _], _ => rfl
  have b23 := F23.binds (ps := ["box"]) fun _ _ _ _ _ _ us hl => match us, hl with | [_], _ => rfl
  have b24 := F24.binds (ps := ["box"]) fun _ _ _ _ _ _ us hl => match us, hl with | [_], _ => rfl
  have b25 := F25.binds (ps := ["box"]) fun _ _ _ _ _ _ us hl => match us, hl with | [_], _ => rfl
  have b26 := F26.binds (ps := ["condition", "number"]) fun _ _ _ _ _ _ us hl => match us, hl with | [_, _], _ => rfl
  have b27 := F27.binds (ps := ["rules", "number"]) fun _ _ _ _ _ _ us hl => match us, hl with | [_, _], _ => rfl
  have b28 := F28.binds (ps := ["box"]) fun _ _ _ _ _ _ us hl => match us, hl with | [_], _ => rfl
  have b29 := F29.binds (ps := ["node", "rules", "value"]) fun _ _ _ _ _ _ us hl => match us, hl with | [_, _, _], _ => rfl
  have b30 := F30.binds (ps := ["message", "rules", "arguments", "left"]) fun _ _ _ _ _ _ us hl => match us, hl with | [_, _, _, _], _ => rfl
  have b31 := F31.binds (ps := ["message", "language", "arguments"]) fun _ _ _ _ _ _ us hl => match us, hl with | [_, _, _], _ => rfl
  have b32 := F32.binds (ps := ["script"]) fun _ _ _ _ _ _ us hl => match us, hl with | [_], _ => rfl
  have bI := FI.binds (ps := ["self", "rules"]) fun _ _ _ _ _ _ us hl => match us, hl with | [_, _], _ => rfl
  have g1 := PySem.W.mg_of X G a1
  have g2 := PySem.W.mg_of X G a2
  have g3 := PySem.W.mg_of X G a3
  have g4 := PySem.W.mg_of X G a4
  have g5 := PySem.W.mg_of X G a5
  have g6 := PySem.W.mg_of X G a6
  have g7 := PySem.W.mg_of X G a7
  have g8 := PySem.W.mg_of X G a8
  have g9 := PySem.W.mg_of X G a9
  have g10 := PySem.W.mg_of X G a10
  have g11 := PySem.W.mg_of X G a11
  have g12 := PySem.W.mg_of X G a12
  have g13 := PySem.W.mg_of X G a13
  have g14 := PySem.W.mg_of X G a14
  have g15 := PySem.W.mg_of X G a15
  have g16 := PySem.W.mg_of X G a16
  have g17 := PySem.W.mg_of X G a17
  have g18 := PySem.W.mg_of X G a18
  have g19 := PySem.W.mg_of X G a19
  have g20 := PySem.W.mg_of X G a20
  have g21 := PySem.W.mg_of X G a21
  have g22 := PySem.W.mg_of X G a22
  have g23 := PySem.W.mg_of X G a23
  have g24 := PySem.W.mg_of X G a24
  have g25 := PySem.W.mg_of X G a25
  have g26 := PySem.W.mg_of X G a26
  have g27 := PySem.W.mg_of X G a27
  have g28 := PySem.W.mg_of X G a28
  have g29 := PySem.W.mg_of X G a29
  have g30 := PySem.W.mg_of X G a30
  have g31 := PySem.W.mg_of X G a31
  have g32 := PySem.W.mg_of X G a32
  have y1 := PySem.W.mg_none_of X G z1
  have y2 := PySem.W.mg_none_of X G z2
  have y3 := PySem.W.mg_none_of X G z3
  have y4 := PySem.W.mg_none_of X G z4
  have y5 := PySem.W.mg_none_of X G z5
  have y6 := PySem.W.mg_none_of X G z6
  have y7 := PySem.W.mg_none_of X G z7
  have y8 := PySem.W.mg_none_of X G z8
  have y9 := PySem.W.mg_none_of X G z9
  have y10 := PySem.W.mg_none_of X G z10
  have y11 := PySem.W.mg_none_of X G z11
  have gC := PySem.W.mg_of X G aC
  have gMe := PySem.W.mg_of X G aM
  have Lc : LC K C := ⟨⟨pg, hd, po, sa⟩, nr⟩
  have MM : Mk K C fI := ⟨mk1, mk2, mk3, mk4⟩
  have KK : KA K mg w kd es en := ⟨PySem.W.mg_of X G aK, ⟨xK, lit, low⟩, ⟨_, e1⟩, ⟨_, e2⟩, ⟨_, e3⟩⟩
  have gX1 := PySem.W.mg_of X G aC1
  have TC1 : OexC K X1 := ⟨⟨nm1, qn1, N1, bs1, _, sn1, sub1, ab1, col1, dd1, m01, m11, m21, m31, m51, xC1, by rfl⟩, sa1, eb1, tC1, kC1⟩
  have icl1 : ∃ cd, PySem.W.clsIn K X1 = some cd := ⟨_, by unfold PySem.W.clsIn; rw [xC1] <;> rfl⟩
  have U1 : Sx.Sup l.prog K mg X1 cc1 cda1 fB1 (nMi cc1 cda1) ["self", "name"] := ⟨TC1, ⟨_, _, _, _, _, _, _, _, _, lB1⟩, rfl, rfl, cB1, ⟨_, rfl, rfl⟩, ⟨_, _, _, _, _, _, lc1, hv1, hf1⟩, ⟨_, _, _, lx1⟩, icl1, mr1, y11, rfl, top, sm1, op, iV1⟩
  have IX1 : IsC K X1 := ⟨by obtain ⟨cd, h⟩ := icl1; rw [h]; rfl, ga1, gg1, eb1, ca1, cg, ct, ob1⟩
  have XX1 : XfC K X1 := ⟨ga1, gg1, eb1, hdC1⟩
  have exM1 : PySem.W.exmOne K (.ref X1) (.ref M) = some true := PySem.W.exm_ref ebM hdM tM sCM1
  have EX1 : EX K mg "MissingArgument" X1 M := ⟨gX1, IX1, XX1, no1, exM1⟩
  have bBd1 : Binds K (PySem.W.fnX "__init__" "MissingArgument.__init__" (defArgs sMi) (defBody sMi) (defScope sMi) [("__class__", cc1)] .none kVB1 dcB1 pmB1 anB1 (.ref cda1) ctB1) ["self", "name"] [] := .all fun us hl => match us, hl with | [_, _], _ => rfl
  have gX2 := PySem.W.mg_of X G aC2
  have TC2 : OexC K X2 := ⟨⟨nm2, qn2, N2, bs2, _, sn2, sub2, ab2, col2, dd2, m02, m12, m22, m32, m52, xC2, by rfl⟩, sa2, eb2, tC2, kC2⟩
  have icl2 : ∃ cd, PySem.W.clsIn K X2 = some cd := ⟨_, by unfold PySem.W.clsIn; rw [xC2] <;> rfl⟩
  have U2 : Sx.Sup l.prog K mg X2 cc2 cda2 fB2 (nWa cc2 cda2) ["self", "name"] := ⟨TC2, ⟨_, _, _, _, _, _, _, _, _, lB2⟩, rfl, rfl, cB2, ⟨_, rfl, rfl⟩, ⟨_, _, _, _, _, _, lc2, hv2, hf2⟩, ⟨_, _, _, lx2⟩, icl2, mr2, y11, rfl, top, sm2, op, iV2⟩
  have IX2 : IsC K X2 := ⟨by obtain ⟨cd, h⟩ := icl2; rw [h]; rfl, ga2, gg2, eb2, ca2, cg, ct, ob2⟩
  have XX2 : XfC K X2 := ⟨ga2, gg2, eb2, hdC2⟩
  have exM2 : PySem.W.exmOne K (.ref X2) (.ref M) = some true := PySem.W.exm_ref ebM hdM tM sCM2
  have EX2 : EX K mg "WrongArgument" X2 M := ⟨gX2, IX2, XX2, no2, exM2⟩
  have bBd2 : Binds K (PySem.W.fnX "__init__" "WrongArgument.__init__" (defArgs sWa) (defBody sWa) (defScope sWa) [("__class__", cc2)] .none kVB2 dcB2 pmB2 anB2 (.ref cda2) ctB2) ["self", "name"] [] := .all fun us hl => match us, hl with | [_, _], _ => rfl
  have ne : PySem.W.kitOne K (.ref X2) (.ref X1) = some false := by
    unfold PySem.W.kitOne PySem.W.kitCls
    rw [if_neg (by simpa using ne1)]
    show (if _ then _ else _) = _
    rw [if_pos (by obtain ⟨cd, h⟩ := icl1; rw [h, tC1]; rfl)]
    exact ne2
  refine ⟨PySem.W.fnOf "law" "law" (defArgs sLaw) (defBody sLaw) (defScope sLaw) .none kV32 dc32 pm32 an32 cd32 ct32, fun s v => .of_eq rfl, fun base _ _ => ?_⟩
  have EC1 : EC l.prog w K mg base "MissingArgument" X1 := ⟨TC1, gX1, fB1, _, iC1, tI1, ok_mi (P := l.prog) (w := w) (mg := mg) (base := base) (CX := L2.CX l.prog w) U1 no1 lB1, bBd1⟩
  have EC2 : EC l.prog w K mg base "WrongArgument" X2 := ⟨TC2, gX2, fB2, _, iC2, tI2, ok_wa (P := l.prog) (w := w) (mg := mg) (base := base) (CX := L2.CX l.prog w) U2 no2 lB2, bBd2⟩
  have gIs := ok_is (P := l.prog) (w := w) (mg := mg) (base := base) F1
  have gCs := ok_cases (P := l.prog) (w := w) (mg := mg) (base := base) F2 y2
  have gOo := ok_other (P := l.prog) (w := w) (mg := mg) (base := base) F3
  have gCd := ok_cd (P := l.prog) (w := w) (mg := mg) (base := base) F4 y2
  have gRh := ok_rh (P := l.prog) (w := w) (mg := mg) (base := base) F5 y5
  have gCh := ok_ch F6 gRh b5 k5 g5 y5 y6
  have gCo := ok_co F7 Lc gCh b6 k6 g6
  have gLi := ok_li FI Lc gCd b4 k4 g4
  have gFg := ok_fg (P := l.prog) (w := w) (mg := mg) (base := base) F8 y7 y9
  have gTx := ok_tx F9 gFg b8 k8 g8 y8 y9
  have gCw := ok_cw F10 gCs b2 k2 g2
  have gCt := ok_ct F11 gCw b10 k10 g10 gCo b7 k7 g7 gOo b3 k3 g3
  have gSd := ok_sd F12 gCw b10 k10 g10 gOo b3 k3 g3
  have gAk := ok_ak F13 KK y8 y9 EC1 EC2
  have gTl := ok_tl F14 gAk b13 k13 g13 gTx b9 k9 g9 gFg b8 k8 g8
  have gSh := ok_sh F15 gIs b1 k1 g1 gTl b14 k14 g14 gAk b13 k13 g13 gCt b11 k11 g11 gSd b12 k12 g12
  have gCe := ok_cell (P := l.prog) (w := w) (mg := mg) (base := base) F16 y1
  have gDg := ok_digits F17 gCe b16 k16 g16 y3 y4
  have gDr := ok_draw (P := l.prog) (w := w) (mg := mg) (base := base) F18 y1 y4
  have gSt := ok_string F19 gDr b18 k18 g18
  have gM := both gDr b18 k18 g18 gSt b19 k19 g19 F20 b20 g20 F21 b21 g21 F22 b22 g22 y3 y1
  have gLr := ok_lr F23 gDr b18 k18 g18 y3 y4
  have gLn := ok_ln F24 gDr b18 k18 g18 gLr b23 k23 g23 y3
  have gLu := ok_lu F25 gDr b18 k18 g18 gLn b24 k24 g24
  have gLh := ok_lh (P := l.prog) (w := w) (mg := mg) (base := base) F26 y4
  have gLc := ok_lcat F27 gLh b26 k26 g26
  have gFa := ok_far F28 gDr b18 k18 g18
  have gXc := ok_lch F29 gLc b27 k27 g27 y8 y9
  have gLs := ok_ls F30 b30 g30 gXc b29 k29 g29 y8 y9 y10 3
  have gTo := ok_told F31 gSh b15 k15 g15 y8 gMe EX1 EX2 ne
  exact ok_law F32 gDg b17 k17 g17 (gM 2) b22 k22 g22 gLu b25 k25 g25 MM gC gLi bI gFa b28 k28 g28 gDr b18 k18 g18 gTo b31 k31 g31 gLs b30 k30 g30 gCt b11 k11 g11 gXc b29 k29 g29 gSh b15 k15 g15 y3
theorem walk {l : PySem.W.OpenLaw} {q : Program} {loose : List Str} {XP : (Str → Option Value) → Heap → Prop} {YP : World → Heap → Prop} {d : DefRec} {K : Params → PySem.W.Frag} (hn : l.most = some 63) (hdf : d.params.defaults = [])
    (hY : ∀ (w : World) (h : Heap), YP w h → (K w.params).In h)
    (F : ∀ (w : World) (mg : Str → Option Value) (fa : Addr) (h : Heap), (K w.params).In h → h.Ns mainGlobals mg → mg d.name = some (.ref fa) →
      ∃ fd : FuncData, (∀ (s : Shared) (u : Value), BindsTo s fd ⟨[u], []⟩ [("script", u)]) ∧ ∀ base : Heap, (K w.params).In base → base.Ns mainGlobals mg → FnOk l.prog w (K w.params) mg base CX0 8 fa fd ["script"] (spLaw (K w.params))) :
    PySem.W.WalkO q loose XP YP l.row.toRowW d [] (fun f vs => PySem.call f vs) :=
  L2.walk_of (n := 63) (k := 8) (x := "script") (CX := fun _ => CX0) (sp := fun w => spLaw (K w.params)) hn (by decide) hdf ⟨rfl, by decide, by decide⟩ hY F (fun _ _ a ns _ _ hS => ⟨a, ns, rfl, hS, fun _ => rfl⟩) fun _ _ _ _ _ z => z
end Mw
open PySem PySem.W PyProof.Rows
set_option maxRecDepth 100000 in
set_option maxHeartbeats 0 in
theorem PySem.Challenge.cw_messageways_k11_what_messages_show_holds : PySem.Challenge.rw_messageways_k11_what_messages_show.Holds := by
  w_on; o_law; k_head; (case hw => w_witness2)
  k_fill
  refine Mw.walk (l := PySem.Challenge.rw_messageways_k11_what_messages_show) rfl rfl (fun w h Y => PySem.W.kIn_of Y) ?F
  case F =>
    intro w mg fa h KX G hmg
    refine' Mw.all_mk KX G hmg ?a1 ?l1 ?c1 ?k1 ?a2 ?l2 ?c2 ?k2 ?a3 ?l3 ?c3 ?k3 ?a4 ?l4 ?c4 ?k4 ?a5 ?l5 ?c5 ?k5 ?a6 ?l6 ?c6 ?k6 ?a7 ?l7 ?c7 ?k7 ?a8 ?l8 ?c8 ?k8 ?a9 ?l9 ?c9 ?k9 ?a10 ?l10 ?c10 ?k10 ?a11 ?l11 ?c11 ?k11 ?a12 ?l12 ?c12 ?k12 ?a13 ?l13 ?c13 ?k13 ?a14 ?l14 ?c14 ?k14 ?a15 ?l15 ?c15 ?k15 ?a16 ?l16 ?c16 ?k16 ?a17 ?l17 ?c17 ?k17 ?a18 ?l18 ?c18 ?k18 ?a19 ?l19 ?c19 ?k19 ?a20 ?l20 ?c20 ?k20 ?a21 ?l21 ?c21 ?k21 ?a22 ?l22 ?c22 ?k22 ?a23 ?l23 ?c23 ?k23 ?a24 ?l24 ?c24 ?k24 ?a25 ?l25 ?c25 ?k25 ?a26 ?l26 ?c26 ?k26 ?a27 ?l27 ?c27 ?k27 ?a28 ?l28 ?c28 ?k28 ?a29 ?l29 ?c29 ?k29 ?a30 ?l30 ?c30 ?k30 ?a31 ?l31 ?c31 ?k31 ?a32 ?l32 ?c32 ?k32 ?aC ?mk1 ?mk2 ?mk3 ?mk4 ?lI ?cI ?kI ?pg ?hd ?po ?sa ?nr ?aM ?aK ?xK ?lit ?low ?e1 ?e2 ?e3 ?ebM ?hdM ?tM ?op ?cg ?ct ?top ?aC1 ?xC1 ?sa1 ?ga1 ?gg1 ?no1 ?iC1 ?tI1 ?lB1 ?cB1 ?lc1 ?hv1 ?hf1 ?lx1 ?mr1 ?sm1 ?iV1 ?eb1 ?tC1 ?kC1 ?hdC1 ?ca1 ?ob1 ?sCM1 ?aC2 ?xC2 ?sa2 ?ga2 ?gg2 ?no2 ?iC2 ?tI2 ?lB2 ?cB2 ?lc2 ?hv2 ?hf2 ?lx2 ?mr2 ?sm2 ?iV2 ?eb2 ?tC2 ?kC2 ?hdC2 ?ca2 ?ob2 ?sCM2 ?ne1 ?ne2 ?z1 ?z2 ?z3 ?z4 ?z5 ?z6 ?z7 ?z8 ?z9 ?z10 ?z11
    (case a1 => k_is); (case l1 => k_is); (case c1 => k_is); (case k1 => k_is)
    (case a2 => k_is); (case l2 => k_is); (case c2 => k_is); (case k2 => k_is)
    (case a3 => k_is); (case l3 => k_is); (case c3 => k_is); (case k3 => k_is)
    (case a4 => k_is); (case l4 => k_is); (case c4 => k_is); (case k4 => k_is)
    (case a5 => k_is); (case l5 => k_is); (case c5 => k_is); (case k5 => k_is)
    (case a6 => k_is); (case l6 => k_is); (case c6 => k_is); (case k6 => k_is)
    (case a7 => k_is); (case l7 => k_is); (case c7 => k_is); (case k7 => k_is)
    (case a8 => k_is); (case l8 => k_is); (case c8 => k_is); (case k8 => k_is)
    (case a9 => k_is); (case l9 => k_is); (case c9 => k_is); (case k9 => k_is)
    (case a10 => k_is); (case l10 => k_is); (case c10 => k_is); (case k10 => k_is)
    (case a11 => k_is); (case l11 => k_is); (case c11 => k_is); (case k11 => k_is)
    (case a12 => k_is); (case l12 => k_is); (case c12 => k_is); (case k12 => k_is)
    (case a13 => k_is); (case l13 => k_is); (case c13 => k_is); (case k13 => k_is)
    (case a14 => k_is); (case l14 => k_is); (case c14 => k_is); (case k14 => k_is)
    (case a15 => k_is); (case l15 => k_is); (case c15 => k_is); (case k15 => k_is)
    (case a16 => k_is); (case l16 => k_is); (case c16 => k_is); (case k16 => k_is)
    (case a17 => k_is); (case l17 => k_is); (case c17 => k_is); (case k17 => k_is)
    (case a18 => k_is); (case l18 => k_is); (case c18 => k_is); (case k18 => k_is)
    (case a19 => k_is); (case l19 => k_is); (case c19 => k_is); (case k19 => k_is)
    (case a20 => k_is); (case l20 => k_is); (case c20 => k_is); (case k20 => k_is)
    (case a21 => k_is); (case l21 => k_is); (case c21 => k_is); (case k21 => k_is)
    (case a22 => k_is); (case l22 => k_is); (case c22 => k_is); (case k22 => k_is)
    (case a23 => k_is); (case l23 => k_is); (case c23 => k_is); (case k23 => k_is)
    (case a24 => k_is); (case l24 => k_is); (case c24 => k_is); (case k24 => k_is)
    (case a25 => k_is); (case l25 => k_is); (case c25 => k_is); (case k25 => k_is)
    (case a26 => k_is); (case l26 => k_is); (case c26 => k_is); (case k26 => k_is)
    (case a27 => k_is); (case l27 => k_is); (case c27 => k_is); (case k27 => k_is)
    (case a28 => k_is); (case l28 => k_is); (case c28 => k_is); (case k28 => k_is)
    (case a29 => k_is); (case l29 => k_is); (case c29 => k_is); (case k29 => k_is)
    (case a30 => k_is); (case l30 => k_is); (case c30 => k_is); (case k30 => k_is)
    (case a31 => k_is); (case l31 => k_is); (case c31 => k_is); (case k31 => k_is)
    (case a32 => k_is); (case l32 => k_is); (case c32 => k_is); (case k32 => k_is)
    (case aC => k_is)
    (case mk1 => k_is)
    (case mk2 => k_is)
    (case mk3 => k_is)
    (case mk4 => k_is)
    (case lI => k_is)
    (case cI => k_is)
    (case kI => k_is)
    (case pg => k_is)
    (case hd => k_is)
    (case po => k_is)
    (case sa => k_is)
    (case nr => k_is)
    (case aM => k_is)
    (case aK => k_is)
    (case xK => k_is)
    (case lit => k_keys)
    (case low => decide)
    (case e1 => k_is)
    (case e2 => k_is)
    (case e3 => k_is)
    (case ebM => k_is)
    (case hdM => k_is)
    (case tM => k_is)
    (case op => k_is)
    (case cg => k_is)
    (case ct => k_is)
    (case top => decide +kernel)
    (case aC1 => k_is)
    (case xC1 => k_is)
    (case sa1 => k_is)
    (case ga1 => k_is)
    (case gg1 => k_is)
    (case no1 => k_is)
    (case iC1 => k_is)
    (case tI1 => k_is)
    (case lB1 => k_is)
    (case cB1 => k_is)
    (case lc1 => k_is)
    (case hv1 => rfl)
    (case hf1 => decide +kernel)
    (case lx1 => k_is)
    (case mr1 => k_is)
    (case sm1 => ks_is)
    (case iV1 => k_is)
    (case eb1 => k_is)
    (case tC1 => k_is)
    (case kC1 => k_is)
    (case hdC1 => k_is)
    (case ca1 => k_is)
    (case ob1 => k_is)
    (case sCM1 => k_is)
    (case aC2 => k_is)
    (case xC2 => k_is)
    (case sa2 => k_is)
    (case ga2 => k_is)
    (case gg2 => k_is)
    (case no2 => k_is)
    (case iC2 => k_is)
    (case tI2 => k_is)
    (case lB2 => k_is)
    (case cB2 => k_is)
    (case lc2 => k_is)
    (case hv2 => rfl)
    (case hf2 => decide +kernel)
    (case lx2 => k_is)
    (case mr2 => k_is)
    (case sm2 => ks_is)
    (case iV2 => k_is)
    (case eb2 => k_is)
    (case tC2 => k_is)
    (case kC2 => k_is)
    (case hdC2 => k_is)
    (case ca2 => k_is)
    (case ob2 => k_is)
    (case sCM2 => k_is)
    (case ne1 => decide)
    (case ne2 => k_is)
    (case z1 => k_is)
    (case z2 => k_is)
    (case z3 => k_is)
    (case z4 => k_is)
    (case z5 => k_is)
    (case z6 => k_is)
    (case z7 => k_is)
    (case z8 => k_is)
    (case z9 => k_is)
    (case z10 => k_is)
    (case z11 => k_is)

