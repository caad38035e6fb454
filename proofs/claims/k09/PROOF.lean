import PyProof.Rows.All
import Wide.All
import OpenK.AllK
import Wide.FinOn
import HandS.Base
import HandS.Call
import HandS.List
import HandS.Comp
import HandS.Ends
import HandS.Dict
import HandS.Iter
import HandS.Text
import HandS.Words
import HandS.WordsList
import HandS.Evl
import HandS.TupMul
import HandS.Strs
import HandS.Gcd
import KE.KMathGC
import PyProof.P3In
import HandS.Zip
import HandS.Style
import PySem.Challenge.RW_messageways_k09_sets_put_together
set_option Elab.async false
set_option maxRecDepth 100000
namespace Mw
open PySem L2
def top (i : Nat) : Stmt := PySem.Challenge.pw_messageways_k09_sets_put_together.main.body.getD i (.Pass ⟨0, 0, 0, 0⟩)
/-! ### trees of messages: a message is a chain of nodes, the cases of a choice a chain of cas -/
inductive T where
  | nil
  | text (s : Str) (r : T)
  | shw (n : Str) (r : T)
  | num (r : T)
  | cho (hd : List V) (cs o r : T)
  | cas (k : V) (m r : T)
/-- the values vs are the nodes (the cases) of the tree, as the heap has them -/
def Nodes (H : Hp) : T → List V → Prop
  | .nil, vs => vs = []
  | .text s r, vs => ∃ p ws, vs = .ref p :: ws ∧ H p = some (.tup [.str "text", .str s]) ∧ Nodes H r ws
  | .shw n r, vs => ∃ p ws, vs = .ref p :: ws ∧ H p = some (.tup [.str "show", .str n]) ∧ Nodes H r ws
  | .num r, vs => ∃ p ws, vs = .ref p :: ws ∧ H p = some (.tup [.str "number"]) ∧ Nodes H r ws
  | .cho hd cs o r, vs => ∃ p ws ca cvs oa ovs, vs = .ref p :: ws ∧ H p = some (.tup (hd ++ [.ref ca, .ref oa])) ∧ H ca = some (.lst cvs) ∧ Nodes H cs cvs ∧ H oa = some (.lst ovs) ∧ Nodes H o ovs ∧ Nodes H r ws
  | .cas k m r, vs => ∃ p ws ma mvs, vs = .ref p :: ws ∧ H p = some (.tup [k, .ref ma]) ∧ H ma = some (.lst mvs) ∧ Nodes H m mvs ∧ Nodes H r ws
/-- a list at a that is a message -/
def At (H : Hp) (a : Addr) (t : T) : Prop := ∃ vs, H a = some (.lst vs) ∧ Nodes H t vs
/-- all but the box stays; the box is a list of a ref and an int -/
def IsBox (vs : List V) : Prop := ∃ d i, vs = [.ref d, .int i]
def Ext (B : Addr) (H H' : Hp) : Prop := ∀ b o, b ≠ B → H b = some o → H' b = some o
theorem Ext.refl {B : Addr} (H : Hp) : Ext B H H := fun _ _ _ h => h
theorem Ext.trans {B : Addr} {H H1 H2 : Hp} (a : Ext B H H1) (b : Ext B H1 H2) : Ext B H H2 := fun c o n h => b c o n (a c o n h)
theorem Ext.of {B : Addr} {H H' : Hp} (s : Same H H') : Ext B H H' := fun b o _ h => s b o h
theorem same_new {H : Hp} {p : Addr} (h : H p = none) (o : HO) : Same H (upd H p o) := fun b u q => by
  rw [upd_ne (ne_of_none q h)]
  exact q
theorem same_mut {H H' : Hp} {p : Addr} (s : Same H H') (h : H p = none) (o : HO) : Same H (upd H' p o) := fun b u q => by
  rw [upd_ne (ne_of_none q h)]
  exact s b u q
theorem Nodes.refs {H : Hp} : ∀ {t : T} {vs : List V}, Nodes H t vs → ∀ v ∈ vs, ∃ a, v = .ref a
  | .nil, _, h, v, hv => by
    have h' : _ = [] := h
    subst h'
    cases hv
  | .text s r, _, h, v, hv => by
    obtain ⟨p, ws, rfl, _, hr⟩ := h
    rcases List.mem_cons.mp hv with rfl | hv
    · exact ⟨_, rfl⟩
    · exact Nodes.refs hr v hv
  | .shw n r, _, h, v, hv => by
    obtain ⟨p, ws, rfl, _, hr⟩ := h
    rcases List.mem_cons.mp hv with rfl | hv
    · exact ⟨_, rfl⟩
    · exact Nodes.refs hr v hv
  | .num r, _, h, v, hv => by
    obtain ⟨p, ws, rfl, _, hr⟩ := h
    rcases List.mem_cons.mp hv with rfl | hv
    · exact ⟨_, rfl⟩
    · exact Nodes.refs hr v hv
  | .cho hd cs o r, _, h, v, hv => by
    obtain ⟨p, ws, ca, cvs, oa, ovs, rfl, _, _, _, _, _, hr⟩ := h
    rcases List.mem_cons.mp hv with rfl | hv
    · exact ⟨_, rfl⟩
    · exact Nodes.refs hr v hv
  | .cas k m r, _, h, v, hv => by
    obtain ⟨p, ws, ma, mvs, rfl, _, _, _, hr⟩ := h
    rcases List.mem_cons.mp hv with rfl | hv
    · exact ⟨_, rfl⟩
    · exact Nodes.refs hr v hv
theorem Nodes.notBox {H : Hp} {t : T} {vs : List V} (h : Nodes H t vs) : ¬ IsBox vs := by
  rintro ⟨d, i, rfl⟩
  obtain ⟨a, e⟩ := h.refs (.int i) (by simp)
  cases e
theorem lst_ne {B a : Addr} {H : Hp} {bs vs : List V} (hb : H B = some (.lst bs)) (ib : IsBox bs) (ha : H a = some (.lst vs)) (nv : ¬ IsBox vs) : a ≠ B := by
  intro e
  subst e
  rw [hb] at ha
  cases ha
  exact nv ib
theorem tup_ne {B a : Addr} {H : Hp} {bs vs : List V} (hb : H B = some (.lst bs)) (ha : H a = some (.tup vs)) : a ≠ B := by
  intro e
  subst e
  rw [hb] at ha
  cases ha
/-- a tree stays where all but the box stays -/
theorem Nodes.ext {B : Addr} {H H' : Hp} {bs : List V} (hb : H B = some (.lst bs)) (ib : IsBox bs) (e : Ext B H H') : ∀ {t : T} {vs : List V}, Nodes H t vs → Nodes H' t vs
  | .nil, _, h => h
  | .text s r, _, h => by
    obtain ⟨p, ws, rfl, hp, hr⟩ := h
    exact ⟨p, ws, rfl, e _ _ (tup_ne hb hp) hp, Nodes.ext hb ib e hr⟩
  | .shw n r, _, h => by
    obtain ⟨p, ws, rfl, hp, hr⟩ := h
    exact ⟨p, ws, rfl, e _ _ (tup_ne hb hp) hp, Nodes.ext hb ib e hr⟩
  | .num r, _, h => by
    obtain ⟨p, ws, rfl, hp, hr⟩ := h
    exact ⟨p, ws, rfl, e _ _ (tup_ne hb hp) hp, Nodes.ext hb ib e hr⟩
  | .cho hd cs o r, _, h => by
    obtain ⟨p, ws, ca, cvs, oa, ovs, rfl, hp, hc, hcs, ho, hos, hr⟩ := h
    exact ⟨p, ws, ca, cvs, oa, ovs, rfl, e _ _ (tup_ne hb hp) hp, e _ _ (lst_ne hb ib hc hcs.notBox) hc, Nodes.ext hb ib e hcs, e _ _ (lst_ne hb ib ho hos.notBox) ho, Nodes.ext hb ib e hos, Nodes.ext hb ib e hr⟩
  | .cas k m r, _, h => by
    obtain ⟨p, ws, ma, mvs, rfl, hp, hm, hms, hr⟩ := h
    exact ⟨p, ws, ma, mvs, rfl, e _ _ (tup_ne hb hp) hp, e _ _ (lst_ne hb ib hm hms.notBox) hm, Nodes.ext hb ib e hms, Nodes.ext hb ib e hr⟩
theorem Nodes.same {H H' : Hp} (e : Same H H') : ∀ {t : T} {vs : List V}, Nodes H t vs → Nodes H' t vs
  | .nil, _, h => h
  | .text s r, _, h => by
    obtain ⟨p, ws, rfl, hp, hr⟩ := h
    exact ⟨p, ws, rfl, e _ _ hp, Nodes.same e hr⟩
  | .shw n r, _, h => by
    obtain ⟨p, ws, rfl, hp, hr⟩ := h
    exact ⟨p, ws, rfl, e _ _ hp, Nodes.same e hr⟩
  | .num r, _, h => by
    obtain ⟨p, ws, rfl, hp, hr⟩ := h
    exact ⟨p, ws, rfl, e _ _ hp, Nodes.same e hr⟩
  | .cho hd cs o r, _, h => by
    obtain ⟨p, ws, ca, cvs, oa, ovs, rfl, hp, hc, hcs, ho, hos, hr⟩ := h
    exact ⟨p, ws, ca, cvs, oa, ovs, rfl, e _ _ hp, e _ _ hc, Nodes.same e hcs, e _ _ ho, Nodes.same e hos, Nodes.same e hr⟩
  | .cas k m r, _, h => by
    obtain ⟨p, ws, ma, mvs, rfl, hp, hm, hms, hr⟩ := h
    exact ⟨p, ws, ma, mvs, rfl, e _ _ hp, e _ _ hm, Nodes.same e hms, Nodes.same e hr⟩
/-- two chains, one behind the other -/
def T.app : T → T → T
  | .nil, u => u
  | .text s r, u => .text s (r.app u)
  | .shw n r, u => .shw n (r.app u)
  | .num r, u => .num (r.app u)
  | .cho hd cs o r, u => .cho hd cs o (r.app u)
  | .cas k m r, u => .cas k m (r.app u)
theorem Nodes.app {H : Hp} {u : T} {us : List V} (hu : Nodes H u us) : ∀ {t : T} {vs : List V}, Nodes H t vs → Nodes H (t.app u) (vs ++ us)
  | .nil, _, h => by
    have h' : _ = [] := h
    subst h'
    exact hu
  | .text s r, _, h => by
    obtain ⟨p, ws, rfl, hp, hr⟩ := h
    exact ⟨p, ws ++ us, rfl, hp, Nodes.app hu hr⟩
  | .shw n r, _, h => by
    obtain ⟨p, ws, rfl, hp, hr⟩ := h
    exact ⟨p, ws ++ us, rfl, hp, Nodes.app hu hr⟩
  | .num r, _, h => by
    obtain ⟨p, ws, rfl, hp, hr⟩ := h
    exact ⟨p, ws ++ us, rfl, hp, Nodes.app hu hr⟩
  | .cho hd cs o r, _, h => by
    obtain ⟨p, ws, ca, cvs, oa, ovs, rfl, hp, hc, hcs, ho, hos, hr⟩ := h
    exact ⟨p, ws ++ us, ca, cvs, oa, ovs, rfl, hp, hc, hcs, ho, hos, Nodes.app hu hr⟩
  | .cas k m r, _, h => by
    obtain ⟨p, ws, ma, mvs, rfl, hp, hm, hms, hr⟩ := h
    exact ⟨p, ws ++ us, ma, mvs, rfl, hp, hm, hms, Nodes.app hu hr⟩
section
variable {P : Program} {w : World} {K : PySem.W.Frag} {mg : Str → Option Value} {base : Heap}
/-! ### _law_cell -/
abbrev sCell : Stmt := top 21
theorem scCell : FnScope ["script", "k"] ["script", "k"] (defScope sCell) := ⟨rfl, rfl, rfl, by decide +kernel, rfl, by decide +kernel, by decide +kernel⟩
def spCell (K : PySem.W.Frag) : Sp := fun vs H Q _ => ∃ (a : Addr) (ns : List Int) (k : Int), vs = [.ref a, .int k] ∧ SqL K H a (ns.map V.int) ∧ 0 ≤ k ∧ ∀ z, Q (.int z) H
theorem ok_cell {f : Addr} {fd : FuncData} (F : Fun K "_law_cell" "_law_cell" sCell f fd) (ml : mg "len" = none) : FnOk P w K mg base CX0 1 f fd ["script", "k"] (spCell K) := by
  refine F.ok scCell (fun vs H Q E h => ?_) (fun cdv A outer s H vs Q E hr h => ?_)
  · obtain ⟨a, ns, k, rfl, _⟩ := h
    rfl
  obtain ⟨a, ns, k, rfl, hS, h0, q⟩ := h
  refine ⟨_, pss_cons (ps_if (pt_cmpR op_lt (pv 1) (pe_callB call_len_seq (by rfl) ml PySem.boot_len (pa_cons (pv 0) pa_nil)) (nomark _)) (pss_one (ps_ret (pe_ix ix_list (pv 0) (pv 1) (fun _ _ => rfl)))) pss_nil)
    (pss_one (ps_ret pe_int)), ?_⟩
  refine ⟨_, rfl, _, rfl, a, _, rfl, .inl hS, _, _, rfl, rfl, _, rfl, ?_⟩
  refine ite2 (fun c => ?_) (fun c => ?_)
  · have c' := of_decide_eq_true c
    rw [List.length_map] at c'
    have hk : k.toNat < ns.length := by omega
    refine ⟨_, rfl, _, rfl, a, _, k, .int ns[k.toNat], rfl, rfl, hS, at_of (j := k.toNat) (by omega) (by rw [List.getElem?_map, List.getElem?_eq_getElem hk] <;> rfl), q _⟩
  · exact q _
end
end Mw

namespace Mw
open PySem L2
section
variable {P : Program} {w : World} {K : PySem.W.Frag} {mg : Str → Option Value} {base : Heap}
/-! ### _law_digits: a new list of ints -/
abbrev sDigits : Stmt := top 22
theorem scDigits : FnScope ["script", "first", "last", "digits", "k", "cell", "turn", "seed"] ["script", "first", "last"] (defScope sDigits) := ⟨rfl, rfl, rfl, by decide +kernel, rfl, by decide +kernel, by decide +kernel⟩
def spDigits (K : PySem.W.Frag) : Sp := fun vs H Q _ => ∃ (a : Addr) (ns : List Int), vs = [.ref a, .int 0, .int 63] ∧ SqL K H a (ns.map V.int) ∧ ∀ (d : Addr) (H' : Hp) (ds : List Int), H d = none → Same H H' → H' d = some (.lst (ds.map V.int)) → Q (.ref d) H'
theorem len_ints (ds : List Int) (z : Int) : ds.map V.int ++ [V.int z] = (ds ++ [z]).map V.int := by simp
theorem ok_digits {f fC : Addr} {fd fdC : FuncData} (F : Fun K "_law_digits" "_law_digits" sDigits f fd) (GC : FnOk P w K mg base CX0 1 fC fdC ["script", "k"] (spCell K)) (bC : Binds K fdC ["script", "k"] []) (kC : PySem.W.keepIn K (.ref fC) = true) (mC : mg "_law_cell" = some (.ref fC)) (mr : mg "range" = none) (mi : mg "int" = none) :
    FnOk P w K mg base CX0 2 f fd ["script", "first", "last"] (spDigits K) := by
  refine F.ok scDigits (fun vs H Q E h => ?_) (fun cdv A outer s H vs Q E hr h => ?_)
  · obtain ⟨a, ns, rfl, _⟩ := h
    rfl
  obtain ⟨a, ns, rfl, hS, q⟩ := h
  have nd := scDigits.nd
  refine ⟨_, pss_cons (ps_set (i := 3) nd rfl (.inl rfl) (pe_lst pa_nil))
    (pss_cons (ps_for PassesOwn.never rfl (pi_range2 rfl mr (pa_cons (pv 1) (pa_cons (pv 2) pa_nil))) (pg_name (i := 4) nd rfl (.inl rfl))
      (pss_cons (ps_set (i := 5) nd rfl (.inl rfl) (pe_call GC hr rfl mC kC bC .nil pass0 (pa_cons (pv 0) (pa_cons (pv 4) pa_nil))))
      (Evl.pss_cut (ps_if (pt_cmpR op_lt (pv 5) pe_int (nomark _)) (pss_one (ps_set (i := 5) nd rfl (.inl rfl) (pe_op op_sub pe_int (pe_op op_mul pe_int (pv 5))))) pss_nil)
      (pss_one (ps_if (pt_cmpR op_ge (pv 5) (pe_op op_pow pe_int pe_int) (nomark _))
        (pss_one (ps_for PassesOwn.never rfl (pi_range1 rfl mr (pa_cons pe_int pa_nil)) (pg_name (i := 6) nd rfl (.inl rfl))
          (pss_one (ps_if (pt_cmpR op_gt (pv 5) pe_int (nomark _))
            (pss_cons (ps_expr (pe_bm PySem.F.plainAttrs_list PySem.F.slot_list_append PySem.F.type_list_append mt_append (pv 3) (pa_cons (pe_op op_mod (pe_callTy call_int1 (by rfl) mi (by decide +kernel) (pa_cons (pv 5) pa_nil)) pe_int) pa_nil)))
            (pss_one (ps_set (i := 5) nd rfl (.inl rfl) (pe_op op_fdiv (pv 5) pe_int)))) pss_nil))))
        (pss_cons (ps_set (i := 7) nd rfl (.inl rfl) (pe_op op_mod (pe_callTy call_int1 (by rfl) mi (by decide +kernel) (pa_cons (pe_op op_add (pe_op op_add (pe_op op_mul (pv 5) pe_int) (pe_op op_mul (pv 4) pe_int)) pe_int) pa_nil)) pe_int))
        (pss_one (ps_for PassesOwn.never rfl (pi_range1 rfl mr (pa_cons pe_int pa_nil)) (pg_name (i := 6) nd rfl (.inl rfl))
          (pss_cons (ps_set (i := 7) nd rfl (.inl rfl) (pe_op op_mod (pe_callTy call_int1 (by rfl) mi (by decide +kernel) (pa_cons (pe_op op_add (pe_op op_add (pe_op op_mul (pv 7) pe_int) (pe_op op_mul pe_int (pv 6))) pe_int) pa_nil)) pe_int))
          (pss_one (ps_expr (pe_bm PySem.F.plainAttrs_list PySem.F.slot_list_append PySem.F.type_list_append mt_append (pv 3) (pa_cons (pe_op op_mod (pe_callTy call_int1 (by rfl) mi (by decide +kernel) (pa_cons (pe_op op_fdiv (pv 7) pe_int) pa_nil)) pe_int) pa_nil)))))))))))))
    (pss_one (ps_ret (pv 3)))), ?_⟩
  refine ⟨Nat.zero_le _, fun d nd0 => ?_⟩
  have s1 : Same H (upd H d (.lst [])) := same_new nd0 _
  refine ⟨_, rfl, _, rfl, 0, 63, rfl, by decide, for_range (lo := 0) (n := (63 - 0 : Int).toNat) (fun i σ H' => ∃ (ds : List Int) (o4 o5 o6 o7 : Option V), σ = [some (.ref a), some (.int 0), some (.int 63), some (.ref d), o4, o5, o6, o7] ∧ Same H H' ∧ H' d = some (.lst (ds.map V.int)) ∧ ds.length ≤ 60 * i)
    ⟨[], none, none, none, none, rfl, s1, upd_same, Nat.le_refl _⟩ ?_ ?_⟩
  · rintro i σ H2 hi ⟨ds, o4, o5, o6, o7, rfl, s2, hd, hl⟩
    refine ⟨_, rfl, _, rfl, a, ns, _, rfl, s2.seq hS, by omega, fun z => ?_⟩
    refine ⟨fun σ' H' => ∃ z' : Int, σ' = [some (.ref a), some (.int 0), some (.int 63), some (.ref d), some (.int (0 + i)), some (.int z'), o6, o7] ∧ H' = H2, ?_, ?_⟩
    · refine ⟨_, rfl, _, _, rfl, rfl, _, rfl, ?_⟩
      refine ite2 (fun _ => ?_) (fun _ => ?_)
      · exact ⟨_, rfl, _, _, rfl, rfl, .inl (by decide), _, _, rfl, rfl, _, rfl, rfl⟩
      · exact ⟨_, rfl, rfl⟩
    · rintro σ' H' ⟨z', rfl, rfl⟩
      refine ⟨_, rfl, _, _, rfl, rfl, (by unfold CPow; decide), _, _, rfl, rfl, _, rfl, ?_⟩
      refine ite2 (fun _ => ?_) (fun _ => ?_)
      · refine ⟨60, rfl, by decide, by decide, for_range (lo := 0) (n := 60) (fun j σ H' => ∃ (ds' : List Int) (z' : Int) (o6 : Option V), σ = [some (.ref a), some (.int 0), some (.int 63), some (.ref d), some (.int (0 + i)), some (.int z'), o6, o7] ∧ Same H H' ∧ H' d = some (.lst (ds'.map V.int)) ∧ ds'.length ≤ 60 * i + j)
          ⟨ds, z', o6, rfl, s2, hd, hl⟩ ?_ ?_⟩
        · rintro j σ H3 hj ⟨ds', z'', o6, rfl, s3, hd3, hl3⟩
          refine ⟨_, rfl, _, _, rfl, rfl, _, rfl, ?_⟩
          refine ite2 (fun _ => ?_) (fun _ => ?_)
          · refine ⟨_, rfl, .inl ⟨rfl, _, SqL.of hd3⟩, _, rfl, .inl ⟨_, rfl, _, _, rfl, rfl, (by show (0 : Int) < 1000; decide), d, _, _, rfl, rfl, hd3, ?_, ?_⟩⟩
            · rw [List.length_map]
              exact Nat.lt_of_lt_of_le (show ds'.length < 100000 by omega) (by decide)
            · refine ⟨_, rfl, _, _, rfl, rfl, ⟨by decide, by decide⟩, ds' ++ [z'' % 1000], _, _, rfl, same_mut s3 nd0 _, ?_, ?_⟩
              · rw [upd_same, len_ints]
              · rw [List.length_append, List.length_singleton]
                omega
          · exact ⟨ds', _, _, rfl, s3, hd3, by omega⟩
        · rintro σ H3 ⟨ds', z'', o6, rfl, s3, hd3, hl3⟩
          exact ⟨ds', _, _, _, _, rfl, s3, hd3, by omega⟩
      · refine ⟨_, rfl, _, _, rfl, rfl, .inr (by decide), _, rfl, _, _, rfl, rfl, .inr (by decide), _, _, rfl, rfl, _, _, rfl, rfl, .inl ⟨_, rfl, _, _, rfl, rfl, (by show (0 : Int) < 2147483647; decide), ?_⟩⟩
        refine ⟨12, rfl, by decide, by decide, for_range (lo := 0) (n := 12) (fun j σ H' => ∃ (ds' : List Int) (z7 : Int) (o6 : Option V), σ = [some (.ref a), some (.int 0), some (.int 63), some (.ref d), some (.int (0 + i)), some (.int z'), o6, some (.int z7)] ∧ Same H H' ∧ H' d = some (.lst (ds'.map V.int)) ∧ ds'.length ≤ 60 * i + j)
          ⟨ds, _, o6, rfl, s2, hd, hl⟩ ?_ ?_⟩
        · rintro j σ H3 hj ⟨ds', z7, o6, rfl, s3, hd3, hl3⟩
          refine ⟨_, rfl, _, _, rfl, rfl, .inr (by decide), _, rfl, _, _, rfl, rfl, .inl (by decide), _, _, rfl, rfl, _, _, rfl, rfl, .inl ⟨_, rfl, _, _, rfl, rfl, (by show (0 : Int) < 2147483647; decide), ?_⟩⟩
          refine ⟨_, rfl, .inl ⟨rfl, _, SqL.of hd3⟩, _, rfl, _, _, rfl, rfl, ⟨by decide, by decide⟩, .inl ⟨_, rfl, _, _, rfl, rfl, (by show (0 : Int) < 1000; decide), d, _, _, rfl, rfl, hd3, ?_, ?_⟩⟩
          · rw [List.length_map]
            exact Nat.lt_of_lt_of_le (show ds'.length < 100000 by omega) (by decide)
          · refine ⟨ds' ++ [((z7 * 16807 + 7 * (0 + (j : Int)) + 1) % 2147483647 / 997) % 1000], _, _, rfl, same_mut s3 nd0 _, ?_, ?_⟩
            · rw [upd_same, len_ints]
            · rw [List.length_append, List.length_singleton]
              omega
        · rintro σ H3 ⟨ds', z7, o6, rfl, s3, hd3, hl3⟩
          exact ⟨ds', _, _, _, _, rfl, s3, hd3, by omega⟩
  · rintro σ H2 ⟨ds, o4, o5, o6, o7, rfl, s2, hd, hl⟩
    exact ⟨_, rfl, q d H2 ds nd0 s2 hd⟩
end
end Mw

namespace Mw
open PySem L2
/-! ### how a heap goes on: all but the box stays, nothing is given up -/
structure Go (B : Addr) (H H' : Hp) : Prop where
  ext : ∀ b o, b ≠ B → H b = some o → H' b = some o
  dom : ∀ b, H' b = none → H b = none
theorem Go.refl (B : Addr) (H : Hp) : Go B H H := ⟨fun _ _ _ h => h, fun _ h => h⟩
theorem Go.trans {B : Addr} {H H1 H2 : Hp} (a : Go B H H1) (b : Go B H1 H2) : Go B H H2 := ⟨fun c o n h => b.ext c o n (a.ext c o n h), fun c h => a.dom c (b.dom c h)⟩
theorem upd_none {H : Hp} {p b : Addr} {o : HO} (h : upd H p o b = none) : H b = none := by
  unfold upd at h
  split at h
  · cases h
  · exact h
theorem Go.new {B : Addr} {H : Hp} {p : Addr} (h : H p = none) (o : HO) : Go B H (upd H p o) := ⟨fun b u _ q => same_new h o b u q, fun b q => upd_none q⟩
theorem Go.mut {B : Addr} {H H' : Hp} {p : Addr} (g : Go B H H') (h : H p = none) (o : HO) : Go B H (upd H' p o) :=
  ⟨fun b u n q => by
    rw [upd_ne (ne_of_none q h)]
    exact g.ext b u n q, fun b q => g.dom b (upd_none q)⟩
theorem Go.box (B : Addr) (H : Hp) (o : HO) : Go B H (upd H B o) := ⟨fun b u n q => by rw [upd_ne n]; exact q, fun b q => upd_none q⟩
theorem Go.same {B : Addr} {H H' : Hp} (s : Same H H') : Go B H H' := ⟨fun b o _ h => s b o h, fun b h => s.free h⟩
/-- what is new in H, seen from H0 -/
def fr (H0 H : Hp) : Hp := fun a => match H0 a with
  | none => H a
  | some _ => none
theorem fr_new {H0 H : Hp} {a : Addr} (h : H0 a = none) : fr H0 H a = H a := by
  unfold fr
  rw [h]
theorem fr_old {H0 H : Hp} {a : Addr} {o : HO} (h : H0 a = some o) : fr H0 H a = none := by
  unfold fr
  rw [h]
theorem fr_in {H0 H : Hp} {a : Addr} {o : HO} (h : fr H0 H a = some o) : H0 a = none ∧ H a = some o := by
  unfold fr at h
  split at h
  · exact ⟨by assumption, h⟩
  · cases h
theorem fr_go {B : Addr} {H0 H1 H2 : Hp} {ob : HO} (hb : H0 B = some ob) (g : Go B H1 H2) : Same (fr H0 H1) (fr H0 H2) := fun a o h => by
  obtain ⟨h0, h1⟩ := fr_in h
  rw [fr_new h0]
  exact g.ext a o (by rintro rfl; rw [hb] at h0; cases h0) h1
theorem fr_same {H0 H1 H2 : Hp} (g : Same H1 H2) : Same (fr H0 H1) (fr H0 H2) := fun a o h => by
  obtain ⟨h0, h1⟩ := fr_in h
  rw [fr_new h0]
  exact g a o h1
theorem fr_mut {H0 H1 : Hp} {l : Addr} {ol : HO} (hl : H0 l = some ol) (o : HO) : Same (fr H0 H1) (fr H0 (upd H1 l o)) := fun a u h => by
  obtain ⟨h0, h1⟩ := fr_in h
  rw [fr_new h0, upd_ne (by rintro rfl; rw [hl] at h0; cases h0)]
  exact h1
theorem fr_dom {H0 H1 H2 : Hp} (g : ∀ b, H1 b = none → H0 b = none) : Same (fr H1 H2) (fr H0 H2) := fun a u h => by
  obtain ⟨h0, h1⟩ := fr_in h
  rw [fr_new (g a h0)]
  exact h1
theorem fr_out {H0 H : Hp} : Same (fr H0 H) H := fun a o h => (fr_in h).2
/-- the box: digits and a place -/
def Box (H : Hp) (B d : Addr) : Prop := ∃ (ds : List Int) (i : Int), H B = some (.lst [.ref d, .int i]) ∧ H d = some (.lst (ds.map V.int)) ∧ 0 ≤ i
theorem Box.isB {H : Hp} {B d : Addr} (b : Box H B d) : ∃ o, H B = some o := by
  obtain ⟨ds, i, h, _⟩ := b
  exact ⟨_, h⟩
theorem Box.isD {H : Hp} {B d : Addr} (b : Box H B d) : ∃ o, H d = some o := by
  obtain ⟨ds, i, _, h, _⟩ := b
  exact ⟨_, h⟩
theorem Box.neB {H : Hp} {B d l : Addr} (b : Box H B d) (h : H l = none) : l ≠ B := by
  obtain ⟨o, hB⟩ := b.isB
  exact (ne_of_none hB h).symm
theorem Box.neD {H : Hp} {B d l : Addr} (b : Box H B d) (h : H l = none) : l ≠ d := by
  obtain ⟨o, hB⟩ := b.isD
  exact (ne_of_none hB h).symm
theorem Box.ne {H : Hp} {B d : Addr} {ds : List Int} {i : Int} (h : H B = some (.lst [.ref d, .int i])) (hd : H d = some (.lst (ds.map V.int))) : d ≠ B := by
  rintro rfl
  rw [h] at hd
  cases ds with
  | nil => cases hd
  | cons z r => cases hd
theorem Box.same {H H' : Hp} {B d : Addr} (s : Same H H') (b : Box H B d) : Box H' B d := by
  obtain ⟨ds, i, h, hd, hi⟩ := b
  exact ⟨ds, i, s _ _ h, s _ _ hd, hi⟩
theorem Box.mut {H : Hp} {B d l : Addr} (b : Box H B d) (hB : l ≠ B) (hd : l ≠ d) (o : HO) : Box (upd H l o) B d := by
  obtain ⟨ds, i, h, hd', hi⟩ := b
  exact ⟨ds, i, by rw [upd_ne hB.symm]; exact h, by rw [upd_ne hd.symm]; exact hd', hi⟩
theorem Box.new {H : Hp} {B d l : Addr} (b : Box H B d) (h : H l = none) (o : HO) : Box (upd H l o) B d := b.mut (b.neB h) (b.neD h) o
section
variable {P : Program} {w : World} {K : PySem.W.Frag} {mg : Str → Option Value} {base : Heap}
/-! ### _law_draw -/
abbrev sDraw : Stmt := top 23
theorem scDraw : FnScope ["box", "many", "at"] ["box", "many"] (defScope sDraw) := ⟨rfl, rfl, rfl, by decide +kernel, rfl, by decide +kernel, by decide +kernel⟩
def spDraw : Sp := fun vs H Q _ => ∃ (B d : Addr) (n : Int), vs = [.ref B, .int n] ∧ 0 < n ∧ Box H B d ∧ ∀ z H', 0 ≤ z → z < n → Go B H H' → Box H' B d → Q (.int z) H'
theorem ok_draw {f : Addr} {fd : FuncData} (F : Fun K "_law_draw" "_law_draw" sDraw f fd) (ml : mg "len" = none) (mi : mg "int" = none) : FnOk P w K mg base CX0 1 f fd ["box", "many"] spDraw := by
  refine F.ok scDraw (fun vs H Q E h => ?_) (fun cdv A outer s H vs Q E hr h => ?_)
  · obtain ⟨B, d, n, rfl, _⟩ := h
    rfl
  obtain ⟨B, d, n, rfl, h0, ⟨ds, i, hB, hd, hi⟩, q⟩ := h
  have nd := scDraw.nd
  refine ⟨_, pss_cons (ps_set (i := 2) nd rfl (.inl rfl) (pe_ix ix_list (pv 0) pe_int (fun _ _ => rfl)))
    (pss_cons (ps_asg (pe_op op_add (pv 2) pe_int) (pg_sub (pv 0) pe_int set_list))
    (pss_cons (ps_if (pt_cmpR op_lt (pv 2) (pe_callB call_len_seq (by rfl) ml PySem.boot_len (pa_cons (pe_ix ix_list (pv 0) pe_int (fun _ _ => rfl)) pa_nil)) (nomark _))
      (pss_one (ps_ret (pe_op op_mod (pe_callTy call_int1 (by rfl) mi (by decide +kernel) (pa_cons (pe_ix ix_list (pe_ix ix_list (pv 0) pe_int (fun _ _ => rfl)) (pv 2) (fun _ _ => rfl)) pa_nil)) (pv 1)))) pss_nil)
    (pss_one (ps_ret pe_int)))), ?_⟩
  have ne : d ≠ B := Box.ne hB hd
  refine ⟨_, rfl, B, _, 1, _, rfl, rfl, SqL.of hB, atI_nat (j := 1) rfl, ?_⟩
  refine ⟨_, rfl, _, _, rfl, rfl, _, rfl, B, _, 1, 1, rfl, rfl, hB, rfl, ?_⟩
  have hB' : upd H B (.lst [.ref d, .int (i + 1)]) B = some (.lst [.ref d, .int (i + 1)]) := upd_same
  have hd' : upd H B (.lst [.ref d, .int (i + 1)]) d = some (.lst (ds.map V.int)) := by rw [upd_ne ne]; exact hd
  have hb : Box (upd H B (.lst [.ref d, .int (i + 1)])) B d := ⟨ds, i + 1, hB', hd', by omega⟩
  refine ⟨_, rfl, _, rfl, B, _, 0, _, rfl, rfl, SqL.of hB', atI_nat (j := 0) rfl, d, _, rfl, .inl (SqL.of hd'), _, _, rfl, rfl, _, rfl, ?_⟩
  refine ite2 (fun c => ?_) (fun c => ?_)
  · have c' := of_decide_eq_true c
    rw [List.length_map] at c'
    have hk : i.toNat < ds.length := by omega
    refine ⟨_, rfl, B, _, 0, _, rfl, rfl, SqL.of hB', atI_nat (j := 0) rfl, _, rfl, d, _, i, .int ds[i.toNat], rfl, rfl, SqL.of hd', at_of (j := i.toNat) (by omega) (by rw [List.getElem?_map, List.getElem?_eq_getElem hk] <;> rfl), .inl ⟨_, rfl, _, rfl, _, _, rfl, rfl, h0, ?_⟩⟩
    exact q _ _ (Int.emod_nonneg _ (by omega)) (Int.emod_lt_of_pos _ h0) (Go.box B H _) hb
  · exact q 0 _ (by omega) h0 (Go.box B H _) hb
theorem pick {α : Type} {l : List α} {g : α → V} {z : Int} (h0 : 0 ≤ z) (h : z < (l.length : Int)) : ∃ x, x ∈ l ∧ atI (l.map g) z = some (g x) := by
  have hk : z.toNat < l.length := by omega
  exact ⟨l[z.toNat], List.getElem_mem hk, at_of (j := z.toNat) (by omega) (by rw [List.getElem?_map, List.getElem?_eq_getElem hk] <;> rfl)⟩
end
end Mw

namespace Mw
abbrev BL := List Bool
/-- the item of a cycle at any place -/
def cv (c : BL) (i : Int) : Bool := c.getD (i % (c.length : Int)).toNat false
/-- a cycle from another place on -/
def rot (c : BL) (i : Int) : BL := (List.range c.length).map fun (k : Nat) => cv c ((k : Int) + i)
def sq (h c : BL) (n : Nat) : Bool := if n < h.length then h.getD n false else cv c ((n : Int) - (h.length : Int))
def pfF : Nat → Nat → Nat → List Nat
  | 0, _, _ => []
  | fu + 1, n, f => if f * f ≤ n then (if n % f = 0 then f :: pfF fu (n / f) f else pfF fu n (f + 1)) else if 1 < n then [n] else []
def pf (n : Nat) : List Nat := pfF (2 * n) n 2
def scF (c : BL) : List Nat → Nat → Nat
  | [], s => s
  | f :: fs, s => scF c fs (if (c.drop (s / f)).take (s - s / f) = c.take (s - s / f) then s / f else s)
def sc (c : BL) : BL := c.take (scF c (pf c.length) c.length)
/-- how many items at the head's end (backwards) the cycle has, too -/
def mny (c : BL) : BL → Nat → Nat
  | [], _ => 0
  | x :: xs, j => if x = cv c (-1 - (j : Int)) then mny c xs (j + 1) + 1 else 0
def mn (h c : BL) : Nat := mny c h.reverse 0
def stl (h c : BL) : BL × BL := (h.take (h.length - mn h (sc c)), rot (sc c) (-(mn h (sc c) : Int)))
theorem len_pos {c : BL} (h : c ≠ []) : 0 < c.length := List.length_pos_iff.mpr h
theorem cv_mod {c : BL} {i j : Int} (h : i % (c.length : Int) = j % (c.length : Int)) : cv c i = cv c j := by
  unfold cv
  rw [h]
theorem cv_nat {c : BL} {k : Nat} (h : k < c.length) : cv c (k : Int) = c.getD k false := by
  unfold cv
  rw [Int.emod_eq_of_lt (by omega) (by omega), Int.toNat_natCast]
/-! ### prime factors -/
def Pr (p : Nat) : Prop := 2 ≤ p ∧ ∀ d, d ∣ p → d = 1 ∨ d = p
def pro : List Nat → Nat
  | [] => 1
  | x :: xs => x * pro xs
theorem pfF_ok : ∀ (fu n f : Nat), 2 ≤ f → 1 ≤ n → (∀ d, 2 ≤ d → d < f → ¬ d ∣ n) → 2 * n < fu + f → (∀ p ∈ pfF fu n f, Pr p) ∧ pro (pfF fu n f) = n
  | 0, n, f, h2, h1, hd, hf => by
    have : n = 1 := by
      by_cases z : 2 ≤ n
      · exact absurd (Nat.dvd_refl n) (hd n z (by omega))
      · omega
    subst this
    exact ⟨fun p hp => (by cases hp), rfl⟩
  | fu + 1, n, f, h2, h1, hd, hf => by
    unfold pfF
    by_cases c : f * f ≤ n
    · rw [if_pos c]
      have hff : 2 * f ≤ f * f := Nat.mul_le_mul_right f h2
      by_cases c2 : n % f = 0
      · rw [if_pos c2]
        have hfn : f ∣ n := Nat.dvd_of_mod_eq_zero c2
        have e : f * (n / f) = n := Nat.mul_div_cancel' hfn
        have d2 : 2 * (n / f) ≤ f * (n / f) := Nat.mul_le_mul_right _ h2
        have d1 : 1 ≤ n / f := by
          rcases Nat.eq_zero_or_pos (n / f) with z | z
          · rw [z] at e; omega
          · exact z
        obtain ⟨a, b⟩ := pfF_ok fu (n / f) f h2 d1 (fun d h h' hdv => hd d h h' (Nat.dvd_trans hdv ⟨f, by rw [Nat.mul_comm]; exact e.symm⟩)) (by omega)
        refine ⟨fun p hp => ?_, ?_⟩
        · rcases List.mem_cons.mp hp with rfl | hp
          · refine ⟨h2, fun d hdp => ?_⟩
            by_cases z : d = 1
            · exact .inl z
            · have hle := Nat.le_of_dvd (by omega) hdp
              have h0 : d ≠ 0 := by
                rintro rfl
                have := Nat.eq_zero_of_zero_dvd hdp
                omega
              by_cases z2 : d < p
              · exact absurd (Nat.dvd_trans hdp hfn) (hd d (by omega) z2)
              · exact .inr (by omega)
          · exact a p hp
        · show f * pro _ = n
          rw [b, e]
      · rw [if_neg c2]
        refine pfF_ok fu n (f + 1) (by omega) h1 (fun d h h' hdv => ?_) (by omega)
        by_cases z : d = f
        · subst z
          exact c2 (Nat.mod_eq_zero_of_dvd hdv)
        · exact hd d h (by omega) hdv
    · rw [if_neg c]
      by_cases c2 : 1 < n
      · rw [if_pos c2]
        refine ⟨fun p hp => ?_, Nat.mul_one n⟩
        rw [List.mem_singleton.mp hp]
        refine ⟨c2, fun d hdp => ?_⟩
        obtain ⟨k, hk⟩ := hdp
        have h0 : d ≠ 0 := by rintro rfl; omega
        have k0 : k ≠ 0 := by rintro rfl; omega
        by_cases z : d = 1
        · exact .inl z
        · by_cases z2 : k = 1
          · exact .inr (by rw [hk, z2, Nat.mul_one])
          · exfalso
            have h3 : ¬ d < f := fun h => hd d (by omega) h ⟨k, hk⟩
            have h4 : ¬ k < f := fun h => hd k (by omega) h ⟨d, by rw [Nat.mul_comm]; exact hk⟩
            have : f * f ≤ d * k := Nat.mul_le_mul (by omega) (by omega)
            omega
      · rw [if_neg c2]
        exact ⟨fun p hp => (by cases hp), by show 1 = n; omega⟩
theorem pf_ok {n : Nat} (h : 1 ≤ n) : (∀ p ∈ pf n, Pr p) ∧ pro (pf n) = n := pfF_ok (2 * n) n 2 (by decide) h (fun d h1 h2 => by omega) (by omega)
theorem pro_pos : ∀ {fs : List Nat}, (∀ p ∈ fs, Pr p) → 1 ≤ pro fs
  | [], _ => Nat.le_refl _
  | p :: fs, h => by
    have h1 := (h p List.mem_cons_self).1
    have h2 := pro_pos fun x hx => h x (List.mem_cons_of_mem _ hx)
    exact Nat.mul_le_mul (show 1 ≤ p by omega) h2
theorem pro_dvd : ∀ {fs : List Nat} {p : Nat}, p ∈ fs → p ∣ pro fs
  | q :: fs, p, h => by
    rcases List.mem_cons.mp h with rfl | h
    · exact ⟨pro fs, rfl⟩
    · exact Nat.dvd_trans (pro_dvd h) ⟨q, Nat.mul_comm _ _⟩
theorem pf_pos {n f : Nat} (hn : 1 ≤ n) (h : f ∈ pf n) : 2 ≤ f ∧ f ≤ n := by
  obtain ⟨a, b⟩ := pf_ok hn
  refine ⟨(a f h).1, Nat.le_of_dvd hn ?_⟩
  have := pro_dvd h
  rw [b] at this
  exact this
/-! ### periods -/
def Per (c : BL) (d : Nat) : Prop := ∀ i : Int, cv c (i + (d : Int)) = cv c i
theorem per_len (c : BL) : Per c c.length := fun i => cv_mod (by rw [Int.add_emod_right])
theorem per_mul {c : BL} {d : Nat} (h : Per c d) : ∀ k : Nat, Per c (d * k)
  | 0 => fun i => by rw [Nat.mul_zero, Int.natCast_zero, Int.add_zero]
  | k + 1 => fun i => by
    have e : i + ((d * (k + 1) : Nat) : Int) = (i + ((d * k : Nat) : Int)) + (d : Int) := by
      rw [Nat.mul_add, Nat.mul_one, Int.natCast_add]
      omega
    rw [e, h, per_mul h k]
theorem per_sub {c : BL} {a b : Nat} (ha : Per c a) (hb : Per c b) (hl : b ≤ a) : Per c (a - b) := fun i => by
  rw [← hb (i + ((a - b : Nat) : Int))]
  rw [show i + ((a - b : Nat) : Int) + (b : Int) = i + (a : Int) by omega]
  exact ha i
theorem per_mod {c : BL} {a q : Nat} (hq : Per c q) (ha : Per c a) : Per c (a % q) := by
  have e : a % q = a - q * (a / q) := by
    have := Nat.div_add_mod a q
    omega
  rw [e]
  exact per_sub ha (per_mul hq _) (Nat.mul_div_le a q)
theorem per_emod {c : BL} {s : Nat} (h : Per c s) (hs : 0 < s) (i : Int) : cv c i = cv c (i % (s : Int)) := by
  have e := Int.emod_add_mul_ediv i (s : Int)
  rcases Int.le_total 0 (i / (s : Int)) with z | z
  · obtain ⟨k, hk⟩ := Int.eq_ofNat_of_zero_le z
    have := per_mul h k (i % (s : Int))
    rw [← this]
    congr 1
    rw [hk] at e
    rw [Int.natCast_mul]
    omega
  · obtain ⟨k, hk⟩ := Int.eq_ofNat_of_zero_le (show 0 ≤ -(i / (s : Int)) by omega)
    have := per_mul h k i
    rw [← this]
    congr 1
    rw [show i / (s : Int) = -(k : Int) by omega, Int.mul_neg] at e
    rw [Int.natCast_mul]
    omega
structure IsMin (c : BL) (q : Nat) : Prop where
  pos : 0 < q
  per : Per c q
  le : ∀ d, 0 < d → Per c d → q ≤ d
theorem least_of {P : Nat → Prop} : ∀ n, P n → ∃ m, P m ∧ ∀ k, P k → m ≤ k := by
  intro n
  induction n using Nat.strongRecOn with
  | ind n ih =>
    intro h
    by_cases z : ∃ k, k < n ∧ P k
    · obtain ⟨k, hk, hp⟩ := z
      exact ih k hk hp
    · exact ⟨n, h, fun k hk => Nat.le_of_not_lt fun hlt => z ⟨k, hlt, hk⟩⟩
theorem ex_min {c : BL} (hc : c ≠ []) : ∃ q, IsMin c q := by
  obtain ⟨q, ⟨h1, h2⟩, h3⟩ := least_of (P := fun d => 0 < d ∧ Per c d) c.length ⟨len_pos hc, per_len c⟩
  exact ⟨q, h1, h2, fun d a b => h3 d ⟨a, b⟩⟩
theorem IsMin.dvd {c : BL} {q d : Nat} (h : IsMin c q) (hd : Per c d) : q ∣ d := by
  refine Nat.dvd_of_mod_eq_zero ?_
  rcases Nat.eq_zero_or_pos (d % q) with z | z
  · exact z
  · have := h.le _ z (per_mod h.per hd)
    have := Nat.mod_lt d h.pos
    omega
theorem tst {c : BL} {s t : Nat} (hs : Per c s) (hl : s ≤ c.length) (ht : 0 < t) (hd : t ∣ s) (h0 : 0 < s) : ((c.drop t).take (s - t) = c.take (s - t)) ↔ Per c t := by
  have hts : t ≤ s := Nat.le_of_dvd h0 hd
  constructor
  · intro h
    have hj : ∀ j, j < s - t → c.getD (j + t) false = c.getD j false := fun j hj => by
      have := congrArg (fun l => l.getD j false) h
      simp only [List.getD_eq_getElem?_getD, List.getElem?_take_of_lt hj, List.getElem?_drop] at this
      rw [List.getD_eq_getElem?_getD, List.getD_eq_getElem?_getD, Nat.add_comm j t]
      exact this
    have hA : ∀ r, r < s → cv c ((r : Nat) : Int) = cv c ((r % t : Nat) : Int) := by
      intro r
      induction r using Nat.strongRecOn with
      | ind r ih =>
        intro hr
        by_cases z : r < t
        · rw [Nat.mod_eq_of_lt z]
        · have e1 := hj (r - t) (by omega)
          rw [show r - t + t = r by omega] at e1
          rw [cv_nat (by omega), e1, ← cv_nat (by omega), ih (r - t) (by omega) (by omega)]
          congr 2
          rw [← Nat.mod_eq_sub_mod (by omega)]
    have hB : ∀ i : Int, cv c i = cv c (i % (t : Int)) := fun i => by
      have a0 : 0 ≤ i % (s : Int) := Int.emod_nonneg _ (by omega)
      have a1 : i % (s : Int) < s := Int.emod_lt_of_pos _ (by omega)
      rw [per_emod hs h0 i]
      have := hA (i % (s : Int)).toNat (by omega)
      rw [Int.natCast_emod, Int.toNat_of_nonneg a0, Int.emod_emod_of_dvd _ (Int.natCast_dvd_natCast.mpr hd)] at this
      exact this
    intro i
    rw [hB (i + (t : Int)), hB i, Int.add_emod_right]
  · intro h
    refine List.ext_getElem (by simp; omega) fun j j1 j2 => ?_
    have hj : j < s - t := by
      rw [List.length_take] at j2
      omega
    rw [List.getElem_take, List.getElem_drop, List.getElem_take]
    have := h (j : Int)
    rw [show (j : Int) + (t : Int) = ((t + j : Nat) : Int) by omega, cv_nat (by omega), cv_nat (by omega)] at this
    rw [List.getD_eq_getElem?_getD, List.getD_eq_getElem?_getD, List.getElem?_eq_getElem (by omega), List.getElem?_eq_getElem (by omega)] at this
    exact this
theorem scF_min {c : BL} {q : Nat} (hq : IsMin c q) : ∀ (fs : List Nat) (s m : Nat), s = q * m → 0 < m → s ≤ c.length → (∀ p ∈ fs, Pr p) → m ∣ pro fs → pro fs ∣ s → scF c fs s = q
  | [], s, m, hs, hm, _, _, hd, _ => by
    have : m = 1 := Nat.dvd_one.mp hd
    rw [this, Nat.mul_one] at hs
    exact hs
  | p :: fs, s, m, hs, hm, hl, hp, hd, hd2 => by
    have pp := hp p List.mem_cons_self
    have hp' : ∀ x ∈ fs, Pr x := fun x hx => hp x (List.mem_cons_of_mem _ hx)
    have p0 : 0 < p := by have := pp.1; omega
    have hd : m ∣ p * pro fs := hd
    obtain ⟨k, hk⟩ : p * pro fs ∣ s := hd2
    have s0 : 0 < s := by rw [hs]; exact Nat.mul_pos hq.pos hm
    have hps : p ∣ s := ⟨pro fs * k, by rw [hk, Nat.mul_assoc]⟩
    have et : p * (s / p) = s := Nat.mul_div_cancel' hps
    have t0 : 0 < s / p := by
      rcases Nat.eq_zero_or_pos (s / p) with z | z
      · rw [z] at et; omega
      · exact z
    have hsper : Per c s := by rw [hs]; exact per_mul hq.per m
    have htd : s / p ∣ s := ⟨p, by rw [Nat.mul_comm]; exact et.symm⟩
    have key := tst hsper hl t0 htd s0
    have hft : pro fs ∣ s / p := by
      refine ⟨k, Nat.eq_of_mul_eq_mul_left p0 ?_⟩
      rw [et, hk, Nat.mul_assoc]
    show scF c fs (if (c.drop (s / p)).take (s - s / p) = c.take (s - s / p) then s / p else s) = q
    by_cases z : Per c (s / p)
    · rw [if_pos (key.mpr z)]
      obtain ⟨m', hm'⟩ := hq.dvd z
      have em : m = p * m' := by
        refine Nat.eq_of_mul_eq_mul_left hq.pos ?_
        rw [← hs, ← et, hm', ← Nat.mul_assoc, ← Nat.mul_assoc, Nat.mul_comm p q]
      have m0 : 0 < m' := by
        rcases Nat.eq_zero_or_pos m' with y | y
        · rw [em, y] at hm; omega
        · exact y
      refine scF_min hq fs (s / p) m' hm' m0 (Nat.le_trans (Nat.div_le_self _ _) hl) hp' ?_ hft
      rw [em] at hd
      exact Nat.dvd_of_mul_dvd_mul_left p0 hd
    · rw [if_neg (fun y => z (key.mp y))]
      refine scF_min hq fs s m hs hm hl hp' ?_ (Nat.dvd_trans hft htd)
      have cop : Nat.Coprime m p := by
        have hg := Nat.gcd_dvd_right m p
        rcases pp.2 _ hg with y | y
        · exact y
        · exfalso
          have hpm : p ∣ m := by rw [← y]; exact Nat.gcd_dvd_left m p
          obtain ⟨m'', hm''⟩ := hpm
          apply z
          have : s / p = q * m'' := by
            refine Nat.eq_of_mul_eq_mul_left p0 ?_
            rw [et, hs, hm'', ← Nat.mul_assoc, ← Nat.mul_assoc, Nat.mul_comm p q]
          rw [this]
          exact per_mul hq.per m''
      exact cop.dvd_of_dvd_mul_left hd
theorem sc_eq {c : BL} {q : Nat} (hc : c ≠ []) (h : IsMin c q) : sc c = c.take q ∧ q ≤ c.length := by
  have hp := len_pos hc
  obtain ⟨a, b⟩ := pf_ok hp
  obtain ⟨m, hm⟩ := h.dvd (per_len c)
  have m0 : 0 < m := by
    rcases Nat.eq_zero_or_pos m with z | z
    · rw [z] at hm; omega
    · exact z
  refine ⟨?_, h.le _ hp (per_len c)⟩
  unfold sc
  rw [scF_min h (pf c.length) c.length m hm m0 (Nat.le_refl _) a (by rw [b]; exact ⟨q, by rw [hm, Nat.mul_comm]⟩) (by rw [b]; exact Nat.dvd_refl _)]
end Mw

namespace Mw
theorem getD_map_range {n j : Nat} {f : Nat → Bool} (h : j < n) : ((List.range n).map f).getD j false = f j := by
  rw [List.getD_eq_getElem?_getD, List.getElem?_map, List.getElem?_range h]
  rfl
theorem rot_len (c : BL) (i : Int) : (rot c i).length = c.length := by simp [rot]
theorem rot_ne {c : BL} {i : Int} (h : c ≠ []) : rot c i ≠ [] := by
  intro e
  have := rot_len c i
  rw [e] at this
  exact h (List.eq_nil_of_length_eq_zero this.symm)
theorem cv_rot {c : BL} (hc : c ≠ []) (i k : Int) : cv (rot c i) k = cv c (k + i) := by
  have hp := len_pos hc
  have h0 : 0 ≤ k % (c.length : Int) := Int.emod_nonneg _ (by omega)
  have h1 : k % (c.length : Int) < c.length := Int.emod_lt_of_pos _ (by omega)
  show (rot c i).getD (k % ((rot c i).length : Int)).toNat false = _
  rw [rot_len]
  unfold rot
  rw [getD_map_range (by omega), Int.toNat_of_nonneg h0]
  exact cv_mod (by rw [Int.emod_add_emod])
theorem rot_rot {c : BL} (hc : c ≠ []) (i j : Int) : rot (rot c i) j = rot c (i + j) := by
  show (List.range (rot c i).length).map _ = _
  rw [rot_len]
  refine List.map_congr_left fun k _ => ?_
  rw [cv_rot hc]
  congr 1
  omega
theorem mny_le (c : BL) : ∀ (xs : BL) (j : Nat), mny c xs j ≤ xs.length
  | [], _ => Nat.le_refl _
  | x :: xs, j => by
    unfold mny
    have := mny_le c xs (j + 1)
    split <;> simp <;> omega
theorem mny_in (c : BL) : ∀ (xs : BL) (j k : Nat), k < mny c xs j → xs.getD k false = cv c (-1 - ((j + k : Nat) : Int))
  | [], _, k, h => by cases h
  | x :: xs, j, k, h => by
    unfold mny at h
    split at h
    · rename_i e
      cases k with
      | zero => exact e
      | succ k =>
        have := mny_in c xs (j + 1) k (by omega)
        rw [List.getD_cons_succ, this]
        congr 1
        omega
    · cases h
theorem mny_out (c : BL) : ∀ (xs : BL) (j : Nat), mny c xs j < xs.length → xs.getD (mny c xs j) false ≠ cv c (-1 - ((j + mny c xs j : Nat) : Int))
  | [], _, h => by cases h
  | x :: xs, j, h => by
    unfold mny at h ⊢
    split
    · rename_i e
      rw [if_pos e] at h
      have h' : mny c xs (j + 1) < xs.length := by simpa using h
      have := mny_out c xs (j + 1) h'
      rw [List.getD_cons_succ]
      intro z
      apply this
      rw [z]
      congr 1
      omega
    · rename_i e
      exact e
theorem getD_rev {h : BL} {k : Nat} (hk : k < h.length) : h.reverse.getD k false = h.getD (h.length - 1 - k) false := by
  rw [List.getD_eq_getElem?_getD, List.getD_eq_getElem?_getD, List.getElem?_reverse hk]
theorem getD_take {h : BL} {k s : Nat} (hk : k < s) : (h.take s).getD k false = h.getD k false := by
  rw [List.getD_eq_getElem?_getD, List.getD_eq_getElem?_getD, List.getElem?_take_of_lt hk]
structure Sh (c c' : BL) : Prop where
  nc : c ≠ []
  nc' : c' ≠ []
  le : c'.length ≤ c.length
  dv : (c'.length : Int) ∣ (c.length : Int)
  eq : ∀ i, cv c i = cv c' i
theorem sq_lo {h c : BL} {n : Nat} (hn : n < h.length) : sq h c n = h.getD n false := by
  unfold sq
  rw [if_pos hn]
theorem sq_hi {h c : BL} {n : Nat} (hn : h.length ≤ n) : sq h c n = cv c ((n : Int) - (h.length : Int)) := by
  unfold sq
  rw [if_neg (by omega)]
theorem mn_le (h c : BL) : mn h c ≤ h.length := by
  have := mny_le c h.reverse 0
  rw [List.length_reverse] at this
  exact this
theorem mn_in {h c : BL} {n : Nat} (h1 : h.length - mn h c ≤ n) (h2 : n < h.length) : h.getD n false = cv c ((n : Int) - (h.length : Int)) := by
  have hl := mn_le h c
  have := mny_in c h.reverse 0 (h.length - 1 - n) (by show _ < mn h c; omega)
  rw [getD_rev (by omega), show h.length - 1 - (h.length - 1 - n) = n by omega] at this
  rw [this]
  congr 1
  omega
theorem mn_out {h c : BL} (h1 : mn h c < h.length) : h.getD (h.length - 1 - mn h c) false ≠ cv c (-1 - (mn h c : Int)) := by
  have := mny_out c h.reverse 0 (by rw [List.length_reverse]; exact h1)
  rw [getD_rev (show mny c h.reverse 0 < h.length from h1)] at this
  rw [show ((0 + mny c h.reverse 0 : Nat) : Int) = (mn h c : Int) by unfold mn; omega] at this
  exact this
theorem sq_cut {h c c' : BL} (S : Sh c c') {s : Nat} (hs : s ≤ h.length) (n : Nat) : sq (h.take s) (rot c' ((s : Int) - (h.length : Int))) n = if n < s then h.getD n false else cv c ((n : Int) - (h.length : Int)) := by
  have hl : (h.take s).length = s := by rw [List.length_take]; omega
  by_cases hn : n < s
  · rw [if_pos hn, sq_lo (by rw [hl]; exact hn), getD_take hn]
  · rw [if_neg hn, sq_hi (by rw [hl]; omega), hl, cv_rot S.nc', S.eq]
    congr 1
    omega
theorem cut_ok {h c c' : BL} (S : Sh c c') (n : Nat) : sq (h.take (h.length - mn h c')) (rot c' (-(mn h c' : Int))) n = sq h c n := by
  have hl := mn_le h c'
  have e := sq_cut S (h := h) (s := h.length - mn h c') (by omega) n
  rw [show ((h.length - mn h c' : Nat) : Int) - (h.length : Int) = -(mn h c' : Int) by omega] at e
  rw [e]
  by_cases h1 : n < h.length - mn h c'
  · rw [if_pos h1, sq_lo (by omega)]
  · rw [if_neg h1]
    by_cases h2 : n < h.length
    · rw [sq_lo h2, mn_in (h := h) (c := c') (by omega) h2, S.eq]
    · rw [sq_hi (by omega)]
theorem cv_take {c : BL} {q : Nat} (h : IsMin c q) (hl : q ≤ c.length) (i : Int) : cv (c.take q) i = cv c i := by
  have e : (c.take q).length = q := by rw [List.length_take]; omega
  have a0 : 0 ≤ i % (q : Int) := Int.emod_nonneg _ (by have := h.pos; omega)
  have a1 : i % (q : Int) < q := Int.emod_lt_of_pos _ (by have := h.pos; omega)
  rw [per_emod h.per h.pos i]
  have := cv_nat (c := c) (k := (i % (q : Int)).toNat) (by omega)
  rw [Int.toNat_of_nonneg a0] at this
  rw [this]
  unfold cv
  rw [e, getD_take (by omega)]
theorem per_cv {c c' : BL} (h : ∀ i, cv c i = cv c' i) (d : Nat) : Per c d ↔ Per c' d := by
  constructor
  · intro z i
    rw [← h, ← h]
    exact z i
  · intro z i
    rw [h, h]
    exact z i
theorem IsMin.iff {c c' : BL} (h : ∀ d, Per c d ↔ Per c' d) {q : Nat} (m : IsMin c q) : IsMin c' q := ⟨m.pos, (h q).mp m.per, fun d a b => m.le d a ((h d).mpr b)⟩
theorem sc_full {c : BL} (hc : c ≠ []) (m : IsMin c c.length) : sc c = c := by
  rw [(sc_eq hc m).1, List.take_length]
/-- the shortest cycle -/
theorem sh_gen {c : BL} (hc : c ≠ []) : Sh c (sc c) ∧ IsMin c (sc c).length ∧ IsMin (sc c) (sc c).length := by
  obtain ⟨q, m⟩ := ex_min hc
  obtain ⟨e, hl⟩ := sc_eq hc m
  have el : (sc c).length = q := by rw [e, List.length_take]; omega
  have ecv : ∀ i, cv c i = cv (sc c) i := fun i => by rw [e, cv_take m hl]
  rw [el]
  refine ⟨⟨hc, ?_, by rw [el]; exact hl, ?_, ecv⟩, m, m.iff (per_cv ecv)⟩
  · intro z
    rw [z] at el
    have := m.pos
    simp at el
    omega
  · rw [el]
    exact Int.natCast_dvd_natCast.mpr (m.dvd (per_len c))
theorem sc_ne {c : BL} (hc : c ≠ []) : sc c ≠ [] := (sh_gen hc).1.nc'
theorem per_rot {c : BL} (hc : c ≠ []) (k : Int) (d : Nat) : Per c d ↔ Per (rot c k) d := by
  constructor
  · intro z i
    rw [cv_rot hc, cv_rot hc, show i + (d : Int) + k = (i + k) + (d : Int) by omega]
    exact z _
  · intro z i
    have := z (i - k)
    rw [cv_rot hc, cv_rot hc, show i - k + (d : Int) + k = i + (d : Int) by omega, show i - k + k = i by omega] at this
    exact this
theorem rot_zero {c : BL} : rot c 0 = c := by
  refine List.ext_getElem (rot_len _ _) fun k k1 k2 => ?_
  simp only [rot, List.getElem_map, List.getElem_range]
  rw [Int.add_zero, cv_nat k2, List.getD_eq_getElem?_getD, List.getElem?_eq_getElem k2]
  rfl
/-- in settled form -/
structure Stl (h c : BL) : Prop where
  nc : c ≠ []
  mi : IsMin c c.length
  mz : mn h c = 0
theorem Stl.sc {h c : BL} (s : Stl h c) : sc c = c := sc_full s.nc s.mi
theorem stl_fix {h c : BL} (s : Stl h c) : stl h c = (h, c) := by
  unfold stl
  rw [s.sc, s.mz]
  refine Prod.ext ?_ ?_
  · show h.take (h.length - 0) = h
    rw [Nat.sub_zero, List.take_length]
  · show rot c (-((0 : Nat) : Int)) = c
    rw [show -((0 : Nat) : Int) = 0 by rfl]
    exact rot_zero
theorem stl_Stl {h c : BL} (hc : c ≠ []) : Stl (stl h c).1 (stl h c).2 := by
  obtain ⟨S, m1, m2⟩ := sh_gen hc
  refine ⟨rot_ne S.nc', ?_, ?_⟩
  · show IsMin (rot (Mw.sc c) _) (rot (Mw.sc c) _).length
    rw [rot_len]
    exact m2.iff (per_rot S.nc' _)
  · have hl := mn_le h (Mw.sc c)
    show mny (rot (Mw.sc c) (-(mn h (Mw.sc c) : Int))) (h.take (h.length - mn h (Mw.sc c))).reverse 0 = 0
    by_cases z : mn h (Mw.sc c) < h.length
    · have ho := mn_out z
      have el : (h.take (h.length - mn h (Mw.sc c))).length = h.length - mn h (Mw.sc c) := by rw [List.length_take]; omega
      have e1 : (h.take (h.length - mn h (Mw.sc c))).reverse.getD 0 false = h.getD (h.length - 1 - mn h (Mw.sc c)) false := by
        rw [getD_rev (by rw [el]; omega), el, getD_take (by omega)]
        congr 1
        omega
      generalize hr : (h.take (h.length - mn h (Mw.sc c))).reverse = l at e1
      cases l with
      | nil => rfl
      | cons x xs =>
        have e1 : x = h.getD (h.length - 1 - mn h (Mw.sc c)) false := e1
        unfold mny
        rw [if_neg]
        rw [e1, cv_rot S.nc']
        intro y
        apply ho
        rw [y]
        congr 1
        try omega
    · rw [show h.length - mn h (Mw.sc c) = 0 by omega]
      rfl
theorem sq_stl {h c : BL} (hc : c ≠ []) (n : Nat) : sq (stl h c).1 (stl h c).2 n = sq h c n := cut_ok (sh_gen hc).1 n
theorem stl_len {h c : BL} (hc : c ≠ []) : (stl h c).1.length ≤ h.length ∧ (stl h c).2.length ≤ c.length := by
  refine ⟨?_, ?_⟩
  · show (h.take _).length ≤ _
    rw [List.length_take]
    omega
  · have := (sh_gen hc).1.le
    show (rot (sc c) _).length ≤ c.length
    rw [rot_len]
    exact this
/-! ### the complement -/
def neg (b : BL) : BL := b.map not
theorem neg_len (b : BL) : (neg b).length = b.length := List.length_map ..
theorem neg_getD {b : BL} {k : Nat} (h : k < b.length) : (neg b).getD k false = !b.getD k false := by
  unfold neg
  rw [List.getD_eq_getElem?_getD, List.getElem?_map, List.getD_eq_getElem?_getD, List.getElem?_eq_getElem h]
  rfl
theorem neg_ne {b : BL} (h : b ≠ []) : neg b ≠ [] := by
  intro z
  exact h (List.map_eq_nil_iff.mp z)
theorem cv_neg {c : BL} (hc : c ≠ []) (i : Int) : cv (neg c) i = !cv c i := by
  have hp := len_pos hc
  have a0 : 0 ≤ i % (c.length : Int) := Int.emod_nonneg _ (by omega)
  have a1 : i % (c.length : Int) < c.length := Int.emod_lt_of_pos _ (by omega)
  unfold cv
  rw [neg_len, neg_getD (by omega)]
theorem sq_neg {h c : BL} (hc : c ≠ []) (n : Nat) : sq (neg h) (neg c) n = !sq h c n := by
  by_cases z : n < h.length
  · rw [sq_lo (by rw [neg_len]; exact z), sq_lo z, neg_getD z]
  · rw [sq_hi (by rw [neg_len]; omega), sq_hi (by omega), neg_len, cv_neg hc]
theorem mny_neg {c : BL} (hc : c ≠ []) : ∀ (xs : BL) (j : Nat), mny (neg c) (neg xs) j = mny c xs j
  | [], _ => rfl
  | x :: xs, j => by
    show (if (!x) = cv (neg c) (-1 - (j : Int)) then mny (neg c) (neg xs) (j + 1) + 1 else 0) = (if x = cv c (-1 - (j : Int)) then mny c xs (j + 1) + 1 else 0)
    rw [cv_neg hc, mny_neg hc xs (j + 1)]
    have : ((!x) = !cv c (-1 - (j : Int))) ↔ x = cv c (-1 - (j : Int)) := by
      cases x <;> cases cv c (-1 - (j : Int)) <;> simp
    simp only [this]
theorem Stl.neg {h c : BL} (s : Stl h c) : Stl (neg h) (neg c) := by
  refine ⟨neg_ne s.nc, ?_, ?_⟩
  · rw [neg_len]
    refine s.mi.iff fun d => ?_
    constructor
    · intro z i
      rw [cv_neg s.nc, cv_neg s.nc, z]
    · intro z i
      have := z i
      rw [cv_neg s.nc, cv_neg s.nc] at this
      revert this
      cases cv c (i + (d : Int)) <;> cases cv c i <;> simp
  · show mny (Mw.neg c) (Mw.neg h).reverse 0 = 0
    have e : (Mw.neg h).reverse = Mw.neg h.reverse := (List.map_reverse ..).symm
    rw [e, mny_neg s.nc]
    exact s.mz
/-- no number -/
theorem Stl.none {h c : BL} (s : Stl h c) (hn : ∀ n, sq h c n = false) : h = [] ∧ c = [false] := by
  have hp := len_pos s.nc
  have hc0 : ∀ i, cv c i = false := fun i => by
    have a0 : 0 ≤ i % (c.length : Int) := Int.emod_nonneg _ (by omega)
    have e : cv c i = cv c (i % (c.length : Int)) := cv_mod (by rw [Int.emod_emod])
    have := hn (h.length + (i % (c.length : Int)).toNat)
    rw [sq_hi (by omega)] at this
    rw [e, ← this]
    congr 1
    omega
  have hl : c.length = 1 := by
    have := s.mi.le 1 (by decide) (fun i => by rw [hc0, hc0])
    omega
  have hcf : c = [false] := by
    match c, hl, hc0 with
    | [b], _, hc0 =>
      have := hc0 0
      have e : cv [b] 0 = b := rfl
      rw [e] at this
      rw [this]
  refine ⟨?_, hcf⟩
  cases hh : h.reverse with
  | nil => exact List.reverse_eq_nil_iff.mp hh
  | cons x xs =>
    exfalso
    have hm := s.mz
    unfold mn at hm
    rw [hh] at hm
    have hm : (if x = cv c (-1 - ((0 : Nat) : Int)) then mny c xs (0 + 1) + 1 else 0) = 0 := hm
    by_cases z : x = cv c (-1 - ((0 : Nat) : Int))
    · rw [if_pos z] at hm
      omega
    · rw [hc0] at z
      have hpos : 0 < h.length := by
        have := congrArg List.length hh
        simp at this
        omega
      have e : h.getD (h.length - 1) false = x := by
        have := getD_rev (h := h) (k := 0) hpos
        rw [hh] at this
        rw [show h.length - 1 - 0 = h.length - 1 by omega] at this
        exact this.symm
      have := hn (h.length - 1)
      rw [sq_lo (by omega), e] at this
      exact z this
/-! ### two sets in step -/
/-- the items of a set, stretched -/
def str (h c : BL) (n : Nat) : BL := (List.range n).map fun k => sq h c k
theorem str_len (h c : BL) (n : Nat) : (str h c n).length = n := by simp [str]
theorem str_get {h c : BL} {n k : Nat} (hk : k < n) : (str h c n).getD k false = sq h c k := getD_map_range hk
theorem sq_per {h c : BL} {n m : Nat} (hn : h.length ≤ n) (hd : c.length ∣ m) : sq h c (n + m) = sq h c n := by
  rw [sq_hi (by omega), sq_hi hn]
  refine cv_mod ?_
  obtain ⟨k, hk⟩ := hd
  rw [show ((n + m : Nat) : Int) - (h.length : Int) = ((n : Int) - (h.length : Int)) + (c.length : Int) * (k : Int) by rw [hk, Int.natCast_add, Int.natCast_mul]; omega, Int.add_mul_emod_self_left]
def andL (a b : BL) : BL := (List.zip a b).map fun x => x.1 && x.2
theorem andL_str (h1 c1 h2 c2 : BL) (n : Nat) : andL (str h1 c1 n) (str h2 c2 n) = (List.range n).map fun k => sq h1 c1 k && sq h2 c2 k := by
  unfold andL str
  rw [List.zip_map', List.map_map]
  rfl
/-- the common part: a head so long as both, a cycle in step with both (or behind which there is nothing) -/
theorem com_sq {h1 c1 h2 c2 : BL} {hs cs : Nat} (l1 : h1.length ≤ hs) (l2 : h2.length ≤ hs) (hc : 0 < cs) (d : (c1.length ∣ cs ∧ c2.length ∣ cs) ∨ c1 = [false] ∨ c2 = [false]) (n : Nat) :
    sq ((andL (str h1 c1 (hs + cs)) (str h2 c2 (hs + cs))).take hs) ((andL (str h1 c1 (hs + cs)) (str h2 c2 (hs + cs))).drop hs) n = (sq h1 c1 n && sq h2 c2 n) := by
  rw [andL_str]
  generalize hI : ((List.range (hs + cs)).map fun k => sq h1 c1 k && sq h2 c2 k) = I
  have il : I.length = hs + cs := by rw [← hI]; simp
  have ig : ∀ k, k < hs + cs → I.getD k false = (sq h1 c1 k && sq h2 c2 k) := fun k hk => by rw [← hI, getD_map_range hk]
  have tl : (I.take hs).length = hs := by rw [List.length_take]; omega
  have dl : (I.drop hs).length = cs := by rw [List.length_drop]; omega
  by_cases z : n < hs
  · rw [sq_lo (by rw [tl]; exact z), getD_take z, ig n (by omega)]
  · rw [sq_hi (by rw [tl]; omega), tl]
    have a0 : 0 ≤ ((n : Int) - (hs : Int)) % (cs : Int) := Int.emod_nonneg _ (by omega)
    have a1 : ((n : Int) - (hs : Int)) % (cs : Int) < cs := Int.emod_lt_of_pos _ (by omega)
    obtain ⟨m, hm⟩ : ∃ m : Nat, (((n : Int) - (hs : Int)) % (cs : Int)).toNat = m := ⟨_, rfl⟩
    have e1 : cv (I.drop hs) ((n : Int) - (hs : Int)) = (sq h1 c1 (hs + m) && sq h2 c2 (hs + m)) := by
      unfold cv
      rw [dl, hm, List.getD_eq_getElem?_getD, List.getElem?_drop, ← List.getD_eq_getElem?_getD, ig _ (by omega)]
    rw [e1]
    rcases d with ⟨d1, d2⟩ | d | d
    · have en : n = hs + m + cs * ((n - hs) / cs) := by
        have := Nat.div_add_mod (n - hs) cs
        have h3 : (n - hs) % cs = m := by
          rw [← hm, show (n : Int) - (hs : Int) = ((n - hs : Nat) : Int) by omega, ← Int.natCast_emod, Int.toNat_natCast]
        omega
      rw [en, sq_per (h := h1) (by omega) (Nat.dvd_trans d1 ⟨_, rfl⟩), sq_per (h := h2) (by omega) (Nat.dvd_trans d2 ⟨_, rfl⟩)]
    · have : ∀ k, h1.length ≤ k → sq h1 c1 k = false := fun k hk => by
        rw [sq_hi hk, d]
        unfold cv
        have : (((k : Int) - (h1.length : Int)) % (([false] : BL).length : Int)).toNat = 0 := by
          show (((k : Int) - (h1.length : Int)) % 1).toNat = 0
          rw [Int.emod_one]
          rfl
        rw [this]
        rfl
      rw [this _ (by omega), this _ (by omega)]
      rfl
    · have : ∀ k, h2.length ≤ k → sq h2 c2 k = false := fun k hk => by
        rw [sq_hi hk, d]
        unfold cv
        have : (((k : Int) - (h2.length : Int)) % (([false] : BL).length : Int)).toNat = 0 := by
          show (((k : Int) - (h2.length : Int)) % 1).toNat = 0
          rw [Int.emod_one]
          rfl
        rw [this]
        rfl
      rw [this _ (by omega), this _ (by omega), Bool.and_false, Bool.and_false]
end Mw

/-! ### tuples: a slice that may be the whole, a sum whose left side may be empty, once a tuple -/
namespace Ts
open PySem L2 PyProof.Rows PySem.Spec
section
variable {s : Shared} {prog : Program} {w : World} {A : Around} {E : Value → Shared → Prop}
theorem whole {t sl : Addr} {items : Array Value} {vl vu : Value} {lo hi : Option Int} {Q : Value → Shared → Prop} (ht : IsTup s.heap t items) (hs : s.heap.IsSliceOf sl vl vu .none) (pl : IsPart vl lo) (pu : IsPart vu hi)
    (hl : HT.sIx items.size 0 lo = 0) (hh : HT.sIx items.size items.size hi = items.size) (h : Q (.ref t) s) : wpAny (model prog w) A (getItem (.ref t) (.ref sl)) Q E s := by
  obtain ⟨os, so1, so2, so3⟩ := id hs
  have tys : s.TypeIs (.ref sl) "slice" := ⟨os, so1, so2⟩
  unfold getItem
  try (with_reducible refine wpAny_holding ?_)
  try refine wpAny_bind (wpAny_pure ?_)
  refine wpAny_bind (wpAny_sequenceKey ht.typeIs (by decide) (wpAny_bind (wpAny_callSpecial?_slot (name := Str.ofString "__getitem__") ht.typeIs slot_tuple_getitem
    (wpAny_call_entry slot_tuple_getitem ht.typeIs entry_tuple_getitem ?_ (args_tuple_getitem _ _)))))
  (show wpAny _ _ (Builtin.Tuple.tupleItemsOf (.ref t) >>= _) _ _ s); refine wpAny_bind (tupleItemsOf_ ht (wpAny_bind (wpAny_typeOf tys ?_)))
  rw [if_pos (by decide)]
  refine wpAny_bind (HT.sliceApplied_gen hs pl pu ?_)
  have hyes : (((HT.sIx items.size 0 lo : Nat) : Int) == 0 && (1 : Int) == 1 && (HT.sIx items.size items.size hi - HT.sIx items.size 0 lo) == items.size) = true := by
    rw [hl, hh]
    simp
  show wpAny _ _ (if (((HT.sIx items.size 0 lo : Nat) : Int) == 0 && (1 : Int) == 1 && (HT.sIx items.size items.size hi - HT.sIx items.size 0 lo) == items.size) = true then _ else _) _ _ s
  rw [if_pos hyes]
  unfold Builtin.Tuple.tupleIsExact
  refine wpAny_bind (wpAny_bind (wpAny_typeOf ht.typeIs (wpAny_pure ?_)))
  rw [if_pos (by decide)]
  first
    | exact wpAny_bind (wpAny_pure (wpAny_pure ⟨_, rfl, wpAny_pure h⟩))
    | (wp_walk; exact ⟨_, rfl, wpAny_pure h⟩)
theorem rep1 (l : Addr) (items : Array Value) (n : Nat) (dd : Option Addr) (sl : Array (Option Value)) (u : Tok) :
    Meets (Builtin.«tuple.__mul__» ⟨[.ref l, .int 1 u], []⟩) (fun _ R s => s.heap.get? l = some { cls := .type "tuple", dict := dd, data := .seq items n, slots := sl } ∧ R (.ok (.ret (Value.ref l))) s) :=
  .of_wp fun _ _ _ R sh h => by
    obtain ⟨hp, g, d, tk, os⟩ := sh; obtain ⟨hl, h⟩ := h
    have f1 := AutoSeq1.idx_int
    have c0 : (decide ((1 : Int) < -(2 ^ 63)) || decide ((1 : Int) ≥ 2 ^ 63)) = false := by decide
    have c1 : (items.isEmpty || (1 : Int) == 1) = true := by simp
    wp_walk using wpAny_loadPart' hl; exact ⟨_, rfl, h⟩
end
/-- what a tuple's slice is, the whole or less -/
def rSl (K : PySem.W.Frag) : V → Option Int → Option Int → Hp → VK → Prop := fun x lo hi H Q => ∃ a xs, x = .ref a ∧ SqT K H a xs ∧ ∀ p H', Same H H' → SqT K H' p (cutV xs lo hi) → Q (.ref p) H'
section
variable {X : Cx}
theorem sl : SlR X (rSl X.K) := by
  intro pn s σ H x v vl vu lo hi sp Q Iv rx hs pl pu hh
  obtain ⟨a, xs, rfl, hxs, q⟩ := hh
  by_cases hw : (HT.sIx xs.length 0 lo = 0) ∧ (HT.sIx xs.length xs.length hi = xs.length)
  · cases rx
    obtain ⟨ws1, r, ht, hbd⟩ := Iv.tuple hxs
    have eln : ws1.toArray.size = xs.length := by rw [List.size_toArray]; exact r.length.symm
    refine ⟨"tuple", _, PyProof.Rows.slot_tuple_getitem.lookup, ht.typeIs, whole ht hs pl pu (by rw [eln]; exact hw.1) (by rw [eln]; exact hw.2) ⟨.ref a, H, Iv, rfl, q a H (fun _ _ h => h) ?_⟩⟩
    have e : cutV xs lo hi = xs := by
      unfold cutV
      rw [hw.1, hw.2]
      simp
    rw [e]
    exact hxs
  · exact sl_tup pn s σ H _ v vl vu lo hi sp Q Iv rx hs pl pu ⟨a, xs, rfl, hxs, hw, fun p hp => q p _ (fun b o h => by rw [upd_ne (ne_of_none h hp)]; exact h) (SqT.of upd_same)⟩
/-- a sum of tuples -/
def rCat (K : PySem.W.Frag) : R2 := fun x y H Q => ∃ a b xs ys, x = .ref a ∧ y = .ref b ∧ SqT K H a xs ∧ SqT K H b ys ∧ xs.length + ys.length ≤ sizeLine ∧ ∀ p H', Same H H' → SqT K H' p (xs ++ ys) → Q (.ref p) H'
theorem cat : OpR X (binaryOp .Add) (rCat X.K) := by
  intro pn s σ H x y v u Q Iv rx ry hh
  obtain ⟨a, b, xs, ys, rfl, rfl, hta, hb, hbd, q⟩ := hh
  by_cases hxs : xs = []
  · subst hxs
    cases rx
    cases ry
    obtain ⟨ws1, rv1, p1, _⟩ := Iv.tuple hta
    obtain ⟨ws2, rv2, p2, _⟩ := Iv.tuple hb
    cases rv1
    obtain ⟨⟨cls, dd, data, sl⟩, ho, hc, n, hdt⟩ := id p1
    obtain ⟨⟨cls2, dd2, data2, sl2⟩, ho2, hc2, n2, hd2⟩ := id p2
    simp only at hc hdt hc2 hd2
    subst hc hdt hc2 hd2
    exact concat_meets ⟨_, ho, rfl⟩ ⟨_, ho2, rfl⟩ noFill_tuple_add seq_tuple_add PySem.F.slot_tuple_add PySem.F.entry_tuple_add (PySem.F.args_tuple_add_2 _ _) (tuple_addW0 a b _ ws2.toArray n n2 dd dd2 sl sl2 (by simp)) ⟨ho, ho2, ⟨.ref b, H, Iv, rfl, q b H (fun _ _ h => h) hb⟩⟩
  · refine op_catT pn s σ H _ _ v u Q Iv rx ry ⟨a, b, xs, ys, rfl, rfl, hta, hb, hxs, hbd, fun e => q a H (fun _ _ h => h) (by rw [e, List.append_nil]; exact hta), fun _ p hp => q p _ (fun b o h => by rw [upd_ne (ne_of_none h hp)]; exact h) (SqT.of upd_same)⟩
/-- a tuple some times -/
def rRep (K : PySem.W.Frag) : R2 := fun x y H Q => ∃ l k xs, x = .ref l ∧ y = .int k ∧ SqT K H l xs ∧ xs ≠ [] ∧ 1 ≤ k ∧ k ≤ 1000 ∧ xs.length ≤ 1000 ∧ ∀ p H', Same H H' → SqT K H' p (List.replicate k.toNat xs).flatten → Q (.ref p) H'
theorem rep : OpR X (binaryOp .Mult) (rRep X.K) := by
  intro pn s σ H x y v u Q Iv rx ry hh
  obtain ⟨l, k, xs, rfl, rfl, hTu, hnn, h1, h2, hbd, q⟩ := hh
  by_cases hk : k = 1
  · subst hk
    cases rx
    obtain ⟨t, rfl⟩ := ry
    obtain ⟨ws1, r, ⟨⟨cls, dd, data, sl⟩, ho, hc, n, hdt⟩, hs⟩ := Iv.tuple hTu
    simp only at hc hdt
    subst hc hdt
    exact wpAny_binaryOp_repeat_ref (T := "tuple") (U := "int") (by decide) ⟨_, ho, rfl⟩ (fun s' => typeIs_int s' 1 t) noFill_tuple_mul F.fills_int_mul F.slot_int_rmul repeat_tuple F.slot_int_index.lookup (call_meets F.slot_int_rmul (typeIs_int s 1 t) F.entry_int_rmul (F.args_int_rmul_2 _ _) (int_rmul_tuple 1 t l ws1.toArray n dd sl)
      ⟨ho, rfl, ⟨_, ho, rfl⟩, call_meets F.slot_tuple_mul ⟨_, ho, rfl⟩ F.entry_tuple_mul (F.args_tuple_mul_2 _ _) (rep1 l ws1.toArray n dd sl t) ⟨ho, ⟨.ref l, H, Iv, rfl, q l H (fun _ _ h => h) (by simpa using hTu)⟩⟩⟩)
  · exact op_repT pn s σ H _ _ v u Q Iv rx ry ⟨l, k, xs, rfl, rfl, hTu, hnn, by omega, h2, hbd, fun p hp => q p _ (fun b o h => by rw [upd_ne (ne_of_none h hp)]; exact h) (SqT.of upd_same)⟩
/-- tuple(..) of a list or a tuple -/
def rTup (K : PySem.W.Frag) : List V → Hp → VK → Prop := fun xs H Q => ∃ a ys, xs = [.ref a] ∧ (SqL K H a ys ∨ SqT K H a ys) ∧ ∀ p H', Same H H' → SqT K H' p ys → Q (.ref p) H'
theorem tup : CallR X (.type "tuple") (rTup X.K) := by
  intro pn s σ H xs us Q Iv r hh
  obtain ⟨a, ys, rfl, hta, q⟩ := hh
  refine call_tuple_of pn s σ H _ us Q Iv r ⟨a, ys, rfl, ?_⟩
  rcases hta with hta | hta
  · exact .inl ⟨hta, fun l hl => q l _ (fun b o h => by rw [upd_ne (ne_of_none h hl)]; exact h) (SqT.of upd_same)⟩
  · exact .inr ⟨hta, q a H (fun _ _ h => h) hta⟩
end
theorem same {K : PySem.W.Frag} {H H' : Hp} {a : Addr} {xs : List V} (e : Same H H') (h : SqT K H a xs) : SqT K H' a xs := by
  rcases h with (h | ⟨fo, h⟩) | h
  · exact Or.inl (Or.inl (e _ _ h))
  · exact Or.inl (Or.inr ⟨fo, e _ _ h⟩)
  · exact Or.inr h
end Ts

set_option maxHeartbeats 4000000
namespace Ts
open PySem L2 PyProof.Rows PySem.Spec
/-! ### a tuple no times; the place of a bool; a tuple in a tuple; lcm -/
theorem rep0 (l : Addr) (items : Array Value) (n : Nat) (dd : Option Addr) (sl : Array (Option Value)) (u : Tok) (hi : items.isEmpty = false) :
    Meets (Builtin.«tuple.__mul__» ⟨[.ref l, .int 0 u], []⟩) (fun _ R s => s.heap.get? l = some { cls := .type "tuple", dict := dd, data := .seq items n, slots := sl } ∧
      R (.ok (.ret (Value.ref s.heap.objs.size))) { s with heap := s.heap.push { cls := Value.type "tuple", data := Data.seq #[] }, toks := s.toks }) :=
  .of_wp fun prog w A R s h => by
    obtain ⟨hp, g, d, tk, os⟩ := s
    obtain ⟨hl, h⟩ := h
    have f1 := AutoSeq1.idx_int
    have c0 : (decide ((0 : Int) < -(2 ^ 63)) || decide ((0 : Int) ≥ 2 ^ 63)) = false := by decide
    have c1 : (items.isEmpty || (0 : Int) == 1) = false := by rw [hi]; rfl
    have c2 : (decide ((0 : Int) ≤ 0) || items.isEmpty) = true := by simp
    wp_walk using wpAny_loadPart' hl
    repeat (first
      | (refine wpAny_ite_false (decide_eq_false (by rw [c1]; exact Bool.false_ne_true)) ?_; wp_walk using wpAny_loadPart' hl)
      | (refine wpAny_ite_true (decide_eq_true c2) ?_; wp_walk using wpAny_loadPart' hl))
    exact ⟨_, rfl, h⟩
/-- a tuple some times, or none -/
def rRep0 (K : PySem.W.Frag) : R2 := fun x y H Q => ∃ l k xs, x = .ref l ∧ y = .int k ∧ SqT K H l xs ∧ xs ≠ [] ∧ 0 ≤ k ∧ k ≤ 1000 ∧ xs.length ≤ 1000 ∧ ∀ p H', Same H H' → SqT K H' p (List.replicate k.toNat xs).flatten → Q (.ref p) H'
section
variable {X : Cx}
theorem repz : OpR X (binaryOp .Mult) (rRep0 X.K) := by
  intro pn s σ H x y v u Q Iv rx ry hh
  obtain ⟨l, k, xs, rfl, rfl, hTu, hnn, h1, h2, hbd, q⟩ := hh
  by_cases hk : k = 0
  · subst hk
    cases rx
    obtain ⟨t, rfl⟩ := ry
    obtain ⟨ws1, r, ⟨⟨cls, dd, data, sl⟩, ho, hc, n, hdt⟩, hs⟩ := Iv.tuple hTu
    simp only at hc hdt
    subst hc hdt
    have hi : ws1.toArray.isEmpty = false := by
      cases ws1 with
      | nil => cases r; exact absurd rfl hnn
      | cons a b => rfl
    refine wpAny_binaryOp_repeat_ref (T := "tuple") (U := "int") (by decide) ⟨_, ho, rfl⟩ (fun s' => typeIs_int s' 0 t) noFill_tuple_mul F.fills_int_mul F.slot_int_rmul repeat_tuple F.slot_int_index.lookup (call_meets F.slot_int_rmul (typeIs_int s 0 t) F.entry_int_rmul (F.args_int_rmul_2 _ _) (int_rmul_tuple 0 t l ws1.toArray n dd sl)
      ⟨ho, rfl, ⟨_, ho, rfl⟩, call_meets F.slot_tuple_mul ⟨_, ho, rfl⟩ F.entry_tuple_mul (F.args_tuple_mul_2 _ _) (rep0 l ws1.toArray n dd sl t hi) ⟨ho, ?_⟩⟩)
    refine ⟨.ref s.heap.objs.size, _, Iv.laid (t' := s.toks) (o := .tup []) (fun b ob q => Heap.get?_push_of_some _ q) (Nat.le_refl _) ?_, rfl, q _ _ (fun b o h => by rw [upd_ne (ne_of_none h (Iv.hok.fresh (Nat.le_refl _)))]; exact h) (SqT.of upd_same)⟩
    exact ⟨Nat.zero_le _, [], .nil, IsTup.new _ _⟩
  · exact rep pn s σ H _ _ v u Q Iv rx ry ⟨l, k, xs, rfl, rfl, hTu, hnn, by omega, h2, hbd, q⟩
/-- t.index(b), a tuple of bools -/
def rIdxB (K : PySem.W.Frag) : V → List V → Hp → VK → Prop := fun x xs H Q => ∃ (p : Addr) (ys : List Bool) (z : Bool) (j : Nat), x = .ref p ∧ xs = [.bl z] ∧ SqT K H p (ys.map V.bl) ∧ ys[j]? = some z ∧ (∀ m, m < j → ys[m]? ≠ some z) ∧ Q (.int (j : Nat)) H
theorem mt_idxB : MtR X "tuple.index" (rIdxB X.K) := by
  intro pins s σ H x xs v us Q I rx rs h
  obtain ⟨p, ys, z, j, rfl, rfl, hq, hy, hno, q⟩ := h
  cases rx
  obtain ⟨u, rfl, hu⟩ := vals1 rs
  have hu : u = .bool z := hu
  subst hu
  obtain ⟨its, r, pl, hz⟩ := I.tuple hq
  obtain ⟨⟨cls, dd, dt, sl⟩, ho, hc, n, hd⟩ := pl
  simp only at hc hd
  subst hc
  subst hd
  have hl : its.toArray.size = ys.length := by rw [List.size_toArray, ← r.length, List.length_map]
  have hj : j < its.toArray.size := by rw [hl]; exact (List.getElem?_eq_some_iff.mp hy).1
  have at' : ∀ (m : Nat) (hm : m < its.toArray.size), ∃ y, ys[m]? = some y ∧ its.toArray[m] = Value.bool y := fun m hm => by
    have hm' : m < ys.length := by rw [← hl]; exact hm
    obtain ⟨w, hw, hw'⟩ := r.get (i := m) (x := .bl ys[m]) (by simp [hm'])
    refine ⟨ys[m], List.getElem?_eq_getElem hm', ?_⟩
    have e := (List.getElem?_eq_some_iff.mp hw).2
    have hw' : w = .bool ys[m] := hw'
    rw [← hw', ← e]
    simp
  have fl : (ys.map V.bl).all flatV = true := by
    rw [List.all_map]
    exact List.all_eq_true.mpr fun _ _ => rfl
  refine call_meets PySem.F.slot_tuple_index ⟨_, ho, rfl⟩ PySem.F.entry_tuple_index (PySem.F.args_tuple_index_2 _ _) (TI.tuple_indexAt p its.toArray n dd sl (.bool z) (eqU (.bl z)) j hj ?_ ?_)
    ⟨ho, fun w hw => mem_eqAt (x := .bl z) rfl rfl r fl w (by simpa using hw), ⟨.int (j : Nat), H, I.tok _, ⟨_, rfl⟩, q⟩⟩
  · obtain ⟨y, h1, h2⟩ := at' j hj
    rw [hy] at h1
    cases h1
    rw [h2]
    show (z == z) = true
    exact beq_self_eq_true z
  · intro m hm hmj
    obtain ⟨y, h1, h2⟩ := at' m hm
    rw [h2]
    show (y == z) = false
    exact beq_eq_false_iff_ne.mpr fun e => hno m hmj (e ▸ h1)
/-- x in t, t a tuple of data -/
def rInT (K : PySem.W.Frag) : R2 := fun x y H Q => ∃ d ds, Dp K H x d ∧ Dp K H y (.tuple ds) ∧ SeqAt.shaped d = true ∧ SeqAt.shaped (.tuple ds) = true ∧ Q (.bl (ds.any fun z => PyData.eqv z d)) H
theorem op_inT (hu : X.A.units + 65 < cLine) : OpR X (compareOp .In) (rInT X.K) := by
  intro pins s σ H x y v u Q I rx ry h
  obtain ⟨d, ds, hd, he, sd, se, q⟩ := h
  obtain ⟨as, r1⟩ := Dp.reads I d x v hd rx
  obtain ⟨bs, r2⟩ := Dp.reads I (.tuple ds) y u he ry
  exact SeqAt.in_tuple_reads r2 r1 (SeqAt.canLay_of_shaped se) (SeqAt.canLay_of_shaped sd) (room_in_shaped sd hu) ⟨.bl _, H, I, rfl, q⟩
def rLcm : List V → Hp → VK → Prop := fun vs H Q => ∃ a b : Nat, vs = [.int (a : Int), .int (b : Int)] ∧ a < 2 ^ 64 ∧ b < 2 ^ 64 ∧ Q (.int ((Nat.lcm a b : Nat) : Int)) H
theorem cr_lcm : CallR X (.builtin "math.lcm") rLcm := by
  intro pins s σ H vs us Q I r h
  obtain ⟨a, b, rfl, ha, hb, q⟩ := h
  obtain ⟨t, u, rfl⟩ := Vals.int2 r
  exact PySem.W.mc_lcm (by simpa using ha) (by simpa using hb) fun _ => ⟨.int _, H, I.tok _, ⟨_, rfl⟩, q⟩
end
end Ts

set_option maxHeartbeats 4000000
/-! ### tuples whose object has no dict -/
namespace Tn
open PySem L2 PyProof.Rows PySem.Spec
def NT (K : PySem.W.Frag) (H : Hp) (p : Addr) (xs : List V) : Prop := SqT K H p xs ∧ ((∃ ob, H p = some (.frz ob (.tup xs)) ∧ ob.dict = none) ∨ ∃ o, K.lookup p = some o ∧ o.cls = .type "tuple" ∧ o.dict = none)
theorem same {K : PySem.W.Frag} {H H' : Hp} {p : Addr} {xs : List V} (s : Same H H') (h : NT K H p xs) : NT K H' p xs := by
  refine ⟨Ts.same s h.1, ?_⟩
  rcases h.2 with ⟨ob, h1, h2⟩ | h
  · exact .inl ⟨ob, s _ _ h1, h2⟩
  · exact .inr h
theorem of {K : PySem.W.Frag} {H : Hp} {p : Addr} {xs : List V} {ob : Obj} (e : H p = some (.frz ob (.tup xs))) (d : ob.dict = none) : NT K H p xs := ⟨.inl (.inr ⟨ob, e⟩), .inl ⟨ob, e, d⟩⟩
section
variable {X : Cx}
theorem land {pn : List (Addr × Obj)} {σ : L2.St} {H : Hp} {s : Shared} {xs : List V} {its : List Value} (Iv : Inv X pn σ H s) (r : Vals xs its) (hl : xs.length ≤ sizeLine) {Q : VK}
    (q : ∀ p H', Same H H' → NT X.K H' p xs → Q (.ref p) H') : EP X pn σ Q (.ref s.heap.objs.size) { s with heap := s.heap.push { cls := .type "tuple", data := .seq its.toArray } } := by
  refine ⟨.ref s.heap.objs.size, _, Iv.laid (t' := s.toks) (o := .frz { cls := .type "tuple", data := .seq its.toArray } (.tup xs)) (fun b ob q => Heap.get?_push_of_some _ q) (Nat.le_refl _) ?_, rfl, q _ _ (fun b o h => by rw [upd_ne (ne_of_none h (Iv.hok.fresh (Nat.le_refl _)))]; exact h) (of upd_same rfl)⟩
  exact ⟨Heap.get?_push_size _ rfl, hl, its, r, IsTup.new _ _⟩
def rSl (K : PySem.W.Frag) : V → Option Int → Option Int → Hp → VK → Prop := fun x lo hi H Q => ∃ a xs, x = .ref a ∧ NT K H a xs ∧ ∀ p H', Same H H' → NT K H' p (cutV xs lo hi) → Q (.ref p) H'
theorem sl : SlR X (rSl X.K) := by
  intro pn s σ H x v vl vu lo hi sp Q Iv rx hs pl pu hh
  obtain ⟨a, xs, rfl, hxs, q⟩ := hh
  cases rx
  obtain ⟨ws1, r, ht, hbd⟩ := Iv.tuple hxs.1
  have eln : ws1.toArray.size = xs.length := by rw [List.size_toArray]; exact r.length.symm
  by_cases hw : (HT.sIx xs.length 0 lo = 0) ∧ (HT.sIx xs.length xs.length hi = xs.length)
  · refine ⟨"tuple", _, PyProof.Rows.slot_tuple_getitem.lookup, ht.typeIs, Ts.whole ht hs pl pu (by rw [eln]; exact hw.1) (by rw [eln]; exact hw.2) ⟨.ref a, H, Iv, rfl, q a H (fun _ _ h => h) ?_⟩⟩
    have e : cutV xs lo hi = xs := by
      unfold cutV
      rw [hw.1, hw.2]
      simp
    rw [e]
    exact hxs
  · refine ⟨"tuple", _, PyProof.Rows.slot_tuple_getitem.lookup, ht.typeIs, ?_⟩
    refine HT.getItem_tuple_cut ht hs pl pu (by rw [eln]; exact hw) ?_ (by rw [eln]; exact hbd)
    rw [eln]
    exact land Iv ((r.drop (HT.sIx xs.length 0 lo)).take (HT.sIx xs.length xs.length hi - HT.sIx xs.length 0 lo)) (Nat.le_trans (cutV_length xs lo hi) hbd) q
def rCat (K : PySem.W.Frag) : R2 := fun x y H Q => ∃ a b xs ys, x = .ref a ∧ y = .ref b ∧ NT K H a xs ∧ NT K H b ys ∧ xs.length + ys.length ≤ sizeLine ∧ ∀ p H', Same H H' → NT K H' p (xs ++ ys) → Q (.ref p) H'
theorem cat : OpR X (binaryOp .Add) (rCat X.K) := by
  intro pn s σ H x y v u Q Iv rx ry hh
  obtain ⟨a, b, xs, ys, rfl, rfl, hta, hb, hbd, q⟩ := hh
  cases rx
  cases ry
  obtain ⟨ws1, rv1, p1, _⟩ := Iv.tuple hta.1
  obtain ⟨ws2, rv2, p2, _⟩ := Iv.tuple hb.1
  by_cases hxs : xs = []
  · subst hxs
    cases rv1
    obtain ⟨⟨cls, dd, data, sl⟩, ho, hc, n, hdt⟩ := id p1
    obtain ⟨⟨cls2, dd2, data2, sl2⟩, ho2, hc2, n2, hd2⟩ := id p2
    simp only at hc hdt hc2 hd2
    subst hc hdt hc2 hd2
    exact concat_meets ⟨_, ho, rfl⟩ ⟨_, ho2, rfl⟩ noFill_tuple_add seq_tuple_add PySem.F.slot_tuple_add PySem.F.entry_tuple_add (PySem.F.args_tuple_add_2 _ _) (tuple_addW0 a b _ ws2.toArray n n2 dd dd2 sl sl2 (by simp)) ⟨ho, ho2, ⟨.ref b, H, Iv, rfl, q b H (fun _ _ h => h) hb⟩⟩
  · refine HT.cat_tup p1 p2 (fun z => hxs (rv1.nil_iff.mp z)) (fun z => ⟨.ref a, H, Iv, rfl, q a H (fun _ _ h => h) (by rw [rv2.nil_iff.mp z, List.append_nil]; exact hta)⟩) (fun z => ?_) (by rw [← rv1.length, ← rv2.length]; exact hbd)
    exact land Iv (rv1.append rv2) (by rw [List.length_append]; exact hbd) q
def rRep (K : PySem.W.Frag) : R2 := fun x y H Q => ∃ l k xs, x = .ref l ∧ y = .int k ∧ NT K H l xs ∧ xs ≠ [] ∧ 0 ≤ k ∧ k ≤ 1000 ∧ xs.length ≤ 1000 ∧ ∀ p H', Same H H' → NT K H' p (List.replicate k.toNat xs).flatten → Q (.ref p) H'
theorem rep : OpR X (binaryOp .Mult) (rRep X.K) := by
  intro pn s σ H x y v u Q Iv rx ry hh
  obtain ⟨l, k, xs, rfl, rfl, hTu, hnn, h0, h2, hz, q⟩ := hh
  cases rx
  obtain ⟨t, rfl⟩ := ry
  obtain ⟨its, r, ⟨⟨cls, dd, data, sl⟩, ho, hc, n, hdt⟩, hs⟩ := Iv.tuple hTu.1
  simp only at hc hdt
  subst hc hdt
  have hle : its.length = xs.length := r.length.symm
  have hi : its.toArray.isEmpty = false := by
    cases its with
    | nil => cases r; exact absurd rfl hnn
    | cons a b => rfl
  rcases (show k = 0 ∨ k = 1 ∨ 2 ≤ k by omega) with hk | hk | h1
  · subst hk
    refine wpAny_binaryOp_repeat_ref (T := "tuple") (U := "int") (by decide) ⟨_, ho, rfl⟩ (fun s' => typeIs_int s' 0 t) noFill_tuple_mul F.fills_int_mul F.slot_int_rmul repeat_tuple F.slot_int_index.lookup (call_meets F.slot_int_rmul (typeIs_int s 0 t) F.entry_int_rmul (F.args_int_rmul_2 _ _) (int_rmul_tuple 0 t l its.toArray n dd sl)
      ⟨ho, rfl, ⟨_, ho, rfl⟩, call_meets F.slot_tuple_mul ⟨_, ho, rfl⟩ F.entry_tuple_mul (F.args_tuple_mul_2 _ _) (Ts.rep0 l its.toArray n dd sl t hi) ⟨ho, ?_⟩⟩)
    exact land (its := []) Iv .nil (Nat.zero_le _) q
  · subst hk
    exact wpAny_binaryOp_repeat_ref (T := "tuple") (U := "int") (by decide) ⟨_, ho, rfl⟩ (fun s' => typeIs_int s' 1 t) noFill_tuple_mul F.fills_int_mul F.slot_int_rmul repeat_tuple F.slot_int_index.lookup (call_meets F.slot_int_rmul (typeIs_int s 1 t) F.entry_int_rmul (F.args_int_rmul_2 _ _) (int_rmul_tuple 1 t l its.toArray n dd sl)
      ⟨ho, rfl, ⟨_, ho, rfl⟩, call_meets F.slot_tuple_mul ⟨_, ho, rfl⟩ F.entry_tuple_mul (F.args_tuple_mul_2 _ _) (Ts.rep1 l its.toArray n dd sl t) ⟨ho, ⟨.ref l, H, Iv, rfl, q l H (fun _ _ h => h) (by simpa using hTu)⟩⟩⟩)
  · have hsz0 : its.toArray.size = xs.length := by rw [List.size_toArray, hle]
    have hm : ((its.toArray.size : Nat) : Int) * k ≤ 1000000 := by
      rw [hsz0]
      have a1 : ((xs.length : Nat) : Int) * k ≤ 1000 * k := Int.mul_le_mul_of_nonneg_right (by omega) (by omega)
      omega
    have flen : (List.replicate k.toNat its).flatten.length ≤ sizeLine := by
      rw [PyProof.Rows.lm_len_rep_flat, hle, sizeLine_eq]
      have a1 : k.toNat * xs.length ≤ 1000 * 1000 := Nat.mul_le_mul (by omega) hz
      omega
    have c0 : (decide (k < -(2 ^ 63)) || decide (k ≥ 2 ^ 63)) = false := by
      rw [decide_eq_false (by omega), decide_eq_false (by omega)] <;> rfl
    have c1 : (its.toArray.isEmpty || k == 1) = false := by
      rw [hi, Bool.false_or]
      exact beq_eq_false_iff_ne.mpr (by omega)
    have c2 : (decide (k ≤ 0) || its.toArray.isEmpty) = false := by
      rw [hi, Bool.or_false]
      exact decide_eq_false (by omega)
    have c4 : Builtin.Tuple.tupleTooMany (((its.toArray.size : Nat) : Int) * k) = false := by
      unfold Builtin.Tuple.tupleTooMany
      rw [sizeLine_eq]
      exact decide_eq_false (by omega)
    refine wpAny_binaryOp_repeat_ref (T := "tuple") (U := "int") (by decide) ⟨_, ho, rfl⟩ (fun s' => typeIs_int s' k t) noFill_tuple_mul F.fills_int_mul F.slot_int_rmul repeat_tuple F.slot_int_index.lookup
      (call_meets F.slot_int_rmul (typeIs_int s k t) F.entry_int_rmul (F.args_int_rmul_2 _ _) (int_rmul_tuple k t l its.toArray n dd sl)
        ⟨ho, rfl, ⟨_, ho, rfl⟩, call_meets F.slot_tuple_mul ⟨_, ho, rfl⟩ F.entry_tuple_mul (F.args_tuple_mul_2 _ _) (tuple_mulW l its.toArray n dd sl k t c0 c1 c2 (by omega) c4 (by rw [size_rep, List.size_toArray]; exact flen)) ⟨ho, ?_⟩⟩)
    rw [size_rep]
    refine land Iv (r.rep k.toNat) ?_ q
    rw [PyProof.Rows.lm_len_rep_flat, sizeLine_eq]
    have a1 : k.toNat * xs.length ≤ 1000 * 1000 := Nat.mul_le_mul (by omega) hz
    omega
def rTup (K : PySem.W.Frag) : List V → Hp → VK → Prop := fun xs H Q => ∃ a ys, xs = [.ref a] ∧ (SqL K H a ys ∨ NT K H a ys) ∧ ∀ p H', Same H H' → NT K H' p ys → Q (.ref p) H'
theorem tup : CallR X (.type "tuple") (rTup X.K) := by
  intro pn s σ H xs us Q I r hh
  obtain ⟨p, ys, rfl, h, q⟩ := hh
  obtain ⟨u, rfl, rx⟩ := vals1 r
  cases rx
  rcases h with hq | hq
  · obtain ⟨its, r', pl, hz⟩ := I.list hq
    have hlen := r'.length
    refine call_tuple_list pl.isList (fun h' kp => ?_) (by simp only [List.size_toArray] <;> omega)
    have I1 : Inv X pn σ H { s with heap := h' } := I.kept (t' := s.toks) kp
    exact land I1 r' hz q
  · obtain ⟨its, r', pl, hz⟩ := I.tuple hq.1
    exact call_tuple_same pl ⟨.ref p, H, I, rfl, q p H (fun _ _ h => h) hq⟩
variable {e : Expr} {es : List Expr} {t : TA} {pos : Pos}
def tTupN (K : PySem.W.Frag) (t : TA) : TE := fun σ H Q => t σ H fun xs H1 => xs.length ≤ sizeLine ∧ ∀ p H', Same H1 H' → NT K H' p xs → Q (.ref p) H'
theorem pe_tupN {x1} (h : PA X es t) : PE X (.Tuple es x1 pos) (tTupN X.K t) := by
  refine ⟨fun pins s σ H Q I hq => ?_⟩
  refine wpAny_Tuple_spliced (thn (h.run pos pins s σ H _ I hq) fun us s1 ⟨xs, H1, I1, r, z, q⟩ => ⟨by rw [← r.length]; exact z, ?_⟩)
  exact land I1 r z q
variable {o : Expr} {to : TE} {name : Str} {apos cpos : Pos} {id : String} {r : V → List V → Hp → VK → Prop}
def tBMN (K : PySem.W.Frag) (r : V → List V → Hp → VK → Prop) (to : TE) (t : TA) : TE := fun σ H Q => to σ H fun x H1 => (∃ p xs, x = .ref p ∧ NT K H1 p xs) ∧ t σ H1 fun vs H2 => r x vs H2 Q
theorem pe_bmN (slot : Slot "tuple" name id) (hty : typeOf (.builtin id) = pure (.type "method_descriptor")) (hm : MtR X id r) (ho : PE X o to) (ha : PA X (e :: es) t)
    (hbase : attributeBase o name X.env (eval o X.env) = eval o X.env := by rfl)
    (hfew : ((backTo cpos (starEach (e :: es) X.env)).all (fun x => !x.1) && (backToKw cpos (keywordEach [] X.env)).all (fun x => x.1.isSome)
      && decide ((e :: es).length + ([] : List Keyword).length + (if ([] : List Keyword).isEmpty then 0 else 1) < 30)) = true := by rfl)
    (hline : (apos.endLine == cpos.line) = true := by rfl) (hs : starEach (e :: es) X.env = (false, eval e X.env) :: starEach es X.env := by rfl) (hplain : (backTo cpos (starEach es X.env)).any (·.1) = false := by rfl) :
    PE X (.Call (.Attribute o name apos) (e :: es) [] cpos) (tBMN X.K r to t) := by
  refine ⟨fun pins s σ H Q I h => ?_⟩
  refine wpAny_Call_method_late hbase hfew hline rfl (thn (ho.run pins s σ H _ I h) fun v s1 ⟨x, H1, I1, r1, ⟨p, xs, ep, ty⟩, q1⟩ => ?_)
  subst ep
  cases r1
  obtain ⟨its, rr, pl, hz⟩ := I1.tuple ty.1
  have h2 : ∀ a, Value.ref p = .ref a → ∃ ob, s1.heap.get? a = some ob ∧ ob.dict = none := by
    intro a ea
    cases ea
    rcases ty.2 with ⟨ob, e1, e2⟩ | ⟨ob, e1, _, e2⟩
    · have := I1.hok p _ e1
      exact ⟨ob, this.1, e2⟩
    · exact ⟨ob, I1.kIn p ob e1, e2⟩
  refine ⟨"tuple", id, PySem.F.plainAttrs_tuple, slot, hty, pl.typeIs, h2, ?_⟩
  have hA := ha.run cpos pins s1 σ H1 _ I1 q1
  rw [hs] at hA ⊢
  refine Calls.callWith_builtin (by show (false || (backTo cpos (starEach es X.env)).any (·.1)) = false; rw [hplain] <;> rfl) (Calls.evalArgs_plain ?_)
  exact thn hA fun us s2 ⟨vs, H2, I2, r2, q2⟩ => hm pins s2 σ H2 (.ref p) vs (.ref p) us Q I2 rfl r2 q2
end
end Tn

namespace Mw
open PySem L2
theorem sz_line {n : Nat} (h : n < 10000000) : n < sizeLine := Nat.lt_of_lt_of_le h (by decide)
theorem le_line {n : Nat} (h : n < 10000000) : n ≤ sizeLine := Nat.le_of_lt (sz_line h)
/-! ### tuples of True and False -/
def TA (K : PySem.W.Frag) (H : Hp) (v : V) (bs : BL) : Prop := ∃ p, v = .ref p ∧ Tn.NT K H p (bs.map V.bl)
theorem TA.same {K : PySem.W.Frag} {H H' : Hp} {v : V} {bs : BL} (s : Same H H') (h : TA K H v bs) : TA K H' v bs := by
  obtain ⟨p, e, h1⟩ := h
  exact ⟨p, e, Tn.same s h1⟩
/-- the pair of a head and a cycle -/
def PA (K : PySem.W.Frag) (H : Hp) (v : V) (x : BL × BL) : Prop := ∃ p a b, v = .ref p ∧ SqT K H p [a, b] ∧ TA K H a x.1 ∧ TA K H b x.2
theorem PA.same {K : PySem.W.Frag} {H H' : Hp} {v : V} {x : BL × BL} (s : Same H H') (h : PA K H v x) : PA K H' v x := by
  obtain ⟨p, a, b, e, h1, h2, h3⟩ := h
  exact ⟨p, a, b, e, Ts.same s h1, h2.same s, h3.same s⟩
def bsD (bs : BL) : PyData := .tuple (bs.map .bool)
theorem dpl {K : PySem.W.Frag} {H : Hp} : ∀ bs : BL, DpAll K H (bs.map V.bl) (bs.map .bool)
  | [] => .nil
  | b :: bs => .cons (.bl b) (dpl bs)
theorem TA.dp {K : PySem.W.Frag} {H : Hp} {v : V} {bs : BL} (h : TA K H v bs) : Dp K H v (bsD bs) := by
  obtain ⟨p, rfl, h1⟩ := h
  exact .tup h1.1 (dpl bs)
theorem PA.dp {K : PySem.W.Frag} {H : Hp} {v : V} {x : BL × BL} (h : PA K H v x) : Dp K H v (.tuple [bsD x.1, bsD x.2]) := by
  obtain ⟨p, a, b, rfl, h1, h2, h3⟩ := h
  exact .tup h1 (.cons h2.dp (.cons h3.dp .nil))
theorem eqv_all : ∀ a b : BL, PyData.eqvAll (a.map .bool) (b.map .bool) = decide (a = b)
  | [], [] => rfl
  | [], _ :: _ => rfl
  | _ :: _, [] => rfl
  | x :: a, y :: b => by
    show ((x == y) && PyData.eqvAll (a.map .bool) (b.map .bool)) = _
    rw [eqv_all a b, Bool.eq_iff_iff]
    simp
theorem eqv_bs (a b : BL) : PyData.eqv (bsD a) (bsD b) = decide (a = b) := eqv_all a b
theorem can_all : ∀ a : BL, PyData.canLayAll0 (a.map .bool) = true
  | [] => rfl
  | _ :: a => can_all a
theorem dep_all : ∀ a : BL, PyData.depthAll (a.map .bool) = 0
  | [] => rfl
  | b :: a => by
    show max (PyData.depth (.bool b)) (PyData.depthAll (a.map .bool)) = 0
    rw [dep_all a]
    rfl
theorem shp (a : BL) : SeqAt.shaped (bsD a) = true := by
  unfold SeqAt.shaped
  rw [Bool.and_eq_true]
  refine ⟨can_all a, decide_eq_true ?_⟩
  show PyData.depthAll (a.map .bool) + 1 ≤ 64
  rw [dep_all]
  decide
theorem shp2 (a b : BL) : SeqAt.shaped (.tuple [bsD a, bsD b]) = true := by
  unfold SeqAt.shaped
  rw [Bool.and_eq_true]
  refine ⟨?_, decide_eq_true ?_⟩
  · show (PyData.canLayAll0 (a.map .bool) && (PyData.canLayAll0 (b.map .bool) && true)) = true
    rw [can_all, can_all]
    rfl
  · show max (PyData.depthAll (a.map .bool) + 1) (max (PyData.depthAll (b.map .bool) + 1) 0) + 1 ≤ 64
    rw [dep_all, dep_all]
    decide
section
variable {P : Program} {w : World} {K : PySem.W.Frag} {mg : Str → Option Value} {base : Heap}
/-! ### prime_factors -/
abbrev sPf : Stmt := top 4
abbrev nPf : List Str := ["number", "factors", "factor"]
theorem scPf : FnScope nPf ["number"] (defScope sPf) := ⟨rfl, rfl, rfl, by decide +kernel, rfl, by decide +kernel, by decide +kernel⟩
def nV (n : Nat) : V := .int (n : Int)
def spPf : Sp := fun vs H Q _ => ∃ n : Nat, vs = [nV n] ∧ 1 ≤ n ∧ n < 1000 ∧ ∀ l H', Same H H' → H' l = some (.lst ((pf n).map nV)) → Q (.ref l) H'
theorem ok_pf {f : Addr} {fd : FuncData} (F : Fun K "prime_factors" "prime_factors" sPf f fd) : FnOk P w K mg base CX0 1 f fd ["number"] spPf := by
  refine F.ok scPf (fun vs H Q E h => ?_) (fun cdv A outer s H vs Q E hr h => ?_)
  · obtain ⟨n, rfl, _⟩ := h
    rfl
  obtain ⟨n, rfl, h0, h1, q⟩ := h
  have nd := scPf.nd
  refine ⟨_, pss_cons (ps_set (i := 1) nd rfl (.inl rfl) (pe_lst pa_nil))
    (pss_cons (ps_set (i := 2) nd rfl (.inl rfl) pe_int)
    (pss_cons (ps_while PassesOwn.never (pt_cmpR op_le (pe_op op_mul (pv 2) (pv 2)) (pv 0) (nomark _))
      (pss_one (ps_if (pt_cmpR op_eq (pe_op op_mod (pv 0) (pv 2)) pe_int (nomark _))
        (pss_cons (ps_expr (pe_bm PySem.F.plainAttrs_list PySem.F.slot_list_append PySem.F.type_list_append mt_append (pv 1) (pa_cons (pv 2) pa_nil)))
          (pss_one (ps_set (i := 0) nd rfl (.inl rfl) (pe_op op_fdiv (pv 0) (pv 2)))))
        (pss_one (ps_aug (i := 2) nd rfl (.inl rfl) pe_int ip_add)))))
    (pss_one (ps_ret (pe_ifExp (pt_cmpR op_gt (pv 0) pe_int (nomark _)) (pe_op op_cat (pv 1) (pe_lst (pa_cons (pv 0) pa_nil))) (pv 1)))))), ?_⟩
  refine ⟨Nat.zero_le _, fun l hl => ?_⟩
  have s1 : Same H (upd H l (.lst [])) := same_new hl _
  let J : Nat → L2.St → Hp → Prop := fun fu σ H' => ∃ (m g : Nat) (acc : List Nat), σ = [some (nV m), some (.ref l), some (nV g)] ∧ Same H H' ∧ H' l = some (.lst (acc.map nV)) ∧ pf n = acc ++ pfF fu m g ∧ 2 * m < fu + g ∧ 1 ≤ fu ∧ 2 ≤ g ∧ 1 ≤ m ∧ g + fu ≤ 2 * n + 2 ∧ acc.length + fu ≤ 2 * n
  refine ⟨J, ⟨2 * n, n, 2, [], rfl, s1, upd_same, rfl, by omega, by omega, by omega, h0, by omega, by simp⟩, ?_⟩
  rintro fu σ H' ⟨m, g, acc, rfl, s', hl', hpf, i1, i2, i3, i4, i6, i7⟩
  refine ⟨_, rfl, _, rfl, _, _, rfl, rfl, .inl ⟨by omega, by omega⟩, ?_⟩
  refine ⟨_, rfl, _, _, rfl, rfl, _, rfl, ?_⟩
  obtain ⟨fu', rfl⟩ : ∃ fu', fu = fu' + 1 := ⟨fu - 1, by omega⟩
  have e1 : pfF (fu' + 1) m g = if g * g ≤ m then (if m % g = 0 then g :: pfF fu' (m / g) g else pfF fu' m (g + 1)) else if 1 < m then [m] else [] := rfl
  have hgg : (g : Int) * (g : Int) = ((g * g : Nat) : Int) := by simp
  refine ite2 (fun c => ?_) (fun c => ?_)
  · have c' : g * g ≤ m := by
      have := of_decide_eq_true c
      rw [hgg] at this
      omega
    rw [e1, if_pos c'] at hpf
    have g2 : 2 * g ≤ g * g := Nat.mul_le_mul_right g i3
    refine ⟨J fu', fun σ' H' h => ⟨fu', by omega, h⟩, ?_⟩
    refine ⟨_, rfl, _, rfl, _, _, rfl, rfl, by show (0 : Int) < (g : Int); omega, rfl, _, rfl, ?_⟩
    have hmod : (m : Int) % (g : Int) = ((m % g : Nat) : Int) := by simp
    refine ite2 (fun c2 => ?_) (fun c2 => ?_)
    · have c3 : m % g = 0 := by
        have : (V.int ((m : Int) % (g : Int))) = V.int 0 := of_decide_eq_true c2
        injection this with this
        rw [hmod] at this
        omega
      rw [if_pos c3] at hpf
      refine ⟨_, rfl, .inl ⟨rfl, _, SqL.of hl'⟩, _, rfl, l, _, _, rfl, rfl, hl', sz_line (by rw [List.length_map]; omega), ?_⟩
      refine ⟨_, rfl, _, rfl, _, _, rfl, rfl, ⟨by omega, by omega⟩, ?_⟩
      have hdiv : (m : Int) / (g : Int) = ((m / g : Nat) : Int) := by simp
      have d1 : m / g * g ≤ m := Nat.div_mul_le_self m g
      have d2 : m / g * 2 ≤ m / g * g := Nat.mul_le_mul_left _ i3
      have d3 : 1 ≤ m / g := (Nat.le_div_iff_mul_le (by omega)).mpr (by omega)
      refine ⟨m / g, g, acc ++ [g], ?_, same_mut s' hl _, ?_, ?_, by omega, by omega, i3, d3, by omega, by rw [List.length_append, List.length_singleton]; omega⟩
      · show _ = [some (V.int ((m / g : Nat) : Int)), _, _]
        rw [← hdiv]
        rfl
      · rw [upd_same, List.map_append]
        rfl
      · rw [hpf, List.append_assoc]
        rfl
    · have c3 : ¬ m % g = 0 := fun z => c2 (by
        show decide (V.int ((m : Int) % (g : Int)) = V.int 0) = true
        rw [hmod, z]
        rfl)
      rw [if_neg c3] at hpf
      refine ⟨_, rfl, _, _, rfl, rfl, m, g + 1, acc, ?_, s', hl', hpf, by omega, by omega, by omega, i4, by omega, by omega⟩
      show _ = [_, _, some (V.int ((g + 1 : Nat) : Int))]
      rw [show ((g + 1 : Nat) : Int) = (g : Int) + 1 by omega]
      rfl
  · have c' : ¬ g * g ≤ m := fun z => c (by
      show decide ((g : Int) * (g : Int) ≤ (m : Int)) = true
      rw [hgg]
      exact decide_eq_true (by omega))
    rw [e1, if_neg c'] at hpf
    refine ⟨_, rfl, _, _, rfl, rfl, _, rfl, ?_⟩
    refine ite2 (fun c2 => ?_) (fun c2 => ?_)
    · have c3 : 1 < m := by
        have := of_decide_eq_true c2
        omega
      rw [if_pos c3] at hpf
      refine ⟨_, rfl, _, rfl, by show 1 ≤ sizeLine; decide, fun l2 hl2 => ?_⟩
      have t1 : Same H' (upd H' l2 (.lst [nV m])) := same_new hl2 _
      refine ⟨l, l2, _, _, rfl, rfl, t1 _ _ hl', upd_same, le_line (by rw [List.length_map]; show acc.length + 1 < 10000000; omega), fun l3 hl3 => ?_⟩
      refine q l3 _ ((s'.trans t1).trans (same_new hl3 _)) ?_
      rw [upd_same, hpf, List.map_append]
      rfl
    · have c3 : ¬ 1 < m := by
        have := of_decide_eq_false (Bool.eq_false_iff.mpr c2)
        omega
      rw [if_neg c3, List.append_nil] at hpf
      rw [← hpf] at hl'
      exact ⟨_, rfl, q l H' s' hl'⟩
end
end Mw

namespace Mw
open PySem L2
theorem cut_map (bs : BL) (lo hi : Option Int) : cutV (bs.map V.bl) lo hi = ((bs.drop (HT.sIx bs.length 0 lo)).take (HT.sIx bs.length bs.length hi - HT.sIx bs.length 0 lo)).map V.bl := by
  unfold cutV
  rw [List.length_map, List.map_take, List.map_drop]
theorem cut_to {bs : BL} {k : Nat} (hk : k ≤ bs.length) : cutV (bs.map V.bl) none (some (k : Int)) = (bs.take k).map V.bl := by
  rw [cut_map, HT.sIx_none, HT.sIx_nat, Nat.min_eq_left hk, List.drop_zero, Nat.sub_zero]
theorem cut_from {bs : BL} {k : Nat} (hk : k ≤ bs.length) : cutV (bs.map V.bl) (some (k : Int)) none = (bs.drop k).map V.bl := by
  rw [cut_map, HT.sIx_none, HT.sIx_nat, Nat.min_eq_left hk, List.take_of_length_le (by rw [List.length_drop]; omega)]
theorem cut_mid {bs : BL} {j k : Nat} (hj : j ≤ bs.length) (hk : k ≤ bs.length) : cutV (bs.map V.bl) (some (j : Int)) (some (k : Int)) = ((bs.drop j).take (k - j)).map V.bl := by
  rw [cut_map, HT.sIx_nat, HT.sIx_nat, Nat.min_eq_left hk, Nat.min_eq_left hj]
theorem at_bl {bs : BL} {k : Nat} (hk : k < bs.length) : atI (bs.map V.bl) (k : Int) = some (.bl (bs.getD k false)) :=
  atI_nat (by rw [List.getElem?_map, List.getElem?_eq_getElem hk, List.getD_eq_getElem?_getD, List.getElem?_eq_getElem hk]; rfl)
theorem at_back {bs : BL} {k : Nat} (hk : k < bs.length) : atI (bs.map V.bl) (-1 - (k : Int)) = some (.bl (bs.getD (bs.length - 1 - k) false)) := by
  have e : ixN (bs.map V.bl).length (-1 - (k : Int)) = some (bs.length - 1 - k) := by
    unfold ixN
    rw [List.length_map, if_neg (by omega), if_pos (by omega)]
    congr 1
    omega
  unfold atI
  rw [e]
  · show (bs.map V.bl)[bs.length - 1 - k]? = _
    rw [List.getElem?_map, List.getElem?_eq_getElem (by omega), List.getD_eq_getElem?_getD, List.getElem?_eq_getElem (by omega)]
    rfl
theorem back_mod {p : Nat} (hp : 0 < p) (j : Nat) : ((-1 - (j : Int)) % (p : Int)).toNat = p - 1 - j % p := by
  have hm := Nat.mod_lt j hp
  have hd := Nat.div_add_mod j p
  have e : -1 - (j : Int) = ((p - 1 - j % p : Nat) : Int) + (p : Int) * (-((j / p : Nat) : Int) - 1) := by
    have : (j : Int) = (p : Int) * ((j / p : Nat) : Int) + ((j % p : Nat) : Int) := by
      rw [← Int.natCast_mul, ← Int.natCast_add, hd]
    rw [Int.mul_sub, Int.mul_neg, Int.mul_one]
    omega
  rw [e, Int.add_mul_emod_self_left, Int.emod_eq_of_lt (by omega) (by omega)]
  omega
theorem cv_back {c : BL} (hc : c ≠ []) (j : Nat) : cv c (-1 - (j : Int)) = c.getD (c.length - 1 - j % c.length) false := by
  unfold cv
  rw [back_mod (len_pos hc)]
theorem rot_split {c : BL} {t : Nat} (ht : t ≤ c.length) : c.drop t ++ c.take t = rot c (t : Int) := by
  refine List.ext_getElem (by rw [rot_len]; simp; omega) fun k k1 k2 => ?_
  rw [rot_len] at k2
  simp only [rot, List.getElem_map, List.getElem_range]
  unfold cv
  rw [List.getElem_append]
  split
  · rename_i h
    rw [List.length_drop] at h
    rw [show (((k : Int) + (t : Int)) % (c.length : Int)).toNat = t + k by rw [Int.emod_eq_of_lt (by omega) (by omega)]; omega, List.getD_eq_getElem?_getD, List.getElem?_eq_getElem (by omega), List.getElem_drop]
    rfl
  · rename_i h
    rw [List.length_drop] at h
    have e : ((k : Int) + (t : Int)) % (c.length : Int) = ((k + t - c.length : Nat) : Int) := by
      rw [show (k : Int) + (t : Int) = ((k + t - c.length : Nat) : Int) + (c.length : Int) * 1 by omega, Int.add_mul_emod_self_left, Int.emod_eq_of_lt (by omega) (by omega)]
    rw [e, Int.toNat_natCast, List.getD_eq_getElem?_getD, List.getElem?_eq_getElem (by omega), List.getElem_take]
    simp only [List.length_drop, Option.getD_some]
    congr 1
    omega
theorem rot_turn {c : BL} (hc : c ≠ []) (m : Nat) : rot c ((c.length - m % c.length : Nat) : Int) = rot c (-(m : Int)) := by
  unfold rot
  refine List.map_congr_left fun k _ => cv_mod ?_
  have hp := len_pos hc
  have hm := Nat.mod_lt m hp
  have hd := Nat.div_add_mod m c.length
  have e : (k : Int) + ((c.length - m % c.length : Nat) : Int) = ((k : Int) + (-(m : Int))) + (c.length : Int) * (1 + ((m / c.length : Nat) : Int)) := by
    have : (m : Int) = (c.length : Int) * ((m / c.length : Nat) : Int) + ((m % c.length : Nat) : Int) := by
      rw [← Int.natCast_mul, ← Int.natCast_add, hd]
    rw [Int.mul_add, Int.mul_one]
    omega
  rw [e, Int.add_mul_emod_self_left]
section
variable {P : Program} {w : World} {K : PySem.W.Frag} {mg : Str → Option Value} {base : Heap}
/-! ### shortest_cycle -/
abbrev sSc : Stmt := top 5
abbrev nSc : List Str := ["cycle", "size", "factor", "shorter"]
theorem scSc : FnScope nSc ["cycle"] (defScope sSc) := ⟨rfl, rfl, rfl, by decide +kernel, rfl, by decide +kernel, by decide +kernel⟩
def spSc (K : PySem.W.Frag) : Sp := fun vs H Q _ => ∃ (v : V) (c : BL), vs = [v] ∧ TA K H v c ∧ c ≠ [] ∧ c.length < 1000 ∧ ∀ v' H', Same H H' → TA K H' v' (sc c) → Q v' H'
theorem scF_drop {c : BL} {fs : List Nat} {i f s : Nat} (h : fs[i]? = some f) : scF c (fs.drop i) s = scF c (fs.drop (i + 1)) (if (c.drop (s / f)).take (s - s / f) = c.take (s - s / f) then s / f else s) := by
  have e : fs.drop i = f :: fs.drop (i + 1) := by
    obtain ⟨h1, h2⟩ := List.getElem?_eq_some_iff.mp h
    rw [List.drop_eq_getElem_cons h1, h2]
  rw [e]
  rfl
theorem ok_sc {f fP : Addr} {fd fdP : FuncData} (F : Fun K "shortest_cycle" "shortest_cycle" sSc f fd)
    (GP : FnOk P w K mg base CX0 1 fP fdP ["number"] spPf) (bP : Binds K fdP ["number"] []) (kP : PySem.W.keepIn K (.ref fP) = true) (mP : mg "prime_factors" = some (.ref fP)) (ml : mg "len" = none) :
    FnOk P w K mg base CX0 2 f fd ["cycle"] (spSc K) := by
  refine F.ok scSc (fun vs H Q E h => ?_) (fun cdv A outer s H vs Q E hr h => ?_)
  · obtain ⟨v, c, rfl, _⟩ := h
    rfl
  obtain ⟨v, c, rfl, ⟨p, rfl, hp⟩, hc, h1k, q⟩ := h
  have nd := scSc.nd
  refine ⟨_, pss_cons (ps_set (i := 1) nd rfl (.inl rfl) (pe_callB call_len_seq (by rfl) ml PySem.boot_len (pa_cons (pv 0) pa_nil)))
    (pss_cons (ps_for PassesOwn.never rfl (pi_list (pe_call GP hr rfl mP kP bP .nil pass0 (pa_cons (pv 1) pa_nil))) (pg_name (i := 2) nd rfl (.inl rfl))
      (pss_cons (ps_set (i := 3) nd rfl (.inl rfl) (pe_op op_fdiv (pv 1) (pv 2)))
      (pss_one (ps_if (pt_cmpR (op_eqD hr.units) (pe_slice Tn.sl (pv 0) (po_some (pv 3)) (po_some (pv 1))) (pe_slice Tn.sl (pv 0) po_none (po_some (pe_op op_sub (pv 1) (pv 3)))) (nomark _))
        (pss_one (ps_set (i := 1) nd rfl (.inl rfl) (pv 3))) pss_nil))))
    (pss_one (ps_ret (pe_slice Tn.sl (pv 0) po_none (po_some (pv 1)))))), ?_⟩
  have hpos := len_pos hc
  refine ⟨_, rfl, p, _, rfl, .inr hp.1, ?_⟩
  rw [List.length_map]
  refine ⟨_, rfl, c.length, rfl, by omega, by omega, fun l H1 s1 hl => ⟨l, rfl, ⟨_, SqL.of hl⟩, ?_⟩⟩
  refine for_list (xs := (pf c.length).map nV) (fun i σ H' => ∃ (z : Nat) (o2 o3 : Option V), σ = [some (.ref p), some (nV z), o2, o3] ∧ Same H1 H' ∧ z ≤ c.length ∧ scF c ((pf c.length).drop i) z = scF c (pf c.length) c.length) ⟨c.length, _, _, rfl, Same.refl _, Nat.le_refl _, rfl⟩ (fun i σ H' _ ⟨_, _, _, _, s', _⟩ => SqL.of (s' _ _ hl)) ?_ ?_
  · rintro i x σ H' hx ⟨z, o2, o3, rfl, s', hz, hsc⟩
    rw [List.getElem?_map] at hx
    obtain ⟨g, hg, rfl⟩ := Option.map_eq_some_iff.mp hx
    have g2 := pf_pos hpos (List.mem_of_getElem? hg)
    rw [scF_drop hg] at hsc
    have hp1 : Tn.NT K H1 p (c.map V.bl) := Tn.same s1 hp
    have hd : (fun i j : Int => V.int (i / j)) (z : Int) (g : Int) = V.int ((z / g : Nat) : Int) := by
      show V.int ((z : Int) / (g : Int)) = _
      rw [← Int.natCast_ediv]
    have hdz : z / g ≤ z := Nat.div_le_self z g
    generalize z / g = t at hd hdz hsc
    refine ⟨_, rfl, _, rfl, _, _, rfl, rfl, ⟨by omega, by omega⟩, ?_⟩
    rw [hd]
    refine ⟨_, rfl, _, rfl, _, rfl, _, rfl, _, rfl, p, _, rfl, Tn.same s' hp1, fun p1 H2 s2 ht1 => ?_⟩
    rw [cut_mid (by omega) hz] at ht1
    refine ⟨_, rfl, _, rfl, _, rfl, _, _, rfl, rfl, _, rfl, p, _, rfl, Tn.same (s'.trans s2) hp1, fun p2 H3 s3 ht2 => ?_⟩
    rw [show ((z : Nat) : Int) - ((t : Nat) : Int) = ((z - t : Nat) : Int) by omega, cut_to (by omega)] at ht2
    refine ⟨_, _, TA.dp ⟨p1, rfl, Tn.same s3 ht1⟩, TA.dp ⟨p2, rfl, ht2⟩, shp _, shp _, ?_⟩
    rw [eqv_bs]
    refine ⟨_, rfl, ?_⟩
    refine ite2 (fun e => ?_) (fun e => ?_)
    · rw [if_pos (of_decide_eq_true e)] at hsc
      exact ⟨_, rfl, t, _, _, rfl, (s'.trans s2).trans s3, by omega, hsc⟩
    · rw [if_neg (of_decide_eq_false (Bool.eq_false_iff.mpr e))] at hsc
      exact ⟨z, _, _, rfl, (s'.trans s2).trans s3, hz, hsc⟩
  · rintro σ H' ⟨z, o2, o3, rfl, s', hz, hsc⟩
    rw [List.length_map, List.drop_length] at hsc
    have hz2 : scF c (pf c.length) c.length = z := hsc.symm
    refine ⟨_, rfl, _, rfl, _, rfl, p, _, rfl, Tn.same (s1.trans s') hp, fun p1 H2 s2 ht1 => ?_⟩
    rw [cut_to hz] at ht1
    refine q (.ref p1) H2 ((s1.trans s').trans s2) ⟨p1, rfl, ?_⟩
    unfold sc
    rw [hz2]
    exact ht1
end
end Mw

namespace Mw
open PySem L2
section
variable {P : Program} {w : World} {K : PySem.W.Frag} {mg : Str → Option Value} {base : Heap}
/-! ### turned_back -/
abbrev sTb : Stmt := top 6
abbrev nTb : List Str := ["head", "cycle", "many", "turn"]
theorem scTb : FnScope nTb ["head", "cycle", "many"] (defScope sTb) := ⟨rfl, rfl, rfl, by decide +kernel, rfl, by decide +kernel, by decide +kernel⟩
def spTb (K : PySem.W.Frag) : Sp := fun vs H Q _ => ∃ (v1 v2 : V) (h c : BL) (m : Nat), vs = [v1, v2, nV m] ∧ TA K H v1 h ∧ TA K H v2 c ∧ c ≠ [] ∧ c.length < 100000 ∧ h.length < 100000 ∧ m ≤ h.length ∧ ∀ v' H', Same H H' → PA K H' v' (h.take (h.length - m), rot c (-(m : Int))) → Q v' H'
theorem ok_tb {f : Addr} {fd : FuncData} (F : Fun K "turned_back" "turned_back" sTb f fd) (ml : mg "len" = none) : FnOk P w K mg base CX0 1 f fd ["head", "cycle", "many"] (spTb K) := by
  refine F.ok scTb (fun vs H Q E h => ?_) (fun cdv A outer s H vs Q E hr h => ?_)
  · obtain ⟨v1, v2, h, c, m, rfl, _⟩ := h
    rfl
  obtain ⟨v1, v2, h, c, m, rfl, ⟨p, rfl, hp⟩, ⟨r, rfl, hr1⟩, hc, hl1, hl2, hm, q⟩ := h
  have nd := scTb.nd
  refine ⟨_, pss_cons (ps_set (i := 3) nd rfl (.inl rfl) (pe_op op_sub (pe_callB call_len_seq (by rfl) ml PySem.boot_len (pa_cons (pv 1) pa_nil)) (pe_op op_mod (pv 2) (pe_callB call_len_seq (by rfl) ml PySem.boot_len (pa_cons (pv 1) pa_nil)))))
    (pss_one (ps_ret (pe_tup (pa_cons (pe_slice Tn.sl (pv 0) po_none (po_some (pe_op op_sub (pe_callB call_len_seq (by rfl) ml PySem.boot_len (pa_cons (pv 0) pa_nil)) (pv 2))))
      (pa_cons (pe_op Tn.cat (pe_slice Tn.sl (pv 1) (po_some (pv 3)) po_none) (pe_slice Tn.sl (pv 1) po_none (po_some (pv 3)))) pa_nil))))), ?_⟩
  have hpos := len_pos hc
  have hmm := Nat.mod_lt m hpos
  refine ⟨_, rfl, r, _, rfl, .inr hr1.1, ?_⟩
  rw [List.length_map]
  refine ⟨_, rfl, _, rfl, r, _, rfl, .inr hr1.1, ?_⟩
  rw [List.length_map]
  refine ⟨_, _, rfl, rfl, by show (0 : Int) < (c.length : Int); omega, _, _, rfl, rfl, ?_⟩
  have e1 : (fun i j : Int => V.int (i - j)) (c.length : Int) ((m : Int) % (c.length : Int)) = V.int ((c.length - m % c.length : Nat) : Int) := by
    show V.int ((c.length : Int) - (m : Int) % (c.length : Int)) = _
    rw [← Int.natCast_emod]
    congr 1
    omega
  rw [e1]
  have ht : c.length - m % c.length ≤ c.length := by omega
  have hrt := rot_split (c := c) ht
  rw [rot_turn hc] at hrt
  generalize c.length - m % c.length = t at ht hrt
  refine ⟨_, rfl, _, rfl, p, _, rfl, .inr hp.1, ?_⟩
  rw [List.length_map]
  refine ⟨_, rfl, _, _, rfl, rfl, _, rfl, p, _, rfl, hp, fun p1 H1 s1 t1 => ?_⟩
  rw [show ((h.length : Nat) : Int) - ((m : Nat) : Int) = ((h.length - m : Nat) : Int) by omega, cut_to (by omega)] at t1
  refine ⟨_, rfl, _, rfl, _, rfl, r, _, rfl, Tn.same s1 hr1, fun p2 H2 s2 t2 => ?_⟩
  rw [cut_from ht] at t2
  refine ⟨_, rfl, _, rfl, _, rfl, r, _, rfl, Tn.same (s1.trans s2) hr1, fun p3 H3 s3 t3 => ?_⟩
  rw [cut_to ht] at t3
  refine ⟨p2, p3, _, _, rfl, rfl, Tn.same s3 t2, t3, le_line (by rw [List.length_map, List.length_map, List.length_drop, List.length_take]; omega), fun p4 H4 s4 t4 => ?_⟩
  rw [← List.map_append, hrt] at t4
  refine ⟨by show 2 ≤ sizeLine; decide, fun u hu => ?_⟩
  have s5 : Same H4 (upd H4 u (.tup [.ref p1, .ref p4])) := same_new hu _
  exact q (.ref u) _ ((((s1.trans s2).trans s3).trans s4).trans s5) ⟨u, .ref p1, .ref p4, rfl, SqT.of upd_same, ⟨p1, rfl, Tn.same (((s2.trans s3).trans s4).trans s5) t1⟩, ⟨p4, rfl, Tn.same s5 t4⟩⟩
/-! ### settled -/
abbrev sSe : Stmt := top 7
abbrev nSe : List Str := ["head", "cycle", "many"]
theorem scSe : FnScope nSe ["head", "cycle"] (defScope sSe) := ⟨rfl, rfl, rfl, by decide +kernel, rfl, by decide +kernel, by decide +kernel⟩
def spSe (K : PySem.W.Frag) : Sp := fun vs H Q _ => ∃ (a b : Addr) (h c : BL), vs = [.ref a, .ref b] ∧ (SqL K H a (h.map V.bl) ∨ Tn.NT K H a (h.map V.bl)) ∧ (SqL K H b (c.map V.bl) ∨ Tn.NT K H b (c.map V.bl)) ∧ c ≠ [] ∧ c.length < 1000 ∧ sc c ≠ [] ∧ h.length < 100000 ∧
  ∀ v' H', Same H H' → PA K H' v' (stl h c) → Q v' H'
theorem seq_same {H H' : Hp} {a : Addr} {xs : List V} (s : Same H H') (h : SqL K H a xs ∨ Tn.NT K H a xs) : SqL K H' a xs ∨ Tn.NT K H' a xs := h.elim (fun h => .inl (s.seq h)) fun h => .inr (Tn.same s h)
theorem ok_se {f fS fT : Addr} {fd fdS fdT : FuncData} (F : Fun K "settled" "settled" sSe f fd)
    (GS : FnOk P w K mg base CX0 2 fS fdS ["cycle"] (spSc K)) (bS : Binds K fdS ["cycle"] []) (kS : PySem.W.keepIn K (.ref fS) = true) (mS : mg "shortest_cycle" = some (.ref fS))
    (GT : FnOk P w K mg base CX0 1 fT fdT ["head", "cycle", "many"] (spTb K)) (bT : Binds K fdT ["head", "cycle", "many"] []) (kT : PySem.W.keepIn K (.ref fT) = true) (mT : mg "turned_back" = some (.ref fT))
    (ml : mg "len" = none) (mt : mg "tuple" = none) : FnOk P w K mg base CX0 3 f fd ["head", "cycle"] (spSe K) := by
  refine F.ok scSe (fun vs H Q E h => ?_) (fun cdv A outer s H vs Q E hr h => ?_)
  · obtain ⟨a, b, h, c, rfl, _⟩ := h
    rfl
  obtain ⟨a, b, h, c, rfl, ha, hb, hc, h1k, hsc, hl, q⟩ := h
  have nd := scSe.nd
  refine ⟨_, pss_cons (ps_set (i := 0) nd rfl (.inl rfl) (pe_callTy Tn.tup (by rfl) mt (by decide +kernel) (pa_cons (pv 0) pa_nil)))
    (pss_cons (ps_set (i := 1) nd rfl (.inl rfl) (pe_call GS hr rfl mS kS bS .nil pass0 (pa_cons (pe_callTy Tn.tup (by rfl) mt (by decide +kernel) (pa_cons (pv 1) pa_nil)) pa_nil)))
    (pss_cons (ps_set (i := 2) nd rfl (.inl rfl) pe_int)
    (pss_cons (ps_while PassesOwn.never (PW.pt (pw_and (pt_cmpR op_lt (pv 2) (pe_callB call_len_seq (by rfl) ml PySem.boot_len (pa_cons (pv 0) pa_nil)) (nomark _))
        (pw_and1 (pt_cmpR op_eq (pe_ix ix_tup (pv 0) (pe_op op_sub (pe_un un_neg pe_int) (pv 2)) (fun _ _ => rfl))
          (pe_ix ix_tup (pv 1) (pe_op op_sub (pe_un un_neg pe_int) (pe_op op_mod (pv 2) (pe_callB call_len_seq (by rfl) ml PySem.boot_len (pa_cons (pv 1) pa_nil)))) (fun _ _ => rfl)) (nomark _)))))
      (pss_one (ps_aug (i := 2) nd rfl (.inl rfl) pe_int ip_add)))
    (pss_one (ps_ret (pe_call GT (hr.mono (by decide)) rfl mT kT bT .nil pass0 (pa_cons (pv 0) (pa_cons (pv 1) (pa_cons (pv 2) pa_nil))))))))), ?_⟩
  refine ⟨_, rfl, a, _, rfl, ha, fun p H1 s1 hp => ?_⟩
  refine ⟨_, rfl, b, _, rfl, seq_same s1 hb, fun p2 H2 s2 hp2 => ?_⟩
  refine ⟨.ref p2, c, rfl, ⟨p2, rfl, hp2⟩, hc, h1k, fun v3 H3 s3 ⟨r, er, hr3⟩ => ?_⟩
  subst er
  have s13 := s2.trans s3
  have hp3 := Tn.same s13 hp
  have hpos := len_pos hsc
  have hml := mn_le h (sc c)
  refine ⟨fun m σ H' => ∃ j, j ≤ h.length ∧ m = h.length - j ∧ σ = [some (.ref p), some (.ref r), some (nV j)] ∧ H' = H3 ∧ mn h (sc c) = j + mny (sc c) (h.reverse.drop j) j, ⟨h.length, 0, by omega, rfl, rfl, rfl, by unfold mn; simp⟩, ?_⟩
  rintro m σ H' ⟨j, hj, rfl, rfl, rfl, hmn⟩
  refine ⟨_, rfl, _, rfl, p, _, rfl, .inr hp3.1, ?_⟩
  rw [List.length_map]
  refine ⟨_, _, rfl, rfl, _, rfl, ?_⟩
  have fin : mn h (sc c) = j → tRet (tCall (spTb K) [] E0 (tCons (tVar 0) (tCons (tVar 1) (tCons (tVar 2) tNil)))) { nx := fun _ H' => Q V.non H', rt := Q } [some (.ref p), some (.ref r), some (nV j)] H' := fun e => by
    refine ⟨_, rfl, _, rfl, _, rfl, .ref p, .ref r, h, sc c, j, rfl, ⟨p, rfl, hp3⟩, ⟨r, rfl, hr3⟩, hsc, ?_, hl, hj, fun v4 H4 s4 h4 => ?_⟩
    · have : (sc c).length ≤ c.length := by
        unfold sc
        rw [List.length_take]
        omega
      omega
    · rw [← e] at h4
      exact q v4 H4 ((s1.trans s13).trans s4) h4
  by_cases hlt : j < h.length
  · rw [show decide ((j : Int) < (h.length : Int)) = true from decide_eq_true (by omega)]
    have ed : h.reverse.drop j = h.getD (h.length - 1 - j) false :: h.reverse.drop (j + 1) := by
      rw [List.drop_eq_getElem_cons (by rw [List.length_reverse]; exact hlt)]
      congr 1
      rw [← getD_rev hlt, List.getD_eq_getElem?_getD, List.getElem?_eq_getElem (by rw [List.length_reverse]; exact hlt)]
      rfl
    rw [ed] at hmn
    have hmn' : mn h (sc c) = j + (if h.getD (h.length - 1 - j) false = cv (sc c) (-1 - (j : Int)) then mny (sc c) (h.reverse.drop (j + 1)) (j + 1) + 1 else 0) := hmn
    refine ⟨_, rfl, 1, rfl, _, rfl, _, _, rfl, rfl, p, _, _, _, rfl, rfl, hp3.1, at_back hlt, ?_⟩
    refine ⟨_, rfl, 1, rfl, _, rfl, _, rfl, r, _, rfl, .inr hr3.1, ?_⟩
    rw [List.length_map]
    refine ⟨_, _, rfl, rfl, by show (0 : Int) < ((sc c).length : Int); omega, _, _, rfl, rfl, ?_⟩
    have hmm := Nat.mod_lt j hpos
    refine ⟨r, _, -1 - ((j % (sc c).length : Nat) : Int), _, rfl, ?_, hr3.1, at_back hmm, rfl, _, rfl, ?_⟩
    · rw [Int.natCast_emod]
    rw [← cv_back hsc j, dec_bl]
    by_cases e : h.getD (h.length - 1 - j) false = cv (sc c) (-1 - (j : Int))
    · rw [if_pos e] at hmn'
      rw [show (h.getD (h.length - 1 - j) false == cv (sc c) (-1 - (j : Int))) = true by rw [e]; simp]
      refine ⟨fun σ H2 => σ = [some (.ref p), some (.ref r), some (nV (j + 1))] ∧ H2 = H', fun σ' H2 ⟨e1, e2⟩ => ⟨h.length - (j + 1), by omega, j + 1, by omega, rfl, e1, e2, by omega⟩, ?_⟩
      refine ⟨_, rfl, _, _, rfl, rfl, ?_, rfl⟩
      show _ = [_, _, some (V.int ((j + 1 : Nat) : Int))]
      rw [show ((j + 1 : Nat) : Int) = (j : Int) + 1 by omega]
      rfl
    · rw [if_neg e] at hmn'
      rw [show (h.getD (h.length - 1 - j) false == cv (sc c) (-1 - (j : Int))) = false by simpa using e]
      exact fin hmn'
  · rw [show decide ((j : Int) < (h.length : Int)) = false from decide_eq_false (by omega)]
    refine fin ?_
    have : j = h.length := by omega
    rw [this, List.drop_of_length_le (by simp)] at hmn
    rw [this]
    exact hmn
end
end Mw

namespace Mw
open PySem L2
theorem SqT.go {K : PySem.W.Frag} {B p : Addr} {H H' : Hp} {bs xs : List V} (hB : H B = some (.lst bs)) (g : Go B H H') (h : SqT K H p xs) : SqT K H' p xs := by
  rcases h with (h | ⟨o, h⟩) | h
  · exact Or.inl (Or.inl (g.ext _ _ (by rintro rfl; rw [hB] at h; cases h) h))
  · exact Or.inl (Or.inr ⟨o, g.ext _ _ (by rintro rfl; rw [hB] at h; cases h) h⟩)
  · exact Or.inr h
theorem TA.go {K : PySem.W.Frag} {B d : Addr} {H H' : Hp} {v : V} {bs : BL} (b : Box H B d) (g : Go B H H') (h : TA K H v bs) : TA K H' v bs := by
  obtain ⟨p, e, h1⟩ := h
  obtain ⟨ds, i, hB, _⟩ := b
  exact ⟨p, e, ⟨SqT.go hB g h1.1, h1.2.elim (fun ⟨ob, e1, e2⟩ => .inl ⟨ob, g.ext _ _ (by rintro rfl; rw [hB] at e1; cases e1) e1, e2⟩) .inr⟩⟩
theorem PA.go {K : PySem.W.Frag} {B d : Addr} {H H' : Hp} {v : V} {x : BL × BL} (b : Box H B d) (g : Go B H H') (h : PA K H v x) : PA K H' v x := by
  obtain ⟨p, a1, a2, e, h1, h2, h3⟩ := h
  obtain ⟨ds, i, hB, _⟩ := id b
  exact ⟨p, a1, a2, e, SqT.go hB g h1, h2.go b g, h3.go b g⟩
section
variable {P : Program} {w : World} {K : PySem.W.Frag} {mg : Str → Option Value} {base : Heap}
/-! ### contains, _law_in -/
abbrev sCn : Stmt := top 9
abbrev nCn : List Str := ["one", "number", "head", "cycle"]
theorem scCn : FnScope nCn ["one", "number"] (defScope sCn) := ⟨rfl, rfl, rfl, by decide +kernel, rfl, by decide +kernel, by decide +kernel⟩
def spCn (K : PySem.W.Frag) : Sp := fun vs H Q _ => ∃ (v : V) (h c : BL) (n : Nat), vs = [v, nV n] ∧ PA K H v (h, c) ∧ c ≠ [] ∧ h.length < 100000 ∧ c.length < 100000 ∧ Q (.bl (sq h c n)) H
theorem at_cv {c : BL} (hc : c ≠ []) (i : Int) : atI (c.map V.bl) (i % (c.length : Int)) = some (.bl (cv c i)) := by
  have hp := len_pos hc
  have h0 : 0 ≤ i % (c.length : Int) := Int.emod_nonneg _ (by omega)
  have h1 : i % (c.length : Int) < c.length := Int.emod_lt_of_pos _ (by omega)
  have := at_bl (bs := c) (k := (i % (c.length : Int)).toNat) (by omega)
  rw [Int.toNat_of_nonneg h0] at this
  exact this
theorem ok_cn {f : Addr} {fd : FuncData} (F : Fun K "contains" "contains" sCn f fd) (ml : mg "len" = none) : FnOk P w K mg base CX0 1 f fd ["one", "number"] (spCn K) := by
  refine F.ok scCn (fun vs H Q E h => ?_) (fun cdv A outer s H vs Q E hr h => ?_)
  · obtain ⟨v, h, c, n, rfl, _⟩ := h
    rfl
  obtain ⟨v, h, c, n, rfl, ⟨u, a1, a2, rfl, hu, ⟨p, ep, hp⟩, ⟨r, er, hr1⟩⟩, hc, hl1, hl2, q⟩ := h
  subst ep er
  have nd := scCn.nd
  refine ⟨_, pss_cons (ps_asg (pv 0) (pg_tup rfl (pgs_cons (pg_name (i := 2) nd rfl (.inl rfl)) (pgs_cons (pg_name (i := 3) nd rfl (.inl rfl)) pgs_nil))))
    (pss_cons (ps_if (pt_cmpR op_lt (pv 1) pe_int (nomark _)) (pss_one (ps_ret pe_bl)) pss_nil)
    (pss_cons (ps_if (pt_cmpR op_lt (pv 1) (pe_callB call_len_seq (by rfl) ml PySem.boot_len (pa_cons (pv 2) pa_nil)) (nomark _)) (pss_one (ps_ret (pe_ix ix_tup (pv 2) (pv 1) (fun _ _ => rfl)))) pss_nil)
    (pss_one (ps_ret (pe_ix ix_tup (pv 3) (pe_op op_mod (pe_op op_sub (pv 1) (pe_callB call_len_seq (by rfl) ml PySem.boot_len (pa_cons (pv 2) pa_nil))) (pe_callB call_len_seq (by rfl) ml PySem.boot_len (pa_cons (pv 3) pa_nil))) (fun _ _ => rfl)))))), ?_⟩
  refine ⟨_, rfl, u, _, rfl, hu, rfl, .ref p, _, rfl, .ref r, [], rfl, rfl, ?_⟩
  refine ⟨_, rfl, _, _, rfl, rfl, _, rfl, ?_⟩
  rw [show decide ((n : Int) < 0) = false from decide_eq_false (by omega)]
  refine ⟨_, rfl, _, rfl, p, _, rfl, .inr hp.1, ?_⟩
  rw [List.length_map]
  refine ⟨_, _, rfl, rfl, _, rfl, ?_⟩
  have hpos := len_pos hc
  by_cases hn : n < h.length
  · rw [show decide ((n : Int) < (h.length : Int)) = true from decide_eq_true (by omega)]
    rw [sq_lo hn] at q
    exact ⟨_, rfl, _, rfl, p, _, _, _, rfl, rfl, hp.1, at_bl hn, q⟩
  · rw [show decide ((n : Int) < (h.length : Int)) = false from decide_eq_false (by omega)]
    rw [sq_hi (by omega)] at q
    refine ⟨_, rfl, _, rfl, _, rfl, p, _, rfl, .inr hp.1, ?_⟩
    rw [List.length_map]
    refine ⟨_, _, rfl, rfl, _, rfl, r, _, rfl, .inr hr1.1, ?_⟩
    rw [List.length_map]
    exact ⟨_, _, rfl, rfl, by show (0 : Int) < (c.length : Int); omega, r, _, _, _, rfl, rfl, hr1.1, at_cv hc _, q⟩
end
end Mw

namespace Mw
open PySem L2
def rLn (K : PySem.W.Frag) : List V → Hp → VK → Prop := fun xs H Q => ∃ p ys, xs = [.ref p] ∧ (SqL K H p ys ∨ SqT K H p ys) ∧ Q (.int ys.length) H
def tAdd (ta tb : TE) : TE := tOp (rI0 fun i j => V.int (i + j)) ta tb
theorem take_row {h c : BL} {s : Nat} (hs : s ≤ h.length) : ((List.range s).map fun (k : Nat) => sq h c k) = h.take s := by
  refine List.ext_getElem (by simp; omega) fun k k1 k2 => ?_
  have k3 : k < s := by simpa using k1
  simp only [List.getElem_map, List.getElem_range, List.getElem_take]
  rw [sq_lo (by omega), List.getD_eq_getElem?_getD, List.getElem?_eq_getElem (by omega)]
  rfl
theorem row_cv {h c : BL} (n : Nat) : ((List.range n).map fun (k : Nat) => sq h c (h.length + k)) = (List.range n).map fun (k : Nat) => cv c (k : Int) :=
  List.map_congr_left fun k _ => by
    rw [sq_hi (by omega)]
    congr 1
    omega
theorem range_snoc (n : Nat) (g : Nat → V) : (List.range (n + 1)).map g = (List.range n).map g ++ [g n] := by
  rw [List.range_succ, List.map_append]
  rfl
section
variable {P : Program} {w : World} {K : PySem.W.Frag} {mg : Str → Option Value} {base : Heap}
/-! ### _law_row -/
abbrev sRow : Stmt := top 24
abbrev nRow : List Str := ["box", "most", "k"]
theorem scRow : FnScope nRow ["box", "most"] (defScope sRow) := ⟨rfl, rfl, rfl, by decide +kernel, rfl, by decide +kernel, by decide +kernel⟩
def spRow (K : PySem.W.Frag) : Sp := fun vs H Q _ => ∃ (B d : Addr) (n : Int), vs = [.ref B, .int n] ∧ 0 < n ∧ n < 1000 ∧ Box H B d ∧ ∀ v bs H', Go B H H' → Box H' B d → (bs.length : Int) < n → TA K H' v bs → Q v H'
theorem ok_row {f fD : Addr} {fd fdD : FuncData} (F : Fun K "_law_row" "_law_row" sRow f fd)
    (GD : FnOk P w K mg base CX0 1 fD fdD ["box", "many"] spDraw) (bD : Binds K fdD ["box", "many"] []) (kD : PySem.W.keepIn K (.ref fD) = true) (mD : mg "_law_draw" = some (.ref fD)) (mr : mg "range" = none) (mt : mg "tuple" = none) :
    FnOk P w K mg base CX0 2 f fd ["box", "most"] (spRow K) := by
  refine F.ok scRow (fun vs H Q E h => ?_) (fun cdv A outer s H vs Q E hr h => ?_)
  · obtain ⟨B, d, n, rfl, _⟩ := h
    rfl
  obtain ⟨B, d, n, rfl, h0, h1, hb, q⟩ := h
  have nd := scRow.nd
  refine ⟨_, pss_one (ps_ret (pe_callTy Tn.tup (by rfl) mt (by decide +kernel) (pa_cons
      (pe_lc (own := [("k", 2)]) (g := gName 2) (tt := tYes) (te := tOp rEq (tCall spDraw [] E0 (tCons (tVar 0) (tCons (tC (.int 2)) tNil))) (tC (.int 0))) rfl nd (pi_range1 rfl mr (pa_cons (pe_call GD hr rfl mD kD bD .nil pass0 (pa_cons (pv 0) (pa_cons (pv 1) pa_nil))) pa_nil)) (blkOk_by (N := nRow) (sc := defScope sRow) (by decide +kernel))
        (fun _ _ _ _ _ => pg_name (i := 2) nd rfl (.inl rfl)) (fun _ _ _ _ _ => pts_nil)
        (fun _ _ _ _ _ => pe_cmpR op_eq (pe_call GD hr rfl mD kD bD .nil pass0 (pa_cons (pv 0) (pa_cons pe_int pa_nil))) pe_int (nomark _))) pa_nil))), ?_⟩
  refine ⟨_, rfl, _, rfl, B, d, n, rfl, h0, hb, fun z H1 z0 z1 g1 b1 => ⟨z, rfl, by omega, by omega, fun D hD => ?_⟩⟩
  have DB := b1.neB hD
  have Dd := b1.neD hD
  refine lc_range (lo := 0) (n := z.toNat) (fun j H' => ∃ bs : BL, Go B H1 H' ∧ Box H' B d ∧ H' D = some (.lst (bs.map V.bl)) ∧ bs.length = j) ⟨[], Go.new hD _, b1.new hD _, upd_same, rfl⟩ ?_ ?_
  · rintro j H2 hj ⟨bs, g2, b2, hD2, hl⟩
    refine ⟨rfl, _, rfl, B, d, 2, rfl, by decide, b2, fun y H3 y0 y1 g3 b3 => ⟨rfl, ?_⟩⟩
    refine ⟨_, g3.ext _ _ DB hD2, sz_line (by rw [List.length_map]; omega), bs ++ [decide (V.int y = V.int 0)], (g2.trans g3).mut hD _, b3.mut DB Dd _, ?_, by rw [List.length_append, hl]; rfl⟩
    rw [upd_same, List.map_append]
    rfl
  · rintro H2 ⟨bs, g2, b2, hD2, hl⟩
    refine ⟨D, _, rfl, .inl (SqL.of hD2), fun p H3 s3 hp => ?_⟩
    exact q (.ref p) bs H3 ((g1.trans g2).trans (Go.same s3)) (b2.same s3) (by omega) ⟨p, rfl, hp⟩
/-! ### _law_far -/
abbrev sFar : Stmt := top 26
theorem scFar : FnScope ["box"] ["box"] (defScope sFar) := ⟨rfl, rfl, rfl, by decide +kernel, rfl, by decide +kernel, by decide +kernel⟩
def spFar : Sp := fun vs H Q _ => ∃ (B d : Addr), vs = [.ref B] ∧ Box H B d ∧ ∀ (z : Nat) H', Go B H H' → Box H' B d → Q (nV z) H'
theorem ok_far {f fD : Addr} {fd fdD : FuncData} (F : Fun K "_law_far" "_law_far" sFar f fd)
    (GD : FnOk P w K mg base CX0 1 fD fdD ["box", "many"] spDraw) (bD : Binds K fdD ["box", "many"] []) (kD : PySem.W.keepIn K (.ref fD) = true) (mD : mg "_law_draw" = some (.ref fD)) :
    FnOk P w K mg base CX0 2 f fd ["box"] spFar := by
  refine F.ok scFar (fun vs H Q E h => ?_) (fun cdv A outer s H vs Q E hr h => ?_)
  · obtain ⟨B, d, rfl, _⟩ := h
    rfl
  obtain ⟨B, d, rfl, hb, q⟩ := h
  refine ⟨_, pss_one (ps_ret (pe_ix ix_list (pe_lst (pa_cons (pe_call GD hr rfl mD kD bD .nil pass0 (pa_cons (pv 0) (pa_cons pe_int pa_nil)))
    (pa_cons (pe_call GD hr rfl mD kD bD .nil pass0 (pa_cons (pv 0) (pa_cons pe_int pa_nil)))
    (pa_cons (pe_op op_add (pe_op op_mul (pe_call GD hr rfl mD kD bD .nil pass0 (pa_cons (pv 0) (pa_cons pe_int pa_nil))) pe_int) (pe_call GD hr rfl mD kD bD .nil pass0 (pa_cons (pv 0) (pa_cons pe_int pa_nil)))) pa_nil))))
    (pe_call GD hr rfl mD kD bD .nil pass0 (pa_cons (pv 0) (pa_cons pe_int pa_nil))) (fun _ _ => rfl))), ?_⟩
  refine ⟨_, rfl, B, d, 40, rfl, by decide, hb, fun a H1 a0 a1 g1 b1 => ?_⟩
  refine ⟨_, rfl, B, d, 1000, rfl, by decide, b1, fun b H2 b0 b1' g2 b2 => ?_⟩
  refine ⟨_, rfl, B, d, 1000, rfl, by decide, b2, fun c H3 c0 c1 g3 b3 => ?_⟩
  refine ⟨_, _, rfl, rfl, .inr (by decide), ?_⟩
  refine ⟨_, rfl, B, d, 1000, rfl, by decide, b3, fun e H4 e0 e1 g4 b4 => ?_⟩
  refine ⟨_, _, rfl, rfl, ?_⟩
  refine ⟨by show 3 ≤ sizeLine; decide, fun l hl => ?_⟩
  have nB := b4.neB hl
  refine ⟨_, rfl, B, d, 3, rfl, by decide, b4.new hl _, fun z H5 z0 z1 g5 b5 => ?_⟩
  obtain ⟨x, hx, hat⟩ := pick (l := ([a, b, c * 1000000007 + e] : List Int)) (g := V.int) (z := z) z0 (by show z < ((3 : Nat) : Int); omega)
  refine ⟨l, _, z, .int x, rfl, rfl, SqL.of (g5.ext _ _ nB upd_same), hat, ?_⟩
  have h3 : 0 ≤ c * 1000000007 + e := by omega
  have hx0 : 0 ≤ x := by
    simp only [List.mem_cons, List.not_mem_nil, or_false] at hx
    rcases hx with rfl | rfl | rfl
    · exact a0
    · exact b0
    · exact h3
  have := q x.toNat H5 (((((g1.trans g2).trans g3).trans g4).trans (Go.new hl _)).trans g5) b5
  unfold nV at this
  rw [Int.toNat_of_nonneg hx0] at this
  exact this
end
end Mw

namespace Mw
open PySem L2
theorem fr_get {c : BL} (hc : c ≠ []) : ∀ (k j : Nat), j < k * c.length → (List.replicate k c).flatten.getD j false = c.getD (j % c.length) false
  | 0, j, h => by omega
  | k + 1, j, h => by
    have hp := len_pos hc
    rw [List.replicate_succ, List.flatten_cons]
    by_cases z : j < c.length
    · rw [List.getD_eq_getElem?_getD, List.getElem?_append_left z, Nat.mod_eq_of_lt z, List.getD_eq_getElem?_getD]
    · have h2 : j - c.length < k * c.length := by
        rw [Nat.add_mul] at h
        omega
      rw [List.getD_eq_getElem?_getD, List.getElem?_append_right (by omega), ← List.getD_eq_getElem?_getD, fr_get hc k _ h2]
      congr 1
      rw [← Nat.mod_eq_sub_mod (by omega)]
theorem fr_len (c : BL) : ∀ k : Nat, (List.replicate k c).flatten.length = k * c.length
  | 0 => by simp
  | k + 1 => by rw [List.replicate_succ, List.flatten_cons, List.length_append, fr_len c k, Nat.add_mul]; omega
theorem str_of {h c : BL} (hc : c ≠ []) {m : Nat} : h ++ ((List.replicate (m / c.length + 1) c).flatten.take m) = str h c (h.length + m) := by
  have hp := len_pos hc
  have hm : m < (m / c.length + 1) * c.length := by
    have := Nat.div_add_mod m c.length
    have := Nat.mod_lt m hp
    rw [Nat.add_mul, Nat.one_mul, Nat.mul_comm]
    omega
  have hl : ((List.replicate (m / c.length + 1) c).flatten.take m).length = m := by
    rw [List.length_take, fr_len]
    omega
  refine List.ext_getElem (by rw [List.length_append, hl, str_len]) fun k k1 k2 => ?_
  rw [str_len] at k2
  simp only [str, List.getElem_map, List.getElem_range]
  by_cases z : k < h.length
  · rw [List.getElem_append_left z, sq_lo z, List.getD_eq_getElem?_getD, List.getElem?_eq_getElem z]
    rfl
  · have e : (h ++ (List.replicate (m / c.length + 1) c).flatten.take m).getD k false = cv c ((k : Int) - (h.length : Int)) := by
      rw [List.getD_eq_getElem?_getD, List.getElem?_append_right (by omega), List.getElem?_take_of_lt (by omega), ← List.getD_eq_getElem?_getD, fr_get hc _ _ (by omega)]
      unfold cv
      rw [show (k : Int) - (h.length : Int) = ((k - h.length : Nat) : Int) by omega, ← Int.natCast_emod, Int.toNat_natCast]
    rw [sq_hi (by omega), ← e, List.getD_eq_getElem?_getD, List.getElem?_eq_getElem k1]
    rfl
theorem lc_zipT {K : PySem.W.Frag} {a b : Addr} {xs ys : List V} {g : TG} {tt : TT} {te : TE} {vs : List Nat} {σ : L2.St} {H1 : Hp} {D : Addr} {Qd : Hp → Prop} (Pv : Nat → Hp → Prop) (hn : xs.length = ys.length) (h0 : Pv 0 (upd H1 D (.lst []))) (hl : ∀ i H, Pv i H → SqT K H a xs ∧ SqT K H b ys)
    (hs : ∀ i x y T H, xs[i]? = some x → ys[i]? = some y → H T = none → Pv i H → g (.ref T) (wipe σ vs) (upd H T (.tup [x, y])) fun σ2 H2 => wipe σ2 vs = wipe σ vs ∧ tt σ2 H2 fun b H3 =>
      if b = true then te σ2 H3 fun y H4 => ∃ acc, H4 D = some (.lst acc) ∧ acc.length < sizeLine ∧ Pv (i + 1) (upd H4 D (.lst (acc ++ [y]))) else Pv (i + 1) H3) (hd : ∀ H, Pv xs.length H → Qd H) :
    ∃ W : Nat → Nat → Hp → Prop, (∃ m, W 0 m (upd H1 D (.lst []))) ∧ ∀ i m H, W i m H →
      ((RZ.ItzT K a b).stop i H ∧ Qd H) ∨ ((RZ.ItzT K a b).go i H ∧ ∃ Nx : Hp → Prop, (∀ H', Nx H' → ∃ m', m' < m ∧ W (i + 1) m' H') ∧ ∀ x H', (RZ.ItzT K a b).yld i H x H' → g x (wipe σ vs) H' fun σ2 H2 => wipe σ2 vs = wipe σ vs ∧ tt σ2 H2 fun b H3 =>
        if b = true then te σ2 H3 fun y H4 => ∃ acc, H4 D = some (.lst acc) ∧ acc.length < sizeLine ∧ Nx (upd H4 D (.lst (acc ++ [y]))) else Nx H3) := by
  refine ⟨fun i m H => m = xs.length - i ∧ i ≤ xs.length ∧ Pv i H, ⟨xs.length, by simp, Nat.zero_le _, h0⟩, ?_⟩
  rintro i m H ⟨rfl, hi, p⟩
  obtain ⟨q1, q2⟩ := hl i H p
  by_cases hlt : i < xs.length
  · have hlt2 : i < ys.length := by omega
    refine .inr ⟨⟨xs, ys, xs[i], ys[i], q1, q2, by simp [hlt], by simp [hlt2]⟩, Pv (i + 1), fun H' p' => ⟨xs.length - (i + 1), by omega, rfl, hlt, p'⟩, fun v H' yl => ?_⟩
    obtain ⟨T, x, y, rfl, hT, rfl, e1, e2⟩ := yl
    exact hs i x y T H (e1 xs q1) (e2 ys q2) hT p
  · have : i = xs.length := by omega
    subst this
    exact .inl ⟨⟨xs, ys, q1, q2, .inl (Nat.le_refl _)⟩, hd H p⟩
section
variable {P : Program} {w : World} {K : PySem.W.Frag} {mg : Str → Option Value} {base : Heap}
/-! ### stretched -/
abbrev sSt : Stmt := top 8
abbrev nSt : List Str := ["one", "head_size", "cycle_size", "head", "cycle", "missing"]
theorem scSt : FnScope nSt ["one", "head_size", "cycle_size"] (defScope sSt) := ⟨rfl, rfl, rfl, by decide +kernel, rfl, by decide +kernel, by decide +kernel⟩
def spSt (K : PySem.W.Frag) : Sp := fun vs H Q _ => ∃ (v : V) (h c : BL) (a b : Nat), vs = [v, nV a, nV b] ∧ PA K H v (h, c) ∧ c ≠ [] ∧ h.length ≤ a ∧ a + b ≤ 900 ∧ c.length ≤ 900 ∧ ∀ v' H', Same H H' → TA K H' v' (str h c (a + b)) → Q v' H'
theorem ok_st {f : Addr} {fd : FuncData} (F : Fun K "stretched" "stretched" sSt f fd) (ml : mg "len" = none) : FnOk P w K mg base CX0 1 f fd ["one", "head_size", "cycle_size"] (spSt K) := by
  refine F.ok scSt (fun vs H Q E h => ?_) (fun cdv A outer s H vs Q E hr h => ?_)
  · obtain ⟨v, h, c, a, b, rfl, _⟩ := h
    rfl
  obtain ⟨v, h, c, a, b, rfl, ⟨u, a1, a2, rfl, hu, ⟨p, ep, hp⟩, ⟨r, er, hr1⟩⟩, hc, hl, hab, hcl, q⟩ := h
  subst ep er
  have hp : Tn.NT K H p (h.map V.bl) := hp
  have hr1 : Tn.NT K H r (c.map V.bl) := hr1
  have nd := scSt.nd
  have hpos := len_pos hc
  refine ⟨_, pss_cons (ps_asg (pv 0) (pg_tup rfl (pgs_cons (pg_name (i := 3) nd rfl (.inl rfl)) (pgs_cons (pg_name (i := 4) nd rfl (.inl rfl)) pgs_nil))))
    (pss_cons (ps_set (i := 5) nd rfl (.inl rfl) (pe_op op_sub (pe_op op_add (pv 1) (pv 2)) (pe_callB call_len_seq (by rfl) ml PySem.boot_len (pa_cons (pv 3) pa_nil))))
    (pss_one (ps_ret (pe_op Tn.cat (pv 3) (pe_slice Tn.sl (pe_op Tn.rep (pv 4) (pe_op op_add (pe_op op_fdiv (pv 5) (pe_callB call_len_seq (by rfl) ml PySem.boot_len (pa_cons (pv 4) pa_nil))) pe_int)) po_none (po_some (pv 5))))))), ?_⟩
  refine ⟨_, rfl, u, _, rfl, hu, rfl, .ref p, _, rfl, .ref r, [], rfl, rfl, ?_⟩
  refine ⟨_, rfl, _, rfl, _, _, rfl, rfl, _, rfl, p, _, rfl, .inr hp.1, ?_⟩
  rw [List.length_map]
  refine ⟨_, _, rfl, rfl, ?_⟩
  have e1 : (a : Int) + (b : Int) - (h.length : Int) = ((a + b - h.length : Nat) : Int) := by omega
  rw [show (fun i j : Int => V.int (i - j)) ((a : Int) + (b : Int)) (h.length : Int) = V.int ((a + b - h.length : Nat) : Int) from congrArg V.int e1]
  generalize hm : a + b - h.length = m
  have hdl : m / c.length ≤ m := Nat.div_le_self _ _
  refine ⟨_, rfl, _, rfl, _, rfl, _, rfl, r, _, rfl, .inr hr1.1, ?_⟩
  rw [List.length_map]
  refine ⟨_, _, rfl, rfl, ⟨by omega, by omega⟩, _, _, rfl, rfl, ?_⟩
  have e2 : (m : Int) / (c.length : Int) + 1 = ((m / c.length + 1 : Nat) : Int) := by
    rw [Int.natCast_add, Int.natCast_ediv]
    rfl
  have hk9 : ((m / c.length + 1 : Nat) : Int) ≤ 1000 := by omega
  have hk1 : (1 : Int) ≤ ((m / c.length + 1 : Nat) : Int) := Int.ofNat_le.mpr (Nat.le_add_left 1 (m / c.length))
  rw [show (fun i j : Int => V.int (i + j)) ((m : Int) / (c.length : Int)) 1 = V.int ((m / c.length + 1 : Nat) : Int) from congrArg V.int e2]
  refine ⟨r, _, _, rfl, rfl, hr1, by simpa using hc, by omega, hk9, by rw [List.length_map]; omega, fun p2 H2 s2 t2 => ?_⟩
  rw [Int.toNat_natCast] at t2
  have t2' : Tn.NT K H2 p2 (((List.replicate (m / c.length + 1) c).flatten).map V.bl) := by
    rw [List.map_flatten, List.map_replicate]
    exact t2
  have hlen : m ≤ ((List.replicate (m / c.length + 1) c).flatten).length := by
    rw [fr_len, Nat.add_mul, Nat.one_mul, Nat.mul_comm]
    have := Nat.div_add_mod m c.length
    have := Nat.mod_lt m hpos
    omega
  refine ⟨_, rfl, _, rfl, p2, _, rfl, t2', fun p3 H3 s3 t3 => ?_⟩
  rw [cut_to hlen] at t3
  refine ⟨p, p3, _, _, rfl, rfl, Tn.same (s2.trans s3) hp, t3, le_line (by rw [List.length_map, List.length_map, List.length_take]; omega), fun p4 H4 s4 t4 => ?_⟩
  rw [← List.map_append, str_of hc, show h.length + m = a + b by omega] at t4
  exact q (.ref p4) H4 ((s2.trans s3).trans s4) ⟨p4, rfl, t4⟩
end
end Mw

namespace Mw
open PySem L2
theorem take_neg {bs : BL} {i : Nat} {b : Bool} (h : bs[i]? = some b) : neg (bs.take (i + 1)) = neg (bs.take i) ++ [!b] := by
  unfold neg
  rw [List.take_succ, h, List.map_append]
  rfl
theorem get_bl {bs : BL} {i : Nat} {x : V} (h : (bs.map V.bl)[i]? = some x) : ∃ b, bs[i]? = some b ∧ x = .bl b := by
  rw [List.getElem?_map] at h
  obtain ⟨b, h1, h2⟩ := Option.map_eq_some_iff.mp h
  exact ⟨b, h1, h2.symm⟩
section
variable {P : Program} {w : World} {K : PySem.W.Frag} {mg : Str → Option Value} {base : Heap}
/-! ### complement -/
abbrev sCp : Stmt := top 12
abbrev nCp : List Str := ["one", "head", "cycle", "inside"]
theorem scCp : FnScope nCp ["one"] (defScope sCp) := ⟨rfl, rfl, rfl, by decide +kernel, rfl, by decide +kernel, by decide +kernel⟩
def spCp (K : PySem.W.Frag) : Sp := fun vs H Q _ => ∃ (v : V) (x : BL × BL), vs = [v] ∧ PA K H v x ∧ x.1.length < 100000 ∧ x.2.length < 100000 ∧ ∀ v' H', Same H H' → PA K H' v' (neg x.1, neg x.2) → Q v' H'
theorem ok_cp {f : Addr} {fd : FuncData} (F : Fun K "complement" "complement" sCp f fd) (mt : mg "tuple" = none) : FnOk P w K mg base CX0 1 f fd ["one"] (spCp K) := by
  refine F.ok scCp (fun vs H Q E h => ?_) (fun cdv A outer s H vs Q E hr h => ?_)
  · obtain ⟨v, x, rfl, _⟩ := h
    rfl
  obtain ⟨v, ⟨h, c⟩, rfl, ⟨u, a1, a2, rfl, hu, ⟨p, ep, hp⟩, ⟨r, er, hr1⟩⟩, l1, l2, q⟩ := h
  subst ep er
  have hp : Tn.NT K H p (h.map V.bl) := hp
  have hr1 : Tn.NT K H r (c.map V.bl) := hr1
  have l1 : h.length < 100000 := l1
  have l2 : c.length < 100000 := l2
  have nd := scCp.nd
  refine ⟨_, pss_cons (ps_asg (pv 0) (pg_tup rfl (pgs_cons (pg_name (i := 1) nd rfl (.inl rfl)) (pgs_cons (pg_name (i := 2) nd rfl (.inl rfl)) pgs_nil))))
    (pss_one (ps_ret (pe_tup (pa_cons (pe_callTy Tn.tup (by rfl) mt (by decide +kernel) (pa_cons
        (pe_lc (own := [("inside", 3)]) (g := gName 3) (tt := tYes) (te := tNotV (tVar 3)) rfl nd (pi_tup (pv 1)) (blkOk_by (N := nCp) (sc := defScope sCp) (by decide +kernel))
          (fun _ _ _ _ _ => pg_name (i := 3) nd rfl (.inl rfl)) (fun _ _ _ _ _ => pts_nil) (fun _ _ _ _ _ => pe_not (pv 3))) pa_nil))
      (pa_cons (pe_callTy Tn.tup (by rfl) mt (by decide +kernel) (pa_cons
        (pe_lc (own := [("inside", 3)]) (g := gName 3) (tt := tYes) (te := tNotV (tVar 3)) rfl nd (pi_tup (pv 2)) (blkOk_by (N := nCp) (sc := defScope sCp) (by decide +kernel))
          (fun _ _ _ _ _ => pg_name (i := 3) nd rfl (.inl rfl)) (fun _ _ _ _ _ => pts_nil) (fun _ _ _ _ _ => pe_not (pv 3))) pa_nil)) pa_nil))))), ?_⟩
  refine ⟨_, rfl, u, _, rfl, hu, rfl, .ref p, _, rfl, .ref r, [], rfl, rfl, ?_⟩
  refine ⟨_, rfl, p, rfl, ⟨_, hp.1⟩, fun D hD => ?_⟩
  have s1 : Same H (upd H D (.lst [])) := same_new hD _
  refine lc_tup (xs := h.map V.bl) (fun i H' => Same H H' ∧ H' D = some (.lst ((neg (h.take i)).map V.bl))) ⟨s1, upd_same⟩ (fun i H' _ ⟨s', _⟩ => Ts.same s' hp.1) ?_ ?_
  · rintro i x H' hx ⟨s', hD'⟩
    obtain ⟨b, hb, rfl⟩ := get_bl hx
    have hi := (List.getElem?_eq_some_iff.mp hb).1
    refine ⟨rfl, _, rfl, b, rfl, _, hD', sz_line (by rw [List.length_map, neg_len, List.length_take]; omega), same_mut s' hD _, ?_⟩
    rw [upd_same, take_neg hb, List.map_append]
    rfl
  rintro H1 ⟨s1', hD1⟩
  rw [List.length_map, List.take_length] at hD1
  refine ⟨D, _, rfl, .inl (SqL.of hD1), fun p1 H2 s2 t2 => ?_⟩
  refine ⟨_, rfl, r, rfl, ⟨_, Ts.same (s1'.trans s2) hr1.1⟩, fun D2 hD2 => ?_⟩
  have s3 : Same H2 (upd H2 D2 (.lst [])) := same_new hD2 _
  refine lc_tup (xs := c.map V.bl) (fun i H' => Same H2 H' ∧ H' D2 = some (.lst ((neg (c.take i)).map V.bl))) ⟨s3, upd_same⟩ (fun i H' _ ⟨s', _⟩ => Ts.same ((s1'.trans s2).trans s') hr1.1) ?_ ?_
  · rintro i x H' hx ⟨s', hD'⟩
    obtain ⟨b, hb, rfl⟩ := get_bl hx
    have hi := (List.getElem?_eq_some_iff.mp hb).1
    refine ⟨rfl, _, rfl, b, rfl, _, hD', sz_line (by rw [List.length_map, neg_len, List.length_take]; omega), same_mut s' hD2 _, ?_⟩
    rw [upd_same, take_neg hb, List.map_append]
    rfl
  rintro H4 ⟨s4, hD4⟩
  rw [List.length_map, List.take_length] at hD4
  refine ⟨D2, _, rfl, .inl (SqL.of hD4), fun p3 H5 s5 t5 => ⟨by show 2 ≤ sizeLine; decide, fun z hz => ?_⟩⟩
  have s6 : Same H5 (upd H5 z (.tup [.ref p1, .ref p3])) := same_new hz _
  exact q (.ref z) _ (((((s1'.trans s2).trans s4).trans s5)).trans s6) ⟨z, .ref p1, .ref p3, rfl, SqT.of upd_same, ⟨p1, rfl, Tn.same ((s4.trans s5).trans s6) t2⟩, ⟨p3, rfl, Tn.same s6 t5⟩⟩
/-! ### is_empty -/
abbrev sEm : Stmt := top 10
theorem scEm : FnScope ["one"] ["one"] (defScope sEm) := ⟨rfl, rfl, rfl, by decide +kernel, rfl, by decide +kernel, by decide +kernel⟩
def spEm (K : PySem.W.Frag) : Sp := fun vs H Q _ => ∃ (v : V) (x : BL × BL), vs = [v] ∧ PA K H v x ∧ ∀ b : Bool, (b = true ↔ x = ([], [false])) → Q (.bl b) H
/-- what the row says of a set that stands in the module -/
def KP (K : PySem.W.Frag) (mg : Str → Option Value) (nm : Str) (x : BL × BL) : Prop := ∃ n : Addr, mg nm = some (.ref n) ∧ ∀ H, PA K H (.ref n) x
theorem ok_em {f : Addr} {fd : FuncData} (F : Fun K "is_empty" "is_empty" sEm f fd) (N : KP K mg "NONE" ([], [false])) : FnOk P w K mg base CX0 1 f fd ["one"] (spEm K) := by
  refine F.ok scEm (fun vs H Q E h => ?_) (fun cdv A outer s H vs Q E hr h => ?_)
  · obtain ⟨v, x, rfl, _⟩ := h
    rfl
  obtain ⟨v, ⟨h, c⟩, rfl, hv, q⟩ := h
  obtain ⟨n, mN, hN⟩ := N
  have nd := scEm.nd
  refine ⟨_, pss_one (ps_ret (pe_cmpR (op_eqD hr.units) (pv 0) (pe_glob rfl mN (v := .ref n) rfl) (nomark _))), ?_⟩
  refine ⟨_, rfl, _, _, hv.dp, (hN H).dp, shp2 _ _, shp2 _ _, ?_⟩
  refine q _ ?_
  show (PyData.eqv (bsD h) (bsD []) && (PyData.eqv (bsD c) (bsD [false]) && true)) = true ↔ _
  rw [eqv_bs, eqv_bs, Bool.and_true, Bool.and_eq_true, decide_eq_true_eq, decide_eq_true_eq]
  constructor
  · rintro ⟨rfl, rfl⟩
    rfl
  · intro e
    cases e
    exact ⟨rfl, rfl⟩
end
end Mw

namespace Mw
open PySem L2
/-- what stands in settled form, and which numbers are in it -/
def Gs (y : BL × BL) (f : Nat → Bool) : Prop := Stl y.1 y.2 ∧ ∀ n, sq y.1 y.2 n = f n
def hsz (x y : BL × BL) : Nat := max x.1.length y.1.length
theorem u65 {k : Nat} {A : Around} (r : Room k A) : A.units + 65 < cLine := by
  have := r.un
  omega
theorem andL_take {a b : BL} {i : Nat} {x y : Bool} (hx : a[i]? = some x) (hy : b[i]? = some y) : andL (a.take (i + 1)) (b.take (i + 1)) = andL (a.take i) (b.take i) ++ [x && y] := by
  have h1 := (List.getElem?_eq_some_iff.mp hx).1
  have h2 := (List.getElem?_eq_some_iff.mp hy).1
  unfold andL
  rw [List.take_succ, List.take_succ, hx, hy]
  show ((List.zip (a.take i ++ [x]) (b.take i ++ [y])).map fun x => x.1 && x.2) = _
  rw [List.zip_append (by rw [List.length_take, List.length_take]; omega), List.map_append]
  rfl
theorem andL_len {a b : BL} (h : a.length = b.length) : (andL a b).length = a.length := by
  unfold andL
  rw [List.length_map, List.length_zip]
  omega
theorem cutL_to {bs : BL} {k : Nat} (hk : k ≤ bs.length) : cutV (bs.map V.bl) none (some (k : Int)) = (bs.take k).map V.bl := cut_to hk
section
variable {P : Program} {w : World} {K : PySem.W.Frag} {mg : Str → Option Value} {base : Heap}
/-! ### common -/
abbrev sCm : Stmt := top 13
abbrev nCm : List Str := ["one", "other", "head_size", "cycle_size", "first", "second", "inside", "in_one", "in_other"]
theorem scCm : FnScope nCm ["one", "other"] (defScope sCm) := ⟨rfl, rfl, rfl, by decide +kernel, rfl, by decide +kernel, by decide +kernel⟩
def spCm (K : PySem.W.Frag) (g : Bool → Bool → Bool) : Sp := fun vs H Q _ => ∃ (v1 v2 : V) (x y : BL × BL), vs = [v1, v2] ∧ PA K H v1 x ∧ PA K H v2 y ∧ x.2 ≠ [] ∧ y.2 ≠ [] ∧ hsz x y + x.2.length * y.2.length ≤ 900 ∧ x.2.length ≤ 900 ∧ y.2.length ≤ 900 ∧
  ∀ v' H' z, Same H H' → PA K H' v' z → Gs z (fun n => g (sq x.1 x.2 n) (sq y.1 y.2 n)) → z.1.length ≤ hsz x y → z.2.length ≤ x.2.length * y.2.length → Q v' H'
theorem ok_cm {f fS fT : Addr} {fd fdS fdT : FuncData} (F : Fun K "common" "common" sCm f fd)
    (GS : FnOk P w K mg base CX0 3 fS fdS ["head", "cycle"] (spSe K)) (bS : Binds K fdS ["head", "cycle"] []) (kS : PySem.W.keepIn K (.ref fS) = true) (mS : mg "settled" = some (.ref fS))
    (GT : FnOk P w K mg base CX0 1 fT fdT ["one", "head_size", "cycle_size"] (spSt K)) (bT : Binds K fdT ["one", "head_size", "cycle_size"] []) (kT : PySem.W.keepIn K (.ref fT) = true) (mT : mg "stretched" = some (.ref fT))
    (ml : mg "len" = none) (mx : mg "max" = none) (mz : mg "zip" = none) (mc : mg "lcm" = some (.builtin "math.lcm")) :
    FnOk P w K mg base CX0 4 f fd ["one", "other"] (spCm K fun a b => a && b) := by
  refine F.ok scCm (fun vs H Q E h => ?_) (fun cdv A outer s H vs Q E hr h => ?_)
  · obtain ⟨v1, v2, x, y, rfl, _⟩ := h
    rfl
  obtain ⟨v1, v2, ⟨h1, c1⟩, ⟨h2, c2⟩, rfl, hv1, hv2, n1, n2, hb, lb1, lb2, q⟩ := h
  have n1 : c1 ≠ [] := n1
  have n2 : c2 ≠ [] := n2
  have hb : max h1.length h2.length + c1.length * c2.length ≤ 900 := hb
  obtain ⟨u1, a1, a2, rfl, hu1, ⟨p1, ep1, hp1⟩, ⟨r1, er1, hr1⟩⟩ := id hv1
  obtain ⟨u2, b1, b2, rfl, hu2, ⟨p2, ep2, hp2⟩, ⟨r2, er2, hr2⟩⟩ := id hv2
  subst ep1 er1 ep2 er2
  have hp1 : Tn.NT K H p1 (h1.map V.bl) := hp1
  have hr1 : Tn.NT K H r1 (c1.map V.bl) := hr1
  have hp2 : Tn.NT K H p2 (h2.map V.bl) := hp2
  have hr2 : Tn.NT K H r2 (c2.map V.bl) := hr2
  have q1 := len_pos n1
  have q2 := len_pos n2
  have nd := scCm.nd
  refine ⟨_, pss_cons (ps_set (i := 2) nd rfl (.inl rfl) (pe_callB (call_max2 rfl) (by rfl) mx (by decide +kernel) (pa_cons (pe_callB call_len_seq (by rfl) ml PySem.boot_len (pa_cons (pe_ix ix_tup (pv 0) pe_int (fun _ _ => rfl)) pa_nil)) (pa_cons (pe_callB call_len_seq (by rfl) ml PySem.boot_len (pa_cons (pe_ix ix_tup (pv 1) pe_int (fun _ _ => rfl)) pa_nil)) pa_nil))))
    (pss_cons (ps_set (i := 3) nd rfl (.inl rfl) (pe_callBfun Ts.cr_lcm (by rfl) mc (pa_cons (pe_callB call_len_seq (by rfl) ml PySem.boot_len (pa_cons (pe_ix ix_tup (pv 0) pe_int (fun _ _ => rfl)) pa_nil)) (pa_cons (pe_callB call_len_seq (by rfl) ml PySem.boot_len (pa_cons (pe_ix ix_tup (pv 1) pe_int (fun _ _ => rfl)) pa_nil)) pa_nil))))
    (Evl.pss_cut (ps_if (pt_cmpR (Ts.op_inT (u65 hr)) (pe_tup (pa_cons pe_bl pa_nil)) (pe_tup (pa_cons (pe_ix ix_tup (pv 0) pe_int (fun _ _ => rfl)) (pa_cons (pe_ix ix_tup (pv 1) pe_int (fun _ _ => rfl)) pa_nil))) (by rfl)) (pss_one (ps_set (i := 3) nd rfl (.inl rfl) pe_int)) pss_nil)
    (pss_cons (ps_set (i := 4) nd rfl (.inl rfl) (pe_call GT (hr.mono (by decide)) rfl mT kT bT .nil pass0 (pa_cons (pv 0) (pa_cons (pv 2) (pa_cons (pv 3) pa_nil)))))
    (pss_cons (ps_set (i := 5) nd rfl (.inl rfl) (pe_call GT (hr.mono (by decide)) rfl mT kT bT .nil pass0 (pa_cons (pv 1) (pa_cons (pv 2) (pa_cons (pv 3) pa_nil)))))
    (pss_cons (ps_setLc (i := 6) (own := [("in_one", 7), ("in_other", 8)]) (g := gTup K 2 (gCons (gName 7) (gCons (gName 8) gNil))) (tt := tYes) (te := tAndV (tVar 7) (tVar 8)) rfl nd rfl rfl (sw_true rfl rfl rfl (by decide +kernel)) (RZ.pi_zipA rfl mz (pa_cons (pv 4) (pa_cons (pv 5) pa_nil))) (blkOk_by (N := nCm) (sc := defScope sCm) (by decide +kernel))
      (fun _ _ _ _ _ => pg_tup rfl (pgs_cons (pg_name (i := 7) nd rfl (.inl rfl)) (pgs_cons (pg_name (i := 8) nd rfl (.inl rfl)) pgs_nil))) (fun _ _ _ _ _ => pts_nil) (fun _ _ _ _ _ => pe_and (pv 7) (pe_one (pv 8))))
    (pss_one (ps_ret (pe_call GS hr rfl mS kS bS .nil pass0 (pa_cons (pe_slice sl_list (pv 6) po_none (po_some (pv 2))) (pa_cons (pe_slice sl_list (pv 6) (po_some (pv 2)) po_none) pa_nil)))))))))), ?_⟩
  refine ⟨_, rfl, u1, _, 0, .ref p1, rfl, rfl, hu1, atI_nat (j := 0) rfl, p1, _, rfl, .inr hp1.1, ?_⟩
  rw [List.length_map]
  refine ⟨_, rfl, u2, _, 0, .ref p2, rfl, rfl, hu2, atI_nat (j := 0) rfl, p2, _, rfl, .inr hp2.1, ?_⟩
  rw [List.length_map]
  refine ⟨_, _, rfl, ?_⟩
  have emax : (if ((h2.length : Nat) : Int) > ((h1.length : Nat) : Int) then ((h2.length : Nat) : Int) else ((h1.length : Nat) : Int)) = ((max h1.length h2.length : Nat) : Int) := by
    split <;> omega
  rw [emax]
  have m1 : h1.length ≤ max h1.length h2.length := Nat.le_max_left _ _
  have m2 : h2.length ≤ max h1.length h2.length := Nat.le_max_right _ _
  have qz : ∀ v' H' z, Same H H' → PA K H' v' z → Gs z (fun n => sq h1 c1 n && sq h2 c2 n) → z.1.length ≤ max h1.length h2.length → z.2.length ≤ c1.length * c2.length → Q v' H' := q
  generalize max h1.length h2.length = hs at hb m1 m2 qz
  refine ⟨_, rfl, u1, _, 1, .ref r1, rfl, rfl, hu1, atI_nat (j := 1) rfl, r1, _, rfl, .inr hr1.1, ?_⟩
  rw [List.length_map]
  refine ⟨_, rfl, u2, _, 1, .ref r2, rfl, rfl, hu2, atI_nat (j := 1) rfl, r2, _, rfl, .inr hr2.1, ?_⟩
  rw [List.length_map]
  have lb1 : c1.length ≤ 900 := lb1
  have lb2 : c2.length ≤ 900 := lb2
  refine ⟨c1.length, c2.length, rfl, by omega, by omega, ?_⟩
  have lcp : 0 < Nat.lcm c1.length c2.length := Nat.lcm_pos q1 q2
  have lcl : Nat.lcm c1.length c2.length ≤ c1.length * c2.length := Nat.le_of_dvd (Nat.mul_pos q1 q2) (Nat.lcm_dvd_mul c1.length c2.length)
  have lc1 : c1.length ∣ Nat.lcm c1.length c2.length := Nat.dvd_lcm_left _ _
  have lc2 : c2.length ∣ Nat.lcm c1.length c2.length := Nat.dvd_lcm_right _ _
  generalize Nat.lcm c1.length c2.length = lc at lcp lcl lc1 lc2
  have hmulp : 1 ≤ c1.length * c2.length := Nat.mul_pos q1 q2
  refine ⟨fun σ H' => ∃ cs : Nat, σ = [some (.ref u1), some (.ref u2), some (nV hs), some (nV cs), none, none, none, none, none] ∧ Same H H' ∧ 0 < cs ∧ cs ≤ c1.length * c2.length ∧ ((c1.length ∣ cs ∧ c2.length ∣ cs) ∨ c1 = [false] ∨ c2 = [false]), ?_, ?_⟩
  · refine ⟨by show 1 ≤ sizeLine; decide, fun t1 ht1 => ?_⟩
    have s1 : Same H (upd H t1 (.tup [.bl false])) := same_new ht1 _
    refine ⟨_, rfl, u1, _, 1, .ref r1, rfl, rfl, Ts.same s1 hu1, atI_nat (j := 1) rfl, _, rfl, u2, _, 1, .ref r2, rfl, rfl, Ts.same s1 hu2, atI_nat (j := 1) rfl, by show 2 ≤ sizeLine; decide, fun t2 ht2 => ?_⟩
    have s2 : Same (upd H t1 (.tup [.bl false])) (upd (upd H t1 (.tup [.bl false])) t2 (.tup [.ref r1, .ref r2])) := same_new ht2 _
    have dT : Dp K (upd (upd H t1 (.tup [.bl false])) t2 (.tup [.ref r1, .ref r2])) (.ref t1) (bsD [false]) := .tup (Ts.same s2 (SqT.of upd_same)) (dpl [false])
    have d1 : TA K (upd (upd H t1 (.tup [.bl false])) t2 (.tup [.ref r1, .ref r2])) (.ref r1) c1 := ⟨r1, rfl, Tn.same (s1.trans s2) hr1⟩
    have d2 : TA K (upd (upd H t1 (.tup [.bl false])) t2 (.tup [.ref r1, .ref r2])) (.ref r2) c2 := ⟨r2, rfl, Tn.same (s1.trans s2) hr2⟩
    refine ⟨_, [bsD c1, bsD c2], dT, .tup (SqT.of upd_same) (.cons d1.dp (.cons d2.dp .nil)), shp _, shp2 _ _, _, rfl, ?_⟩
    have e : ([bsD c1, bsD c2].any fun z => PyData.eqv z (bsD [false])) = (decide (c1 = [false]) || (decide (c2 = [false]) || false)) := by
      show (PyData.eqv (bsD c1) (bsD [false]) || (PyData.eqv (bsD c2) (bsD [false]) || false)) = _
      rw [eqv_bs, eqv_bs]
    rw [e]
    refine ite2 (fun c => ?_) (fun c => ⟨lc, rfl, s1.trans s2, lcp, lcl, .inl ⟨lc1, lc2⟩⟩)
    have c' : c1 = [false] ∨ c2 = [false] := by simpa using c
    exact ⟨1, rfl, s1.trans s2, by decide, hmulp, .inr c'⟩
  rintro σ H1 ⟨cs, rfl, s1, cp, cl, hd⟩
  refine ⟨_, rfl, _, rfl, _, rfl, .ref u1, h1, c1, hs, cs, rfl, hv1.same s1, n1, m1, by omega, lb1, fun w1 H2 s2 ⟨x1, ex1, hx1⟩ => ?_⟩
  subst ex1
  refine ⟨_, rfl, _, rfl, _, rfl, .ref u2, h2, c2, hs, cs, rfl, hv2.same (s1.trans s2), n2, m2, by omega, lb2, fun w2 H3 s3 ⟨x2, ex2, hx2⟩ => ?_⟩
  subst ex2
  have hx1' : Tn.NT K H3 x1 ((str h1 c1 (hs + cs)).map V.bl) := Tn.same s3 hx1
  generalize hA : str h1 c1 (hs + cs) = Aa at hx1'
  generalize hB : str h2 c2 (hs + cs) = Bb at hx2
  have la : Aa.length = hs + cs := by rw [← hA, str_len]
  have lb : Bb.length = hs + cs := by rw [← hB, str_len]
  refine ⟨_, rfl, _, rfl, x1, x2, _, _, rfl, .inr ⟨hx1'.1, hx2.1, fun D hD => ?_⟩⟩
  have s4 : Same H3 (upd H3 D (.lst [])) := same_new hD _
  refine lc_zipT (xs := Aa.map V.bl) (ys := Bb.map V.bl) (fun i H' => Same H3 H' ∧ H' D = some (.lst ((andL (Aa.take i) (Bb.take i)).map V.bl))) (by rw [List.length_map, List.length_map, la, lb]) ⟨s4, upd_same⟩ (fun i H' ⟨s', _⟩ => ⟨Ts.same s' hx1'.1, Ts.same s' hx2.1⟩) ?_ ?_
  · rintro i x y T H' hx hy hT ⟨s', hD'⟩
    obtain ⟨bx, hbx, rfl⟩ := get_bl hx
    obtain ⟨bz, hby, rfl⟩ := get_bl hy
    have hi := (List.getElem?_eq_some_iff.mp hbx).1
    have hi2 := (List.getElem?_eq_some_iff.mp hby).1
    have sT : Same H' (upd H' T (.tup [.bl bx, .bl bz])) := same_new hT _
    have hDT := sT _ _ hD'
    refine ⟨T, _, rfl, .inl (.inl upd_same), rfl, .bl bx, _, rfl, .bl bz, [], rfl, rfl, rfl, ?_⟩
    have fin : ∀ b : Bool, b = (bx && bz) → ∃ acc, upd H' T (.tup [.bl bx, .bl bz]) D = some (.lst acc) ∧ acc.length < sizeLine ∧ (Same H3 (upd (upd H' T (.tup [.bl bx, .bl bz])) D (.lst (acc ++ [.bl b]))) ∧ upd (upd H' T (.tup [.bl bx, .bl bz])) D (.lst (acc ++ [.bl b])) D = some (.lst ((andL (Aa.take (i + 1)) (Bb.take (i + 1))).map V.bl))) := by
      intro b hb'
      refine ⟨_, hDT, sz_line (by rw [List.length_map, andL_len (by rw [List.length_take, List.length_take]; omega), List.length_take]; omega), same_mut (s'.trans sT) hD _, ?_⟩
      rw [upd_same, andL_take hbx hby, List.map_append, hb']
      rfl
    refine ⟨_, rfl, bx, rfl, ?_⟩
    cases bx with
    | true => exact ⟨_, rfl, fin bz (by simp)⟩
    | false => exact fin false (by simp)
  · rintro H4 ⟨s4', hD4⟩
    rw [List.length_map, List.take_length, show Bb.take Aa.length = Bb by rw [la, ← lb, List.take_length]] at hD4
    generalize hI : andL Aa Bb = I at hD4
    have li : I.length = hs + cs := by rw [← hI, andL_len (by rw [la, lb]), la]
    refine ⟨_, rfl, _, rfl, _, rfl, D, _, rfl, SqL.of hD4, fun f1 hf1 => ?_⟩
    rw [cut_to (by omega)]
    have s5 : Same H4 (upd H4 f1 (.lst ((I.take hs).map V.bl))) := same_new hf1 _
    refine ⟨_, rfl, _, rfl, _, rfl, D, _, rfl, SqL.of (s5 _ _ hD4), fun f2 hf2 => ?_⟩
    rw [cut_from (by omega)]
    have s6 : Same (upd H4 f1 (.lst ((I.take hs).map V.bl))) (upd (upd H4 f1 (.lst ((I.take hs).map V.bl))) f2 (.lst ((I.drop hs).map V.bl))) := same_new hf2 _
    have dl : (I.drop hs).length = cs := by rw [List.length_drop]; omega
    have tl : (I.take hs).length = hs := by rw [List.length_take]; omega
    have dn : I.drop hs ≠ [] := fun e => by
      rw [e] at dl
      simp at dl
      omega
    refine ⟨f1, f2, I.take hs, I.drop hs, rfl, .inl (SqL.of (s6 _ _ upd_same)), .inl (SqL.of upd_same), dn, by omega, sc_ne dn, by omega, fun v' H5 s7 hv => ?_⟩
    have sl := stl_len (h := I.take hs) dn
    refine qz v' H5 _ ((((((s1.trans s2).trans s3).trans s4').trans s5).trans s6).trans s7) hv ⟨stl_Stl dn, fun n => ?_⟩ (by omega) (by omega)
    rw [sq_stl dn, ← hI, ← hA, ← hB]
    exact com_sq m1 m2 cp hd n
end
end Mw

namespace Mw
open PySem L2
theorem hsz_neg (x y : BL × BL) : hsz (neg x.1, neg x.2) (neg y.1, neg y.2) = hsz x y := by
  unfold hsz
  rw [neg_len, neg_len]
theorem hsz_negr (x y : BL × BL) : hsz x (neg y.1, neg y.2) = hsz x y := by
  unfold hsz
  rw [neg_len]
section
variable {P : Program} {w : World} {K : PySem.W.Frag} {mg : Str → Option Value} {base : Heap}
/-! ### union, difference, is_within -/
abbrev sUn : Stmt := top 14
abbrev sDf : Stmt := top 15
abbrev sWi : Stmt := top 11
theorem scUn : FnScope ["one", "other"] ["one", "other"] (defScope sUn) := ⟨rfl, rfl, rfl, by decide +kernel, rfl, by decide +kernel, by decide +kernel⟩
theorem scDf : FnScope ["one", "other"] ["one", "other"] (defScope sDf) := ⟨rfl, rfl, rfl, by decide +kernel, rfl, by decide +kernel, by decide +kernel⟩
theorem scWi : FnScope ["one", "other"] ["one", "other"] (defScope sWi) := ⟨rfl, rfl, rfl, by decide +kernel, rfl, by decide +kernel, by decide +kernel⟩
theorem ok_un {f fM fP : Addr} {fd fdM fdP : FuncData} (F : Fun K "union" "union" sUn f fd)
    (GM : FnOk P w K mg base CX0 4 fM fdM ["one", "other"] (spCm K fun a b => a && b)) (bM : Binds K fdM ["one", "other"] []) (kM : PySem.W.keepIn K (.ref fM) = true) (mM : mg "common" = some (.ref fM))
    (GP : FnOk P w K mg base CX0 1 fP fdP ["one"] (spCp K)) (bP : Binds K fdP ["one"] []) (kP : PySem.W.keepIn K (.ref fP) = true) (mP : mg "complement" = some (.ref fP)) :
    FnOk P w K mg base CX0 5 f fd ["one", "other"] (spCm K fun a b => a || b) := by
  refine F.ok scUn (fun vs H Q E h => ?_) (fun cdv A outer s H vs Q E hr h => ?_)
  · obtain ⟨v1, v2, x, y, rfl, _⟩ := h
    rfl
  obtain ⟨v1, v2, x, y, rfl, hv1, hv2, n1, n2, hb, lb1, lb2, q⟩ := h
  have nd := scUn.nd
  have hmx : x.1.length ≤ hsz x y := Nat.le_max_left _ _
  have hmy : y.1.length ≤ hsz x y := Nat.le_max_right _ _
  refine ⟨_, pss_one (ps_ret (pe_call GP (hr.mono (by decide)) rfl mP kP bP .nil pass0 (pa_cons (pe_call GM hr rfl mM kM bM .nil pass0 (pa_cons (pe_call GP (hr.mono (by decide)) rfl mP kP bP .nil pass0 (pa_cons (pv 0) pa_nil)) (pa_cons (pe_call GP (hr.mono (by decide)) rfl mP kP bP .nil pass0 (pa_cons (pv 1) pa_nil)) pa_nil))) pa_nil))), ?_⟩
  refine ⟨_, rfl, v1, x, rfl, hv1, by omega, by omega, fun w1 H1 s1 h1 => ?_⟩
  refine ⟨_, rfl, v2, y, rfl, hv2.same s1, by omega, by omega, fun w2 H2 s2 h2 => ?_⟩
  refine ⟨w1, w2, _, _, rfl, h1.same s2, h2, neg_ne n1, neg_ne n2, ?_, ?_, ?_, fun w3 H3 z s3 h3 hg l1 l2 => ?_⟩
  · rw [hsz_neg]
    show hsz x y + (neg x.2).length * (neg y.2).length ≤ 900
    rw [neg_len, neg_len]
    exact hb
  · show (neg x.2).length ≤ 900
    rw [neg_len]
    exact lb1
  · show (neg y.2).length ≤ 900
    rw [neg_len]
    exact lb2
  rw [hsz_neg] at l1
  have l2 : z.2.length ≤ (neg x.2).length * (neg y.2).length := l2
  rw [neg_len, neg_len] at l2
  refine ⟨w3, z, rfl, h3, by omega, by omega, fun w4 H4 s4 h4 => ?_⟩
  refine q w4 H4 _ (((s1.trans s2).trans s3).trans s4) h4 ⟨hg.1.neg, fun n => ?_⟩ ?_ ?_
  · show sq (neg z.1) (neg z.2) n = _
    rw [sq_neg hg.1.nc, hg.2 n]
    show (!(sq (neg x.1) (neg x.2) n && sq (neg y.1) (neg y.2) n)) = (sq x.1 x.2 n || sq y.1 y.2 n)
    rw [sq_neg n1, sq_neg n2]
    cases sq x.1 x.2 n <;> cases sq y.1 y.2 n <;> rfl
  · show (neg z.1).length ≤ _
    rw [neg_len]
    exact l1
  · show (neg z.2).length ≤ _
    rw [neg_len]
    exact l2
theorem ok_df {f fM fP : Addr} {fd fdM fdP : FuncData} (F : Fun K "difference" "difference" sDf f fd)
    (GM : FnOk P w K mg base CX0 4 fM fdM ["one", "other"] (spCm K fun a b => a && b)) (bM : Binds K fdM ["one", "other"] []) (kM : PySem.W.keepIn K (.ref fM) = true) (mM : mg "common" = some (.ref fM))
    (GP : FnOk P w K mg base CX0 1 fP fdP ["one"] (spCp K)) (bP : Binds K fdP ["one"] []) (kP : PySem.W.keepIn K (.ref fP) = true) (mP : mg "complement" = some (.ref fP)) :
    FnOk P w K mg base CX0 5 f fd ["one", "other"] (spCm K fun a b => a && !b) := by
  refine F.ok scDf (fun vs H Q E h => ?_) (fun cdv A outer s H vs Q E hr h => ?_)
  · obtain ⟨v1, v2, x, y, rfl, _⟩ := h
    rfl
  obtain ⟨v1, v2, x, y, rfl, hv1, hv2, n1, n2, hb, lb1, lb2, q⟩ := h
  have nd := scDf.nd
  have hmy : y.1.length ≤ hsz x y := Nat.le_max_right _ _
  refine ⟨_, pss_one (ps_ret (pe_call GM hr rfl mM kM bM .nil pass0 (pa_cons (pv 0) (pa_cons (pe_call GP (hr.mono (by decide)) rfl mP kP bP .nil pass0 (pa_cons (pv 1) pa_nil)) pa_nil)))), ?_⟩
  refine ⟨_, rfl, _, rfl, v2, y, rfl, hv2, by omega, by omega, fun w2 H2 s2 h2 => ?_⟩
  refine ⟨v1, w2, x, _, rfl, hv1.same s2, h2, n1, neg_ne n2, ?_, lb1, ?_, fun w3 H3 z s3 h3 hg l1 l2 => ?_⟩
  · rw [hsz_negr]
    show hsz x y + x.2.length * (neg y.2).length ≤ 900
    rw [neg_len]
    exact hb
  · show (neg y.2).length ≤ 900
    rw [neg_len]
    exact lb2
  rw [hsz_negr] at l1
  have l2 : z.2.length ≤ x.2.length * (neg y.2).length := l2
  rw [neg_len] at l2
  refine q w3 H3 z (s2.trans s3) h3 ⟨hg.1, fun n => ?_⟩ l1 l2
  rw [hg.2 n]
  show (sq x.1 x.2 n && sq (neg y.1) (neg y.2) n) = _
  rw [sq_neg n2]
def spWi (K : PySem.W.Frag) : Sp := fun vs H Q _ => ∃ (v1 v2 : V) (x y : BL × BL), vs = [v1, v2] ∧ PA K H v1 x ∧ PA K H v2 y ∧ x.2 ≠ [] ∧ y.2 ≠ [] ∧ hsz x y + x.2.length * y.2.length ≤ 900 ∧ x.2.length ≤ 900 ∧ y.2.length ≤ 900 ∧
  ∀ b H', Same H H' → (b = true ↔ ∀ n, (sq x.1 x.2 n && !sq y.1 y.2 n) = false) → Q (.bl b) H'
/-- just the set of no number is empty -/
theorem Gs.empty {z : BL × BL} {g : Nat → Bool} (hg : Gs z g) : z = ([], [false]) ↔ ∀ n, g n = false := by
  constructor
  · intro e n
    rw [← hg.2 n, e]
    show cv [false] ((n : Int) - 0) = false
    unfold cv
    have : (((n : Int) - 0) % (([false] : BL).length : Int)).toNat = 0 := by
      show (((n : Int) - 0) % 1).toNat = 0
      rw [Int.emod_one]
      rfl
    rw [this]
    rfl
  · intro h
    obtain ⟨h1, h2⟩ := hg.1.none fun n => by rw [hg.2 n, h n]
    exact Prod.ext h1 h2
theorem ok_wi {f fE fD : Addr} {fd fdE fdD : FuncData} (F : Fun K "is_within" "is_within" sWi f fd)
    (GE : FnOk P w K mg base CX0 1 fE fdE ["one"] (spEm K)) (bE : Binds K fdE ["one"] []) (kE : PySem.W.keepIn K (.ref fE) = true) (mE : mg "is_empty" = some (.ref fE))
    (GD : FnOk P w K mg base CX0 5 fD fdD ["one", "other"] (spCm K fun a b => a && !b)) (bD : Binds K fdD ["one", "other"] []) (kD : PySem.W.keepIn K (.ref fD) = true) (mD : mg "difference" = some (.ref fD)) :
    FnOk P w K mg base CX0 6 f fd ["one", "other"] (spWi K) := by
  refine F.ok scWi (fun vs H Q E h => ?_) (fun cdv A outer s H vs Q E hr h => ?_)
  · obtain ⟨v1, v2, x, y, rfl, _⟩ := h
    rfl
  obtain ⟨v1, v2, x, y, rfl, hv1, hv2, n1, n2, hb, lb1, lb2, q⟩ := h
  have nd := scWi.nd
  refine ⟨_, pss_one (ps_ret (pe_call GE (hr.mono (by decide)) rfl mE kE bE .nil pass0 (pa_cons (pe_call GD hr rfl mD kD bD .nil pass0 (pa_cons (pv 0) (pa_cons (pv 1) pa_nil))) pa_nil))), ?_⟩
  refine ⟨_, rfl, _, rfl, v1, v2, x, y, rfl, hv1, hv2, n1, n2, hb, lb1, lb2, fun w3 H3 z s3 h3 hg l1 l2 => ?_⟩
  exact ⟨w3, z, rfl, h3, fun b hbb => q b H3 s3 (hbb.trans hg.empty)⟩
/-! ### least -/
abbrev sLe : Stmt := top 16
theorem scLe : FnScope ["one", "inside"] ["one"] (defScope sLe) := ⟨rfl, rfl, rfl, by decide +kernel, rfl, by decide +kernel, by decide +kernel⟩
def LV (x : BL × BL) (lv : V) : Prop := (∃ j, lv = nV j ∧ j < x.1.length + x.2.length ∧ sq x.1 x.2 j = true ∧ ∀ m, m < j → sq x.1 x.2 m = false) ∨ (lv = .non ∧ ∀ n, sq x.1 x.2 n = false)
def spLe (K : PySem.W.Frag) : Sp := fun vs H Q _ => ∃ (v : V) (x : BL × BL), vs = [v] ∧ PA K H v x ∧ x.2 ≠ [] ∧ x.1.length < 1000 ∧ x.2.length < 1000 ∧ ∀ lv H', Same H H' → LV x lv → Q lv H'
theorem sq_cat {h c : BL} {n : Nat} (hn : n < h.length + c.length) : (h ++ c).getD n false = sq h c n := by
  by_cases z : n < h.length
  · rw [sq_lo z, List.getD_eq_getElem?_getD, List.getElem?_append_left z, List.getD_eq_getElem?_getD]
  · rw [sq_hi (by omega), show (n : Int) - (h.length : Int) = ((n - h.length : Nat) : Int) by omega, cv_nat (by omega), List.getD_eq_getElem?_getD, List.getElem?_append_right (by omega), List.getD_eq_getElem?_getD]
/-- any number has one in the head or in one turn of the cycle that is as it is -/
theorem sq_low {h c : BL} (hc : c ≠ []) (n : Nat) : ∃ m, m < h.length + c.length ∧ sq h c n = sq h c m := by
  have hp := len_pos hc
  by_cases z : n < h.length
  · exact ⟨n, by omega, rfl⟩
  · refine ⟨h.length + (n - h.length) % c.length, by have := Nat.mod_lt (n - h.length) hp; omega, ?_⟩
    rw [sq_hi (by omega), sq_hi (by omega)]
    refine cv_mod ?_
    rw [show (n : Int) - (h.length : Int) = ((n - h.length : Nat) : Int) by omega, show ((h.length + (n - h.length) % c.length : Nat) : Int) - (h.length : Int) = (((n - h.length) % c.length : Nat) : Int) by omega, Int.natCast_emod, Int.emod_emod]
theorem in_bls (b : Bool) : ∀ bs : BL, inV (.bl b) (bs.map V.bl) = bs.contains b
  | [] => rfl
  | x :: bs => by
    have ih := in_bls b bs
    unfold inV at ih ⊢
    rw [List.map_cons, List.any_cons, ih, List.contains_cons]
    congr 1
    show (x == b) = (b == x)
    cases x <;> cases b <;> rfl
theorem ok_le {f : Addr} {fd : FuncData} (F : Fun K "least" "least" sLe f fd) : FnOk P w K mg base CX0 1 f fd ["one"] (spLe K) := by
  refine F.ok scLe (fun vs H Q E h => ?_) (fun cdv A outer s H vs Q E hr h => ?_)
  · obtain ⟨v, x, rfl, _⟩ := h
    rfl
  obtain ⟨v, ⟨h, c⟩, rfl, ⟨u, a1, a2, rfl, hu, ⟨p, ep, hp⟩, ⟨r, er, hr1⟩⟩, hc, l1, l2, q⟩ := h
  have q1 := fun j H' s h1 h2 h3 => q (nV j) H' s (.inl ⟨j, rfl, h1, h2, h3⟩)
  have q2 := fun H' s h => q V.non H' s (.inr ⟨rfl, h⟩)
  subst ep er
  have hp : Tn.NT K H p (h.map V.bl) := hp
  have hr1 : Tn.NT K H r (c.map V.bl) := hr1
  have hc : c ≠ [] := hc
  have l1 : h.length < 1000 := l1
  have l2 : c.length < 1000 := l2
  have nd := scLe.nd
  refine ⟨_, pss_cons (ps_set (i := 1) nd rfl (.inl rfl) (pe_op Tn.cat (pe_ix ix_tup (pv 0) pe_int (fun _ _ => rfl)) (pe_ix ix_tup (pv 0) pe_int (fun _ _ => rfl))))
    (pss_one (ps_ret (pe_ifExp (pt_cmpR op_in_seq pe_bl (pv 1) (by rfl)) (Tn.pe_bmN PySem.F.slot_tuple_index PySem.F.type_tuple_index Ts.mt_idxB (pv 1) (pa_cons pe_bl pa_nil)) pe_non))), ?_⟩
  refine ⟨_, rfl, u, _, 0, .ref p, rfl, rfl, hu, atI_nat (j := 0) rfl, _, rfl, u, _, 1, .ref r, rfl, rfl, hu, atI_nat (j := 1) rfl, p, r, _, _, rfl, rfl, hp, hr1, le_line (by rw [List.length_map, List.length_map]; omega), fun p2 H2 s2 t2 => ?_⟩
  rw [← List.map_append] at t2
  have lcat : (h ++ c).length = h.length + c.length := List.length_append
  refine ⟨_, rfl, p2, _, rfl, .inr t2.1, rfl, ?_, _, rfl, ?_⟩
  · rw [List.all_map]
    exact List.all_eq_true.mpr fun _ _ => rfl
  show (if inV (V.bl true) ((h ++ c).map V.bl) = true then _ else _)
  rw [in_bls]
  cases hct : (h ++ c).contains true with
  | true =>
    have hmem : true ∈ h ++ c := List.contains_iff_mem.mp hct
    obtain ⟨j, hj, hlt⟩ : ∃ j, (h ++ c)[j]? = some true ∧ ∀ m, m < j → (h ++ c)[m]? ≠ some true := by
      obtain ⟨k, hk⟩ := List.getElem?_of_mem hmem
      obtain ⟨j, h1, h2⟩ := least_of (P := fun k => (h ++ c)[k]? = some true) k hk
      exact ⟨j, h1, fun m hm e => Nat.not_lt_of_le (h2 m e) hm⟩
    have jl := (List.getElem?_eq_some_iff.mp hj).1
    refine iteT ⟨_, rfl, ⟨p2, _, rfl, t2⟩, p2, h ++ c, true, j, rfl, rfl, t2.1, hj, hlt, ?_⟩
    refine q1 j H2 s2 (by show j < h.length + c.length; omega) ?_ fun m hm => ?_
    · show sq h c j = true
      rw [← sq_cat (by omega), List.getD_eq_getElem?_getD, hj]
      rfl
    · show sq h c m = false
      rw [← sq_cat (by omega), List.getD_eq_getElem?_getD]
      have := hlt m hm
      rw [List.getElem?_eq_getElem (by omega)] at this ⊢
      show (h ++ c)[m] = false
      cases e : (h ++ c)[m] with
      | false => rfl
      | true => rw [e] at this; exact absurd rfl this
  | false =>
    refine iteF (q2 H2 s2 fun n => ?_)
    show sq h c n = false
    obtain ⟨m, hm, e⟩ := sq_low (h := h) hc n
    rw [e, ← sq_cat hm, List.getD_eq_getElem?_getD, List.getElem?_eq_getElem (by omega)]
    show (h ++ c)[m] = false
    cases e : (h ++ c)[m] with
    | false => rfl
    | true =>
      have : (h ++ c).contains true = true := List.contains_iff_mem.mpr (by rw [← e]; exact List.getElem_mem _)
      rw [this] at hct
      cases hct
end
end Mw

namespace Mw
open PySem L2
theorem rep_map (n : Nat) (b : Bool) : (List.replicate n [V.bl b]).flatten = (List.replicate n b).map V.bl := by
  induction n with
  | zero => rfl
  | succ n ih => rw [List.replicate_succ, List.flatten_cons, ih, List.replicate_succ]; rfl
theorem getD_rep {n k : Nat} {b : Bool} (h : k < n) : (List.replicate n b).getD k false = b := by
  rw [List.getD_eq_getElem?_getD, List.getElem?_replicate, if_pos h]
  rfl
theorem cv_false (i : Int) : cv [false] i = false := by
  unfold cv
  have : (i % (([false] : BL).length : Int)).toNat = 0 := by
    show (i % 1).toNat = 0
    rw [Int.emod_one]
    rfl
  rw [this]
  rfl
theorem sq_range {lo hi : Nat} (h : lo ≤ hi) (n : Nat) : sq (List.replicate lo false ++ List.replicate (hi + 1 - lo) true) [false] n = (decide (lo ≤ n) && decide (n ≤ hi)) := by
  have hl : (List.replicate lo false ++ List.replicate (hi + 1 - lo) true).length = hi + 1 := by
    rw [List.length_append, List.length_replicate, List.length_replicate]
    omega
  by_cases z : n < hi + 1
  · rw [sq_lo (by omega), decide_eq_true (show n ≤ hi by omega), Bool.and_true]
    by_cases y : n < lo
    · rw [List.getD_eq_getElem?_getD, List.getElem?_append_left (by rw [List.length_replicate]; exact y), ← List.getD_eq_getElem?_getD, getD_rep y, decide_eq_false (by omega)]
    · rw [List.getD_eq_getElem?_getD, List.getElem?_append_right (by rw [List.length_replicate]; omega), ← List.getD_eq_getElem?_getD, List.length_replicate, getD_rep (by omega), decide_eq_true (by omega)]
  · rw [sq_hi (by omega), cv_false, decide_eq_false (show ¬ n ≤ hi by omega), Bool.and_false]
theorem sq_moved {h c : BL} {off : Nat} (n : Nat) : sq (List.replicate off false ++ h) c n = (decide (off ≤ n) && sq h c (n - off)) := by
  have hl : (List.replicate off false ++ h).length = off + h.length := by
    rw [List.length_append, List.length_replicate]
  by_cases y : n < off
  · rw [sq_lo (by omega), List.getD_eq_getElem?_getD, List.getElem?_append_left (by rw [List.length_replicate]; exact y), ← List.getD_eq_getElem?_getD, getD_rep y, decide_eq_false (by omega), Bool.false_and]
  · rw [decide_eq_true (show off ≤ n by omega), Bool.true_and]
    by_cases z : n < off + h.length
    · rw [sq_lo (by omega), sq_lo (by omega), List.getD_eq_getElem?_getD, List.getElem?_append_right (by rw [List.length_replicate]; omega), ← List.getD_eq_getElem?_getD, List.length_replicate]
    · rw [sq_hi (by omega), sq_hi (by omega), hl]
      congr 1
      omega
section
variable {P : Program} {w : World} {K : PySem.W.Frag} {mg : Str → Option Value} {base : Heap}
/-! ### range_set, single, moved -/
abbrev sRs : Stmt := top 18
abbrev sSi : Stmt := top 17
abbrev sMv : Stmt := top 19
theorem scRs : FnScope ["low", "high"] ["low", "high"] (defScope sRs) := ⟨rfl, rfl, rfl, by decide +kernel, rfl, by decide +kernel, by decide +kernel⟩
theorem scSi : FnScope ["number"] ["number"] (defScope sSi) := ⟨rfl, rfl, rfl, by decide +kernel, rfl, by decide +kernel, by decide +kernel⟩
theorem scMv : FnScope ["one", "offset"] ["one", "offset"] (defScope sMv) := ⟨rfl, rfl, rfl, by decide +kernel, rfl, by decide +kernel, by decide +kernel⟩
def spRs (K : PySem.W.Frag) : Sp := fun vs H Q _ => ∃ lo hi : Nat, vs = [nV lo, nV hi] ∧ lo ≤ hi ∧ hi ≤ 900 ∧ ∀ v' H' z, Same H H' → PA K H' v' z → Gs z (fun n => decide (lo ≤ n) && decide (n ≤ hi)) → z.1.length ≤ hi + 1 → z.2.length ≤ 1 → Q v' H'
def spSi (K : PySem.W.Frag) : Sp := fun vs H Q _ => ∃ lo : Nat, vs = [nV lo] ∧ lo ≤ 900 ∧ ∀ v' H' z, Same H H' → PA K H' v' z → Gs z (fun n => decide (lo ≤ n) && decide (n ≤ lo)) → z.1.length ≤ lo + 1 → z.2.length ≤ 1 → Q v' H'
def spMv (K : PySem.W.Frag) : Sp := fun vs H Q _ => ∃ (v : V) (x : BL × BL) (off : Nat), vs = [v, nV off] ∧ PA K H v x ∧ x.2 ≠ [] ∧ off ≤ 900 ∧ x.1.length ≤ 900 ∧ x.2.length ≤ 900 ∧ ∀ v' H' z, Same H H' → PA K H' v' z → Gs z (fun n => decide (off ≤ n) && sq x.1 x.2 (n - off)) → z.1.length ≤ off + x.1.length → z.2.length ≤ x.2.length → Q v' H'
theorem ok_rs {f fS : Addr} {fd fdS : FuncData} (F : Fun K "range_set" "range_set" sRs f fd)
    (GS : FnOk P w K mg base CX0 3 fS fdS ["head", "cycle"] (spSe K)) (bS : Binds K fdS ["head", "cycle"] []) (kS : PySem.W.keepIn K (.ref fS) = true) (mS : mg "settled" = some (.ref fS)) :
    FnOk P w K mg base CX0 4 f fd ["low", "high"] (spRs K) := by
  refine F.ok scRs (fun vs H Q E h => ?_) (fun cdv A outer s H vs Q E hr h => ?_)
  · obtain ⟨lo, hi, rfl, _⟩ := h
    rfl
  obtain ⟨lo, hi, rfl, hlh, hb, q⟩ := h
  refine ⟨_, pss_one (ps_ret (pe_call GS hr rfl mS kS bS .nil pass0 (pa_cons (pe_op op_cat (pe_op op_rep (pe_lst (pa_cons pe_bl pa_nil)) (pv 0)) (pe_op op_rep (pe_lst (pa_cons pe_bl pa_nil)) (pe_op op_sub (pe_op op_add (pv 1) pe_int) (pv 0)))) (pa_cons (pe_lst (pa_cons pe_bl pa_nil)) pa_nil)))), ?_⟩
  refine ⟨by show 1 ≤ sizeLine; decide, fun l1 h1 => ?_⟩
  have s1 : Same H (upd H l1 (.lst [.bl false])) := same_new h1 _
  refine ⟨_, rfl, l1, _, _, rfl, rfl, upd_same, by omega, by omega, le_line (by show 1 * (lo : Int).toNat < 10000000; omega), fun l2 h2 => ?_⟩
  have s2 := same_new h2 (.lst (List.replicate (lo : Int).toNat [V.bl false]).flatten)
  have t2 : upd (upd H l1 (.lst [.bl false])) l2 (.lst (List.replicate (lo : Int).toNat [V.bl false]).flatten) l2 = some (.lst ((List.replicate lo false).map V.bl)) := by
    rw [upd_same, Int.toNat_natCast, rep_map]
  have s12 := s1.trans s2
  generalize upd (upd H l1 (.lst [.bl false])) l2 (.lst (List.replicate (lo : Int).toNat [V.bl false]).flatten) = H2 at s12 t2
  clear s2
  refine ⟨by show 1 ≤ sizeLine; decide, fun l3 h3 => ?_⟩
  have s3 : Same H2 (upd H2 l3 (.lst [.bl true])) := same_new h3 _
  have ek : (((hi : Int) + 1 - (lo : Int))).toNat = hi + 1 - lo := by omega
  refine ⟨_, rfl, _, _, rfl, rfl, _, rfl, _, _, rfl, rfl, l3, _, _, rfl, rfl, upd_same, by omega, by omega, le_line (by rw [ek]; show 1 * (hi + 1 - lo) < 10000000; omega), fun l4 h4 => ?_⟩
  have s4 := same_new h4 (.lst (List.replicate ((hi : Int) + 1 - (lo : Int)).toNat [V.bl true]).flatten)
  have t4 : upd (upd H2 l3 (.lst [.bl true])) l4 (.lst (List.replicate ((hi : Int) + 1 - (lo : Int)).toNat [V.bl true]).flatten) l4 = some (.lst ((List.replicate (hi + 1 - lo) true).map V.bl)) := by
    rw [upd_same, ek, rep_map]
  have s34 := s3.trans s4
  have t2' := s34 _ _ t2
  refine ⟨l2, l4, _, _, rfl, rfl, t2', t4, le_line (by rw [List.length_map, List.length_map, List.length_replicate, List.length_replicate]; omega), fun l5 h5 => ?_⟩
  rw [← List.map_append]
  generalize upd (upd H2 l3 (.lst [.bl true])) l4 (.lst (List.replicate ((hi : Int) + 1 - (lo : Int)).toNat [V.bl true]).flatten) = H4 at s34 h5
  have s5 : Same H4 (upd H4 l5 (.lst ((List.replicate lo false ++ List.replicate (hi + 1 - lo) true).map V.bl))) := same_new h5 _
  refine ⟨by show 1 ≤ sizeLine; decide, fun l6 h6 => ?_⟩
  have s6 : Same (upd H4 l5 (.lst ((List.replicate lo false ++ List.replicate (hi + 1 - lo) true).map V.bl))) (upd (upd H4 l5 (.lst ((List.replicate lo false ++ List.replicate (hi + 1 - lo) true).map V.bl))) l6 (.lst [.bl false])) := same_new h6 _
  have dn : ([false] : BL) ≠ [] := by decide
  have hl : (List.replicate lo false ++ List.replicate (hi + 1 - lo) true).length = hi + 1 := by
    rw [List.length_append, List.length_replicate, List.length_replicate]
    omega
  refine ⟨l5, l6, _, [false], rfl, .inl (SqL.of (s6 _ _ upd_same)), .inl (SqL.of upd_same), dn, by decide, sc_ne dn, by omega, fun v' H7 s7 hv => ?_⟩
  have sl := stl_len (h := List.replicate lo false ++ List.replicate (hi + 1 - lo) true) dn
  refine q v' H7 _ ((((s12.trans s34).trans s5).trans s6).trans s7) hv ⟨stl_Stl dn, fun n => ?_⟩ (by omega) sl.2
  rw [sq_stl dn]
  exact sq_range hlh n
theorem ok_si {f fR : Addr} {fd fdR : FuncData} (F : Fun K "single" "single" sSi f fd)
    (GR : FnOk P w K mg base CX0 4 fR fdR ["low", "high"] (spRs K)) (bR : Binds K fdR ["low", "high"] []) (kR : PySem.W.keepIn K (.ref fR) = true) (mR : mg "range_set" = some (.ref fR)) :
    FnOk P w K mg base CX0 5 f fd ["number"] (spSi K) := by
  refine F.ok scSi (fun vs H Q E h => ?_) (fun cdv A outer s H vs Q E hr h => ?_)
  · obtain ⟨lo, rfl, _⟩ := h
    rfl
  obtain ⟨lo, rfl, hb, q⟩ := h
  refine ⟨_, pss_one (ps_ret (pe_call GR hr rfl mR kR bR .nil pass0 (pa_cons (pv 0) (pa_cons (pv 0) pa_nil)))), ?_⟩
  exact ⟨_, rfl, _, rfl, lo, lo, rfl, Nat.le_refl _, hb, q⟩
theorem ok_mv {f fS : Addr} {fd fdS : FuncData} (F : Fun K "moved" "moved" sMv f fd)
    (GS : FnOk P w K mg base CX0 3 fS fdS ["head", "cycle"] (spSe K)) (bS : Binds K fdS ["head", "cycle"] []) (kS : PySem.W.keepIn K (.ref fS) = true) (mS : mg "settled" = some (.ref fS)) :
    FnOk P w K mg base CX0 4 f fd ["one", "offset"] (spMv K) := by
  refine F.ok scMv (fun vs H Q E h => ?_) (fun cdv A outer s H vs Q E hr h => ?_)
  · obtain ⟨v, x, off, rfl, _⟩ := h
    rfl
  obtain ⟨v, ⟨h, c⟩, off, rfl, ⟨u, a1, a2, rfl, hu, ⟨p, ep, hp⟩, ⟨r, er, hr1⟩⟩, hc, hb, l1, l2, q⟩ := h
  subst ep er
  have hp : Tn.NT K H p (h.map V.bl) := hp
  have hr1 : Tn.NT K H r (c.map V.bl) := hr1
  have hc : c ≠ [] := hc
  have l1 : h.length ≤ 900 := l1
  have l2 : c.length ≤ 900 := l2
  refine ⟨_, pss_one (ps_ret (pe_call GS hr rfl mS kS bS .nil pass0 (pa_cons (pe_op Tn.cat (pe_op Tn.rep (Tn.pe_tupN (pa_cons pe_bl pa_nil)) (pv 1)) (pe_ix ix_tup (pv 0) pe_int (fun _ _ => rfl))) (pa_cons (pe_ix ix_tup (pv 0) pe_int (fun _ _ => rfl)) pa_nil)))), ?_⟩
  refine ⟨by show 1 ≤ sizeLine; decide, fun p1 H1 s1 t1 => ?_⟩
  refine ⟨_, rfl, p1, _, _, rfl, rfl, t1, by simp, by omega, by omega, by show 1 ≤ 1000; decide, fun p2 H2 s2 t2 => ?_⟩
  rw [Int.toNat_natCast, rep_map] at t2
  have s12 := s1.trans s2
  refine ⟨_, rfl, u, _, 0, .ref p, rfl, rfl, Ts.same s12 hu, atI_nat (j := 0) rfl, p2, p, _, _, rfl, rfl, t2, Tn.same s12 hp, le_line (by rw [List.length_map, List.length_map, List.length_replicate]; omega), fun p3 H3 s3 t3 => ?_⟩
  rw [← List.map_append] at t3
  have s13 := s12.trans s3
  have hl : (List.replicate off false ++ h).length = off + h.length := by rw [List.length_append, List.length_replicate]
  refine ⟨_, rfl, u, _, 1, .ref r, rfl, rfl, Ts.same s13 hu, atI_nat (j := 1) rfl, p3, r, _, c, rfl, .inr t3, .inr (Tn.same s13 hr1), hc, by omega, sc_ne hc, by omega, fun v' H7 s7 hv => ?_⟩
  have sl := stl_len (h := List.replicate off false ++ h) hc
  refine q v' H7 _ (s13.trans s7) hv ⟨stl_Stl hc, fun n => ?_⟩ (by show _ ≤ off + h.length; omega) sl.2
  rw [sq_stl hc]
  exact sq_moved n
end
end Mw

namespace Mw
open PySem L2
theorem shpL (a : BL) : SeqAt.shaped (.list (a.map .bool)) = true := by
  unfold SeqAt.shaped
  rw [Bool.and_eq_true]
  refine ⟨can_all a, decide_eq_true ?_⟩
  show PyData.depthAll (a.map .bool) + 1 ≤ 64
  rw [dep_all]
  decide
theorem find_range {g : Nat → Bool} {j : Nat} (hj : g j = true) (hm : ∀ m, m < j → g m = false) : ∀ n, j < n → (List.range n).find? g = some j
  | 0, h => by omega
  | n + 1, h => by
    rw [List.range_succ, List.find?_append]
    by_cases z : j < n
    · rw [find_range hj hm n z]
      rfl
    · have e : j = n := by omega
      subst e
      have : (List.range j).find? g = none := List.find?_eq_none.mpr fun m hm' => by
        rw [hm m (List.mem_range.mp hm')]
        decide
      rw [this]
      simp [hj]
theorem sq_low2 {h1 c1 h2 c2 : BL} (n1 : c1 ≠ []) (n2 : c2 ≠ []) (n : Nat) : ∃ m, m < max h1.length h2.length + c1.length * c2.length ∧ sq h1 c1 n = sq h1 c1 m ∧ sq h2 c2 n = sq h2 c2 m := by
  have q1 := len_pos n1
  have q2 := len_pos n2
  have qp : 0 < c1.length * c2.length := Nat.mul_pos q1 q2
  have m1 : h1.length ≤ max h1.length h2.length := Nat.le_max_left _ _
  have m2 : h2.length ≤ max h1.length h2.length := Nat.le_max_right _ _
  generalize max h1.length h2.length = hs at m1 m2
  by_cases z : n < hs
  · exact ⟨n, by omega, rfl, rfl⟩
  · have hmod := Nat.mod_lt (n - hs) qp
    have hdm := Nat.div_add_mod (n - hs) (c1.length * c2.length)
    have e : n = (hs + (n - hs) % (c1.length * c2.length)) + (c1.length * c2.length) * ((n - hs) / (c1.length * c2.length)) := by omega
    refine ⟨hs + (n - hs) % (c1.length * c2.length), by omega, ?_, ?_⟩
    · generalize (n - hs) % (c1.length * c2.length) = r at e
      rw [e, sq_per (by omega) (Nat.dvd_trans ⟨c2.length, rfl⟩ ⟨_, rfl⟩)]
    · generalize (n - hs) % (c1.length * c2.length) = r at e
      rw [e, sq_per (by omega) (Nat.dvd_trans ⟨c1.length, Nat.mul_comm _ _⟩ ⟨_, rfl⟩)]
def fV : Option Nat → V
  | none => .non
  | some n => nV n
/-- what stands while the law looks -/
structure Fs (K : PySem.W.Frag) (B d sl : Addr) (vo vt v1 v2 v3 v4 : V) (x y z1 z2 z3 z4 : BL × BL) (H : Hp) : Prop where
  b : Box H B d
  o : PA K H vo x
  t : PA K H vt y
  l : H sl = some (.lst [v1, v2, v3, v4])
  s1 : PA K H v1 z1
  s2 : PA K H v2 z2
  s3 : PA K H v3 z3
  s4 : PA K H v4 z4
  nB : sl ≠ B
theorem Fs.go {K : PySem.W.Frag} {B d sl : Addr} {vo vt v1 v2 v3 v4 : V} {x y z1 z2 z3 z4 : BL × BL} {H H' : Hp} (h : Fs K B d sl vo vt v1 v2 v3 v4 x y z1 z2 z3 z4 H) (g : Go B H H') (b : Box H' B d) : Fs K B d sl vo vt v1 v2 v3 v4 x y z1 z2 z3 z4 H' :=
  ⟨b, h.o.go h.b g, h.t.go h.b g, g.ext _ _ h.nB h.l, h.s1.go h.b g, h.s2.go h.b g, h.s3.go h.b g, h.s4.go h.b g, h.nB⟩
theorem Fs.same {K : PySem.W.Frag} {B d sl : Addr} {vo vt v1 v2 v3 v4 : V} {x y z1 z2 z3 z4 : BL × BL} {H H' : Hp} (h : Fs K B d sl vo vt v1 v2 v3 v4 x y z1 z2 z3 z4 H) (s : Same H H') : Fs K B d sl vo vt v1 v2 v3 v4 x y z1 z2 z3 z4 H' := h.go (Go.same s) (h.b.same s)
section
variable {P : Program} {w : World} {K : PySem.W.Frag} {mg : Str → Option Value} {base : Heap}
theorem NT.go {K : PySem.W.Frag} {B d : Addr} {H H' : Hp} {p : Addr} {bs : BL} (b : Box H B d) (g : Go B H H') (h : Tn.NT K H p (bs.map V.bl)) : Tn.NT K H' p (bs.map V.bl) := by
  obtain ⟨p', e, h'⟩ := (show TA K H (.ref p) bs from ⟨p, rfl, h⟩).go b g
  cases e
  exact h'
theorem set_ok {K : PySem.W.Frag} {σ : L2.St} {H : Hp} {Q : VK} {B d : Addr} (hσ : σ[1]? = some (some (.ref B))) (hb : Box H B d)
    (q : ∀ v h c H', Go B H H' → Box H' B d → c ≠ [] → h.length ≤ 6 → c.length ≤ 5 → PA K H' v (stl h c) → Q v H') :
    tCall (spSe K) [] E0 (tCons (tCall (spRow K) [] E0 (tCons (tVar 1) (tCons (tC (.int 7)) tNil))) (tCons (tOp (Tn.rCat K) (Tn.tTupN K (tCons (tOp rEq (tCall spDraw [] E0 (tCons (tVar 1) (tCons (tC (.int 2)) tNil))) (tC (.int 0))) tNil)) (tCall (spRow K) [] E0 (tCons (tVar 1) (tCons (tC (.int 5)) tNil)))) tNil)) σ H Q := by
  refine ⟨_, hσ, B, d, 7, rfl, by decide, by decide, hb, fun vh bsh H2 g2 b2 lh ⟨ph, eh, th⟩ => ?_⟩
  subst eh
  refine ⟨_, hσ, B, d, 2, rfl, by decide, b2, fun y1 H3 y10 y11 g3 b3 => ⟨rfl, ?_⟩⟩
  generalize decide (V.int y1 = V.int 0) = bb
  refine ⟨by show 1 ≤ sizeLine; decide, fun p1 H4 s4 t4 => ?_⟩
  have b4 := b3.same s4
  have t4' : Tn.NT K H4 p1 (([bb] : BL).map V.bl) := t4
  refine ⟨_, hσ, B, d, 5, rfl, by decide, by decide, b4, fun vc bsc H5 g5 b5 lc ⟨pc, ec, tc⟩ => ?_⟩
  subst ec
  refine ⟨p1, pc, _, _, rfl, rfl, NT.go b4 g5 t4', tc, le_line (by rw [List.length_map, List.length_map]; show 1 + bsc.length < 10000000; omega), fun p2 H6 s6 t6 => ?_⟩
  rw [← List.map_append] at t6
  have g26 : Go B H2 H6 := ((g3.trans (Go.same s4)).trans g5).trans (Go.same s6)
  have hne : ([bb] ++ bsc : BL) ≠ [] := by simp
  refine ⟨ph, p2, bsh, [bb] ++ bsc, rfl, .inr (NT.go b2 g26 th), .inr t6, hne, by rw [List.length_append]; show 1 + bsc.length < 1000; omega, sc_ne hne, by omega, fun vo H7 s7 ho => ?_⟩
  exact q vo bsh ([bb] ++ bsc) H7 ((g2.trans g26).trans (Go.same s7)) ((b5.same s6).same s7) hne (by omega) (by rw [List.length_append]; show 1 + bsc.length ≤ 5; omega) ho
theorem row_ok {σ : L2.St} {H : Hp} {Q : VK} {ba bb : Bool} (h8 : σ[8]? = some (some (.bl ba))) (h9 : σ[9]? = some (some (.bl bb)))
    (q : ∀ p, H p = none → Q (.ref p) (upd H p (.lst (([ba || bb, ba && bb, ba && !bb, !ba] : BL).map V.bl)))) :
    tLst (tCons (tOrV (tVar 8) (tVar 9)) (tCons (tAndV (tVar 8) (tVar 9)) (tCons (tAndV (tVar 8) (tNotV (tVar 9))) (tCons (tNotV (tVar 8)) tNil)))) σ H Q := by
  cases ba with
  | true => exact ⟨_, h8, true, rfl, _, h8, true, rfl, _, h9, _, h8, true, rfl, _, h9, bb, rfl, _, h8, true, rfl, by show 4 ≤ sizeLine; decide, q⟩
  | false => exact ⟨_, h8, false, rfl, _, h9, _, h8, false, rfl, _, h8, false, rfl, _, h8, false, rfl, by show 4 ≤ sizeLine; decide, q⟩
theorem find_take {l : List Nat} {i n : Nat} {g : Nat → Bool} (h : l[i]? = some n) : (l.take (i + 1)).find? g = match (l.take i).find? g with | some m => some m | none => if g n = true then some n else none := by
  rw [List.take_succ, h, List.find?_append]
  cases (l.take i).find? g with
  | some m => rfl
  | none =>
    show [n].find? g = _
    by_cases z : g n = true
    · rw [if_pos z, List.find?_cons_of_pos z]
    · rw [if_neg z, List.find?_cons_of_neg z]
      rfl
theorem all_take' {l : List Nat} {i n : Nat} {g : Nat → Bool} (h : l[i]? = some n) : (l.take (i + 1)).all g = ((l.take i).all g && g n) := by
  rw [List.take_succ, h, List.all_append]
  simp
theorem lv_eq {x : BL × BL} {lv : V} {fars : List Nat} (h : LV x lv) (hl : x.1.length + x.2.length ≤ 80) : lv = fV ((List.range 80 ++ fars).find? fun n => sq x.1 x.2 n) := by
  rcases h with ⟨j, rfl, h1, h2, h3⟩ | ⟨rfl, h⟩
  · rw [List.find?_append, find_range (g := fun n => sq x.1 x.2 n) h2 h3 80 (by omega)]
    rfl
  · have : (List.range 80 ++ fars).find? (fun n => sq x.1 x.2 n) = none := List.find?_eq_none.mpr fun m _ => by
      rw [h m]
      decide
    rw [this]
    rfl
theorem fv_non {o : Option Nat} : decide (fV o = V.non) = o.isNone := by
  cases o with
  | none => rfl
  | some n => rfl
theorem none_eq {x : BL × BL} {b : Bool} {fars : List Nat} (hx : x.2 ≠ []) (hl : x.1.length + x.2.length ≤ 80) (h : b = true ↔ ∀ n, sq x.1 x.2 n = false) : b = ((List.range 80 ++ fars).find? fun n => sq x.1 x.2 n).isNone := by
  rw [Bool.eq_iff_iff, h, Option.isNone_iff_eq_none, List.find?_eq_none]
  constructor
  · intro z m _
    rw [z m]
    decide
  · intro z n
    obtain ⟨m, hm, e⟩ := sq_low (h := x.1) hx n
    rw [e]
    have := z m (List.mem_append_left _ (List.mem_range.mpr (by omega)))
    simpa using this
theorem within_eq {x y : BL × BL} {b : Bool} {fars : List Nat} (hx : x.2 ≠ []) (hy : y.2 ≠ []) (hl : hsz x y + x.2.length * y.2.length ≤ 80) (h : b = true ↔ ∀ n, (sq x.1 x.2 n && !sq y.1 y.2 n) = false) : b = (List.range 80 ++ fars).all fun n => !(sq x.1 x.2 n && !sq y.1 y.2 n) := by
  rw [Bool.eq_iff_iff, h, List.all_eq_true]
  constructor
  · intro z m _
    rw [z m]
    rfl
  · intro z n
    obtain ⟨m, hm, e1, e2⟩ := sq_low2 (h1 := x.1) (h2 := y.1) hx hy n
    rw [e1, e2]
    have hm : m < hsz x y + x.2.length * y.2.length := hm
    have := z m (List.mem_append_left _ (List.mem_range.mpr (by omega)))
    revert this
    cases sq x.1 x.2 m <;> cases sq y.1 y.2 m <;> simp
theorem ne_same {v : V} {H : Hp} {Q : VK} (hs : scal v v = true) (q : Q (.bl false) H) : rNe v v H Q := by
  refine ⟨hs, ?_⟩
  rw [show (!decide (v = v)) = false by simp]
  exact q
theorem ne_eq {v w : V} {H : Hp} {Q : VK} (e : v = w) (hs : scal v v = true) (q : Q (.bl false) H) : rNe v w H Q := by
  subst e
  exact ne_same hs q
theorem scal_fv (o : Option Nat) : scal (fV o) (fV o) = true := by cases o <;> rfl
theorem cv_true (i : Int) : cv [true] i = true := by
  unfold cv
  have : (i % (([true] : BL).length : Int)).toNat = 0 := by
    show (i % 1).toNat = 0
    rw [Int.emod_one]
    rfl
  rw [this]
  rfl
abbrev sLaw : Stmt := top 27
abbrev nLaw : List Str := ["script", "box", "one", "two", "sets", "first", "within", "number", "a", "b", "other", "low", "high", "offset", "k"]
theorem scLaw : FnScope nLaw ["script"] (defScope sLaw) := ⟨rfl, rfl, rfl, by decide +kernel, rfl, by decide +kernel, by decide +kernel⟩
def spLaw (K : PySem.W.Frag) : Sp := fun vs H Q _ => ∃ (a : Addr) (ns : List Int), vs = [.ref a] ∧ SqL K H a (ns.map V.int) ∧ ∀ H', Q (.bl true) H'
theorem ok_law {f fG fR fD fE fS fU fM fF fP fC fL fW fA fN fI fV' : Addr} {fd fdG fdR fdD fdE fdS fdU fdM fdF fdP fdC fdL fdW fdA fdN fdI fdV : FuncData} (F : Fun K "law" "law" sLaw f fd)
    (gG : FnOk P w K mg base CX0 2 fG fdG ["script", "first", "last"] (spDigits K)) (bG : Binds K fdG ["script", "first", "last"] []) (kG : PySem.W.keepIn K (.ref fG) = true) (mG : mg "_law_digits" = some (.ref fG))
    (gR : FnOk P w K mg base CX0 2 fR fdR ["box", "most"] (spRow K)) (bR : Binds K fdR ["box", "most"] []) (kR : PySem.W.keepIn K (.ref fR) = true) (mR : mg "_law_row" = some (.ref fR))
    (gD : FnOk P w K mg base CX0 1 fD fdD ["box", "many"] spDraw) (bD : Binds K fdD ["box", "many"] []) (kD : PySem.W.keepIn K (.ref fD) = true) (mD : mg "_law_draw" = some (.ref fD))
    (gS : FnOk P w K mg base CX0 3 fS fdS ["head", "cycle"] (spSe K)) (bS : Binds K fdS ["head", "cycle"] []) (kS : PySem.W.keepIn K (.ref fS) = true) (mS : mg "settled" = some (.ref fS))
    (gU : FnOk P w K mg base CX0 5 fU fdU ["one", "other"] (spCm K fun a b => a || b)) (bU : Binds K fdU ["one", "other"] []) (kU : PySem.W.keepIn K (.ref fU) = true) (mU : mg "union" = some (.ref fU))
    (gM : FnOk P w K mg base CX0 4 fM fdM ["one", "other"] (spCm K fun a b => a && b)) (bM : Binds K fdM ["one", "other"] []) (kM : PySem.W.keepIn K (.ref fM) = true) (mM : mg "common" = some (.ref fM))
    (gF : FnOk P w K mg base CX0 5 fF fdF ["one", "other"] (spCm K fun a b => a && !b)) (bF : Binds K fdF ["one", "other"] []) (kF : PySem.W.keepIn K (.ref fF) = true) (mF : mg "difference" = some (.ref fF))
    (gP : FnOk P w K mg base CX0 1 fP fdP ["one"] (spCp K)) (bP : Binds K fdP ["one"] []) (kP : PySem.W.keepIn K (.ref fP) = true) (mP : mg "complement" = some (.ref fP))
    (gC : FnOk P w K mg base CX0 1 fC fdC ["one", "number"] (spCn K)) (bC : Binds K fdC ["one", "number"] []) (kC : PySem.W.keepIn K (.ref fC) = true) (mC : mg "contains" = some (.ref fC))
    (gL : FnOk P w K mg base CX0 1 fL fdL ["one"] (spLe K)) (bL : Binds K fdL ["one"] []) (kL : PySem.W.keepIn K (.ref fL) = true) (mL : mg "least" = some (.ref fL))
    (gE : FnOk P w K mg base CX0 1 fE fdE ["one"] (spEm K)) (bE : Binds K fdE ["one"] []) (kE : PySem.W.keepIn K (.ref fE) = true) (mE : mg "is_empty" = some (.ref fE))
    (gW : FnOk P w K mg base CX0 6 fW fdW ["one", "other"] (spWi K)) (bW : Binds K fdW ["one", "other"] []) (kW : PySem.W.keepIn K (.ref fW) = true) (mW : mg "is_within" = some (.ref fW))
    (gA : FnOk P w K mg base CX0 2 fA fdA ["box"] spFar) (bA : Binds K fdA ["box"] []) (kA : PySem.W.keepIn K (.ref fA) = true) (mA : mg "_law_far" = some (.ref fA))
    (gN : FnOk P w K mg base CX0 4 fN fdN ["low", "high"] (spRs K)) (bN : Binds K fdN ["low", "high"] []) (kN : PySem.W.keepIn K (.ref fN) = true) (mN : mg "range_set" = some (.ref fN))
    (gI : FnOk P w K mg base CX0 5 fI fdI ["number"] (spSi K)) (bI : Binds K fdI ["number"] []) (kI : PySem.W.keepIn K (.ref fI) = true) (mI : mg "single" = some (.ref fI))
    (gV : FnOk P w K mg base CX0 4 fV' fdV ["one", "offset"] (spMv K)) (bV : Binds K fdV ["one", "offset"] []) (kV : PySem.W.keepIn K (.ref fV') = true) (mV : mg "moved" = some (.ref fV'))
    (NN : KP K mg "NONE" ([], [false])) (NA : KP K mg "ALL" ([], [true])) (mr : mg "range" = none) (mx : mg "max" = none) :
    FnOk P w K mg base CX0 8 f fd ["script"] (spLaw K) := by
  refine F.ok scLaw (fun vs H Q E h => ?_) (fun cdv A outer s H vs Q E hr h => ?_)
  · obtain ⟨a, ns, rfl, _⟩ := h
    rfl
  obtain ⟨a, ns, rfl, hS, q⟩ := h
  obtain ⟨nN, mNN, hNN⟩ := NN
  obtain ⟨nA, mNA, hNA⟩ := NA
  have nd := scLaw.nd
  refine ⟨_, pss_cons (ps_set (i := 1) nd rfl (.inr rfl) (pe_lst (pa_cons (pe_call gG (hr.mono (by decide)) rfl mG kG bG .nil pass0 (pa_cons (pv 0) (pa_cons pe_int (pa_cons pe_int pa_nil)))) (pa_cons pe_int pa_nil))))
    (pss_cons (ps_set (i := 2) nd rfl (.inl rfl) (pe_call gS (hr.mono (by decide)) rfl mS kS bS .nil pass0 (pa_cons (pe_call gR (hr.mono (by decide)) rfl mR kR bR .nil pass0 (pa_cons (pv 1) (pa_cons pe_int pa_nil))) (pa_cons (pe_op Tn.cat (Tn.pe_tupN (pa_cons (pe_cmpR op_eq (pe_call gD (hr.mono (by decide)) rfl mD kD bD .nil pass0 (pa_cons (pv 1) (pa_cons pe_int pa_nil))) pe_int (nomark _)) pa_nil)) (pe_call gR (hr.mono (by decide)) rfl mR kR bR .nil pass0 (pa_cons (pv 1) (pa_cons pe_int pa_nil)))) pa_nil))))
    (pss_cons (ps_set (i := 3) nd rfl (.inl rfl) (pe_call gS (hr.mono (by decide)) rfl mS kS bS .nil pass0 (pa_cons (pe_call gR (hr.mono (by decide)) rfl mR kR bR .nil pass0 (pa_cons (pv 1) (pa_cons pe_int pa_nil))) (pa_cons (pe_op Tn.cat (Tn.pe_tupN (pa_cons (pe_cmpR op_eq (pe_call gD (hr.mono (by decide)) rfl mD kD bD .nil pass0 (pa_cons (pv 1) (pa_cons pe_int pa_nil))) pe_int (nomark _)) pa_nil)) (pe_call gR (hr.mono (by decide)) rfl mR kR bR .nil pass0 (pa_cons (pv 1) (pa_cons pe_int pa_nil)))) pa_nil))))
    (pss_cons (ps_set (i := 4) nd rfl (.inl rfl) (pe_lst (pa_cons (pe_call gU (hr.mono (by decide)) rfl mU kU bU .nil pass0 (pa_cons (pv 2) (pa_cons (pv 3) pa_nil))) (pa_cons (pe_call gM (hr.mono (by decide)) rfl mM kM bM .nil pass0 (pa_cons (pv 2) (pa_cons (pv 3) pa_nil))) (pa_cons (pe_call gF (hr.mono (by decide)) rfl mF kF bF .nil pass0 (pa_cons (pv 2) (pa_cons (pv 3) pa_nil))) (pa_cons (pe_call gP (hr.mono (by decide)) rfl mP kP bP .nil pass0 (pa_cons (pv 2) pa_nil)) pa_nil))))))
    (pss_cons (ps_set (i := 5) nd rfl (.inl rfl) pe_non)
    (pss_cons (ps_set (i := 6) nd rfl (.inl rfl) pe_bl)
    (pss_cons (ps_for PassesOwn.never rfl (pi_list (pe_op op_cat
        (pe_lc (own := [("k", 14)]) (g := gName 14) (tt := tYes) (te := tVar 14) rfl nd (pi_range1 rfl mr (pa_cons pe_int pa_nil)) (blkOk_by (N := nLaw) (sc := defScope sLaw) (by decide +kernel)) (fun _ _ _ _ _ => pg_name (i := 14) nd rfl (.inl rfl)) (fun _ _ _ _ _ => pts_nil) (fun _ _ _ _ _ => pv 14))
        (pe_lc (own := [("k", 14)]) (g := gName 14) (tt := tYes) (te := tCall spFar [] E0 (tCons (tVar 1) tNil)) rfl nd (pi_range1 rfl mr (pa_cons pe_int pa_nil)) (blkOk_by (N := nLaw) (sc := defScope sLaw) (by decide +kernel)) (fun _ _ _ _ _ => pg_name (i := 14) nd rfl (.inl rfl)) (fun _ _ _ _ _ => pts_nil) (fun _ _ _ _ _ => pe_call gA (hr.mono (by decide)) rfl mA kA bA .nil pass0 (pa_cons (pv 1) pa_nil))))) (pg_name (i := 7) nd rfl (.inr rfl))
      (pss_cons (ps_set (i := 8) nd rfl (.inl rfl) (pe_call gC (hr.mono (by decide)) rfl mC kC bC .nil pass0 (pa_cons (pv 2) (pa_cons (pv 7) pa_nil))))
      (pss_cons (ps_set (i := 9) nd rfl (.inl rfl) (pe_call gC (hr.mono (by decide)) rfl mC kC bC .nil pass0 (pa_cons (pv 3) (pa_cons (pv 7) pa_nil))))
      (pss_cons (ps_if (pt_cmpR (op_neD hr.units)
          (pe_lc (own := [("other", 10)]) (g := gName 10) (tt := tYes) (te := tCall (spCn K) [] E0 (tCons (tVar 10) (tCons (tVar 7) tNil))) rfl nd (pi_list (pv 4)) (blkOk_by (N := nLaw) (sc := defScope sLaw) (by decide +kernel)) (fun _ _ _ _ _ => pg_name (i := 10) nd rfl (.inl rfl)) (fun _ _ _ _ _ => pts_nil) (fun _ _ _ _ _ => pe_call gC (hr.mono (by decide)) rfl mC kC bC .nil pass0 (pa_cons (pv 10) (pa_cons (pv 7) pa_nil))))
          (pe_lst (pa_cons (pe_or (pv 8) (pe_one (pv 9))) (pa_cons (pe_and (pv 8) (pe_one (pv 9))) (pa_cons (pe_and (pv 8) (pe_one (pe_not (pv 9)))) (pa_cons (pe_not (pv 8)) pa_nil))))) (nomark _)) (pss_one (ps_ret pe_bl)) pss_nil)
      (Evl.pss_cut (ps_if (PW.pt (pw_and (pt_val (pv 8)) (pw_and1 (pt_cmpR op_isN (pv 5) pe_non (nomark _))))) (pss_one (ps_set (i := 5) nd rfl (.inl rfl) (pv 7))) pss_nil)
      (pss_one (ps_if (PW.pt (pw_and (pt_val (pv 8)) (pw_and1 (pt_not (pt_val (pv 9)))))) (pss_one (ps_set (i := 6) nd rfl (.inl rfl) pe_bl)) pss_nil)))))))
    (pss_cons (ps_for PassesOwn.never rfl (pi_list (pv 4)) (pg_name (i := 10) nd rfl (.inl rfl))
      (pss_one (ps_if (pt_cmpR (op_neD hr.units) (pe_call gS (hr.mono (by decide)) rfl mS kS bS .nil pass0 (pa_cons (pe_ix ix_tup (pv 10) pe_int (fun _ _ => rfl)) (pa_cons (pe_ix ix_tup (pv 10) pe_int (fun _ _ => rfl)) pa_nil))) (pv 10) (nomark _)) (pss_one (ps_ret pe_bl)) pss_nil)))
    (pss_cons (ps_if (PW.pt (pw_or (pt_cmpR op_ne (pe_call gL (hr.mono (by decide)) rfl mL kL bL .nil pass0 (pa_cons (pv 2) pa_nil)) (pv 5) (nomark _))
        (pw_or (pt_cmpR op_ne (pe_call gE (hr.mono (by decide)) rfl mE kE bE .nil pass0 (pa_cons (pv 2) pa_nil)) (pe_cmpR op_isN (pv 5) pe_non (nomark _)) (nomark _))
        (pw_or1 (pt_cmpR op_ne (pe_call gW (hr.mono (by decide)) rfl mW kW bW .nil pass0 (pa_cons (pv 2) (pa_cons (pv 3) pa_nil))) (pv 6) (nomark _)))))) (pss_one (ps_ret pe_bl)) pss_nil)
    (pss_cons (ps_if (PW.pt (pw_or (pt_not (pt_val (pe_call gE (hr.mono (by decide)) rfl mE kE bE .nil pass0 (pa_cons (pe_glob rfl mNN (v := .ref nN) rfl) pa_nil))))
        (pw_or1 (pt_cmpR op_notBl (pe_call gC (hr.mono (by decide)) rfl mC kC bC .nil pass0 (pa_cons (pe_glob rfl mNA (v := .ref nA) rfl) (pa_cons (pe_call gA (hr.mono (by decide)) rfl mA kA bA .nil pass0 (pa_cons (pv 1) pa_nil)) pa_nil))) pe_bl (nomark _))))) (pss_one (ps_ret pe_bl)) pss_nil)
    (pss_cons (ps_set (i := 11) nd rfl (.inl rfl) (pe_call gD (hr.mono (by decide)) rfl mD kD bD .nil pass0 (pa_cons (pv 1) (pa_cons pe_int pa_nil))))
    (pss_cons (ps_set (i := 12) nd rfl (.inl rfl) (pe_op op_add (pv 11) (pe_call gD (hr.mono (by decide)) rfl mD kD bD .nil pass0 (pa_cons (pv 1) (pa_cons pe_int pa_nil)))))
    (pss_cons (ps_set (i := 13) nd rfl (.inl rfl) (pe_call gD (hr.mono (by decide)) rfl mD kD bD .nil pass0 (pa_cons (pv 1) (pa_cons pe_int pa_nil))))
    (pss_cons (ps_for PassesOwn.never rfl (pi_range1 rfl mr (pa_cons pe_int pa_nil)) (pg_name (i := 7) nd rfl (.inr rfl))
      (pss_cons (ps_if (PW.pt (pw_or (pt_cmpR op_ne (pe_call gC (hr.mono (by decide)) rfl mC kC bC .nil pass0 (pa_cons (pe_call gN (hr.mono (by decide)) rfl mN kN bN .nil pass0 (pa_cons (pv 11) (pa_cons (pv 12) pa_nil))) (pa_cons (pv 7) pa_nil))) (pe_chain op_le op_le (pv 11) (pv 7) (pv 12)) (nomark _))
          (pw_or1 (pt_cmpR op_ne (pe_call gC (hr.mono (by decide)) rfl mC kC bC .nil pass0 (pa_cons (pe_call gI (hr.mono (by decide)) rfl mI kI bI .nil pass0 (pa_cons (pv 11) pa_nil)) (pa_cons (pv 7) pa_nil))) (pe_cmpR op_eq (pv 7) (pv 11) (nomark _)) (nomark _))))) (pss_one (ps_ret pe_bl)) pss_nil)
      (pss_one (ps_if (pt_cmpR op_ne (pe_call gC (hr.mono (by decide)) rfl mC kC bC .nil pass0 (pa_cons (pe_call gV (hr.mono (by decide)) rfl mV kV bV .nil pass0 (pa_cons (pv 2) (pa_cons (pv 13) pa_nil))) (pa_cons (pv 7) pa_nil)))
          (pe_and (pe_cmpR op_ge (pv 7) (pv 13) (nomark _)) (pe_one (pe_call gC (hr.mono (by decide)) rfl mC kC bC .nil pass0 (pa_cons (pv 2) (pa_cons (pe_callB (call_max2 rfl) (by rfl) mx (by decide +kernel) (pa_cons pe_int (pa_cons (pe_op op_sub (pv 7) (pv 13)) pa_nil))) pa_nil))))) (nomark _)) (pss_one (ps_ret pe_bl)) pss_nil))))
    (pss_one (ps_ret pe_bl))))))))))))))), ?_⟩
  refine ⟨_, rfl, a, ns, rfl, hS, fun d H1 ds hd0 s1 hd => ⟨by show 2 ≤ sizeLine; decide, fun B hB => ?_⟩⟩
  have ndB : d ≠ B := ne_of_none hd hB
  generalize hH0 : upd H1 B (.lst [.ref d, .int 0]) = H0
  have hB0 : H0 B = some (.lst [.ref d, .int 0]) := by rw [← hH0]; exact upd_same
  have hbox : Box H0 B d := ⟨ds, 0, hB0, by rw [← hH0, upd_ne ndB]; exact hd, Int.le_refl 0⟩
  refine set_ok rfl hbox fun vo h1 c1 H2 g2 b2 n1 lh1 lc1 hvo => ?_
  refine set_ok rfl b2 fun vt h2 c2 H3 g3 b3 n2 lh2 lc2 hvt => ?_
  have G1 : Gs (stl h1 c1) (fun n => sq (stl h1 c1).1 (stl h1 c1).2 n) := ⟨stl_Stl n1, fun _ => rfl⟩
  have G2 : Gs (stl h2 c2) (fun n => sq (stl h2 c2).1 (stl h2 c2).2 n) := ⟨stl_Stl n2, fun _ => rfl⟩
  have L1 := stl_len (h := h1) n1
  have L2' := stl_len (h := h2) n2
  generalize stl h1 c1 = x at hvo G1 L1
  generalize stl h2 c2 = y at hvt G2 L2'
  have xn := G1.1.nc
  have yn := G2.1.nc
  have lx1 : x.1.length ≤ 6 := by omega
  have lx2 : x.2.length ≤ 5 := by omega
  have ly1 : y.1.length ≤ 6 := by omega
  have ly2 : y.2.length ≤ 5 := by omega
  have hm : x.2.length * y.2.length ≤ 5 * 5 := Nat.mul_le_mul lx2 ly2
  have hh : hsz x y ≤ 6 := Nat.max_le.mpr ⟨lx1, ly1⟩
  have hvo3 := hvo.go b2 g3
  refine ⟨_, rfl, _, rfl, vo, vt, x, y, rfl, hvo3, hvt, xn, yn, by omega, by omega, by omega, fun v1 H4 z1 s4 hv1 gz1 lz11 lz12 => ?_⟩
  refine ⟨_, rfl, _, rfl, vo, vt, x, y, rfl, hvo3.same s4, hvt.same s4, xn, yn, by omega, by omega, by omega, fun v2 H5 z2 s5 hv2 gz2 lz21 lz22 => ?_⟩
  have s45 := s4.trans s5
  refine ⟨_, rfl, _, rfl, vo, vt, x, y, rfl, hvo3.same s45, hvt.same s45, xn, yn, by omega, by omega, by omega, fun v3 H6 z3 s6 hv3 gz3 lz31 lz32 => ?_⟩
  have s46 := s45.trans s6
  refine ⟨_, rfl, vo, x, rfl, hvo3.same s46, by omega, by omega, fun v4 H7 s7 hv4 => ?_⟩
  have s47 := s46.trans s7
  have gz4 : Gs (neg x.1, neg x.2) (fun n => !sq x.1 x.2 n) := ⟨G1.1.neg, fun n => sq_neg xn n⟩
  have lz41 : (neg x.1, neg x.2).1.length ≤ 6 := by show (neg x.1).length ≤ 6; rw [neg_len]; exact lx1
  have lz42 : (neg x.1, neg x.2).2.length ≤ 5 := by show (neg x.2).length ≤ 5; rw [neg_len]; exact lx2
  generalize (neg x.1, neg x.2) = z4 at hv4 gz4 lz41 lz42
  refine ⟨by show 4 ≤ sizeLine; decide, fun sl hsl => ?_⟩
  have s8 : Same H7 (upd H7 sl (.lst [v1, v2, v3, v4])) := same_new hsl _
  have b7 := b3.same s47
  have fs8 : Fs K B d sl vo vt v1 v2 v3 v4 x y z1 z2 z3 z4 (upd H7 sl (.lst [v1, v2, v3, v4])) :=
    ⟨b7.same s8, hvo3.same (s47.trans s8), hvt.same (s47.trans s8), upd_same, hv1.same (((s5.trans s6).trans s7).trans s8), hv2.same ((s6.trans s7).trans s8), hv3.same (s7.trans s8), hv4.same s8, b7.neB hsl⟩
  generalize upd H7 sl (.lst [v1, v2, v3, v4]) = H8 at fs8
  clear s8 hsl hv1 hv2 hv3 hv4 s47 s46 s45 s7 s6 s5 s4 hvo3 hvt hvo g3 g2 b3 b2 hbox hB0 hH0
  -- the numbers
  refine ⟨80, rfl, by decide, by decide, fun D hD => lc_range (lo := 0) (n := 80) (fun j H' => Same H8 H' ∧ H' D = some (.lst ((List.range j).map nV))) ⟨same_new hD _, upd_same⟩ ?_ ?_⟩
  · rintro j H' hj ⟨s', hD'⟩
    refine ⟨rfl, _, rfl, _, hD', sz_line (by rw [List.length_map, List.length_range]; omega), same_mut s' hD _, ?_⟩
    rw [upd_same, List.range_succ, List.map_append, Int.zero_add]
    rfl
  rintro H9 ⟨s9, hD9⟩
  have fs9 := fs8.same s9
  clear s9 fs8
  refine ⟨9, rfl, by decide, by decide, fun D2 hD2 => lc_range (lo := 0) (n := 9) (fun j H' => ∃ fs : List Nat, Go B H9 H' ∧ Box H' B d ∧ H' D2 = some (.lst (fs.map nV)) ∧ fs.length = j) ⟨[], Go.new hD2 _, fs9.b.new hD2 _, upd_same, rfl⟩ ?_ ?_⟩
  · rintro j H' hj ⟨fs, g', b', hD', hl⟩
    refine ⟨rfl, _, rfl, B, d, rfl, b', fun z H'' g'' b'' => ?_⟩
    have D2B := fs9.b.neB hD2
    refine ⟨_, g''.ext _ _ D2B hD', sz_line (by rw [List.length_map]; omega), fs ++ [z], (g'.trans g'').mut hD2 _, b''.mut D2B (fs9.b.neD hD2) _, ?_, by rw [List.length_append, hl]; rfl⟩
    rw [upd_same, List.map_append]
    rfl
  rintro HA ⟨fars, gA, bA, hDA, hfl⟩
  have fsA := fs9.go gA bA
  have hDB : D ≠ B := by
    rintro rfl
    obtain ⟨ds', i', hB', _⟩ := fs9.b
    rw [hD9] at hB'
    injection hB' with hB'
    injection hB' with hB'
    have := congrArg List.length hB'
    simp at this
  have hD9A := gA.ext _ _ hDB hD9
  refine ⟨D, D2, _, _, rfl, rfl, hD9A, hDA, le_line (by rw [List.length_map, List.length_map, List.length_range]; omega), fun nl hnl => ⟨nl, rfl, ⟨_, SqL.of upd_same⟩, ?_⟩⟩
  rw [← List.map_append]
  generalize hnums : List.range 80 ++ fars = nums
  have fsB := fsA.same (same_new hnl (.lst (nums.map nV)))
  have hnlB : nl ≠ B := fsA.b.neB hnl
  refine for_list (xs := nums.map nV) (fun i σ H' => ∃ (o7 o8 o9 o10 : Option V), σ = [some (.ref a), some (.ref B), some vo, some vt, some (.ref sl), some (fV ((nums.take i).find? fun n => sq x.1 x.2 n)), some (.bl ((nums.take i).all fun n => !(sq x.1 x.2 n && !sq y.1 y.2 n))), o7, o8, o9, o10, none, none, none, none] ∧ H' nl = some (.lst (nums.map nV)) ∧ Fs K B d sl vo vt v1 v2 v3 v4 x y z1 z2 z3 z4 H')
    ⟨_, _, _, _, rfl, upd_same, fsB⟩ (fun i σ H' _ ⟨_, _, _, _, _, h, _⟩ => SqL.of h) ?_ ?_
  · rintro i xx σ H' hx ⟨o7, o8, o9, o10, rfl, hn', fs'⟩
    rw [List.getElem?_map] at hx
    obtain ⟨n, hn, rfl⟩ := Option.map_eq_some_iff.mp hx
    refine ⟨_, rfl, _, rfl, vo, x.1, x.2, n, rfl, fs'.o, xn, by omega, by omega, ?_⟩
    refine ⟨_, rfl, _, rfl, vt, y.1, y.2, n, rfl, fs'.t, yn, by omega, by omega, ?_⟩
    have hfi := find_take (g := fun n => sq x.1 x.2 n) hn
    have hal := all_take' (g := fun n => !(sq x.1 x.2 n && !sq y.1 y.2 n)) hn
    have hcs : ∀ (j : Nat) (v : V), ([v1, v2, v3, v4] : List V)[j]? = some v → ∃ z : BL × BL, PA K H' v z ∧ z.2 ≠ [] ∧ z.1.length < 100000 ∧ z.2.length < 100000 ∧ ([sq x.1 x.2 n || sq y.1 y.2 n, sq x.1 x.2 n && sq y.1 y.2 n, sq x.1 x.2 n && !sq y.1 y.2 n, !sq x.1 x.2 n] : BL)[j]? = some (sq z.1 z.2 n) := by
      intro j v hj
      match j, hj with
      | 0, hj =>
        cases hj
        exact ⟨z1, fs'.s1, gz1.1.nc, by omega, by omega, congrArg some (gz1.2 n).symm⟩
      | 1, hj =>
        cases hj
        exact ⟨z2, fs'.s2, gz2.1.nc, by omega, by omega, congrArg some (gz2.2 n).symm⟩
      | 2, hj =>
        cases hj
        exact ⟨z3, fs'.s3, gz3.1.nc, by omega, by omega, congrArg some (gz3.2 n).symm⟩
      | 3, hj =>
        cases hj
        exact ⟨z4, fs'.s4, gz4.1.nc, by omega, by omega, congrArg some (gz4.2 n).symm⟩
      | j + 4, hj => simp at hj
    generalize hA : sq x.1 x.2 n = ba at hfi hal hcs ⊢
    generalize hBb : sq y.1 y.2 n = bb at hal hcs ⊢
    generalize hcl : ([ba || bb, ba && bb, ba && !bb, !ba] : BL) = cs at hcs
    have hcsl : cs.length = 4 := by rw [← hcl]; rfl
    refine ⟨_, rfl, sl, rfl, ⟨_, SqL.of fs'.l⟩, fun D3 hD3 => ?_⟩
    refine lc_list (xs := [v1, v2, v3, v4]) (fun j H'' => Same H' H'' ∧ H'' D3 = some (.lst ((cs.take j).map V.bl))) ⟨same_new hD3 _, upd_same⟩ (fun j H'' _ ⟨s', _⟩ => SqL.of (s' _ _ fs'.l)) ?_ ?_
    · rintro j v H'' hj ⟨s', hD'⟩
      obtain ⟨z, hz1, hz2, hz3, hz4, hz5⟩ := hcs j v hj
      have hj4 : j < 4 := (List.getElem?_eq_some_iff.mp hj).1
      refine ⟨rfl, _, rfl, _, rfl, v, z.1, z.2, n, rfl, hz1.same s', hz2, hz3, hz4, _, hD', sz_line (by rw [List.length_map, List.length_take]; omega), same_mut s' hD3 _, ?_⟩
      rw [upd_same, List.take_succ, hz5, List.map_append]
      rfl
    rintro H'' ⟨s'', hD3'⟩
    rw [show cs.take ([v1, v2, v3, v4] : List V).length = cs from List.take_of_length_le (by rw [hcsl]; exact Nat.le_refl _)] at hD3'
    refine row_ok rfl rfl fun ml hml => ?_
    have sm : Same H'' (upd H'' ml (.lst (([ba || bb, ba && bb, ba && !bb, !ba] : BL).map V.bl))) := same_new hml _
    refine ⟨_, _, .lst (SqL.of (sm _ _ hD3')) (dpl cs), .lst (SqL.of upd_same) (dpl _), shpL _, shpL _, ?_⟩
    rw [hcl, SeqAt.eqv_refl _ (SeqAt.canLay_of_shaped (shpL cs))]
    refine ⟨_, rfl, ?_⟩
    have fs2 := fs'.same (s''.trans sm)
    have hn2 := (s''.trans sm) _ _ hn'
    rw [hcl] at fs2 hn2
    refine iteF ⟨fun σ H3 => σ = [some (.ref a), some (.ref B), some vo, some vt, some (.ref sl), some (fV ((nums.take (i + 1)).find? fun n => sq x.1 x.2 n)), some (.bl ((nums.take i).all fun n => !(sq x.1 x.2 n && !sq y.1 y.2 n))), some (nV n), some (.bl ba), some (.bl bb), o10, none, none, none, none] ∧ H3 nl = some (.lst (nums.map nV)) ∧ Fs K B d sl vo vt v1 v2 v3 v4 x y z1 z2 z3 z4 H3, ?_, ?_⟩
    · rw [hfi]
      cases ba with
      | false =>
        refine ⟨_, rfl, false, rfl, iteF ⟨?_, hn2, fs2⟩⟩
        cases (nums.take i).find? fun n => sq x.1 x.2 n <;> rfl
      | true =>
        cases hq : (nums.take i).find? fun n => sq x.1 x.2 n with
        | none =>
          refine ⟨_, rfl, true, rfl, _, rfl, rfl, _, rfl, iteT ⟨_, rfl, rfl, hn2, fs2⟩⟩
        | some m =>
          refine ⟨_, rfl, true, rfl, _, rfl, rfl, _, rfl, iteF ⟨rfl, hn2, fs2⟩⟩
    rintro σ H3 ⟨rfl, hn3, fs3⟩
    cases ba with
    | false =>
      refine ⟨_, rfl, false, rfl, iteF ⟨some (nV n), some (.bl false), some (.bl bb), o10, ?_, hn3, fs3⟩⟩
      rw [hal]
      simp
    | true =>
      cases bb with
      | true =>
        refine ⟨_, rfl, true, rfl, _, rfl, true, rfl, iteF ⟨some (nV n), some (.bl true), some (.bl true), o10, ?_, hn3, fs3⟩⟩
        rw [hal]
        simp
      | false =>
        refine ⟨_, rfl, true, rfl, _, rfl, false, rfl, iteT ⟨some (nV n), some (.bl true), some (.bl false), o10, ?_, hn3, fs3⟩⟩
        rw [hal]
        simp
        try rfl
  · rintro σ HC ⟨o7, o8, o9, o10, rfl, hn', fsC⟩
    rw [List.length_map, List.take_length]
    clear hn' fsB fsA fs9
    subst hnums
    refine ⟨_, rfl, sl, rfl, ⟨_, SqL.of fsC.l⟩, ?_⟩
    have hst : ∀ (j : Nat) (v : V), ([v1, v2, v3, v4] : List V)[j]? = some v → ∃ z : BL × BL, PA K HC v z ∧ Stl z.1 z.2 ∧ z.1.length ≤ 6 ∧ z.2.length ≤ 25 := by
      intro j v hj
      match j, hj with
      | 0, hj =>
        cases hj
        exact ⟨z1, fsC.s1, gz1.1, by omega, by omega⟩
      | 1, hj =>
        cases hj
        exact ⟨z2, fsC.s2, gz2.1, by omega, by omega⟩
      | 2, hj =>
        cases hj
        exact ⟨z3, fsC.s3, gz3.1, by omega, by omega⟩
      | 3, hj =>
        cases hj
        exact ⟨z4, fsC.s4, gz4.1, by omega, by omega⟩
      | j + 4, hj => simp at hj
    generalize hfi : (List.range 80 ++ fars).find? (fun n => sq x.1 x.2 n) = fi
    generalize hwi : (List.range 80 ++ fars).all (fun n => !(sq x.1 x.2 n && !sq y.1 y.2 n)) = wi
    refine for_list (xs := [v1, v2, v3, v4]) (fun j σ H'' => Same HC H'' ∧ ∃ o10, σ = [some (.ref a), some (.ref B), some vo, some vt, some (.ref sl), some (fV fi), some (.bl wi), o7, o8, o9, o10, none, none, none, none]) ⟨Same.refl _, _, rfl⟩ (fun j σ H'' _ ⟨s', _⟩ => SqL.of (s' _ _ fsC.l)) ?_ ?_
    · rintro j v σ H'' hj ⟨s', o10, rfl⟩
      obtain ⟨z, hz1, hz2, hz3, hz4⟩ := hst j v hj
      obtain ⟨u, a1, a2, rfl, hu, ⟨p, ep, hp⟩, ⟨r, er, hr1⟩⟩ := id (hz1.same s')
      subst ep er
      refine ⟨_, rfl, u, _, 0, .ref p, rfl, rfl, hu, atI_nat (j := 0) rfl, _, rfl, u, _, 1, .ref r, rfl, rfl, hu, atI_nat (j := 1) rfl, p, r, z.1, z.2, rfl, .inr hp, .inr hr1, hz2.nc, by omega, sc_ne hz2.nc, by omega, fun w4 H4 s4 hw4 => ?_⟩
      rw [stl_fix hz2] at hw4
      refine ⟨_, rfl, _, _, hw4.dp, ((hz1.same s').same s4).dp, shp2 _ _, shp2 _ _, ?_⟩
      rw [SeqAt.eqv_refl _ (SeqAt.canLay_of_shaped (shp2 z.1 z.2))]
      exact ⟨_, rfl, s'.trans s4, _, rfl⟩
    rintro σ HE ⟨sE, o10, rfl⟩
    have fsE := fsC.same sE
    refine ⟨_, rfl, vo, x, rfl, fsE.o, xn, by omega, by omega, fun lv HG sG hlv => ?_⟩
    have elv := lv_eq (fars := fars) hlv (by omega)
    rw [hfi] at elv
    subst elv
    have fsG := fsE.same sG
    refine ⟨_, rfl, ne_same (scal_fv fi) ⟨_, rfl, ?_⟩⟩
    refine ⟨_, rfl, vo, x, rfl, fsG.o, fun b hb => ?_⟩
    have eb := none_eq (fars := fars) xn (by omega) (hb.trans G1.empty)
    rw [hfi, ← fv_non] at eb
    refine ⟨_, rfl, rfl, ?_⟩
    rw [← eb]
    refine ne_same rfl ⟨_, rfl, ?_⟩
    refine ⟨_, rfl, _, rfl, vo, vt, x, y, rfl, fsG.o, fsG.t, xn, yn, by omega, by omega, by omega, fun b2 HI sI hb2 => ?_⟩
    have eb2 := within_eq (fars := fars) xn yn (by omega) hb2
    rw [hwi] at eb2
    subst eb2
    have fsI := fsG.same sI
    refine ⟨_, rfl, ne_same rfl ⟨_, rfl, ?_⟩⟩
    -- is_empty(NONE), contains(ALL, far)
    refine ⟨.ref nN, ([], [false]), rfl, hNN _, fun b3 hb3 => ⟨_, rfl, ?_⟩⟩
    rw [hb3.mpr rfl]
    refine ⟨_, rfl, B, d, rfl, fsI.b, fun fz HJ gJ bJ => ?_⟩
    have fsJ := fsI.go gJ bJ
    refine ⟨.ref nA, [], [true], fz, rfl, hNA _, by decide, by decide, by decide, ?_⟩
    rw [show sq [] [true] fz = true by rw [sq_hi (Nat.zero_le _), cv_true]]
    refine ⟨true, true, rfl, rfl, _, rfl, iteF ?_⟩
    -- low, high, offset
    refine ⟨_, rfl, B, d, 9, rfl, by decide, bJ, fun lo0 HK lo1 lo2 gK bK => ?_⟩
    have fsK := fsJ.go gK bK
    obtain ⟨lo, rfl⟩ := Int.eq_ofNat_of_zero_le lo1
    refine ⟨_, rfl, _, rfl, B, d, 9, rfl, by decide, bK, fun hd0 HM hd1 hd2 gM' bM' => ?_⟩
    have fsM := fsK.go gM' bM'
    obtain ⟨dh, rfl⟩ := Int.eq_ofNat_of_zero_le hd1
    refine ⟨_, _, rfl, rfl, ?_⟩
    have ehi : (fun i j : Int => V.int (i + j)) ((lo : Nat) : Int) ((dh : Nat) : Int) = nV (lo + dh) := by
      show V.int _ = V.int _
      rw [Int.natCast_add]
    rw [ehi]
    refine ⟨_, rfl, B, d, 10, rfl, by decide, bM', fun of0 HN of1 of2 gN' bN' => ?_⟩
    have fsN := fsM.go gN' bN'
    obtain ⟨off, rfl⟩ := Int.eq_ofNat_of_zero_le of1
    refine ⟨40, rfl, by decide, by decide, for_range (lo := 0) (n := 40) (fun j σ H' => (∃ o7, σ = [some (.ref a), some (.ref B), some vo, some vt, some (.ref sl), some (fV fi), some (.bl b2), o7, o8, o9, o10, some (nV lo), some (nV (lo + dh)), some (nV off), none]) ∧ Fs K B d sl vo vt v1 v2 v3 v4 x y z1 z2 z3 z4 H') ⟨⟨_, rfl⟩, fsN⟩ ?_ (fun σ H' _ => q H')⟩
    rintro j σ HO hj ⟨⟨o7', rfl⟩, fsO⟩
    rw [show V.int (0 + (j : Int)) = nV j by rw [Int.zero_add]; rfl]
    refine ⟨_, rfl, _, rfl, lo, lo + dh, rfl, by omega, by omega, fun w1 HP z sP hw1 gz lz1 lz2 => ?_⟩
    refine ⟨_, rfl, w1, z.1, z.2, j, rfl, hw1, gz.1.nc, by omega, by omega, ?_⟩
    rw [gz.2 j]
    have fsP := fsO.same sP
    have Lset : ∀ (m : Nat), decide ((m : Int) ≤ (m : Int)) = true := fun m => decide_eq_true (Int.le_refl _)
    have jn : ∀ (a b : Nat), decide ((a : Int) ≤ (b : Int)) = decide (a ≤ b) := fun a b => by
      by_cases z : a ≤ b
      · rw [decide_eq_true z, decide_eq_true (by omega)]
      · rw [decide_eq_false z, decide_eq_false (by omega)]
    refine ⟨_, rfl, _, rfl, _, _, rfl, rfl, _, rfl, ?_⟩
    rw [jn]
    have jeq : (decide (lo ≤ j) && decide (j ≤ lo)) = decide (nV j = nV lo) := by
      by_cases z : j = lo
      · subst z
        simp
      · have : ¬ nV j = nV lo := fun e => z (by injection e with e; omega)
        rw [decide_eq_false this]
        by_cases y : lo ≤ j
        · rw [decide_eq_false (show ¬ j ≤ lo by omega), Bool.and_false]
        · rw [decide_eq_false y, Bool.false_and]
    have second : ∀ (Hq : Hp) (Qc : Bool → Hp → Prop), Fs K B d sl vo vt v1 v2 v3 v4 x y z1 z2 z3 z4 Hq → (∀ H1, Fs K B d sl vo vt v1 v2 v3 v4 x y z1 z2 z3 z4 H1 → Qc false H1) → tTest (tOp rNe (tCall (spCn K) [] E0 (tCons (tCall (spSi K) [] E0 (tCons (tVar 11) tNil)) (tCons (tVar 7) tNil))) (tOp rEq (tVar 7) (tVar 11))) [some (.ref a), some (.ref B), some vo, some vt, some (.ref sl), some (fV fi), some (.bl b2), some (nV j), o8, o9, o10, some (nV lo), some (nV (lo + dh)), some (nV off), none] Hq Qc := by
      intro Hq Qc fq qc
      refine ⟨_, rfl, lo, rfl, by omega, fun w2 HQ z' sQ hw2 gz' lz1' lz2' => ?_⟩
      refine ⟨_, rfl, w2, z'.1, z'.2, j, rfl, hw2, gz'.1.nc, by omega, by omega, ?_⟩
      rw [gz'.2 j]
      show tOp rEq (tVar 7) (tVar 11) _ HQ fun y H2 => rNe (V.bl (decide (lo ≤ j) && decide (j ≤ lo))) y H2 _
      rw [jeq]
      refine ⟨_, rfl, _, rfl, rfl, ?_⟩
      exact ne_same rfl ⟨_, rfl, qc HQ (fq.same sQ)⟩
    have fin : ∀ (Hq : Hp) (D : Ends), Fs K B d sl vo vt v1 v2 v3 v4 x y z1 z2 z3 z4 Hq → (∀ H1, Fs K B d sl vo vt v1 v2 v3 v4 x y z1 z2 z3 z4 H1 → D.nx [some (.ref a), some (.ref B), some vo, some vt, some (.ref sl), some (fV fi), some (.bl b2), some (nV j), o8, o9, o10, some (nV lo), some (nV (lo + dh)), some (nV off), none] H1) →
        tIfS (tTest (tOp rNe (tCall (spCn K) [] E0 (tCons (tCall (spMv K) [] E0 (tCons (tVar 2) (tCons (tVar 13) tNil))) (tCons (tVar 7) tNil)))
          (tAndV (tOp (rI0 fun i j => V.bl (decide (i ≥ j))) (tVar 7) (tVar 13)) (tCall (spCn K) [] E0 (tCons (tVar 2) (tCons (tCB (fun xs H Q => ∃ i j, xs = [.int i, .int j] ∧ Q (.int (if j > i then j else i)) H) (tCons (tC (.int 0)) (tCons (tOp (rI0 fun i j => V.int (i - j)) (tVar 7) (tVar 13)) tNil))) tNil))))))
          (tRet (tC (.bl false))) tNext D [some (.ref a), some (.ref B), some vo, some vt, some (.ref sl), some (fV fi), some (.bl b2), some (nV j), o8, o9, o10, some (nV lo), some (nV (lo + dh)), some (nV off), none] Hq := by
      intro Hq D fq qc
      refine ⟨_, rfl, _, rfl, vo, x, off, rfl, fq.o, xn, by omega, by omega, by omega, fun w2 HQ z' sQ hw2 gz' lz1' lz2' => ?_⟩
      refine ⟨_, rfl, w2, z'.1, z'.2, j, rfl, hw2, gz'.1.nc, by omega, by omega, ?_⟩
      rw [gz'.2 j]
      have fq2 := fq.same sQ
      refine ⟨_, rfl, _, rfl, _, _, rfl, rfl, _, rfl, ?_⟩
      rw [show decide ((j : Int) ≥ (off : Int)) = decide (off ≤ j) from jn off j]
      by_cases z : off ≤ j
      · rw [decide_eq_true z]
        refine ⟨_, rfl, _, rfl, _, rfl, _, _, rfl, rfl, _, _, rfl, ?_⟩
        have em : (if ((j : Int) - (off : Int)) > 0 then ((j : Int) - (off : Int)) else 0) = ((j - off : Nat) : Int) := by
          split <;> omega
        rw [em]
        refine ⟨vo, x.1, x.2, j - off, rfl, fq2.o, xn, by omega, by omega, ?_⟩
        exact ne_eq (show V.bl (decide (off ≤ j) && sq x.1 x.2 (j - off)) = V.bl (sq x.1 x.2 (j - off)) by rw [decide_eq_true z, Bool.true_and]) rfl ⟨_, rfl, qc HQ fq2⟩
      · rw [decide_eq_false z]
        refine iteF ?_
        show rNe (V.bl (decide (off ≤ j) && sq x.1 x.2 (j - off))) (V.bl false) HQ _
        exact ne_eq (show V.bl (decide (off ≤ j) && sq x.1 x.2 (j - off)) = V.bl false by rw [decide_eq_false z, Bool.false_and]) rfl (by exact ⟨_, rfl, qc HQ fq2⟩)
    have done : ∀ H1, Fs K B d sl vo vt v1 v2 v3 v4 x y z1 z2 z3 z4 H1 → (∃ o7, [some (V.ref a), some (V.ref B), some vo, some vt, some (.ref sl), some (fV fi), some (.bl b2), some (nV j), o8, o9, o10, some (nV lo), some (nV (lo + dh)), some (nV off), none] = [some (.ref a), some (.ref B), some vo, some vt, some (.ref sl), some (fV fi), some (.bl b2), o7, o8, o9, o10, some (nV lo), some (nV (lo + dh)), some (nV off), none]) ∧ Fs K B d sl vo vt v1 v2 v3 v4 x y z1 z2 z3 z4 H1 := fun H1 f1 => ⟨⟨_, rfl⟩, f1⟩
    by_cases z : lo ≤ j
    · rw [decide_eq_true z]
      refine ⟨_, rfl, _, _, rfl, rfl, ?_⟩
      exact ne_eq (show V.bl (decide (lo ≤ j) && decide (j ≤ lo + dh)) = V.bl (decide ((j : Int) ≤ ((lo + dh : Nat) : Int))) by rw [decide_eq_true z, Bool.true_and, jn]) rfl ⟨_, rfl, second HP _ fsP fun H1 f1 => fin H1 _ f1 done⟩
    · rw [decide_eq_false z]
      refine iteF ?_
      show rNe (V.bl (decide (lo ≤ j) && decide (j ≤ lo + dh))) (V.bl false) HP _
      exact ne_eq (show V.bl (decide (lo ≤ j) && decide (j ≤ lo + dh)) = V.bl false by rw [decide_eq_false z, Bool.false_and]) rfl (by exact ⟨_, rfl, second HP _ fsP fun H1 f1 => fin H1 _ f1 done⟩)
end
end Mw

namespace Mw
open PySem L2
theorem kp_of {K : PySem.W.Frag} {mg : Str → Option Value} {nm : Str} {n h c : Addr} {b : Bool} {d : Option Addr} {k kh kc : Nat} {s sh sc : Array (Option Value)} (g : mg nm = some (.ref n)) (x : K.lookup n = some ⟨.type "tuple", d, .seq #[.ref h, .ref c] k, s⟩)
    (xh : K.lookup h = some ⟨.type "tuple", none, .seq #[] kh, sh⟩) (xc : K.lookup c = some ⟨.type "tuple", none, .seq #[.bool b] kc, sc⟩) : KP K mg nm ([], [b]) := by
  refine ⟨n, g, fun H => ⟨n, .ref h, .ref c, rfl, .inr ⟨_, _, _, x, rfl, rfl, by show 2 ≤ sizeLine; decide, .cons rfl (.cons rfl .nil)⟩, ⟨h, rfl, ?_⟩, ⟨c, rfl, ?_⟩⟩⟩
  · exact ⟨.inr ⟨_, _, _, xh, rfl, rfl, Nat.zero_le _, .nil⟩, .inr ⟨_, xh, rfl, rfl⟩⟩
  · exact ⟨.inr ⟨_, _, _, xc, rfl, rfl, by show 1 ≤ sizeLine; decide, .cons rfl .nil⟩, .inr ⟨_, xc, rfl, rfl⟩⟩
end Mw

namespace Mw
open PySem L2
theorem all_mk {l : PySem.W.OpenLaw} {w : World} {K : PySem.W.Frag} {h : Heap} {mg : Str → Option Value} {fa f1 f2 f3 f4 f5 f6 f7 f8 f9 f10 f11 f12 f13 f14 f15 f16 f17 f18 f19 f20 f21 f22 nN hN cN nA hA cA : Addr} (X : K.In h) (G : h.Ns mainGlobals mg) (hfa : mg "law" = some (.ref fa))
    {kN khN kcN kA khA kcA : Nat} {dN dA : Option Addr} {sN shN scN sA shA scA : Array (Option Value)}
    {od1 an1 od2 an2 od3 an3 od4 an4 od5 an5 od6 an6 od7 an7 od8 an8 od9 an9 od10 an10 od11 an11 od12 an12 od13 an13 od14 an14 od15 an15 od16 an16 od17 an17 od18 an18 od19 an19 od20 an20 od21 an21 od22 an22 : Option Addr} {sl1 sl2 sl3 sl4 sl5 sl6 sl7 sl8 sl9 sl10 sl11 sl12 sl13 sl14 sl15 sl16 sl17 sl18 sl19 sl20 sl21 sl22 : Array (Option Value)} {oc1 kV1 dc1 pm1 cd1 ct1 oc2 kV2 dc2 pm2 cd2 ct2 oc3 kV3 dc3 pm3 cd3 ct3 oc4 kV4 dc4 pm4 cd4 ct4 oc5 kV5 dc5 pm5 cd5 ct5 oc6 kV6 dc6 pm6 cd6 ct6 oc7 kV7 dc7 pm7 cd7 ct7 oc8 kV8 dc8 pm8 cd8 ct8 oc9 kV9 dc9 pm9 cd9 ct9 oc10 kV10 dc10 pm10 cd10 ct10 oc11 kV11 dc11 pm11 cd11 ct11 oc12 kV12 dc12 pm12 cd12 ct12 oc13 kV13 dc13 pm13 cd13 ct13 oc14 kV14 dc14 pm14 cd14 ct14 oc15 kV15 dc15 pm15 cd15 ct15 oc16 kV16 dc16 pm16 cd16 ct16 oc17 kV17 dc17 pm17 cd17 ct17 oc18 kV18 dc18 pm18 cd18 ct18 oc19 kV19 dc19 pm19 cd19 ct19 oc20 kV20 dc20 pm20 cd20 ct20 oc21 kV21 dc21 pm21 cd21 ct21 oc22 kV22 dc22 pm22 cd22 ct22 : Value}
    (a1 : PySem.W.nsIn K mainGlobals "prime_factors" = some (some (.ref f1))) (l1 : K.lookup f1 = some ⟨oc1, od1, .func (PySem.W.fnOf "prime_factors" "prime_factors" (defArgs sPf) (defBody sPf) (defScope sPf) .none kV1 dc1 pm1 an1 cd1 ct1), sl1⟩) (c1 : PySem.W.codeIn K cd1 "prime_factors" = true) (k1 : PySem.W.keepIn K (.ref f1) = true)
    (a2 : PySem.W.nsIn K mainGlobals "shortest_cycle" = some (some (.ref f2))) (l2 : K.lookup f2 = some ⟨oc2, od2, .func (PySem.W.fnOf "shortest_cycle" "shortest_cycle" (defArgs sSc) (defBody sSc) (defScope sSc) .none kV2 dc2 pm2 an2 cd2 ct2), sl2⟩) (c2 : PySem.W.codeIn K cd2 "shortest_cycle" = true) (k2 : PySem.W.keepIn K (.ref f2) = true)
    (a3 : PySem.W.nsIn K mainGlobals "turned_back" = some (some (.ref f3))) (l3 : K.lookup f3 = some ⟨oc3, od3, .func (PySem.W.fnOf "turned_back" "turned_back" (defArgs sTb) (defBody sTb) (defScope sTb) .none kV3 dc3 pm3 an3 cd3 ct3), sl3⟩) (c3 : PySem.W.codeIn K cd3 "turned_back" = true) (k3 : PySem.W.keepIn K (.ref f3) = true)
    (a4 : PySem.W.nsIn K mainGlobals "settled" = some (some (.ref f4))) (l4 : K.lookup f4 = some ⟨oc4, od4, .func (PySem.W.fnOf "settled" "settled" (defArgs sSe) (defBody sSe) (defScope sSe) .none kV4 dc4 pm4 an4 cd4 ct4), sl4⟩) (c4 : PySem.W.codeIn K cd4 "settled" = true) (k4 : PySem.W.keepIn K (.ref f4) = true)
    (a5 : PySem.W.nsIn K mainGlobals "stretched" = some (some (.ref f5))) (l5 : K.lookup f5 = some ⟨oc5, od5, .func (PySem.W.fnOf "stretched" "stretched" (defArgs sSt) (defBody sSt) (defScope sSt) .none kV5 dc5 pm5 an5 cd5 ct5), sl5⟩) (c5 : PySem.W.codeIn K cd5 "stretched" = true) (k5 : PySem.W.keepIn K (.ref f5) = true)
    (a6 : PySem.W.nsIn K mainGlobals "contains" = some (some (.ref f6))) (l6 : K.lookup f6 = some ⟨oc6, od6, .func (PySem.W.fnOf "contains" "contains" (defArgs sCn) (defBody sCn) (defScope sCn) .none kV6 dc6 pm6 an6 cd6 ct6), sl6⟩) (c6 : PySem.W.codeIn K cd6 "contains" = true) (k6 : PySem.W.keepIn K (.ref f6) = true)
    (a7 : PySem.W.nsIn K mainGlobals "is_empty" = some (some (.ref f7))) (l7 : K.lookup f7 = some ⟨oc7, od7, .func (PySem.W.fnOf "is_empty" "is_empty" (defArgs sEm) (defBody sEm) (defScope sEm) .none kV7 dc7 pm7 an7 cd7 ct7), sl7⟩) (c7 : PySem.W.codeIn K cd7 "is_empty" = true) (k7 : PySem.W.keepIn K (.ref f7) = true)
    (a8 : PySem.W.nsIn K mainGlobals "is_within" = some (some (.ref f8))) (l8 : K.lookup f8 = some ⟨oc8, od8, .func (PySem.W.fnOf "is_within" "is_within" (defArgs sWi) (defBody sWi) (defScope sWi) .none kV8 dc8 pm8 an8 cd8 ct8), sl8⟩) (c8 : PySem.W.codeIn K cd8 "is_within" = true) (k8 : PySem.W.keepIn K (.ref f8) = true)
    (a9 : PySem.W.nsIn K mainGlobals "complement" = some (some (.ref f9))) (l9 : K.lookup f9 = some ⟨oc9, od9, .func (PySem.W.fnOf "complement" "complement" (defArgs sCp) (defBody sCp) (defScope sCp) .none kV9 dc9 pm9 an9 cd9 ct9), sl9⟩) (c9 : PySem.W.codeIn K cd9 "complement" = true) (k9 : PySem.W.keepIn K (.ref f9) = true)
    (a10 : PySem.W.nsIn K mainGlobals "common" = some (some (.ref f10))) (l10 : K.lookup f10 = some ⟨oc10, od10, .func (PySem.W.fnOf "common" "common" (defArgs sCm) (defBody sCm) (defScope sCm) .none kV10 dc10 pm10 an10 cd10 ct10), sl10⟩) (c10 : PySem.W.codeIn K cd10 "common" = true) (k10 : PySem.W.keepIn K (.ref f10) = true)
    (a11 : PySem.W.nsIn K mainGlobals "union" = some (some (.ref f11))) (l11 : K.lookup f11 = some ⟨oc11, od11, .func (PySem.W.fnOf "union" "union" (defArgs sUn) (defBody sUn) (defScope sUn) .none kV11 dc11 pm11 an11 cd11 ct11), sl11⟩) (c11 : PySem.W.codeIn K cd11 "union" = true) (k11 : PySem.W.keepIn K (.ref f11) = true)
    (a12 : PySem.W.nsIn K mainGlobals "difference" = some (some (.ref f12))) (l12 : K.lookup f12 = some ⟨oc12, od12, .func (PySem.W.fnOf "difference" "difference" (defArgs sDf) (defBody sDf) (defScope sDf) .none kV12 dc12 pm12 an12 cd12 ct12), sl12⟩) (c12 : PySem.W.codeIn K cd12 "difference" = true) (k12 : PySem.W.keepIn K (.ref f12) = true)
    (a13 : PySem.W.nsIn K mainGlobals "least" = some (some (.ref f13))) (l13 : K.lookup f13 = some ⟨oc13, od13, .func (PySem.W.fnOf "least" "least" (defArgs sLe) (defBody sLe) (defScope sLe) .none kV13 dc13 pm13 an13 cd13 ct13), sl13⟩) (c13 : PySem.W.codeIn K cd13 "least" = true) (k13 : PySem.W.keepIn K (.ref f13) = true)
    (a14 : PySem.W.nsIn K mainGlobals "single" = some (some (.ref f14))) (l14 : K.lookup f14 = some ⟨oc14, od14, .func (PySem.W.fnOf "single" "single" (defArgs sSi) (defBody sSi) (defScope sSi) .none kV14 dc14 pm14 an14 cd14 ct14), sl14⟩) (c14 : PySem.W.codeIn K cd14 "single" = true) (k14 : PySem.W.keepIn K (.ref f14) = true)
    (a15 : PySem.W.nsIn K mainGlobals "range_set" = some (some (.ref f15))) (l15 : K.lookup f15 = some ⟨oc15, od15, .func (PySem.W.fnOf "range_set" "range_set" (defArgs sRs) (defBody sRs) (defScope sRs) .none kV15 dc15 pm15 an15 cd15 ct15), sl15⟩) (c15 : PySem.W.codeIn K cd15 "range_set" = true) (k15 : PySem.W.keepIn K (.ref f15) = true)
    (a16 : PySem.W.nsIn K mainGlobals "moved" = some (some (.ref f16))) (l16 : K.lookup f16 = some ⟨oc16, od16, .func (PySem.W.fnOf "moved" "moved" (defArgs sMv) (defBody sMv) (defScope sMv) .none kV16 dc16 pm16 an16 cd16 ct16), sl16⟩) (c16 : PySem.W.codeIn K cd16 "moved" = true) (k16 : PySem.W.keepIn K (.ref f16) = true)
    (a17 : PySem.W.nsIn K mainGlobals "_law_cell" = some (some (.ref f17))) (l17 : K.lookup f17 = some ⟨oc17, od17, .func (PySem.W.fnOf "_law_cell" "_law_cell" (defArgs sCell) (defBody sCell) (defScope sCell) .none kV17 dc17 pm17 an17 cd17 ct17), sl17⟩) (c17 : PySem.W.codeIn K cd17 "_law_cell" = true) (k17 : PySem.W.keepIn K (.ref f17) = true)
    (a18 : PySem.W.nsIn K mainGlobals "_law_digits" = some (some (.ref f18))) (l18 : K.lookup f18 = some ⟨oc18, od18, .func (PySem.W.fnOf "_law_digits" "_law_digits" (defArgs sDigits) (defBody sDigits) (defScope sDigits) .none kV18 dc18 pm18 an18 cd18 ct18), sl18⟩) (c18 : PySem.W.codeIn K cd18 "_law_digits" = true) (k18 : PySem.W.keepIn K (.ref f18) = true)
    (a19 : PySem.W.nsIn K mainGlobals "_law_draw" = some (some (.ref f19))) (l19 : K.lookup f19 = some ⟨oc19, od19, .func (PySem.W.fnOf "_law_draw" "_law_draw" (defArgs sDraw) (defBody sDraw) (defScope sDraw) .none kV19 dc19 pm19 an19 cd19 ct19), sl19⟩) (c19 : PySem.W.codeIn K cd19 "_law_draw" = true) (k19 : PySem.W.keepIn K (.ref f19) = true)
    (a20 : PySem.W.nsIn K mainGlobals "_law_row" = some (some (.ref f20))) (l20 : K.lookup f20 = some ⟨oc20, od20, .func (PySem.W.fnOf "_law_row" "_law_row" (defArgs sRow) (defBody sRow) (defScope sRow) .none kV20 dc20 pm20 an20 cd20 ct20), sl20⟩) (c20 : PySem.W.codeIn K cd20 "_law_row" = true) (k20 : PySem.W.keepIn K (.ref f20) = true)
    (a21 : PySem.W.nsIn K mainGlobals "_law_far" = some (some (.ref f21))) (l21 : K.lookup f21 = some ⟨oc21, od21, .func (PySem.W.fnOf "_law_far" "_law_far" (defArgs sFar) (defBody sFar) (defScope sFar) .none kV21 dc21 pm21 an21 cd21 ct21), sl21⟩) (c21 : PySem.W.codeIn K cd21 "_law_far" = true) (k21 : PySem.W.keepIn K (.ref f21) = true)
    (a22 : PySem.W.nsIn K mainGlobals "law" = some (some (.ref f22))) (l22 : K.lookup f22 = some ⟨oc22, od22, .func (PySem.W.fnOf "law" "law" (defArgs sLaw) (defBody sLaw) (defScope sLaw) .none kV22 dc22 pm22 an22 cd22 ct22), sl22⟩) (c22 : PySem.W.codeIn K cd22 "law" = true) (k22 : PySem.W.keepIn K (.ref f22) = true)
    (aL : PySem.W.nsIn K mainGlobals "lcm" = some (some (.builtin "math.lcm")))
    (aN : PySem.W.nsIn K mainGlobals "NONE" = some (some (.ref nN)))
    (xN : K.lookup nN = some ⟨.type "tuple", dN, .seq #[.ref hN, .ref cN] kN, sN⟩)
    (yNh : K.lookup hN = some ⟨.type "tuple", none, .seq #[] khN, shN⟩)
    (yNc : K.lookup cN = some ⟨.type "tuple", none, .seq #[.bool false] kcN, scN⟩)
    (aA : PySem.W.nsIn K mainGlobals "ALL" = some (some (.ref nA)))
    (xA : K.lookup nA = some ⟨.type "tuple", dA, .seq #[.ref hA, .ref cA] kA, sA⟩)
    (yAh : K.lookup hA = some ⟨.type "tuple", none, .seq #[] khA, shA⟩)
    (yAc : K.lookup cA = some ⟨.type "tuple", none, .seq #[.bool true] kcA, scA⟩)
    (z1 : PySem.W.nsIn K mainGlobals "len" = some none) (z2 : PySem.W.nsIn K mainGlobals "range" = some none) (z3 : PySem.W.nsIn K mainGlobals "int" = some none) (z4 : PySem.W.nsIn K mainGlobals "tuple" = some none) (z5 : PySem.W.nsIn K mainGlobals "max" = some none) (z6 : PySem.W.nsIn K mainGlobals "zip" = some none) :
    ∃ fd : FuncData, (∀ (s : Shared) (v : Value), BindsTo s fd ⟨[v], []⟩ [("script", v)]) ∧ ∀ base : Heap, K.In base → base.Ns mainGlobals mg → FnOk l.prog w K mg base CX0 8 fa fd ["script"] (spLaw K) := by
  have e := hfa.symm.trans (PySem.W.mg_of X G a22)
  cases e
  have F1 := fun_mk (st := sPf) l1 c1 k1
  have F2 := fun_mk (st := sSc) l2 c2 k2
  have F3 := fun_mk (st := sTb) l3 c3 k3
  have F4 := fun_mk (st := sSe) l4 c4 k4
  have F5 := fun_mk (st := sSt) l5 c5 k5
  have F6 := fun_mk (st := sCn) l6 c6 k6
  have F7 := fun_mk (st := sEm) l7 c7 k7
  have F8 := fun_mk (st := sWi) l8 c8 k8
  have F9 := fun_mk (st := sCp) l9 c9 k9
  have F10 := fun_mk (st := sCm) l10 c10 k10
  have F11 := fun_mk (st := sUn) l11 c11 k11
  have F12 := fun_mk (st := sDf) l12 c12 k12
  have F13 := fun_mk (st := sLe) l13 c13 k13
  have F14 := fun_mk (st := sSi) l14 c14 k14
  have F15 := fun_mk (st := sRs) l15 c15 k15
  have F16 := fun_mk (st := sMv) l16 c16 k16
  have F17 := fun_mk (st := sCell) l17 c17 k17
  have F18 := fun_mk (st := sDigits) l18 c18 k18
  have F19 := fun_mk (st := sDraw) l19 c19 k19
  have F20 := fun_mk (st := sRow) l20 c20 k20
  have F21 := fun_mk (st := sFar) l21 c21 k21
  have F22 := fun_mk (st := sLaw) l22 c22 k22
  have b1 := F1.binds (ps := ["number"]) fun _ _ _ _ _ _ us hl => match us, hl with | [_], _ => rfl
  have b2 := F2.binds (ps := ["cycle"]) fun _ _ _ _ _ _ us hl => match us, hl with | [_], _ => rfl
  have b3 := F3.binds (ps := ["head", "cycle", "many"]) fun _ _ _ _ _ _ us hl => match us, hl with | [_, _, _], _ => rfl
  have b4 := F4.binds (ps := ["head", "cycle"]) fun _ _ _ _ _ _ us hl => match us, hl with | [_, _], _ => rfl
  have b5 := F5.binds (ps := ["one", "head_size", "cycle_size"]) fun _ _ _ _ _ _ us hl => match us, hl with | [_, _, _], _ => rfl
  have b6 := F6.binds (ps := ["one", "number"]) fun _ _ _ _ _ _ us hl => match us, hl with | [_, _], _ => rfl
  have b7 := F7.binds (ps := ["one"]) fun _ _ _ _ _ _ us hl => match us, hl with | [_], _ => rfl
  have b8 := F8.binds (ps := ["one", "other"]) fun _ _ _ _ _ _ us hl => match us, hl with | [_, _], _ => rfl
  have b9 := F9.binds (ps := ["one"]) fun _ _ _ _ _ _ us hl => match us, hl with | [_], _ => rfl
  have b10 := F10.binds (ps := ["one", "other"]) fun _ _ _ _ _ _ us hl => match us, hl with | [_, _], _ => rfl
  have b11 := F11.binds (ps := ["one", "other"]) fun _ _ _ _ _ _ us hl => match us, hl with | [_, _], _ => rfl
  have b12 := F12.binds (ps := ["one", "other"]) fun _ _ _ _ _ _ us hl => match us, hl with | [_, _], _ => rfl
  have b13 := F13.binds (ps := ["one"]) fun _ _ _ _ _ _ us hl => match us, hl with | [_], _ => rfl
  have b14 := F14.binds (ps := ["number"]) fun _ _ _ _ _ _ us hl => match us, hl with | [_], _ => rfl
  have b15 := F15.binds (ps := ["low", "high"]) fun _ _ _ _ _ _ us hl => match us, hl with | [_, _], _ => rfl
  have b16 := F16.binds (ps := ["one", "offset"]) fun _ _ _ _ _ _ us hl => match us, hl with | [_, _], _ => rfl
  have b17 := F17.binds (ps := ["script", "k"]) fun _ _ _ _ _ _ us hl => match us, hl with | [_, _], _ => rfl
  have b18 := F18.binds (ps := ["script", "first", "last"]) fun _ _ _ _ _ _ us hl => match us, hl with | [_, _, _], _ => rfl
  have b19 := F19.binds (ps := ["box", "many"]) fun _ _ _ _ _ _ us hl => match us, hl with | [_, _], _ => rfl
  have b20 := F20.binds (ps := ["box", "most"]) fun _ _ _ _ _ _ us hl => match us, hl with | [_, _], _ => rfl
  have b21 := F21.binds (ps := ["box"]) fun _ _ _ _ _ _ us hl => match us, hl with | [_], _ => rfl
  have b22 := F22.binds (ps := ["script"]) fun _ _ _ _ _ _ us hl => match us, hl with | [_], _ => rfl
  have g1 := PySem.W.mg_of X G a1
  have g2 := PySem.W.mg_of X G a2
  have g3 := PySem.W.mg_of X G a3
  have g4 := PySem.W.mg_of X G a4
  have g5 := PySem.W.mg_of X G a5
  have g6 := PySem.W.mg_of X G a6
  have g7 := PySem.W.mg_of X G a7
  have g8 := PySem.W.mg_of X G a8
  have g9 := PySem.W.mg_of X G a9
  have g10 := PySem.W.mg_of X G a10
  have g11 := PySem.W.mg_of X G a11
  have g12 := PySem.W.mg_of X G a12
  have g13 := PySem.W.mg_of X G a13
  have g14 := PySem.W.mg_of X G a14
  have g15 := PySem.W.mg_of X G a15
  have g16 := PySem.W.mg_of X G a16
  have g17 := PySem.W.mg_of X G a17
  have g18 := PySem.W.mg_of X G a18
  have g19 := PySem.W.mg_of X G a19
  have g20 := PySem.W.mg_of X G a20
  have g21 := PySem.W.mg_of X G a21
  have g22 := PySem.W.mg_of X G a22
  have y1 := PySem.W.mg_none_of X G z1
  have y2 := PySem.W.mg_none_of X G z2
  have y3 := PySem.W.mg_none_of X G z3
  have y4 := PySem.W.mg_none_of X G z4
  have y5 := PySem.W.mg_none_of X G z5
  have y6 := PySem.W.mg_none_of X G z6
  have gLc := PySem.W.mg_of X G aL
  have NN := kp_of (PySem.W.mg_of X G aN) xN yNh yNc
  have NA := kp_of (PySem.W.mg_of X G aA) xA yAh yAc
  refine ⟨PySem.W.fnOf "law" "law" (defArgs sLaw) (defBody sLaw) (defScope sLaw) .none kV22 dc22 pm22 an22 cd22 ct22, fun s v => .of_eq rfl, fun base _ _ => ?_⟩
  have gPf := ok_pf (P := l.prog) (w := w) (mg := mg) (base := base) F1
  have gSc := ok_sc F2 gPf b1 k1 g1 y1
  have gTb := ok_tb (P := l.prog) (w := w) (mg := mg) (base := base) F3 y1
  have gSe := ok_se F4 gSc b2 k2 g2 gTb b3 k3 g3 y1 y4
  have gSt := ok_st (P := l.prog) (w := w) (mg := mg) (base := base) F5 y1
  have gCn := ok_cn (P := l.prog) (w := w) (mg := mg) (base := base) F6 y1
  have gEm := ok_em (P := l.prog) (w := w) (mg := mg) (base := base) F7 NN
  have gCp := ok_cp (P := l.prog) (w := w) (mg := mg) (base := base) F9 y4
  have gCm := ok_cm F10 gSe b4 k4 g4 gSt b5 k5 g5 y1 y5 y6 gLc
  have gUn := ok_un F11 gCm b10 k10 g10 gCp b9 k9 g9
  have gDf := ok_df F12 gCm b10 k10 g10 gCp b9 k9 g9
  have gWi := ok_wi F8 gEm b7 k7 g7 gDf b12 k12 g12
  have gLe := ok_le (P := l.prog) (w := w) (mg := mg) (base := base) F13
  have gRs := ok_rs F15 gSe b4 k4 g4
  have gSi := ok_si F14 gRs b15 k15 g15
  have gMv := ok_mv F16 gSe b4 k4 g4
  have gCe := ok_cell (P := l.prog) (w := w) (mg := mg) (base := base) F17 y1
  have gDg := ok_digits F18 gCe b17 k17 g17 y2 y3
  have gDr := ok_draw (P := l.prog) (w := w) (mg := mg) (base := base) F19 y1 y3
  have gRw := ok_row F20 gDr b19 k19 g19 y2 y4
  have gFa := ok_far F21 gDr b19 k19 g19
  exact ok_law F22 gDg b18 k18 g18 gRw b20 k20 g20 gDr b19 k19 g19 gSe b4 k4 g4 gUn b11 k11 g11 gCm b10 k10 g10 gDf b12 k12 g12 gCp b9 k9 g9 gCn b6 k6 g6 gLe b13 k13 g13 gEm b7 k7 g7 gWi b8 k8 g8 gFa b21 k21 g21 gRs b15 k15 g15 gSi b14 k14 g14 gMv b16 k16 g16 NN NA y2 y5
theorem walk {l : PySem.W.OpenLaw} {q : Program} {loose : List Str} {XP : (Str → Option Value) → Heap → Prop} {YP : World → Heap → Prop} {d : DefRec} {K : Params → PySem.W.Frag} (hn : l.most = some 63) (hdf : d.params.defaults = [])
    (hY : ∀ (w : World) (h : Heap), YP w h → (K w.params).In h)
    (F : ∀ (w : World) (mg : Str → Option Value) (fa : Addr) (h : Heap), (K w.params).In h → h.Ns mainGlobals mg → mg d.name = some (.ref fa) →
      ∃ fd : FuncData, (∀ (s : Shared) (u : Value), BindsTo s fd ⟨[u], []⟩ [("script", u)]) ∧ ∀ base : Heap, (K w.params).In base → base.Ns mainGlobals mg → FnOk l.prog w (K w.params) mg base CX0 8 fa fd ["script"] (spLaw (K w.params))) :
    PySem.W.WalkO q loose XP YP l.row.toRowW d [] (fun f vs => PySem.call f vs) :=
  L2.walk_of (n := 63) (k := 8) (x := "script") (CX := fun _ => CX0) (sp := fun w => spLaw (K w.params)) hn (by decide) hdf ⟨rfl, by decide, by decide⟩ hY F (fun _ _ a ns _ _ hS => ⟨a, ns, rfl, hS, fun _ => rfl⟩) fun _ _ _ _ _ z => z
end Mw
open PySem PySem.W PyProof.Rows
set_option maxRecDepth 100000 in
set_option maxHeartbeats 0 in
theorem PySem.Challenge.cw_messageways_k09_sets_put_together_holds : PySem.Challenge.rw_messageways_k09_sets_put_together.Holds := by
  w_on; o_law; k_head; (case hw => w_witness2)
  k_fill
  refine Mw.walk (l := PySem.Challenge.rw_messageways_k09_sets_put_together) rfl rfl (fun w h Y => PySem.W.kIn_of Y) ?F
  case F =>
    intro w mg fa h KX G hmg
    refine' Mw.all_mk KX G hmg ?a1 ?l1 ?c1 ?k1 ?a2 ?l2 ?c2 ?k2 ?a3 ?l3 ?c3 ?k3 ?a4 ?l4 ?c4 ?k4 ?a5 ?l5 ?c5 ?k5 ?a6 ?l6 ?c6 ?k6 ?a7 ?l7 ?c7 ?k7 ?a8 ?l8 ?c8 ?k8 ?a9 ?l9 ?c9 ?k9 ?a10 ?l10 ?c10 ?k10 ?a11 ?l11 ?c11 ?k11 ?a12 ?l12 ?c12 ?k12 ?a13 ?l13 ?c13 ?k13 ?a14 ?l14 ?c14 ?k14 ?a15 ?l15 ?c15 ?k15 ?a16 ?l16 ?c16 ?k16 ?a17 ?l17 ?c17 ?k17 ?a18 ?l18 ?c18 ?k18 ?a19 ?l19 ?c19 ?k19 ?a20 ?l20 ?c20 ?k20 ?a21 ?l21 ?c21 ?k21 ?a22 ?l22 ?c22 ?k22 ?aL ?aN ?xN ?yNh ?yNc ?aA ?xA ?yAh ?yAc ?z1 ?z2 ?z3 ?z4 ?z5 ?z6
    (case a1 => k_is); (case l1 => k_is); (case c1 => k_is); (case k1 => k_is)
    (case a2 => k_is); (case l2 => k_is); (case c2 => k_is); (case k2 => k_is)
    (case a3 => k_is); (case l3 => k_is); (case c3 => k_is); (case k3 => k_is)
    (case a4 => k_is); (case l4 => k_is); (case c4 => k_is); (case k4 => k_is)
    (case a5 => k_is); (case l5 => k_is); (case c5 => k_is); (case k5 => k_is)
    (case a6 => k_is); (case l6 => k_is); (case c6 => k_is); (case k6 => k_is)
    (case a7 => k_is); (case l7 => k_is); (case c7 => k_is); (case k7 => k_is)
    (case a8 => k_is); (case l8 => k_is); (case c8 => k_is); (case k8 => k_is)
    (case a9 => k_is); (case l9 => k_is); (case c9 => k_is); (case k9 => k_is)
    (case a10 => k_is); (case l10 => k_is); (case c10 => k_is); (case k10 => k_is)
    (case a11 => k_is); (case l11 => k_is); (case c11 => k_is); (case k11 => k_is)
    (case a12 => k_is); (case l12 => k_is); (case c12 => k_is); (case k12 => k_is)
    (case a13 => k_is); (case l13 => k_is); (case c13 => k_is); (case k13 => k_is)
    (case a14 => k_is); (case l14 => k_is); (case c14 => k_is); (case k14 => k_is)
    (case a15 => k_is); (case l15 => k_is); (case c15 => k_is); (case k15 => k_is)
    (case a16 => k_is); (case l16 => k_is); (case c16 => k_is); (case k16 => k_is)
    (case a17 => k_is); (case l17 => k_is); (case c17 => k_is); (case k17 => k_is)
    (case a18 => k_is); (case l18 => k_is); (case c18 => k_is); (case k18 => k_is)
    (case a19 => k_is); (case l19 => k_is); (case c19 => k_is); (case k19 => k_is)
    (case a20 => k_is); (case l20 => k_is); (case c20 => k_is); (case k20 => k_is)
    (case a21 => k_is); (case l21 => k_is); (case c21 => k_is); (case k21 => k_is)
    (case a22 => k_is); (case l22 => k_is); (case c22 => k_is); (case k22 => k_is)
    (case aL => k_is)
    (case aN => k_is)
    (case xN => k_is)
    (case yNh => k_is)
    (case yNc => k_is)
    (case aA => k_is)
    (case xA => k_is)
    (case yAh => k_is)
    (case yAc => k_is)
    (case z1 => k_is)
    (case z2 => k_is)
    (case z3 => k_is)
    (case z4 => k_is)
    (case z5 => k_is)
    (case z6 => k_is)

