import PyProof.Rows.All
import Wide.All
import OpenK.AllK
import Wide.FinOn
import HandS.Base
import HandS.Call
import HandS.List
import HandS.Comp
import HandS.Ends
import HandS.Dict
import HandS.Iter
import HandS.Text
import HandS.Words
import HandS.WordsList
import HandS.Evl
import HandS.Style
import HandS.Walk
import HandS.Zip
import KE.KExcSuper
import HandS.Exc
import HandS.ExcInit
import HandS.Nested
import PyProof.EqAt
import PyProof.EqKinds
import PyProof.TupleCall
import HandS.FStr
import HandS.FStrTup
import HandS.ExcIs
import HandS.ExcField
import HandS.WordsExc
import HandS.TupMul
import KE.KItemsList
import KE.KDictZip
import HandS.ListItems
import HandS.Zip0
import HandS.IsInst
import HandS.TryMany
import HandS.More
import PySem.Challenge.RW_messageways_k51_books
set_option Elab.async false
set_option maxRecDepth 100000
namespace Mw
open PySem L2
def top (i : Nat) : Stmt := PySem.Challenge.pw_messageways_k51_books.main.body.getD i (.Pass ⟨0, 0, 0, 0⟩)
/-! ### trees of messages: a message is a chain of nodes, the cases of a choice a chain of cas -/
inductive T where
  | nil
  | text (s : Str) (r : T)
  | shw (n : Str) (r : T)
  | num (r : T)
  | cho (hd : List V) (cs o r : T)
  | cas (k : V) (m r : T)
/-- the values vs are the nodes (the cases) of the tree, as the heap has them -/
def Nodes (H : Hp) : T → List V → Prop
  | .nil, vs => vs = []
  | .text s r, vs => ∃ p ws, vs = .ref p :: ws ∧ H p = some (.tup [.str "text", .str s]) ∧ Nodes H r ws
  | .shw n r, vs => ∃ p ws, vs = .ref p :: ws ∧ H p = some (.tup [.str "show", .str n]) ∧ Nodes H r ws
  | .num r, vs => ∃ p ws, vs = .ref p :: ws ∧ H p = some (.tup [.str "number"]) ∧ Nodes H r ws
  | .cho hd cs o r, vs => ∃ p ws ca cvs oa ovs, vs = .ref p :: ws ∧ H p = some (.tup (hd ++ [.ref ca, .ref oa])) ∧ H ca = some (.lst cvs) ∧ Nodes H cs cvs ∧ H oa = some (.lst ovs) ∧ Nodes H o ovs ∧ Nodes H r ws
  | .cas k m r, vs => ∃ p ws ma mvs, vs = .ref p :: ws ∧ H p = some (.tup [k, .ref ma]) ∧ H ma = some (.lst mvs) ∧ Nodes H m mvs ∧ Nodes H r ws
/-- a list at a that is a message -/
def At (H : Hp) (a : Addr) (t : T) : Prop := ∃ vs, H a = some (.lst vs) ∧ Nodes H t vs
/-- all but the box stays; the box is a list of a ref and an int -/
def IsBox (vs : List V) : Prop := ∃ d i, vs = [.ref d, .int i]
def Ext (B : Addr) (H H' : Hp) : Prop := ∀ b o, b ≠ B → H b = some o → H' b = some o
theorem Ext.refl {B : Addr} (H : Hp) : Ext B H H := fun _ _ _ h => h
theorem Ext.trans {B : Addr} {H H1 H2 : Hp} (a : Ext B H H1) (b : Ext B H1 H2) : Ext B H H2 := fun c o n h => b c o n (a c o n h)
theorem Ext.of {B : Addr} {H H' : Hp} (s : Same H H') : Ext B H H' := fun b o _ h => s b o h
theorem same_new {H : Hp} {p : Addr} (h : H p = none) (o : HO) : Same H (upd H p o) := fun b u q => by
  rw [upd_ne (ne_of_none q h)]
  exact q
theorem same_mut {H H' : Hp} {p : Addr} (s : Same H H') (h : H p = none) (o : HO) : Same H (upd H' p o) := fun b u q => by
  rw [upd_ne (ne_of_none q h)]
  exact s b u q
theorem Nodes.refs {H : Hp} : ∀ {t : T} {vs : List V}, Nodes H t vs → ∀ v ∈ vs, ∃ a, v = .ref a
  | .nil, _, h, v, hv => by
    have h' : _ = [] := h
    subst h'
    cases hv
  | .text s r, _, h, v, hv => by
    obtain ⟨p, ws, rfl, _, hr⟩ := h
    rcases List.mem_cons.mp hv with rfl | hv
    · exact ⟨_, rfl⟩
    · exact Nodes.refs hr v hv
  | .shw n r, _, h, v, hv => by
    obtain ⟨p, ws, rfl, _, hr⟩ := h
    rcases List.mem_cons.mp hv with rfl | hv
    · exact ⟨_, rfl⟩
    · exact Nodes.refs hr v hv
  | .num r, _, h, v, hv => by
    obtain ⟨p, ws, rfl, _, hr⟩ := h
    rcases List.mem_cons.mp hv with rfl | hv
    · exact ⟨_, rfl⟩
    · exact Nodes.refs hr v hv
  | .cho hd cs o r, _, h, v, hv => by
    obtain ⟨p, ws, ca, cvs, oa, ovs, rfl, _, _, _, _, _, hr⟩ := h
    rcases List.mem_cons.mp hv with rfl | hv
    · exact ⟨_, rfl⟩
    · exact Nodes.refs hr v hv
  | .cas k m r, _, h, v, hv => by
    obtain ⟨p, ws, ma, mvs, rfl, _, _, _, hr⟩ := h
    rcases List.mem_cons.mp hv with rfl | hv
    · exact ⟨_, rfl⟩
    · exact Nodes.refs hr v hv
theorem Nodes.notBox {H : Hp} {t : T} {vs : List V} (h : Nodes H t vs) : ¬ IsBox vs := by
  rintro ⟨d, i, rfl⟩
  obtain ⟨a, e⟩ := h.refs (.int i) (by simp)
  cases e
theorem lst_ne {B a : Addr} {H : Hp} {bs vs : List V} (hb : H B = some (.lst bs)) (ib : IsBox bs) (ha : H a = some (.lst vs)) (nv : ¬ IsBox vs) : a ≠ B := by
  intro e
  subst e
  rw [hb] at ha
  cases ha
  exact nv ib
theorem tup_ne {B a : Addr} {H : Hp} {bs vs : List V} (hb : H B = some (.lst bs)) (ha : H a = some (.tup vs)) : a ≠ B := by
  intro e
  subst e
  rw [hb] at ha
  cases ha
/-- a tree stays where all but the box stays -/
theorem Nodes.ext {B : Addr} {H H' : Hp} {bs : List V} (hb : H B = some (.lst bs)) (ib : IsBox bs) (e : Ext B H H') : ∀ {t : T} {vs : List V}, Nodes H t vs → Nodes H' t vs
  | .nil, _, h => h
  | .text s r, _, h => by
    obtain ⟨p, ws, rfl, hp, hr⟩ := h
    exact ⟨p, ws, rfl, e _ _ (tup_ne hb hp) hp, Nodes.ext hb ib e hr⟩
  | .shw n r, _, h => by
    obtain ⟨p, ws, rfl, hp, hr⟩ := h
    exact ⟨p, ws, rfl, e _ _ (tup_ne hb hp) hp, Nodes.ext hb ib e hr⟩
  | .num r, _, h => by
    obtain ⟨p, ws, rfl, hp, hr⟩ := h
    exact ⟨p, ws, rfl, e _ _ (tup_ne hb hp) hp, Nodes.ext hb ib e hr⟩
  | .cho hd cs o r, _, h => by
    obtain ⟨p, ws, ca, cvs, oa, ovs, rfl, hp, hc, hcs, ho, hos, hr⟩ := h
    exact ⟨p, ws, ca, cvs, oa, ovs, rfl, e _ _ (tup_ne hb hp) hp, e _ _ (lst_ne hb ib hc hcs.notBox) hc, Nodes.ext hb ib e hcs, e _ _ (lst_ne hb ib ho hos.notBox) ho, Nodes.ext hb ib e hos, Nodes.ext hb ib e hr⟩
  | .cas k m r, _, h => by
    obtain ⟨p, ws, ma, mvs, rfl, hp, hm, hms, hr⟩ := h
    exact ⟨p, ws, ma, mvs, rfl, e _ _ (tup_ne hb hp) hp, e _ _ (lst_ne hb ib hm hms.notBox) hm, Nodes.ext hb ib e hms, Nodes.ext hb ib e hr⟩
theorem Nodes.same {H H' : Hp} (e : Same H H') : ∀ {t : T} {vs : List V}, Nodes H t vs → Nodes H' t vs
  | .nil, _, h => h
  | .text s r, _, h => by
    obtain ⟨p, ws, rfl, hp, hr⟩ := h
    exact ⟨p, ws, rfl, e _ _ hp, Nodes.same e hr⟩
  | .shw n r, _, h => by
    obtain ⟨p, ws, rfl, hp, hr⟩ := h
    exact ⟨p, ws, rfl, e _ _ hp, Nodes.same e hr⟩
  | .num r, _, h => by
    obtain ⟨p, ws, rfl, hp, hr⟩ := h
    exact ⟨p, ws, rfl, e _ _ hp, Nodes.same e hr⟩
  | .cho hd cs o r, _, h => by
    obtain ⟨p, ws, ca, cvs, oa, ovs, rfl, hp, hc, hcs, ho, hos, hr⟩ := h
    exact ⟨p, ws, ca, cvs, oa, ovs, rfl, e _ _ hp, e _ _ hc, Nodes.same e hcs, e _ _ ho, Nodes.same e hos, Nodes.same e hr⟩
  | .cas k m r, _, h => by
    obtain ⟨p, ws, ma, mvs, rfl, hp, hm, hms, hr⟩ := h
    exact ⟨p, ws, ma, mvs, rfl, e _ _ hp, e _ _ hm, Nodes.same e hms, Nodes.same e hr⟩
/-- two chains, one behind the other -/
def T.app : T → T → T
  | .nil, u => u
  | .text s r, u => .text s (r.app u)
  | .shw n r, u => .shw n (r.app u)
  | .num r, u => .num (r.app u)
  | .cho hd cs o r, u => .cho hd cs o (r.app u)
  | .cas k m r, u => .cas k m (r.app u)
theorem Nodes.app {H : Hp} {u : T} {us : List V} (hu : Nodes H u us) : ∀ {t : T} {vs : List V}, Nodes H t vs → Nodes H (t.app u) (vs ++ us)
  | .nil, _, h => by
    have h' : _ = [] := h
    subst h'
    exact hu
  | .text s r, _, h => by
    obtain ⟨p, ws, rfl, hp, hr⟩ := h
    exact ⟨p, ws ++ us, rfl, hp, Nodes.app hu hr⟩
  | .shw n r, _, h => by
    obtain ⟨p, ws, rfl, hp, hr⟩ := h
    exact ⟨p, ws ++ us, rfl, hp, Nodes.app hu hr⟩
  | .num r, _, h => by
    obtain ⟨p, ws, rfl, hp, hr⟩ := h
    exact ⟨p, ws ++ us, rfl, hp, Nodes.app hu hr⟩
  | .cho hd cs o r, _, h => by
    obtain ⟨p, ws, ca, cvs, oa, ovs, rfl, hp, hc, hcs, ho, hos, hr⟩ := h
    exact ⟨p, ws ++ us, ca, cvs, oa, ovs, rfl, hp, hc, hcs, ho, hos, Nodes.app hu hr⟩
  | .cas k m r, _, h => by
    obtain ⟨p, ws, ma, mvs, rfl, hp, hm, hms, hr⟩ := h
    exact ⟨p, ws ++ us, ma, mvs, rfl, hp, hm, hms, Nodes.app hu hr⟩
section
variable {P : Program} {w : World} {K : PySem.W.Frag} {mg : Str → Option Value} {base : Heap}
/-! ### _law_cell -/
abbrev sCell : Stmt := top 21
theorem scCell : FnScope ["script", "k"] ["script", "k"] (defScope sCell) := ⟨rfl, rfl, rfl, by decide +kernel, rfl, by decide +kernel, by decide +kernel⟩
def spCell (K : PySem.W.Frag) : Sp := fun vs H Q _ => ∃ (a : Addr) (ns : List Int) (k : Int), vs = [.ref a, .int k] ∧ SqL K H a (ns.map V.int) ∧ 0 ≤ k ∧ ∀ z, Q (.int z) H
theorem ok_cell {f : Addr} {fd : FuncData} (F : Fun K "_law_cell" "_law_cell" sCell f fd) (ml : mg "len" = none) : FnOk P w K mg base CX0 1 f fd ["script", "k"] (spCell K) := by
  refine F.ok scCell (fun vs H Q E h => ?_) (fun cdv A outer s H vs Q E hr h => ?_)
  · obtain ⟨a, ns, k, rfl, _⟩ := h
    rfl
  obtain ⟨a, ns, k, rfl, hS, h0, q⟩ := h
  refine ⟨_, pss_cons (ps_if (pt_cmpR op_lt (pv 1) (pe_callB call_len_seq (by rfl) ml PySem.boot_len (pa_cons (pv 0) pa_nil)) (nomark _)) (pss_one (ps_ret (pe_ix ix_list (pv 0) (pv 1) (fun _ _ => rfl)))) pss_nil)
    (pss_one (ps_ret pe_int)), ?_⟩
  refine ⟨_, rfl, _, rfl, a, _, rfl, .inl hS, _, _, rfl, rfl, _, rfl, ?_⟩
  refine ite2 (fun c => ?_) (fun c => ?_)
  · have c' := of_decide_eq_true c
    rw [List.length_map] at c'
    have hk : k.toNat < ns.length := by omega
    refine ⟨_, rfl, _, rfl, a, _, k, .int ns[k.toNat], rfl, rfl, hS, at_of (j := k.toNat) (by omega) (by rw [List.getElem?_map, List.getElem?_eq_getElem hk] <;> rfl), q _⟩
  · exact q _
end
end Mw

namespace Mw
open PySem L2
/-! ### how a heap goes on: all but the box stays, nothing is given up -/
structure Go (B : Addr) (H H' : Hp) : Prop where
  ext : ∀ b o, b ≠ B → H b = some o → H' b = some o
  dom : ∀ b, H' b = none → H b = none
theorem Go.refl (B : Addr) (H : Hp) : Go B H H := ⟨fun _ _ _ h => h, fun _ h => h⟩
theorem Go.trans {B : Addr} {H H1 H2 : Hp} (a : Go B H H1) (b : Go B H1 H2) : Go B H H2 := ⟨fun c o n h => b.ext c o n (a.ext c o n h), fun c h => a.dom c (b.dom c h)⟩
theorem upd_none {H : Hp} {p b : Addr} {o : HO} (h : upd H p o b = none) : H b = none := by
  unfold upd at h
  split at h
  · cases h
  · exact h
theorem Go.new {B : Addr} {H : Hp} {p : Addr} (h : H p = none) (o : HO) : Go B H (upd H p o) := ⟨fun b u _ q => same_new h o b u q, fun b q => upd_none q⟩
theorem Go.mut {B : Addr} {H H' : Hp} {p : Addr} (g : Go B H H') (h : H p = none) (o : HO) : Go B H (upd H' p o) :=
  ⟨fun b u n q => by
    rw [upd_ne (ne_of_none q h)]
    exact g.ext b u n q, fun b q => g.dom b (upd_none q)⟩
theorem Go.box (B : Addr) (H : Hp) (o : HO) : Go B H (upd H B o) := ⟨fun b u n q => by rw [upd_ne n]; exact q, fun b q => upd_none q⟩
theorem Go.same {B : Addr} {H H' : Hp} (s : Same H H') : Go B H H' := ⟨fun b o _ h => s b o h, fun b h => s.free h⟩
/-- what is new in H, seen from H0 -/
def fr (H0 H : Hp) : Hp := fun a => match H0 a with
  | none => H a
  | some _ => none
theorem fr_new {H0 H : Hp} {a : Addr} (h : H0 a = none) : fr H0 H a = H a := by
  unfold fr
  rw [h]
theorem fr_old {H0 H : Hp} {a : Addr} {o : HO} (h : H0 a = some o) : fr H0 H a = none := by
  unfold fr
  rw [h]
theorem fr_in {H0 H : Hp} {a : Addr} {o : HO} (h : fr H0 H a = some o) : H0 a = none ∧ H a = some o := by
  unfold fr at h
  split at h
  · exact ⟨by assumption, h⟩
  · cases h
theorem fr_go {B : Addr} {H0 H1 H2 : Hp} {ob : HO} (hb : H0 B = some ob) (g : Go B H1 H2) : Same (fr H0 H1) (fr H0 H2) := fun a o h => by
  obtain ⟨h0, h1⟩ := fr_in h
  rw [fr_new h0]
  exact g.ext a o (by rintro rfl; rw [hb] at h0; cases h0) h1
theorem fr_same {H0 H1 H2 : Hp} (g : Same H1 H2) : Same (fr H0 H1) (fr H0 H2) := fun a o h => by
  obtain ⟨h0, h1⟩ := fr_in h
  rw [fr_new h0]
  exact g a o h1
theorem fr_mut {H0 H1 : Hp} {l : Addr} {ol : HO} (hl : H0 l = some ol) (o : HO) : Same (fr H0 H1) (fr H0 (upd H1 l o)) := fun a u h => by
  obtain ⟨h0, h1⟩ := fr_in h
  rw [fr_new h0, upd_ne (by rintro rfl; rw [hl] at h0; cases h0)]
  exact h1
theorem fr_dom {H0 H1 H2 : Hp} (g : ∀ b, H1 b = none → H0 b = none) : Same (fr H1 H2) (fr H0 H2) := fun a u h => by
  obtain ⟨h0, h1⟩ := fr_in h
  rw [fr_new (g a h0)]
  exact h1
theorem fr_out {H0 H : Hp} : Same (fr H0 H) H := fun a o h => (fr_in h).2
/-- the box: digits and a place -/
def Box (H : Hp) (B d : Addr) : Prop := ∃ (ds : List Int) (i : Int), H B = some (.lst [.ref d, .int i]) ∧ H d = some (.lst (ds.map V.int)) ∧ 0 ≤ i
theorem Box.isB {H : Hp} {B d : Addr} (b : Box H B d) : ∃ o, H B = some o := by
  obtain ⟨ds, i, h, _⟩ := b
  exact ⟨_, h⟩
theorem Box.isD {H : Hp} {B d : Addr} (b : Box H B d) : ∃ o, H d = some o := by
  obtain ⟨ds, i, _, h, _⟩ := b
  exact ⟨_, h⟩
theorem Box.neB {H : Hp} {B d l : Addr} (b : Box H B d) (h : H l = none) : l ≠ B := by
  obtain ⟨o, hB⟩ := b.isB
  exact (ne_of_none hB h).symm
theorem Box.neD {H : Hp} {B d l : Addr} (b : Box H B d) (h : H l = none) : l ≠ d := by
  obtain ⟨o, hB⟩ := b.isD
  exact (ne_of_none hB h).symm
theorem Box.ne {H : Hp} {B d : Addr} {ds : List Int} {i : Int} (h : H B = some (.lst [.ref d, .int i])) (hd : H d = some (.lst (ds.map V.int))) : d ≠ B := by
  rintro rfl
  rw [h] at hd
  cases ds with
  | nil => cases hd
  | cons z r => cases hd
theorem Box.same {H H' : Hp} {B d : Addr} (s : Same H H') (b : Box H B d) : Box H' B d := by
  obtain ⟨ds, i, h, hd, hi⟩ := b
  exact ⟨ds, i, s _ _ h, s _ _ hd, hi⟩
theorem Box.mut {H : Hp} {B d l : Addr} (b : Box H B d) (hB : l ≠ B) (hd : l ≠ d) (o : HO) : Box (upd H l o) B d := by
  obtain ⟨ds, i, h, hd', hi⟩ := b
  exact ⟨ds, i, by rw [upd_ne hB.symm]; exact h, by rw [upd_ne hd.symm]; exact hd', hi⟩
theorem Box.new {H : Hp} {B d l : Addr} (b : Box H B d) (h : H l = none) (o : HO) : Box (upd H l o) B d := b.mut (b.neB h) (b.neD h) o
end Mw

namespace Mw
open PySem L2
section
variable {P : Program} {w : World} {K : PySem.W.Frag} {mg : Str → Option Value} {base : Heap}
/-! ### _law_row: a new list of ints -/
abbrev sRow : Stmt := top 22
theorem scRow : FnScope ["cell", "k", "many", "row", "turn", "seed"] ["cell", "k", "many"] (defScope sRow) := ⟨rfl, rfl, rfl, by decide +kernel, rfl, by decide +kernel, by decide +kernel⟩
def spRow : Sp := fun vs H Q _ => ∃ (c k : Int), vs = [.int c, .int k, .int 12] ∧ ∀ (d : Addr) (H' : Hp) (ds : List Int), H d = none → Same H H' → H' d = some (.lst (ds.map V.int)) → ds.length ≤ 12 → Q (.ref d) H'
theorem len_ints (ds : List Int) (z : Int) : ds.map V.int ++ [V.int z] = (ds ++ [z]).map V.int := by simp
theorem ok_row {f : Addr} {fd : FuncData} (F : Fun K "_law_row" "_law_row" sRow f fd) (mr : mg "range" = none) (mi : mg "int" = none) (ml : mg "len" = none) :
    FnOk P w K mg base CX0 1 f fd ["cell", "k", "many"] spRow := by
  refine F.ok scRow (fun vs H Q E h => ?_) (fun cdv A outer s H vs Q E hr h => ?_)
  · obtain ⟨c, k, rfl, _⟩ := h
    rfl
  obtain ⟨c, k, rfl, q⟩ := h
  have nd := scRow.nd
  refine ⟨_, pss_cons (ps_set (i := 3) nd rfl (.inl rfl) (pe_lst pa_nil))
    (Evl.pss_cut (ps_if (pt_cmpR op_lt (pv 0) pe_int (nomark _)) (pss_one (ps_set (i := 0) nd rfl (.inl rfl) (pe_op op_sub pe_int (pe_op op_mul pe_int (pv 0))))) pss_nil)
    (pss_cons (ps_if (pt_cmpR op_ge (pv 0) (pe_op op_pow pe_int pe_int) (nomark _))
      (pss_cons (ps_for PassesOwn.never rfl (pi_range1 rfl mr (pa_cons pe_int pa_nil)) (pg_name (i := 4) nd rfl (.inl rfl))
        (pss_one (ps_if (PW.pt (pw_and (pt_cmpR op_gt (pv 0) pe_int (nomark _)) (pw_and1 (pt_cmpR op_lt (pe_callB call_len_seq (by rfl) ml PySem.boot_len (pa_cons (pv 3) pa_nil)) (pv 2) (nomark _)))))
          (pss_cons (ps_expr (pe_bm PySem.F.plainAttrs_list PySem.F.slot_list_append PySem.F.type_list_append mt_append (pv 3) (pa_cons (pe_op op_mod (pe_callTy call_int1 (by rfl) mi (by decide +kernel) (pa_cons (pv 0) pa_nil)) pe_int) pa_nil)))
          (pss_one (ps_set (i := 0) nd rfl (.inl rfl) (pe_op op_fdiv (pv 0) pe_int)))) pss_nil)))
      (pss_one (ps_ret (pv 3)))) pss_nil)
    (pss_cons (ps_set (i := 5) nd rfl (.inl rfl) (pe_op op_mod (pe_callTy call_int1 (by rfl) mi (by decide +kernel) (pa_cons (pe_op op_add (pe_op op_add (pe_op op_mul (pv 0) pe_int) (pe_op op_mul (pv 1) pe_int)) pe_int) pa_nil)) pe_int))
    (pss_cons (ps_for PassesOwn.never rfl (pi_range1 rfl mr (pa_cons (pv 2) pa_nil)) (pg_name (i := 4) nd rfl (.inl rfl))
        (pss_cons (ps_set (i := 5) nd rfl (.inl rfl) (pe_op op_mod (pe_callTy call_int1 (by rfl) mi (by decide +kernel) (pa_cons (pe_op op_add (pe_op op_add (pe_op op_mul (pv 5) pe_int) (pe_op op_mul pe_int (pv 4))) pe_int) pa_nil)) pe_int))
        (pss_one (ps_expr (pe_bm PySem.F.plainAttrs_list PySem.F.slot_list_append PySem.F.type_list_append mt_append (pv 3) (pa_cons (pe_op op_mod (pe_callTy call_int1 (by rfl) mi (by decide +kernel) (pa_cons (pe_op op_fdiv (pv 5) pe_int) pa_nil)) pe_int) pa_nil))))))
    (pss_one (ps_ret (pv 3))))))), ?_⟩
  refine ⟨Nat.zero_le _, fun d nd0 => ?_⟩
  have s1 : Same H (upd H d (.lst [])) := same_new nd0 _
  refine ⟨fun σ' H' => ∃ z : Int, σ' = [some (.int z), some (.int k), some (.int 12), some (.ref d), none, none] ∧ H' = upd H d (.lst []), ?_, ?_⟩
  · refine ⟨_, rfl, _, _, rfl, rfl, _, rfl, ?_⟩
    refine ite2 (fun _ => ?_) (fun _ => ?_)
    · exact ⟨_, rfl, _, _, rfl, rfl, .inl (by decide), _, _, rfl, rfl, _, rfl, rfl⟩
    · exact ⟨_, rfl, rfl⟩
  rintro σ' H' ⟨z, rfl, rfl⟩
  refine ⟨_, rfl, _, _, rfl, rfl, (by unfold CPow; decide), _, _, rfl, rfl, _, rfl, ?_⟩
  refine ite2 (fun _ => ?_) (fun _ => ?_)
  · refine ⟨60, rfl, by decide, by decide, for_range (lo := 0) (n := 60) (fun j σ H' => ∃ (ds : List Int) (z' : Int) (o4 : Option V), σ = [some (.int z'), some (.int k), some (.int 12), some (.ref d), o4, none] ∧ Same H H' ∧ H' d = some (.lst (ds.map V.int)) ∧ ds.length ≤ 12)
      ⟨[], z, none, rfl, s1, upd_same, Nat.zero_le _⟩ ?_ ?_⟩
    · rintro j σ H3 hj ⟨ds, z', o4, rfl, s3, hd3, hl3⟩
      refine ⟨_, rfl, _, _, rfl, rfl, _, rfl, ?_⟩
      by_cases c1 : z' > 0
      · rw [decide_eq_true c1]
        refine iteT ⟨_, rfl, d, _, rfl, .inl (SqL.of hd3), _, rfl, _, _, rfl, rfl, _, rfl, ?_⟩
        refine ite2 (fun c2 => ?_) (fun c2 => ?_)
        · have c3 := of_decide_eq_true c2
          rw [List.length_map] at c3
          refine ⟨_, rfl, .inl ⟨rfl, _, SqL.of hd3⟩, _, rfl, .inl ⟨_, rfl, _, _, rfl, rfl, (by show (0 : Int) < 1000; decide), d, _, _, rfl, rfl, hd3, ?_, ?_⟩⟩
          · rw [List.length_map]
            exact Nat.lt_of_lt_of_le (show ds.length < 100000 by omega) (by decide)
          · refine ⟨_, rfl, _, _, rfl, rfl, ⟨by decide, by decide⟩, ds ++ [z' % 1000], _, _, rfl, same_mut s3 nd0 _, ?_, ?_⟩
            · rw [upd_same, len_ints]
            · rw [List.length_append, List.length_singleton]
              omega
        · exact ⟨ds, _, _, rfl, s3, hd3, hl3⟩
      · rw [decide_eq_false c1]
        refine iteF ?_
        exact ⟨ds, _, _, rfl, s3, hd3, hl3⟩
    · rintro σ H3 ⟨ds, z', o4, rfl, s3, hd3, hl3⟩
      exact ⟨_, rfl, q d H3 ds nd0 s3 hd3 hl3⟩
  · refine ⟨_, rfl, _, _, rfl, rfl, .inr ⟨by decide, by decide⟩, _, rfl, _, _, rfl, rfl, .inr ⟨by decide, by decide⟩, _, _, rfl, rfl, _, _, rfl, rfl, .inl ⟨_, rfl, _, _, rfl, rfl, (by show (0 : Int) < 2147483647; decide), ?_⟩⟩
    refine ⟨_, rfl, 12, rfl, by decide, by decide, for_range (lo := 0) (n := 12) (fun j σ H' => ∃ (ds : List Int) (z' : Int) (o4 : Option V), σ = [some (.int z), some (.int k), some (.int 12), some (.ref d), o4, some (.int z')] ∧ Same H H' ∧ H' d = some (.lst (ds.map V.int)) ∧ ds.length ≤ j)
      ⟨[], _, none, rfl, s1, upd_same, Nat.zero_le _⟩ ?_ ?_⟩
    · rintro j σ H3 hj ⟨ds, z', o4, rfl, s3, hd3, hl3⟩
      refine ⟨_, rfl, _, _, rfl, rfl, .inr ⟨by decide, by decide⟩, _, rfl, _, _, rfl, rfl, .inl ⟨by decide, by decide⟩, _, _, rfl, rfl, _, _, rfl, rfl, .inl ⟨_, rfl, _, _, rfl, rfl, (by show (0 : Int) < 2147483647; decide), ?_⟩⟩
      refine ⟨_, rfl, .inl ⟨rfl, _, SqL.of hd3⟩, _, rfl, _, _, rfl, rfl, ⟨by decide, by decide⟩, .inl ⟨_, rfl, _, _, rfl, rfl, (by show (0 : Int) < 1000; decide), d, _, _, rfl, rfl, hd3, ?_, ?_⟩⟩
      · rw [List.length_map]
        exact Nat.lt_of_lt_of_le (show ds.length < 100000 by omega) (by decide)
      · refine ⟨_, _, _, rfl, same_mut s3 nd0 _, by rw [upd_same, len_ints], ?_⟩
        rw [List.length_append, List.length_singleton]
        omega
    · rintro σ H3 ⟨ds, z', o4, rfl, s3, hd3, hl3⟩
      exact ⟨_, rfl, q d H3 ds nd0 s3 hd3 hl3⟩
end
end Mw

namespace Mw
open PySem L2
section
variable {P : Program} {w : World} {K : PySem.W.Frag} {mg : Str → Option Value} {base : Heap}
/-! ### _law_box -/
abbrev sBox : Stmt := top 23
theorem scBox : FnScope ["script", "first", "last", "row", "k"] ["script", "first", "last"] (defScope sBox) := ⟨rfl, rfl, rfl, by decide +kernel, rfl, by decide +kernel, by decide +kernel⟩
def spBox (K : PySem.W.Frag) (n : Nat) : Sp := fun vs H Q _ => ∃ (a : Addr) (ns : List Int), vs = [.ref a, .int 0, .int n] ∧ SqL K H a (ns.map V.int) ∧ ∀ (B d : Addr) (H' : Hp), H B = none → H d = none → Same H H' → Box H' B d → Q (.ref B) H'
theorem ok_box {n : Nat} (hn : n ≤ 100) {f fC fR : Addr} {fd fdC fdR : FuncData} (F : Fun K "_law_box" "_law_box" sBox f fd)
    (GC : FnOk P w K mg base CX0 1 fC fdC ["script", "k"] (spCell K)) (bC : Binds K fdC ["script", "k"] []) (kC : PySem.W.keepIn K (.ref fC) = true) (mC : mg "_law_cell" = some (.ref fC))
    (GR : FnOk P w K mg base CX0 1 fR fdR ["cell", "k", "many"] spRow) (bR : Binds K fdR ["cell", "k", "many"] []) (kR : PySem.W.keepIn K (.ref fR) = true) (mR : mg "_law_row" = some (.ref fR)) (mr : mg "range" = none) :
    FnOk P w K mg base CX0 2 f fd ["script", "first", "last"] (spBox K n) := by
  refine F.ok scBox (fun vs H Q E h => ?_) (fun cdv A outer s H vs Q E hr h => ?_)
  · obtain ⟨a, ns, rfl, _⟩ := h
    rfl
  obtain ⟨a, ns, rfl, hS, q⟩ := h
  have nd := scBox.nd
  refine ⟨_, pss_cons (ps_set (i := 3) nd rfl (.inl rfl) (pe_lst pa_nil))
    (pss_cons (ps_for PassesOwn.never rfl (pi_range2 rfl mr (pa_cons (pv 1) (pa_cons (pv 2) pa_nil))) (pg_name (i := 4) nd rfl (.inl rfl))
      (pss_one (ps_set (i := 3) nd rfl (.inl rfl) (pe_op op_cat (pv 3) (pe_call GR hr rfl mR kR bR .nil pass0 (pa_cons (pe_call GC hr rfl mC kC bC .nil pass0 (pa_cons (pv 0) (pa_cons (pv 4) pa_nil))) (pa_cons (pv 4) (pa_cons pe_int pa_nil))))))))
    (pss_one (ps_ret (pe_lst (pa_cons (pv 3) (pa_cons pe_int pa_nil)))))), ?_⟩
  refine ⟨Nat.zero_le _, fun l0 hl0 => ?_⟩
  refine ⟨_, rfl, _, rfl, 0, n, rfl, by constructor <;> (try constructor) <;> omega, for_range (lo := 0) (n := ((n : Int) - 0).toNat) (fun i σ H' => ∃ (l : Addr) (ds : List Int) (o4 : Option V), σ = [some (.ref a), some (.int 0), some (.int n), some (.ref l), o4] ∧ Same H H' ∧ H l = none ∧ H' l = some (.lst (ds.map V.int)) ∧ ds.length ≤ 12 * i)
    ⟨l0, [], none, rfl, same_new hl0 _, hl0, upd_same, Nat.le_refl _⟩ ?_ ?_⟩
  · rintro i σ H2 hi ⟨l, ds, o4, rfl, s2, hl, hl2, hz⟩
    refine ⟨_, rfl, _, rfl, _, rfl, a, ns, _, rfl, s2.seq hS, by omega, fun z => ⟨_, rfl, z, _, rfl, fun d H3 es hd s3 hd3 he => ?_⟩⟩
    have hl3 := s3 _ _ hl2
    refine ⟨l, d, _, _, rfl, rfl, hl3, hd3, ?_, fun p hp => ⟨p, ds ++ es, _, rfl, (s2.trans s3).trans (same_new hp _), (s2.trans s3).free hp, ?_, ?_⟩⟩
    · rw [List.length_map, List.length_map]
      exact Nat.le_trans (show _ ≤ 100000 by omega) (by decide)
    · rw [upd_same, List.map_append]
    · rw [List.length_append]
      omega
  · rintro σ H2 ⟨l, ds, o4, rfl, s2, hl, hl2, hz⟩
    refine ⟨_, rfl, by show 2 ≤ sizeLine; decide, fun B hB => q B l _ (s2.free hB) hl (s2.trans (same_new hB _)) ⟨ds, 0, upd_same, ?_, Int.le_refl 0⟩⟩
    rw [upd_ne (ne_of_none hl2 hB)]
    exact hl2
/-! ### _law_draw -/
abbrev sDraw : Stmt := top 24
theorem scDraw : FnScope ["box", "many", "at"] ["box", "many"] (defScope sDraw) := ⟨rfl, rfl, rfl, by decide +kernel, rfl, by decide +kernel, by decide +kernel⟩
def spDraw : Sp := fun vs H Q _ => ∃ (B d : Addr) (n : Int), vs = [.ref B, .int n] ∧ 0 < n ∧ Box H B d ∧ ∀ z H', 0 ≤ z → z < n → Go B H H' → Box H' B d → Q (.int z) H'
theorem ok_draw {f : Addr} {fd : FuncData} (F : Fun K "_law_draw" "_law_draw" sDraw f fd) (ml : mg "len" = none) (mi : mg "int" = none) : FnOk P w K mg base CX0 1 f fd ["box", "many"] spDraw := by
  refine F.ok scDraw (fun vs H Q E h => ?_) (fun cdv A outer s H vs Q E hr h => ?_)
  · obtain ⟨B, d, n, rfl, _⟩ := h
    rfl
  obtain ⟨B, d, n, rfl, h0, ⟨ds, i, hB, hd, hi⟩, q⟩ := h
  have nd := scDraw.nd
  refine ⟨_, pss_cons (ps_set (i := 2) nd rfl (.inl rfl) (pe_ix ix_list (pv 0) pe_int (fun _ _ => rfl)))
    (pss_cons (ps_asg (pe_op op_add (pv 2) pe_int) (pg_sub (pv 0) pe_int set_list))
    (pss_cons (ps_if (pt_cmpR op_lt (pv 2) (pe_callB call_len_seq (by rfl) ml PySem.boot_len (pa_cons (pe_ix ix_list (pv 0) pe_int (fun _ _ => rfl)) pa_nil)) (nomark _))
      (pss_one (ps_ret (pe_op op_mod (pe_callTy call_int1 (by rfl) mi (by decide +kernel) (pa_cons (pe_ix ix_list (pe_ix ix_list (pv 0) pe_int (fun _ _ => rfl)) (pv 2) (fun _ _ => rfl)) pa_nil)) (pv 1)))) pss_nil)
    (pss_one (ps_ret (pe_op op_mod (pe_callTy call_int1 (by rfl) mi (by decide +kernel) (pa_cons (pe_op op_add (pe_op op_mul (pv 2) pe_int) pe_int) pa_nil)) (pv 1)))))), ?_⟩
  have ne : d ≠ B := Box.ne hB hd
  refine ⟨_, rfl, B, _, 1, _, rfl, rfl, SqL.of hB, atI_nat (j := 1) rfl, ?_⟩
  refine ⟨_, rfl, _, _, rfl, rfl, _, rfl, B, _, 1, 1, rfl, rfl, hB, rfl, ?_⟩
  have hB' : upd H B (.lst [.ref d, .int (i + 1)]) B = some (.lst [.ref d, .int (i + 1)]) := upd_same
  have hd' : upd H B (.lst [.ref d, .int (i + 1)]) d = some (.lst (ds.map V.int)) := by rw [upd_ne ne]; exact hd
  have hb : Box (upd H B (.lst [.ref d, .int (i + 1)])) B d := ⟨ds, i + 1, hB', hd', by omega⟩
  refine ⟨_, rfl, _, rfl, B, _, 0, _, rfl, rfl, SqL.of hB', atI_nat (j := 0) rfl, d, _, rfl, .inl (SqL.of hd'), _, _, rfl, rfl, _, rfl, ?_⟩
  refine ite2 (fun c => ?_) (fun c => ?_)
  · have c' := of_decide_eq_true c
    rw [List.length_map] at c'
    have hk : i.toNat < ds.length := by omega
    refine ⟨_, rfl, B, _, 0, _, rfl, rfl, SqL.of hB', atI_nat (j := 0) rfl, _, rfl, d, _, i, .int ds[i.toNat], rfl, rfl, SqL.of hd', at_of (j := i.toNat) (by omega) (by rw [List.getElem?_map, List.getElem?_eq_getElem hk] <;> rfl), .inl ⟨_, rfl, _, rfl, _, _, rfl, rfl, h0, ?_⟩⟩
    exact q _ _ (Int.emod_nonneg _ (by omega)) (Int.emod_lt_of_pos _ h0) (Go.box B H _) hb
  · refine ⟨_, rfl, _, _, rfl, rfl, .inr ⟨by decide, by decide⟩, _, _, rfl, rfl, .inl ⟨_, rfl, _, rfl, _, _, rfl, rfl, h0, ?_⟩⟩
    exact q _ _ (Int.emod_nonneg _ (by omega)) (Int.emod_lt_of_pos _ h0) (Go.box B H _) hb
theorem pick {α : Type} {l : List α} {g : α → V} {z : Int} (h0 : 0 ≤ z) (h : z < (l.length : Int)) : ∃ x, x ∈ l ∧ atI (l.map g) z = some (g x) := by
  have hk : z.toNat < l.length := by omega
  exact ⟨l[z.toNat], List.getElem_mem hk, at_of (j := z.toNat) (by omega) (by rw [List.getElem?_map, List.getElem?_eq_getElem hk] <;> rfl)⟩
end
end Mw

namespace Mw
open PySem L2
/-! ### what the law's messages are -/
def T.len : T → Nat
  | .nil => 0
  | .text _ r => r.len + 1
  | .shw _ r => r.len + 1
  | .num r => r.len + 1
  | .cho _ _ _ r => r.len + 1
  | .cas _ _ r => r.len + 1
def T.sz : T → Nat
  | .nil => 0
  | .text s r => 1 + s.length + r.sz
  | .shw _ r => 1 + r.sz
  | .num r => 1 + r.sz
  | .cho _ cs o r => 1 + cs.sz + o.sz + r.sz
  | .cas _ m r => 1 + m.sz + r.sz
def T.keys : T → List V
  | .cas k _ r => k :: r.keys
  | _ => []
def menu : List Str := ["", "a", "b", "1", "2"]
def wordsL : List Str := ["he", "she"]
def shows3 : List Str := ["n", "x", "w"]
def skeys : List V := wordsL.map V.str
def pkeys : List V := [.int 0, .int 1, .int 3, .str "one", .str "few", .str "many"]
def numsL : List Str := ["m", "n"]
/-- a choice's head, and what stands within it: inside a plural or not, its keys -/
inductive HdOk : List V → Bool → Bool → List V → Prop where
  | sel {i : Bool} {ks : List V} (hk : ks.Sublist skeys) : HdOk [.str "select", .str "w"] i i ks
  | plu {n : Str} {off : Int} {i : Bool} {ks : List V} (hn : n ∈ numsL) (ho : off = 0 ∨ off = 1 ∨ off = 2) (hk : ks.Sublist pkeys) : HdOk [.str "plural", .str n, .int off] i true ks
/-- c: cases, not a message; d: so many levels of choices; i: inside a plural -/
def Gd : T → Bool → Nat → Bool → Prop
  | .nil, _, _, _ => True
  | .text s r, c, d, i => c = false ∧ s ∈ menu ∧ Gd r c d i
  | .shw n r, c, d, i => c = false ∧ n ∈ shows3 ∧ Gd r c d i
  | .num r, c, d, i => c = false ∧ i = true ∧ Gd r c d i
  | .cho hd cs o r, c, d, i => c = false ∧ (∃ e j, d = e + 1 ∧ HdOk hd i j cs.keys ∧ Gd cs true e j ∧ Gd o false e j) ∧ Gd r c d i
  | .cas _ m r, c, d, i => c = true ∧ Gd m false d i ∧ Gd r c d i
theorem T.app_len (u : T) : ∀ t : T, (t.app u).len = t.len + u.len
  | .nil => by simp [T.app, T.len]
  | .text _ r => by simp [T.app, T.len, T.app_len u r]; omega
  | .shw _ r => by simp [T.app, T.len, T.app_len u r]; omega
  | .num r => by simp [T.app, T.len, T.app_len u r]; omega
  | .cho _ _ _ r => by simp [T.app, T.len, T.app_len u r]; omega
  | .cas _ _ r => by simp [T.app, T.len, T.app_len u r]; omega
theorem T.app_sz (u : T) : ∀ t : T, (t.app u).sz = t.sz + u.sz
  | .nil => by simp [T.app, T.sz]
  | .text _ r => by simp [T.app, T.sz, T.app_sz u r]; omega
  | .shw _ r => by simp [T.app, T.sz, T.app_sz u r]; omega
  | .num r => by simp [T.app, T.sz, T.app_sz u r]; omega
  | .cho _ _ _ r => by simp [T.app, T.sz, T.app_sz u r]; omega
  | .cas _ _ r => by simp [T.app, T.sz, T.app_sz u r]; omega
theorem T.app_keys (k : V) (m u : T) : ∀ (t : T) (d : Nat) (i : Bool), Gd t true d i → (t.app (.cas k m u)).keys = t.keys ++ k :: u.keys
  | .nil, _, _, _ => rfl
  | .text _ r, _, _, h => by cases h.1
  | .shw _ r, _, _, h => by cases h.1
  | .num r, _, _, h => by cases h.1
  | .cho _ _ _ r, _, _, h => by cases h.1
  | .cas _ _ r, d, i, h => by simp [T.app, T.keys, T.app_keys k m u r d i h.2.2]
theorem Gd.app {u : T} {c : Bool} {d : Nat} {i : Bool} (hu : Gd u c d i) : ∀ {t : T}, Gd t c d i → Gd (t.app u) c d i
  | .nil, _ => hu
  | .text s r, h => ⟨h.1, h.2.1, Gd.app hu h.2.2⟩
  | .shw n r, h => ⟨h.1, h.2.1, Gd.app hu h.2.2⟩
  | .num r, h => ⟨h.1, h.2.1, Gd.app hu h.2.2⟩
  | .cho hd cs o r, h => ⟨h.1, h.2.1, Gd.app hu h.2.2⟩
  | .cas k m r, h => ⟨h.1, h.2.1, Gd.app hu h.2.2⟩
theorem Nodes.length {H : Hp} : ∀ {t : T} {vs : List V}, Nodes H t vs → vs.length = t.len
  | .nil, _, h => by
    have h' : _ = [] := h
    subst h'
    rfl
  | .text s r, _, h => by
    obtain ⟨p, ws, rfl, _, hr⟩ := h
    exact congrArg (· + 1) hr.length
  | .shw n r, _, h => by
    obtain ⟨p, ws, rfl, _, hr⟩ := h
    exact congrArg (· + 1) hr.length
  | .num r, _, h => by
    obtain ⟨p, ws, rfl, _, hr⟩ := h
    exact congrArg (· + 1) hr.length
  | .cho hd cs o r, _, h => by
    obtain ⟨p, ws, ca, cvs, oa, ovs, rfl, _, _, _, _, _, hr⟩ := h
    exact congrArg (· + 1) hr.length
  | .cas k m r, _, h => by
    obtain ⟨p, ws, ma, mvs, rfl, _, _, _, hr⟩ := h
    exact congrArg (· + 1) hr.length
/-- the sizes by levels -/
def nodeW : Nat → Nat
  | 0 => 4
  | d + 1 => 10 + 14 * nodeW d
def msgW (d : Nat) : Nat := 2 * nodeW d
theorem nodeW_ge : ∀ d, 4 ≤ nodeW d
  | 0 => Nat.le_refl _
  | d + 1 => by have := nodeW_ge d; show 4 ≤ 10 + 14 * nodeW d; omega
theorem menu_len {s : Str} (h : s ∈ menu) : s.length ≤ 1 := by
  have a : ∀ s ∈ menu, s.length ≤ 1 := by decide +kernel
  exact a s h
theorem sz_line {n : Nat} (h : n < 10000000) : n < sizeLine := Nat.lt_of_lt_of_le h (by decide)
theorem le_line {n : Nat} (h : n < 10000000) : n ≤ sizeLine := Nat.le_of_lt (sz_line h)
theorem int_eq {i j : Int} (h : V.int i = V.int j) : i = j := by cases h; rfl
theorem str_eq {i j : Str} (h : V.str i = V.str j) : i = j := by cases h; rfl
theorem cas_len : ∀ (t : T) (d : Nat) (j : Bool), Gd t true d j → t.len = t.keys.length := by
  intro t
  induction t with
  | cas k m r _ ih => intro d j h; simp [T.len, T.keys, ih d j h.2.2]
  | nil => intro d j h; rfl
  | _ => intro d j h; cases h.1
theorem dom1 {B l : Addr} {H H' : Hp} {o o' : HO} (g : Go B H H') (hl : H' l = some o') : ∀ c, H' c = none → upd H l o c = none := fun c hc => by
  rw [upd_ne (by rintro rfl; rw [hl] at hc; cases hc)]
  exact g.dom c hc
theorem take_mono {α : Type} {ys xs : List α} {i : Nat} (h : ys.Sublist (xs.take i)) : ys.Sublist (xs.take (i + 1)) :=
  h.trans (by rw [List.take_succ]; exact List.sublist_append_left _ _)
theorem args_m (B na : Addr) (e : Nat) (i : Bool) : [V.ref B, V.int (((e + 1 : Nat) : Int) - 1), V.bl i, V.ref na] = [V.ref B, V.int (e : Int), V.bl i, V.ref na] := by
  rw [show ((e + 1 : Nat) : Int) - 1 = (e : Int) by omega]
end Mw

namespace Mw
open PySem L2
/-! ### tests that come to a Bool, the heap as it is -/
theorem t_and {t u : TT} {σ : L2.St} {H : Hp} {Q : Bool → Hp → Prop} (a b : Bool) (ht : ∀ Q : Bool → Hp → Prop, Q a H → t σ H Q) (hu : a = true → ∀ Q : Bool → Hp → Prop, Q b H → u σ H Q) (q : Q (a && b) H) : tAnd t u σ H Q := by
  refine ht _ ?_
  cases a with
  | true => exact iteT (hu rfl _ q)
  | false => exact iteF q
theorem i_and {t u : TT} {tu tw : TS} {D : Ends} {σ : L2.St} {H : Hp} (a b : Bool) (ht : ∀ Q : Bool → Hp → Prop, Q a H → t σ H Q) (hu : a = true → ∀ Q : Bool → Hp → Prop, Q b H → u σ H Q) (q : if (a && b) = true then tu D σ H else tw D σ H) : tIfS (tAnd t u) tu tw D σ H :=
  t_and (Q := fun c H1 => if c = true then tu D σ H1 else tw D σ H1) a b ht hu q
/-! ### invariants of the builder -/
def MsgInv (B b na : Addr) (H H1 : Hp) (l : Addr) (d : Nat) (ins : Bool) (i : Nat) (σ : St) (H' : Hp) : Prop :=
  ∃ vs t o5 o6 o7 o8 o9, σ = [some (.ref B), some (.int d), some (.bl ins), some (.ref na), some (.ref l), o5, o6, o7, o8, o9, none] ∧ Go B H H' ∧ Box H' B b ∧ H' l = some (.lst vs) ∧ Nodes (fr H1 H') t vs ∧ Gd t false d ins ∧ t.sz ≤ i * nodeW d ∧ t.len ≤ i
theorem MsgInv.grow {B b na l p : Addr} {H H' H'' : Hp} {d : Nat} {ins : Bool} {i : Nat} {vs : List V} {t u : T} {o5 o6 o7 o8 o9 : Option V} {o : HO} (hl0 : H l = none) (hlB : l ≠ B) (hlb : l ≠ b) (hB : ∃ o, H B = some o)
    (g : Go B H H') (hl : H' l = some (.lst vs)) (hn : Nodes (fr (upd H l o) H') t vs) (hg : Gd t false d ins) (hs : t.sz ≤ i * nodeW d) (hlen : t.len ≤ i)
    (g2 : Go B H' H'') (hb : Box H'' B b) (hu : Nodes (fr (upd H l o) H'') u [.ref p]) (gu : Gd u false d ins) (su : u.sz ≤ nodeW d) (lu : u.len = 1) :
    MsgInv B b na H (upd H l o) l d ins (i + 1) [some (.ref B), some (.int d), some (.bl ins), some (.ref na), some (.ref l), o5, o6, o7, o8, o9, none] (upd H'' l (.lst (vs ++ [.ref p]))) := by
  obtain ⟨oB, hB⟩ := hB
  have hB1 : upd H l o B = some oB := by rw [upd_ne hlB.symm]; exact hB
  refine ⟨vs ++ [.ref p], t.app u, o5, o6, o7, o8, o9, rfl, (g.trans g2).mut hl0 _, hb.mut hlB hlb _, upd_same, ?_, Gd.app gu hg, ?_, ?_⟩
  · exact Nodes.same (fr_mut upd_same _) (Nodes.app hu (Nodes.same (fr_go hB1 g2) hn))
  · rw [T.app_sz, Nat.add_mul, Nat.one_mul]
    omega
  · rw [T.app_len]
    omega
def CasInv (B b l wl : Addr) (H H1 : Hp) (ks : List V) (e : Nat) (j : Bool) (i : Nat) (H' : Hp) : Prop :=
  ∃ vs t, Go B H H' ∧ Box H' B b ∧ H' wl = some (.lst ks) ∧ H' l = some (.lst vs) ∧ Nodes (fr H1 H') t vs ∧ Gd t true e j ∧ t.keys.Sublist (ks.take i) ∧ t.sz ≤ i * (1 + msgW e)
theorem CasInv.skip {B b l wl : Addr} {H H1 H' H'' : Hp} {ks : List V} {e : Nat} {j : Bool} {i : Nat} (h : CasInv B b l wl H H1 ks e j i H') (hlB : l ≠ B) (hwB : wl ≠ B) (hB : ∃ o, H1 B = some o) (g : Go B H' H'') (hb : Box H'' B b) : CasInv B b l wl H H1 ks e j i H'' := by
  obtain ⟨vs, t, g1, _, hw, hl, hn, hg, hk, hs⟩ := h
  obtain ⟨o, hB⟩ := hB
  exact ⟨vs, t, g1.trans g, hb, g.ext _ _ hwB hw, g.ext _ _ hlB hl, Nodes.same (fr_go hB g) hn, hg, hk, hs⟩
theorem CasInv.next {B b l wl : Addr} {H H1 H' : Hp} {ks : List V} {e : Nat} {j : Bool} {i : Nat} (h : CasInv B b l wl H H1 ks e j i H') : CasInv B b l wl H H1 ks e j (i + 1) H' := by
  obtain ⟨vs, t, g1, hb, hw, hl, hn, hg, hk, hs⟩ := h
  exact ⟨vs, t, g1, hb, hw, hl, hn, hg, take_mono hk, by rw [Nat.add_mul]; omega⟩
theorem CasInv.grow {B b l wl p r : Addr} {H H' H'' : Hp} {ks : List V} {e : Nat} {j : Bool} {i : Nat} {vs : List V} {t m : T} {k : V} {o : HO} (hl0 : H l = none) (hlB : l ≠ B) (hlb : l ≠ b) (hlw : wl ≠ l) (hwB : wl ≠ B) (hB : ∃ o, H B = some o)
    (g : Go B H H') (hl : H' l = some (.lst vs)) (hw : H' wl = some (.lst ks)) (hn : Nodes (fr (upd H l o) H') t vs) (hg : Gd t true e j) (hs : t.sz ≤ i * (1 + msgW e)) (hk : t.keys.Sublist (ks.take i)) (hki : ks[i]? = some k)
    (g2 : Go B H' H'') (hb : Box H'' B b) (hr : At (fr H' H'') r m) (gm : Gd m false e j) (sm : m.sz ≤ msgW e) (hp : H'' p = none) :
    CasInv B b l wl H (upd H l o) ks e j (i + 1) (upd (upd H'' p (.tup [k, .ref r])) l (.lst (vs ++ [.ref p]))) := by
  obtain ⟨oB, hB⟩ := hB
  have hB1 : upd H l o B = some oB := by rw [upd_ne hlB.symm]; exact hB
  have hl2 : H'' l = some (.lst vs) := g2.ext _ _ hlB hl
  have hw2 : H'' wl = some (.lst ks) := g2.ext _ _ hwB hw
  have hp1 : upd H l o p = none := dom1 (g.trans g2) hl2 p hp
  have s3 : Same H'' (upd H'' p (.tup [k, .ref r])) := same_new hp _
  have hu : Nodes (fr (upd H l o) (upd H'' p (.tup [k, .ref r]))) (.cas k m .nil) [.ref p] := by
    obtain ⟨ws, hr1, hr2⟩ := hr
    have sd : Same (fr H' H'') (fr (upd H l o) (upd H'' p (.tup [k, .ref r]))) := Same.trans (fr_dom (dom1 g hl)) (fr_same s3)
    exact ⟨p, [], r, ws, rfl, by rw [fr_new hp1]; exact upd_same, sd _ _ hr1, Nodes.same sd hr2, rfl⟩
  refine ⟨vs ++ [.ref p], t.app (.cas k m .nil), ((g.trans g2).trans (Go.new hp _)).mut hl0 _, (hb.new hp _).mut hlB hlb _, ?_, upd_same, ?_, ?_, ?_, ?_⟩
  · rw [upd_ne hlw]
    exact s3 _ _ hw2
  · exact Nodes.same (fr_mut upd_same _) (Nodes.app hu (Nodes.same (fr_same s3) (Nodes.same (fr_go hB1 g2) hn)))
  · exact Gd.app (show Gd (.cas k m .nil) true e j from ⟨rfl, gm, trivial⟩) hg
  · rw [T.app_keys k m .nil t e j hg, List.take_succ, hki]
    exact hk.append (List.Sublist.refl _)
  · rw [T.app_sz, Nat.add_mul, Nat.one_mul]
    have : (T.cas k m .nil).sz = 1 + m.sz := by simp [T.sz]
    omega
/-- a new node: a choice -/
def NodeAt (H H' : Hp) (p : Addr) (d : Nat) (i : Bool) : Prop := ∃ hd cs o, Nodes (fr H H') (.cho hd cs o .nil) [.ref p] ∧ Gd (.cho hd cs o .nil) false d i ∧ (T.cho hd cs o .nil).sz ≤ nodeW d
/-- the choice at the end -/
theorem cho_end {B l r p : Addr} {H H' H'' : Hp} {hd : List V} {e : Nat} {i j : Bool} {vs : List V} {t o : T} {ol : HO} (hl0 : H l = none) (hlB : l ≠ B) (hB : ∃ o, H B = some o)
    (g : Go B H H') (hl : H' l = some (.lst vs)) (hn : Nodes (fr (upd H l ol) H') t vs) (hg : Gd t true e j) (hs : t.sz ≤ 6 * (1 + msgW e))
    (g2 : Go B H' H'') (hr : At (fr H' H'') r o) (go : Gd o false e j) (so : o.sz ≤ msgW e) (hp : H'' p = none) (hh : HdOk hd i j t.keys) :
    NodeAt H (upd H'' p (.tup (hd ++ [.ref l, .ref r]))) p (e + 1) i := by
  obtain ⟨oB, hB⟩ := hB
  have hB1 : upd H l ol B = some oB := by rw [upd_ne hlB.symm]; exact hB
  have hl2 : H'' l = some (.lst vs) := g2.ext _ _ hlB hl
  have s3 : Same H'' (upd H'' p (.tup (hd ++ [.ref l, .ref r]))) := same_new hp _
  have hp0 : H p = none := (g.trans g2).dom p hp
  obtain ⟨ws, hr1, hr2⟩ := hr
  have sd : Same (fr H' H'') (fr H (upd H'' p (.tup (hd ++ [.ref l, .ref r])))) := Same.trans (fr_dom g.dom) (fr_same s3)
  refine ⟨hd, t, o, ⟨p, [], l, vs, r, ws, rfl, by rw [fr_new hp0]; exact upd_same, ?_, ?_, sd _ _ hr1, Nodes.same sd hr2, rfl⟩, ⟨rfl, ⟨e, j, rfl, hh, hg, go⟩, trivial⟩, ?_⟩
  · rw [fr_new hl0]
    exact s3 _ _ hl2
  · exact Nodes.same (Same.trans (fr_go hB1 g2) (Same.trans (fr_dom fun c hc => upd_none hc) (fr_same s3))) hn
  · show 1 + t.sz + o.sz + 0 ≤ 10 + 14 * nodeW e
    have e1 : msgW e = 2 * nodeW e := rfl
    rw [e1] at hs so
    omega
theorem NodeAt.mono {H0 H1 H : Hp} {p : Addr} {d : Nat} {i : Bool} (h : NodeAt H1 H p d i) (g : ∀ b, H1 b = none → H0 b = none) : ∃ hd cs o, Nodes (fr H0 H) (.cho hd cs o .nil) [.ref p] ∧ Gd (.cho hd cs o .nil) false d i ∧ (T.cho hd cs o .nil).sz ≤ nodeW d := by
  obtain ⟨hd, cs, o, h1, h2, h3⟩ := h
  exact ⟨hd, cs, o, Nodes.same (fr_dom g) h1, h2, h3⟩
section
variable {P : Program} {w : World} {K : PySem.W.Frag} {mg : Str → Option Value} {base : Heap}
theorem none_left {k : Nat} {f : Addr} {fd : FuncData} {ps : List Str} {sp : Sp} (no : ∀ vs H Q E, ¬ sp vs H Q E) : FnOk P w K mg base CX0 k f fd ps sp :=
  ⟨fun vs H Q E h => absurd h (no _ _ _ _), fun _ _ _ _ _ _ _ _ _ _ _ _ _ h => absurd h (no _ _ _ _)⟩
abbrev sMsg : Stmt := top 26
abbrev nMsg : List Str := ["box", "depth", "inside", "numbers", "found", "turn", "kind", "cases", "key", "name", "word"]
theorem scMsg : FnScope nMsg ["box", "depth", "inside", "numbers"] (defScope sMsg) := ⟨rfl, rfl, rfl, by decide +kernel, rfl, by decide +kernel, by decide +kernel⟩
/-- a new message of at most d levels -/
def spMsg (d : Nat) : Sp := fun vs H Q _ => ∃ (B b na : Addr) (i : Bool), vs = [.ref B, .int d, .bl i, .ref na] ∧ Box H B b ∧ H na = some (.lst (numsL.map V.str)) ∧
  ∀ r H' t, Go B H H' → Box H' B b → At (fr H H') r t → Gd t false d i → t.sz ≤ msgW d → t.len ≤ 2 → Q (.ref r) H'
def spMsgP (d : Nat) : Sp := fun vs H Q E => ∃ e, d = e + 1 ∧ spMsg e vs H Q E
end
end Mw

namespace Mw
open PySem L2
section
variable {P : Program} {w : World} {K : PySem.W.Frag} {mg : Str → Option Value} {base : Heap}
theorem na_ne {H : Hp} {B b na : Addr} (hb : Box H B b) (hna : H na = some (.lst (numsL.map V.str))) : na ≠ B := by
  rintro rfl
  obtain ⟨ds, i, h, _⟩ := hb
  rw [hna] at h
  have h' : V.str "m" = V.ref b := by
    have := congrArg (fun o => match o with | some (HO.lst (x :: _)) => x | _ => V.non) h
    exact this
  cases h'
abbrev rGt0 : R2 := rI0 fun i j => .bl (decide (j < i))
abbrev rSub0 : R2 := rI0 fun i j => .int (i - j)
theorem ok_msg {k d : Nat} {f fD fM : Addr} {fd fdD fdM : FuncData} (hk : 1 ≤ k) (F : Fun K "_law_message" "_law_message" sMsg f fd)
    (GD : FnOk P w K mg base CX0 1 fD fdD ["box", "many"] spDraw) (bD : Binds K fdD ["box", "many"] []) (kD : PySem.W.keepIn K (.ref fD) = true) (mD : mg "_law_draw" = some (.ref fD))
    (GM : FnOk P w K mg base CX0 k fM fdM ["box", "depth", "inside", "numbers"] (spMsgP d)) (bM : Binds K fdM ["box", "depth", "inside", "numbers"] []) (kM : PySem.W.keepIn K (.ref fM) = true) (mM : mg "_law_message" = some (.ref fM))
    (mr : mg "range" = none) (ml : mg "len" = none) (mi : mg "int" = none) : FnOk P w K mg base CX0 (k + 1) f fd ["box", "depth", "inside", "numbers"] (spMsg d) := by
  have GM1 : ∀ e, d = e + 1 → FnOk P w K mg base CX0 k fM fdM ["box", "depth", "inside", "numbers"] (spMsg e) := fun e he => GM.imp fun vs H Q E h => ⟨e, he, h⟩
  refine F.ok scMsg (fun vs H Q E h => ?_) (fun cdv A outer s H vs Q E hr h => ?_)
  · obtain ⟨B, b, na, i, rfl, _⟩ := h
    rfl
  obtain ⟨B, b, na, ins, rfl, hb, hna, q⟩ := h
  have nd := scMsg.nd
  have hr1 : Room 1 _ := hr.mono hk
  have naB := na_ne hb hna
  refine ⟨_, (pss_cons (ps_set (i := 4) nd rfl (.inl rfl) (pe_lst pa_nil))
      (pss_cons (ps_for PassesOwn.never rfl (pi_range1 rfl mr (pa_cons (pe_op op_add pe_int (pe_call GD hr1 rfl mD kD bD .nil pass0 (pa_cons (pv 0) (pa_cons pe_int pa_nil)))) pa_nil)) (pg_name (i := 5) nd rfl (.inl rfl)) (pss_cons (ps_set (i := 6) nd rfl (.inl rfl) (pe_call GD hr1 rfl mD kD bD .nil pass0 (pa_cons (pv 0) (pa_cons pe_int pa_nil))))
      (pss_one (ps_if (PW.pt (pw_and (pt_cmpR op_gt (pv 1) pe_int (nomark _)) (pw_and1 (pt_cmpR op_lt (pv 6) pe_int (nomark _))))) (pss_cons (ps_setLc (i := 7) (own := [("word", 10)]) (g := (gName 10))  (tt := tTest (tOp rGt0 (tCall spDraw [] E0 (tCons (tVar 0) (tCons (tC (.int 3)) tNil))) (tC (.int 0))))
            (te := tTup (tCons (tVar 10) (tCons (tCall (spMsgP d) [] E0 (tCons (tVar 0) (tCons (tOp rSub0 (tVar 1) (tC (.int 1))) (tCons (tVar 2) (tCons (tVar 3) tNil))))) tNil))) rfl nd rfl rfl (sw_true rfl rfl rfl (by decide +kernel)) (pi_list (pe_lst (pa_cons pe_str (pa_cons pe_str pa_nil)))) (blkOk_by (N := nMsg) (sc := defScope sMsg) (by decide +kernel)) (fun _ _ _ _ _ => (pg_name (i := 10) nd rfl (.inl rfl))) (fun _ _ _ _ _ => (pts_one (pt_cmpR op_gt (pe_call GD hr1 rfl mD kD bD .nil pass0 (pa_cons (pv 0) (pa_cons pe_int pa_nil))) pe_int (nomark _)))) (fun _ _ _ _ _ => (pe_tup (pa_cons (pv 10) (pa_cons (pe_call GM hr rfl mM kM bM .nil pass0 (pa_cons (pv 0) (pa_cons (pe_op op_sub (pv 1) pe_int) (pa_cons (pv 2) (pa_cons (pv 3) pa_nil))))) pa_nil)))))
      (pss_one (ps_expr (pe_bm PySem.F.plainAttrs_list PySem.F.slot_list_append PySem.F.type_list_append mt_append (pv 4) (pa_cons (pe_tup (pa_cons pe_str (pa_cons pe_str (pa_cons (pv 7) (pa_cons (pe_call GM hr rfl mM kM bM .nil pass0 (pa_cons (pv 0) (pa_cons (pe_op op_sub (pv 1) pe_int) (pa_cons (pv 2) (pa_cons (pv 3) pa_nil))))) pa_nil))))) pa_nil))))) (pss_one (ps_if (PW.pt (pw_and (pt_cmpR op_gt (pv 1) pe_int (nomark _)) (pw_and1 (pt_cmpR op_lt (pv 6) pe_int (nomark _))))) (pss_cons (ps_set (i := 7) nd rfl (.inl rfl) (pe_lst pa_nil))
      (pss_cons (ps_for PassesOwn.never rfl (pi_list (pe_lst (pa_cons pe_int (pa_cons pe_int (pa_cons pe_int (pa_cons pe_str (pa_cons pe_str (pa_cons pe_str pa_nil)))))))) (pg_name (i := 8) nd rfl (.inl rfl)) (pss_one (ps_if (pt_cmpR op_eq (pe_call GD hr1 rfl mD kD bD .nil pass0 (pa_cons (pv 0) (pa_cons pe_int pa_nil))) pe_int (nomark _)) (pss_one (ps_expr (pe_bm PySem.F.plainAttrs_list PySem.F.slot_list_append PySem.F.type_list_append mt_append (pv 7) (pa_cons (pe_tup (pa_cons (pv 8) (pa_cons (pe_call GM hr rfl mM kM bM .nil pass0 (pa_cons (pv 0) (pa_cons (pe_op op_sub (pv 1) pe_int) (pa_cons pe_bl (pa_cons (pv 3) pa_nil))))) pa_nil))) pa_nil)))) pss_nil)))
      (pss_cons (ps_set (i := 9) nd rfl (.inl rfl) (pe_ix ix_list (pv 3) (pe_op op_mod (pe_callTy call_int1 (by rfl) mi (by decide +kernel) (pa_cons (pe_call GD hr1 rfl mD kD bD .nil pass0 (pa_cons (pv 0) (pa_cons pe_int pa_nil))) pa_nil)) (pe_callB call_len_seq (by rfl) ml PySem.boot_len (pa_cons (pv 3) pa_nil))) (fun _ _ => rfl)))
      (pss_one (ps_expr (pe_bm PySem.F.plainAttrs_list PySem.F.slot_list_append PySem.F.type_list_append mt_append (pv 4) (pa_cons (pe_tup (pa_cons pe_str (pa_cons (pv 9) (pa_cons (pe_ix ix_list (pe_lst (pa_cons pe_int (pa_cons pe_int (pa_cons pe_int (pa_cons pe_int pa_nil))))) (pe_call GD hr1 rfl mD kD bD .nil pass0 (pa_cons (pv 0) (pa_cons pe_int pa_nil))) (fun _ _ => rfl)) (pa_cons (pv 7) (pa_cons (pe_call GM hr rfl mM kM bM .nil pass0 (pa_cons (pv 0) (pa_cons (pe_op op_sub (pv 1) pe_int) (pa_cons pe_bl (pa_cons (pv 3) pa_nil))))) pa_nil)))))) pa_nil))))))) (pss_one (ps_if (PW.pt (pw_and (pt_cmpR op_eq (pv 6) pe_int (nomark _)) (pw_and1 (pt_val (pv 2))))) (pss_one (ps_expr (pe_bm PySem.F.plainAttrs_list PySem.F.slot_list_append PySem.F.type_list_append mt_append (pv 4) (pa_cons (pe_tup (pa_cons pe_str pa_nil)) pa_nil)))) (pss_one (ps_if (pt_cmpR op_eq (pv 6) pe_int (nomark _)) (pss_one (ps_expr (pe_bm PySem.F.plainAttrs_list PySem.F.slot_list_append PySem.F.type_list_append mt_append (pv 4) (pa_cons (pe_tup (pa_cons pe_str (pa_cons (pe_ix ix_list (pe_lst (pa_cons pe_str (pa_cons pe_str (pa_cons pe_str pa_nil)))) (pe_call GD hr1 rfl mD kD bD .nil pass0 (pa_cons (pv 0) (pa_cons pe_int pa_nil))) (fun _ _ => rfl)) pa_nil))) pa_nil)))) (pss_one (ps_expr (pe_bm PySem.F.plainAttrs_list PySem.F.slot_list_append PySem.F.type_list_append mt_append (pv 4) (pa_cons (pe_tup (pa_cons pe_str (pa_cons (pe_ix ix_list (pe_lst (pa_cons pe_str (pa_cons pe_str (pa_cons pe_str (pa_cons pe_str (pa_cons pe_str pa_nil)))))) (pe_call GD hr1 rfl mD kD bD .nil pass0 (pa_cons (pv 0) (pa_cons pe_int pa_nil))) (fun _ _ => rfl)) pa_nil))) pa_nil))))))))))))))
      (pss_one (ps_ret (pv 4))))), ?_⟩
  refine ⟨Nat.zero_le _, fun l hl => ?_⟩
  have hlB := hb.neB hl
  have hlb := hb.neD hl
  have hBs := hb.isB
  have nal : na ≠ l := ne_of_none hna hl
  refine ⟨_, rfl, B, b, 2, rfl, by decide, hb.new hl _, fun z H2 z0 z2 g2 hb2 => ⟨_, _, rfl, rfl, ?_⟩⟩
  refine ⟨1 + z, rfl, by omega, by omega, for_range (lo := 0) (n := (1 + z).toNat) (MsgInv B b na H (upd H l (.lst [])) l d ins) ⟨[], .nil, none, none, none, none, none, rfl, (Go.new hl _).trans g2, hb2, g2.ext _ _ hlB upd_same, rfl, trivial, Nat.zero_le _, Nat.le_refl _⟩ ?_ ?_⟩
  rotate_left
  · rintro σ H' ⟨vs, t, o5, o6, o7, o8, o9, rfl, g, hb', hl', hn, hg, hs, hlen⟩
    refine ⟨_, rfl, q l H' t g hb' ⟨vs, ?_, ?_⟩ hg ?_ (by omega)⟩
    · rw [fr_new hl]
      exact hl'
    · exact Nodes.same (fr_dom fun c hc => upd_none hc) hn
    · have : (1 + z).toNat * nodeW d ≤ 2 * nodeW d := Nat.mul_le_mul_right _ (by omega)
      exact Nat.le_trans hs this
  rintro i σ H' hi ⟨vs, t, o5, o6, o7, o8, o9, rfl, g, hb', hl', hn, hg, hs, hlen⟩
  have hvs : vs.length < 1000 := by
    rw [hn.length]
    omega
  refine ⟨_, rfl, B, b, 8, rfl, by decide, hb', fun kind H3 k0 k8 g3 hb3 => ?_⟩
  have hl3 : H3 l = some (.lst vs) := g3.ext _ _ hlB hl'
  have g03 := g.trans g3
  have hna3 : H3 na = some (.lst (numsL.map V.str)) := g03.ext _ _ naB hna
  have hB1 : ∃ o, upd H l (HO.lst []) B = some o := by
    obtain ⟨o, h⟩ := hBs
    exact ⟨o, by rw [upd_ne hlB.symm]; exact h⟩
  have hn3 : Nodes (fr (upd H l (.lst [])) H3) t vs := by
    obtain ⟨o, h⟩ := hB1
    exact Nodes.same (fr_go h g3) hn
  have hBs3 := hb3.isB
  dsimp only [gName]
  refine i_and (decide (0 < (d : Int))) (decide (kind < 2)) (fun Q q => ⟨_, rfl, _, _, rfl, rfl, _, rfl, q⟩) (fun _ Q q => ⟨_, rfl, _, _, rfl, rfl, _, rfl, q⟩) ?_
  refine ite2 (fun c => ?_) (fun c => i_and (decide (0 < (d : Int))) (decide (kind < 5)) (fun Q q => ⟨_, rfl, _, _, rfl, rfl, _, rfl, q⟩) (fun _ Q q => ⟨_, rfl, _, _, rfl, rfl, _, rfl, q⟩) (ite2 (fun c2 => ?_) (fun c2 => i_and (decide (V.int kind = V.int 5)) ins (fun Q q => ⟨_, rfl, rfl, _, rfl, q⟩) (fun _ Q q => ⟨_, rfl, _, rfl, q⟩) (ite2 (fun c3 => ?_) (fun c3 => ⟨_, rfl, rfl, _, rfl, ite2 (fun c4 => ?_) (fun c4 => ?_)⟩)))))
  · -- a select
    obtain ⟨e, rfl⟩ : ∃ e, d = e + 1 := by
      cases d with
      | zero => exact absurd c (by simp)
      | succ e => exact ⟨e, rfl⟩
    refine ⟨by show 2 ≤ sizeLine; decide, fun wl hwl => ?_⟩
    generalize hH4 : upd H3 wl (.lst skeys) = H4
    have hw4 : H4 wl = some (.lst skeys) := by rw [← hH4]; exact upd_same
    have g34 : Go B H3 H4 := by rw [← hH4]; exact Go.new hwl _
    have b4 : Box H4 B b := by rw [← hH4]; exact hb3.new hwl _
    have d43 : ∀ c, H4 c = none → H3 c = none := g34.dom
    have wlB := hb3.neB hwl
    rw [show upd H3 wl (HO.lst [V.str "he", V.str "she"]) = H4 from hH4]
    refine ⟨wl, rfl, ⟨_, SqL.of hw4⟩, fun D hD => ?_⟩
    have DB := b4.neB hD
    have Db := b4.neD hD
    have wD : wl ≠ D := ne_of_none hw4 hD
    have hB4 := b4.isB
    have hB4' : ∃ o, upd H4 D (HO.lst []) B = some o := by
      obtain ⟨o, h⟩ := hB4
      exact ⟨o, by rw [upd_ne DB.symm]; exact h⟩
    refine lc_list (K := K) (a := wl) (xs := skeys) (fun i H' => CasInv B b D wl H4 (upd H4 D (.lst [])) skeys e ins i H')
      ⟨[], .nil, Go.new hD _, b4.new hD _, by rw [upd_ne wD]; exact hw4, upd_same, rfl, trivial, List.nil_sublist _, Nat.zero_le _⟩ (fun i H' _ ⟨_, _, _, _, hw, _⟩ => SqL.of hw) ?_ ?_
    · rintro j x H5 hx I
      obtain ⟨vs0, t0, _, hbI, _⟩ := id I
      refine ⟨rfl, _, rfl, B, b, 3, rfl, by decide, hbI, fun z H6 z0 z3 g6 b6 => ⟨_, _, rfl, rfl, _, rfl, ?_⟩⟩
      have I6 := I.skip DB wlB hB4' g6 b6
      refine ite2 (fun c => ?_) (fun c => I6.next)
      obtain ⟨cvs, ct, g1, _, hw, hl6, hcn, hcg, hks, hcs⟩ := I6
      have hna6 := g1.ext _ _ naB (g34.ext _ _ naB hna3)
      refine ⟨_, rfl, _, rfl, _, rfl, _, _, rfl, rfl, _, rfl, _, rfl, e, rfl, B, b, na, ins, args_m B na e ins, b6, hna6, fun r H7 m g7 b7 hr7 gm sm _ => ⟨by show 2 ≤ sizeLine; decide, fun p hp => ?_⟩⟩
      have hD7 : H7 D = some (.lst cvs) := g7.ext _ _ DB hl6
      refine ⟨cvs, by rw [upd_ne (ne_of_none hD7 hp)]; exact hD7, sz_line ?_, CasInv.grow hD DB Db wD wlB hB4 g1 hl6 hw hcn hcg hcs hks hx g7 b7 hr7 gm sm hp⟩
      rw [hcn.length, cas_len ct e ins hcg]
      have := hks.length_le
      rw [List.length_take] at this
      have : skeys.length = 2 := rfl
      omega
    · rintro H5 ⟨cvs, ct, g1, b5, hw, hl5, hcn, hcg, hks, hcs⟩
      have g35 := g34.trans g1
      have hl5' := g35.ext _ _ hlB hl3
      have sk : ct.keys.Sublist skeys := by
        have : skeys.take skeys.length = skeys := List.take_length
        rw [this] at hks
        exact hks
      refine ⟨_, rfl, .inl ⟨rfl, _, SqL.of hl5'⟩, _, rfl, _, rfl, _, rfl, _, _, rfl, rfl, _, rfl, _, rfl, e, rfl, B, b, na, ins, args_m B na e ins, b5, g35.ext _ _ naB hna3, fun r H6 o g6 b6 hr6 go so _ => ⟨by show 4 ≤ sizeLine; decide, fun p hp => ?_⟩⟩
      have N := (cho_end (hd := [.str "select", .str "w"]) (i := ins) hD DB hB4 g1 hl5 hcn hcg (Nat.le_trans hcs (Nat.mul_le_mul_right _ (by decide))) g6 hr6 go so hp (.sel sk)).mono (H0 := upd H l (.lst [])) fun c hc => dom1 g03 hl3 c (d43 c hc)
      obtain ⟨hd', cs', o', n1, n2, n3⟩ := N
      have hl6 : H6 l = some (.lst vs) := g6.ext _ _ hlB hl5'
      refine ⟨l, _, _, rfl, rfl, (by rw [upd_ne (ne_of_none hl6 hp)]; exact hl6), sz_line (by omega), ?_⟩
      exact MsgInv.grow hl hlB hlb hBs g03 hl3 hn3 hg hs hlen ((g35.trans g6).trans (Go.new hp _)) (b6.new hp _) n1 n2 n3 rfl
  · -- a plural
    obtain ⟨e, rfl⟩ : ∃ e, d = e + 1 := by
      cases d with
      | zero => exact absurd c2 (by simp)
      | succ e => exact ⟨e, rfl⟩
    refine ⟨Nat.zero_le _, fun l2 hl2 => ⟨by show 6 ≤ sizeLine; decide, fun wl hwl => ?_⟩⟩
    have l2B := hb3.neB hl2
    have l2b := hb3.neD hl2
    have b4 := hb3.new hl2 (.lst [])
    have wlB := b4.neB hwl
    have wl2 : wl ≠ l2 := (ne_of_none upd_same hwl).symm
    have hB3' : ∃ o, upd H3 l2 (HO.lst []) B = some o := by
      obtain ⟨o, h⟩ := hBs3
      exact ⟨o, by rw [upd_ne l2B.symm]; exact h⟩
    refine ⟨wl, rfl, ⟨_, SqL.of upd_same⟩, for_list (K := K) (a := wl) (xs := pkeys) (fun j σ H' => ∃ o8, σ = [some (.ref B), some (.int ((e + 1 : Nat) : Int)), some (.bl ins), some (.ref na), some (.ref l), some (.int (0 + i)), some (.int kind), some (.ref l2), o8, o9, none] ∧ CasInv B b l2 wl H3 (upd H3 l2 (.lst [])) pkeys e true j H')
      ⟨o8, rfl, [], .nil, (Go.new hl2 _).trans (Go.new hwl _), b4.new hwl _, upd_same, by rw [upd_ne wl2.symm]; exact upd_same, rfl, trivial, List.nil_sublist _, Nat.zero_le _⟩
      (fun i σ H' _ ⟨_, _, _, _, _, _, hw, _⟩ => SqL.of hw) ?_ ?_⟩
    · rintro j x σ H5 hx ⟨o8', rfl, I⟩
      obtain ⟨vs0, t0, _, hbI, _⟩ := id I
      refine ⟨_, rfl, B, b, 4, rfl, by decide, hbI, fun z H6 z0 z3 g6 b6 => ⟨rfl, _, rfl, ?_⟩⟩
      have I6 := I.skip l2B wlB hB3' g6 b6
      refine ite2 (fun c => ?_) (fun c => ⟨_, rfl, I6.next⟩)
      obtain ⟨cvs, ct, g1, _, hw, hl6, hcn, hcg, hks, hcs⟩ := I6
      have hj : j < 6 := (List.getElem?_eq_some_iff.mp hx).1
      have hcl : cvs.length < 1000 := by
        rw [hcn.length, cas_len ct e true hcg]
        have := hks.length_le
        rw [List.length_take] at this
        omega
      refine ⟨_, rfl, .inl ⟨rfl, _, SqL.of hl6⟩, _, rfl, _, rfl, _, rfl, _, _, rfl, rfl, _, rfl, e, rfl, B, b, na, true, args_m B na e true, b6, g1.ext _ _ naB hna3, fun r H7 m g7 b7 hr7 gm sm _ => ⟨by show 2 ≤ sizeLine; decide, fun p hp => ?_⟩⟩
      have hl7 : H7 l2 = some (.lst cvs) := g7.ext _ _ l2B hl6
      refine ⟨l2, _, _, rfl, rfl, (by rw [upd_ne (ne_of_none hl7 hp)]; exact hl7), sz_line (by omega), ?_⟩
      exact ⟨_, rfl, CasInv.grow hl2 l2B l2b wl2 wlB hBs3 g1 hl6 hw hcn hcg hcs hks hx g7 b7 hr7 gm sm hp⟩
    · rintro σ H5 ⟨o8', rfl, cvs, ct, g1, b5, hw, hl5, hcn, hcg, hks, hcs⟩
      have sk : ct.keys.Sublist pkeys := by
        have : pkeys.take pkeys.length = pkeys := List.take_length
        rw [this] at hks
        exact hks
      have hl5' := g1.ext _ _ hlB hl3
      have hna5 := g1.ext _ _ naB hna3
      refine ⟨_, rfl, _, rfl, B, b, 900, rfl, by decide, b5, fun z H6 z0 z9 g6 b6 => .inl ⟨_, rfl, ?_⟩⟩
      have hna6 := g6.ext _ _ naB hna5
      refine ⟨_, rfl, na, _, rfl, .inl (SqL.of hna6), _, _, rfl, rfl, (by show (0 : Int) < ((2 : Nat) : Int); decide), ?_⟩
      obtain ⟨nm, hnm, hnt⟩ := pick (l := numsL) (g := V.str) (z := z % 2) (Int.emod_nonneg _ (by decide)) (Int.emod_lt_of_pos _ (by decide))
      refine ⟨na, _, z % 2, .str nm, rfl, rfl, SqL.of hna6, hnt, ?_⟩
      have hl6' := g6.ext _ _ hlB hl5'
      refine ⟨_, rfl, .inl ⟨rfl, _, SqL.of hl6'⟩, _, rfl, by decide, fun ml hml => ?_⟩
      have mlB := b6.neB hml
      refine ⟨_, rfl, B, b, 4, rfl, by decide, b6.new hml _, fun z' H7 z0' z9' g7 b7 => ?_⟩
      obtain ⟨y, hy, hyt⟩ := pick (l := ([0, 0, 1, 2] : List Int)) (g := V.int) z0' (by show z' < ((4 : Nat) : Int); omega)
      refine ⟨ml, _, z', .int y, rfl, rfl, SqL.of (g7.ext _ _ mlB upd_same), hyt, ?_⟩
      have g57 : Go B H5 H7 := (g6.trans (Go.new hml _)).trans g7
      have g17 := g1.trans g57
      refine ⟨_, rfl, _, rfl, _, rfl, _, _, rfl, rfl, _, rfl, e, rfl, B, b, na, true, args_m B na e true, b7, g17.ext _ _ naB hna3, fun r H8 o g8 b8 hr8 go so _ => ⟨by show 5 ≤ sizeLine; decide, fun p hp => ?_⟩⟩
      have hl7 : H7 l2 = some (.lst cvs) := g57.ext _ _ l2B hl5
      have hcn7 : Nodes (fr (upd H3 l2 (.lst [])) H7) ct cvs := by
        obtain ⟨o, h⟩ := hB3'
        exact Nodes.same (fr_go h g57) hcn
      have N := (cho_end (hd := [.str "plural", .str nm, .int y]) (i := ins) hl2 l2B hBs3 g17 hl7 hcn7 hcg hcs g8 hr8 go so hp (.plu hnm (by simpa using hy) sk)).mono (H0 := upd H l (.lst [])) fun c hc => dom1 g03 hl3 c hc
      obtain ⟨hd', cs', o', n1, n2, n3⟩ := N
      have hl8 : H8 l = some (.lst vs) := (g17.trans g8).ext _ _ hlB hl3
      refine ⟨l, _, _, rfl, rfl, (by rw [upd_ne (ne_of_none hl8 hp)]; exact hl8), sz_line (by omega), ?_⟩
      exact MsgInv.grow hl hlB hlb hBs g03 hl3 hn3 hg hs hlen ((g17.trans g8).trans (Go.new hp _)) (b8.new hp _) n1 n2 n3 rfl
  · -- number
    have hi : ins = true := by
      cases ins with
      | true => rfl
      | false => exact absurd c3 (by simp)
    refine ⟨_, rfl, .inl ⟨rfl, _, SqL.of hl3⟩, by show 1 ≤ sizeLine; decide, fun p hp => ?_⟩
    have hp1 : upd H l (HO.lst []) p = none := dom1 g03 hl3 p hp
    refine ⟨l, _, _, rfl, rfl, (by rw [upd_ne (ne_of_none hl3 hp)]; exact hl3), sz_line (by omega), ?_⟩
    exact MsgInv.grow (u := .num .nil) hl hlB hlb hBs g03 hl3 hn3 hg hs hlen (Go.new hp _) (hb3.new hp _) ⟨p, [], rfl, by rw [fr_new hp1]; exact upd_same, rfl⟩ ⟨rfl, hi, trivial⟩
      (by have := nodeW_ge d; show 1 + 0 ≤ _; omega) rfl
  · -- show
    refine ⟨_, rfl, .inl ⟨rfl, _, SqL.of hl3⟩, by decide, fun m hm => ?_⟩
    have hmB := hb3.neB hm
    refine ⟨_, rfl, B, b, 3, rfl, by decide, hb3.new hm _, fun z' H4 z0' z4' g4 hb4 => ?_⟩
    obtain ⟨x, hx, ha⟩ := pick (l := shows3) (g := V.str) z0' (by show z' < ((3 : Nat) : Int); omega)
    refine ⟨m, _, z', .str x, rfl, rfl, SqL.of (g4.ext _ _ hmB upd_same), ha, by show 2 ≤ sizeLine; decide, fun p hp => ?_⟩
    have g34 : Go B H3 H4 := (Go.new hm _).trans g4
    have hl4 : H4 l = some (.lst vs) := g34.ext _ _ hlB hl3
    have hp1 : upd H l (HO.lst []) p = none := dom1 (g03.trans g34) hl4 p hp
    refine ⟨l, _, _, rfl, rfl, (by rw [upd_ne (ne_of_none hl4 hp)]; exact hl4), sz_line (by omega), ?_⟩
    exact MsgInv.grow (u := .shw x .nil) hl hlB hlb hBs g03 hl3 hn3 hg hs hlen (g34.trans (Go.new hp _)) (hb4.new hp _) ⟨p, [], rfl, by rw [fr_new hp1]; exact upd_same, rfl⟩ ⟨rfl, hx, trivial⟩
      (by have := nodeW_ge d; show 1 + 0 ≤ _; omega) rfl
  · -- text
    refine ⟨_, rfl, .inl ⟨rfl, _, SqL.of hl3⟩, by decide, fun m hm => ?_⟩
    have hmB := hb3.neB hm
    refine ⟨_, rfl, B, b, 5, rfl, by decide, hb3.new hm _, fun z' H4 z0' z4' g4 hb4 => ?_⟩
    obtain ⟨x, hx, ha⟩ := pick (l := menu) (g := V.str) z0' (by show z' < ((5 : Nat) : Int); omega)
    refine ⟨m, _, z', .str x, rfl, rfl, SqL.of (g4.ext _ _ hmB upd_same), ha, by show 2 ≤ sizeLine; decide, fun p hp => ?_⟩
    have g34 : Go B H3 H4 := (Go.new hm _).trans g4
    have hl4 : H4 l = some (.lst vs) := g34.ext _ _ hlB hl3
    have hp1 : upd H l (HO.lst []) p = none := dom1 (g03.trans g34) hl4 p hp
    refine ⟨l, _, _, rfl, rfl, (by rw [upd_ne (ne_of_none hl4 hp)]; exact hl4), sz_line (by omega), ?_⟩
    exact MsgInv.grow (u := .text x .nil) hl hlB hlb hBs g03 hl3 hn3 hg hs hlen (g34.trans (Go.new hp _)) (hb4.new hp _) ⟨p, [], rfl, by rw [fr_new hp1]; exact upd_same, rfl⟩ ⟨rfl, hx, trivial⟩
      (by have := nodeW_ge d; have := menu_len hx; show 1 + x.length + 0 ≤ _; omega) rfl
theorem both {fD fM : Addr} {fdD fdM : FuncData}
    (GD : FnOk P w K mg base CX0 1 fD fdD ["box", "many"] spDraw) (bD : Binds K fdD ["box", "many"] []) (kD : PySem.W.keepIn K (.ref fD) = true) (mD : mg "_law_draw" = some (.ref fD))
    (FM : Fun K "_law_message" "_law_message" sMsg fM fdM) (bM : Binds K fdM ["box", "depth", "inside", "numbers"] []) (mM : mg "_law_message" = some (.ref fM)) (mr : mg "range" = none) (ml : mg "len" = none) (mi : mg "int" = none) :
    ∀ d, FnOk P w K mg base CX0 (d + 2) fM fdM ["box", "depth", "inside", "numbers"] (spMsg d)
  | 0 => ok_msg (k := 1) (Nat.le_refl _) FM GD bD kD mD ((none_left fun vs H Q E ⟨_, e, _⟩ => by omega)) bM FM.kp mM mr ml mi
  | d + 1 => ok_msg (k := d + 2) (by omega) FM GD bD kD mD ((both GD bD kD mD FM bM mM mr ml mi d).imp fun vs H Q E ⟨e, he, h⟩ => by
      cases he
      exact h) bM FM.kp mM mr ml mi
end
end Mw

namespace Mw
open PySem L2
/-! ### nodes one by one -/
def HdW (hd : List V) : Prop := (∃ n, hd = [.str "select", .str n]) ∨ ∃ n off, hd = [.str "plural", .str n, .int off]
def KeyW (k : V) : Prop := (∃ s, k = .str s) ∨ ∃ i, k = .int i
/-- what any message is, and any chain of cases (c) -/
def Wf : T → Bool → Prop
  | .nil, _ => True
  | .text _ r, c => c = false ∧ Wf r c
  | .shw _ r, c => c = false ∧ Wf r c
  | .num r, c => c = false ∧ Wf r c
  | .cho hd cs o r, c => c = false ∧ HdW hd ∧ Wf cs true ∧ Wf o false ∧ Wf r c
  | .cas k m r, c => c = true ∧ KeyW k ∧ Wf m false ∧ Wf r c
def T.single : T → Prop
  | .nil => False
  | .text _ r => r = .nil
  | .shw _ r => r = .nil
  | .num r => r = .nil
  | .cho _ _ _ r => r = .nil
  | .cas _ _ r => r = .nil
def T.isCho : T → Bool
  | .cho _ _ _ _ => true
  | _ => false
def T.isText : T → Bool
  | .text _ _ => true
  | _ => false
def T.nodes : T → List T
  | .nil => []
  | .text s r => .text s .nil :: r.nodes
  | .shw n r => .shw n .nil :: r.nodes
  | .num r => .num .nil :: r.nodes
  | .cho hd cs o r => .cho hd cs o .nil :: r.nodes
  | .cas k m r => .cas k m .nil :: r.nodes
def T.msgs : T → List T
  | .cas _ m r => m :: r.msgs
  | _ => []
def T.inner : T → List T
  | .cho _ cs o _ => cs.msgs ++ [o]
  | _ => []
def Ns (H : Hp) : List T → List V → Prop
  | [], vs => vs = []
  | u :: us, vs => ∃ v ws, vs = v :: ws ∧ Nodes H u [v] ∧ Ns H us ws
def Ats (H : Hp) : List T → List V → Prop
  | [], vs => vs = []
  | t :: ts, vs => ∃ a ws, vs = .ref a :: ws ∧ At H a t ∧ Ats H ts ws
theorem At.same {H H' : Hp} {a : Addr} {t : T} (s : Same H H') (h : At H a t) : At H' a t := by
  obtain ⟨vs, h1, h2⟩ := h
  exact ⟨vs, s _ _ h1, Nodes.same s h2⟩
theorem Ns.same {H H' : Hp} (s : Same H H') : ∀ {us : List T} {vs : List V}, Ns H us vs → Ns H' us vs
  | [], _, h => h
  | u :: us, _, h => by
    obtain ⟨v, ws, rfl, h1, h2⟩ := h
    exact ⟨v, ws, rfl, Nodes.same s h1, Ns.same s h2⟩
theorem Ats.same {H H' : Hp} (s : Same H H') : ∀ {us : List T} {vs : List V}, Ats H us vs → Ats H' us vs
  | [], _, h => h
  | u :: us, _, h => by
    obtain ⟨v, ws, rfl, h1, h2⟩ := h
    exact ⟨v, ws, rfl, h1.same s, Ats.same s h2⟩
theorem Ns.length {H : Hp} : ∀ {us : List T} {vs : List V}, Ns H us vs → vs.length = us.length
  | [], _, h => by rw [show _ = [] from h]; rfl
  | u :: us, _, h => by
    obtain ⟨v, ws, rfl, _, h2⟩ := h
    exact congrArg (· + 1) h2.length
theorem Ats.length {H : Hp} : ∀ {us : List T} {vs : List V}, Ats H us vs → vs.length = us.length
  | [], _, h => by rw [show _ = [] from h]; rfl
  | u :: us, _, h => by
    obtain ⟨v, ws, rfl, _, h2⟩ := h
    exact congrArg (· + 1) h2.length
theorem Ns.append {H : Hp} {us' : List T} {vs' : List V} (h' : Ns H us' vs') : ∀ {us : List T} {vs : List V}, Ns H us vs → Ns H (us ++ us') (vs ++ vs')
  | [], _, h => by rw [show _ = [] from h]; exact h'
  | u :: us, _, h => by
    obtain ⟨v, ws, rfl, h1, h2⟩ := h
    exact ⟨v, ws ++ vs', rfl, h1, Ns.append h' h2⟩
theorem Ats.append {H : Hp} {us' : List T} {vs' : List V} (h' : Ats H us' vs') : ∀ {us : List T} {vs : List V}, Ats H us vs → Ats H (us ++ us') (vs ++ vs')
  | [], _, h => by rw [show _ = [] from h]; exact h'
  | u :: us, _, h => by
    obtain ⟨v, ws, rfl, h1, h2⟩ := h
    exact ⟨v, ws ++ vs', rfl, h1, Ats.append h' h2⟩
theorem Ns.get {H : Hp} : ∀ {us : List T} {vs : List V} {i : Nat} {v : V}, Ns H us vs → vs[i]? = some v → ∃ u, us[i]? = some u ∧ Nodes H u [v]
  | [], _, i, v, h, e => by
    rw [show _ = [] from h] at e
    simp at e
  | u :: us, _, 0, v, h, e => by
    obtain ⟨x, ws, rfl, h1, h2⟩ := h
    have : x = v := by simpa using e
    subst this
    exact ⟨u, rfl, h1⟩
  | u :: us, _, i + 1, v, h, e => by
    obtain ⟨x, ws, rfl, h1, h2⟩ := h
    obtain ⟨u', e1, e2⟩ := Ns.get (i := i) h2 (by simpa using e)
    exact ⟨u', by simpa using e1, e2⟩
theorem Ats.get {H : Hp} : ∀ {us : List T} {vs : List V} {i : Nat} {v : V}, Ats H us vs → vs[i]? = some v → ∃ u a, us[i]? = some u ∧ v = .ref a ∧ At H a u
  | [], _, i, v, h, e => by
    rw [show _ = [] from h] at e
    simp at e
  | u :: us, _, 0, v, h, e => by
    obtain ⟨x, ws, rfl, h1, h2⟩ := h
    have : V.ref x = v := by simpa using e
    subst this
    exact ⟨u, x, rfl, rfl, h1⟩
  | u :: us, _, i + 1, v, h, e => by
    obtain ⟨x, ws, rfl, h1, h2⟩ := h
    obtain ⟨u', a, e1, e2⟩ := Ats.get (i := i) h2 (by simpa using e)
    exact ⟨u', a, by simpa using e1, e2⟩
theorem Nodes.ns {H : Hp} : ∀ {t : T} {vs : List V}, Nodes H t vs → Ns H t.nodes vs
  | .nil, _, h => h
  | .text s r, _, h => by
    obtain ⟨p, ws, rfl, hp, hr⟩ := h
    exact ⟨_, ws, rfl, ⟨p, [], rfl, hp, rfl⟩, Nodes.ns hr⟩
  | .shw n r, _, h => by
    obtain ⟨p, ws, rfl, hp, hr⟩ := h
    exact ⟨_, ws, rfl, ⟨p, [], rfl, hp, rfl⟩, Nodes.ns hr⟩
  | .num r, _, h => by
    obtain ⟨p, ws, rfl, hp, hr⟩ := h
    exact ⟨_, ws, rfl, ⟨p, [], rfl, hp, rfl⟩, Nodes.ns hr⟩
  | .cho hd cs o r, _, h => by
    obtain ⟨p, ws, ca, cvs, oa, ovs, rfl, hp, hc, hcs, ho, hos, hr⟩ := h
    exact ⟨_, ws, rfl, ⟨p, [], ca, cvs, oa, ovs, rfl, hp, hc, hcs, ho, hos, rfl⟩, Nodes.ns hr⟩
  | .cas k m r, _, h => by
    obtain ⟨p, ws, ma, mvs, rfl, hp, hm, hms, hr⟩ := h
    exact ⟨_, ws, rfl, ⟨p, [], ma, mvs, rfl, hp, hm, hms, rfl⟩, Nodes.ns hr⟩
theorem Ns.nodes {H : Hp} : ∀ {t : T} {vs : List V}, Ns H t.nodes vs → Nodes H t vs
  | .nil, _, h => h
  | .text s r, _, h => by
    obtain ⟨v, ws, rfl, ⟨p, _, e, hp, _⟩, hr⟩ := h
    cases e
    exact ⟨p, ws, rfl, hp, Ns.nodes hr⟩
  | .shw n r, _, h => by
    obtain ⟨v, ws, rfl, ⟨p, _, e, hp, _⟩, hr⟩ := h
    cases e
    exact ⟨p, ws, rfl, hp, Ns.nodes hr⟩
  | .num r, _, h => by
    obtain ⟨v, ws, rfl, ⟨p, _, e, hp, _⟩, hr⟩ := h
    cases e
    exact ⟨p, ws, rfl, hp, Ns.nodes hr⟩
  | .cho hd cs o r, _, h => by
    obtain ⟨v, ws, rfl, ⟨p, _, ca, cvs, oa, ovs, e, hp, hc, hcs, ho, hos, _⟩, hr⟩ := h
    cases e
    exact ⟨p, ws, ca, cvs, oa, ovs, rfl, hp, hc, hcs, ho, hos, Ns.nodes hr⟩
  | .cas k m r, _, h => by
    obtain ⟨v, ws, rfl, ⟨p, _, ma, mvs, e, hp, hm, hms, _⟩, hr⟩ := h
    cases e
    exact ⟨p, ws, ma, mvs, rfl, hp, hm, hms, Ns.nodes hr⟩
/-- a node of a message: what its tuple begins with -/
theorem node_of {H : Hp} {u : T} {v : V} (h : Nodes H u [v]) (w : Wf u false) : ∃ p x xs, v = .ref p ∧ H p = some (.tup (.str x :: xs)) ∧ u.single ∧
    ((x = "select" ∨ x = "plural") ↔ u.isCho = true) ∧ (x = "text" ↔ u.isText = true) := by
  cases u with
  | nil => cases (show [v] = [] from h)
  | text s r =>
    obtain ⟨p, ws, e, hp, hr⟩ := h
    cases e
    have : r = .nil := by
      have := hr.length
      cases r <;> first | rfl | (simp [T.len] at this)
    exact ⟨p, _, _, rfl, hp, this, by simp [T.isCho]; decide, by simp [T.isText]⟩
  | shw n r =>
    obtain ⟨p, ws, e, hp, hr⟩ := h
    cases e
    have : r = .nil := by
      have := hr.length
      cases r <;> first | rfl | (simp [T.len] at this)
    exact ⟨p, _, _, rfl, hp, this, by simp [T.isCho]; decide, by simp [T.isText]; decide⟩
  | num r =>
    obtain ⟨p, ws, e, hp, hr⟩ := h
    cases e
    have : r = .nil := by
      have := hr.length
      cases r <;> first | rfl | (simp [T.len] at this)
    exact ⟨p, _, _, rfl, hp, this, by simp [T.isCho]; decide, by simp [T.isText]; decide⟩
  | cho hd cs o r =>
    obtain ⟨p, ws, ca, cvs, oa, ovs, e, hp, _, _, _, _, hr⟩ := h
    cases e
    have : r = .nil := by
      have := hr.length
      cases r <;> first | rfl | (simp [T.len] at this)
    rcases w.2.1 with ⟨n, rfl⟩ | ⟨n, off, rfl⟩
    · exact ⟨p, _, _, rfl, hp, this, by simp [T.isCho], by simp [T.isText]; decide⟩
    · exact ⟨p, _, _, rfl, hp, this, by simp [T.isCho], by simp [T.isText]; decide⟩
  | cas k m r => cases w.1
theorem Nodes.msgs {H : Hp} : ∀ {t : T} {vs : List V}, Nodes H t vs → Wf t true → ∃ ms, Ats H t.msgs ms ∧ vs.length = ms.length ∧ ∀ (i : Nat) (v : V), vs[i]? = some v → ∃ (p : Addr) (k : V) (a : Addr), v = V.ref p ∧ H p = some (.tup [k, .ref a]) ∧ ms[i]? = some (V.ref a)
  | .nil, _, h, _ => ⟨[], rfl, by rw [show _ = [] from h], fun i v e => by rw [show _ = [] from h] at e; simp at e⟩
  | .text s r, _, h, w => by cases w.1
  | .shw n r, _, h, w => by cases w.1
  | .num r, _, h, w => by cases w.1
  | .cho hd cs o r, _, h, w => by cases w.1
  | .cas k m r, _, h, w => by
    obtain ⟨p, ws, ma, mvs, rfl, hp, hm, hms, hr⟩ := h
    obtain ⟨ms, h1, h2, h3⟩ := Nodes.msgs hr w.2.2.2
    refine ⟨.ref ma :: ms, ⟨ma, ms, rfl, ⟨mvs, hm, hms⟩, h1⟩, congrArg (· + 1) h2, fun i v e => ?_⟩
    cases i with
    | zero =>
      have : V.ref p = v := by simpa using e
      subst this
      exact ⟨p, k, ma, rfl, hp, rfl⟩
    | succ i =>
      obtain ⟨q, k', a, e1, e2, e3⟩ := h3 i v (by simpa using e)
      exact ⟨q, k', a, e1, e2, by simpa using e3⟩
end Mw

namespace Mw
open PySem L2
theorem atI_m1 {α : Type} (xs : List α) (a b : α) : atI (xs ++ [a, b]) (-1) = some b := by
  rw [show xs ++ [a, b] = (xs ++ [a]) ++ [b] by simp]
  exact atI_last _ _
theorem atI_m2 {α : Type} (xs : List α) (a b : α) : atI (xs ++ [a, b]) (-2) = some a := by
  unfold atI ixN
  have hl : (xs ++ [a, b]).length = xs.length + 2 := by simp
  rw [if_neg (by decide), if_pos (by rw [hl]; omega), hl]
  show (xs ++ [a, b])[((-2 : Int) + ((xs.length + 2 : Nat) : Int)).toNat]? = some a
  rw [show ((-2 : Int) + ((xs.length + 2 : Nat) : Int)).toNat = xs.length by omega]
  rw [List.getElem?_append_right (Nat.le_refl _), Nat.sub_self]
  rfl
section
variable {P : Program} {w : World} {K : PySem.W.Frag} {mg : Str → Option Value} {base : Heap}
/-! ### is_choice -/
abbrev sIs : Stmt := top 5
theorem scIs : FnScope ["node"] ["node"] (defScope sIs) := ⟨rfl, rfl, rfl, by decide +kernel, rfl, by decide +kernel, by decide +kernel⟩
def spIs : Sp := fun vs H Q _ => ∃ (v : V) (u : T), vs = [v] ∧ Nodes H u [v] ∧ Wf u false ∧ ∀ H', Same H H' → Q (.bl u.isCho) H'
theorem in_two (x a b : Str) : inV (.str x) [.str a, .str b] = decide (x = a ∨ x = b) := by
  have h : ∀ c d : Str, (c == d) = decide (d = c) := fun c d => by
    by_cases e : d = c
    · subst e
      simp
    · rw [decide_eq_false e]
      exact beq_eq_false_iff_ne.mpr fun z => e z.symm
  unfold inV
  simp only [List.any_cons, List.any_nil, Bool.or_false, eqV, h]
  exact (Bool.decide_or _ _).symm
theorem ok_is {f : Addr} {fd : FuncData} (F : Fun K "is_choice" "is_choice" sIs f fd) : FnOk P w K mg base CX0 1 f fd ["node"] spIs := by
  refine F.ok scIs (fun vs H Q E h => ?_) (fun cdv A outer s H vs Q E hr h => ?_)
  · obtain ⟨v, u, rfl, _⟩ := h
    rfl
  obtain ⟨v, u, rfl, hn, hw, q⟩ := h
  obtain ⟨p, x, xs, rfl, hp, _, hc, _⟩ := node_of hn hw
  refine ⟨_, pss_one (ps_ret (pe_cmpR op_in_seq (pe_ix ix_tup (pv 0) pe_int (fun _ _ => rfl)) (pe_tup (pa_cons pe_str (pa_cons pe_str pa_nil))) (by rfl))), ?_⟩
  refine ⟨_, rfl, p, _, 0, .str x, rfl, rfl, .inl (.inl hp), atI_nat (j := 0) rfl, by show 2 ≤ sizeLine; decide, fun t ht => ⟨t, _, rfl, .inr (.inl (.inl upd_same)), rfl, rfl, ?_⟩⟩
  have e : inV (V.str x) [.str "select", .str "plural"] = u.isCho := by
    rw [in_two]
    cases hu : u.isCho with
    | true => exact decide_eq_true (hc.mpr hu)
    | false => exact decide_eq_false fun z => by rw [hc.mp z] at hu; cases hu
  show Q (.bl (inV (V.str x) [.str "select", .str "plural"])) _
  rw [e]
  exact q _ (same_new ht _)
/-! ### cases_of, other_of -/
abbrev sCases : Stmt := top 6
abbrev sOther : Stmt := top 7
theorem scCases : FnScope ["node"] ["node"] (defScope sCases) := ⟨rfl, rfl, rfl, by decide +kernel, rfl, by decide +kernel, by decide +kernel⟩
theorem scOther : FnScope ["node"] ["node"] (defScope sOther) := ⟨rfl, rfl, rfl, by decide +kernel, rfl, by decide +kernel, by decide +kernel⟩
def spCases : Sp := fun vs H Q _ => ∃ (p ca oa : Addr) (hd cvs : List V), vs = [.ref p] ∧ H p = some (.tup (hd ++ [.ref ca, .ref oa])) ∧ H ca = some (.lst cvs) ∧ ∀ l, H l = none → Q (.ref l) (upd H l (.lst cvs))
def spOther : Sp := fun vs H Q _ => ∃ (p ca oa : Addr) (hd : List V), vs = [.ref p] ∧ H p = some (.tup (hd ++ [.ref ca, .ref oa])) ∧ Q (.ref oa) H
theorem ok_cases {f : Addr} {fd : FuncData} (F : Fun K "cases_of" "cases_of" sCases f fd) (ml : mg "list" = none) : FnOk P w K mg base CX0 1 f fd ["node"] spCases := by
  refine F.ok scCases (fun vs H Q E h => ?_) (fun cdv A outer s H vs Q E hr h => ?_)
  · obtain ⟨p, ca, oa, hd, cvs, rfl, _⟩ := h
    rfl
  obtain ⟨p, ca, oa, hd, cvs, rfl, hp, hc, q⟩ := h
  refine ⟨_, pss_one (ps_ret (pe_callTy call_list_of (by rfl) ml (by decide +kernel) (pa_cons (pe_ix ix_tup (pv 0) (pe_un un_neg pe_int) (fun _ _ => rfl)) pa_nil))), ?_⟩
  exact ⟨_, rfl, 2, rfl, p, _, -2, .ref ca, rfl, rfl, .inl (.inl hp), atI_m2 _ _ _, ca, _, rfl, .inl (SqL.of hc), q⟩
theorem ok_other {f : Addr} {fd : FuncData} (F : Fun K "other_of" "other_of" sOther f fd) : FnOk P w K mg base CX0 1 f fd ["node"] spOther := by
  refine F.ok scOther (fun vs H Q E h => ?_) (fun cdv A outer s H vs Q E hr h => ?_)
  · obtain ⟨p, ca, oa, hd, rfl, _⟩ := h
    rfl
  obtain ⟨p, ca, oa, hd, rfl, hp, q⟩ := h
  refine ⟨_, pss_one (ps_ret (pe_ix ix_tup (pv 0) (pe_un un_neg pe_int) (fun _ _ => rfl))), ?_⟩
  exact ⟨_, rfl, 1, rfl, p, _, -1, .ref oa, rfl, rfl, .inl (.inl hp), atI_m1 _ _ _, q⟩
/-! ### inner_messages -/
abbrev sInner : Stmt := top 8
theorem scInner : FnScope ["node", "_", "message"] ["node"] (defScope sInner) := ⟨rfl, rfl, rfl, by decide +kernel, rfl, by decide +kernel, by decide +kernel⟩
def spInner : Sp := fun vs H Q _ => ∃ (H0 : Hp) (v : V) (u : T), vs = [v] ∧ Same H0 H ∧ Nodes H0 u [v] ∧ Wf u false ∧ u.sz < 100000 ∧ ∀ l H' ms, H l = none → Same H H' → H' l = some (.lst ms) → Ats H0 u.inner ms → Q (.ref l) H'
theorem len_sz : ∀ t : T, t.len ≤ t.sz
  | .nil => Nat.le_refl _
  | .text s r => by have := len_sz r; simp only [T.len, T.sz]; omega
  | .shw s r => by have := len_sz r; simp only [T.len, T.sz]; omega
  | .num r => by have := len_sz r; simp only [T.len, T.sz]; omega
  | .cho _ _ _ r => by have := len_sz r; simp only [T.len, T.sz]; omega
  | .cas _ _ r => by have := len_sz r; simp only [T.len, T.sz]; omega
theorem ok_inner {f fI fC fO : Addr} {fd fdI fdC fdO : FuncData} (F : Fun K "inner_messages" "inner_messages" sInner f fd)
    (GI : FnOk P w K mg base CX0 1 fI fdI ["node"] spIs) (bI : Binds K fdI ["node"] []) (kI : PySem.W.keepIn K (.ref fI) = true) (mI : mg "is_choice" = some (.ref fI))
    (GC : FnOk P w K mg base CX0 1 fC fdC ["node"] spCases) (bC : Binds K fdC ["node"] []) (kC : PySem.W.keepIn K (.ref fC) = true) (mC : mg "cases_of" = some (.ref fC))
    (GO : FnOk P w K mg base CX0 1 fO fdO ["node"] spOther) (bO : Binds K fdO ["node"] []) (kO : PySem.W.keepIn K (.ref fO) = true) (mO : mg "other_of" = some (.ref fO)) :
    FnOk P w K mg base CX0 2 f fd ["node"] spInner := by
  refine F.ok scInner (fun vs H Q E h => ?_) (fun cdv A outer s H vs Q E hr h => ?_)
  · obtain ⟨H0, v, u, rfl, _⟩ := h
    rfl
  obtain ⟨H0, v, u, rfl, h0, hn, hw, hz, q⟩ := h
  have nd := scInner.nd
  refine ⟨_, pss_cons (ps_if (pt_not (pt_val (pe_call GI hr rfl mI kI bI .nil pass0 (pa_cons (pv 0) pa_nil)))) (pss_one (ps_ret (pe_lst pa_nil))) pss_nil)
    (pss_one (ps_ret (pe_op op_cat
      (pe_lc (own := [("_", 1), ("message", 2)]) (g := gTup K 2 (gCons (gName 1) (gCons (gName 2) gNil))) (tt := tYes) rfl nd (pi_list (pe_call GC hr rfl mC kC bC .nil pass0 (pa_cons (pv 0) pa_nil))) (blkOk_by (N := ["node", "_", "message"]) (sc := defScope sInner) (by decide +kernel))
        (fun _ _ _ _ _ => pg_tup rfl (pgs_cons (pg_name (i := 1) nd rfl (.inl rfl)) (pgs_cons (pg_name (i := 2) nd rfl (.inl rfl)) pgs_nil))) (fun _ _ _ _ _ => pts_nil) (fun _ _ _ _ _ => pv 2))
      (pe_lst (pa_cons (pe_call GO hr rfl mO kO bO .nil pass0 (pa_cons (pv 0) pa_nil)) pa_nil))))), ?_⟩
  refine ⟨_, rfl, v, u, rfl, Nodes.same h0 hn, hw, fun H1 s1 => ⟨_, rfl, ?_⟩⟩
  cases hu : u.isCho with
  | false =>
    refine iteT ⟨Nat.zero_le _, fun l hl => q l _ [] (s1.free hl) (s1.trans (same_new hl _)) upd_same ?_⟩
    cases u <;> first | exact rfl | cases hu
  | true =>
    refine iteF ?_
    cases u with
    | cho hd cs o r =>
      obtain ⟨p, ws, ca, cvs, oa, ovs, e, hp, hc, hcs, ho, hos, hr'⟩ := hn
      cases e
      obtain ⟨ms, m1, m2, m3⟩ := Nodes.msgs hcs hw.2.2.1
      have hlen : ms.length < 99999 := by
        have e1 := hcs.length
        have e2 := len_sz cs
        simp only [T.sz] at hz
        omega
      refine ⟨_, rfl, p, ca, oa, hd, cvs, rfl, s1 _ _ (h0 _ _ hp), s1 _ _ (h0 _ _ hc), fun l hl => ⟨l, rfl, ⟨_, SqL.of upd_same⟩, fun D hD => ?_⟩⟩
      have s2 : Same H (upd H1 l (.lst cvs)) := s1.trans (same_new hl _)
      have s3 : Same (upd H1 l (.lst cvs)) (upd (upd H1 l (.lst cvs)) D (.lst [])) := same_new hD _
      refine lc_list (xs := cvs) (fun i H' => Same (upd H1 l (.lst cvs)) H' ∧ H' D = some (.lst (ms.take i))) ⟨s3, upd_same⟩ (fun i H' _ ⟨s', _⟩ => SqL.of (s' _ _ upd_same)) ?_ ?_
      · rintro i x H' hx ⟨s', hD'⟩
        obtain ⟨p', k, a, rfl, hp', hm'⟩ := m3 i x hx
        refine ⟨p', _, rfl, .inl (.inl (s' _ _ (s2 _ _ (h0 _ _ hp')))), rfl, k, _, rfl, .ref a, [], rfl, rfl, rfl, ?_⟩
        refine ⟨_, rfl, _, hD', sz_line (by rw [List.length_take]; omega), same_mut s' hD _, ?_⟩
        rw [upd_same, List.take_succ, hm']
        rfl
      · rintro H' ⟨s', hD'⟩
        have s4 : Same H H' := s2.trans s'
        rw [m2, List.take_length] at hD'
        refine ⟨_, rfl, p, ca, oa, hd, rfl, s4 _ _ (h0 _ _ hp), by show 1 ≤ sizeLine; decide, fun l2 hl2 => ?_⟩
        refine ⟨D, l2, _, _, rfl, rfl, same_new hl2 _ _ _ hD', upd_same, le_line (by show ms.length + 1 < 10000000; omega), fun l3 hl3 => ?_⟩
        have s5 : Same H (upd (upd H' l2 (.lst [.ref oa])) l3 (.lst (ms ++ [.ref oa]))) := (s4.trans (same_new hl2 _)).trans (same_new hl3 _)
        have ha : Ats H0 (T.cho hd cs o r).inner (ms ++ [.ref oa]) := Ats.append (show Ats H0 [o] [.ref oa] from ⟨oa, [], rfl, ⟨ovs, ho, hos⟩, rfl⟩) m1
        exact q l3 _ (ms ++ [.ref oa]) ((s4.trans (same_new hl2 _)).free hl3) s5 upd_same ha
    | _ => cases hu
end
end Mw

namespace Mw
open PySem L2
theorem cut_hd (xs : List V) (a b : V) : cutV (xs ++ [a, b]) none (some (-2)) = xs := by
  unfold cutV
  rw [HT.sIx_none, List.drop_zero, Nat.sub_zero]
  have e : HT.sIx (xs ++ [a, b]).length (xs ++ [a, b]).length (some (-2)) = xs.length := by
    show (if (-2 : Int) < 0 then ((-2 : Int) + ((xs ++ [a, b]).length : Int)).toNat else min (-2 : Int).toNat (xs ++ [a, b]).length) = xs.length
    rw [if_pos (by decide), List.length_append]
    show ((-2 : Int) + ((xs.length + 2 : Nat) : Int)).toNat = xs.length
    omega
  rw [e]
  simp
theorem cut_ne (xs : List V) (a b : V) : ¬ (HT.sIx (xs ++ [a, b]).length 0 none = 0 ∧ HT.sIx (xs ++ [a, b]).length (xs ++ [a, b]).length (some (-2)) = (xs ++ [a, b]).length) := by
  rintro ⟨_, h⟩
  have e : HT.sIx (xs ++ [a, b]).length (xs ++ [a, b]).length (some (-2)) = xs.length := by
    show (if (-2 : Int) < 0 then ((-2 : Int) + ((xs ++ [a, b]).length : Int)).toNat else min (-2 : Int).toNat (xs ++ [a, b]).length) = xs.length
    rw [if_pos (by decide), List.length_append]
    show ((-2 : Int) + ((xs.length + 2 : Nat) : Int)).toNat = xs.length
    omega
  rw [e, List.length_append] at h
  simp at h
theorem hdW_ne {hd : List V} (h : HdW hd) : hd ≠ [] ∧ hd.length ≤ 3 := by
  rcases h with ⟨n, rfl⟩ | ⟨n, off, rfl⟩
  · exact ⟨by simp, by simp⟩
  · exact ⟨by simp, by simp⟩
section
variable {P : Program} {w : World} {K : PySem.W.Frag} {mg : Str → Option Value} {base : Heap}
/-! ### with_inner -/
abbrev sWith : Stmt := top 9
theorem scWith : FnScope ["node", "messages", "cases", "case", "message"] ["node", "messages"] (defScope sWith) := ⟨rfl, rfl, rfl, by decide +kernel, rfl, by decide +kernel, by decide +kernel⟩
/-- the cases at cvs have the keys ks -/
def KeysAt (H : Hp) (cvs ks : List V) : Prop := cvs.length = ks.length ∧ ∀ (i : Nat) (v : V), cvs[i]? = some v → ∃ (q : Addr) (k x : V), v = V.ref q ∧ ks[i]? = some k ∧ H q = some (.tup [k, x])
/-- new cases of these keys and values -/
def CasesAt (H : Hp) (tvs ks fs : List V) : Prop := tvs.length = ks.length ∧ ∀ (i : Nat) (v : V), tvs[i]? = some v → ∃ (q : Addr) (k f : V), v = V.ref q ∧ ks[i]? = some k ∧ fs[i]? = some f ∧ H q = some (.tup [k, f])
def spWith : Sp := fun vs H Q _ => ∃ (p ca oa m : Addr) (hd cvs ks fs : List V) (z : V), vs = [.ref p, .ref m] ∧ H p = some (.tup (hd ++ [.ref ca, .ref oa])) ∧ HdW hd ∧ H ca = some (.lst cvs) ∧ KeysAt H cvs ks ∧ H m = some (.lst (fs ++ [z])) ∧ fs.length = ks.length ∧ ks.length < 100000 ∧
  ∀ (p' D : Addr) (H' : Hp) (tvs : List V), H p' = none → H D = none → Same H H' → H' p' = some (.tup (hd ++ [.ref D, z])) → H' D = some (.lst tvs) → CasesAt H' tvs ks fs → Q (.ref p') H'
theorem ok_with {f fC : Addr} {fd fdC : FuncData} (F : Fun K "with_inner" "with_inner" sWith f fd) (GC : FnOk P w K mg base CX0 1 fC fdC ["node"] spCases) (bC : Binds K fdC ["node"] []) (kC : PySem.W.keepIn K (.ref fC) = true) (mC : mg "cases_of" = some (.ref fC)) (mz : mg "zip" = none) :
    FnOk P w K mg base CX0 2 f fd ["node", "messages"] spWith := by
  refine F.ok scWith (fun vs H Q E h => ?_) (fun cdv A outer s H vs Q E hr h => ?_)
  · obtain ⟨p, ca, oa, m, hd, cvs, ks, fs, z, rfl, _⟩ := h
    rfl
  obtain ⟨p, ca, oa, m, hd, cvs, ks, fs, z, rfl, hp, hhd, hca, hks, hm, hfl, hkl, q⟩ := h
  have nd := scWith.nd
  refine ⟨_, pss_cons (ps_setLc (i := 2) (own := [("case", 3), ("message", 4)]) (g := gTup K 2 (gCons (gName 3) (gCons (gName 4) gNil))) (tt := tYes) rfl nd rfl rfl (sw_true rfl rfl rfl (by decide +kernel)) (pi_zip (by rfl) mz (pa_cons (pe_call GC hr rfl mC kC bC .nil pass0 (pa_cons (pv 0) pa_nil)) (pa_cons (pv 1) pa_nil)))
      (blkOk_by (N := ["node", "messages", "cases", "case", "message"]) (sc := defScope sWith) (by decide +kernel))
      (fun _ _ _ _ _ => pg_tup rfl (pgs_cons (pg_name (i := 3) nd rfl (.inl rfl)) (pgs_cons (pg_name (i := 4) nd rfl (.inl rfl)) pgs_nil))) (fun _ _ _ _ _ => pts_nil)
      (fun _ _ _ _ _ => pe_tup (pa_cons (pe_ix (r := rIxT K) ix_tup (pv 3) pe_int (fun _ _ => rfl)) (pa_cons (pv 4) pa_nil))))
    (pss_one (ps_ret (pe_op op_catT (pe_slice sl_tup (pv 0) po_none (po_some (pe_un un_neg pe_int))) (pe_tup (pa_cons (pv 2) (pa_cons (pe_ix ix_list (pv 1) (pe_un un_neg pe_int) (fun _ _ => rfl)) pa_nil)))))), ?_⟩
  refine ⟨_, rfl, p, ca, oa, hd, cvs, rfl, hp, hca, fun l hl => ⟨_, rfl, l, m, cvs, fs ++ [z], rfl, .inl (.inl upd_same), .inl (.inl (same_new hl _ _ _ hm)), fun D hD => ?_⟩⟩
  have s1 : Same H (upd H l (.lst cvs)) := same_new hl _
  have s2 : Same (upd H l (.lst cvs)) (upd (upd H l (.lst cvs)) D (.lst [])) := same_new hD _
  have hD0 : H D = none := upd_none hD
  refine lc_it (walk_zip (K := K) (a := l) (b := m) (xs := cvs) (ys := fs ++ [z]) (n := cvs.length) (by rw [List.length_append, hks.1, hfl]; omega)) (fun j H'' => ∃ tvs : List V, Same (upd H l (.lst cvs)) H'' ∧ H'' D = some (.lst tvs) ∧ tvs.length = j ∧ ∀ (i : Nat) (v : V), tvs[i]? = some v → ∃ (q : Addr) (k f : V), v = V.ref q ∧ ks[i]? = some k ∧ fs[i]? = some f ∧ q ≠ D ∧ H'' q = some (.tup [k, f]))
    ⟨[], s2, upd_same, rfl, fun i v e => by simp at e⟩ (fun j H'' _ ⟨_, s', _⟩ => ⟨.inl (.inl (s' _ _ upd_same)), .inl (.inl (s' _ _ (s1 _ _ hm)))⟩) ?_ ?_
  · rintro j x H'' H3 hj ⟨tvs, s', hD', hlen, hall⟩ ⟨T, x1, y1, rfl, hT, rfl, hx1, hy1⟩
    obtain ⟨qq, k, x2, rfl, hk, hqq⟩ := hks.2 j x1 hx1
    have hjf : j < fs.length := by
      have := (List.getElem?_eq_some_iff.mp hk).1
      omega
    have hy2 : fs[j]? = some y1 := by
      rw [← hy1]
      exact (List.getElem?_append_left hjf).symm
    have s3 : Same H'' (upd H'' T (.tup [.ref qq, y1])) := same_new hT _
    refine ⟨T, _, rfl, .inl (.inl upd_same), rfl, .ref qq, _, rfl, y1, [], rfl, rfl, rfl, ?_⟩
    refine ⟨_, rfl, qq, _, 0, k, rfl, rfl, .inl (.inl (s3 _ _ (s' _ _ (s1 _ _ hqq)))), atI_nat (j := 0) rfl, _, rfl, by show 2 ≤ sizeLine; decide, fun p2 hp2 => ?_⟩
    have s4 : Same H'' (upd (upd H'' T (.tup [.ref qq, y1])) p2 (.tup [k, y1])) := s3.trans (same_new hp2 _)
    have np2 : p2 ≠ D := (ne_of_none (s3 _ _ hD') hp2).symm
    refine ⟨tvs, s4 _ _ hD', sz_line (by rw [hlen]; have := hks.1; omega), tvs ++ [.ref p2], same_mut (s'.trans s4) hD _, upd_same, by rw [List.length_append, hlen]; rfl, fun i v e => ?_⟩
    by_cases hi : i < tvs.length
    · rw [List.getElem?_append_left hi] at e
      obtain ⟨q2, k2, f2, e1, e2, e3, e4, e5⟩ := hall i v e
      exact ⟨q2, k2, f2, e1, e2, e3, e4, by rw [upd_ne e4]; exact s4 _ _ e5⟩
    · have hi2 : i = j := by
        have := (List.getElem?_eq_some_iff.mp e).1
        rw [List.length_append, List.length_singleton] at this
        omega
      subst hi2
      rw [← hlen, List.getElem?_append_right (Nat.le_refl _), Nat.sub_self] at e
      have e' : V.ref p2 = v := by simpa using e
      subst e'
      refine ⟨p2, k, y1, rfl, hk, hy2, np2, ?_⟩
      rw [upd_ne np2]
      exact upd_same
  · rintro H'' ⟨tvs, s', hD', hlen, hall⟩
    have s03 := s1.trans s'
    refine ⟨_, rfl, 2, rfl, _, rfl, p, _, rfl, .inl (.inl (s03 _ _ hp)), cut_ne _ _ _, fun p1 hp1 => ?_⟩
    rw [cut_hd]
    have s4 : Same H (upd H'' p1 (.tup hd)) := s03.trans (same_new hp1 _)
    refine ⟨_, rfl, _, rfl, 1, rfl, m, _, -1, z, rfl, rfl, .inl (.inl (s4 _ _ hm)), atI_last _ _, by show 2 ≤ sizeLine; decide, fun p2 hp2 => ?_⟩
    have n12 : p1 ≠ p2 := ne_of_none upd_same hp2
    obtain ⟨hne, hhl⟩ := hdW_ne hhd
    have s5 : Same H'' (upd (upd H'' p1 (.tup hd)) p2 (.tup [.ref D, z])) := (same_new hp1 _).trans (same_new hp2 _)
    refine ⟨p1, p2, hd, _, rfl, rfl, .inl (.inl (by rw [upd_ne n12]; exact upd_same)), .inl (.inl upd_same), hne, le_line (by show hd.length + 2 < 10000000; omega), (fun z => nomatch z), fun _ p3 hp3 => ?_⟩
    have s6 : Same H'' (upd (upd (upd H'' p1 (.tup hd)) p2 (.tup [.ref D, z])) p3 (.tup (hd ++ [.ref D, z]))) := s5.trans (same_new hp3 _)
    refine q p3 D _ tvs ((s03.trans s5).free hp3) hD0 (s03.trans s6) upd_same (s6 _ _ hD') ⟨by rw [hlen, hks.1], fun i v e => ?_⟩
    obtain ⟨q2, k2, f2, e1, e2, e3, e4, e5⟩ := hall i v e
    exact ⟨q2, k2, f2, e1, e2, e3, s6 _ _ e5⟩
end
/-- the cases of a chain, by its keys -/
theorem keys_at {H : Hp} : ∀ {cs : T} {cvs : List V}, Nodes H cs cvs → Wf cs true → KeysAt H cvs cs.keys
  | .nil, _, h, _ => by
    rw [show _ = [] from h]
    exact ⟨rfl, fun i v e => by simp at e⟩
  | .cas k m r, _, h, w => by
    obtain ⟨p, ws, ma, mvs, rfl, hp, hm, hms, hr⟩ := h
    obtain ⟨i1, i2⟩ := keys_at hr w.2.2.2
    refine ⟨congrArg (· + 1) i1, fun i v e => ?_⟩
    cases i with
    | zero =>
      have e' : V.ref p = v := by simpa using e
      subst e'
      exact ⟨p, k, .ref ma, rfl, rfl, hp⟩
    | succ i =>
      obtain ⟨q, k', x, e1, e2, e3⟩ := i2 i v (by simpa using e)
      exact ⟨q, k', x, e1, by simpa [T.keys] using e2, e3⟩
  | .text _ _, _, _, w => by cases w.1
  | .shw _ _, _, _, w => by cases w.1
  | .num _, _, _, w => by cases w.1
  | .cho _ _ _ _, _, _, w => by cases w.1
theorem msgs_len : ∀ {cs : T}, Wf cs true → cs.msgs.length = cs.keys.length ∧ cs.keys.length = cs.len
  | .nil, _ => ⟨rfl, rfl⟩
  | .cas k m r, w => by
    obtain ⟨h1, h2⟩ := msgs_len w.2.2.2
    exact ⟨congrArg (· + 1) h1, congrArg (· + 1) h2⟩
  | .text _ _, w => by cases w.1
  | .shw _ _, w => by cases w.1
  | .num _, w => by cases w.1
  | .cho _ _ _ _, w => by cases w.1
end Mw

namespace Mw
open PySem L2
/-! ### paths in trees -/
abbrev Pth := List (Int × V)
def T.kcs : T → List (V × T)
  | .cas k m r => (k, m) :: r.kcs
  | _ => []
def T.oks : T → List V
  | .cho _ cs _ _ => cs.keys ++ [.str "other"]
  | _ => []
def kix : List V → V → Option Nat
  | [], _ => none
  | k :: r, x => if k = x then some 0 else (kix r x).map (· + 1)
/-- the node, which of its messages, and this -/
def stn (t : T) (x : Int × V) : Option (T × Nat × T) :=
  if x.1 < 0 then none else (t.nodes[x.1.toNat]?).bind fun u => (kix u.oks x.2).bind fun j => (u.inner[j]?).map fun m => (u, j, m)
def atP (t : T) : Pth → Option T
  | [] => some t
  | x :: p => (stn t x).bind fun y => atP y.2.2 p
def along (t : T) : Pth → Option (List T)
  | [] => some [t]
  | x :: p => (stn t x).bind fun y => (along y.2.2 p).map (t :: ·)
def ch : List T → T
  | [] => .nil
  | u :: us => u.app (ch us)
def setMs : T → List T → T
  | .cas k _ r, m :: ms => .cas k m (setMs r ms)
  | t, _ => t
def setI (u : T) (j : Nat) (m : T) : T := match u with
  | .cho hd cs o r => .cho hd (setMs cs ((cs.msgs ++ [o]).set j m)) (((cs.msgs ++ [o]).set j m).getD cs.msgs.length .nil) r
  | u => u
def putP (t : T) : Pth → T → T
  | [], m => m
  | x :: p, m => match stn t x with
    | some (u, j, i) => ch (t.nodes.set x.1.toNat (setI u j (putP i p m)))
    | none => t
theorem ch_nodes : ∀ t : T, ch t.nodes = t
  | .nil => rfl
  | .text s r => congrArg (T.text s) (ch_nodes r)
  | .shw s r => congrArg (T.shw s) (ch_nodes r)
  | .num r => congrArg T.num (ch_nodes r)
  | .cho hd cs o r => congrArg (T.cho hd cs o) (ch_nodes r)
  | .cas k m r => congrArg (T.cas k m) (ch_nodes r)
theorem nodes_app (u : T) : ∀ t : T, (t.app u).nodes = t.nodes ++ u.nodes
  | .nil => rfl
  | .text s r => congrArg (List.cons _) (nodes_app u r)
  | .shw s r => congrArg (List.cons _) (nodes_app u r)
  | .num r => congrArg (List.cons _) (nodes_app u r)
  | .cho hd cs o r => congrArg (List.cons _) (nodes_app u r)
  | .cas k m r => congrArg (List.cons _) (nodes_app u r)
theorem single_nodes {u : T} (h : u.single) : u.nodes = [u] := by
  cases u with
  | nil => cases h
  | _ => cases (show _ = T.nil from h); rfl
theorem nodes_ch : ∀ {us : List T}, (∀ u ∈ us, u.single) → (ch us).nodes = us
  | [], _ => rfl
  | u :: us, h => by
    show (u.app (ch us)).nodes = _
    rw [nodes_app, single_nodes (h u (by simp)), nodes_ch fun x hx => h x (List.mem_cons_of_mem _ hx)]
    rfl
theorem nodes_single : ∀ {t : T}, ∀ u ∈ t.nodes, u.single
  | .nil, _, h => by cases h
  | .text s r, u, h => by
    rcases List.mem_cons.mp h with rfl | h
    · exact rfl
    · exact nodes_single (t := r) u h
  | .shw s r, u, h => by
    rcases List.mem_cons.mp h with rfl | h
    · exact rfl
    · exact nodes_single (t := r) u h
  | .num r, u, h => by
    rcases List.mem_cons.mp h with rfl | h
    · exact rfl
    · exact nodes_single (t := r) u h
  | .cho hd cs o r, u, h => by
    rcases List.mem_cons.mp h with rfl | h
    · exact rfl
    · exact nodes_single (t := r) u h
  | .cas k m r, u, h => by
    rcases List.mem_cons.mp h with rfl | h
    · exact rfl
    · exact nodes_single (t := r) u h
theorem nodes_wf : ∀ {t : T} {c : Bool}, Wf t c → ∀ u ∈ t.nodes, Wf u c
  | .nil, _, _, u, h => by cases h
  | .text s r, _, w, u, h => by
    rcases List.mem_cons.mp h with rfl | h
    · exact ⟨w.1, trivial⟩
    · exact nodes_wf w.2 u h
  | .shw s r, _, w, u, h => by
    rcases List.mem_cons.mp h with rfl | h
    · exact ⟨w.1, trivial⟩
    · exact nodes_wf w.2 u h
  | .num r, _, w, u, h => by
    rcases List.mem_cons.mp h with rfl | h
    · exact ⟨w.1, trivial⟩
    · exact nodes_wf w.2 u h
  | .cho hd cs o r, _, w, u, h => by
    rcases List.mem_cons.mp h with rfl | h
    · exact ⟨w.1, w.2.1, w.2.2.1, w.2.2.2.1, trivial⟩
    · exact nodes_wf w.2.2.2.2 u h
  | .cas k m r, _, w, u, h => by
    rcases List.mem_cons.mp h with rfl | h
    · exact ⟨w.1, w.2.1, w.2.2.1, trivial⟩
    · exact nodes_wf w.2.2.2 u h
theorem Wf.app {u : T} {c : Bool} (hu : Wf u c) : ∀ {t : T}, Wf t c → Wf (t.app u) c
  | .nil, _ => hu
  | .text _ r, h => ⟨h.1, Wf.app hu h.2⟩
  | .shw _ r, h => ⟨h.1, Wf.app hu h.2⟩
  | .num r, h => ⟨h.1, Wf.app hu h.2⟩
  | .cho _ _ _ r, h => ⟨h.1, h.2.1, h.2.2.1, h.2.2.2.1, Wf.app hu h.2.2.2.2⟩
  | .cas _ _ r, h => ⟨h.1, h.2.1, h.2.2.1, Wf.app hu h.2.2.2⟩
theorem ch_wf {c : Bool} : ∀ {us : List T}, (∀ u ∈ us, Wf u c) → Wf (ch us) c
  | [], _ => trivial
  | u :: us, h => Wf.app (ch_wf fun x hx => h x (List.mem_cons_of_mem _ hx)) (h u (by simp))
theorem wf_msgs : ∀ {t : T}, Wf t true → ∀ m ∈ t.msgs, Wf m false
  | .nil, _, m, h => by cases h
  | .cas _ m r, w, m', h => by
    rcases List.mem_cons.mp h with rfl | h
    · exact w.2.2.1
    · exact wf_msgs w.2.2.2 m' h
  | .text _ _, w, _, _ => by cases w.1
  | .shw _ _, w, _, _ => by cases w.1
  | .num _, w, _, _ => by cases w.1
  | .cho _ _ _ _, w, _, _ => by cases w.1
theorem wf_inner {u : T} (w : Wf u false) : ∀ m ∈ u.inner, Wf m false := by
  cases u with
  | cho hd cs o r =>
    intro m h
    rcases List.mem_append.mp h with h | h
    · exact wf_msgs w.2.2.1 m h
    · rw [List.mem_singleton.mp h]
      exact w.2.2.2.1
  | _ => intro m h; cases h
theorem oks_len {u : T} (w : Wf u false) : u.oks.length = u.inner.length := by
  cases u with
  | cho hd cs o r =>
    show (cs.keys ++ [_]).length = (cs.msgs ++ [o]).length
    rw [List.length_append, List.length_append, (msgs_len w.2.2.1).1]
    rfl
  | _ => rfl
theorem kix_lt : ∀ {ks : List V} {x : V} {j : Nat}, kix ks x = some j → ks[j]? = some x ∧ ∀ i, i < j → ks[i]? ≠ some x
  | [], _, _, h => by cases h
  | k :: r, x, j, h => by
    unfold kix at h
    split at h
    · rename_i e
      cases h
      exact ⟨by rw [e]; rfl, fun i hi => absurd hi (Nat.not_lt_zero _)⟩
    · rename_i e
      cases h2 : kix r x with
      | none => rw [h2] at h; cases h
      | some i =>
        rw [h2] at h
        cases h
        obtain ⟨h3, h4⟩ := kix_lt h2
        refine ⟨by simpa using h3, fun n hn => ?_⟩
        cases n with
        | zero => simpa using e
        | succ n => simpa using h4 n (Nat.lt_of_succ_lt_succ hn)
theorem kix_none : ∀ {ks : List V} {x : V}, kix ks x = none → x ∉ ks
  | [], _, _, h => by cases h
  | k :: r, x, h, hm => by
    unfold kix at h
    split at h
    · cases h
    · rename_i e
      rcases List.mem_cons.mp hm with rfl | hm
      · exact e rfl
      · cases h2 : kix r x with
        | none => exact kix_none h2 hm
        | some i => rw [h2] at h; cases h
end Mw

namespace Mw
open PySem L2
section
variable {P : Program} {w : World} {K : PySem.W.Frag} {mg : Str → Option Value} {base : Heap}
/-! ### keys_of -/
abbrev sKo : Stmt := top 14
abbrev nKo : List Str := ["node", "key", "_"]
theorem scKo : FnScope nKo ["node"] (defScope sKo) := ⟨rfl, rfl, rfl, by decide +kernel, rfl, by decide +kernel, by decide +kernel⟩
def spKo : Sp := fun vs H Q _ => ∃ (v : V) (u : T), vs = [v] ∧ Nodes H u [v] ∧ Wf u false ∧ u.isCho = true ∧ u.sz < 100000 ∧ ∀ l H', H l = none → Same H H' → H' l = some (.lst u.oks) → Q (.ref l) H'
theorem ok_ko {f fC : Addr} {fd fdC : FuncData} (F : Fun K "keys_of" "keys_of" sKo f fd) (GC : FnOk P w K mg base CX0 1 fC fdC ["node"] spCases) (bC : Binds K fdC ["node"] []) (kC : PySem.W.keepIn K (.ref fC) = true) (mC : mg "cases_of" = some (.ref fC)) :
    FnOk P w K mg base CX0 2 f fd ["node"] spKo := by
  refine F.ok scKo (fun vs H Q E h => ?_) (fun cdv A outer s H vs Q E hr h => ?_)
  · obtain ⟨v, u, rfl, _⟩ := h
    rfl
  obtain ⟨v, u, rfl, hn, hw, hc, hz, q⟩ := h
  have nd := scKo.nd
  refine ⟨_, (pss_one (ps_ret (pe_op op_cat (pe_lc (own := [("key", 1), ("_", 2)]) (g := (gTup K 2 (gCons (gName 1) (gCons (gName 2) gNil)))) (tt := tYes)  rfl nd (pi_list (pe_call GC hr rfl mC kC bC .nil pass0 (pa_cons (pv 0) pa_nil))) (blkOk_by (N := nKo) (sc := defScope sKo) (by decide +kernel)) (fun _ _ _ _ _ => (pg_tup rfl (pgs_cons (pg_name (i := 1) nd rfl (.inl rfl)) (pgs_cons (pg_name (i := 2) nd rfl (.inl rfl)) pgs_nil)))) (fun _ _ _ _ _ => pts_nil) (fun _ _ _ _ _ => (pv 1))) (pe_lst (pa_cons pe_str pa_nil))))), ?_⟩
  cases u with
  | cho hd cs o r =>
    obtain ⟨p, ws, ca, cvs, oa, ovs, e, hp, hca, hcs, ho, hos, hr'⟩ := hn
    cases e
    obtain ⟨k1, k2⟩ := keys_at hcs hw.2.2.1
    have hlen : cs.keys.length < 99999 := by
      have e1 := (msgs_len hw.2.2.1).2
      have e2 := len_sz cs
      simp only [T.sz] at hz
      omega
    refine ⟨_, rfl, p, ca, oa, hd, cvs, rfl, hp, hca, fun l hl => ⟨l, rfl, ⟨_, SqL.of upd_same⟩, fun D hD => ?_⟩⟩
    have s1 : Same H (upd H l (.lst cvs)) := same_new hl _
    have s3 : Same (upd H l (.lst cvs)) (upd (upd H l (.lst cvs)) D (.lst [])) := same_new hD _
    refine lc_list (xs := cvs) (fun i H' => Same (upd H l (.lst cvs)) H' ∧ H' D = some (.lst (cs.keys.take i))) ⟨s3, upd_same⟩ (fun i H' _ ⟨s', _⟩ => SqL.of (s' _ _ upd_same)) ?_ ?_
    · rintro i x H' hx ⟨s', hD'⟩
      obtain ⟨p', k, a, rfl, hk, hp'⟩ := k2 i x hx
      refine ⟨p', _, rfl, .inl (.inl (s' _ _ (s1 _ _ hp'))), rfl, k, _, rfl, a, [], rfl, rfl, rfl, ?_⟩
      refine ⟨_, rfl, _, hD', sz_line (by rw [List.length_take]; omega), same_mut s' hD _, ?_⟩
      rw [upd_same, List.take_succ, hk]
      rfl
    · rintro H' ⟨s', hD'⟩
      rw [k1, List.take_length] at hD'
      refine ⟨by show 1 ≤ sizeLine; decide, fun l2 hl2 => ?_⟩
      refine ⟨D, l2, _, _, rfl, rfl, same_new hl2 _ _ _ hD', upd_same, le_line (by show cs.keys.length + 1 < 10000000; omega), fun l3 hl3 => ?_⟩
      have s5 : Same H (upd (upd H' l2 (.lst [.str "other"])) l3 (.lst (cs.keys ++ [.str "other"]))) := ((s1.trans s').trans (same_new hl2 _)).trans (same_new hl3 _)
      exact q l3 _ (((s1.trans s').trans (same_new hl2 _)).free hl3) s5 upd_same
  | _ => cases hc
end
end Mw

/-! an __init__ whose first statement is super().__init__(..), of an own class below ValueError -/
namespace Sx
open PySem PySem.Spec PyProof.Rows L2 NdefX
/-- what the row says of the class at C (the cell cc holds it) and of its __init__ at f -/
structure Sup (P : Program) (K : PySem.W.Frag) (mg : Str → Option Value) (C cc cda f : Addr) (F : NF) (ps : List Str) : Prop where
  T : OexC K C
  fn : ∃ (dV kV doc pm ct oc : Value) (an od : Option Addr) (osl : Array (Option Value)), K.lookup f = some ⟨oc, od, .func (PySem.W.fnX F.name F.qual F.params F.body F.scope F.cl dV kV doc pm an (.ref F.c) ct), osl⟩
  cl : F.cl = [(("__class__" : Str), cc)]
  fc : F.c = cda
  cd : PySem.W.codeIn K (.ref cda) F.qual = true
  ar : ∃ ar : Arg, (F.params.posonlyargs ++ F.params.args).head? = some ar ∧ ps[0]? = some ar.arg
  code : ∃ (ccl : Value) (cdd : Option Addr) (vs : Array Value) (ccs : Array (Option Value)) (file : Str) (tf : Tok), K.lookup cda = some ⟨ccl, cdd, .fields vs, ccs⟩ ∧ vs[2]? = some (.str file tf) ∧ ((P.main.file : Str) == file) = true
  cell : ∃ (c1 : Value) (d1 : Option Addr) (s1 : Array (Option Value)), K.lookup cc = some ⟨c1, d1, .cell (some (.ref C)), s1⟩
  isC : ∃ cd, PySem.W.clsIn K C = some cd
  sub : PySem.W.mroIn K C (.ref C) = some true
  gs : mg "super" = none
  ks : F.scope.names.lookup ("super" : Str) = some .globalImplicit
  top : (P.main.scope.names.lookup ("super" : Str)).isSome = false
  sm : PySem.W.ks_superIn K C C "__init__" = some (some (.builtin "ValueError.__init__"))
  opq : PySem.W.nsIn K cStatics "thirdparty.any" = some none
  isV : PySem.W.subIn K (.ref C) (.type "ValueError") = some true
section
variable {M : Model} {A : Around} {E : Value → Shared → Prop} {h : Heap} {g : Array GenState} {d : Drawn} {t : Nat} {os : OsState}
variable {nm q : Str} {C N : Addr} {bs bm : List Value} {hdct : Bool} {sn : List Str} {sub : List Value} {ab : Bool} {col : Option Bool} {dd : Option Addr} {k0 k1 k2 k3 k5 : Option Value}
theorem cw_mw {pos : Pos} {u x : Addr} {i : String} {env : Env} {e : Expr} {es : List Expr} {s : Shared} {Q : Value → Shared → Prop} (he : starEach (e :: es) env = (false, eval e env) :: starEach es env) (hpl : (backTo pos (starEach es env)).any (·.1) = false)
    (h : wpAny M A (spliced (backTo pos (starEach (e :: es) env))) (fun vs s1 => PySem.W.KxsAt i u x s1.heap ∧ wpAny M A (call (.ref u) vs) Q E s1) E s) : wpAny M A (callWith pos (.ref u) [] (backTo pos (starEach (e :: es) env)) []) Q E s := by
  have hb : (backTo pos (starEach (e :: es) env)).any (·.1) = false := by
    rw [he]
    show (false || (backTo pos (starEach es env)).any (·.1)) = false
    rw [hpl]
    rfl
  refine PySem.W.kxs_callWith (i := i) (x := x) hb ?_
  rw [he] at h ⊢
  exact Calls.evalArgs_plain h
theorem call_mw {P : Program} {w : World} {u e t0 : Addr} {us : List Value} {Q : Value → Shared → Prop} (hC : h.get? C = some (excClassObj nm q C N bs bm hdct sn sub ab col dd k0 k1 k2 k3 k5 "ValueError.__new__"))
    (he : h.get? e = some (HandSPX.excO C t0)) (hu : h.get? u = some (PySem.W.kxs_mw "ValueError.__init__" e)) (hl : us.length ≤ sizeLine)
    (hq : ∀ h' t1, (∀ b o, b ≠ e → h.get? b = some o → h'.get? b = some o) → h'.get? e = some (HandSPX.excO C t1) → Q .none ⟨h', g, d, t, os⟩) : wpAny (model P w) A (call (.ref u) us) Q E ⟨h, g, d, t, os⟩ := by
  refine wpAny_call (codeAny_of_tree ?_)
  show wpAny (model P w) A.in1 (callAny (Value.ref u) ⟨us, []⟩) _ _ _
  simp only [callAny]
  refine wpAny_bind (wpAny_load hu ?_)
  have tw : (Value.type "method-wrapper" == Value.type "method" || Value.type "method-wrapper" == Value.type "builtin_function_or_method" || Value.type "method-wrapper" == Value.type "method-wrapper") = true := by decide
  simp only [PySem.W.kxs_mw, tw, if_true]
  refine PySem.W.KFB.if_so (by decide) ?_
  refine wpAny_bind (PySem.W.check_bound_init F.excBase_ValueError.toExcCallFacts hC he rfl ?_)
  refine wpAny_bind (wpAny_pure (wpAny_pure ?_))
  refine ⟨plainId_quiet F.excBase_ValueError.init.plain _, codeAny_builtin F.excBase_ValueError.initEntry ?_⟩
  rw [Around.under_plainId F.excBase_ValueError.init.plain _]
  refine PySem.W.exc_init_tree (cls := .ref C) (t0 := t0) (dv := none) (c2 := .none) (c3 := .none) (b4 := .bool false) he hl (fun h' k e' _ => ?_)
  exact hq h' _ k e'
end
section
variable {CX : CXT} {P : Program} {w : World} {K : PySem.W.Frag} {mg : Str → Option Value} {base : Heap} {C cc cda f : Addr} {F : NF} {N ps : List Str} {k : Nat} {sp : Sp} {body rest : List Stmt} {p0 p1 p2 p3 p4 : Pos} {e : Expr} {es : List Expr}
theorem fn_super {dV kV doc pm ct : Value} {an : Option Addr} {oc : Value} {od : Option Addr} {osl : Array (Option Value)} (U : Sup P K mg C cc cda f F ps) (lk : K.lookup f = some ⟨oc, od, .func (PySem.W.fnX F.name F.qual F.params F.body F.scope F.cl dV kV doc pm an (.ref F.c) ct), osl⟩)
    (S : NScope N ps ["__class__"] F.scope)
    (hbd : F.body = .Expr (.Call (.Attribute (.Call (.Name "super" p0) [] [] p1) "__init__" p2) (e :: es) [] p3) p4 :: rest)
    (len : ∀ vs H Q E, sp vs H Q E → vs.length = ps.length)
    (he : ∀ env, starEach (e :: es) env = (false, eval e env) :: starEach es env) (hpl : ∀ env, (backTo p3 (starEach es env)).any (·.1) = false)
    (hev : ∀ env, eval (.Call (.Attribute (.Call (.Name "super" p0) [] [] p1) "__init__" p2) (e :: es) [] p3) env = (do
      let ov ← attributeBase (.Call (.Name "super" p0) [] [] p1) "__init__" env (eval (.Call (.Name "super" p0) [] [] p1) env)
      standAt p2.atName
      let (f, first) ← holding [ov] (getMethod ov "__init__" (pure false))
      callWith p3 f first (backTo p3 (starEach (e :: es) env)) []))
    (hin : ∀ env : Env, env.scope = F.scope → interactive env = false)
    (hsw : ∀ env : Env, swapsWith (.Call (.Attribute (.Call (.Name "super" p0) [] [] p1) "__init__" p2) (e :: es) [] p3) none p4.line env = pure false)
    (hbody : ∀ (A : Around) (outer : List Env) (s : Shared) (H : Hp) (vs : List V) (Q : VK) (E : XK), Room k (A.deeper (envF F f s.heap.objs.size)) → sp vs H Q E →
      ∃ (x : Addr) (ta : TA) (t : TS), vs[0]? = some (.ref x) ∧ H x = some (exo x C none) ∧ PA (ncx CX P w K mg base N F f A outer s H E) (e :: es) ta ∧ PSs (ncx CX P w K mg base N F f A outer s H E) rest t ∧
        ta (startF N vs [none]) H fun us H1 => us.length ≤ 1000 ∧ H1 x = some (exo x C none) ∧ t { nx := fun _ H' => Q .non H', rt := Q } (startF N vs [none]) H1) :
    FnOk P w K mg base CX (k + 1) f (PySem.W.fnX F.name F.qual F.params F.body F.scope F.cl dV kV doc pm an (.ref F.c) ct) ps sp := by
  refine ⟨len, fun A outer s H args us vs Q E hr e0 hb r hsp => ?_⟩
  have hl := len _ _ _ _ hsp
  have KX : K.In s.heap := e0.mod.kin.keeps fun b o z => (e0.bs b o z).1
  have lim : s.heap.NoLimit := e0.mod.nolimit.keeps fun b o z => (e0.bs b o z).1
  obtain ⟨ar, ha1, ha2⟩ := U.ar
  obtain ⟨ccl, cdd, cvs, ccs, file, tf, hco, hv2, hfi⟩ := U.code
  obtain ⟨c1, d1, s1, hce⟩ := U.cell
  obtain ⟨cdC, hcC⟩ := U.isC
  have hfc := U.fc
  subst hfc
  refine PySem.ks_codeAny_call_defAt (fd := PySem.W.fnX F.name F.qual F.params F.body F.scope F.cl dV kV doc pm an (.ref F.c) ct) hr.depth (KX _ _ lk) rfl lim (PySem.W.codeRec_of KX U.cd) rfl hb S.nocell (fun ⟨n, _⟩ hy => S.par n (List.of_mem_zip hy).1) (fun h₁ hns kp => ?_) S.co S.gen S.kind
  show PySem.wpAt (model P w) (A.deeper (envF F f s.heap.objs.size)) (.func F.body (envF F f s.heap.objs.size)) (execs F.body (envF F f s.heap.objs.size)) _ _ _
  obtain ⟨x, ta, t, hx0, hHx, hA, hS, hq⟩ := hbody A outer s H vs Q E (hr.deeper _) hsp
  have CA : CellsAt F.cl ["__class__"] [none] s.heap H := by
    have hcb := e0.bs cc _ (e0.mod.kin _ _ hce)
    rw [U.cl]
    refine ⟨rfl, fun y c z => ?_, fun y z c a b => ?_, fun i y hy => ?_⟩
    · have : y = "__class__" ∧ c = cc := by
        simp only [List.lookup] at z
        split at z
        · rename_i q
          exact ⟨by simpa using q, (Option.some.inj z).symm⟩
        · cases z
      rw [this.2]
      exact ⟨hcb.2, _, ⟨_, hcb.1, rfl⟩⟩
    · simp only [List.lookup] at a b
      split at a
      · split at b
        · rename_i q1 _ q2
          rw [show y = "__class__" by simpa using q1, show z = "__class__" by simpa using q2]
        · cases b
      · cases a
    · have : y = "__class__" := by
        cases i with
        | zero => exact (Option.some.inj hy).symm
        | succ i => simp at hy
      subst this
      refine ⟨cc, by simp [List.lookup], fun v hv => ?_⟩
      cases i with
      | zero => cases hv
      | succ i => simp at hv
  have I : Inv (ncx CX P w K mg base N F f A outer s H E) [] (startF N vs [none]) H { s with heap := h₁, toks := s.toks + (ps.zip us).length } := inv_startN S hr.hd e0 hl r CA hns kp
  have KX1 : K.In h₁ := KX.keeps kp
  have hkc : F.scope.names.lookup ("__class__" : Str) = some .free := S.frk _ List.mem_cons_self
  have npar : ps.Nodup := by
    have q := S.pre
    have z : (N.take (ps.length + [("__class__" : Str)].length)).Nodup := S.nd.sublist (List.take_sublist _ N)
    rw [q] at z
    exact (List.nodup_append.mp z).1
  have hux : us[0]? = some (.ref x) := by
    cases r with
    | nil => simp at hx0
    | @cons v0 u0 vr ur rv rr =>
      simp at hx0
      subst hx0
      obtain rfl : u0 = Value.ref x := rv
      rfl
  have hself : (ps.zip us).reverse.lookup ar.arg = some (.ref x) := zip_look npar ha2 hux
  have hka : F.scope.names.lookup ar.arg = some .local := S.par _ (List.mem_of_getElem? ha2)
  obtain ⟨t1, hox⟩ := exo_at I.hok hHx
  have hox' : h₁.get? x = some (HandSPX.excO C t1) := hox
  rw [hbd]
  obtain ⟨sh, sg, sd, st, so⟩ := s
  have hi := hin (envF F f sh.objs.size) rfl
  refine PySem.ks_wpAt_execs_cons (PySem.ks_wpAt_Expr_any (PySem.ks_wpAt_MethodCall (pl := pure false) ?_ (hev _)) hi (hsw _))
  obtain ⟨oD, hD1, hD2⟩ : ∃ oD, h₁.get? C = some oD ∧ oD.data = .cls cdC := by
    unfold PySem.W.clsIn at hcC
    split at hcC
    · rename_i c d cd' sl ho
      cases hcC
      exact ⟨_, KX1 _ _ ho, rfl⟩
    · cases hcC
  refine PySem.ks_wpAt_super_base (env := envF F f sh.objs.size) U.ks hkc (by decide) rfl (KX1 _ _ lk) rfl ha1 rfl (KX1 _ _ hco) rfl hv2 hfi U.top ?_
  obtain ⟨mb, hb1, hb2⟩ := I.mod.blt
  refine PySem.W.ks_loadName_global S.kind U.ks (Calls.loadGlobal_builtin (I.mod.glob.keeps I.bk) U.gs (hb1.keeps I.bk) ((hb2 "super" (by decide)).trans PyProof.Rows.Boot.«super») ⟨rfl, ?_⟩)
  refine wpAny_loadName_free S.kind hkc (c := cc) (by show F.cl.lookup _ = _; rw [U.cl]; rfl) ⟨_, KX1 _ _ hce, rfl⟩ ?_
  refine wpAny_loadName_local S.kind hka hns hself ?_
  refine PySem.ks_wpAny_isType_cls hD1 hD2 ⟨rfl, ?_⟩
  refine PySem.ks_wpAny_call_super hD1 hD2 hox' rfl (fun c z => by cases z) (PySem.W.looks_mroIn KX1 U.sub) (fun h2 es2 k2 => ?_)
  have KX2 : K.In h2 := KX1.keeps k2
  have IA : PySem.W.InstAt h2 x (HandSPX.excO C t1) C none := ⟨k2 _ _ hox', rfl, rfl, trivial⟩
  have hII : PySem.W.Looks (model P w) h2 (isInstance (.ref x) (.type "ValueError")) true := IA.type.andThen (PySem.W.looks_subIn KX2 U.isV)
  have hm := U.sm
  unfold PySem.W.ks_superIn at hm
  rw [hcC] at hm
  refine PySem.W.kxs_getMethod PySem.W.kxs_ValueError es2 (PySem.W.looks_opaque KX2 U.opq) (l₀ := cdC.mro) ?_ rfl KX2 hm hII (PySem.W.ks_ne KX2 IA hcC) (by decide) ?_
  · exact fun A Q E s k q => wpAny_bind ((PySem.W.looks_clsIn KX2 hcC) A _ E s k (wpAny_pure q))
  have hu : (h2.push (PySem.W.kxs_mw "ValueError.__init__" x)).get? h2.objs.size = some (PySem.W.kxs_mw "ValueError.__init__" x) := Heap.get?_push_size _ rfl
  have k3 : ∀ b o, h₁.get? b = some o → (h2.push (PySem.W.kxs_mw "ValueError.__init__" x)).get? b = some o := fun b o z => Heap.get?_push_of_some _ (k2 b o z)
  have I3 : Inv (ncx CX P w K mg base N F f A outer ⟨sh, sg, sd, st, so⟩ H E) [] (startF N vs [none]) H ⟨h2.push (PySem.W.kxs_mw "ValueError.__init__" x), sg, sd, st + (ps.zip us).length + 1, so⟩ := I.kept (t' := st + (ps.zip us).length + 1) k3
  have I2 : Inv (ncx CX P w K mg base N F f A outer ⟨sh, sg, sd, st, so⟩ H E) [] (startF N vs [none]) H ⟨h2, sg, sd, st + (ps.zip us).length, so⟩ := I.kept (t' := st + (ps.zip us).length) k2
  have I4 : Inv (ncx CX P w K mg base N F f A outer ⟨sh, sg, sd, st, so⟩ H E) [(h2.objs.size, PySem.W.kxs_mw "ValueError.__init__" x)] (startF N vs [none]) H ⟨h2.push (PySem.W.kxs_mw "ValueError.__init__" x), sg, sd, st + (ps.zip us).length + 1, so⟩ :=
    I3.pins_of fun p hp => by
      rw [List.mem_singleton] at hp
      subst hp
      exact ⟨hu, I2.hok.fresh (Nat.le_refl _), fun z => absurd I2.lt (by rw [← z]; exact Nat.lt_irrefl _), I2.nofs (Nat.le_refl _), fun v z => by cases z⟩
  refine cw_mw (i := "ValueError.__init__") (x := x) (he _) (hpl _) ?_
  refine thn (hA.run p3 _ _ _ H _ (I4.tok _) hq) fun us2 s2 hz => ?_
  obtain ⟨vs2, H2, J, r2, hl2, hx2, ht2⟩ := hz
  obtain ⟨hpu, _⟩ := J.pin (h2.objs.size, PySem.W.kxs_mw "ValueError.__init__" x) (List.mem_append_right _ List.mem_cons_self)
  refine ⟨hpu, ?_⟩
  obtain ⟨nm, q, NN, bs, bm, sn, sub, ab, col, dd, k0, k1, kk2, kk3, k5, hCl, hbm⟩ := U.T.cls
  obtain ⟨t2, ho2⟩ := exo_at J.hok hx2
  have hlen2 : us2.length ≤ sizeLine := by
    rw [← Paired.length r2, sizeLine_eq]
    omega
  obtain ⟨hp2, g2, d2, tk2, os2⟩ := s2
  refine call_mw (J.kIn _ _ hCl) ho2 hpu hlen2 fun h' t3 k3 hx3 => ?_
  have J1 := J.write (t' := tk2) (x := x) (e := x) (o := exo x C none) (by rw [hx2]; exact True.intro) (.inl rfl) k3 ⟨_, hx3⟩ (exo_ok hx3)
  have eu : upd H2 x (exo x C none) = H2 := by
    funext b
    by_cases hb : b = x
    · rw [hb, upd_same, hx2]
    · rw [upd_ne hb]
  rw [eu] at J1
  have J2 := J1.pins_of (pins' := []) fun p hp => absurd hp (by simp)
  refine PySem.wpAt_of_wpAny (wpAny_mono (hS.run [] _ (startF N vs [none]) H2 _ J2 ht2) (fun fl s' hs => ?_) fun e s' hs => hs)
  cases fl with
  | ret u =>
    obtain ⟨v, σ', H', G, rv, q⟩ := hs
    exact ⟨v, H', G.os, G.bare, G.base, G.hok, rv, q⟩
  | next =>
    obtain ⟨σ', H', G, q⟩ := hs
    exact ⟨V.non, H', G.os, G.bare, G.base, G.hok, rfl, q⟩
  | brk => exact hs.elim fun _ z => z.elim fun _ z => False.elim z.2
  | cont => exact hs.elim fun _ z => z.elim fun _ z => False.elim z.2
end
end Sx

/-! repr of tuples of tuples, whatever is being shown around: some text of a bounded length -/
namespace Rp
open PySem PySem.Spec PyProof.Rows L2
/-- x is shown, with d levels, by at most n signs -/
def Le (prog : Program) (w : World) (h₀ : Heap) (d : Nat) (x : Value) (n : Nat) : Prop :=
  ∀ b : Nat, b + n ≤ sizeLine → ∀ (A : Around) (E : Value → Shared → Prop) (s : Shared) (Q : Str → Shared → Prop), A.units + d < cLine → (∀ a o, h₀.get? a = some o → s.heap.get? a = some o) →
    (∀ m tk, m.length ≤ n → Q m { s with toks := tk }) → wpAny (model prog w) A (pyReprUnder b x) Q E s
theorem Le.is {prog : Program} {w : World} {h₀ : Heap} {d : Nat} {x : Value} {t : Str} {n : Nat} (h : ReprIs prog w x t) (hn : t.length ≤ n) : Le prog w h₀ d x n := fun b hb A E s _ _ _ q =>
  h b (by omega) A E s _ fun tk => q t tk hn
inductive LeAll (prog : Program) (w : World) (h₀ : Heap) (d : Nat) : List Value → List Nat → Prop
  | nil : LeAll prog w h₀ d [] []
  | cons {x : Value} {n : Nat} {l : List Value} {ns : List Nat} (h : Le prog w h₀ d x n) (t : LeAll prog w h₀ d l ns) : LeAll prog w h₀ d (x :: l) (n :: ns)
def pil (ns : List Nat) : Nat := (ns.map (· + 2)).sum
section
variable {prog : Program} {w : World} {A : Around} {E : Value → Shared → Prop} {h₀ : Heap} {d : Nat}
theorem fold_le (hu : A.units + d < cLine) : ∀ (l : List Value) (ns : List Nat) (acc : Array Str) (n : Nat) (s : Shared) (Q : (Array Str × Nat) → Shared → Prop), LeAll prog w h₀ d l ns → n + pil ns ≤ sizeLine →
    (∀ a o, h₀.get? a = some o → s.heap.get? a = some o) → (∀ (ts : List Str) tk m, piled ts ≤ pil ns → Q ⟨acc ++ ts.toArray, m⟩ { s with toks := tk }) → wpAny (model prog w) A (forIn l (⟨acc, n⟩ : (Array Str × Nat)) tupBody) Q E s
  | [], _, acc, n, s, Q, h, hn, hk, q => by
    cases h
    rw [List.forIn_nil]
    have e := q [] s.toks n (Nat.le_refl _)
    exact wpAny_pure (by simpa using e)
  | x :: l, _, acc, n, s, Q, h, hn, hk, q => by
    cases h with
    | @cons _ y _ ns hx hl =>
      have e1 : pil (y :: ns) = y + 2 + pil ns := by simp [pil]
      rw [List.forIn_cons]
      refine wpAny_bind (wpAny_bind (hx (n + 1) (by omega) A _ s _ hu hk fun m tk hm => wpAny_pure ?_))
      refine fold_le hu l ns (acc.push m) _ _ Q hl (by omega) hk fun ts tk' k hts => ?_
      have e2 := q (m :: ts) tk' k (by rw [piled_cons]; omega)
      simpa using e2
/-- the text between the brackets and these -/
theorem rest_le {a : Addr} {o : Obj} {items : Array Value} {k b : Nat} {ns : List Nat} {s : Shared} {Q : Fin → Shared → Prop} (hu : A.units + d < cLine) (ha : s.heap.get? a = some o) (hd : o.data = .seq items k) (hT : LeAll prog w h₀ d items.toList ns)
    (hk : ∀ a o, h₀.get? a = some o → s.heap.get? a = some o) (hz : b + pil ns + 10 ≤ sizeLine) (q : ∀ m u tk, m.length ≤ pil ns + 5 → Q (.done (.ret (.str m u))) { s with toks := tk }) : wpAny (model prog w) A (tupleReprRest b (.ref a)) Q E s := by
  unfold tupleReprRest Builtin.Tuple.tupleItemsOf
  refine wpAny_bind (wpAny_bind (wpAny_seqItems ha hd (wpAny_pure ?_)))
  rw [← Array.forIn_toList]
  refine wpAny_bind (fold_le hu _ ns #[] b s _ hT (by omega) hk fun ts tk m hts => ?_)
  have e3 : (((if items.size == 1 then ",)" else ")" : String) : Str)).length ≤ 2 := by split <;> decide +kernel
  have e1 : ((("(" : String) : Str)).length = 1 := rfl
  have ej : (Str.join ", " ts).length ≤ pil ns := by
    by_cases h : ts = []
    · subst h
      exact Nat.zero_le _
    · have := join_length_add ts h
      omega
  have et : ((("(" : Str) ++ Str.join ", " (#[] ++ ts.toArray : Array Str).toList ++ (if items.size == 1 then ",)" else ")" : String)) : Str).length ≤ pil ns + 5 := by
    rw [strLen_append, strLen_append, e1, show (#[] ++ ts.toArray : Array Str).toList = ts by simp]
    omega
  exact wpAny_bind (wpAny_mkStr (wpAny_pure (q _ _ _ et)) (Nat.le_trans et (by omega)))
/-- a tuple's own repr, whatever is under way -/
theorem own_le {a : Addr} {o : Obj} {items : Array Value} {k b : Nat} {ns : List Nat} {s : Shared} {Q : Fin → Shared → Prop} (hu : A.units + d < cLine) (ha : s.heap.get? a = some o) (hd : o.data = .seq items k) (hT : LeAll prog w h₀ d items.toList ns)
    (hk : ∀ a o, h₀.get? a = some o → s.heap.get? a = some o) (hz : b + pil ns + 10 ≤ sizeLine) (q : ∀ m u tk, m.length ≤ pil ns + 5 → Q (.done (.ret (.str m u))) { s with toks := tk }) : wpAny (model prog w) A (Builtin.tupleReprAt b ⟨[.ref a], []⟩) Q E s := by
  rw [tuple_repr_tree]
  refine wpAny_bind (fmt_underWay fun c => ?_)
  cases c with
  | true =>
    refine PySem.W.KFB.if_so rfl (wpAny_bind (wpAny_rule (wpAny_bind (wpAny_mkStr (wpAny_pure ?_) (by decide +kernel)))))
    exact q "(...)" _ _ (Nat.le_trans fmt_way (Nat.le_add_left _ _))
  | false => exact PySem.W.KFB.if_not rfl (rest_le hu ha hd hT hk hz q)
theorem Le.tup {a : Addr} {o : Obj} {items : Array Value} {k : Nat} {ns : List Nat} (ha : h₀.get? a = some o) (hc : o.cls = .type "tuple") (hd : o.data = .seq items k) (hT : LeAll prog w h₀ d items.toList ns) : Le prog w h₀ (d + 1) (.ref a) (pil ns + 10) := by
  intro b hb A E s Q hu hk q
  have ha' := hk _ _ ha
  refine wpAny_pyReprUnder_ref (by omega) (wpAny_pyReprObjUnder_twin (twin := "tuple.__repr__.under") ⟨o, ha', hc⟩ F.slot_tuple_repr rfl (by omega) ?_)
  refine call_twin_own (F.quiet_tuple_repr_under _) F.entry_tuple_repr_under F.check_tuple_repr_under ⟨o, ha', hc⟩ F.slot_tuple_repr (F.args_tuple_repr_1 _) (wpOwn_of_wpAny ?_)
  refine own_le (by first | (rw [units_under_tuple_repr_under]; omega) | omega) ha' hd hT hk (by omega) fun m u tk hm => ?_
  exact ⟨⟨_, _, rfl⟩, _, _, rfl, q m tk (by omega)⟩
theorem call_le {a : Addr} {o : Obj} {items : Array Value} {k : Nat} {ns : List Nat} {s : Shared} {Q : Value → Shared → Prop} (hu : A.units + (d + 1) < cLine) (ha : s.heap.get? a = some o) (hc : o.cls = .type "tuple") (hd : o.data = .seq items k) (hT : LeAll prog w h₀ d items.toList ns)
    (hk : ∀ a o, h₀.get? a = some o → s.heap.get? a = some o) (hz : pil ns + 10 ≤ sizeLine) (q : ∀ m u tk, m.length ≤ pil ns + 5 → Q (.str m u) { s with toks := tk }) : wpAny (model prog w) A (call (.builtin "tuple.__repr__") [.ref a]) Q E s := by
  refine wpAny_call (codeAny_call_builtin_own (Code.quiet_builtin _ (by decide +kernel)) F.entry_tuple_repr (F.slot_tuple_repr.check _ _ _ _ _ _ _ _ ⟨o, ha, hc⟩ (F.args_tuple_repr_1 _) (wpOwn_of_wpAny ?_)))
  exact own_le (b := 0) (by first | (rw [units_under_tuple_repr]; omega) | omega) ha hd hT hk (by omega) q
end
section
variable {X : Cx}
/-- {p!r}, p a tuple of tuples of texts and small numbers: some text -/
def tFmtP (K : PySem.W.Frag) (te : TE) : TE := fun σ H Q => te σ H fun x H1 => ∃ (a : Addr) (vs : List V), x = .ref a ∧ SqT K H1 a vs ∧ vs.length ≤ 100 ∧
  (∀ v ∈ vs, ∃ q i k, v = .ref q ∧ SqT K H1 q [.int i, k] ∧ i.natAbs.log2 < 1920 ∧ (toString i : Str).length ≤ 100 ∧ ((∃ j : Int, k = .int j ∧ j.natAbs.log2 < 1920 ∧ (toString j : Str).length ≤ 100) ∨ ∃ y : Str, k = .str y ∧ (reprText y).length ≤ 100)) ∧ ∀ m : Str, m.length ≤ 30000 → Q (.str m) H1
theorem pe_fmtP {e : Expr} {te : TE} {pos : Pos} {k : Nat} (hr : Room k X.A) (he : PE X e te) : PE X (.FormattedValue e 114 none pos) (tFmtP X.K te) := by
  refine ⟨fun pins s σ H Q I h => ?_⟩
  refine wpAny_FormattedValue_repr (thn (he.run pins s σ H _ I h) fun v s1 hv => ?_)
  obtain ⟨x, H1, I1, r1, a, vs, rfl, ht, hl, hall, q⟩ := hv
  cases r1
  obtain ⟨its, rv, ⟨o, ho, hcl, n, hd⟩, _⟩ := I1.tuple ht
  have hu := hr.units
  have big : (40000 : Nat) ≤ sizeLine := by decide
  have one : ∀ v ∈ vs, ∀ u, RelV v u → Le X.prog X.w s1.heap 1 u 220 := by
    intro v hv u r
    obtain ⟨q', i, kk, rfl, hq, hi1, hi2, hkk⟩ := hall v hv
    cases r
    obtain ⟨its', rv', ⟨o', ho', hcl', n', hd'⟩, _⟩ := I1.tuple hq
    cases rv' with
    | cons ra rb =>
      cases rb with
      | cons rb rc =>
        cases rc
        obtain ⟨t1, rfl⟩ := ra
        have l1 : Le X.prog X.w s1.heap 0 (.int i t1) 100 := Le.is (ReprIs.int t1 hi1) hi2
        have l2 : ∃ u2, Le X.prog X.w s1.heap 0 u2 100 ∧ RelV kk u2 ∧ u2 = _ := ⟨_, by
          rcases hkk with ⟨j, rfl, hj1, hj2⟩ | ⟨y, rfl, hy⟩
          · obtain ⟨t2, rfl⟩ := rb
            exact Le.is (ReprIs.int t2 hj1) hj2
          · obtain ⟨t2, rfl⟩ := rb
            exact Le.is (ReprIs.str y t2 (by omega)) hy, rb, rfl⟩
        obtain ⟨u2, l2, _, rfl⟩ := l2
        have := Le.tup (prog := X.prog) (w := X.w) (ns := [100, 100]) ho' hcl' hd' (by simpa using LeAll.cons l1 (LeAll.cons l2 .nil))
        exact fun b hb A E s Q hu hk q => this b (by simp [pil]; omega) A E s Q hu hk fun m tk hm => q m tk (by simp [pil] at hm; omega)
  have all : ∀ (vs : List V) (us : List Value), Vals vs us → (∀ v ∈ vs, ∀ u, RelV v u → Le X.prog X.w s1.heap 1 u 220) → LeAll X.prog X.w s1.heap 1 us (List.replicate vs.length 220) := by
    intro vs us r
    induction r with
    | nil => intro _; exact .nil
    | cons r1 r2 ih => intro h; exact .cons (h _ (by simp) _ r1) (ih fun v hv => h v (List.mem_cons_of_mem _ hv))
  have hp : pil (List.replicate vs.length 220) ≤ 22200 := by
    have : pil (List.replicate vs.length 220) = vs.length * 222 := by simp [pil]
    omega
  refine wpAny_pyReprObj_slot (by omega) ⟨o, ho, hcl⟩ F.slot_tuple_repr ?_
  refine call_le (d := 1) (h₀ := s1.heap) (by omega) ho hcl hd (by simpa using all vs its rv one) (fun _ _ e => e) (by omega) fun m u tk hm => ⟨m, u, rfl, ?_⟩
  have I2 : Inv X pins σ H1 { s1 with toks := tk } := I1.tok _
  exact wpAny_formatField_str ⟨.str m, H1, I2, ⟨_, rfl⟩, q m (by omega)⟩ ⟨.str m, H1, I2.tok _, ⟨_, rfl⟩, q m (by omega)⟩ (by omega)
end
end Rp

namespace Mw
open PySem L2 NdefX Sx
/-! ### paths in the heap -/
def Sts (H : Hp) : Pth → List V → Prop
  | [], vs => vs = []
  | x :: p, vs => ∃ q ws, vs = .ref q :: ws ∧ H q = some (.tup [.int x.1, x.2]) ∧ Sts H p ws
def PthAt (K : PySem.W.Frag) (H : Hp) (p : Pth) (v : V) : Prop := ∃ a vs, v = .ref a ∧ SqT K H a vs ∧ Sts H p vs
def KU : List V := [.int 0, .int 1, .int 3, .int 7, .str "one", .str "few", .str "many", .str "he", .str "she", .str "other", .str "it"]
def PthOk (p : Pth) : Prop := p.length ≤ 40 ∧ ∀ x ∈ p, (-200 ≤ x.1 ∧ x.1 ≤ 6600) ∧ x.2 ∈ KU
theorem ku_ok {k : V} (h : k ∈ KU) : (∃ j : Int, k = .int j ∧ j.natAbs.log2 < 1920 ∧ (toString j : Str).length ≤ 100) ∨ ∃ y : Str, k = .str y ∧ (reprText y).length ≤ 100 := by
  simp only [KU, List.mem_cons, List.not_mem_nil, or_false] at h
  rcases h with rfl | rfl | rfl | rfl | rfl | rfl | rfl | rfl | rfl | rfl | rfl <;> first | exact .inl ⟨_, rfl, by decide +kernel, by decide +kernel⟩ | exact .inr ⟨_, rfl, by decide +kernel⟩
theorem ku_flat {k : V} (h : k ∈ KU) : flatV k = true := by
  rcases ku_ok h with ⟨j, rfl, _⟩ | ⟨y, rfl, _⟩ <;> rfl
theorem int_sm1 : ∀ n : Fin 2001, (((n : Nat) : Int)).natAbs.log2 < 1920 ∧ (toString (((n : Nat) : Int)) : Str).length ≤ 100 := by decide +kernel
theorem int_sm2 : ∀ n : Fin 1600, (((n : Nat) : Int) + 2000).natAbs.log2 < 1920 ∧ (toString (((n : Nat) : Int) + 2000) : Str).length ≤ 100 := by decide +kernel
theorem int_sm4 : ∀ n : Fin 1600, (((n : Nat) : Int) + 3600).natAbs.log2 < 1920 ∧ (toString (((n : Nat) : Int) + 3600) : Str).length ≤ 100 := by decide +kernel
theorem int_sm5 : ∀ n : Fin 1600, (((n : Nat) : Int) + 5200).natAbs.log2 < 1920 ∧ (toString (((n : Nat) : Int) + 5200) : Str).length ≤ 100 := by decide +kernel
theorem int_sm3 : ∀ n : Fin 200, (((n : Nat) : Int) - 200).natAbs.log2 < 1920 ∧ (toString (((n : Nat) : Int) - 200) : Str).length ≤ 100 := by decide +kernel
theorem int_small {i : Int} (h1 : -200 ≤ i) (h2 : i ≤ 6600) : i.natAbs.log2 < 1920 ∧ (toString i : Str).length ≤ 100 := by
  by_cases c : i < 0
  · have b := int_sm3 ⟨(i + 200).toNat, by omega⟩
    rw [show (((i + 200).toNat : Nat) : Int) - 200 = i by omega] at b
    exact b
  by_cases c2 : i < 2000
  · have b := int_sm1 ⟨i.toNat, by omega⟩
    rw [show ((i.toNat : Nat) : Int) = i by omega] at b
    exact b
  by_cases c3 : i < 3600
  · have b := int_sm2 ⟨(i - 2000).toNat, by omega⟩
    rw [show (((i - 2000).toNat : Nat) : Int) + 2000 = i by omega] at b
    exact b
  by_cases c4 : i < 5200
  · have b := int_sm4 ⟨(i - 3600).toNat, by omega⟩
    rw [show (((i - 3600).toNat : Nat) : Int) + 3600 = i by omega] at b
    exact b
  · have b := int_sm5 ⟨(i - 5200).toNat, by omega⟩
    rw [show (((i - 5200).toNat : Nat) : Int) + 5200 = i by omega] at b
    exact b
theorem Sts.same {H H' : Hp} (s : Same H H') : ∀ {p : Pth} {vs : List V}, Sts H p vs → Sts H' p vs
  | [], _, h => h
  | x :: p, _, h => by
    obtain ⟨q, ws, rfl, h1, h2⟩ := h
    exact ⟨q, ws, rfl, s _ _ h1, Sts.same s h2⟩
theorem Sts.length {H : Hp} : ∀ {p : Pth} {vs : List V}, Sts H p vs → vs.length = p.length
  | [], _, h => by rw [show _ = [] from h]; rfl
  | x :: p, _, h => by
    obtain ⟨q, ws, rfl, _, h2⟩ := h
    exact congrArg (· + 1) h2.length
theorem Sts.get {H : Hp} : ∀ {p : Pth} {vs : List V} {i : Nat} {v : V}, Sts H p vs → vs[i]? = some v → ∃ x q, p[i]? = some x ∧ v = .ref q ∧ H q = some (.tup [.int x.1, x.2])
  | [], _, i, v, h, e => by
    rw [show _ = [] from h] at e
    simp at e
  | x :: p, _, 0, v, h, e => by
    obtain ⟨q, ws, rfl, h1, h2⟩ := h
    have : V.ref q = v := by simpa using e
    subst this
    exact ⟨x, q, rfl, rfl, h1⟩
  | x :: p, _, i + 1, v, h, e => by
    obtain ⟨q, ws, rfl, h1, h2⟩ := h
    obtain ⟨x', q', e1, e2, e3⟩ := Sts.get (i := i) h2 (by simpa using e)
    exact ⟨x', q', by simpa using e1, e2, e3⟩
theorem PthAt.same {K : PySem.W.Frag} {H H' : Hp} {p : Pth} {v : V} (s : Same H H') (h : PthAt K H p v) : PthAt K H' p v := by
  obtain ⟨a, vs, rfl, h1, h2⟩ := h
  exact ⟨a, vs, rfl, h1.elim (fun h1 => .inl (h1.elim (fun h1 => .inl (s _ _ h1)) fun ⟨o, h1⟩ => .inr ⟨o, s _ _ h1⟩)) .inr, h2.same s⟩
/-- what the f-string of NoSuchPlace asks -/
theorem PthAt.fmt {K : PySem.W.Frag} {H : Hp} {p : Pth} {v : V} (h : PthAt K H p v) (ok : PthOk p) : ∃ (a : Addr) (vs : List V), v = .ref a ∧ SqT K H a vs ∧ vs.length ≤ 100 ∧
    (∀ v ∈ vs, ∃ q i k, v = .ref q ∧ SqT K H q [.int i, k] ∧ i.natAbs.log2 < 1920 ∧ (toString i : Str).length ≤ 100 ∧ ((∃ j : Int, k = .int j ∧ j.natAbs.log2 < 1920 ∧ (toString j : Str).length ≤ 100) ∨ ∃ y : Str, k = .str y ∧ (reprText y).length ≤ 100)) := by
  obtain ⟨a, vs, rfl, h1, h2⟩ := h
  refine ⟨a, vs, rfl, h1, by rw [h2.length]; have := ok.1; omega, fun v hv => ?_⟩
  obtain ⟨i, hi⟩ := List.mem_iff_getElem?.mp hv
  obtain ⟨x, q, e1, e2, e3⟩ := h2.get hi
  obtain ⟨⟨b1, b2⟩, b3⟩ := ok.2 x (List.mem_of_getElem? e1)
  obtain ⟨c1, c2⟩ := int_small b1 b2
  exact ⟨q, x.1, x.2, e2, .inl (.inl e3), c1, c2, ku_ok b3⟩
/-! ### NoSuchPlace -/
abbrev sNs : Stmt := inClass (top 2) 0
abbrev nNs (cc cda : Addr) : NF := ⟨"__init__", "NoSuchPlace.__init__", defArgs sNs, defBody sNs, defScope sNs, [("__class__", cc)], cda⟩
theorem scNs : NScope ["self", "path", "__class__"] ["self", "path"] ["__class__"] (defScope sNs) := nscope_by (by decide +kernel)
def spNs (K : PySem.W.Frag) (C : Addr) : Sp := fun vs H Q _ => ∃ (x : Addr) (v : V) (p : Pth), vs = [.ref x, v] ∧ PthAt K H p v ∧ PthOk p ∧ H x = some (exo x C none) ∧ ∀ dx, H dx = none → dx ≠ x → Q .non (upd (upd H dx (exd dx [("path", v)])) x (exo x C (some dx)))
theorem str_len (a b : Str) : (a ++ b).length = a.length + b.length := by
  show (a.cps ++ b.cps).size = _
  rw [Array.size_append]
  rfl
section
variable {P : Program} {w : World} {K : PySem.W.Frag} {mg : Str → Option Value} {base : Heap}
theorem ok_ns {CX : CXT} {C cc cda f : Addr} {dV kV doc pm ct oc : Value} {an od : Option Addr} {osl : Array (Option Value)} (U : Sup P K mg C cc cda f (nNs cc cda) ["self", "path"]) (no : PySem.W.findIn K (.ref C) "path" = some none)
    (lk : K.lookup f = some ⟨oc, od, .func (PySem.W.fnX "__init__" "NoSuchPlace.__init__" (defArgs sNs) (defBody sNs) (defScope sNs) [("__class__", cc)] dV kV doc pm an (.ref cda) ct), osl⟩) :
    FnOk P w K mg base CX 1 f (PySem.W.fnX "__init__" "NoSuchPlace.__init__" (defArgs sNs) (defBody sNs) (defScope sNs) [("__class__", cc)] dV kV doc pm an (.ref cda) ct) ["self", "path"] (spNs K C) := by
  refine fn_super (k := 0) (F := nNs cc cda) U lk scNs rfl (fun vs H Q E h => ?_) (fun _ => rfl) (fun _ => rfl) (fun _ => rfl) (fun env h => by unfold interactive; rw [h]; rfl) (fun _ => rfl) (fun A outer s H vs Q E hr h => ?_)
  · obtain ⟨x, v, p, rfl, _⟩ := h
    rfl
  obtain ⟨x, v, p, rfl, hp, hok, hx, q⟩ := h
  refine ⟨x, _, _, rfl, hx, pa_cons (pe_joined (.cons pe_str (.cons (Rp.pe_fmtP hr (pv 1)) .nil))) pa_nil, pss_one (ps_ost (pv 0) (pv 1)), ?_⟩
  obtain ⟨a, vs, rfl, h1, h2, h3⟩ := hp.fmt hok
  have e1 : (Str.empty ++ ("no message is at the path " : Str)).length ≤ 40 := by decide +kernel
  refine ⟨_, rfl, Nat.le_trans e1 (by decide), _, rfl, a, vs, rfl, h1, h2, h3, fun m hm => ⟨m, rfl, ?_, by show 1 ≤ 1000; decide, hx, ?_⟩⟩
  · rw [str_len]
    exact Nat.le_trans (Nat.add_le_add e1 hm) (by decide)
  · exact ⟨_, rfl, _, rfl, x, C, rfl, U.T, no, .inl ⟨hx, q⟩⟩
/-- what the row says of an error's class with its __init__ -/
structure EP (P : Program) (w : World) (K : PySem.W.Frag) (mg : Str → Option Value) (base : Heap) (x : Str) (C : Addr) : Prop where
  U : OexC K C
  m : mg x = some (.ref C)
  F : ∃ fB fd, PySem.W.findIn K (.ref C) "__init__" = some (some (.ref fB)) ∧ PySem.W.typeIn K (.ref fB) = some (.type "function") ∧ FnOk P w K mg base (L2.CX P w) 1 fB fd ["self", "path"] (spNs K C) ∧ Binds K fd ["self", "path"] []
end
end Mw

namespace Mw
open PySem L2 NdefX Sx
theorem eqV_ku {a b : V} (ha : a ∈ KU) (hb : b ∈ KU) : eqV a b = decide (a = b) := by
  have h : ∀ c d : Str, (c == d) = decide (V.str c = V.str d) := fun c d => by
    by_cases e : c = d
    · subst e
      simp
    · rw [decide_eq_false fun z => e (str_eq z)]
      exact beq_eq_false_iff_ne.mpr e
  have h2 : ∀ c d : Int, (c == d) = decide (V.int c = V.int d) := fun c d => by
    by_cases e : c = d
    · subst e
      simp
    · rw [decide_eq_false fun z => e (int_eq z)]
      exact beq_eq_false_iff_ne.mpr e
  rcases ku_ok ha with ⟨i, rfl, _⟩ | ⟨s, rfl, _⟩ <;> rcases ku_ok hb with ⟨j, rfl, _⟩ | ⟨t, rfl, _⟩
  · exact h2 _ _
  · exact (decide_eq_false (by intro z; cases z)).symm
  · exact (decide_eq_false (by intro z; cases z)).symm
  · exact h _ _
/-- all keys of a tree are of the menu -/
def Kd : T → Prop
  | .nil => True
  | .text _ r => Kd r
  | .shw _ r => Kd r
  | .num r => Kd r
  | .cho _ cs o r => (∀ k ∈ cs.keys, k ∈ KU ∧ k ≠ .str "other") ∧ cs.keys.Nodup ∧ Kd cs ∧ Kd o ∧ Kd r
  | .cas _ m r => Kd m ∧ Kd r
theorem kd_nodes : ∀ {t : T}, Kd t → ∀ u ∈ t.nodes, Kd u
  | .nil, _, _, h => by cases h
  | .text s r, k, u, h => by
    rcases List.mem_cons.mp h with rfl | h
    · exact trivial
    · exact kd_nodes (t := r) k u h
  | .shw s r, k, u, h => by
    rcases List.mem_cons.mp h with rfl | h
    · exact trivial
    · exact kd_nodes (t := r) k u h
  | .num r, k, u, h => by
    rcases List.mem_cons.mp h with rfl | h
    · exact trivial
    · exact kd_nodes (t := r) k u h
  | .cho hd cs o r, k, u, h => by
    rcases List.mem_cons.mp h with rfl | h
    · exact ⟨k.1, k.2.1, k.2.2.1, k.2.2.2.1, trivial⟩
    · exact kd_nodes k.2.2.2.2 u h
  | .cas k' m r, k, u, h => by
    rcases List.mem_cons.mp h with rfl | h
    · exact ⟨k.1, trivial⟩
    · exact kd_nodes k.2 u h
theorem kd_msgs : ∀ {t : T}, Kd t → ∀ m ∈ t.msgs, Kd m
  | .cas _ m r, k, m', h => by
    rcases List.mem_cons.mp h with rfl | h
    · exact k.1
    · exact kd_msgs k.2 m' h
  | .nil, _, _, h => by cases h
  | .text _ _, _, _, h => by cases h
  | .shw _ _, _, _, h => by cases h
  | .num _, _, _, h => by cases h
  | .cho _ _ _ _, _, _, h => by cases h
theorem kd_inner {u : T} (k : Kd u) : ∀ m ∈ u.inner, Kd m := by
  cases u with
  | cho hd cs o r =>
    intro m h
    rcases List.mem_append.mp h with h | h
    · exact kd_msgs k.2.2.1 m h
    · rw [List.mem_singleton.mp h]
      exact k.2.2.2.1
  | _ => intro m h; cases h
theorem oks_ku {u : T} (k : Kd u) : ∀ x ∈ u.oks, x ∈ KU := by
  cases u with
  | cho hd cs o r =>
    intro x hx
    rcases List.mem_append.mp hx with hx | hx
    · exact (k.1 x hx).1
    · rw [List.mem_singleton.mp hx]
      simp [KU]
  | _ => intro x hx; cases hx
theorem inV_oks {ks : List V} {x : V} (h : ∀ y ∈ ks, y ∈ KU) (hx : x ∈ KU) : inV x ks = decide (x ∈ ks) := by
  unfold inV
  induction ks with
  | nil => simp
  | cons k ks ih =>
    rw [List.any_cons, ih fun y hy => h y (List.mem_cons_of_mem _ hy), eqV_ku (h k (by simp)) hx]
    by_cases e : k = x
    · subst e
      simp
    · have e' : ¬ x = k := fun z => e z.symm
      simp [e, e']
theorem node_sz : ∀ {t : T}, ∀ u ∈ t.nodes, u.sz ≤ t.sz
  | .nil, _, h => by cases h
  | .text s r, u, h => by
    rcases List.mem_cons.mp h with rfl | h
    · simp only [T.sz]; omega
    · have := node_sz u h
      simp only [T.sz]; omega
  | .shw s r, u, h => by
    rcases List.mem_cons.mp h with rfl | h
    · simp only [T.sz]; omega
    · have := node_sz u h
      simp only [T.sz]; omega
  | .num r, u, h => by
    rcases List.mem_cons.mp h with rfl | h
    · simp only [T.sz]; omega
    · have := node_sz u h
      simp only [T.sz]; omega
  | .cho hd cs o r, u, h => by
    rcases List.mem_cons.mp h with rfl | h
    · simp only [T.sz]; omega
    · have := node_sz u h
      simp only [T.sz]; omega
  | .cas k m r, u, h => by
    rcases List.mem_cons.mp h with rfl | h
    · simp only [T.sz]; omega
    · have := node_sz u h
      simp only [T.sz]; omega
theorem cho_oks {u : T} (h : u.isCho = false) : u.oks = [] := by
  cases u <;> first | rfl | cases h
/-- what a step leads to -/
theorem stn_none_node {t : T} {x : Int × V} (h : x.1 < 0 ∨ (t.nodes.length : Int) ≤ x.1) : stn t x = none := by
  unfold stn
  split
  · rfl
  · rename_i c
    rw [List.getElem?_eq_none (by omega)]
    rfl
theorem stn_at {t : T} {x : Int × V} {u : T} (h0 : 0 ≤ x.1) (hu : t.nodes[x.1.toNat]? = some u) : stn t x = (kix u.oks x.2).bind fun j => (u.inner[j]?).map fun m => (u, j, m) := by
  unfold stn
  rw [if_neg (by omega), hu]
  rfl
theorem t_or {t u : TT} {σ : L2.St} {H : Hp} {Q : Bool → Hp → Prop} (a b : Bool) (ht : ∀ Q : Bool → Hp → Prop, Q a H → t σ H Q) (hu : a = false → ∀ Q : Bool → Hp → Prop, Q b H → u σ H Q) (q : Q (a || b) H) : tOr t u σ H Q := by
  refine ht _ ?_
  cases a with
  | true => exact iteT q
  | false => exact iteF (hu rfl _ q)
theorem i_or {t u : TT} {tu tw : TS} {D : Ends} {σ : L2.St} {H : Hp} (a b : Bool) (ht : ∀ Q : Bool → Hp → Prop, Q a H → t σ H Q) (hu : a = false → ∀ Q : Bool → Hp → Prop, Q b H → u σ H Q) (q : if (a || b) = true then tu D σ H else tw D σ H) : tIfS (tOr t u) tu tw D σ H :=
  t_or (Q := fun c H1 => if c = true then tu D σ H1 else tw D σ H1) a b ht hu q
section
variable {P : Program} {w : World} {K : PySem.W.Frag} {mg : Str → Option Value} {base : Heap}
/-! ### place_within -/
abbrev sPw : Stmt := top 16
theorem scPw : FnScope ["message", "step", "path", "place", "key", "keys"] ["message", "step", "path"] (defScope sPw) := ⟨rfl, rfl, rfl, by decide +kernel, rfl, by decide +kernel, by decide +kernel⟩
def spPw (K : PySem.W.Frag) (C : Addr) : Sp := fun vs H Q E => ∃ (a q : Addr) (yv : V) (p : Pth) (t : T) (x : Int × V) (H0 : Hp), vs = [.ref a, .ref q, yv] ∧ Same H0 H ∧ At H0 a t ∧ Wf t false ∧ Kd t ∧ t.sz < 100000 ∧ H q = some (.tup [.int x.1, x.2]) ∧ x.2 ∈ KU ∧ PthAt K H p yv ∧ PthOk p ∧
  (∀ u j m v r H', stn t x = some (u, j, m) → Same H H' → H r = none → H' r = some (.tup [v, .int (j : Nat)]) → Nodes H0 u [v] → u ∈ t.nodes → Q (.ref r) H') ∧
  (stn t x = none → ∀ dx H', H dx = none → Same H H' → H' dx = some (.xd [("path", yv)]) → E (.ref C) (some dx) H')
theorem ok_pw {f fI fK C : Addr} {fd fdI fdK : FuncData} (F : Fun K "place_within" "place_within" sPw f fd)
    (GI : FnOk P w K mg base CX0 1 fI fdI ["node"] spIs) (bI : Binds K fdI ["node"] []) (kI : PySem.W.keepIn K (.ref fI) = true) (mI : mg "is_choice" = some (.ref fI))
    (GK : FnOk P w K mg base CX0 2 fK fdK ["node"] spKo) (bK : Binds K fdK ["node"] []) (kK : PySem.W.keepIn K (.ref fK) = true) (mK : mg "keys_of" = some (.ref fK))
    (EC : EP P w K mg base "NoSuchPlace" C) (ml : mg "len" = none) : FnOk P w K mg base (L2.CX P w) 3 f fd ["message", "step", "path"] (spPw K C) := by
  obtain ⟨UC, mC, fC, fdC, iC, tC, GC, bC⟩ := EC
  refine F.okX scPw (fun vs H Q E h => ?_) (fun cdv A outer s H vs Q E hr h => ?_)
  · obtain ⟨a, q, yv, p, t, x, H0, rfl, _⟩ := h
    rfl
  obtain ⟨a, q, yv, p, t, x, H0, rfl, s0, ⟨vs, ha0, hn0⟩, hw, hk, hz, hq, hx, hp, hok, q1, q2⟩ := h
  have nd := scPw.nd
  refine ⟨_, (pss_cons (ps_asg (pv 1) (pg_tup rfl (pgs_cons (pg_name (i := 3) nd rfl (.inl rfl)) (pgs_cons (pg_name (i := 4) nd rfl (.inl rfl)) pgs_nil))))
      (pss_cons (ps_if (PW.pt (pw_or (pt_not (pt_chain op_le op_lt pe_int (pv 3) (pe_callB call_len_seq (by rfl) ml PySem.boot_len (pa_cons (pv 0) pa_nil)))) (pw_or1 (pt_not (pt_val (pe_call GI (hr.mono (by decide)) rfl mI kI bI .nil pass0 (pa_cons (pe_ix ix_list (pv 0) (pv 3) (fun _ _ => rfl)) pa_nil))))))) (pss_one (ps_raise rfl (takes_of rfl rfl rfl rfl) (pmk_oex (k := 1) UC iC tC GC hr bC .nil passL rfl mC (pa_cons (pv 2) pa_nil)))) pss_nil)
      (pss_cons (ps_set (i := 5) nd rfl (.inl rfl) (pe_call GK hr rfl mK kK bK .nil pass0 (pa_cons (pe_ix ix_list (pv 0) (pv 3) (fun _ _ => rfl)) pa_nil)))
      (pss_cons (ps_if (pt_cmpR op_notIn_seq (pv 4) (pv 5) rfl) (pss_one (ps_raise rfl (takes_of rfl rfl rfl rfl) (pmk_oex (k := 1) UC iC tC GC hr bC .nil passL rfl mC (pa_cons (pv 2) pa_nil)))) pss_nil)
      (pss_one (ps_ret (pe_tup (pa_cons (pe_ix ix_list (pv 0) (pv 3) (fun _ _ => rfl)) (pa_cons (pe_bm PySem.F.plainAttrs_list PySem.F.slot_list_index PySem.F.type_list_index mt_index (pv 5) (pa_cons (pv 4) pa_nil)) pa_nil))))))))), ?_⟩
  have ha := s0 _ _ ha0
  have hns := hn0.ns
  have hlen : vs.length = t.nodes.length := hns.length
  refine ⟨_, rfl, q, _, rfl, .inl (.inl hq), rfl, .int x.1, _, rfl, x.2, [], rfl, rfl, ?_⟩
  have bad : ∀ {H1 : Hp}, Same H H1 → stn t x = none → ∀ e, H1 e = none → ∀ dx, upd H1 e (exo e C none) dx = none → dx ≠ e → ∀ H2, (∀ b o, H1 b = some o → b ≠ e → b ≠ dx → H2 b = some o) → H2 dx = some (.xd [("path", yv)]) → E (.ref C) (some dx) H2 := fun {H1} s1 hno e he dx hdx ne H2 keep h2 => by
    have hdxH : H dx = none := s1.free (upd_none hdx)
    have heH : H e = none := s1.free he
    exact q2 hno dx H2 hdxH (fun b o hb => keep b o (s1 _ _ hb) (ne_of_none hb heH) (ne_of_none hb hdxH)) h2
  have raise : ∀ (σ : L2.St) (H1 : Hp), σ[2]? = some (some yv) → Same H H1 → stn t x = none → tMkO C (spNs K C) [] (tCons (tVar 2) tNil) σ H1 fun cls d H' => E cls d H' := fun σ H1 hσ s1 hno =>
    ⟨yv, hσ, by show 1 ≤ 1000; decide, fun e he => ⟨e, yv, p, rfl, (hp.same s1).same (same_new he _), hok, upd_same, fun dx hdx hne => ⟨rfl, dx, _, upd_same, by rw [upd_ne hne]; exact upd_same, (upd_none hdx), by
      refine bad s1 hno e he dx hdx hne _ (fun b o hb b2 b1 => ?_) upd_same
      rw [upd_ne b1, del_ne b2, upd_ne b2, upd_ne b1, upd_ne b2]
      exact hb⟩⟩⟩
  refine ⟨_, rfl, _, _, rfl, rfl, _, rfl, ?_⟩
  by_cases c0 : 0 ≤ x.1
  rotate_left
  · rw [decide_eq_false c0]
    refine iteF ⟨_, rfl, ?_⟩
    exact raise _ _ rfl (Same.refl _) (stn_none_node (.inl (by omega)))
  rw [decide_eq_true c0]
  refine iteT ⟨_, rfl, a, _, rfl, .inl (SqL.of ha), _, _, rfl, rfl, _, rfl, ?_⟩
  by_cases c1 : x.1 < (vs.length : Int)
  rotate_left
  · rw [decide_eq_false c1]
    exact raise _ _ rfl (Same.refl _) (stn_none_node (.inr (by omega)))
  rw [decide_eq_true c1]
  have hi : x.1.toNat < vs.length := by omega
  obtain ⟨u, hu, hun0⟩ := hns.get (v := vs[x.1.toNat]) (List.getElem?_eq_getElem hi)
  have hun := hun0.same s0
  have um : u ∈ t.nodes := List.mem_of_getElem? hu
  have uw : Wf u false := nodes_wf hw u um
  have uk : Kd u := kd_nodes hk u um
  have uz := node_sz u um
  have hst := stn_at c0 hu (x := x)
  have ix : ∀ {H1 : Hp}, Same H H1 → ∀ Q : VK, Q vs[x.1.toNat] H1 → tOp (rIxL K) (tVar 0) (tVar 3) [some (.ref a), some (.ref q), some yv, some (.int x.1), some x.2, none] H1 Q := fun s1 Q qq => ⟨_, rfl, _, rfl, a, vs, x.1, vs[x.1.toNat], rfl, rfl, SqL.of (s1 _ _ ha), at_of (j := x.1.toNat) (Int.toNat_of_nonneg c0).symm (List.getElem?_eq_getElem hi), qq⟩
  have ix5 : ∀ {H1 : Hp} {o5 : Option V}, Same H H1 → ∀ Q : VK, Q vs[x.1.toNat] H1 → tOp (rIxL K) (tVar 0) (tVar 3) [some (.ref a), some (.ref q), some yv, some (.int x.1), some x.2, o5] H1 Q := fun s1 Q qq => ⟨_, rfl, _, rfl, a, vs, x.1, vs[x.1.toNat], rfl, rfl, SqL.of (s1 _ _ ha), at_of (j := x.1.toNat) (Int.toNat_of_nonneg c0).symm (List.getElem?_eq_getElem hi), qq⟩
  refine ix (Same.refl _) _ ⟨_, u, rfl, hun, uw, fun H1 s1 => ⟨_, rfl, ?_⟩⟩
  cases hc : u.isCho with
  | false =>
    refine raise _ _ rfl s1 ?_
    rw [hst, cho_oks hc]
    rfl
  | true =>
    refine ix s1 _ ⟨_, u, rfl, hun.same s1, uw, hc, by omega, fun kl H2 hkl s2 hkl2 => ?_⟩
    have s12 := s1.trans s2
    have oku := oks_ku uk
    have flat : u.oks.all flatV = true := List.all_eq_true.mpr fun y hy => ku_flat (oku y hy)
    refine ⟨_, rfl, _, rfl, kl, _, rfl, .inl (SqL.of hkl2), ku_flat hx, flat, _, rfl, ?_⟩
    show (if (!inV x.2 u.oks) = true then _ else _)
    rw [inV_oks oku hx]
    cases hj : kix u.oks x.2 with
    | none =>
      rw [decide_eq_false (kix_none hj)]
      refine iteT (raise _ _ rfl s12 ?_)
      rw [hst, hj]
      rfl
    | some j =>
      obtain ⟨j1, j2⟩ := kix_lt hj
      rw [decide_eq_true (List.mem_of_getElem? j1)]
      have hjl : j < u.inner.length := by
        rw [← oks_len uw]
        exact (List.getElem?_eq_some_iff.mp j1).1
      have hst' : stn t x = some (u, j, u.inner[j]) := by
        rw [hst, hj]
        show (u.inner[j]?).map _ = _
        rw [List.getElem?_eq_getElem hjl]
        rfl
      refine iteF (ix5 s12 _ ⟨_, rfl, .inl ⟨rfl, _, SqL.of hkl2⟩, _, rfl, kl, _, _, j, x.2, rfl, rfl, SqL.of hkl2, ku_flat hx, flat, j1, by rw [eqV_ku hx hx]; exact decide_eq_true rfl, fun m z hm hz' => ?_, by show 2 ≤ sizeLine; decide, fun r hr' => ?_⟩)
      · have hz2 := oku z (List.mem_of_getElem? hz')
        rw [eqV_ku hz2 hx]
        exact decide_eq_false fun e => j2 m hm (by rw [← e]; exact hz')
      · exact q1 u j _ _ r _ hst' (s12.trans (same_new hr' _)) (s12.free hr') upd_same hun0 um
end
end Mw

/-! ### tuples: a slice that may be the whole, a sum whose left side may be empty, once a tuple -/
namespace Ts
open PySem L2 PyProof.Rows PySem.Spec
section
variable {s : Shared} {prog : Program} {w : World} {A : Around} {E : Value → Shared → Prop}
theorem whole {t sl : Addr} {items : Array Value} {vl vu : Value} {lo hi : Option Int} {Q : Value → Shared → Prop} (ht : IsTup s.heap t items) (hs : s.heap.IsSliceOf sl vl vu .none) (pl : IsPart vl lo) (pu : IsPart vu hi)
    (hl : HT.sIx items.size 0 lo = 0) (hh : HT.sIx items.size items.size hi = items.size) (h : Q (.ref t) s) : wpAny (model prog w) A (getItem (.ref t) (.ref sl)) Q E s := by
  obtain ⟨os, so1, so2, so3⟩ := id hs
  have tys : s.TypeIs (.ref sl) "slice" := ⟨os, so1, so2⟩
  unfold getItem
  try (with_reducible refine wpAny_holding ?_)
  try refine wpAny_bind (wpAny_pure ?_)
  refine wpAny_bind (wpAny_sequenceKey ht.typeIs (by decide) (wpAny_bind (wpAny_callSpecial?_slot (name := Str.ofString "__getitem__") ht.typeIs slot_tuple_getitem
    (wpAny_call_entry slot_tuple_getitem ht.typeIs entry_tuple_getitem ?_ (args_tuple_getitem _ _)))))
  (show wpAny _ _ (Builtin.Tuple.tupleItemsOf (.ref t) >>= _) _ _ s); refine wpAny_bind (tupleItemsOf_ ht (wpAny_bind (wpAny_typeOf tys ?_)))
  rw [if_pos (by decide)]
  refine wpAny_bind (HT.sliceApplied_gen hs pl pu ?_)
  have hyes : (((HT.sIx items.size 0 lo : Nat) : Int) == 0 && (1 : Int) == 1 && (HT.sIx items.size items.size hi - HT.sIx items.size 0 lo) == items.size) = true := by
    rw [hl, hh]
    simp
  show wpAny _ _ (if (((HT.sIx items.size 0 lo : Nat) : Int) == 0 && (1 : Int) == 1 && (HT.sIx items.size items.size hi - HT.sIx items.size 0 lo) == items.size) = true then _ else _) _ _ s
  rw [if_pos hyes]
  unfold Builtin.Tuple.tupleIsExact
  refine wpAny_bind (wpAny_bind (wpAny_typeOf ht.typeIs (wpAny_pure ?_)))
  rw [if_pos (by decide)]
  first
    | exact wpAny_bind (wpAny_pure (wpAny_pure ⟨_, rfl, wpAny_pure h⟩))
    | (wp_walk; exact ⟨_, rfl, wpAny_pure h⟩)
theorem rep1 (l : Addr) (items : Array Value) (n : Nat) (dd : Option Addr) (sl : Array (Option Value)) (u : Tok) :
    Meets (Builtin.«tuple.__mul__» ⟨[.ref l, .int 1 u], []⟩) (fun _ R s => s.heap.get? l = some { cls := .type "tuple", dict := dd, data := .seq items n, slots := sl } ∧ R (.ok (.ret (Value.ref l))) s) :=
  .of_wp fun _ _ _ R sh h => by
    obtain ⟨hp, g, d, tk, os⟩ := sh; obtain ⟨hl, h⟩ := h
    have f1 := AutoSeq1.idx_int
    have c0 : (decide ((1 : Int) < -(2 ^ 63)) || decide ((1 : Int) ≥ 2 ^ 63)) = false := by decide
    have c1 : (items.isEmpty || (1 : Int) == 1) = true := by simp
    wp_walk using wpAny_loadPart' hl; exact ⟨_, rfl, h⟩
end
/-- what a tuple's slice is, the whole or less -/
def rSl (K : PySem.W.Frag) : V → Option Int → Option Int → Hp → VK → Prop := fun x lo hi H Q => ∃ a xs, x = .ref a ∧ SqT K H a xs ∧ ∀ p H', Same H H' → SqT K H' p (cutV xs lo hi) → Q (.ref p) H'
section
variable {X : Cx}
theorem sl : SlR X (rSl X.K) := by
  intro pn s σ H x v vl vu lo hi sp Q Iv rx hs pl pu hh
  obtain ⟨a, xs, rfl, hxs, q⟩ := hh
  by_cases hw : (HT.sIx xs.length 0 lo = 0) ∧ (HT.sIx xs.length xs.length hi = xs.length)
  · cases rx
    obtain ⟨ws1, r, ht, hbd⟩ := Iv.tuple hxs
    have eln : ws1.toArray.size = xs.length := by rw [List.size_toArray]; exact r.length.symm
    refine ⟨"tuple", _, PyProof.Rows.slot_tuple_getitem.lookup, ht.typeIs, whole ht hs pl pu (by rw [eln]; exact hw.1) (by rw [eln]; exact hw.2) ⟨.ref a, H, Iv, rfl, q a H (fun _ _ h => h) ?_⟩⟩
    have e : cutV xs lo hi = xs := by
      unfold cutV
      rw [hw.1, hw.2]
      simp
    rw [e]
    exact hxs
  · exact sl_tup pn s σ H _ v vl vu lo hi sp Q Iv rx hs pl pu ⟨a, xs, rfl, hxs, hw, fun p hp => q p _ (fun b o h => by rw [upd_ne (ne_of_none h hp)]; exact h) (SqT.of upd_same)⟩
/-- a sum of tuples -/
def rCat (K : PySem.W.Frag) : R2 := fun x y H Q => ∃ a b xs ys, x = .ref a ∧ y = .ref b ∧ SqT K H a xs ∧ SqT K H b ys ∧ xs.length + ys.length ≤ sizeLine ∧ ∀ p H', Same H H' → SqT K H' p (xs ++ ys) → Q (.ref p) H'
theorem cat : OpR X (binaryOp .Add) (rCat X.K) := by
  intro pn s σ H x y v u Q Iv rx ry hh
  obtain ⟨a, b, xs, ys, rfl, rfl, hta, hb, hbd, q⟩ := hh
  by_cases hxs : xs = []
  · subst hxs
    cases rx
    cases ry
    obtain ⟨ws1, rv1, p1, _⟩ := Iv.tuple hta
    obtain ⟨ws2, rv2, p2, _⟩ := Iv.tuple hb
    cases rv1
    obtain ⟨⟨cls, dd, data, sl⟩, ho, hc, n, hdt⟩ := id p1
    obtain ⟨⟨cls2, dd2, data2, sl2⟩, ho2, hc2, n2, hd2⟩ := id p2
    simp only at hc hdt hc2 hd2
    subst hc hdt hc2 hd2
    exact concat_meets ⟨_, ho, rfl⟩ ⟨_, ho2, rfl⟩ noFill_tuple_add seq_tuple_add PySem.F.slot_tuple_add PySem.F.entry_tuple_add (PySem.F.args_tuple_add_2 _ _) (tuple_addW0 a b _ ws2.toArray n n2 dd dd2 sl sl2 (by simp)) ⟨ho, ho2, ⟨.ref b, H, Iv, rfl, q b H (fun _ _ h => h) hb⟩⟩
  · refine op_catT pn s σ H _ _ v u Q Iv rx ry ⟨a, b, xs, ys, rfl, rfl, hta, hb, hxs, hbd, fun e => q a H (fun _ _ h => h) (by rw [e, List.append_nil]; exact hta), fun _ p hp => q p _ (fun b o h => by rw [upd_ne (ne_of_none h hp)]; exact h) (SqT.of upd_same)⟩
/-- a tuple some times -/
def rRep (K : PySem.W.Frag) : R2 := fun x y H Q => ∃ l k xs, x = .ref l ∧ y = .int k ∧ SqT K H l xs ∧ xs ≠ [] ∧ 1 ≤ k ∧ k ≤ 1000 ∧ xs.length ≤ 1000 ∧ ∀ p H', Same H H' → SqT K H' p (List.replicate k.toNat xs).flatten → Q (.ref p) H'
theorem rep : OpR X (binaryOp .Mult) (rRep X.K) := by
  intro pn s σ H x y v u Q Iv rx ry hh
  obtain ⟨l, k, xs, rfl, rfl, hTu, hnn, h1, h2, hbd, q⟩ := hh
  by_cases hk : k = 1
  · subst hk
    cases rx
    obtain ⟨t, rfl⟩ := ry
    obtain ⟨ws1, r, ⟨⟨cls, dd, data, sl⟩, ho, hc, n, hdt⟩, hs⟩ := Iv.tuple hTu
    simp only at hc hdt
    subst hc hdt
    exact wpAny_binaryOp_repeat_ref (T := "tuple") (U := "int") (by decide) ⟨_, ho, rfl⟩ (fun s' => typeIs_int s' 1 t) noFill_tuple_mul F.fills_int_mul F.slot_int_rmul repeat_tuple F.slot_int_index.lookup (call_meets F.slot_int_rmul (typeIs_int s 1 t) F.entry_int_rmul (F.args_int_rmul_2 _ _) (int_rmul_tuple 1 t l ws1.toArray n dd sl)
      ⟨ho, rfl, ⟨_, ho, rfl⟩, call_meets F.slot_tuple_mul ⟨_, ho, rfl⟩ F.entry_tuple_mul (F.args_tuple_mul_2 _ _) (rep1 l ws1.toArray n dd sl t) ⟨ho, ⟨.ref l, H, Iv, rfl, q l H (fun _ _ h => h) (by simpa using hTu)⟩⟩⟩)
  · exact op_repT pn s σ H _ _ v u Q Iv rx ry ⟨l, k, xs, rfl, rfl, hTu, hnn, by omega, h2, hbd, fun p hp => q p _ (fun b o h => by rw [upd_ne (ne_of_none h hp)]; exact h) (SqT.of upd_same)⟩
/-- tuple(..) of a list or a tuple -/
def rTup (K : PySem.W.Frag) : List V → Hp → VK → Prop := fun xs H Q => ∃ a ys, xs = [.ref a] ∧ (SqL K H a ys ∨ SqT K H a ys) ∧ ∀ p H', Same H H' → SqT K H' p ys → Q (.ref p) H'
theorem tup : CallR X (.type "tuple") (rTup X.K) := by
  intro pn s σ H xs us Q Iv r hh
  obtain ⟨a, ys, rfl, hta, q⟩ := hh
  refine call_tuple_of pn s σ H _ us Q Iv r ⟨a, ys, rfl, ?_⟩
  rcases hta with hta | hta
  · exact .inl ⟨hta, fun l hl => q l _ (fun b o h => by rw [upd_ne (ne_of_none h hl)]; exact h) (SqT.of upd_same)⟩
  · exact .inr ⟨hta, q a H (fun _ _ h => h) hta⟩
end
theorem same {K : PySem.W.Frag} {H H' : Hp} {a : Addr} {xs : List V} (e : Same H H') (h : SqT K H a xs) : SqT K H' a xs := by
  rcases h with (h | ⟨fo, h⟩) | h
  · exact Or.inl (Or.inl (e _ _ h))
  · exact Or.inl (Or.inr ⟨fo, e _ _ h⟩)
  · exact Or.inr h
end Ts

namespace Mw
open PySem L2 NdefX Sx
theorem along_step {t : T} {x : Int × V} {p : Pth} {u : T} {j : Nat} {m : T} (h : stn t x = some (u, j, m)) : along t (x :: p) = (along m p).map (t :: ·) := by
  show (stn t x).bind _ = _
  rw [h]
  rfl
theorem along_none {t : T} {x : Int × V} {p : Pth} (h : stn t x = none) : along t (x :: p) = none := by
  show (stn t x).bind _ = _
  rw [h]
  rfl
theorem stn_inner {t : T} {x : Int × V} {u : T} {j : Nat} {m : T} (h : stn t x = some (u, j, m)) : t.nodes[x.1.toNat]? = some u ∧ u.inner[j]? = some m ∧ 0 ≤ x.1 ∧ kix u.oks x.2 = some j := by
  unfold stn at h
  split at h
  · cases h
  · rename_i c
    cases hu : t.nodes[x.1.toNat]? with
    | none => rw [hu] at h; cases h
    | some u' =>
      rw [hu] at h
      cases hj : kix u'.oks x.2 with
      | none => simp [hj] at h
      | some j' =>
        cases hm : u'.inner[j']? with
        | none => simp [hj, hm] at h
        | some m' =>
          have h' : (u', j', m') = (u, j, m) := by simpa [hj, hm] using h
          cases h'
          exact ⟨rfl, hm, by omega, hj⟩
theorem at_along {t : T} : ∀ {p : Pth} {m : T}, atP t p = some m → ∃ ts, along t p = some (ts ++ [m]) ∧ ts.length = p.length := by
  intro p
  induction p generalizing t with
  | nil => intro m h; cases h; exact ⟨[], rfl, rfl⟩
  | cons x p ih =>
    intro m h
    cases hs : stn t x with
    | none => simp [atP, hs] at h
    | some y =>
      obtain ⟨u, j, m'⟩ := y
      have h' : atP m' p = some m := by simpa [atP, hs] using h
      obtain ⟨ts, e1, e2⟩ := ih h'
      exact ⟨t :: ts, by rw [along_step hs, e1]; rfl, congrArg (· + 1) e2⟩
theorem along_at {t : T} : ∀ {p : Pth}, atP t p = none → along t p = none := by
  intro p
  induction p generalizing t with
  | nil => intro h; cases h
  | cons x p ih =>
    intro h
    cases hs : stn t x with
    | none => exact along_none hs
    | some y =>
      obtain ⟨u, j, m'⟩ := y
      rw [along_step hs, ih (by simpa [atP, hs] using h)]
      rfl
theorem inner_sz {u : T} : ∀ m ∈ u.inner, m.sz ≤ u.sz := by
  have key : ∀ {cs : T}, ∀ m ∈ cs.msgs, m.sz ≤ cs.sz := by
    intro cs
    induction cs with
    | cas k m r _ ih =>
      intro m' h
      rcases List.mem_cons.mp h with rfl | h
      · simp only [T.sz]; omega
      · have := ih m' h
        simp only [T.sz]; omega
    | _ => intro m h; cases h
  cases u with
  | cho hd cs o r =>
    intro m h
    rcases List.mem_append.mp h with h | h
    · have := key m h
      simp only [T.sz]; omega
    · rw [List.mem_singleton.mp h]
      simp only [T.sz]; omega
  | _ => intro m h; cases h
section
variable {P : Program} {w : World} {K : PySem.W.Frag} {mg : Str → Option Value} {base : Heap}
/-! ### messages_along, message_at -/
abbrev sAl : Stmt := top 17
theorem scAl : FnScope ["message", "path", "found", "step", "node", "at"] ["message", "path"] (defScope sAl) := ⟨rfl, rfl, rfl, by decide +kernel, rfl, by decide +kernel, by decide +kernel⟩
def spAl (K : PySem.W.Frag) (C : Addr) : Sp := fun vs H Q E => ∃ (a : Addr) (yv : V) (p : Pth) (t : T), vs = [.ref a, yv] ∧ At H a t ∧ Wf t false ∧ Kd t ∧ t.sz < 100000 ∧ PthAt K H p yv ∧ PthOk p ∧
  (∀ ts l H' vs, along t p = some ts → Same H H' → H l = none → H' l = some (.lst vs) → Ats H ts vs → Q (.ref l) H') ∧
  (along t p = none → ∀ dx H', H dx = none → Same H H' → H' dx = some (.xd [("path", yv)]) → E (.ref C) (some dx) H')
theorem ok_al {f fI fP C : Addr} {fd fdI fdP : FuncData} (F : Fun K "messages_along" "messages_along" sAl f fd)
    (GP : FnOk P w K mg base (L2.CX P w) 3 fP fdP ["message", "step", "path"] (spPw K C)) (bP : Binds K fdP ["message", "step", "path"] []) (kP : PySem.W.keepIn K (.ref fP) = true) (mP : mg "place_within" = some (.ref fP))
    (GI : FnOk P w K mg base CX0 2 fI fdI ["node"] spInner) (bI : Binds K fdI ["node"] []) (kI : PySem.W.keepIn K (.ref fI) = true) (mI : mg "inner_messages" = some (.ref fI)) :
    FnOk P w K mg base (L2.CX P w) 4 f fd ["message", "path"] (spAl K C) := by
  refine F.okX scAl (fun vs H Q E h => ?_) (fun cdv A outer s H vs Q E hr h => ?_)
  · obtain ⟨a, yv, p, t, rfl, _⟩ := h
    rfl
  obtain ⟨a, yv, p, t, rfl, hat, hw, hk, hz, hp, hok, q1, q2⟩ := h
  have nd := scAl.nd
  refine ⟨_, (pss_cons (ps_set (i := 2) nd rfl (.inl rfl) (pe_lst (pa_cons (pv 0) pa_nil)))
      (pss_cons (ps_for (passes_of rfl) rfl (pi_tup (pv 1)) (pg_name (i := 3) nd rfl (.inl rfl)) (pss_cons (ps_asg (pe_call GP (hr.mono (by decide)) rfl mP kP bP .nil (passes_call (takes_of rfl rfl rfl rfl) (fun _ _ _ _ h => h)) (pa_cons (pe_ix ix_list (pv 2) (pe_un un_neg pe_int) (fun _ _ => rfl)) (pa_cons (pv 3) (pa_cons (pv 1) pa_nil)))) (pg_tup rfl (pgs_cons (pg_name (i := 4) nd rfl (.inl rfl)) (pgs_cons (pg_name (i := 5) nd rfl (.inl rfl)) pgs_nil))))
      (pss_one (ps_expr (pe_bm PySem.F.plainAttrs_list PySem.F.slot_list_append PySem.F.type_list_append mt_append (pv 2) (pa_cons (pe_ix ix_list (pe_call GI (hr.mono (by decide)) rfl mI kI bI .nil pass0 (pa_cons (pv 4) pa_nil)) (pv 5) (fun _ _ => rfl)) pa_nil))))))
      (pss_one (ps_ret (pv 2))))), ?_⟩
  obtain ⟨pa, pvs, rfl, hp1, hp2⟩ := id hp
  have hpl := hp2.length
  refine ⟨_, rfl, by show 1 ≤ sizeLine; decide, fun l hl => ?_⟩
  refine ⟨_, rfl, pa, rfl, ⟨_, Ts.same (same_new hl _) hp1⟩, for_tup (K := K) (a := pa) (xs := pvs) (fun i σ H' => ∃ (ws : List V) (ts : List T) (c : Addr) (t' : T) (o3 o4 o5 : Option V), σ = [some (.ref a), some (.ref pa), some (.ref l), o3, o4, o5] ∧ Same H H' ∧ H' l = some (.lst (ws ++ [.ref c])) ∧ Ats H ts ws ∧ At H c t' ∧ ts.length = i ∧ Wf t' false ∧ Kd t' ∧ t'.sz ≤ t.sz ∧ along t p = (along t' (p.drop i)).map (ts ++ ·))
    ⟨[], [], a, t, none, none, none, rfl, same_new hl _, upd_same, rfl, hat, rfl, hw, hk, Nat.le_refl _, by rw [List.drop_zero]; cases along t p <;> rfl⟩ (fun i σ H' _ ⟨_, _, _, _, _, _, _, _, s', _⟩ => Ts.same s' hp1) ?_ ?_⟩
  · rintro i x σ H1 hx ⟨ws, ts, c, t', o3, o4, o5, rfl, s1, hl1, hts, hct, hti, hw', hk', hz', hal⟩
    obtain ⟨y, qa, hy, rfl, hqa⟩ := hp2.get hx
    have hdrop : p.drop i = y :: p.drop (i + 1) := by
      have e := List.getElem?_eq_some_iff.mp hy
      rw [List.drop_eq_getElem_cons e.1, e.2]
    rw [hdrop] at hal
    refine ⟨_, rfl, _, rfl, l, _, -1, .ref c, rfl, rfl, SqL.of hl1, atI_last _ _, ?_⟩
    have hit : i < p.length := (List.getElem?_eq_some_iff.mp hy).1
    have hp20 := hok.1
    refine ⟨_, rfl, _, rfl, c, qa, .ref pa, p, t', y, H, rfl, s1, hct, hw', hk', by omega, s1 _ _ hqa, (hok.2 y (List.mem_of_getElem? hy)).2, hp.same s1, hok, fun u j m v r H2 hst s2 hr0 hr2 hun um => ?_, fun hno dx H2 hdx s2 h2 => ?_⟩
    · have s12 := s1.trans s2
      have uw := nodes_wf hw' u um
      have uz := node_sz u um
      obtain ⟨_, hmj, _, _⟩ := stn_inner hst
      have mm : m ∈ u.inner := List.mem_of_getElem? hmj
      refine ⟨r, _, rfl, .inl (.inl hr2), rfl, v, _, rfl, .int (j : Nat), [], rfl, rfl, ?_⟩
      have hl2 := s2 _ _ hl1
      refine ⟨_, rfl, .inl ⟨rfl, _, SqL.of hl2⟩, _, rfl, H, v, u, rfl, s12, hun, uw, by omega, fun il H3 ms hil s3 hil3 hms => ?_⟩
      have hjl : j < ms.length := by
        rw [hms.length]
        exact (List.getElem?_eq_some_iff.mp hmj).1
      obtain ⟨m', ma, hm1, hm2, hma⟩ := hms.get (v := ms[j]) (List.getElem?_eq_getElem hjl)
      rw [hmj] at hm1
      cases hm1
      have hl3 := s3 _ _ hl2
      refine ⟨_, rfl, il, ms, (j : Nat), .ref ma, rfl, rfl, SqL.of hil3, atI_nat (by rw [List.getElem?_eq_getElem hjl, hm2]), l, _, _, rfl, rfl, hl3, sz_line ?_, ?_⟩
      · rw [List.length_append, List.length_singleton, hts.length]
        omega
      refine ⟨ws ++ [.ref c], ts ++ [t'], ma, m, _, _, _, rfl, same_mut (s12.trans s3) hl _, upd_same, Ats.append (show Ats H [t'] [.ref c] from ⟨c, [], rfl, hct, rfl⟩) hts, hma, ?_, wf_inner uw m mm, kd_inner (kd_nodes hk' u um) m mm, ?_, ?_⟩
      · rw [List.length_append, hti]
        rfl
      · have := inner_sz m mm
        omega
      · rw [hal, along_step hst]
        cases along m (p.drop (i + 1)) with
        | none => rfl
        | some r => simp
    · refine q2 ?_ dx H2 (s1.free hdx) (s1.trans s2) h2
      rw [hal, along_none hno]
      rfl
  · rintro σ H1 ⟨ws, ts, c, t', o3, o4, o5, rfl, s1, hl1, hts, hct, hti, hw', hk', hz', hal⟩
    have e : p.drop pvs.length = [] := by
      rw [hpl]
      exact List.drop_length
    rw [e] at hal
    exact ⟨_, rfl, q1 (ts ++ [t']) l H1 _ (by rw [hal]; rfl) s1 hl hl1 (Ats.append (show Ats H [t'] [.ref c] from ⟨c, [], rfl, hct, rfl⟩) hts)⟩
end
end Mw

namespace Mw
open PySem L2
theorem Ats.set {H : Hp} {m : T} {c : Addr} (hc : At H c m) : ∀ {us : List T} {vs : List V} {j : Nat}, Ats H us vs → Ats H (us.set j m) (vs.set j (.ref c))
  | [], _, _, h => by
    rw [show _ = [] from h]
    exact rfl
  | u :: us, _, 0, h => by
    obtain ⟨a, ws, rfl, h1, h2⟩ := h
    exact ⟨c, ws, rfl, hc, h2⟩
  | u :: us, _, j + 1, h => by
    obtain ⟨a, ws, rfl, h1, h2⟩ := h
    exact ⟨a, ws.set j (.ref c), rfl, h1, Ats.set hc h2⟩
theorem Ns.set {H : Hp} {u' : T} {v' : V} (hn : Nodes H u' [v']) : ∀ {us : List T} {vs : List V} {i : Nat}, Ns H us vs → Ns H (us.set i u') (vs.set i v')
  | [], _, _, h => by
    rw [show _ = [] from h]
    exact rfl
  | u :: us, _, 0, h => by
    obtain ⟨a, ws, rfl, h1, h2⟩ := h
    exact ⟨v', ws, rfl, hn, h2⟩
  | u :: us, _, j + 1, h => by
    obtain ⟨a, ws, rfl, h1, h2⟩ := h
    exact ⟨a, ws.set j v', rfl, h1, Ns.set hn h2⟩
/-- new cases with new messages -/
theorem cases_set {H : Hp} : ∀ {cs : T} {tvs fs : List V} {ms : List T}, Wf cs true → CasesAt H tvs cs.keys fs → Ats H ms fs → ms.length = cs.keys.length → Nodes H (setMs cs ms) tvs
  | .nil, tvs, fs, ms, _, h, _, _ => List.length_eq_zero_iff.mp h.1
  | .cas k m r, tvs, fs, ms, w, h, ha, hl => by
    cases tvs with
    | nil => cases h.1
    | cons v tvs =>
      obtain ⟨q, k', f, e1, e2, e3, e4⟩ := h.2 0 v rfl
      have e2' : k = k' := by simpa [T.keys] using e2
      subst e1 e2'
      cases ms with
      | nil => cases hl
      | cons m' ms =>
        obtain ⟨a, ws, rfl, h1, h2⟩ := ha
        have e3' : V.ref a = f := by simpa using e3
        subst e3'
        obtain ⟨mvs, g1, g2⟩ := h1
        refine ⟨q, tvs, a, mvs, rfl, e4, g1, g2, cases_set w.2.2.2 ⟨Nat.succ.inj h.1, fun i v e => ?_⟩ h2 (Nat.succ.inj hl)⟩
        obtain ⟨q2, k2, f2, g1, g2, g3, g4⟩ := h.2 (i + 1) v (by simpa using e)
        exact ⟨q2, k2, f2, g1, by simpa [T.keys] using g2, by simpa using g3, g4⟩
  | .text _ _, _, _, _, w, _, _, _ => by cases w.1
  | .shw _ _, _, _, _, w, _, _, _ => by cases w.1
  | .num _, _, _, _, w, _, _, _ => by cases w.1
  | .cho _ _ _ _, _, _, _, w, _, _, _ => by cases w.1
theorem setMs_app : ∀ {cs : T} {ms ms' : List T}, Wf cs true → ms.length = cs.keys.length → setMs cs (ms ++ ms') = setMs cs ms
  | .nil, ms, ms', _, _ => by cases ms <;> cases ms' <;> rfl
  | .cas k m r, [], _, _, h => by cases h
  | .cas k m r, m' :: ms, ms', w, h => congrArg (T.cas k m') (setMs_app w.2.2.2 (Nat.succ.inj h))
  | .text _ _, _, _, w, _ => by cases w.1
  | .shw _ _, _, _, w, _ => by cases w.1
  | .num _, _, _, w, _ => by cases w.1
  | .cho _ _ _ _, _, _, w, _ => by cases w.1
/-- the chain of outer messages, one by one -/
theorem along_get {t : T} : ∀ {p : Pth} {ts : List T}, along t p = some ts → ts.length = p.length + 1 ∧ ts[0]? = some t ∧ ∀ i x, p[i]? = some x → ∃ a b u j, ts[i]? = some a ∧ ts[i + 1]? = some b ∧ stn a x = some (u, j, b) := by
  intro p
  induction p generalizing t with
  | nil =>
    intro ts h
    cases h
    exact ⟨rfl, rfl, fun i x e => by simp at e⟩
  | cons y p ih =>
    intro ts h
    cases hs : stn t y with
    | none => rw [along_none hs] at h; cases h
    | some z =>
      obtain ⟨u, j, m⟩ := z
      rw [along_step hs] at h
      cases h2 : along m p with
      | none => rw [h2] at h; cases h
      | some r =>
        rw [h2] at h
        cases h
        obtain ⟨i1, i2, i3⟩ := ih h2
        refine ⟨congrArg (· + 1) i1, rfl, fun i x e => ?_⟩
        cases i with
        | zero =>
          have e' : y = x := by simpa using e
          subst e'
          exact ⟨t, m, u, j, rfl, by simpa using i2, hs⟩
        | succ i =>
          obtain ⟨a, b, u', j', e1, e2, e3⟩ := i3 i x (by simpa using e)
          exact ⟨a, b, u', j', by simpa using e1, by simpa using e2, e3⟩
theorem along_ok {t : T} {N : Nat} : ∀ {p : Pth} {ts : List T}, along t p = some ts → Wf t false → Kd t → t.sz ≤ N → ∀ a ∈ ts, Wf a false ∧ Kd a ∧ a.sz ≤ N := by
  intro p
  induction p generalizing t with
  | nil =>
    intro ts h w k z a ha
    cases h
    rw [List.mem_singleton.mp ha]
    exact ⟨w, k, z⟩
  | cons y p ih =>
    intro ts h w k z a ha
    cases hs : stn t y with
    | none => rw [along_none hs] at h; cases h
    | some q =>
      obtain ⟨u, j, m⟩ := q
      rw [along_step hs] at h
      cases h2 : along m p with
      | none => rw [h2] at h; cases h
      | some r =>
        rw [h2] at h
        cases h
        obtain ⟨hu, hm, _, _⟩ := stn_inner hs
        have um := List.mem_of_getElem? hu
        have mm := List.mem_of_getElem? hm
        rcases List.mem_cons.mp ha with rfl | ha
        · exact ⟨w, k, z⟩
        · have z1 := node_sz u um
          have z2 := inner_sz m mm
          exact ih h2 (wf_inner (nodes_wf w u um) m mm) (kd_inner (kd_nodes k u um) m mm) (by omega) a ha
theorem setI_cho {u : T} (h : u.isCho = true) (j : Nat) (m : T) (hs : u.single) : (setI u j m).single ∧ (setI u j m).isCho = true := by
  cases u with
  | cho hd cs o r => exact ⟨hs, rfl⟩
  | _ => cases h
theorem cut_pre (xs : List V) (i : Nat) (h : i ≤ xs.length) : cutV xs none (some (i : Int)) = xs.take i := by
  unfold cutV
  rw [HT.sIx_none, HT.sIx_nat, List.drop_zero, Nat.sub_zero, Nat.min_eq_left h]
theorem cut_suf (xs : List V) (i : Nat) (h : i ≤ xs.length) : cutV xs (some (i : Int)) none = xs.drop i := by
  unfold cutV
  rw [HT.sIx_none, HT.sIx_nat, Nat.min_eq_left h, List.take_of_length_le]
  rw [List.length_drop]
  exact Nat.le_refl _
theorem set_parts {α : Type} {xs : List α} {i : Nat} {x : α} (h : i < xs.length) : xs.take i ++ [x] ++ xs.drop (i + 1) = xs.set i x := by
  rw [List.set_eq_take_append_cons_drop, if_pos h, List.append_assoc]
  rfl
end Mw

/-! a zip of two things that are walked one by one, of whatever kind each is -/
namespace Zm
open PySem PySem.Spec PyProof.Rows L2 PySem.W
/-- what is walked by the iterator at it, over what stands at l, with the items xs -/
structure Feed (prog : Program) (w : World) (xs : Array Value) (it l : Addr) where
  on : Heap → Nat → Prop
  keep : ∀ {h h' : Heap} {k : Nat}, on h k → (∀ o, h.get? it = some o → h'.get? it = some o) → (∀ o, h.get? l = some o → h'.get? l = some o) → on h' k
  obj : ∀ {h : Heap} {k : Nat}, on h k → ∃ o, h.get? it = some o
  item : ∀ {A : Around} {E : Value → Shared → Prop} {s : Shared} {k : Nat} {x : Value} {Q : Value → Shared → Prop}, xs[k]? = some x → on s.heap k →
    (∀ h', on h' (k + 1) → Heap.SameBut it s.heap h' → Q x { s with heap := h' }) → wpAny (model prog w) A (Builtin.SmallTypes.nextOf (.ref it)) Q E s
  stop : ∀ {A : Around} {E : Value → Shared → Prop} {s : Shared} {k : Nat} {Q : Value → Shared → Prop}, A.handled = none → xs[k]? = none → on s.heap k →
    (∀ h' e, Heap.ExtBut it s.heap h' → (∃ o, h'.get? e = some o ∧ o.cls = .type "StopIteration") → E (.ref e) { s with heap := h' }) → wpAny (model prog w) A (Builtin.SmallTypes.nextOf (.ref it)) Q E s
def feedL (prog : Program) (w : World) (xs : Array Value) (it l : Addr) (ne : l ≠ it) : Feed prog w xs it l where
  on h k := h.IsListIter it l k ∧ h.IsList l xs
  keep h a b := ⟨h.1.at a, h.2.at b⟩
  obj h := by obtain ⟨⟨o, e, _⟩, _⟩ := h; exact ⟨o, e⟩
  item hx h q := wpAny_nextOf_list_item h.1 h.2 hx fun h' a b => q h' ⟨a, h.2.extBut b.extBut ne⟩ b
  stop hh hx h q := wpAny_nextOf_list_end hh h.1 h.2 hx q
def feedT (prog : Program) (w : World) (xs : Array Value) (it l : Addr) (ne : l ≠ it) : Feed prog w xs it l where
  on h k := h.IsTupleIter it l k ∧ h.IsTuple l xs
  keep h a b := ⟨h.1.at a, h.2.at b⟩
  obj h := by obtain ⟨⟨o, e, _⟩, _⟩ := h; exact ⟨o, e⟩
  item hx h q := RZ.nextOf_tuple_item h.1 h.2 hx fun h' a b => q h' ⟨a, h.2.extBut b.extBut ne⟩ b
  stop hh hx h q := RZ.nextOf_tuple_end hh h.1 h.2 hx q
section
variable {prog : Program} {w : World} {A : Around} {E : Value → Shared → Prop} {s : Shared} {z TI TO i1 i2 l1 l2 S : Addr} {xs ys : Array Value} {i : Nat}
/-- the zip ahead of turn i; S: the list that is filled -/
structure Zst (fa : Feed prog w xs i1 l1) (fb : Feed prog w ys i2 l2) (h : Heap) (z TI TO S : Addr) (i : Nat) : Prop where
  pair : IsPair h TI (.ref i1) (.ref i2)
  it1 : fa.on h i
  it2 : fb.on h i
  out : (IsZip h z TI TO .none ∧ ∃ a b, IsPair h TO a b) ∨ ∃ (t : Addr) (f : Bool) (ot : Obj), IsZipHeld h z TI TO t f ∧ h.get? t = some ot ∧ t ≠ z ∧ t ≠ i1 ∧ t ≠ i2 ∧ t ≠ S
theorem Zst.keep {fa : Feed prog w xs i1 l1} {fb : Feed prog w ys i2 l2} {h h' : Heap} (st : Zst fa fb h z TI TO S i) (hs : S ≠ z ∧ S ≠ TI ∧ S ≠ TO ∧ S ≠ i1 ∧ S ≠ i2) (hsl : S ≠ l1 ∧ S ≠ l2)
    (k : ∀ b o, b ≠ S → h.get? b = some o → h'.get? b = some o) : Zst fa fb h' z TI TO S i := by
  refine ⟨k _ _ hs.2.1.symm st.pair, fa.keep st.it1 (fun o e => k _ o hs.2.2.2.1.symm e) (fun o e => k _ o hsl.1.symm e), fb.keep st.it2 (fun o e => k _ o hs.2.2.2.2.symm e) (fun o e => k _ o hsl.2.symm e), ?_⟩
  rcases st.out with ⟨a, x, y, b⟩ | ⟨t, f, ot, a, b, c⟩
  · exact .inl ⟨k _ _ hs.1.symm a, x, y, k _ _ hs.2.2.1.symm b⟩
  · exact .inr ⟨t, f, ot, k _ _ hs.1.symm a, k _ _ c.2.2.2 b, c⟩
/-- what changes only off some addresses -/
theorem same_at {a b : Addr} {h h' : Heap} (hs : Heap.SameBut b h h') (ne : a ≠ b) : ∀ o, h.get? a = some o → h'.get? a = some o := fun o e => hs.extBut _ _ ne e
end
end Zm

namespace Zm
open PySem PySem.Spec PyProof.Rows L2 PySem.W
section
variable {prog : Program} {w : World} {A : Around} {E : Value → Shared → Prop} {s : Shared} {z TI TO i1 i2 l1 l2 S : Addr} {xs ys : Array Value} {i : Nat}
/-- both iterators give an item: the zip's own tuple is free -/
theorem free_item {fa : Feed prog w xs i1 l1} {fb : Feed prog w ys i2 l2} {k : Nat} {x y a b : Value} {Q : Value → Shared → Prop} (D : ZipApart z TI TO i1 i2 l1 l2)
    (zz : IsZip s.heap z TI TO .none) (tin : IsPair s.heap TI (.ref i1) (.ref i2)) (tout : IsPair s.heap TO a b) (fx : fa.on s.heap k) (fy : fb.on s.heap k) (ex : xs[k]? = some x) (ey : ys[k]? = some y)
    (q : ∀ h', IsZip h' z TI TO (rawInt s.heap.objs.size) → fa.on h' (k + 1) → fb.on h' (k + 1) → IsPair h' s.heap.objs.size x y → h'.objs.size = s.heap.objs.size + 1 →
      (∀ c o, c ≠ z → c ≠ TO → c ≠ i1 → c ≠ i2 → s.heap.get? c = some o → h'.get? c = some o) → Q (.ref s.heap.objs.size) { s with heap := h' }) :
    wpAny (model prog w) A (Builtin.«zip.__next__» ⟨[.ref z], []⟩) (fun r s1 => ∃ v, r = .done (.ret v) ∧ Q v s1) E s := by
  (show wpAny _ _ (field (.ref z) 2 >>= _) _ _ _); refine wpAny_bind (wpAny_field zz rfl (x := .bool false) rfl ?_)
  (show wpAny _ _ (field (.ref z) 3 >>= _) _ _ _); refine wpAny_bind (wpAny_field zz rfl (x := .ref TI) rfl ?_)
  refine wpAny_bind (wpAny_seqItems tin rfl ?_)
  (show wpAny _ _ (Builtin.SmallTypes.ownedTupleIsFree (.ref z) >>= _) _ _ _); refine wpAny_bind ?_
  (unfold Builtin.SmallTypes.ownedTupleIsFree); refine wpAny_bind (wpAny_field zz rfl (x := .none) rfl (wpAny_pure ?_))
  (simp only [if_true]); refine wpAny_bind (wpAny_rule (wpAny_bind (wpAny_field zz rfl (x := .ref TO) rfl ?_)))
  refine wpAny_bind (wpAny_setField_rec zz (by simp) fun g1 z1 c1 => wpAny_bind ?_)
  have z1' : IsZip g1 z TI TO .ellipsis := z1
  simp only [List.zipIdx_cons, List.zipIdx_nil, List.forIn_cons, List.forIn_nil]
  refine wpAny_bind (wpAny_bind (wpAny_onRaise (show wpAny _ _ (Builtin.SmallTypes.nextOf (.ref i1) >>= _) _ _ _ from ?_)))
  refine wpAny_bind (fa.item ex (fa.keep fx (same_at c1 D.i1z) (same_at c1 D.l1z)) fun g2 f2 c2 => wpAny_pure ?_)
  have t2 : IsPair g2 TO a b := same_at c2 D.TOi1 _ (same_at c1 D.TOz _ tout)
  refine wpAny_bind (wpAny_seqItems t2 rfl (wpAny_bind (wpAny_updateSeq_pair t2 fun g3 t3 c3 => wpAny_bind (wpAny_letGo (wpAny_pure ?_)))))
  have t3' : IsPair g3 TO x b := t3
  refine wpAny_bind (wpAny_bind (wpAny_onRaise (show wpAny _ _ (Builtin.SmallTypes.nextOf (.ref i2) >>= _) _ _ _ from ?_)))
  have e3 : fb.on g3 k := fb.keep fy (fun o e => same_at c3 D.TOi2.symm _ (same_at c2 D.i12.symm _ (same_at c1 D.i2z _ e))) fun o e => same_at c3 D.l2TO _ (same_at c2 D.l2i1 _ (same_at c1 D.l2z _ e))
  refine wpAny_bind (fb.item ey e3 fun g4 f4 c4 => wpAny_pure ?_)
  have t4 : IsPair g4 TO x b := same_at c4 D.TOi2 _ t3'
  refine wpAny_bind (wpAny_seqItems t4 rfl (wpAny_bind (wpAny_updateSeq_pair t4 fun g5 t5 c5 => wpAny_bind (wpAny_letGo (wpAny_pure (wpAny_pure ?_))))))
  have t5' : IsPair g5 TO x y := t5
  refine wpAny_bind (wpAny_seqItems t5' rfl (wpAny_bind (wpAny_newTuple ?_)))
  have sz : g5.objs.size = s.heap.objs.size := by rw [c5.1, c4.1, c3.1, c2.1, c1.1]
  have z5 : IsZip g5 z TI TO .ellipsis := same_at c5 D.TOz.symm _ (same_at c4 D.i2z.symm _ (same_at c3 D.TOz.symm _ (same_at c2 D.i1z.symm _ z1')))
  have k5 : ∀ c o, c ≠ z → c ≠ TO → c ≠ i1 → c ≠ i2 → s.heap.get? c = some o → g5.get? c = some o := fun c o n1 n2 n3 n4 e =>
    same_at c5 n2 _ (same_at c4 n4 _ (same_at c3 n2 _ (same_at c2 n3 _ (same_at c1 n1 _ e))))
  have fx5 : fa.on g5 (k + 1) := fa.keep f2 (fun o e => same_at c5 D.TOi1.symm _ (same_at c4 D.i12 _ (same_at c3 D.TOi1.symm _ e))) fun o e => same_at c5 D.l1TO _ (same_at c4 D.l1i2 _ (same_at c3 D.l1TO _ e))
  have fy5 : fb.on g5 (k + 1) := fb.keep f4 (same_at c5 D.TOi2.symm) (same_at c5 D.l2TO)
  have zlt : z < g5.objs.size := Heap.lt_size z5
  (show wpAny _ _ (Builtin.SmallTypes.ownedTupleHandOut (.ref z) (.ref g5.objs.size) >>= _) _ _ _); refine wpAny_bind ?_
  unfold Builtin.SmallTypes.ownedTupleHandOut
  have z6 : IsZip (g5.push { cls := .type "tuple", data := .seq #[x, y] }) z TI TO .ellipsis := Heap.get?_push_of_some _ z5
  refine wpAny_bind (wpAny_setField_rec z6 (by simp) fun g7 z7 c7 => ?_)
  have z7' : IsZip g7 z TI TO (rawInt g5.objs.size) := z7
  refine wpAny_setField_rec z7' (by simp) fun g8 z8 c8 => wpAny_pure ⟨_, rfl, ?_⟩
  have z8' : IsZip g8 z TI TO (rawInt g5.objs.size) := z8
  have up : ∀ c o, c ≠ z → g5.get? c = some o → g8.get? c = some o := fun c o n e => same_at c8 n _ (same_at c7 n _ (Heap.get?_push_of_some _ e))
  have t8 : IsPair g8 g5.objs.size x y := same_at c8 (Nat.ne_of_gt zlt) _ (same_at c7 (Nat.ne_of_gt zlt) _ (Heap.get?_push_size _ rfl))
  have s8 : g8.objs.size = g5.objs.size + 1 := by rw [c8.1, c7.1, Heap.size_push]
  show Q (.ref g5.objs.size) _
  rw [sz] at z8' t8 s8 ⊢
  refine q g8 z8' (fa.keep fx5 (fun o e => up _ o D.i1z e) fun o e => up _ o D.l1z e) (fb.keep fy5 (fun o e => up _ o D.i2z e) fun o e => up _ o D.l2z e) t8 s8 fun c o n1 n2 n3 n4 e => up c o n1 (k5 c o n1 n2 n3 n4 e)
/-- .. the zip's own tuple is still out -/
theorem held_item {fa : Feed prog w xs i1 l1} {fb : Feed prog w ys i2 l2} {k : Nat} {x y : Value} {T : Addr} {f : Bool} {oT : Obj} {Q : Value → Shared → Prop} (D : ZipApart z TI TO i1 i2 l1 l2)
    (zz : IsZipHeld s.heap z TI TO T f) (tt : s.heap.get? T = some oT) (tin : IsPair s.heap TI (.ref i1) (.ref i2)) (fx : fa.on s.heap k) (fy : fb.on s.heap k) (ex : xs[k]? = some x) (ey : ys[k]? = some y)
    (q : ∀ h', IsZipHeld h' z TI TO T true → fa.on h' (k + 1) → fb.on h' (k + 1) → IsPair h' s.heap.objs.size x y → h'.objs.size = s.heap.objs.size + 1 →
      (∀ c o, c ≠ z → c ≠ i1 → c ≠ i2 → s.heap.get? c = some o → h'.get? c = some o) → Q (.ref s.heap.objs.size) { s with heap := h' }) :
    wpAny (model prog w) A (Builtin.«zip.__next__» ⟨[.ref z], []⟩) (fun r s1 => ∃ v, r = .done (.ret v) ∧ Q v s1) E s := by
  (show wpAny _ _ (field (.ref z) 2 >>= _) _ _ _); refine wpAny_bind (wpAny_field zz rfl (x := .bool false) rfl ?_)
  (show wpAny _ _ (field (.ref z) 3 >>= _) _ _ _); refine wpAny_bind (wpAny_field zz rfl (x := .ref TI) rfl ?_)
  refine wpAny_bind (wpAny_seqItems tin rfl ?_)
  (show wpAny _ _ (Builtin.SmallTypes.ownedTupleIsFree (.ref z) >>= _) _ _ _); refine wpAny_bind (wpAny_tupleHeld_zip zz tt fun g1 z1 c1 => ?_)
  (simp only [Bool.false_eq_true, if_false]); refine wpAny_bind ?_
  (rw [← Array.forIn_toList]); simp only [List.forIn_cons, List.forIn_nil]
  refine wpAny_bind (wpAny_bind (wpAny_holding (show wpAny _ _ (Builtin.SmallTypes.nextOf (.ref i1) >>= _) _ _ _ from ?_)))
  refine wpAny_bind (fa.item (s := { s with heap := g1 }) ex (fa.keep fx (same_at c1 D.i1z) (same_at c1 D.l1z)) fun g2 f2 c2 => wpAny_pure (wpAny_pure ?_))
  refine wpAny_bind (wpAny_bind (wpAny_holding (show wpAny _ _ (Builtin.SmallTypes.nextOf (.ref i2) >>= _) _ _ _ from ?_)))
  have e2 : fb.on g2 k := fb.keep fy (fun o e => same_at c2 D.i12.symm _ (same_at c1 D.i2z _ e)) fun o e => same_at c2 D.l2i1 _ (same_at c1 D.l2z _ e)
  refine wpAny_bind (fb.item (s := { s with heap := g2 }) ey e2 fun g3 f3 c3 => wpAny_pure (wpAny_pure (wpAny_pure ?_)))
  (show wpAny _ _ (newTuple [x, y] >>= _) _ _ _); refine wpAny_bind (wpAny_newTuple (wpAny_pure ⟨_, rfl, ?_⟩))
  have sz : g3.objs.size = s.heap.objs.size := by rw [c3.1, c2.1, c1.1]
  have z3 : IsZipHeld g3 z TI TO T true := same_at c3 D.i2z.symm _ (same_at c2 D.i1z.symm _ z1)
  have tp : IsPair (g3.push { cls := .type "tuple", data := .seq #[x, y] }) g3.objs.size x y := Heap.get?_push_size _ rfl
  have s4 : (g3.push { cls := .type "tuple", data := .seq #[x, y] }).objs.size = g3.objs.size + 1 := Heap.size_push ..
  have up : ∀ c o, g3.get? c = some o → (g3.push { cls := .type "tuple", data := .seq #[x, y] }).get? c = some o := fun c o e => Heap.get?_push_of_some _ e
  show Q (.ref g3.objs.size) _
  rw [sz] at tp s4 ⊢
  refine q _ (up _ _ z3) (fa.keep f2 (fun o e => up _ _ (same_at c3 D.i12 _ e)) fun o e => up _ _ (same_at c3 D.l1i2 _ e)) (fb.keep f3 (fun o e => up _ _ e) fun o e => up _ _ e) tp s4 fun c o n1 n2 n3 e => up _ _ (same_at c3 n3 _ (same_at c2 n2 _ (same_at c1 n1 _ e)))
end
end Zm

namespace Zm
open PySem PySem.Spec PyProof.Rows L2 PySem.W
section
variable {prog : Program} {w : World} {A : Around} {E : Value → Shared → Prop} {s : Shared} {z TI TO i1 i2 l1 l2 S : Addr} {xs ys : Array Value} {i : Nat}
/-- one of both is at its end -/
theorem free_end {fa : Feed prog w xs i1 l1} {fb : Feed prog w ys i2 l2} {k : Nat} {a b : Value} {Q : Fin → Shared → Prop} (cold : A.handled = none) (D : ZipApart z TI TO i1 i2 l1 l2)
    (zz : IsZip s.heap z TI TO .none) (tin : IsPair s.heap TI (.ref i1) (.ref i2)) (tout : IsPair s.heap TO a b) (fx : fa.on s.heap k) (fy : fb.on s.heap k) (over : xs[k]? = none ∨ ys[k]? = none)
    (q : ∀ h' e, (∀ c o, c ≠ z → c ≠ TO → c ≠ i1 → c ≠ i2 → s.heap.get? c = some o → h'.get? c = some o) → (∃ o, h'.get? e = some o ∧ o.cls = .type "StopIteration") → E (.ref e) { s with heap := h' }) :
    wpAny (model prog w) A (Builtin.«zip.__next__» ⟨[.ref z], []⟩) Q E s := by
  (show wpAny _ _ (field (.ref z) 2 >>= _) _ _ _); refine wpAny_bind (wpAny_field zz rfl (x := .bool false) rfl ?_)
  (show wpAny _ _ (field (.ref z) 3 >>= _) _ _ _); refine wpAny_bind (wpAny_field zz rfl (x := .ref TI) rfl ?_)
  refine wpAny_bind (wpAny_seqItems tin rfl ?_)
  (show wpAny _ _ (Builtin.SmallTypes.ownedTupleIsFree (.ref z) >>= _) _ _ _); refine wpAny_bind ?_
  (unfold Builtin.SmallTypes.ownedTupleIsFree); refine wpAny_bind (wpAny_field zz rfl (x := .none) rfl (wpAny_pure ?_))
  (simp only [if_true]); refine wpAny_bind (wpAny_rule (wpAny_bind (wpAny_field zz rfl (x := .ref TO) rfl ?_)))
  refine wpAny_bind (wpAny_setField_rec zz (by simp) fun g1 z1 c1 => wpAny_bind ?_)
  have z1' : IsZip g1 z TI TO .ellipsis := z1
  simp only [List.zipIdx_cons, List.zipIdx_nil, List.forIn_cons, List.forIn_nil]
  refine wpAny_bind (wpAny_bind (wpAny_onRaise (show wpAny _ _ (Builtin.SmallTypes.nextOf (.ref i1) >>= _) _ _ _ from ?_)))
  have e1 : fa.on g1 k := fa.keep fx (same_at c1 D.i1z) (same_at c1 D.l1z)
  cases ex : xs[k]? with
  | none =>
    refine wpAny_bind (fa.stop cold ex e1 fun g2 e c2 he => ?_)
    obtain ⟨oe, he1, he2⟩ := he
    have z2 : IsZip g2 z TI TO .ellipsis := c2 _ _ D.i1z.symm z1'
    have ne : e ≠ z := fun u => by
      subst u
      rw [z2] at he1
      cases he1
      simp at he2
    exact wpAny_setField_rec z2 (by simp) fun g3 _ c3 => q g3 e (fun c o n1 _ n3 _ u => same_at c3 n1 _ (c2 _ _ n3 (same_at c1 n1 _ u))) ⟨oe, same_at c3 ne _ he1, he2⟩
  | some x =>
    have ey : ys[k]? = none := by
      rcases over with h | h
      · rw [ex] at h
        cases h
      · exact h
    refine wpAny_bind (fa.item ex e1 fun g2 f2 c2 => wpAny_pure ?_)
    have t2 : IsPair g2 TO a b := same_at c2 D.TOi1 _ (same_at c1 D.TOz _ tout)
    refine wpAny_bind (wpAny_seqItems t2 rfl (wpAny_bind (wpAny_updateSeq_pair t2 fun g3 t3 c3 => wpAny_bind (wpAny_letGo (wpAny_pure ?_)))))
    refine wpAny_bind (wpAny_bind (wpAny_onRaise (show wpAny _ _ (Builtin.SmallTypes.nextOf (.ref i2) >>= _) _ _ _ from ?_)))
    have e3 : fb.on g3 k := fb.keep fy (fun o e => same_at c3 D.TOi2.symm _ (same_at c2 D.i12.symm _ (same_at c1 D.i2z _ e))) fun o e => same_at c3 D.l2TO _ (same_at c2 D.l2i1 _ (same_at c1 D.l2z _ e))
    refine wpAny_bind (fb.stop cold ey e3 fun g4 e c4 he => ?_)
    obtain ⟨oe, he1, he2⟩ := he
    have z4 : IsZip g4 z TI TO .ellipsis := c4 _ _ D.i2z.symm (same_at c3 D.TOz.symm _ (same_at c2 D.i1z.symm _ z1'))
    have ne : e ≠ z := fun u => by
      subst u
      rw [z4] at he1
      cases he1
      simp at he2
    exact wpAny_setField_rec z4 (by simp) fun g5 _ c5 => q g5 e (fun c o n1 n2 n3 n4 u => same_at c5 n1 _ (c4 _ _ n4 (same_at c3 n2 _ (same_at c2 n3 _ (same_at c1 n1 _ u))))) ⟨oe, same_at c5 ne _ he1, he2⟩
theorem held_end {fa : Feed prog w xs i1 l1} {fb : Feed prog w ys i2 l2} {k : Nat} {T : Addr} {f : Bool} {oT : Obj} {Q : Fin → Shared → Prop} (cold : A.handled = none) (D : ZipApart z TI TO i1 i2 l1 l2)
    (zz : IsZipHeld s.heap z TI TO T f) (tt : s.heap.get? T = some oT) (tin : IsPair s.heap TI (.ref i1) (.ref i2)) (fx : fa.on s.heap k) (fy : fb.on s.heap k) (over : xs[k]? = none ∨ ys[k]? = none)
    (q : ∀ h' e, (∀ c o, c ≠ z → c ≠ i1 → c ≠ i2 → s.heap.get? c = some o → h'.get? c = some o) → (∃ o, h'.get? e = some o ∧ o.cls = .type "StopIteration") → E (.ref e) { s with heap := h' }) :
    wpAny (model prog w) A (Builtin.«zip.__next__» ⟨[.ref z], []⟩) Q E s := by
  (show wpAny _ _ (field (.ref z) 2 >>= _) _ _ _); refine wpAny_bind (wpAny_field zz rfl (x := .bool false) rfl ?_)
  (show wpAny _ _ (field (.ref z) 3 >>= _) _ _ _); refine wpAny_bind (wpAny_field zz rfl (x := .ref TI) rfl ?_)
  refine wpAny_bind (wpAny_seqItems tin rfl ?_)
  (show wpAny _ _ (Builtin.SmallTypes.ownedTupleIsFree (.ref z) >>= _) _ _ _); refine wpAny_bind (wpAny_tupleHeld_zip zz tt fun g1 z1 c1 => ?_)
  (simp only [Bool.false_eq_true, if_false]); refine wpAny_bind ?_
  (rw [← Array.forIn_toList]); simp only [List.forIn_cons, List.forIn_nil]
  refine wpAny_bind (wpAny_bind (wpAny_holding (show wpAny _ _ (Builtin.SmallTypes.nextOf (.ref i1) >>= _) _ _ _ from ?_)))
  have e1 : fa.on g1 k := fa.keep fx (same_at c1 D.i1z) (same_at c1 D.l1z)
  cases ex : xs[k]? with
  | none => exact wpAny_bind (fa.stop (s := { s with heap := g1 }) cold ex e1 fun g2 e c2 he => q g2 e (fun c o n1 n2 _ u => c2 _ _ n2 (same_at c1 n1 _ u)) he)
  | some x =>
    have ey : ys[k]? = none := by
      rcases over with h | h
      · rw [ex] at h
        cases h
      · exact h
    refine wpAny_bind (fa.item (s := { s with heap := g1 }) ex e1 fun g2 f2 c2 => wpAny_pure (wpAny_pure ?_))
    refine wpAny_bind (wpAny_bind (wpAny_holding (show wpAny _ _ (Builtin.SmallTypes.nextOf (.ref i2) >>= _) _ _ _ from ?_)))
    have e2 : fb.on g2 k := fb.keep fy (fun o e => same_at c2 D.i12.symm _ (same_at c1 D.i2z _ e)) fun o e => same_at c2 D.l2i1 _ (same_at c1 D.l2z _ e)
    exact wpAny_bind (fb.stop (s := { s with heap := g2 }) cold ey e2 fun g3 e c3 he => q g3 e (fun c o n1 n2 n3 u => c3 _ _ n3 (same_at c2 n2 _ (same_at c1 n1 _ u))) he)
/-- the next of the zip, from the library's slot -/
theorem by_slot {Q : Option Value → Shared → Prop} {R : Value → Shared → Prop} (hT : s.TypeIs (.ref z) "zip") (h : wpAny (model prog w) A.in1 (Builtin.«zip.__next__» ⟨[.ref z], []⟩) (fun r s1 => ∃ v, r = .done (.ret v) ∧ R v s1) (fun e s1 => False) s) (hq : ∀ v s1, R v s1 → Q (some v) s1) : wpAny (model prog w) A (pyNext (.ref z)) Q E s := by
  unfold pyNext
  refine wpAny_bind (wpAny_attempt (wpAny_callSpecial?_slot (name := Str.ofString "__next__") hT F.slot_zip_next (wpAny_call_entry F.slot_zip_next hT F.entry_zip_next ?_ (F.args_zip_next_1 _))))
  refine wpAny_mono h (fun r s1 ⟨v, e, r1⟩ => ⟨v, e, wpAny_pure (hq v s1 r1)⟩) fun e s1 z => z.elim
theorem by_slotX {Q : Option Value → Shared → Prop} (hT : s.TypeIs (.ref z) "zip") (h : wpAny (model prog w) A.in1 (Builtin.«zip.__next__» ⟨[.ref z], []⟩) (fun _ _ => False) (fun e s1 => (∃ a o, e = .ref a ∧ s1.heap.get? a = some o ∧ o.cls = .type "StopIteration") ∧ Q none s1) s) : wpAny (model prog w) A (pyNext (.ref z)) Q E s := by
  unfold pyNext
  refine wpAny_bind (wpAny_attempt (wpAny_callSpecial?_slot (name := Str.ofString "__next__") hT F.slot_zip_next (wpAny_call_entry F.slot_zip_next hT F.entry_zip_next ?_ (F.args_zip_next_1 _))))
  refine wpAny_mono h (fun r s1 z => z.elim) fun e s1 ⟨⟨a, o, e1, e2, e3⟩, q⟩ => ?_
  subst e1
  exact wpAny_bind (wpAny_isInstance (T := "StopIteration") (b := true) ⟨o, e2, e3⟩ isSubtype_stop (wpAny_pure q))
end
end Zm

namespace Zm
open PySem PySem.Spec PyProof.Rows L2 PySem.W
theorem no_len : typeLookup (.type "zip") "__len__" = pure none := am_miss_of_fast (by decide +kernel)
theorem no_hint : typeLookup (.type "zip") "__length_hint__" = pure none := am_miss_of_fast (by decide +kernel)
section
variable {prog : Program} {w : World} {A : Around} {E : Value → Shared → Prop} {s : Shared} {z TI TO i1 i2 l1 l2 S : Addr} {xs ys : Array Value} {i : Nat}
theorem zl_item {fa : Feed prog w xs i1 l1} {fb : Feed prog w ys i2 l2} {x y : Value} {Q : Option Value → Shared → Prop} (D : ZipApart z TI TO i1 i2 l1 l2) (st : Zst fa fb s.heap z TI TO S i) (hS : S < s.heap.objs.size)
    (hx : xs[i]? = some x) (hy : ys[i]? = some y)
    (q : ∀ h', Zst fa fb h' z TI TO S (i + 1) → IsPair h' s.heap.objs.size x y → h'.objs.size = s.heap.objs.size + 1 →
      (∀ c o, c ≠ z → c ≠ TO → c ≠ i1 → c ≠ i2 → s.heap.get? c = some o → h'.get? c = some o) → Q (some (.ref s.heap.objs.size)) { s with heap := h' }) :
    wpAny (model prog w) A (pyNext (.ref z)) Q E s := by
  obtain ⟨o1, e1⟩ := fa.obj st.it1
  obtain ⟨o2, e2⟩ := fb.obj st.it2
  have n1 : s.heap.objs.size ≠ i1 := Nat.ne_of_gt (Heap.lt_size e1)
  have n2 : s.heap.objs.size ≠ i2 := Nat.ne_of_gt (Heap.lt_size e2)
  have nS : s.heap.objs.size ≠ S := Nat.ne_of_gt hS
  rcases st.out with ⟨hz, a, b, hTO⟩ | ⟨t, f, ot, hz, ht, nt⟩
  · have nz : s.heap.objs.size ≠ z := Nat.ne_of_gt (Heap.lt_size hz)
    refine by_slot (R := fun v s1 => Q (some v) s1) ⟨_, hz, rfl⟩ (free_item D hz st.pair hTO st.it1 st.it2 hx hy fun h' a1 a3 a4 a5 a6 k => ?_) fun _ _ r => r
    exact q h' ⟨k _ _ D.TIz D.TITO D.TIi1 D.TIi2 st.pair, a3, a4, .inr ⟨_, false, _, a1, a5, nz, n1, n2, nS⟩⟩ a5 a6 k
  · have nz : s.heap.objs.size ≠ z := Nat.ne_of_gt (Heap.lt_size hz)
    refine by_slot (R := fun v s1 => Q (some v) s1) ⟨_, hz, rfl⟩ (held_item D hz ht st.pair st.it1 st.it2 hx hy fun h' a1 a3 a4 a5 a6 k => ?_) fun _ _ r => r
    exact q h' ⟨k _ _ D.TIz D.TIi1 D.TIi2 st.pair, a3, a4, .inr ⟨t, true, ot, a1, k _ _ nt.1 nt.2.1 nt.2.2.1 ht, nt⟩⟩ a5 a6 fun c o b1 _ b3 b4 e => k c o b1 b3 b4 e
theorem zl_end {fa : Feed prog w xs i1 l1} {fb : Feed prog w ys i2 l2} {Q : Option Value → Shared → Prop} (hh : A.handled = none) (D : ZipApart z TI TO i1 i2 l1 l2) (st : Zst fa fb s.heap z TI TO S i)
    (he : xs[i]? = none ∨ ys[i]? = none)
    (q : ∀ h', (∀ c o, c ≠ z → c ≠ TO → c ≠ i1 → c ≠ i2 → s.heap.get? c = some o → h'.get? c = some o) → Q none { s with heap := h' }) : wpAny (model prog w) A (pyNext (.ref z)) Q E s := by
  rcases st.out with ⟨hz, a, b, hTO⟩ | ⟨t, f, ot, hz, ht, nt⟩
  · exact by_slotX ⟨_, hz, rfl⟩ (free_end (A := A.in1) hh D hz st.pair hTO st.it1 st.it2 he fun h' e k ⟨o, e1, e2⟩ => ⟨⟨e, o, rfl, e1, e2⟩, q h' k⟩)
  · exact by_slotX ⟨_, hz, rfl⟩ (held_end (A := A.in1) hh D hz ht st.pair st.it1 st.it2 he fun h' e k ⟨o, e1, e2⟩ => ⟨⟨e, o, rfl, e1, e2⟩, q h' fun c o b1 _ b3 b4 e => k c o b1 b3 b4 e⟩)
/-- the pairs made so far, one after the other, above lo -/
structure Made (xs ys : Array Value) (lo : Addr) (h : Heap) (as : List Addr) : Prop where
  rise : as.Pairwise (· < ·)
  above : ∀ a ∈ as, lo < a
  pairs : ∀ (j : Nat) (a : Addr), as[j]? = some a → ∃ x y, xs[j]? = some x ∧ ys[j]? = some y ∧ IsPair h a x y
theorem Made.there {lo : Addr} {h : Heap} {as : List Addr} (m : Made xs ys lo h as) {a : Addr} (ha : a ∈ as) : a < h.objs.size := by
  obtain ⟨j, hj⟩ := List.mem_iff_getElem?.mp ha
  obtain ⟨_, _, _, _, e⟩ := m.pairs j a hj
  exact Heap.lt_size e
theorem zl_loop {fa : Feed prog w xs i1 l1} {fb : Feed prog w ys i2 l2} {R : Result → Shared → Prop} {n : Nat} {lo : Addr} {h₁ : Heap} (hh : A.handled = none) (D : ZipApart z TI TO i1 i2 l1 l2) (hs : S ≠ z ∧ S ≠ TI ∧ S ≠ TO ∧ S ≠ i1 ∧ S ≠ i2) (hsl : S ≠ l1 ∧ S ≠ l2) (hlo : S ≤ lo ∧ z ≤ lo ∧ TO ≤ lo ∧ i1 ≤ lo ∧ i2 ≤ lo)
    (hnx : n = min xs.size ys.size) (hn : n ≤ sizeLine) (res : Value)
    (hR : ∀ h' tk acc c as, (∀ b o, b ≠ S → b ≠ z → b ≠ TO → b ≠ i1 → b ≠ i2 → h₁.get? b = some o → h'.get? b = some o) → h'.get? S = some { cls := .type "list", dict := none, data := .seq acc c, slots := #[] } →
      as.length = n → Made xs ys lo h' as → acc.toList = as.map Value.ref → R (.ok (.ret res)) { s with heap := h', toks := tk }) :
    ∀ (k i : Nat) (h : Heap) (tk c : Nat) (acc : Array Value) (as : List Addr), n - i = k → i ≤ n → Zst fa fb h z TI TO S i →
      (∀ b o, b ≠ S → b ≠ z → b ≠ TO → b ≠ i1 → b ≠ i2 → h₁.get? b = some o → h.get? b = some o) →
      h.get? S = some { cls := .type "list", dict := none, data := .seq acc c, slots := #[] } → acc.toList = as.map Value.ref → as.length = i → Made xs ys lo h as → lo < h.objs.size →
      codeAny (model prog w) A (.builtin "list.extend.loop" ⟨[.ref S, .ref z, res], []⟩) R { s with heap := h, toks := tk } := by
  intro k
  induction k with
  | zero =>
    intro i h tk c acc as hk hi st keep hS hacc hal hG hlt
    have he : xs[i]? = none ∨ ys[i]? = none := by
      rcases Nat.le_total xs.size ys.size with q | q
      · exact .inl (Array.getElem?_eq_none (by omega))
      · exact .inr (Array.getElem?_eq_none (by omega))
    refine codeAny_builtin F.entry_extend_loop ?_
    rw [Around.under_plainId F.plain_extend_loop _]
    refine wpAny_bind (zl_end (s := { s with heap := h, toks := tk }) (A := A.in1) hh D st he fun h' kp => ?_)
    have am : ∀ a ∈ as, a ≠ z ∧ a ≠ TO ∧ a ≠ i1 ∧ a ≠ i2 := fun a ha => by
      have := hG.above a ha
      exact ⟨Nat.ne_of_gt (Nat.lt_of_le_of_lt hlo.2.1 this), Nat.ne_of_gt (Nat.lt_of_le_of_lt hlo.2.2.1 this), Nat.ne_of_gt (Nat.lt_of_le_of_lt hlo.2.2.2.1 this), Nat.ne_of_gt (Nat.lt_of_le_of_lt hlo.2.2.2.2 this)⟩
    refine wpAny_pure (hR h' tk acc c as (fun b o b1 b2 b3 b4 b5 e => kp b o b2 b3 b4 b5 (keep b o b1 b2 b3 b4 b5 e)) (kp S _ hs.1 hs.2.2.1 hs.2.2.2.1 hs.2.2.2.2 hS) (by omega) ⟨hG.rise, hG.above, fun j a hj => ?_⟩ hacc)
    obtain ⟨x, y, e1, e2, e3⟩ := hG.pairs j a hj
    have na := am a (List.mem_of_getElem? hj)
    exact ⟨x, y, e1, e2, kp a _ na.1 na.2.1 na.2.2.1 na.2.2.2 e3⟩
  | succ k ih =>
    intro i h tk c acc as hk hi st keep hS hacc hal hG hlt
    have hin : i < n := by omega
    obtain ⟨x, hx⟩ : ∃ x, xs[i]? = some x := ⟨xs[i]'(by omega), Array.getElem?_eq_getElem (by omega)⟩
    obtain ⟨y, hy⟩ : ∃ y, ys[i]? = some y := ⟨ys[i]'(by omega), Array.getElem?_eq_getElem (by omega)⟩
    have hsz : acc.size = i := by rw [← Array.length_toList, hacc, List.length_map, hal]
    have hSl : S < h.objs.size := Heap.lt_size hS
    refine codeAny_builtin F.entry_extend_loop ?_
    rw [Around.under_plainId F.plain_extend_loop _]
    refine wpAny_bind (zl_item (s := { s with heap := h, toks := tk }) (S := S) D st hSl hx hy fun h' st' ht hz kp => ?_)
    dsimp only at ht hz kp ⊢
    have hS' := kp S _ hs.1 hs.2.2.1 hs.2.2.2.1 hs.2.2.2.2 hS
    have up : ∀ b o, b ≠ S → h'.get? b = some o → (h'.update S (Obj.mapSeq (·.push (Value.ref h.objs.size)))).get? b = some o := fun b o hb e => by
      rw [Heap.get?_update_other _ _ (Ne.symm hb)]
      exact e
    have am : ∀ a ∈ as, a ≠ z ∧ a ≠ TO ∧ a ≠ i1 ∧ a ≠ i2 ∧ a ≠ S := fun a ha => by
      have := hG.above a ha
      exact ⟨Nat.ne_of_gt (Nat.lt_of_le_of_lt hlo.2.1 this), Nat.ne_of_gt (Nat.lt_of_le_of_lt hlo.2.2.1 this), Nat.ne_of_gt (Nat.lt_of_le_of_lt hlo.2.2.2.1 this), Nat.ne_of_gt (Nat.lt_of_le_of_lt hlo.2.2.2.2 this), Nat.ne_of_gt (Nat.lt_of_le_of_lt hlo.1 this)⟩
    show wpAny _ A.in1 (updateSeq S (·.push (Value.ref h.objs.size)) >>= _) _ _ _
    refine wpAny_bind ?_
    refine wpAny_updateSeq hS' rfl (wpAny_pure ⟨plainId_quiet F.plain_extend_loop _, ih (i + 1) _ tk _ (acc.push (Value.ref h.objs.size)) (as ++ [h.objs.size]) (by omega) hin (st'.keep hs hsl up)
      (fun b o b1 b2 b3 b4 b5 e => up b o b1 (kp b o b2 b3 b4 b5 (keep b o b1 b2 b3 b4 b5 e)))
      (Heap.get?_update_self _ hS' rfl) (by rw [Array.toList_push, hacc, List.map_append]; rfl) (by rw [List.length_append, hal]; rfl) ⟨?_, ?_, ?_⟩ ?_⟩)
      (by rw [hsz]; omega) (by show (acc.push (Value.ref h.objs.size)).size ≤ sizeLine + 1; rw [Array.size_push, hsz]; omega)
    · refine List.pairwise_append.mpr ⟨hG.rise, List.pairwise_singleton _ _, fun a ha b hb => ?_⟩
      rw [List.mem_singleton.mp hb]
      exact hG.there ha
    · intro a ha
      rcases List.mem_append.mp ha with ha | ha
      · exact hG.above a ha
      · rw [List.mem_singleton.mp ha]
        exact hlt
    · intro j b hj
      by_cases h1 : j < as.length
      · rw [List.getElem?_append_left h1] at hj
        obtain ⟨x', y', e1, e2, e3⟩ := hG.pairs j b hj
        have na := am b (List.mem_of_getElem? hj)
        exact ⟨x', y', e1, e2, up b _ na.2.2.2.2 (kp b _ na.1 na.2.1 na.2.2.1 na.2.2.2.1 e3)⟩
      · have h2 : j = as.length := by
          have := (List.getElem?_eq_some_iff.mp hj).1
          rw [List.length_append, List.length_singleton] at this
          omega
        subst h2
        have hb : h.objs.size = b := by simpa using hj
        subst hb
        exact ⟨x, y, by rw [hal]; exact hx, by rw [hal]; exact hy, up _ _ (Nat.ne_of_gt hSl) ht⟩
    · have e := up _ _ (Nat.ne_of_gt hSl) ht
      exact Nat.lt_trans hlt (Heap.lt_size e)
theorem zl_hint (hT : s.TypeIs (.ref z) "zip") {Q : Bool → Shared → Prop} (h : Q true s) : wpAny (model prog w) A (Builtin.List.listLengthHint (.ref z)) Q E s := by
  unfold Builtin.List.listLengthHint
  refine wpAny_bind (wpAny_specialOf hT no_len ?_)
  refine wpAny_ite_split (fun hab => absurd hab (by decide)) (fun _ => ?_)
  refine wpAny_ite_split (fun hab => absurd hab (by decide)) (fun _ => ?_)
  exact wpAny_bind (wpAny_specialOf hT no_hint (wpAny_pure h))
/-- list's own filling by the zip -/
theorem zl_fill {fa : Feed prog w xs i1 l1} {fb : Feed prog w ys i2 l2} {R : Result → Shared → Prop} (hh : A.handled = none) (D : ZipApart z TI TO i1 i2 l1 l2) (hs : S ≠ z ∧ S ≠ TI ∧ S ≠ TO ∧ S ≠ i1 ∧ S ≠ i2) (hsl : S ≠ l1 ∧ S ≠ l2) (hlo : z ≤ S ∧ TO ≤ S ∧ i1 ≤ S ∧ i2 ≤ S)
    (hz : IsZip s.heap z TI TO .none) (hTI : IsPair s.heap TI (.ref i1) (.ref i2)) {a b : Value} (hTO : IsPair s.heap TO a b) (h1 : fa.on s.heap 0) (h2 : fb.on s.heap 0)
    (hS : s.heap.get? S = some { cls := .type "list", data := .seq #[] }) (hn : min xs.size ys.size ≤ sizeLine)
    (hR : ∀ h' tk acc c as, (∀ b o, b ≠ S → b ≠ z → b ≠ TO → b ≠ i1 → b ≠ i2 → s.heap.get? b = some o → h'.get? b = some o) → h'.get? S = some { cls := .type "list", dict := none, data := .seq acc c, slots := #[] } →
      as.length = min xs.size ys.size → Made xs ys S h' as → acc.toList = as.map Value.ref → R (.ok (.ret .none)) { s with heap := h', toks := tk }) :
    wpAny (model prog w) A.in1 (Builtin.«list.__init__» ⟨[.ref S, .ref z], []⟩)
      (fun fin s' => match fin with | .done f => R (.ok f) s' | .again c' => c'.quiet = true ∧ codeAny (model prog w) A c' R s') (fun e s' => R (.error e) s') s := by
  show wpAny _ _ (do let old ← Builtin.List.listItems (.ref S); Builtin.List.listUpdate (.ref S) (fun _ => #[]); letGo old.toList.reverse; Builtin.List.listExtendWith (.ref S) (.ref z) .none) _ _ s
  refine wpAny_bind ?_
  unfold Builtin.List.listItems
  refine wpAny_bind (wpAny_seqItems hS rfl (wpAny_pure ?_))
  refine wpAny_bind (wpAny_updateSeq hS rfl ?_)
  have hS2 := Heap.get?_update_self (Obj.mapSeq (fun _ => (#[] : Array Value))) hS rfl
  have oth : ∀ b o, b ≠ S → s.heap.get? b = some o → (s.heap.update S (Obj.mapSeq (fun _ => (#[] : Array Value)))).get? b = some o := fun b o hb e => by
    rw [Heap.get?_update_other _ _ (Ne.symm hb)]
    exact e
  refine wpAny_bind (wpAny_letGo ?_)
  have hz2 := oth _ _ hs.1.symm hz
  have key : ∀ (h : Heap) (c tk : Nat), (∀ b o, b ≠ S → s.heap.get? b = some o → h.get? b = some o) → h.get? S = some { cls := .type "list", data := .seq #[] c } →
      codeAny (model prog w) A (.builtin "list.extend.loop" ⟨[.ref S, .ref z, .none], []⟩) R { s with heap := h, toks := tk } := fun h c tk k hS3 =>
    zl_loop (s := s) (h₁ := s.heap) (lo := S) hh D hs hsl ⟨Nat.le_refl _, hlo⟩ rfl hn .none hR _ 0 h tk c #[] [] rfl (Nat.zero_le _)
      ⟨k _ _ hs.2.1.symm hTI, fa.keep h1 (fun o e => k _ o hs.2.2.2.1.symm e) (fun o e => k _ o hsl.1.symm e), fb.keep h2 (fun o e => k _ o hs.2.2.2.2.symm e) (fun o e => k _ o hsl.2.symm e), .inl ⟨k _ _ hs.1.symm hz, a, b, k _ _ hs.2.2.1.symm hTO⟩⟩
      (fun b o b1 _ _ _ _ e => k b o b1 e) hS3 rfl rfl ⟨List.Pairwise.nil, (fun _ ha => nomatch ha), (fun j a hj => by simp at hj)⟩ (Heap.lt_size hS3)
  unfold Builtin.List.listExtendWith
  refine wpAny_bind (wpAny_typeOf (T := "zip") ⟨_, hz2, rfl⟩ ?_)
  have n1 : Builtin.List.listSameRef (.ref S) (.ref z) = false := by simp [Builtin.List.listSameRef, hs.1]
  have n2 : (Value.type "zip" == Value.type "list") = false := by decide
  have n3 : (Value.type "zip" == Value.type "tuple") = false := by decide
  simp only [n1, n2, n3, Bool.or_false, Bool.false_eq_true, if_false]
  refine wpAny_bind (wpAny_pyIter_zip hz2 ?_)
  refine wpAny_bind (wpAny_holding (zl_hint ⟨_, hz2, rfl⟩ ?_))
  refine wpAny_ite_split (fun _ => ?_) (fun hab => absurd rfl hab)
  refine wpAny_bind (wpAny_rule ?_)
  refine wpAny_bind ?_
  show wpAny _ _ (updateSeq S (·.push .none) >>= fun _ => updateSeq S (·.pop)) _ _ _
  refine wpAny_bind (wpAny_updateSeq hS2 rfl ?_)
  have hS4 := Heap.get?_update_self (Obj.mapSeq (·.push Value.none)) hS2 rfl
  refine wpAny_updateSeq (hz := by seq_fits) hS4 rfl ?_
  have hS5 := Heap.get?_update_self (Obj.mapSeq (·.pop)) hS4 rfl
  refine wpAny_pure ⟨plainId_quiet F.plain_extend_loop _, key _ _ _ (fun b o hb e => ?_) hS5⟩
  rw [Heap.get?_update_other _ _ (Ne.symm hb), Heap.get?_update_other _ _ (Ne.symm hb)]
  exact oth b o hb e
theorem zl_call {fa : Feed prog w xs i1 l1} {fb : Feed prog w ys i2 l2} {Q : Value → Shared → Prop} (hh : A.handled = none) (D : ZipApart z TI TO i1 i2 l1 l2) (hz : IsZip s.heap z TI TO .none) (hTI : IsPair s.heap TI (.ref i1) (.ref i2)) {a b : Value} (hTO : IsPair s.heap TO a b)
    (h1 : fa.on s.heap 0) (h2 : fb.on s.heap 0) (el1 : ∃ o, s.heap.get? l1 = some o) (el2 : ∃ o, s.heap.get? l2 = some o) (hn : min xs.size ys.size ≤ sizeLine)
    (q : ∀ h' tk acc c as, (∀ b o, b ≠ z → b ≠ TO → b ≠ i1 → b ≠ i2 → s.heap.get? b = some o → h'.get? b = some o) → h'.get? s.heap.objs.size = some { cls := .type "list", dict := none, data := .seq acc c, slots := #[] } →
      as.length = min xs.size ys.size → Made xs ys s.heap.objs.size h' as → acc.toList = as.map Value.ref → Q (.ref s.heap.objs.size) { s with heap := h', toks := tk }) :
    wpAny (model prog w) A (call (.type "list") [.ref z]) Q E s := by
  refine callType_codes (Q₁ := fun obj s₁ => obj = .ref s.heap.objs.size ∧ s₁ = { s with heap := s.heap.push { cls := .type "list", data := .seq #[] } }) F.called_list (F.typeCall_list_1 _) F.entry_list_init
    (code_list_new _ ⟨rfl, rfl⟩) fun obj s₁ e1 => ?_
  obtain ⟨rfl, rfl⟩ := e1
  have hS : (s.heap.push { cls := .type "list", data := .seq #[] }).get? s.heap.objs.size = some { cls := .type "list", data := .seq #[] } := Heap.get?_push_size _ rfl
  have up : ∀ c o, s.heap.get? c = some o → (s.heap.push { cls := .type "list", data := .seq #[] }).get? c = some o := fun c o e => Heap.get?_push_of_some _ e
  obtain ⟨o1, e1⟩ := fa.obj h1
  obtain ⟨o2, e2⟩ := fb.obj h2
  obtain ⟨p1, g1⟩ := id el1
  obtain ⟨p2, g2⟩ := id el2
  have lz := Heap.lt_size hz
  have lTO := Heap.lt_size hTO
  have li1 := Heap.lt_size e1
  have li2 := Heap.lt_size e2
  refine ⟨⟨_, hS, rfl⟩, F.args_list_init_2 _ _, zl_fill (A := A.in1) hh D ⟨Nat.ne_of_gt lz, Nat.ne_of_gt (Heap.lt_size hTI), Nat.ne_of_gt lTO, Nat.ne_of_gt li1, Nat.ne_of_gt li2⟩ ⟨Nat.ne_of_gt (Heap.lt_size g1), Nat.ne_of_gt (Heap.lt_size g2)⟩
    ⟨Nat.le_of_lt lz, Nat.le_of_lt lTO, Nat.le_of_lt li1, Nat.le_of_lt li2⟩ (up _ _ hz) (up _ _ hTI) (up _ _ hTO) (fa.keep h1 (fun o e => up _ o e) fun o e => up _ o e) (fb.keep h2 (fun o e => up _ o e) fun o e => up _ o e) hS hn
    fun h' tk acc c as k hS' hl hG hacc => ?_⟩
  exact ⟨rfl, q h' tk acc c as (fun b o b1 b2 b3 b4 e => k b o (Nat.ne_of_lt (Heap.lt_size e)) b1 b2 b3 b4 (up b o e)) hS' hl hG hacc⟩
end
end Zm

namespace Zm
open PySem PySem.Spec PyProof.Rows L2 PySem.W
/-! ### the zip of a tuple and a list is made -/
def hA (h : Heap) (a : Addr) : Heap := h.push { cls := .type "tuple_iterator", data := .fields #[.ref a, .int 0 0] }
def hB (h : Heap) (a b : Addr) : Heap := (hA h a).push { cls := .type "list_iterator", data := .fields #[.ref b, .int 0 0] }
def hC (h : Heap) (a b : Addr) : Heap := (hB h a b).push { cls := .type "tuple", data := .seq #[.ref h.objs.size, .ref (hA h a).objs.size] }
def hD (h : Heap) (a b : Addr) : Heap := (hC h a b).push { cls := .type "tuple", data := .seq #[.none, .none] }
def hE (h : Heap) (a b : Addr) : Heap := (hD h a b).push { cls := .type "zip", data := .fields #[.none, .bool false, .bool false, .ref (hB h a b).objs.size, .ref (hC h a b).objs.size] }
theorem meets_tl (a b : Addr) (xs ys : Array Value) : Meets (Builtin.«zip.__new__» ⟨[.type "zip", .ref a, .ref b], []⟩) (fun _ R s => s.heap.IsTuple a xs ∧ s.heap.IsList b ys ∧
    R (.ok (.ret (.ref (hD s.heap a b).objs.size))) { s with heap := hE s.heap a b }) := Meets.of_wp fun prog w A R s h => by
  obtain ⟨hp, g, d, tk, os⟩ := s
  obtain ⟨u1, u2, h⟩ := h
  have sub := sub_zip
  have v1 : Heap.IsTuple (Shared.heap ⟨hp, g, d, tk, os⟩) a xs := u1
  have v2 : Heap.IsList (Shared.heap ⟨hA hp a, g, d, tk, os⟩) b ys := u2.at fun o e => Heap.get?_push_of_some _ e
  unfold hA at v2
  wp_walk using wpAny_pyIter_tuple v1, wpAny_pyIter_list v2
  exact ⟨_, rfl, h⟩
section
variable {prog : Program} {w : World} {A : Around} {E : Value → Shared → Prop} {s : Shared}
theorem call_tl {a b : Addr} {xs ys : Array Value} {Q : Value → Shared → Prop} (u1 : s.heap.IsTuple a xs) (u2 : s.heap.IsList b ys)
    (q : ∀ h', IsZip h' (s.heap.objs.size + 4) (s.heap.objs.size + 2) (s.heap.objs.size + 3) .none → IsPair h' (s.heap.objs.size + 2) (.ref s.heap.objs.size) (.ref (s.heap.objs.size + 1)) →
      IsPair h' (s.heap.objs.size + 3) .none .none → h'.IsTupleIter s.heap.objs.size a 0 → h'.IsListIter (s.heap.objs.size + 1) b 0 → h'.objs.size = s.heap.objs.size + 5 →
      (∀ c o, s.heap.get? c = some o → h'.get? c = some o) → Q (.ref (s.heap.objs.size + 4)) { s with heap := h' }) : wpAny (model prog w) A (call (.type "zip") [.ref a, .ref b]) Q E s := by
  refine callType_new F.called_zip (by decide) (F.typeCall_zip_2 _ _) (F.newCall_zip_2 _ _) (fun obj => F.args_object_init_3 obj _ _) F.entry_zip_new (meets_tl a b xs ys) ⟨u1, u2, ?_⟩
  have n1 : (hA s.heap a).objs.size = s.heap.objs.size + 1 := Heap.size_push ..
  have n2 : (hB s.heap a b).objs.size = s.heap.objs.size + 2 := (Heap.size_push ..).trans (congrArg (· + 1) n1)
  have n3 : (hC s.heap a b).objs.size = s.heap.objs.size + 3 := (Heap.size_push ..).trans (congrArg (· + 1) n2)
  have n4 : (hD s.heap a b).objs.size = s.heap.objs.size + 4 := (Heap.size_push ..).trans (congrArg (· + 1) n3)
  have n5 : (hE s.heap a b).objs.size = s.heap.objs.size + 5 := (Heap.size_push ..).trans (congrArg (· + 1) n4)
  have k1 : ∀ c o, s.heap.get? c = some o → (hA s.heap a).get? c = some o := fun c o e => Heap.get?_push_of_some _ e
  have k2 : ∀ c o, (hA s.heap a).get? c = some o → (hB s.heap a b).get? c = some o := fun c o e => Heap.get?_push_of_some _ e
  have k3 : ∀ c o, (hB s.heap a b).get? c = some o → (hC s.heap a b).get? c = some o := fun c o e => Heap.get?_push_of_some _ e
  have k4 : ∀ c o, (hC s.heap a b).get? c = some o → (hD s.heap a b).get? c = some o := fun c o e => Heap.get?_push_of_some _ e
  have k5 : ∀ c o, (hD s.heap a b).get? c = some o → (hE s.heap a b).get? c = some o := fun c o e => Heap.get?_push_of_some _ e
  have m1 : (hA s.heap a).get? s.heap.objs.size = some { cls := .type "tuple_iterator", data := .fields #[.ref a, .int 0 0] } := Heap.get?_push_size _ rfl
  have m2 : (hB s.heap a b).get? (hA s.heap a).objs.size = some { cls := .type "list_iterator", data := .fields #[.ref b, .int 0 0] } := Heap.get?_push_size _ rfl
  have m3 : (hC s.heap a b).get? (hB s.heap a b).objs.size = some { cls := .type "tuple", data := .seq #[.ref s.heap.objs.size, .ref (hA s.heap a).objs.size] } := Heap.get?_push_size _ rfl
  have m4 : (hD s.heap a b).get? (hC s.heap a b).objs.size = some { cls := .type "tuple", data := .seq #[.none, .none] } := Heap.get?_push_size _ rfl
  have m5 : (hE s.heap a b).get? (hD s.heap a b).objs.size = some { cls := .type "zip", data := .fields #[.none, .bool false, .bool false, .ref (hB s.heap a b).objs.size, .ref (hC s.heap a b).objs.size] } := Heap.get?_push_size _ rfl
  rw [n1] at m2 m3
  rw [n2] at m3 m5
  rw [n3] at m4 m5
  rw [n4] at m5 ⊢
  exact ⟨⟨_, m5, rfl⟩, q _ m5 (k5 _ _ (k4 _ _ m3)) (k5 _ _ m4) ⟨_, k5 _ _ (k4 _ _ (k3 _ _ (k2 _ _ m1))), rfl, rfl⟩ ⟨_, k5 _ _ (k4 _ _ (k3 _ _ m2)), rfl, rfl⟩ n5 fun c o e => k5 _ _ (k4 _ _ (k3 _ _ (k2 _ _ (k1 _ _ e))))⟩
end
/-! ### the rule of the layer -/
def tListZip (K : PySem.W.Frag) (ta : TA) : TE := fun σ H Q => ta σ H fun vs H1 => ∃ a b xs ys, vs = [.ref a, .ref b] ∧ SqT K H1 a xs ∧ SqL K H1 b ys ∧
  ∀ (H' : Hp) (p : Addr) (ts : List Addr), Same H1 H' → H1 p = none → (∀ t ∈ ts, H1 t = none) → p ∉ ts → H' p = some (.lst (ts.map V.ref)) → ts.length = min xs.length ys.length →
    (∀ (i : Nat) (t : Addr), ts[i]? = some t → ∃ x y, xs[i]? = some x ∧ ys[i]? = some y ∧ H' t = some (.tup [x, y])) → Q (.ref p) H'
/-- pairs tracked at their addresses -/
def put2 : Hp → List Addr → List V → List V → Hp
  | H, a :: as, x :: xs, y :: ys => put2 (upd H a (.tup [x, y])) as xs ys
  | H, _, _, _ => H
theorem put2_off {b : Addr} : ∀ (as : List Addr) (xs ys : List V) (H : Hp), b ∉ as → put2 H as xs ys b = H b
  | [], _, _, _, _ => rfl
  | _ :: _, [], _, _, _ => rfl
  | _ :: _, _ :: _, [], _, _ => rfl
  | a :: as, x :: xs, y :: ys, H, h => by
    show put2 (upd H a (.tup [x, y])) as xs ys b = H b
    rw [put2_off as xs ys _ (fun q => h (List.mem_cons_of_mem _ q)), upd_ne (fun q => h (by rw [q]; exact List.mem_cons_self))]
theorem put2_at : ∀ (as : List Addr) (xs ys : List V) (H : Hp), as.length = min xs.length ys.length → as.Nodup → ∀ (i : Nat) (t : Addr), as[i]? = some t → ∃ x y, xs[i]? = some x ∧ ys[i]? = some y ∧ put2 H as xs ys t = some (.tup [x, y])
  | [], _, _, _, _, _, i, t, e => by simp at e
  | _ :: _, [], _, _, h, _, _, _, _ => by simp at h
  | _ :: _, _ :: _, [], _, h, _, _, _, _ => by simp at h
  | a :: as, x :: xs, y :: ys, H, h, hn, i, t, e => by
    have hn' := List.nodup_cons.mp hn
    have ih := put2_at as xs ys (upd H a (.tup [x, y])) (by simp only [List.length_cons] at h; omega) hn'.2
    cases i with
    | zero =>
      have e' : a = t := by simpa using e
      subst e'
      refine ⟨x, y, rfl, rfl, ?_⟩
      show put2 (upd H a (.tup [x, y])) as xs ys a = _
      rw [put2_off as xs ys _ hn'.1, upd_same]
    | succ i => exact ih i t (by simpa using e)
section
variable {X : Cx} {e e2 : Expr} {ta : TA} {p p2 pos q : Pos}
theorem pe_listZip (hc : X.calm = true) (hg : Gl X "list") (hm : X.mg "list" = none) (hg2 : Gl X "zip") (hm2 : X.mg "zip" = none) (ha : PA X [e, e2] ta)
    (hs : starEach [e, e2] X.env = (false, eval e X.env) :: starEach [e2] X.env := by rfl) (hpl : (backTo q (starEach [e2] X.env)).any (·.1) = false := by rfl)
    (hs2 : starEach [.Call (.Name "zip" p2) [e, e2] [] q] X.env = (false, eval (.Call (.Name "zip" p2) [e, e2] [] q) X.env) :: starEach [] X.env := by rfl) :
    PE X (.Call (.Name "list" p) [.Call (.Name "zip" p2) [e, e2] [] q] [] pos) (tListZip X.K ta) := by
  refine ⟨fun pins s σ H Q I h => ?_⟩
  refine wpAny_Call_Name_kw (ld_blt I hg hm (by decide +kernel : bootBuiltins "list" = some (.type "list")) ?_)
  refine PyProof.Rows.callWith_type1 ?_ hs2 rfl
  rw [hs2]
  refine Calls.spliced_cons ?_
  refine Call_ (ld_blt I hg2 hm2 PyProof.Rows.boot_zip (PyProof.Rows.callWith_type1 (thn (ha.run q pins s σ H _ I h) fun us s1 ⟨vs, H1, I1, r1, q1⟩ => ?_) hs hpl))
  obtain ⟨a, b, xs, ys, ex, hqx, hqy, k0⟩ := q1
  subst ex
  cases r1 with
  | cons r rr =>
    cases rr with
    | cons r' rr =>
      cases rr
      cases r
      cases r'
      obtain ⟨its, rv, pl1, hz1⟩ := I1.tuple hqx
      obtain ⟨its2, rv2, pl2, hz2⟩ := I1.list hqy
      have la : a < s1.heap.objs.size := by
        obtain ⟨o, e, _⟩ := id pl1
        exact Heap.lt_size e
      have lb : b < s1.heap.objs.size := pl2.lt
      have pT : s1.heap.IsTuple a its.toArray := pl1
      have D := PySem.W.ktu_apart s1.heap.objs.size a b la lb
      have e1 := rv.length
      have e2' := rv2.length
      refine call_tl (show s1.heap.IsTuple a its.toArray from pl1) pl2.isList fun h' hz hTI hTO h1 h2 hsz hk => Calls.spliced_nil ?_
      refine zl_call (fa := feedT _ _ _ s1.heap.objs.size _ (Nat.ne_of_lt la)) (fb := feedL _ _ _ (s1.heap.objs.size + 1) _ (Nat.ne_of_lt (Nat.lt_of_lt_of_le lb (Nat.le_add_right _ _)))) (s := { s1 with heap := h' }) (I1.ok.hd hc) D hz hTI hTO ⟨h1, pT.at fun o e => hk _ o e⟩ ⟨h2, pl2.isList.at fun o e => hk _ o e⟩ (let ⟨o, e, _⟩ := pT; ⟨o, hk _ _ e⟩) (let ⟨o, e, _⟩ := pl2.isList; ⟨o, hk _ _ e⟩) (by simp only [List.size_toArray]; omega) fun h3 tk acc c as k hS hl hG hacc => ?_
      dsimp only at hS k hG ⊢
      have hlo : s1.heap.objs.size ≤ h'.objs.size := by rw [hsz]; exact Nat.le_add_right _ _
      have old : ∀ b o, s1.heap.get? b = some o → h3.get? b = some o := fun b o eb => by
        have hb := Heap.lt_size eb
        refine k b o ?_ ?_ ?_ ?_ (hk b o eb)
        · exact Nat.ne_of_lt (Nat.lt_of_lt_of_le hb (Nat.le_add_right _ _))
        · exact Nat.ne_of_lt (Nat.lt_of_lt_of_le hb (Nat.le_add_right _ _))
        · exact Nat.ne_of_lt hb
        · exact Nat.ne_of_lt (Nat.lt_of_lt_of_le hb (Nat.le_add_right _ _))
      have hSn : h'.objs.size ∉ as := fun m => Nat.lt_irrefl _ (hG.above _ m)
      have nd : as.Nodup := List.Pairwise.imp (fun {a b} (h : a < b) => Nat.ne_of_lt h) hG.rise
      have new : ∀ t ∈ as, H1 t = none := fun t ht => I1.hok.fresh (Nat.le_trans hlo (Nat.le_of_lt (hG.above t ht)))
      have newS : H1 h'.objs.size = none := I1.hok.fresh hlo
      generalize hF : put2 (upd H1 h'.objs.size (.lst (as.map V.ref))) as xs ys = F
      have atP := put2_at as xs ys (upd H1 h'.objs.size (.lst (as.map V.ref))) (by rw [hl]; simp only [List.size_toArray]; omega) nd
      rw [hF] at atP
      have off : ∀ b, b ∉ as → b ≠ h'.objs.size → F b = H1 b := fun b b1 b2 => by rw [← hF, put2_off as xs ys _ b1, upd_ne b2]
      have kp : ∀ b u, H1 b = some u → F b = some u := fun b u eb => by
        rw [off b (fun m => by rw [new b m] at eb; cases eb) (fun m => by rw [m, newS] at eb; cases eb)]
        exact eb
      have eS : F h'.objs.size = some (.lst (as.map V.ref)) := by rw [← hF, put2_off as xs ys _ hSn, upd_same]
      have J : Inv X pins σ F { s1 with heap := h3, toks := tk } := by
        refine I1.call' (ch := []) rfl ⟨fun b o q _ _ _ => old b o q, fun b o q _ _ _ => ⟨o.slots, old b o q⟩, fun b o q n _ => ?_, fun b o q _ => ⟨o, old b o q⟩, fun b xs q => kp b _ q, fun b o u q => kp b _ q, fun b ps q => ⟨#[], by rw [kp b _ q]; simp⟩⟩ (fun b u q => ?_) I1.bare fun b m => by simp at m
        · have hb := Heap.lt_size q
          rw [off b (fun m => Nat.lt_irrefl _ (Nat.lt_trans hb (Nat.lt_of_le_of_lt hlo (hG.above b m)))) (Nat.ne_of_lt (Nat.lt_of_lt_of_le hb hlo))]
          exact n
        · by_cases hb : b ∈ as
          · obtain ⟨j, hj⟩ := List.mem_iff_getElem?.mp hb
            obtain ⟨x, y, f1, f2, f3⟩ := atP j b hj
            rw [f3] at q
            cases q
            obtain ⟨u1, u2, g1, g2, g3⟩ := hG.pairs j b hj
            obtain ⟨v1, m1, m2⟩ := rv.get f1
            obtain ⟨v2, m3, m4⟩ := rv2.get f2
            have w1 : v1 = u1 := by
              have : its.toArray[j]? = some v1 := by simpa using m1
              rw [this] at g1
              exact Option.some.inj g1
            have w2 : v2 = u2 := by
              have : its2.toArray[j]? = some v2 := by simpa using m3
              rw [this] at g2
              exact Option.some.inj g2
            subst w1 w2
            exact ⟨by show 2 ≤ sizeLine; decide, [v1, v2], .cons m2 (.cons m4 .nil), ⟨_, g3, rfl, _, rfl⟩⟩
          · by_cases hb2 : b = h'.objs.size
            · subst hb2
              rw [eS] at q
              cases q
              refine ⟨by rw [List.length_map, hl]; simp only [List.size_toArray]; omega, acc.toList, c, by rw [hacc]; exact LiI.vals_refs as, ?_⟩
              rw [Array.toArray_toList]
              exact hS
            · rw [off b hb hb2] at q
              exact (I1.hok b u q).stay (fun d v _ y => old d v y) (fun d y => kp d _ y) fun d zs y => kp d _ y
      exact ⟨.ref _, F, J, rfl, k0 F _ as kp newS new hSn eS (by rw [hl]; simp only [List.size_toArray]; omega) atP⟩
end
end Zm

namespace Mw
open PySem L2 NdefX Sx
theorem stn_idx {t : T} {x : Int × V} {u : T} {j : Nat} {m : T} (h : stn t x = some (u, j, m)) : ∃ i : Nat, x.1 = (i : Int) ∧ t.nodes[i]? = some u := by
  obtain ⟨h1, _, h3, _⟩ := stn_inner h
  exact ⟨x.1.toNat, (Int.toNat_of_nonneg h3).symm, h1⟩
theorem putP_cons {t : T} {x : Int × V} {u : T} {j : Nat} {i : T} {p : Pth} {m : T} (h : stn t x = some (u, j, i)) : putP t (x :: p) m = ch (t.nodes.set x.1.toNat (setI u j (putP i p m))) := by
  show (match stn t x with | some (u, j, i) => _ | none => t) = _
  rw [h]
theorem ixN_nat {n j : Nat} (h : j < n) : ixN n (j : Int) = some j := by
  unfold ixN
  rw [if_pos (by omega), if_pos (by omega)]
  rfl
theorem cho_of_kix {u : T} {x : V} {j : Nat} (h : kix u.oks x = some j) : u.isCho = true := by
  cases u <;> first | rfl | (cases h)
section
variable {P : Program} {w : World} {K : PySem.W.Frag} {mg : Str → Option Value} {base : Heap}
/-! ### replaced -/
abbrev sRe : Stmt := top 18
theorem scRe : FnScope ["message", "path", "inner", "around", "step", "outer", "node", "at", "messages"] ["message", "path", "inner"] (defScope sRe) := ⟨rfl, rfl, rfl, by decide +kernel, rfl, by decide +kernel, by decide +kernel⟩
def spRe (K : PySem.W.Frag) (C : Addr) : Sp := fun vs H Q E => ∃ (a mi : Addr) (yv : V) (p : Pth) (t m : T), vs = [.ref a, yv, .ref mi] ∧ At H a t ∧ Wf t false ∧ Kd t ∧ t.sz < 100000 ∧ At H mi m ∧ PthAt K H p yv ∧ PthOk p ∧
  (∀ r H', atP t p ≠ none → Same H H' → At H' r (putP t p m) → Q (.ref r) H') ∧
  (atP t p = none → ∀ dx H', H dx = none → Same H H' → H' dx = some (.xd [("path", yv)]) → E (.ref C) (some dx) H')
theorem ok_re {f fL fI fP fW C : Addr} {fd fdL fdI fdP fdW : FuncData} (F : Fun K "replaced" "replaced" sRe f fd)
    (GL : FnOk P w K mg base (L2.CX P w) 4 fL fdL ["message", "path"] (spAl K C)) (bL : Binds K fdL ["message", "path"] []) (kL : PySem.W.keepIn K (.ref fL) = true) (mL : mg "messages_along" = some (.ref fL))
    (GP : FnOk P w K mg base (L2.CX P w) 3 fP fdP ["message", "step", "path"] (spPw K C)) (bP : Binds K fdP ["message", "step", "path"] []) (kP : PySem.W.keepIn K (.ref fP) = true) (mP : mg "place_within" = some (.ref fP))
    (GI : FnOk P w K mg base CX0 2 fI fdI ["node"] spInner) (bI : Binds K fdI ["node"] []) (kI : PySem.W.keepIn K (.ref fI) = true) (mI : mg "inner_messages" = some (.ref fI))
    (GW : FnOk P w K mg base CX0 2 fW fdW ["node", "messages"] spWith) (bW : Binds K fdW ["node", "messages"] []) (kW : PySem.W.keepIn K (.ref fW) = true) (mW : mg "with_inner" = some (.ref fW))
    (mli : mg "list" = none) (mz : mg "zip" = none) :
    FnOk P w K mg base (L2.CX P w) 5 f fd ["message", "path", "inner"] (spRe K C) := by
  refine F.okX scRe (fun vs H Q E h => ?_) (fun cdv A outer s H vs Q E hr h => ?_)
  · obtain ⟨a, mi, yv, p, t, m, rfl, _⟩ := h
    rfl
  obtain ⟨a, mi, yv, p, t, m, rfl, hat, hw, hk, hz, hmi, hp, hok, q1, q2⟩ := h
  have nd := scRe.nd
  refine ⟨_, (pss_cons (ps_set (i := 3) nd rfl (.inl rfl) (pe_slice sl_list (pe_call GL (hr.mono (by decide)) rfl mL kL bL .nil (passes_call (takes_of rfl rfl rfl rfl) (fun _ _ _ _ h => h)) (pa_cons (pv 0) (pa_cons (pv 1) pa_nil))) po_none (po_some (pe_un un_neg pe_int))))
      (pss_cons (ps_for (passes_of rfl) rfl (pi_list (pe_revL (Zm.pe_listZip rfl (by rfl) mli (by rfl) mz (pa_cons (pv 1) (pa_cons (pv 3) pa_nil))))) (pg_tup rfl (pgs_cons (pg_name (i := 4) nd rfl (.inl rfl)) (pgs_cons (pg_name (i := 5) nd rfl (.inl rfl)) pgs_nil))) (pss_cons (ps_asg (pe_call GP (hr.mono (by decide)) rfl mP kP bP .nil (passes_call (takes_of rfl rfl rfl rfl) (fun _ _ _ _ h => h)) (pa_cons (pv 5) (pa_cons (pv 4) (pa_cons (pv 1) pa_nil)))) (pg_tup rfl (pgs_cons (pg_name (i := 6) nd rfl (.inl rfl)) (pgs_cons (pg_name (i := 7) nd rfl (.inl rfl)) pgs_nil))))
      (pss_cons (ps_set (i := 8) nd rfl (.inl rfl) (pe_call GI (hr.mono (by decide)) rfl mI kI bI .nil pass0 (pa_cons (pv 6) pa_nil)))
      (pss_cons (ps_asg (pv 2) (pg_sub (pv 8) (pv 7) set_list))
      (pss_one (ps_set (i := 2) nd rfl (.inl rfl) (pe_op op_cat (pe_op op_cat (pe_slice sl_list (pv 5) po_none (po_some (pe_ix ix_tup (pv 4) pe_int (fun _ _ => rfl)))) (pe_lst (pa_cons (pe_call GW (hr.mono (by decide)) rfl mW kW bW .nil pass0 (pa_cons (pv 6) (pa_cons (pv 8) pa_nil))) pa_nil))) (pe_slice sl_list (pv 5) (po_some (pe_op op_add (pe_ix ix_tup (pv 4) pe_int (fun _ _ => rfl)) pe_int)) po_none))))))))
      (pss_one (ps_ret (pv 2))))), ?_⟩
  refine ⟨_, rfl, _, rfl, a, yv, p, t, rfl, hat, hw, hk, hz, hp, hok, fun ts al H1 vs hal s1 hal0 hal1 hts => ?_, fun e => q2 ?_⟩
  rotate_left
  · cases hm : atP t p with
    | none => rfl
    | some m =>
      obtain ⟨us, e1, _⟩ := at_along hm
      rw [e1] at e
      cases e
  have hne : atP t p ≠ none := fun e => by rw [along_at e] at hal; cases hal
  obtain ⟨g1, g2, g3⟩ := along_get hal
  have oka := along_ok hal hw hk (Nat.le_refl t.sz)
  have hvl := hts.length
  obtain ⟨pa, pvs, rfl, hp1, hp2⟩ := id hp
  have hpl := hp2.length
  have hp20 := hok.1
  obtain ⟨ws, z, rfl⟩ : ∃ ws z, vs = ws ++ [z] := by
    have hne : vs ≠ [] := by
      rintro rfl
      simp at hvl
      omega
    exact ⟨vs.dropLast, vs.getLast hne, (List.dropLast_concat_getLast hne).symm⟩
  have hwl : ws.length = p.length := by
    rw [List.length_append, List.length_singleton] at hvl
    omega
  refine ⟨1, rfl, _, rfl, al, _, rfl, SqL.of hal1, fun sl hsl => ?_⟩
  have ecut : cutV (ws ++ [z]) none (some (-1)) = ws := by
    unfold cutV
    rw [HT.sIx_none, List.drop_zero]
    have : HT.sIx (ws ++ [z]).length (ws ++ [z]).length (some (-1)) = ws.length := by
      show (if (-1 : Int) < 0 then ((-1 : Int) + ((ws ++ [z]).length : Int)).toNat else min (-1 : Int).toNat (ws ++ [z]).length) = ws.length
      rw [if_pos (by decide), List.length_append]
      show ((-1 : Int) + ((ws.length + 1 : Nat) : Int)).toNat = ws.length
      omega
    rw [this, Nat.sub_zero, List.take_append_of_le_length (Nat.le_refl _), List.take_length]
  rw [ecut]
  have hsl0 : H sl = none := s1.free hsl
  have s2 : Same H (upd H1 sl (.lst ws)) := s1.trans (same_new hsl _)
  have hws : ∀ i v, ws[i]? = some v → ∃ (ti : T) (b : Addr), ts[i]? = some ti ∧ v = V.ref b ∧ At H b ti := fun i v e => by
    have hi := (List.getElem?_eq_some_iff.mp e).1
    exact hts.get (i := i) (v := v) (by rw [List.getElem?_append_left hi]; exact e)
  refine ⟨_, rfl, _, rfl, pa, sl, pvs, ws, rfl, Ts.same s2 hp1, SqL.of upd_same, fun H3 zl zs s3 hzl hzs hzn hz3 hzl3 hzall => ?_⟩
  have s13 : Same H H3 := s2.trans s3
  have hzlen : zs.length = p.length := by
    rw [hzl3, hpl, hwl, Nat.min_self]
  refine ⟨zl, _, rfl, SqL.of hz3, fun rl hrl => ?_⟩
  have hrl0 : H rl = none := s13.free hrl
  refine ⟨rl, rfl, ⟨_, SqL.of upd_same⟩, for_list (K := K) (a := rl) (xs := (zs.map V.ref).reverse) (fun k σ H' => ∃ (c : Addr) (tk : T) (o4 o5 o6 o7 o8 : Option V), σ = [some (.ref a), some (.ref pa), some (.ref c), some (.ref sl), o4, o5, o6, o7, o8] ∧ Same (upd H3 rl (.lst (zs.map V.ref).reverse)) H' ∧ ts[p.length - k]? = some tk ∧ At H' c (putP tk (p.drop (p.length - k)) m))
    ⟨mi, ts.getD p.length .nil, none, none, none, none, none, rfl, Same.refl _, ?_, ?_⟩ (fun k σ H' _ ⟨_, _, _, _, _, _, _, _, s', _⟩ => SqL.of (s' _ _ upd_same)) ?_ ?_⟩
  · rw [Nat.sub_zero, List.getD_eq_getElem?_getD, List.getElem?_eq_getElem (by omega)]
    rfl
  · rw [Nat.sub_zero, List.drop_length]
    exact hmi.same (s13.trans (same_new hrl _))
  · rintro k x σ H4 hx ⟨c, tk, o4, o5, o6, o7, o8, rfl, s4, htk, hat4⟩
    have hkl : k < p.length := by
      have := (List.getElem?_eq_some_iff.mp hx).1
      rw [List.length_reverse, List.length_map, hzlen] at this
      exact this
    have s04 : Same H H4 := (s13.trans (same_new hrl _)).trans s4
    obtain ⟨i, hi, hik⟩ : ∃ i, i < p.length ∧ p.length - k = i + 1 := ⟨p.length - 1 - k, by omega, by omega⟩
    have hzi : (zs.map V.ref)[i]? = some x := by
      rw [List.getElem?_reverse (by rw [List.length_map, hzlen]; exact hkl)] at hx
      rw [← hx]
      congr 1
      rw [List.length_map, hzlen]
      omega
    rw [List.getElem?_map] at hzi
    obtain ⟨zt, hzt, rfl⟩ : ∃ zt : Addr, zs[i]? = some zt ∧ V.ref zt = x := by
      cases hq : zs[i]? with
      | none => rw [hq] at hzi; cases hzi
      | some zt => rw [hq] at hzi; exact ⟨zt, rfl, by simpa using hzi⟩
    obtain ⟨x1, y1, hx1, hy1, hztt⟩ := hzall i zt hzt
    obtain ⟨y, qa, hy, rfl, hqa⟩ := hp2.get hx1
    obtain ⟨ti, ob, hti, rfl, hob⟩ := hws i y1 hy1
    obtain ⟨ta, tb, u, j, e1, e2, hst⟩ := g3 i y hy
    rw [hti] at e1
    cases e1
    rw [hik, e2] at htk
    cases htk
    obtain ⟨wi, ki, zi⟩ := oka ti (List.mem_of_getElem? hti)
    rw [hik] at hat4
    have hdrop : p.drop i = y :: p.drop (i + 1) := by
      have e := List.getElem?_eq_some_iff.mp hy
      rw [List.drop_eq_getElem_cons e.1, e.2]
    have hztt4 : H4 zt = some (.tup [.ref qa, .ref ob]) := s4 _ _ (same_new hrl _ _ _ hztt)
    refine ⟨zt, _, rfl, .inl (.inl hztt4), rfl, .ref qa, _, rfl, .ref ob, [], rfl, rfl, ?_⟩
    refine ⟨_, rfl, _, rfl, _, rfl, ob, qa, .ref pa, p, ti, y, H, rfl, s04, hob, wi, ki, by omega, s04 _ _ hqa, (hok.2 y (List.mem_of_getElem? hy)).2, hp.same s04, hok, fun u' j' m' v r H5 hst' s5 hr0 hr5 hun um => ?_, fun hno => by rw [hst] at hno; cases hno⟩
    rw [hst] at hst'
    cases hst'
    have s05 := s04.trans s5
    obtain ⟨hu, hmj, hx0, hkix⟩ := stn_inner hst
    have uw := nodes_wf wi u um
    have uz := node_sz u um
    have uc := cho_of_kix hkix
    have us := nodes_single u um
    refine ⟨r, _, rfl, .inl (.inl hr5), rfl, v, _, rfl, .int (j : Nat), [], rfl, rfl, ?_⟩
    refine ⟨_, rfl, H, v, u, rfl, s05, hun, uw, by omega, fun il H6 ms hil s6 hil6 hms => ?_⟩
    have hjl : j < ms.length := by
      rw [hms.length]
      exact (List.getElem?_eq_some_iff.mp hmj).1
    refine ⟨_, rfl, _, rfl, _, rfl, il, _, (j : Nat), j, rfl, rfl, hil6, ?_, ?_⟩
    · exact ixN_nat hjl
    have nil5 : ∀ b o, H5 b = some o → b ≠ il := fun b o e => ne_of_none e hil
    have hil0 : H il = none := s05.free hil
    generalize hH7 : upd H6 il (.lst (ms.set j (.ref c))) = H7
    have hil7 : H7 il = some (.lst (ms.set j (.ref c))) := by rw [← hH7]; exact upd_same
    have s57 : Same H5 H7 := fun b o e => by
      rw [← hH7, upd_ne (nil5 b o e)]
      exact s6 _ _ e
    have s07 := s05.trans s57
    cases u with
    | cho hd cs oo rr =>
      cases (show rr = .nil from us)
      obtain ⟨np, nws, ca, cvs, oa, ovs, ee, hnp, hca, hcs, hoa, hos, _⟩ := hun
      cases ee
      have ml1 : ms.length = cs.keys.length + 1 := by
        rw [hms.length]
        show (cs.msgs ++ [oo]).length = _
        rw [List.length_append, (msgs_len uw.2.2.1).1]
        rfl
      have hset : Ats H7 ((cs.msgs ++ [oo]).set j (putP tk (p.drop (i + 1)) m)) (ms.set j (.ref c)) := Ats.set (hat4.same (s5.trans s57)) (hms.same s07)
      have hsl : ((cs.msgs ++ [oo]).set j (putP tk (p.drop (i + 1)) m)).length = cs.keys.length + 1 := by
        rw [List.length_set, List.length_append, (msgs_len uw.2.2.1).1]
        rfl
      obtain ⟨fs, fz, efs⟩ : ∃ fs fz, ms.set j (.ref c) = fs ++ [fz] := by
        have hne : ms.set j (.ref c) ≠ [] := by
          intro e
          have := congrArg List.length e
          rw [List.length_set, ml1] at this
          simp at this
        exact ⟨(ms.set j (.ref c)).dropLast, (ms.set j (.ref c)).getLast hne, (List.dropLast_concat_getLast hne).symm⟩
      have hfl : fs.length = cs.keys.length := by
        have := congrArg List.length efs
        rw [List.length_set, List.length_append, List.length_singleton, ml1] at this
        omega
      obtain ⟨ms1, mz, ems, hml⟩ : ∃ ms1 mz, (cs.msgs ++ [oo]).set j (putP tk (p.drop (i + 1)) m) = ms1 ++ [mz] ∧ ms1.length = cs.keys.length := by
        generalize hL : (cs.msgs ++ [oo]).set j (putP tk (p.drop (i + 1)) m) = L at hsl
        have hne : L ≠ [] := by
          rintro rfl
          simp at hsl
        refine ⟨L.dropLast, L.getLast hne, (List.dropLast_concat_getLast hne).symm, ?_⟩
        rw [List.length_dropLast, hsl]
        rfl
      rw [ems, efs] at hset
      obtain ⟨a1, az, ez, haz1, haz2⟩ : ∃ (v1 : Ats H7 ms1 fs) (az : Addr) (ez : fz = V.ref az) (hz : At H7 az mz), True := by
        have l1 : ms1.length = fs.length := by rw [hml, hfl]
        clear ems efs
        revert hset l1
        clear hsl hml hfl
        revert fs
        induction ms1 with
        | nil =>
          intro fs h l
          cases fs with
          | nil =>
            obtain ⟨q, _, e1, e2, e3⟩ := h
            cases e1
            exact ⟨rfl, q, rfl, e2, trivial⟩
          | cons _ _ => cases l
        | cons x1 ms1 ih =>
          intro fs h l
          cases fs with
          | nil => cases l
          | cons f1 fs =>
            obtain ⟨q, _, e1, e2, e3⟩ := h
            cases e1
            obtain ⟨g1, g2, g3, g4, _⟩ := ih fs e3 (Nat.succ.inj l)
            exact ⟨⟨q, fs, rfl, e2, g1⟩, g2, g3, g4, trivial⟩
      subst ez
      obtain ⟨tvs0, hob1, hob2⟩ := id hob
      obtain ⟨n, en, hun2⟩ := stn_idx hst
      have hnl : n < tvs0.length := by
        rw [hob2.ns.length]
        exact (List.getElem?_eq_some_iff.mp hun2).1
      have htl : tvs0.length < 100000 := by
        rw [hob2.length]
        have := len_sz ti
        omega
      have hob7 : H7 ob = some (.lst tvs0) := s07 _ _ hob1
      have hqa7 : H7 qa = some (.tup [.int y.1, y.2]) := s07 _ _ hqa
      have ksz : cs.keys.length < 100000 := by
        have e1 := (msgs_len uw.2.2.1).2
        have e2 := len_sz cs
        simp only [T.sz] at uz
        omega
      -- the new list
      refine ⟨_, rfl, _, rfl, qa, _, 0, .int y.1, rfl, rfl, .inl (.inl hqa7), atI_nat (j := 0) rfl, _, rfl, ob, _, rfl, SqL.of hob7, fun p1 hp1' => ?_⟩
      rw [en, cut_pre _ _ (Nat.le_of_lt hnl)]
      have t1 : Same H7 (upd H7 p1 (.lst (tvs0.take n))) := same_new hp1' _
      have s1' := s07.trans t1
      refine ⟨_, rfl, _, rfl, np, ca, oa, il, hd, cvs, cs.keys, fs, .ref az, rfl, s1' _ _ hnp, uw.2.1, s1' _ _ hca, ?_, t1 _ _ (by rw [← efs]; exact hil7), hfl, ksz, fun p' D H8 tvs hp0 hD0 s8 hp' hD' hcs' => ?_⟩
      · obtain ⟨k1, k2⟩ := keys_at hcs uw.2.2.1
        refine ⟨k1, fun i' v' e' => ?_⟩
        obtain ⟨q', k', x', f1, f2, f3⟩ := k2 i' v' e'
        exact ⟨q', k', x', f1, f2, s1' _ _ f3⟩
      refine ⟨by show 1 ≤ sizeLine; decide, fun l2 hl2 => ⟨p1, l2, _, _, rfl, rfl, same_new hl2 _ _ _ (s8 _ _ upd_same), upd_same, le_line (by rw [List.length_take]; show min n tvs0.length + 1 < 10000000; omega), fun l3 hl3 => ?_⟩⟩
      have t2 : Same H8 (upd (upd H8 l2 (.lst [.ref p'])) l3 (.lst (tvs0.take n ++ [.ref p']))) := (same_new hl2 _).trans (same_new hl3 _)
      have s78 : Same H7 (upd (upd H8 l2 (.lst [.ref p'])) l3 (.lst (tvs0.take n ++ [.ref p']))) := (t1.trans s8).trans t2
      refine ⟨_, rfl, _, rfl, qa, _, 0, .int y.1, rfl, rfl, .inl (.inl (s78 _ _ hqa7)), atI_nat (j := 0) rfl, _, _, rfl, rfl, _, rfl, ob, _, rfl, SqL.of (s78 _ _ hob7), fun p4 hp4 => ?_⟩
      rw [show y.1 + 1 = ((n + 1 : Nat) : Int) by omega, cut_suf _ _ hnl]
      refine ⟨l3, p4, _, _, rfl, rfl, same_new hp4 _ _ _ upd_same, upd_same, le_line (by rw [List.length_append, List.length_take, List.length_drop]; show min n tvs0.length + 1 + (tvs0.length - (n + 1)) < 10000000; omega), fun l5 hl5 => ?_⟩
      rw [set_parts hnl]
      have t3 : Same (upd (upd H8 l2 (.lst [.ref p'])) l3 (.lst (tvs0.take n ++ [.ref p']))) (upd (upd (upd (upd H8 l2 (.lst [.ref p'])) l3 (.lst (tvs0.take n ++ [.ref p']))) p4 (.lst (tvs0.drop (n + 1)))) l5 (.lst (tvs0.set n (.ref p')))) := (same_new hp4 _).trans (same_new hl5 _)
      have s79 := s78.trans t3
      have s89 := t2.trans t3
      have s49 : Same H4 _ := (s5.trans s57).trans s79
      refine ⟨l5, ti, _, _, _, _, _, rfl, s4.trans s49, by rw [← hti]; congr 1; omega, ?_⟩
      rw [show p.length - (k + 1) = i by omega, hdrop, putP_cons hst]
      refine ⟨tvs0.set n (.ref p'), upd_same, ?_⟩
      have hun' : Nodes (upd (upd (upd (upd H8 l2 (.lst [.ref p'])) l3 (.lst (tvs0.take n ++ [.ref p']))) p4 (.lst (tvs0.drop (n + 1)))) l5 (.lst (tvs0.set n (.ref p')))) (setI (.cho hd cs oo .nil) j (putP tk (p.drop (i + 1)) m)) [.ref p'] := by
        show Nodes _ (.cho hd (setMs cs ((cs.msgs ++ [oo]).set j (putP tk (p.drop (i + 1)) m))) (((cs.msgs ++ [oo]).set j (putP tk (p.drop (i + 1)) m)).getD cs.msgs.length .nil) .nil) _
        rw [ems, setMs_app uw.2.2.1 hml, List.getD_eq_getElem?_getD, List.getElem?_append_right (by rw [hml, (msgs_len uw.2.2.1).1]; exact Nat.le_refl _), hml, (msgs_len uw.2.2.1).1, Nat.sub_self]
        obtain ⟨avs, ha1, ha2⟩ := haz1.same s79
        refine ⟨p', [], D, tvs, az, avs, rfl, s89 _ _ hp', s89 _ _ hD', ?_, ha1, ha2, rfl⟩
        refine cases_set uw.2.2.1 ⟨hcs'.1, fun i' v' e' => ?_⟩ (a1.same s79) hml
        obtain ⟨q2, k2, f2, f3, f4, f5, f6⟩ := hcs'.2 i' v' e'
        exact ⟨q2, k2, f2, f3, f4, f5, s89 _ _ f6⟩
      have hsing : (setI (.cho hd cs oo .nil) j (putP tk (p.drop (i + 1)) m)).single := rfl
      refine Ns.nodes ?_
      rw [nodes_ch (fun u hu => ?_), show y.1.toNat = n by omega]
      · exact Ns.set hun' (hob2.ns.same (s07.trans s79))
      · rcases List.mem_or_eq_of_mem_set hu with h | h
        · exact nodes_single u h
        · rw [h]
          exact hsing
    | _ => cases uc
  · rintro σ H4 ⟨c, tk, o4, o5, o6, o7, o8, rfl, s4, htk, hat4⟩
    have e : p.length - (zs.map V.ref).reverse.length = 0 := by
      rw [List.length_reverse, List.length_map, hzlen]
      omega
    rw [e] at htk hat4
    rw [g2] at htk
    cases htk
    exact ⟨_, rfl, q1 c H4 hne ((s13.trans (same_new hrl _)).trans s4) hat4⟩
end
end Mw

/-! defs that are called where nothing is being shown: what they promise, and repr of data there -/
namespace Gg
open PySem PySem.Spec PyProof.Rows L2
structure FnG (P : Program) (w : World) (K : PySem.W.Frag) (mg : Str → Option Value) (base : Heap) (CX : CXT) (k : Nat) (f : Addr) (fd : FuncData) (ps : List Str) (sp : Sp) : Prop where
  len : ∀ vs H Q E, sp vs H Q E → vs.length = ps.length
  run : ∀ (A : Around) (outer : List Env) (s : Shared) (H : Hp) (args : Args) (us : List Value) (vs : List V) (Q : VK) (E : XK), A.guards = some [] → Room k A → Env0 P w K mg base A outer s H → BindsTo s fd args (ps.zip us) → Vals vs us → sp vs H Q E →
    codeAny (model P w) A (.call (.ref f) args) (CR CX outer P w H s Q E) s
theorem FnG.mono {P : Program} {w : World} {K : PySem.W.Frag} {mg : Str → Option Value} {base : Heap} {CX : CXT} {j k : Nat} {f : Addr} {fd : FuncData} {ps : List Str} {sp : Sp} (F : FnG P w K mg base CX j f fd ps sp) (h : j ≤ k) : FnG P w K mg base CX k f fd ps sp :=
  ⟨F.len, fun A outer s H args us vs Q E hg hr => F.run A outer s H args us vs Q E hg (hr.mono h)⟩
theorem FnG.imp {P : Program} {w : World} {K : PySem.W.Frag} {mg : Str → Option Value} {base : Heap} {CX : CXT} {k : Nat} {f : Addr} {fd : FuncData} {ps : List Str} {sp sp' : Sp} (F : FnG P w K mg base CX k f fd ps sp) (h : ∀ vs H Q E, sp' vs H Q E → sp vs H Q E) : FnG P w K mg base CX k f fd ps sp' :=
  ⟨fun vs H Q E q => F.len vs H Q E (h _ _ _ _ q), fun A outer s H args us vs Q E hg hr he hb hv hs => F.run A outer s H args us vs Q E hg hr he hb hv (h _ _ _ _ hs)⟩
section
variable {P : Program} {w : World} {K : PySem.W.Frag} {mg : Str → Option Value} {base : Heap}
/-- from a promise that asks nothing of the guards -/
theorem FnG.of {CX : CXT} {k : Nat} {f : Addr} {fd : FuncData} {ps : List Str} {sp : Sp} (F : FnOk P w K mg base CX k f fd ps sp) : FnG P w K mg base CX k f fd ps sp := ⟨F.len, fun A outer s H args us vs Q E _ => F.run A outer s H args us vs Q E⟩
theorem none_leftG {k : Nat} {f : Addr} {fd : FuncData} {ps : List Str} {sp : Sp} (no : ∀ vs H Q E, ¬ sp vs H Q E) : FnG P w K mg base CX0 k f fd ps sp :=
  ⟨fun vs H Q E h => absurd h (no _ _ _ _), fun _ _ _ _ _ _ _ _ _ _ _ _ _ _ h => absurd h (no _ _ _ _)⟩
/-- a def by its body, run where nothing is being shown -/
theorem okG {x qual : Str} {st : Stmt} {f : Addr} {fd : FuncData} {N ps : List Str} {k : Nat} {sp : Sp} (F : Fun K x qual st f fd) (S : FnScope N ps (defScope st)) (len : ∀ vs H Q E, sp vs H Q E → vs.length = ps.length)
    (body : ∀ (A : Around) (cdv : Value) (outer : List Env) (s : Shared) (H : Hp) (vs : List V) (Q : VK) (E : XK), A.guards = some [] → Room k (A.deeper (envOfC qual (defScope st) s.heap.objs.size f cdv)) → sp vs H Q E →
      ∃ t, PSs (cxOf CX0 P w K mg base N qual (defScope st) f cdv A outer s H E).nox (defBody st) t ∧ t { nx := fun _ H' => Q .non H', rt := Q } (start N vs) H) : FnG P w K mg base CX0 (k + 1) f fd ps sp := by
  obtain ⟨oc, od, kV, doc, pm, an, cdv, ct, osl, rfl, lk, hcd⟩ := F.ex
  refine ⟨len, fun A outer s H args us vs Q E gd hr e0 hb r hsp => ?_⟩
  have hl : vs.length = ps.length := len _ _ _ _ hsp
  have keepK : ∀ b o, base.get? b = some o → s.heap.get? b = some o := fun b o e => (e0.bs b o e).1
  have KX : K.In s.heap := e0.mod.kin.keeps keepK
  have lim : s.heap.NoLimit := e0.mod.nolimit.keeps keepK
  have kinds : ∀ y ∈ ps.zip us, (defScope st).names.lookup y.1 = some .local ∨ ((defScope st).names.lookup y.1 = some .cell ∧ ((cellsFrom (s.heap.objs.size + 1) (defScope st).names []).lookup y.1).isSome = true) := by
    rintro ⟨n, v⟩ hy
    rcases S.par n (List.of_mem_zip hy).1 with q | q
    · exact Or.inl q
    · exact Or.inr ⟨q, PySem.W.cellsFrom_some _ _ _ (Or.inl q)⟩
  refine codeAny_call_function hr.depth (KX _ _ lk) rfl S.co S.gen rfl (PySem.W.codeRec_of KX hcd) (hb _ _ _ _ ?_)
  refine wpAny_newFunctionEnv_cells S.kind kinds fun env he s1 x1 => ?_
  subst he
  refine ⟨lim.keeps x1.toInCall.keep, codeAny_func ?_⟩
  obtain ⟨t, ht, hq⟩ := body A cdv outer s H vs Q E gd (hr.deeper _) hsp
  have I := inv_start (CX := CX0) (E := E) S hr.hd e0 hl r x1
  refine wpAny_mono (ht.nox.run [] s1 (start N vs) H _ I hq) (fun fl s' hs => ?_) fun e s' hs => hs
  cases fl with
  | ret u =>
    obtain ⟨v, σ', H', J, rv, q⟩ := hs
    exact ⟨v, H', J.os, J.bare, J.base, J.hok, rv, q⟩
  | next =>
    obtain ⟨σ', H', J, q⟩ := hs
    exact ⟨V.non, H', J.os, J.bare, J.base, J.hok, rfl, q⟩
  | brk =>
    obtain ⟨_, _, _, q⟩ := hs
    exact q.elim
  | cont =>
    obtain ⟨_, _, _, q⟩ := hs
    exact q.elim
end
section
variable {X : Cx} {CX : CXT} {k : Nat} {f C : Addr} {fd : FuncData} {ps : List Str} {sp : Sp} {dvs : List V} {ds : List Value} {E : XK} {x : Str} {p pos : Pos} {e : Expr} {es : List Expr} {t : TA}
theorem run_fnG {pins : List (Addr × Obj)} {σ : L2.St} {H : Hp} {s : Shared} {Q : VK} {us : List Value} {vs : List V} (gd : X.A.guards = some []) (F : FnG X.prog X.w X.K X.mg X.base CX k f fd ps sp) (hr : Room k X.A) (hb : Binds X.K fd ps ds) (hd : Vals dvs ds) (hx : Passes CX X E)
    (I : Inv X pins σ H s) (r : Vals vs us) (h : sp (vs ++ dvs) H Q E) : wpAny (model X.prog X.w) X.A (call (.ref f) us) (EP X pins σ Q) X.xe s := by
  have r2 : Vals (vs ++ dvs) (us ++ ds) := r.append hd
  have hl : (us ++ ds).length = ps.length := r2.length.symm.trans (F.len _ _ _ _ h)
  refine wpAny_call (codeAny_mono (F.run X.A X.stack s H ⟨us, []⟩ (us ++ ds) (vs ++ dvs) Q E gd hr I.env0 (hb s us I.kIn hl) r2 h) fun r s' hq => ?_)
  match r, hq with
  | .error e, hq => exact hx pins σ H s e s' I hq
  | .ok (.ret u), hq => exact I.after hq
  | .ok .next, hq => exact False.elim hq
  | .ok .brk, hq => exact False.elim hq
  | .ok .cont, hq => exact False.elim hq
theorem pe_callG (gd : X.A.guards = some []) (F : FnG X.prog X.w X.K X.mg X.base CX k f fd ps sp) (hr : Room k X.A) (hg : Gl X x) (hm : X.mg x = some (.ref f)) (hk : PySem.W.keepIn X.K (.ref f) = true) (hb : Binds X.K fd ps ds) (hd : Vals dvs ds) (hx : Passes CX X E)
    (ha : PA X (e :: es) t) (hdb : (x == ("__debug__" : Str)) = false := by decide) (he : starEach (e :: es) X.env = (false, eval e X.env) :: starEach es X.env := by rfl) (hpl : (backTo pos (starEach es X.env)).any (·.1) = false := by rfl) :
    PE X (.Call (.Name x p) (e :: es) [] pos) (tCall sp dvs E t) := by
  refine ⟨fun pins s σ H Q I h => wpAny_Call_Name_kw (ld_glob I hg hm ?_ hdb)⟩
  refine PySem.W.callWith_K (h₀ := X.base) I.ok.mod.kin hk (thn (ha.run pos pins s σ H _ I h) fun us s1 ⟨vs, H1, I1, r, q⟩ => ⟨I1.kIn, run_fnG gd F hr hb hd hx I1 r q⟩) he hpl
end
/-- what repr shows whole -/
structure Sh (d : PyData) : Prop where
  sh : d.showable = true
  nd : d.hasDict = false
  dp : d.depth ≤ 150
  ln : d.shown.length ≤ 16000000
theorem call_repr {X : Cx} (hg : X.A.guards = some []) (hu : X.A.units + 160 < cLine) : CallR X (.builtin "repr") (fun xs H Q => ∃ v d, xs = [v] ∧ Dp X.K H v d ∧ Sh d ∧ Q (.str d.shown) H) := by
  intro pins s σ H xs us Q I r h
  obtain ⟨v, d, rfl, hd, ⟨h1, h2, h3, h4⟩, q⟩ := h
  obtain ⟨u, rfl, ru⟩ := vals1 r
  obtain ⟨as, rd⟩ := Dp.reads I _ _ _ hd ru
  have big : (16000000 : Nat) ≤ sizeLine := by decide
  have ref : ∀ a, u = .ref a → wpAny (model X.prog X.w) X.A (call (.builtin "repr") [u]) (EP X pins σ Q) X.xe s := by
    rintro a rfl
    refine repr_of_reads' rd h1 (PyData.noDict_hsm h2) hg ?_ (fun _ _ e => e) (fun h' u tk hk => ⟨.str _, H, I.kept (t' := tk) hk, ⟨_, rfl⟩, q⟩) (by omega)
    show X.A.units + (d.depth + 1) < cLine
    omega
  cases hd with
  | non =>
    cases ru
    exact PySem.P.repr_of_none ⟨.str _, H, I.tok _, ⟨_, rfl⟩, q⟩
  | bl b =>
    cases ru
    exact PySem.P.repr_of_bool ⟨.str _, H, I.tok _, ⟨_, rfl⟩, q⟩
  | int i =>
    obtain ⟨t, rfl⟩ := ru
    exact PySem.P.repr_of_int (of_decide_eq_true h1) ⟨.str _, H, I.tok _, ⟨_, rfl⟩, q⟩
  | str x =>
    obtain ⟨t, rfl⟩ := ru
    exact PySem.P.repr_of_str ⟨.str _, H, I.tok _, ⟨_, rfl⟩, q⟩ (Nat.le_trans h4 big)
  | lst a b => cases ru; exact ref _ rfl
  | tup a b => cases ru; exact ref _ rfl
end Gg

namespace Mw
open PySem L2
def T.dep : T → Nat
  | .nil => 0
  | .text _ r => r.dep
  | .shw _ r => r.dep
  | .num r => r.dep
  | .cho _ cs o r => max (max cs.dep o.dep + 1) r.dep
  | .cas _ m r => max m.dep r.dep
theorem dep_nodes : ∀ {t : T}, ∀ u ∈ t.nodes, u.dep ≤ t.dep
  | .nil, u, h => by cases h
  | .text s r, u, h => by
    rcases List.mem_cons.mp h with rfl | h
    · exact Nat.zero_le _
    · exact dep_nodes (t := r) u h
  | .shw s r, u, h => by
    rcases List.mem_cons.mp h with rfl | h
    · exact Nat.zero_le _
    · exact dep_nodes (t := r) u h
  | .num r, u, h => by
    rcases List.mem_cons.mp h with rfl | h
    · exact Nat.zero_le _
    · exact dep_nodes (t := r) u h
  | .cho hd cs o r, u, h => by
    rcases List.mem_cons.mp h with rfl | h
    · simp only [T.dep]
      omega
    · have := dep_nodes u h
      simp only [T.dep]
      omega
  | .cas k m r, u, h => by
    rcases List.mem_cons.mp h with rfl | h
    · simp only [T.dep]
      omega
    · have := dep_nodes u h
      simp only [T.dep]
      omega
theorem dep_msgs : ∀ {t : T}, ∀ m ∈ t.msgs, m.dep ≤ t.dep
  | .nil, u, h => by cases h
  | .text s r, u, h => by cases h
  | .shw s r, u, h => by cases h
  | .num r, u, h => by cases h
  | .cho hd cs o r, u, h => by cases h
  | .cas k m r, u, h => by
    rcases List.mem_cons.mp h with rfl | h
    · simp only [T.dep]
      omega
    · have := dep_msgs u h
      simp only [T.dep]
      omega
/-! ### a message as plain data: what == and repr look at -/
def vD : V → PyData
  | .str s => .str s
  | .int i => .int i
  | _ => .none
def dat : T → List PyData
  | .nil => []
  | .text s r => .tuple [.str "text", .str s] :: dat r
  | .shw n r => .tuple [.str "show", .str n] :: dat r
  | .num r => .tuple [.str "number"] :: dat r
  | .cho hd cs o r => .tuple (hd.map vD ++ [.list (dat cs), .list (dat o)]) :: dat r
  | .cas k m r => .tuple [vD k, .list (dat m)] :: dat r
/-- small leaves: texts of a few signs, small numbers -/
def VOk : V → Prop
  | .str s => PyData.strOk s = true ∧ (reprText s).length ≤ 12
  | .int i => 0 ≤ i ∧ i ≤ 999
  | _ => False
def SOk : T → Prop
  | .nil => True
  | .text s r => PyData.strOk s = true ∧ SOk r
  | .shw n r => VOk (.str n) ∧ SOk r
  | .num r => SOk r
  | .cho hd cs o r => (∀ v ∈ hd, VOk v) ∧ hd.length ≤ 3 ∧ SOk cs ∧ SOk o ∧ SOk r
  | .cas k m r => VOk k ∧ SOk m ∧ SOk r
theorem dp_flat {K : PySem.W.Frag} {H : Hp} {v : V} (h : VOk v) : Dp K H v (vD v) := by
  cases v with
  | str s => exact .str s
  | int i => exact .int i
  | _ => cases h
theorem dpa_app {K : PySem.W.Frag} {H : Hp} {ys : List V} {es : List PyData} (h' : DpAll K H ys es) : ∀ {xs : List V} {ds : List PyData}, DpAll K H xs ds → DpAll K H (xs ++ ys) (ds ++ es)
  | _, _, .nil => h'
  | _, _, .cons a b => .cons a (dpa_app h' b)
theorem dpa_flat {K : PySem.W.Frag} {H : Hp} : ∀ {hd : List V}, (∀ v ∈ hd, VOk v) → DpAll K H hd (hd.map vD)
  | [], _ => .nil
  | v :: r, h => .cons (dp_flat (h v (by simp))) (dpa_flat fun x hx => h x (List.mem_cons_of_mem _ hx))
theorem Nodes.dp {K : PySem.W.Frag} {H : Hp} : ∀ {t : T} {vs : List V}, Nodes H t vs → SOk t → DpAll K H vs (dat t)
  | .nil, _, h, _ => by rw [show _ = [] from h]; exact .nil
  | .text s r, _, h, w => by
    obtain ⟨p, ws, rfl, hp, hr⟩ := h
    exact .cons (.tup (.inl (.inl hp)) (.cons (.str _) (.cons (.str _) .nil))) (Nodes.dp hr w.2)
  | .shw n r, _, h, w => by
    obtain ⟨p, ws, rfl, hp, hr⟩ := h
    exact .cons (.tup (.inl (.inl hp)) (.cons (.str _) (.cons (.str _) .nil))) (Nodes.dp hr w.2)
  | .num r, _, h, w => by
    obtain ⟨p, ws, rfl, hp, hr⟩ := h
    exact .cons (.tup (.inl (.inl hp)) (.cons (.str _) .nil)) (Nodes.dp hr w)
  | .cho hd cs o r, _, h, w => by
    obtain ⟨p, ws, ca, cvs, oa, ovs, rfl, hp, hc, hcs, ho, hos, hr⟩ := h
    exact .cons (.tup (.inl (.inl hp)) (dpa_app (.cons (.lst (SqL.of hc) (Nodes.dp hcs w.2.2.1)) (.cons (.lst (SqL.of ho) (Nodes.dp hos w.2.2.2.1)) .nil)) (dpa_flat w.1))) (Nodes.dp hr w.2.2.2.2)
  | .cas k m r, _, h, w => by
    obtain ⟨p, ws, ma, mvs, rfl, hp, hm, hms, hr⟩ := h
    exact .cons (.tup (.inl (.inl hp)) (.cons (dp_flat w.1) (.cons (.lst (SqL.of hm) (Nodes.dp hms w.2.1)) .nil))) (Nodes.dp hr w.2.2)
theorem At.dp {K : PySem.W.Frag} {H : Hp} {a : Addr} {t : T} (h : At H a t) (w : SOk t) : Dp K H (.ref a) (.list (dat t)) := by
  obtain ⟨vs, h1, h2⟩ := h
  exact .lst (SqL.of h1) (h2.dp w)
theorem vd_ok {v : V} (h : VOk v) : (vD v).canLay0 = true ∧ (vD v).showable = true ∧ (vD v).hasDict = false ∧ (vD v).depth = 0 ∧ (vD v).shown.length ≤ 12 := by
  cases v with
  | str s =>
    exact ⟨h.1, rfl, rfl, rfl, h.2⟩
  | int i =>
    have hi : ∀ n : Fin 1000, (PyData.int ((n : Nat) : Int)).showable = true ∧ (PyData.int ((n : Nat) : Int)).shown.length ≤ 12 := by decide +kernel
    have hi : (PyData.int i).showable = true ∧ (PyData.int i).shown.length ≤ 12 := by
      have := hi ⟨i.toNat, by have := h.1; have := h.2; omega⟩
      rw [show ((i.toNat : Nat) : Int) = i by have := h.1; omega] at this
      exact this
    exact ⟨rfl, hi.1, rfl, rfl, hi.2⟩
  | _ => cases h
theorem hd_ok : ∀ {hd : List V}, (∀ v ∈ hd, VOk v) → PyData.canLayAll0 (hd.map vD) = true ∧ PyData.showableAll (hd.map vD) = true ∧ PyData.hasDictAll (hd.map vD) = false ∧ PyData.depthAll (hd.map vD) = 0
  | [], _ => ⟨rfl, rfl, rfl, rfl⟩
  | v :: r, h => by
    obtain ⟨a1, a2, a3, a4, _⟩ := vd_ok (h v (by simp))
    obtain ⟨b1, b2, b3, b4⟩ := hd_ok (hd := r) fun x hx => h x (List.mem_cons_of_mem _ hx)
    refine ⟨?_, ?_, ?_, ?_⟩
    · simp only [List.map_cons, PyData.canLayAll0, a1, b1, Bool.and_self]
    · simp only [List.map_cons, PyData.showableAll, a2, b2, Bool.and_self]
    · simp only [List.map_cons, PyData.hasDictAll, a3, b3, Bool.or_self]
    · simp only [List.map_cons, PyData.depthAll, a4, b4, Nat.max_self]
theorem cl_app : ∀ (xs ys : List PyData), PyData.canLayAll0 (xs ++ ys) = (PyData.canLayAll0 xs && PyData.canLayAll0 ys)
  | [], _ => rfl
  | x :: xs, ys => by simp only [List.cons_append, PyData.canLayAll0, cl_app xs ys, Bool.and_assoc]
theorem sh_app : ∀ (xs ys : List PyData), PyData.showableAll (xs ++ ys) = (PyData.showableAll xs && PyData.showableAll ys)
  | [], _ => rfl
  | x :: xs, ys => by simp only [List.cons_append, PyData.showableAll, sh_app xs ys, Bool.and_assoc]
theorem hs_app : ∀ (xs ys : List PyData), PyData.hasDictAll (xs ++ ys) = (PyData.hasDictAll xs || PyData.hasDictAll ys)
  | [], _ => rfl
  | x :: xs, ys => by simp only [List.cons_append, PyData.hasDictAll, hs_app xs ys, Bool.or_assoc]
theorem dp_app : ∀ (xs ys : List PyData), PyData.depthAll (xs ++ ys) = max (PyData.depthAll xs) (PyData.depthAll ys)
  | [], _ => by simp [PyData.depthAll]
  | x :: xs, ys => by simp only [List.cons_append, PyData.depthAll, dp_app xs ys, Nat.max_assoc]
theorem sa_app : ∀ (xs ys : List PyData), PyData.shownAll (xs ++ ys) = PyData.shownAll xs ++ PyData.shownAll ys
  | [], _ => rfl
  | x :: xs, ys => by simp only [List.cons_append, PyData.shownAll, sa_app xs ys]
theorem dat_ok : ∀ {t : T}, SOk t → PyData.canLayAll0 (dat t) = true ∧ PyData.showableAll (dat t) = true ∧ PyData.hasDictAll (dat t) = false
  | .nil, _ => ⟨rfl, rfl, rfl⟩
  | .text s r, w => by
    obtain ⟨a1, a2, a3⟩ := dat_ok w.2
    have h : PyData.strOk ("text" : Str) = true := by decide +kernel
    refine ⟨?_, ?_, ?_⟩
    · simp only [dat, PyData.canLayAll0, PyData.canLay0, h, w.1, a1, Bool.and_self]
    · simp only [dat, PyData.showableAll, PyData.showable, a2, Bool.and_self]
    · simp only [dat, PyData.hasDictAll, PyData.hasDict, a3, Bool.or_self]
  | .shw n r, w => by
    obtain ⟨a1, a2, a3⟩ := dat_ok w.2
    have h : PyData.strOk ("show" : Str) = true := by decide +kernel
    have h2 : PyData.strOk n = true := w.1.1
    refine ⟨?_, ?_, ?_⟩
    · simp only [dat, PyData.canLayAll0, PyData.canLay0, h, h2, a1, Bool.and_self]
    · simp only [dat, PyData.showableAll, PyData.showable, a2, Bool.and_self]
    · simp only [dat, PyData.hasDictAll, PyData.hasDict, a3, Bool.or_self]
  | .num r, w => by
    obtain ⟨a1, a2, a3⟩ := dat_ok (t := r) w
    have h : PyData.strOk ("number" : Str) = true := by decide +kernel
    refine ⟨?_, ?_, ?_⟩
    · simp only [dat, PyData.canLayAll0, PyData.canLay0, h, a1, Bool.and_self]
    · simp only [dat, PyData.showableAll, PyData.showable, a2, Bool.and_self]
    · simp only [dat, PyData.hasDictAll, PyData.hasDict, a3, Bool.or_self]
  | .cho hd cs o r, w => by
    obtain ⟨a1, a2, a3⟩ := dat_ok w.2.2.2.2
    obtain ⟨b1, b2, b3⟩ := dat_ok w.2.2.1
    obtain ⟨c1, c2, c3⟩ := dat_ok w.2.2.2.1
    obtain ⟨d1, d2, d3, _⟩ := hd_ok w.1
    refine ⟨?_, ?_, ?_⟩
    · simp only [dat, PyData.canLayAll0, PyData.canLay0, cl_app, a1, b1, c1, d1, Bool.and_self]
    · simp only [dat, PyData.showableAll, PyData.showable, sh_app, a2, b2, c2, d2, Bool.and_self]
    · simp only [dat, PyData.hasDictAll, PyData.hasDict, hs_app, a3, b3, c3, d3, Bool.or_self]
  | .cas k m r, w => by
    obtain ⟨a1, a2, a3⟩ := dat_ok w.2.2
    obtain ⟨b1, b2, b3⟩ := dat_ok w.2.1
    obtain ⟨d1, d2, d3, _⟩ := vd_ok w.1
    refine ⟨?_, ?_, ?_⟩
    · simp only [dat, PyData.canLayAll0, PyData.canLay0, a1, b1, d1, Bool.and_self]
    · simp only [dat, PyData.showableAll, PyData.showable, a2, b2, d2, Bool.and_self]
    · simp only [dat, PyData.hasDictAll, PyData.hasDict, a3, b3, d3, Bool.or_self]
theorem dat_depth : ∀ {t : T} {c : Bool}, Wf t c → SOk t → PyData.depthAll (dat t) ≤ 4 * t.dep + (if c then 3 else 1)
  | .nil, c, _, _ => Nat.zero_le _
  | .text s r, c, w, s' => by
    have hc := w.1
    subst hc
    have h := dat_depth w.2 s'.2
    simp only [dat, PyData.depthAll, PyData.depth, T.dep, Bool.false_eq_true, if_false] at h ⊢
    omega
  | .shw n r, c, w, s' => by
    have hc := w.1
    subst hc
    have h := dat_depth w.2 s'.2
    simp only [dat, PyData.depthAll, PyData.depth, T.dep, Bool.false_eq_true, if_false] at h ⊢
    omega
  | .num r, c, w, s' => by
    have hc := w.1
    subst hc
    have h := dat_depth w.2 (show SOk r from s')
    simp only [dat, PyData.depthAll, PyData.depth, T.dep, Bool.false_eq_true, if_false] at h ⊢
    omega
  | .cho hd cs o r, c, w, s' => by
    have hc := w.1
    subst hc
    have h1 := dat_depth w.2.2.1 s'.2.2.1
    have h2 := dat_depth w.2.2.2.1 s'.2.2.2.1
    have h3 := dat_depth w.2.2.2.2 s'.2.2.2.2
    obtain ⟨_, _, _, h4⟩ := hd_ok s'.1
    simp only [dat, PyData.depthAll, PyData.depth, T.dep, dp_app, h4]
    simp only [if_true, Bool.false_eq_true, if_false] at h1 h2 h3 ⊢
    omega
  | .cas k m r, c, w, s' => by
    have h1 := dat_depth w.2.2.1 s'.2.1
    have h3 := dat_depth w.2.2.2 s'.2.2
    obtain ⟨_, _, _, h4, _⟩ := vd_ok s'.1
    have hc := w.1
    subst hc
    simp only [dat, PyData.depthAll, PyData.depth, T.dep, h4]
    simp only [if_true, Bool.false_eq_true, if_false] at h1 h3 ⊢
    omega
/-! ### how long repr is -/
def slen (ts : List Str) : Nat := (ts.map fun t => t.length + 2).sum
theorem from_len : ∀ (ts : List Str) (k : Nat) (acc : Str), (textFrom k acc ts).length ≤ acc.length + slen ts
  | [], _, acc => Nat.le_refl _
  | t :: r, k, acc => by
    have h := from_len r (k + 1) (acc ++ (if k > 0 then ", " else "" : String) ++ t)
    rw [str_len, str_len] at h
    have e : (Str.ofString (if k > 0 then ", " else "" : String)).length ≤ 2 := by
      split <;> decide +kernel
    show (textFrom (k + 1) (acc ++ (if k > 0 then ", " else "" : String) ++ t) r).length ≤ acc.length + (t.length + 2 + slen r)
    omega
theorem list_len (ts : List Str) : (listText ts).length ≤ slen ts + 2 := by
  have h := from_len ts 0 ("[" : Str)
  have e1 : ("[" : Str).length = 1 := by decide +kernel
  have e2 : ("]" : Str).length = 1 := by decide +kernel
  show (textFrom 0 ("[" : Str) ts ++ ("]" : Str)).length ≤ _
  rw [str_len]
  omega
theorem sum_two : ∀ ts : List Str, (ts.map (·.length)).sum + ts.length * 2 = slen ts
  | [] => rfl
  | t :: r => by
    have := sum_two r
    show t.length + (r.map (·.length)).sum + (r.length + 1) * 2 = t.length + 2 + slen r
    omega
theorem tup_len (ts : List Str) : (tupleText ts).length ≤ slen ts + 3 := by
  have h := StrLaws.join_length_le (", " : Str) ts
  have e0 : (", " : Str).length = 2 := by decide +kernel
  have e1 : ("(" : Str).length = 1 := by decide +kernel
  have e2 : (Str.ofString (if ts.length == 1 then ",)" else ")" : String)).length ≤ 2 := by
    split <;> decide +kernel
  rw [e0, sum_two] at h
  show (("(" : Str) ++ Str.join (", " : Str) ts ++ Str.ofString (if ts.length == 1 then ",)" else ")" : String)).length ≤ _
  rw [str_len, str_len]
  omega
theorem slen_app (xs ys : List Str) : slen (xs ++ ys) = slen xs + slen ys := by
  unfold slen
  rw [List.map_append, List.sum_append]
theorem hd_len : ∀ {hd : List V}, (∀ v ∈ hd, VOk v) → slen (PyData.shownAll (hd.map vD)) ≤ 14 * hd.length
  | [], _ => Nat.le_refl _
  | v :: r, h => by
    have h1 := hd_len (hd := r) fun x hx => h x (List.mem_cons_of_mem _ hx)
    obtain ⟨_, _, _, _, h2⟩ := vd_ok (h v (by simp))
    show (vD v).shown.length + 2 + slen (PyData.shownAll (r.map vD)) ≤ 14 * (r.length + 1)
    omega
end Mw

namespace Mw
open PySem L2
theorem txt_len {s : Str} (h : PyData.strOk s = true) : (reprText s).length ≤ 10 * s.length + 2 :=
  PySem.StrLaws.reprText_len s fun c hc => by
    unfold PyData.strOk at h
    rw [Array.all_eq_true'] at h
    have := of_decide_eq_true (h c (by simpa using hc))
    omega
theorem slen_cons (t : Str) (r : List Str) : slen (t :: r) = t.length + 2 + slen r := rfl
theorem slen_nil : slen [] = 0 := rfl
theorem dat_len : ∀ {t : T}, SOk t → slen (PyData.shownAll (dat t)) ≤ 60 * t.sz
  | .nil, _ => Nat.le_refl _
  | .text s r, w => by
    have h := dat_len w.2
    have h1 := txt_len w.1
    have h2 : (reprText ("text" : Str)).length ≤ 10 := by decide +kernel
    have h3 := tup_len [reprText ("text" : Str), reprText s]
    simp only [dat, PyData.shownAll, slen_cons, slen_nil, PyData.shown, T.sz] at h3 ⊢
    omega
  | .shw n r, w => by
    have h := dat_len w.2
    have h1 : (reprText n).length ≤ 12 := w.1.2
    have h2 : (reprText ("show" : Str)).length ≤ 10 := by decide +kernel
    have h3 := tup_len [reprText ("show" : Str), reprText n]
    simp only [dat, PyData.shownAll, slen_cons, slen_nil, PyData.shown, T.sz] at h3 ⊢
    omega
  | .num r, w => by
    have h := dat_len (t := r) w
    have h2 : (reprText ("number" : Str)).length ≤ 10 := by decide +kernel
    have h3 := tup_len [reprText ("number" : Str)]
    simp only [dat, PyData.shownAll, slen_cons, slen_nil, PyData.shown, T.sz] at h3 ⊢
    omega
  | .cho hd cs o r, w => by
    have h := dat_len w.2.2.2.2
    have h1 := dat_len w.2.2.1
    have h2 := dat_len w.2.2.2.1
    have h0 := hd_len w.1
    have hl := w.2.1
    have a1 := list_len (PyData.shownAll (dat cs))
    have a2 := list_len (PyData.shownAll (dat o))
    have h3 := tup_len (PyData.shownAll (hd.map vD) ++ [listText (PyData.shownAll (dat cs)), listText (PyData.shownAll (dat o))])
    simp only [dat, PyData.shownAll, slen_cons, slen_nil, PyData.shown, T.sz, sa_app, slen_app] at h3 ⊢
    omega
  | .cas k m r, w => by
    have h := dat_len w.2.2
    have h1 := dat_len w.2.1
    obtain ⟨_, _, _, _, h0⟩ := vd_ok w.1
    have a1 := list_len (PyData.shownAll (dat m))
    have h3 := tup_len [(vD k).shown, listText (PyData.shownAll (dat m))]
    simp only [dat, PyData.shownAll, slen_cons, slen_nil, PyData.shown, T.sz] at h3 ⊢
    omega
theorem menu_ok {s : Str} (h : s ∈ menu) : PyData.strOk s = true := by
  have a : ∀ s ∈ menu, PyData.strOk s = true := by decide +kernel
  exact a s h
theorem keys_ok : (∀ v ∈ skeys, VOk v ∧ KeyW v ∧ v ∈ KU ∧ v ≠ .str "other") ∧ ∀ v ∈ pkeys, VOk v ∧ KeyW v ∧ v ∈ KU ∧ v ≠ .str "other" := by
  have s : ∀ x : Str, x ∈ (["he", "she", "one", "few", "many"] : List Str) → VOk (.str x) ∧ KeyW (.str x) ∧ V.str x ∈ KU ∧ V.str x ≠ .str "other" := by
    intro x hx
    refine ⟨?_, .inl ⟨_, rfl⟩, ?_, fun e => ?_⟩
    · have a : ∀ x ∈ (["he", "she", "one", "few", "many"] : List Str), PyData.strOk x = true ∧ (reprText x).length ≤ 12 := by decide +kernel
      exact a x hx
    · simp only [List.mem_cons, List.not_mem_nil, or_false] at hx
      rcases hx with rfl | rfl | rfl | rfl | rfl <;> simp [KU]
    · have a : ∀ x ∈ (["he", "she", "one", "few", "many"] : List Str), x ≠ "other" := by decide +kernel
      exact a x hx (str_eq e)
  have n : ∀ i : Int, i = 0 ∨ i = 1 ∨ i = 3 → VOk (.int i) ∧ KeyW (.int i) ∧ V.int i ∈ KU ∧ V.int i ≠ .str "other" := by
    rintro i (rfl | rfl | rfl) <;> exact ⟨⟨by decide, by decide⟩, .inr ⟨_, rfl⟩, by simp [KU], by intro z; cases z⟩
  constructor
  · intro v hv
    simp only [skeys, wordsL, List.map_cons, List.map_nil, List.mem_cons, List.not_mem_nil, or_false] at hv
    rcases hv with rfl | rfl <;> exact s _ (by simp)
  · intro v hv
    simp only [pkeys, List.mem_cons, List.not_mem_nil, or_false] at hv
    rcases hv with rfl | rfl | rfl | rfl | rfl | rfl
    · exact n 0 (by simp)
    · exact n 1 (by simp)
    · exact n 3 (by simp)
    · exact s _ (by simp)
    · exact s _ (by simp)
    · exact s _ (by simp)
theorem nodup_s : skeys.Nodup ∧ pkeys.Nodup := by
  constructor <;> simp [skeys, wordsL, pkeys] <;> decide
theorem hdok_all {hd ks : List V} {i j : Bool} (h : HdOk hd i j ks) : HdW hd ∧ (∀ v ∈ hd, VOk v) ∧ hd.length ≤ 3 ∧ (∀ v ∈ ks, VOk v ∧ KeyW v ∧ v ∈ KU ∧ v ≠ .str "other") ∧ ks.Nodup := by
  have w : ∀ x : Str, x ∈ (["select", "w", "plural", "m", "n"] : List Str) → VOk (.str x) := by
    intro x hx
    have a : ∀ x ∈ (["select", "w", "plural", "m", "n"] : List Str), PyData.strOk x = true ∧ (reprText x).length ≤ 12 := by decide +kernel
    exact a x hx
  cases h with
  | sel hk =>
    refine ⟨.inl ⟨_, rfl⟩, fun v hv => ?_, by simp, fun v hv => keys_ok.1 v (hk.subset hv), nodup_s.1.sublist hk⟩
    simp only [List.mem_cons, List.not_mem_nil, or_false] at hv
    rcases hv with rfl | rfl <;> exact w _ (by simp)
  | plu hn ho hk =>
    refine ⟨.inr ⟨_, _, rfl⟩, fun v hv => ?_, by simp, fun v hv => keys_ok.2 v (hk.subset hv), nodup_s.2.sublist hk⟩
    simp only [List.mem_cons, List.not_mem_nil, or_false] at hv
    rcases hv with rfl | rfl | rfl
    · exact w _ (by simp)
    · simp only [numsL, List.mem_cons, List.not_mem_nil, or_false] at hn
      rcases hn with rfl | rfl <;> exact w _ (by simp)
    · rcases ho with rfl | rfl | rfl <;> exact ⟨by decide, by decide⟩
theorem Gd.all : ∀ {t : T} {c : Bool} {d : Nat} {i : Bool}, Gd t c d i → (c = true → ∀ v ∈ t.keys, VOk v ∧ KeyW v) → Wf t c ∧ SOk t ∧ t.dep ≤ d ∧ Kd t
  | .nil, _, _, _, _, _ => ⟨trivial, trivial, Nat.zero_le _, trivial⟩
  | .text s r, c, d, i, h, k => by
    obtain ⟨a, b, e, f⟩ := Gd.all (t := r) h.2.2 fun hc => by
      rw [h.1] at hc
      cases hc
    exact ⟨⟨h.1, a⟩, ⟨menu_ok h.2.1, b⟩, e, f⟩
  | .shw n r, c, d, i, h, k => by
    obtain ⟨a, b, e, f⟩ := Gd.all (t := r) h.2.2 fun hc => by
      rw [h.1] at hc
      cases hc
    have w : ∀ x ∈ shows3, PyData.strOk x = true ∧ (reprText x).length ≤ 12 := by decide +kernel
    exact ⟨⟨h.1, a⟩, ⟨w n h.2.1, b⟩, e, f⟩
  | .num r, c, d, i, h, k => by
    obtain ⟨a, b, e, f⟩ := Gd.all (t := r) h.2.2 fun hc => by
      rw [h.1] at hc
      cases hc
    exact ⟨⟨h.1, a⟩, b, e, f⟩
  | .cho hd cs o r, c, d, i, h, k => by
    obtain ⟨h1, ⟨e', j, he, hh, g1, g2⟩, h3⟩ := h
    obtain ⟨w1, w2, w3, w4, w5⟩ := hdok_all hh
    obtain ⟨a, b, e, f⟩ := Gd.all (t := r) h3 fun hc => by
      rw [h1] at hc
      cases hc
    obtain ⟨a1, b1, e1, f1⟩ := Gd.all g1 fun _ v hv => ⟨(w4 v hv).1, (w4 v hv).2.1⟩
    obtain ⟨a2, b2, e2, f2⟩ := Gd.all g2 fun hc => by cases hc
    refine ⟨⟨h1, w1, a1, a2, a⟩, ⟨w2, w3, b1, b2, b⟩, ?_, ⟨fun x hx => ⟨(w4 x hx).2.2.1, (w4 x hx).2.2.2⟩, w5, f1, f2, f⟩⟩
    simp only [T.dep]
    omega
  | .cas kk m r, c, d, i, h, k => by
    obtain ⟨a, b, e, f⟩ := Gd.all (t := r) h.2.2 fun hc v hv => k hc v (List.mem_cons_of_mem _ hv)
    obtain ⟨a1, b1, e1, f1⟩ := Gd.all h.2.1 fun hc => by cases hc
    have kk' := k h.1 kk (by simp [T.keys])
    refine ⟨⟨h.1, kk'.2, a1, a⟩, ⟨kk'.1, b1, b⟩, ?_, f1, f⟩
    simp only [T.dep]
    omega
end Mw

namespace Mw
open PySem L2 Gg
/-! ### data that repr shows -/
theorem sh_msg {t : T} (hs : SOk t) (hw : Wf t false) (hd : t.dep ≤ 30) (hz : t.sz ≤ 100000) : Sh (.list (dat t)) := by
  obtain ⟨_, h2, h3⟩ := dat_ok hs
  have h4 := dat_depth hw hs
  simp only [Bool.false_eq_true, if_false] at h4
  have h5 := dat_len hs
  have h6 := list_len (PyData.shownAll (dat t))
  exact ⟨h2, h3, show PyData.depthAll (dat t) + 1 ≤ 150 by omega, show (listText (PyData.shownAll (dat t))).length ≤ _ by omega⟩
theorem sh_one {t : T} (hs : SOk t) (hw : Wf t false) (hd : t.dep ≤ 30) (hz : t.sz ≤ 100000) : Sh (.list [.list (dat t)]) := by
  obtain ⟨_, h2, h3⟩ := dat_ok hs
  have h4 := dat_depth hw hs
  simp only [Bool.false_eq_true, if_false] at h4
  have h5 := dat_len hs
  have h6 := list_len (PyData.shownAll (dat t))
  have h7 := list_len [listText (PyData.shownAll (dat t))]
  refine ⟨?_, ?_, ?_, ?_⟩
  · show (PyData.showableAll (dat t) && true) = true
    rw [h2]
    rfl
  · show (PyData.hasDictAll (dat t) || false) = false
    rw [h3]
    rfl
  · show max (PyData.depthAll (dat t) + 1) 0 + 1 ≤ 150
    omega
  · show (listText [listText (PyData.shownAll (dat t))]).length ≤ _
    rw [slen_cons, slen_nil] at h7
    omega
theorem sh_nil : Sh (.list []) := ⟨rfl, rfl, by decide, by decide +kernel⟩
def pd (p : Pth) : PyData := .tuple (p.map fun x => .tuple [.int x.1, vD x.2])
theorem ku_vok {k : V} (h : k ∈ KU) : VOk k := by
  have a : ∀ x ∈ (["one", "few", "many", "he", "she", "other", "it"] : List Str), PyData.strOk x = true ∧ (reprText x).length ≤ 12 := by decide +kernel
  simp only [KU, List.mem_cons, List.not_mem_nil, or_false] at h
  rcases h with rfl | rfl | rfl | rfl | rfl | rfl | rfl | rfl | rfl | rfl | rfl <;> first | exact ⟨by decide, by decide⟩ | exact a _ (by simp)
theorem sh_key {k : V} (h : k ∈ KU) : Sh (vD k) := by
  obtain ⟨_, h2, h3, h4, h5⟩ := vd_ok (ku_vok h)
  exact ⟨h2, h3, by omega, by omega⟩
/-- what tells keys apart -/
theorem ku_shown {a b : V} (ha : a ∈ KU) (hb : b ∈ KU) : decide (V.str (vD a).shown = V.str (vD b).shown) = decide (a = b) := by
  have key : ∀ a ∈ KU, ∀ b ∈ KU, a ≠ b → (vD a).shown ≠ (vD b).shown := by
    intro a ha b hb
    simp only [KU, List.mem_cons, List.not_mem_nil, or_false] at ha hb
    rcases ha with rfl | rfl | rfl | rfl | rfl | rfl | rfl | rfl | rfl | rfl | rfl <;> rcases hb with rfl | rfl | rfl | rfl | rfl | rfl | rfl | rfl | rfl | rfl | rfl <;>
      first | (intro h; exact absurd rfl h) | (intro _; simp only [vD]; decide +kernel)
  by_cases e : a = b
  · subst e
    rw [decide_eq_true rfl, decide_eq_true rfl]
  · rw [decide_eq_false e, decide_eq_false fun z => key a ha b hb e (str_eq z)]
theorem slen_le {ts : List Str} {n : Nat} (h : ∀ t ∈ ts, t.length ≤ n) : slen ts ≤ ts.length * (n + 2) := by
  induction ts with
  | nil => exact Nat.zero_le _
  | cons t ts ih =>
    rw [slen_cons, List.length_cons, Nat.add_mul, Nat.one_mul]
    have h1 := h t (by simp)
    have h2 := ih fun x hx => h x (List.mem_cons_of_mem _ hx)
    omega
theorem sh_path0 {p : Pth} (ok : PthOk p) : (pd p).showable = true ∧ (pd p).hasDict = false ∧ (pd p).depth ≤ 3 ∧ (pd p).shown.length ≤ 9000 := by
  have one : ∀ x ∈ p, (PyData.tuple [.int x.1, vD x.2]).showable = true ∧ (PyData.tuple [.int x.1, vD x.2]).hasDict = false ∧ (PyData.tuple [.int x.1, vD x.2]).depth ≤ 2 ∧ (PyData.tuple [.int x.1, vD x.2]).shown.length ≤ 200 := by
    intro x hx
    obtain ⟨⟨b1, b2⟩, b3⟩ := ok.2 x hx
    obtain ⟨_, h2, h3, h4, h5⟩ := vd_ok (ku_vok b3)
    obtain ⟨c1, c2⟩ := int_small b1 b2
    refine ⟨?_, ?_, ?_, ?_⟩
    · show (decide (x.1.natAbs.log2 < 1920) && ((vD x.2).showable && true)) = true
      rw [decide_eq_true c1, h2]
      rfl
    · show (false || ((vD x.2).hasDict || false)) = false
      rw [h3]
      rfl
    · show max 0 (max (vD x.2).depth 0) + 1 ≤ 2
      rw [h4]
      decide
    · have h6 := tup_len [(toString x.1 : Str), (vD x.2).shown]
      rw [slen_cons, slen_cons, slen_nil] at h6
      show (tupleText [(toString x.1 : Str), (vD x.2).shown]).length ≤ 200
      omega
  have all : ∀ q : Pth, (∀ x ∈ q, x ∈ p) → PyData.showableAll (q.map fun x => .tuple [.int x.1, vD x.2]) = true ∧ PyData.hasDictAll (q.map fun x => .tuple [.int x.1, vD x.2]) = false ∧ PyData.depthAll (q.map fun x => .tuple [.int x.1, vD x.2]) ≤ 2 ∧
      slen (PyData.shownAll (q.map fun x => .tuple [.int x.1, vD x.2])) ≤ q.length * 202 := by
    intro q
    induction q with
    | nil => intro _; exact ⟨rfl, rfl, by decide, Nat.zero_le _⟩
    | cons x q ih =>
      intro h
      obtain ⟨a1, a2, a3, a4⟩ := one x (h x (by simp))
      obtain ⟨b1, b2, b3, b4⟩ := ih fun y hy => h y (List.mem_cons_of_mem _ hy)
      refine ⟨?_, ?_, ?_, ?_⟩
      · simp only [List.map_cons, PyData.showableAll, a1, b1, Bool.and_self]
      · simp only [List.map_cons, PyData.hasDictAll, a2, b2, Bool.or_self]
      · simp only [List.map_cons, PyData.depthAll]
        omega
      · simp only [List.map_cons, PyData.shownAll, slen_cons, List.length_cons]
        omega
  obtain ⟨a1, a2, a3, a4⟩ := all p fun x hx => hx
  have hl := ok.1
  have h6 := tup_len (PyData.shownAll (p.map fun x => .tuple [.int x.1, vD x.2]))
  refine ⟨a1, a2, show PyData.depthAll _ + 1 ≤ 3 by omega, show (tupleText (PyData.shownAll (p.map fun x => .tuple [.int x.1, vD x.2]))).length ≤ _ by omega⟩
theorem sh_path {p : Pth} (ok : PthOk p) : Sh (pd p) := by
  obtain ⟨a1, a2, a3, a4⟩ := sh_path0 ok
  exact ⟨a1, a2, by omega, by omega⟩
theorem key_dp {K : PySem.W.Frag} {H : Hp} {k : V} (h : k ∈ KU) : Dp K H k (vD k) := dp_flat (ku_vok h)
theorem Sts.dp {K : PySem.W.Frag} {H : Hp} : ∀ {p : Pth} {vs : List V}, Sts H p vs → (∀ x ∈ p, x.2 ∈ KU) → DpAll K H vs (p.map fun x => .tuple [.int x.1, vD x.2])
  | [], _, h, _ => by rw [show _ = [] from h]; exact .nil
  | x :: p, _, h, ok => by
    obtain ⟨q, ws, rfl, h1, h2⟩ := h
    exact .cons (.tup (.inl (.inl h1)) (.cons (.int _) (.cons (key_dp (ok x (by simp))) .nil))) (Sts.dp h2 fun y hy => ok y (List.mem_cons_of_mem _ hy))
theorem PthAt.dp {K : PySem.W.Frag} {H : Hp} {p : Pth} {v : V} (h : PthAt K H p v) (ok : PthOk p) : Dp K H v (pd p) := by
  obtain ⟨a, vs, rfl, h1, h2⟩ := h
  exact .tup h1 (h2.dp fun x hx => (ok.2 x hx).2)
section
variable {P : Program} {w : World} {K : PySem.W.Frag} {mg : Str → Option Value} {base : Heap}
abbrev sSame : Stmt := top 25
theorem scSame : FnScope ["one", "other"] ["one", "other"] (defScope sSame) := ⟨rfl, rfl, rfl, by decide +kernel, rfl, by decide +kernel, by decide +kernel⟩
def spSame (K : PySem.W.Frag) : Sp := fun vs H Q _ => ∃ (v1 v2 : V) (d1 d2 : PyData), vs = [v1, v2] ∧ Dp K H v1 d1 ∧ Dp K H v2 d2 ∧ Sh d1 ∧ Sh d2 ∧ Q (.bl (decide (V.str d1.shown = V.str d2.shown))) H
theorem ok_same {f : Addr} {fd : FuncData} (F : Fun K "_law_same" "_law_same" sSame f fd) (mRepr : mg "repr" = none) : FnG P w K mg base CX0 1 f fd ["one", "other"] (spSame K) := by
  refine okG F scSame (fun vs H Q E h => ?_) (fun A cdv outer s H vs Q E gd hr h => ?_)
  · obtain ⟨v1, v2, d1, d2, rfl, _⟩ := h
    rfl
  obtain ⟨v1, v2, d1, d2, rfl, h1, h2, s1, s2, q⟩ := h
  have hu : (A.deeper (PyProof.Rows.envOfC "_law_same" (defScope sSame) s.heap.objs.size f cdv)).units + 160 < cLine := by
    have := hr.un
    omega
  refine ⟨_, (pss_one (ps_ret (pe_cmpR op_eq (pe_callB (Gg.call_repr gd hu) (by rfl) mRepr (by decide +kernel) (pa_cons (pv 0) pa_nil)) (pe_callB (Gg.call_repr gd hu) (by rfl) mRepr (by decide +kernel) (pa_cons (pv 1) pa_nil)) (nomark _)))), ?_⟩
  exact ⟨_, rfl, _, _, rfl, h1, s1, _, rfl, _, _, rfl, h2, s2, rfl, q⟩
end
end Mw

namespace Mw
open PySem L2 Gg
/-- all but lists stays -/
def Tk (H H' : Hp) : Prop := ∀ b o, H b = some o → (∀ xs, o ≠ .lst xs) → H' b = some o
theorem Tk.same {H H' : Hp} (s : Same H H') : Tk H H' := fun b o h _ => s b o h
theorem Tk.trans {H H1 H2 : Hp} (a : Tk H H1) (b : Tk H1 H2) : Tk H H2 := fun c o h n => b c o (a c o h n) n
theorem Tk.mut {H : Hp} {l : Addr} {xs : List V} (h : H l = some (.lst xs)) (o : HO) : Tk H (upd H l o) := fun b u e n => by
  rw [upd_ne (by rintro rfl; rw [h] at e; cases e; exact n _ rfl)]
  exact e
theorem Tk.go {B d : Addr} {H H' : Hp} (hb : Box H B d) (g : Go B H H') : Tk H H' := fun b o e n => g.ext b o (by
  rintro rfl
  obtain ⟨ds, i, h, _⟩ := hb
  rw [h] at e
  cases e
  exact n _ rfl) e
theorem Sts.tk {H H' : Hp} (s : Tk H H') : ∀ {p : Pth} {vs : List V}, Sts H p vs → Sts H' p vs
  | [], _, h => h
  | x :: p, _, h => by
    obtain ⟨q, ws, rfl, h1, h2⟩ := h
    exact ⟨q, ws, rfl, s _ _ h1 (by intro xs z; cases z), Sts.tk s h2⟩
theorem PthAt.tk {K : PySem.W.Frag} {H H' : Hp} {p : Pth} {v : V} (s : Tk H H') (h : PthAt K H p v) : PthAt K H' p v := by
  obtain ⟨a, vs, rfl, h1, h2⟩ := h
  exact ⟨a, vs, rfl, h1.elim (fun h1 => .inl (h1.elim (fun h1 => .inl (s _ _ h1 (by intro xs z; cases z))) fun ⟨o, h1⟩ => .inr ⟨o, s _ _ h1 (by intro xs z; cases z)⟩)) .inr, h2.tk s⟩
/-- a path of a case -/
def PthB (n : Nat) (p : Pth) : Prop := 1 ≤ p.length ∧ p.length ≤ n ∧ ∀ x ∈ p, (0 ≤ x.1 ∧ x.1 ≤ 6000) ∧ x.2 ∈ KU
def PsAt (K : PySem.W.Frag) (n : Nat) (H : Hp) (ps : List V) : Prop := ∀ v ∈ ps, ∃ p, PthAt K H p v ∧ PthB n p
theorem PsAt.tk {K : PySem.W.Frag} {n : Nat} {H H' : Hp} {ps : List V} (s : Tk H H') (h : PsAt K n H ps) : PsAt K n H' ps := fun v hv => by
  obtain ⟨p, h1, h2⟩ := h v hv
  exact ⟨p, h1.tk s, h2⟩
theorem PsAt.snoc {K : PySem.W.Frag} {n : Nat} {H : Hp} {ps : List V} {v : V} {p : Pth} (h : PsAt K n H ps) (h1 : PthAt K H p v) (h2 : PthB n p) : PsAt K n H (ps ++ [v]) := fun x hx => by
  rcases List.mem_append.mp hx with hx | hx
  · exact h x hx
  · rw [List.mem_singleton.mp hx]
    exact ⟨p, h1, h2⟩
theorem PsAt.app {K : PySem.W.Frag} {n : Nat} {H : Hp} {ps qs : List V} (h : PsAt K n H ps) (h1 : PsAt K n H qs) : PsAt K n H (ps ++ qs) := fun x hx => by
  rcases List.mem_append.mp hx with hx | hx
  · exact h x hx
  · exact h1 x hx
def szs (us : List T) : Nat := (us.map T.sz).sum
theorem szs_nodes : ∀ t : T, szs t.nodes = t.sz
  | .nil => rfl
  | .text s r => by have := szs_nodes r; simp only [szs, T.nodes, T.sz, List.map_cons, List.sum_cons] at *; omega
  | .shw s r => by have := szs_nodes r; simp only [szs, T.nodes, T.sz, List.map_cons, List.sum_cons] at *; omega
  | .num r => by have := szs_nodes r; simp only [szs, T.nodes, T.sz, List.map_cons, List.sum_cons] at *; omega
  | .cho _ cs o r => by have := szs_nodes r; simp only [szs, T.nodes, T.sz, List.map_cons, List.sum_cons] at *; omega
  | .cas _ m r => by have := szs_nodes r; simp only [szs, T.nodes, T.sz, List.map_cons, List.sum_cons] at *; omega
theorem szs_take (l : List T) (i : Nat) {u : T} (h : l[i]? = some u) : szs (l.take (i + 1)) = szs (l.take i) + u.sz := by
  unfold szs
  rw [List.take_succ, h, List.map_append, List.sum_append]
  rfl
theorem szs_le (l : List T) (i : Nat) : szs (l.take i) ≤ szs l := by
  have : szs l = szs (l.take i) + szs (l.drop i) := by
    unfold szs
    rw [← List.sum_append, ← List.map_append, List.take_append_drop]
  omega
/-- the messages within a node, each counted once more -/
theorem inner_cnt {u : T} (w : Wf u false) : szs u.inner + u.inner.length ≤ u.sz := by
  have key : ∀ {cs : T}, Wf cs true → szs cs.msgs + cs.msgs.length ≤ cs.sz := by
    intro cs
    induction cs with
    | cas k m r _ ih =>
      intro w
      have := ih w.2.2.2
      simp only [szs, T.msgs, T.sz, List.map_cons, List.sum_cons, List.length_cons] at *
      omega
    | nil => intro _; exact Nat.le_refl _
    | _ => intro w; cases w.1
  cases u with
  | cho hd cs o r =>
    have := key w.2.2.1
    show szs (cs.msgs ++ [o]) + (cs.msgs ++ [o]).length ≤ 1 + cs.sz + o.sz + r.sz
    simp only [szs, List.map_append, List.sum_append, List.map_cons, List.map_nil, List.sum_cons, List.sum_nil, List.length_append, List.length_singleton] at *
    omega
  | _ => exact Nat.zero_le _
theorem dep_inner {u : T} : ∀ m ∈ u.inner, m.dep + 1 ≤ u.dep := by
  cases u with
  | cho hd cs o r =>
    intro m h
    rcases List.mem_append.mp h with h | h
    · have := dep_msgs m h
      simp only [T.dep]
      omega
    · rw [List.mem_singleton.mp h]
      simp only [T.dep]
      omega
  | _ => intro m h; cases h
section
variable {P : Program} {w : World} {K : PySem.W.Frag} {mg : Str → Option Value} {base : Heap}
/-! ### _law_paths -/
abbrev sLp : Stmt := top 27
abbrev nLp : List Str := ["message", "found", "place", "node", "key", "case", "path"]
theorem scLp : FnScope nLp ["message"] (defScope sLp) := ⟨rfl, rfl, rfl, by decide +kernel, rfl, by decide +kernel, by decide +kernel⟩
def spLp (K : PySem.W.Frag) (n : Nat) : Sp := fun vs H Q _ => ∃ (a : Addr) (t : T), vs = [.ref a] ∧ At H a t ∧ Wf t false ∧ Kd t ∧ t.sz ≤ 6000 ∧ t.dep ≤ n ∧ ∀ l H' ps, H l = none → Same H H' → H' l = some (.lst ps) → PsAt K n H' ps → ps.length ≤ t.sz → Q (.ref l) H'
def spLpP (K : PySem.W.Frag) (n : Nat) : Sp := fun vs H Q E => ∃ e, n = e + 1 ∧ spLp K e vs H Q E
theorem ok_lp {k n : Nat} (hn10 : n ≤ 40) {f fM : Addr} {fd fdM : FuncData} (F : Fun K "_law_paths" "_law_paths" sLp f fd)
    (GM : FnOk P w K mg base CX0 k fM fdM ["message"] (spLpP K n)) (bM : Binds K fdM ["message"] []) (kM : PySem.W.keepIn K (.ref fM) = true) (mM : mg "_law_paths" = some (.ref fM))
    (mr : mg "range" = none) (ml : mg "len" = none) : FnOk P w K mg base CX0 (k + 1) f fd ["message"] (spLp K n) := by
  refine F.ok scLp (fun vs H Q E h => ?_) (fun cdv A outer s H vs Q E hr h => ?_)
  · obtain ⟨a, t, rfl, _⟩ := h
    rfl
  obtain ⟨a, t, rfl, ⟨vs, ha, hn⟩, hw, hk, hz, hdp, q⟩ := h
  have nd := scLp.nd
  refine ⟨_, (pss_cons (ps_set (i := 1) nd rfl (.inl rfl) (pe_lst pa_nil))
      (pss_cons (ps_for PassesOwn.never rfl (pi_range1 rfl mr (pa_cons (pe_callB call_len_seq (by rfl) ml PySem.boot_len (pa_cons (pv 0) pa_nil)) pa_nil)) (pg_name (i := 2) nd rfl (.inr rfl)) (pss_cons (ps_set (i := 3) nd rfl (.inl rfl) (pe_ix ix_list (pv 0) (pv 2) (fun _ _ => rfl)))
      (pss_one (ps_if (pt_cmpR op_in_seq (pe_ix ix_tup (pv 3) pe_int (fun _ _ => rfl)) (pe_lst (pa_cons pe_str (pa_cons pe_str pa_nil))) rfl) (pss_one (ps_for PassesOwn.never rfl (pi_list (pe_op op_cat (pe_ix ix_tup (pv 3) (pe_un un_neg pe_int) (fun _ _ => rfl)) (pe_lst (pa_cons (pe_tup (pa_cons pe_str (pa_cons (pe_ix ix_tup (pv 3) (pe_un un_neg pe_int) (fun _ _ => rfl)) pa_nil))) pa_nil)))) (pg_tup rfl (pgs_cons (pg_name (i := 4) nd rfl (.inr rfl)) (pgs_cons (pg_name (i := 5) nd rfl (.inl rfl)) pgs_nil))) (pss_cons (ps_expr (pe_bm PySem.F.plainAttrs_list PySem.F.slot_list_append PySem.F.type_list_append mt_append (pv 1) (pa_cons (pe_tup (pa_cons (pe_tup (pa_cons (pv 2) (pa_cons (pv 4) pa_nil))) pa_nil)) pa_nil)))
      (pss_one (ps_set (i := 1) nd rfl (.inl rfl) (pe_op op_cat (pv 1) (pe_lc (own := [("path", 6)]) (g := (gName 6)) (tt := tYes) (te := tOp (Ts.rCat K) (tTup (tCons (tTup (tCons (tVar 2) (tCons (tVar 4) tNil))) tNil)) (tVar 6)) rfl nd (pi_list (pe_call GM hr rfl mM kM bM .nil pass0 (pa_cons (pv 5) pa_nil))) (blkOk_by (N := nLp) (sc := defScope sLp) (by decide +kernel)) (fun _ _ _ _ _ => (pg_name (i := 6) nd rfl (.inl rfl))) (fun _ _ _ _ _ => pts_nil) (fun _ _ _ _ _ => (pe_op Ts.cat (pe_tup (pa_cons (pe_tup (pa_cons (pv 2) (pa_cons (pv 4) pa_nil))) pa_nil)) (pv 6)))))))))) pss_nil))))
      (pss_one (ps_ret (pv 1))))), ?_⟩
  have hns := hn.ns
  have hlen := hns.length
  have hle : vs.length ≤ 6000 := by
    rw [hn.length]
    exact Nat.le_trans (len_sz t) hz
  refine ⟨Nat.zero_le _, fun l0 hl0 => ?_⟩
  refine ⟨_, rfl, a, _, rfl, .inl (SqL.of (same_new hl0 _ _ _ ha)), (vs.length : Nat), rfl, by omega, by omega, for_range (lo := 0) (n := vs.length) (fun i σ H' => ∃ (l : Addr) (ps : List V) (o2 o3 o4 o5 : Option V), σ = [some (.ref a), some (.ref l), o2, o3, o4, o5, none] ∧ Same H H' ∧ H l = none ∧ H' l = some (.lst ps) ∧ PsAt K n H' ps ∧ ps.length ≤ szs (t.nodes.take i))
    ⟨l0, [], none, none, none, none, rfl, same_new hl0 _, hl0, upd_same, (fun v h => by cases h), Nat.zero_le _⟩ ?_ ?_⟩
  · rintro i σ H1 hi ⟨l, ps, o2, o3, o4, o5, rfl, s1, hl, hl1, hps, hpl⟩
    obtain ⟨u, hu, hun⟩ := hns.get (v := vs[i]) (List.getElem?_eq_getElem hi)
    have um := List.mem_of_getElem? hu
    have uw := nodes_wf hw u um
    have uk := kd_nodes hk u um
    have uz := node_sz u um
    have ud := dep_nodes u um
    have hst := szs_take _ _ hu
    obtain ⟨p, y, ys, hvp, hp, hsg, hch, _⟩ := node_of hun uw
    dsimp only [gName]
    refine ⟨_, rfl, _, rfl, a, vs, _, .ref p, rfl, rfl, SqL.of (s1 _ _ ha), at_of (j := i) (by omega) (by rw [List.getElem?_eq_getElem hi, hvp]), ?_⟩
    refine ⟨_, rfl, p, _, 0, .str y, rfl, rfl, .inl (.inl (s1 _ _ hp)), atI_nat (j := 0) rfl, by show 2 ≤ sizeLine; decide, fun ml' hml => ⟨ml', _, rfl, .inl (SqL.of upd_same), rfl, rfl, _, rfl, ?_⟩⟩
    have s2 : Same H (upd H1 ml' (.lst [.str "select", .str "plural"])) := s1.trans (same_new hml _)
    have nml : l ≠ ml' := ne_of_none hl1 hml
    generalize hH2 : upd H1 ml' (.lst [.str "select", .str "plural"]) = H2 at s2
    have s12 : Same H1 H2 := by rw [← hH2]; exact same_new hml _
    have hl2 := s12 _ _ hl1
    have hps2 := hps.tk (Tk.same s12)
    show (if (inV (V.str y) [.str "select", .str "plural"]) = true then _ else _)
    rw [in_two]
    cases hc : u.isCho with
    | false =>
      rw [decide_eq_false fun z => by rw [hch.mp z] at hc; cases hc]
      exact iteF ⟨l, ps, _, _, _, _, rfl, s2, hl, hl2, hps2, by rw [hst]; omega⟩
    | true =>
      rw [decide_eq_true (hch.mpr hc)]
      refine iteT ?_
      cases u with
      | cho hd cs oo rr =>
        cases (show rr = .nil from hsg)
        obtain ⟨p', ws, ca, cvs, oa, ovs, e, hp', hca, hcs, hoa, hos, _⟩ := hun
        have ep : vs[i] = .ref p' := (List.cons.inj e).1
        rw [hvp] at ep
        cases ep
        have hp2 := s2 _ _ hp'
        have hcl : cvs.length = cs.keys.length := (keys_at hcs uw.2.2.1).1
        have hcz : cs.keys.length ≤ 6000 := by
          have e1 := (msgs_len uw.2.2.1).2
          have e2 := len_sz cs
          simp only [T.sz] at uz
          omega
        refine ⟨_, rfl, 2, rfl, p, _, -2, .ref ca, rfl, rfl, .inl (.inl hp2), atI_m2 _ _ _, ?_⟩
        refine ⟨_, rfl, 1, rfl, p, _, -1, .ref oa, rfl, rfl, .inl (.inl hp2), atI_m1 _ _ _, by show 2 ≤ sizeLine; decide, fun tp htp => ⟨by show 1 ≤ sizeLine; decide, fun l1 hl1' => ?_⟩⟩
        have t1 : Same H2 (upd H2 tp (.tup [.str "other", .ref oa])) := same_new htp _
        have t2 : Same (upd H2 tp (.tup [.str "other", .ref oa])) (upd (upd H2 tp (.tup [.str "other", .ref oa])) l1 (.lst [.ref tp])) := same_new hl1' _
        refine ⟨ca, l1, cvs, [.ref tp], rfl, rfl, (t1.trans t2) _ _ (s2 _ _ hca), upd_same, le_line (by rw [hcl]; show _ + 1 < 10000000; omega), fun xl hxl => ?_⟩
        generalize hHx : upd (upd (upd H2 tp (.tup [.str "other", .ref oa])) l1 (.lst [.ref tp])) xl (.lst (cvs ++ [.ref tp])) = Hx
        have sx : Same H2 Hx := by rw [← hHx]; exact (t1.trans t2).trans (same_new hxl _)
        have hxl' : Hx xl = some (.lst (cvs ++ [.ref tp])) := by rw [← hHx]; exact upd_same
        have htpx : Hx tp = some (.tup [.str "other", .ref oa]) := by rw [← hHx]; exact (same_new hxl _) _ _ (t2 _ _ upd_same)
        have hlx := sx _ _ hl2
        have xll : xl ≠ l := by
          rintro rfl
          rw [(t1.trans t2) _ _ hl2] at hxl
          cases hxl
        have hitem : ∀ (j : Nat) (v : V), (cvs ++ [V.ref tp])[j]? = some v → ∃ (pj : Addr) (kj : V) (mj : T) (aj : Addr), v = V.ref pj ∧ kj ∈ KU ∧ (T.cho hd cs oo .nil).inner[j]? = some mj ∧ At H aj mj ∧ Hx pj = some (.tup [kj, .ref aj]) := by
          intro j v hv
          obtain ⟨ms, m1, m2, m3⟩ := Nodes.msgs hcs uw.2.2.1
          by_cases hj : j < cvs.length
          · rw [List.getElem?_append_left hj] at hv
            obtain ⟨k1, k2⟩ := keys_at hcs uw.2.2.1
            obtain ⟨q1, kk, x1, e1, e2, e3⟩ := k2 j v hv
            obtain ⟨q2, k2', a2, f1, f2, f3⟩ := m3 j v hv
            subst e1
            cases f1
            rw [e3] at f2
            cases f2
            obtain ⟨mj, aj, g1, g2, g3⟩ := m1.get f3
            cases g2
            refine ⟨_, _, mj, _, rfl, (uk.1 _ (List.mem_of_getElem? e2)).1, ?_, g3, sx _ _ (s2 _ _ e3)⟩
            show (cs.msgs ++ [oo])[j]? = _
            rw [List.getElem?_append_left (List.getElem?_eq_some_iff.mp g1).1]
            exact g1
          · have hj2 : j = cvs.length := by
              have := (List.getElem?_eq_some_iff.mp hv).1
              rw [List.length_append, List.length_singleton] at this
              omega
            subst hj2
            rw [List.getElem?_append_right (Nat.le_refl _), Nat.sub_self] at hv
            have hv' : V.ref tp = v := by simpa using hv
            subst hv'
            refine ⟨tp, .str "other", oo, oa, rfl, by simp [KU], ?_, ⟨ovs, hoa, hos⟩, htpx⟩
            show (cs.msgs ++ [oo])[cvs.length]? = _
            rw [hcl, ← (msgs_len uw.2.2.1).1, List.getElem?_append_right (Nat.le_refl _), Nat.sub_self]
            rfl
        refine ⟨xl, rfl, ⟨_, SqL.of hxl'⟩, for_list (K := K) (a := xl) (xs := cvs ++ [.ref tp]) (fun j σ H' => ∃ (l : Addr) (ps : List V) (o4 o5 : Option V), σ = [some (.ref a), some (.ref l), some (.int (0 + i)), some (.ref p), o4, o5, none] ∧ Same H H' ∧ Tk Hx H' ∧ H l = none ∧ xl ≠ l ∧ H' xl = some (.lst (cvs ++ [.ref tp])) ∧ H' l = some (.lst ps) ∧ PsAt K n H' ps ∧ ps.length ≤ szs (t.nodes.take i) + (szs ((T.cho hd cs oo .nil).inner.take j) + j))
          ⟨l, ps, o4, o5, rfl, s2.trans sx, Tk.same (Same.refl _), hl, xll, hxl', hlx, hps2.tk (Tk.same sx), by omega⟩ (fun j σ H' _ ⟨_, _, _, _, _, _, _, _, _, h, _⟩ => SqL.of h) ?_ ?_⟩
        · rintro j x σ H3 hx ⟨l, ps, o4, o5, rfl, s3, tk3, hl, xll, hxl3, hl3, hps3, hpl3⟩
          obtain ⟨pj, kj, mj, aj, rfl, hkj, hmj, haj, hpj⟩ := hitem j x hx
          have hpj3 := tk3 _ _ hpj (by intro xs z; cases z)
          have mm := List.mem_of_getElem? hmj
          have md := dep_inner mj mm
          have mz := inner_sz mj mm
          obtain ⟨e, rfl⟩ : ∃ e, n = e + 1 := ⟨n - 1, by omega⟩
          have hcnt := inner_cnt uw
          have hle2 := szs_le (T.cho hd cs oo .nil).inner (j + 1)
          have htk2 := szs_take _ _ hmj
          have htt := szs_le t.nodes (i + 1)
          rw [szs_nodes] at htt
          have hjj := (List.getElem?_eq_some_iff.mp hmj).1
          have hi6000 : i < 6000 := by omega
          refine ⟨pj, _, rfl, .inl (.inl hpj3), rfl, kj, _, rfl, .ref aj, [], rfl, rfl, ?_⟩
          -- found.append(((place, key),))
          refine ⟨_, rfl, .inl ⟨rfl, _, SqL.of hl3⟩, _, rfl, _, rfl, by show 2 ≤ sizeLine; decide, fun q1 hq1 => ⟨by show 1 ≤ sizeLine; decide, fun w1 hw1 => ?_⟩⟩
          have u1 : Same H3 (upd H3 q1 (.tup [.int (0 + i), kj])) := same_new hq1 _
          have u2 : Same (upd H3 q1 (.tup [.int (0 + i), kj])) (upd (upd H3 q1 (.tup [.int (0 + i), kj])) w1 (.tup [.ref q1])) := same_new hw1 _
          have u12 := u1.trans u2
          refine ⟨l, _, _, rfl, rfl, u12 _ _ hl3, sz_line (by omega), ?_⟩
          generalize hH4 : upd (upd (upd H3 q1 (.tup [.int (0 + i), kj])) w1 (.tup [.ref q1])) l (.lst (ps ++ [.ref w1])) = H4
          have tk34 : Tk H3 H4 := by rw [← hH4]; exact (Tk.same u12).trans (Tk.mut (u12 _ _ hl3) _)
          have hl4 : H4 l = some (.lst (ps ++ [.ref w1])) := by rw [← hH4]; exact upd_same
          have s4 : Same H H4 := by rw [← hH4]; exact same_mut (s3.trans u12) hl _
          have hw1l : w1 ≠ l := (ne_of_none (u1 _ _ hl3) hw1).symm
          have hq1l : q1 ≠ l := (ne_of_none hl3 hq1).symm
          have hw14 : H4 w1 = some (.tup [.ref q1]) := by rw [← hH4, upd_ne hw1l]; exact upd_same
          have hq14 : H4 q1 = some (.tup [.int (0 + i), kj]) := by rw [← hH4, upd_ne hq1l]; exact u2 _ _ upd_same
          have hxl4 : H4 xl = some (.lst (cvs ++ [.ref tp])) := by rw [← hH4, upd_ne xll]; exact u12 _ _ hxl3
          have hstep : (0 ≤ (0 + (i : Int)) ∧ (0 + (i : Int)) ≤ 6000) ∧ kj ∈ KU := ⟨by omega, hkj⟩
          have hps4 : PsAt K (e + 1) H4 (ps ++ [.ref w1]) := (hps3.tk tk34).snoc (p := [(0 + (i : Int), kj)]) ⟨w1, [.ref q1], rfl, .inl (.inl hw14), q1, [], rfl, hq14, rfl⟩ ⟨Nat.le_refl _, by simp, fun x hx => by rw [List.mem_singleton.mp hx]; exact hstep⟩
          -- found = found + [..]
          refine ⟨_, rfl, _, rfl, e, rfl, aj, mj, rfl, haj.same s4, wf_inner uw mj mm, kd_inner uk mj mm, by omega, by omega, fun cl H5 cps hcl s5 hcl5 hcps hclen => ?_⟩
          have hcl0 : H cl = none := s4.free hcl
          refine ⟨cl, rfl, ⟨_, SqL.of hcl5⟩, fun D hD => ?_⟩
          refine lc_list (K := K) (a := cl) (xs := cps) (fun r H6 => ∃ qs, Same H5 H6 ∧ H6 D = some (.lst qs) ∧ PsAt K (e + 1) H6 qs ∧ qs.length = r) ⟨[], same_new hD _, upd_same, (fun v h => by cases h), rfl⟩ (fun r H6 _ ⟨_, s6, _⟩ => SqL.of (s6 _ _ hcl5)) ?_ ?_
          · rintro r x H6 hx6 ⟨qs, s6, hD6, hqs6, hql⟩
            obtain ⟨pp, hpp, hpb⟩ := hcps x (List.mem_of_getElem? hx6)
            obtain ⟨pa', pvs, rfl, hp1, hp2⟩ := hpp.same s6
            have hrl := (List.getElem?_eq_some_iff.mp hx6).1
            refine ⟨rfl, _, rfl, _, rfl, by show 2 ≤ sizeLine; decide, fun q2 hq2 => ⟨by show 1 ≤ sizeLine; decide, fun w2 hw2 => ?_⟩⟩
            have u3 : Same H6 (upd H6 q2 (.tup [.int (0 + i), kj])) := same_new hq2 _
            have u4 : Same (upd H6 q2 (.tup [.int (0 + i), kj])) (upd (upd H6 q2 (.tup [.int (0 + i), kj])) w2 (.tup [.ref q2])) := same_new hw2 _
            have u34 := u3.trans u4
            refine ⟨_, rfl, w2, pa', [.ref q2], pvs, rfl, rfl, .inl (.inl upd_same), Ts.same u34 hp1, le_line (by rw [hp2.length]; have := hpb.2.1; show 1 + pp.length < 10000000; omega), fun z H7 s7 hz7 => ?_⟩
            have s67 := u34.trans s7
            refine ⟨qs, s67 _ _ hD6, sz_line (by omega), qs ++ [.ref z], same_mut (s6.trans s67) hD _, upd_same, ?_, by rw [List.length_append, hql]; rfl⟩
            have tkD : Tk H7 (upd H7 D (.lst (qs ++ [.ref z]))) := Tk.mut (s67 _ _ hD6) _
            have pz : PthAt K H7 ((0 + (i : Int), kj) :: pp) (.ref z) := ⟨z, .ref q2 :: pvs, rfl, hz7, q2, pvs, rfl, s7 _ _ (u4 _ _ upd_same), hp2.same s67⟩
            exact ((hqs6.tk (Tk.same s67)).tk tkD).snoc (pz.tk tkD) ⟨by simp, by have := hpb.2.1; simp only [List.length_cons]; omega, fun x hx => by
              rcases List.mem_cons.mp hx with rfl | hx
              · exact hstep
              · exact hpb.2.2 x hx⟩
          · rintro H6 ⟨qs, s6, hD6, hqs6, hql⟩
            have s46 := s5.trans s6
            have hl6 := s46 _ _ hl4
            refine ⟨l, D, _, _, rfl, rfl, hl6, hD6, le_line (by rw [List.length_append, List.length_singleton]; omega), fun l' hl' => ?_⟩
            have t6 : Same H6 (upd H6 l' (.lst (ps ++ [.ref w1] ++ qs))) := same_new hl' _
            have s47 := s46.trans t6
            refine ⟨l', ps ++ [.ref w1] ++ qs, _, _, rfl, s4.trans s47, (tk3.trans tk34).trans (Tk.same s47), (s4.trans s46).free hl', (ne_of_none (s46 _ _ hxl4) hl'), s47 _ _ hxl4, upd_same, (hps4.tk (Tk.same s47)).app (hqs6.tk (Tk.same t6)), ?_⟩
            rw [htk2, List.length_append, List.length_append, List.length_singleton]
            omega
        · rintro σ H3 ⟨l, ps, o4, o5, rfl, s3, tk3, hl, xll, hxl3, hl3, hps3, hpl3⟩
          refine ⟨l, ps, _, _, _, _, rfl, s3, hl, hl3, hps3, ?_⟩
          have hcnt := inner_cnt uw
          have e1 : (cvs ++ [V.ref tp]).length = (T.cho hd cs oo .nil).inner.length := by
            show _ = (cs.msgs ++ [oo]).length
            rw [List.length_append, List.length_append, hcl, (msgs_len uw.2.2.1).1]
            rfl
          rw [e1, List.take_length] at hpl3
          rw [hst]
          omega
      | _ => cases hc
  · rintro σ H1 ⟨l, ps, o2, o3, o4, o5, rfl, s1, hl, hl1, hps, hpl⟩
    refine ⟨_, rfl, q l H1 ps hl s1 hl1 hps (Nat.le_trans hpl ?_)⟩
    rw [hlen, List.take_length, szs_nodes]
    exact Nat.le_refl _
theorem all_lp {f : Addr} {fd : FuncData} (F : Fun K "_law_paths" "_law_paths" sLp f fd) (b : Binds K fd ["message"] []) (m : mg "_law_paths" = some (.ref f)) (mr : mg "range" = none) (ml : mg "len" = none) :
    ∀ n, n ≤ 40 → FnOk P w K mg base CX0 (n + 1) f fd ["message"] (spLp K n)
  | 0, h => ok_lp h F (none_left fun vs H Q E ⟨_, e, _⟩ => by omega) b F.kp m mr ml
  | n + 1, h => ok_lp h F ((all_lp F b m mr ml n (by omega)).imp fun vs H Q E ⟨e, he, h⟩ => by
      cases he
      exact h) b F.kp m mr ml
end
end Mw

/-! == of data of which one is flat, however deep the other -/
namespace Mw
open PySem L2 PyProof.Rows
def shpd (d : PyData) : Bool := d.canLay0 && decide (d.depth ≤ 130)
section
variable {X : Cx}
def rEqE (K : PySem.W.Frag) : R2 := fun x y H Q => ∃ d e, Dp K H x d ∧ Dp K H y e ∧ shpd d = true ∧ shpd e = true ∧ Q (.bl (PyData.eqv d e)) H
def rNeE (K : PySem.W.Frag) : R2 := fun x y H Q => ∃ d e, Dp K H x d ∧ Dp K H y e ∧ shpd d = true ∧ shpd e = true ∧ Q (.bl (!PyData.eqv d e)) H
theorem shpd_lay {d : PyData} (h : shpd d = true) : d.canLay0 = true ∧ d.depth ≤ 130 := by
  unfold shpd at h
  rw [Bool.and_eq_true] at h
  exact ⟨h.1, of_decide_eq_true h.2⟩
theorem op_eqE (hu : X.A.units + 200 < cLine) : OpR X (compareOp .Eq) (rEqE X.K) := by
  intro pins s σ H x y v u Q I rx ry h
  obtain ⟨d, e, hd, he, sd, se, q⟩ := h
  obtain ⟨as, r1⟩ := Dp.reads I d x v hd rx
  obtain ⟨bs, r2⟩ := Dp.reads I e y u he ry
  have := (shpd_lay sd).2
  exact SeqAt.compareEq_reads r1 r2 (shpd_lay sd).1 (shpd_lay se).1 (by omega) ⟨.bl _, H, I, rfl, q⟩
theorem op_neE (hu : X.A.units + 200 < cLine) : OpR X (compareOp .NotEq) (rNeE X.K) := by
  intro pins s σ H x y v u Q I rx ry h
  obtain ⟨d, e, hd, he, sd, se, q⟩ := h
  obtain ⟨as, r1⟩ := Dp.reads I d x v hd rx
  obtain ⟨bs, r2⟩ := Dp.reads I e y u he ry
  have := (shpd_lay sd).2
  exact SeqAt.compareNe_reads r1 r2 (shpd_lay sd).1 (shpd_lay se).1 (by omega) ⟨.bl _, H, I, rfl, q⟩
end
theorem rm_un {k : Nat} {A : Around} (r : Room k A) : A.units + 200 < cLine := by have := r.un; omega
end Mw

namespace Mw
open PySem L2 Gg
/-- what the law's messages are, in all -/
structure Fit (t : T) : Prop where
  wf : Wf t false
  sok : SOk t
  kd : Kd t
  dep : t.dep ≤ 29
  sz : t.sz ≤ 20000
theorem sok_nodes : ∀ {t : T}, SOk t → ∀ u ∈ t.nodes, SOk u
  | .nil, _, u, h => by cases h
  | .text s r, w, u, h => by
    rcases List.mem_cons.mp h with rfl | h
    · exact ⟨w.1, trivial⟩
    · exact sok_nodes w.2 u h
  | .shw s r, w, u, h => by
    rcases List.mem_cons.mp h with rfl | h
    · exact ⟨w.1, trivial⟩
    · exact sok_nodes w.2 u h
  | .num r, w, u, h => by
    rcases List.mem_cons.mp h with rfl | h
    · exact trivial
    · exact sok_nodes (t := r) w u h
  | .cho hd cs o r, w, u, h => by
    rcases List.mem_cons.mp h with rfl | h
    · exact ⟨w.1, w.2.1, w.2.2.1, w.2.2.2.1, trivial⟩
    · exact sok_nodes w.2.2.2.2 u h
  | .cas k m r, w, u, h => by
    rcases List.mem_cons.mp h with rfl | h
    · exact ⟨w.1, w.2.1, trivial⟩
    · exact sok_nodes w.2.2 u h
theorem sok_msgs : ∀ {t : T}, SOk t → ∀ m ∈ t.msgs, SOk m
  | .cas k m r, w, u, h => by
    rcases List.mem_cons.mp h with rfl | h
    · exact w.2.1
    · exact sok_msgs w.2.2 u h
  | .nil, _, _, h => by cases h
  | .text _ _, _, _, h => by cases h
  | .shw _ _, _, _, h => by cases h
  | .num _, _, _, h => by cases h
  | .cho _ _ _ _, _, _, h => by cases h
theorem sok_inner {u : T} (k : SOk u) : ∀ m ∈ u.inner, SOk m := by
  cases u with
  | cho hd cs o r =>
    intro m h
    rcases List.mem_append.mp h with h | h
    · exact sok_msgs k.2.2.1 m h
    · rw [List.mem_singleton.mp h]
      exact k.2.2.2.1
  | _ => intro m h; cases h
theorem Fit.step {t u m : T} (f : Fit t) (hu : u ∈ t.nodes) (hm : m ∈ u.inner) : Fit m := by
  have h1 := node_sz u hu
  have h2 := inner_sz m hm
  have h3 := dep_nodes u hu
  have h4 := dep_inner m hm
  have := f.sz
  have := f.dep
  exact ⟨wf_inner (nodes_wf f.wf u hu) m hm, sok_inner (sok_nodes f.sok u hu) m hm, kd_inner (kd_nodes f.kd u hu) m hm, by omega, by omega⟩
theorem Fit.sh {t : T} (f : Fit t) : Sh (.list (dat t)) := sh_msg f.sok f.wf (by have := f.dep; omega) (by have := f.sz; omega)
theorem Fit.sh1 {t : T} (f : Fit t) : Sh (.list [.list (dat t)]) := sh_one f.sok f.wf (by have := f.dep; omega) (by have := f.sz; omega)
theorem Fit.shaped {t : T} (f : Fit t) : shpd (.list [.list (dat t)]) = true := by
  have h4 := dat_depth f.wf f.sok
  simp only [Bool.false_eq_true, if_false] at h4
  have := f.dep
  unfold shpd
  rw [Bool.and_eq_true]
  refine ⟨?_, decide_eq_true ?_⟩
  · show (PyData.canLayAll0 (dat t) && true) = true
    rw [(dat_ok f.sok).1]
    rfl
  · show max (PyData.depthAll (dat t) + 1) 0 + 1 ≤ 130
    omega
theorem shaped_nil : shpd (.list []) = true := by decide +kernel
/-- a list with a message, or an empty one -/
def OAt (H H' : Hp) (l : Addr) : Option T → Prop
  | some m => ∃ b, H' l = some (.lst [.ref b]) ∧ At H b m
  | none => H' l = some (.lst [])
theorem oks_nodup {u : T} (k : Kd u) : u.oks.Nodup := by
  cases u with
  | cho hd cs o r =>
    show (cs.keys ++ [_]).Nodup
    rw [List.nodup_append]
    refine ⟨k.2.1, by simp, fun a ha b hb e => ?_⟩
    rw [List.mem_singleton.mp hb] at e
    exact (k.1 a ha).2 e
  | _ => exact List.nodup_nil
theorem kix_of {ks : List V} {x : V} {j : Nat} (hn : ks.Nodup) (h : ks[j]? = some x) : kix ks x = some j := by
  cases hk : kix ks x with
  | none => exact absurd (List.mem_of_getElem? h) (kix_none hk)
  | some i =>
    obtain ⟨h1, h0⟩ := kix_lt hk
    obtain ⟨h2, h2'⟩ := List.getElem?_eq_some_iff.mp h
    obtain ⟨h3, h3'⟩ := List.getElem?_eq_some_iff.mp h1
    rcases Nat.lt_trichotomy i j with c | c | c
    · exact absurd (h3'.trans h2'.symm) (List.pairwise_iff_getElem.mp hn i j h3 h2 c)
    · rw [c]
    · exact absurd h (h0 j c)
theorem kix_no {ks : List V} {x : V} (h : x ∉ ks) : kix ks x = none := by
  cases hk : kix ks x with
  | none => rfl
  | some i => exact absurd (List.mem_of_getElem? (kix_lt hk).1) h
/-- a node's cases and its other message, as the law lays them out -/
theorem cases_items {H0 H : Hp} {hd cvs : List V} {cs oo : T} {tp oa : Addr} (s : Same H0 H) (hcs : Nodes H0 cs cvs) (hos : At H0 oa oo) (htp : H tp = some (.tup [.str "other", .ref oa])) (uw : Wf (.cho hd cs oo .nil) false) (uk : Kd (.cho hd cs oo .nil)) :
    (cvs ++ [V.ref tp]).length = (T.cho hd cs oo .nil).oks.length ∧ ∀ (j : Nat) (v : V), (cvs ++ [V.ref tp])[j]? = some v → ∃ (pj : Addr) (kj : V) (mj : T) (aj : Addr), v = V.ref pj ∧ kj ∈ KU ∧ (T.cho hd cs oo .nil).oks[j]? = some kj ∧ (T.cho hd cs oo .nil).inner[j]? = some mj ∧ At H0 aj mj ∧ H pj = some (.tup [kj, .ref aj]) := by
  obtain ⟨ms, m1, m2, m3⟩ := Nodes.msgs hcs uw.2.2.1
  obtain ⟨k1, k2⟩ := keys_at hcs uw.2.2.1
  refine ⟨?_, fun j v hv => ?_⟩
  · show _ = (cs.keys ++ [_]).length
    rw [List.length_append, List.length_append, k1]
    rfl
  by_cases hj : j < cvs.length
  · rw [List.getElem?_append_left hj] at hv
    obtain ⟨q1, kk, x1, e1, e2, e3⟩ := k2 j v hv
    obtain ⟨q2, k2', a2, f1, f2, f3⟩ := m3 j v hv
    subst e1
    cases f1
    rw [e3] at f2
    cases f2
    obtain ⟨mj, aj, g1, g2, g3⟩ := m1.get f3
    cases g2
    refine ⟨_, _, mj, _, rfl, (uk.1 _ (List.mem_of_getElem? e2)).1, ?_, ?_, g3, s _ _ e3⟩
    · show (cs.keys ++ [_])[j]? = _
      rw [List.getElem?_append_left (List.getElem?_eq_some_iff.mp e2).1]
      exact e2
    · show (cs.msgs ++ [oo])[j]? = _
      rw [List.getElem?_append_left (List.getElem?_eq_some_iff.mp g1).1]
      exact g1
  · have hj2 : j = cvs.length := by
      have := (List.getElem?_eq_some_iff.mp hv).1
      rw [List.length_append, List.length_singleton] at this
      omega
    subst hj2
    rw [List.getElem?_append_right (Nat.le_refl _), Nat.sub_self] at hv
    have hv' : V.ref tp = v := by simpa using hv
    subst hv'
    refine ⟨tp, .str "other", oo, oa, rfl, by simp [KU], ?_, ?_, hos, htp⟩
    · show (cs.keys ++ [_])[cvs.length]? = _
      rw [k1, List.getElem?_append_right (Nat.le_refl _), Nat.sub_self]
      rfl
    · show (cs.msgs ++ [oo])[cvs.length]? = _
      rw [k1, ← (msgs_len uw.2.2.1).1, List.getElem?_append_right (Nat.le_refl _), Nat.sub_self]
      rfl
theorem atP_cons {t : T} {x : Int × V} {p : Pth} : atP t (x :: p) = (stn t x).bind fun y => atP y.2.2 p := rfl
section
variable {P : Program} {w : World} {K : PySem.W.Frag} {mg : Str → Option Value} {base : Heap}
/-! ### _law_at -/
abbrev sLa : Stmt := top 28
abbrev nLa : List Str := ["message", "path", "now", "place", "key", "cases", "chosen", "other", "case"]
theorem scLa : FnScope nLa ["message", "path"] (defScope sLa) := ⟨rfl, rfl, rfl, by decide +kernel, rfl, by decide +kernel, by decide +kernel⟩
def spLa (K : PySem.W.Frag) : Sp := fun vs H Q _ => ∃ (a : Addr) (yv : V) (p : Pth) (t : T), vs = [.ref a, yv] ∧ At H a t ∧ Fit t ∧ PthAt K H p yv ∧ PthOk p ∧ ∀ l H', Same H H' → H l = none → OAt H H' l (atP t p) → Q (.ref l) H'
theorem ok_la {f fS : Addr} {fd fdS : FuncData} (F : Fun K "_law_at" "_law_at" sLa f fd)
    (GS : FnG P w K mg base CX0 1 fS fdS ["one", "other"] (spSame K)) (bS : Binds K fdS ["one", "other"] []) (kS : PySem.W.keepIn K (.ref fS) = true) (mS : mg "_law_same" = some (.ref fS))
    (ml : mg "len" = none) : FnG P w K mg base CX0 2 f fd ["message", "path"] (spLa K) := by
  refine okG F scLa (fun vs H Q E h => ?_) (fun A cdv outer s H vs Q E gd hr h => ?_)
  · obtain ⟨a, yv, p, t, rfl, _⟩ := h
    rfl
  obtain ⟨a, yv, p, t, rfl, hat, ft, hp, hok, q⟩ := h
  have nd := scLa.nd
  refine ⟨_, (pss_cons (ps_set (i := 2) nd rfl (.inl rfl) (pv 0))
      (pss_cons (ps_for PassesOwn.never rfl (pi_tup (pv 1)) (pg_tup rfl (pgs_cons (pg_name (i := 3) nd rfl (.inl rfl)) (pgs_cons (pg_name (i := 4) nd rfl (.inr rfl)) pgs_nil))) (pss_cons (ps_if (PW.pt (pw_or (pt_cmpR op_lt (pv 3) pe_int (nomark _)) (pw_or (pt_cmpR op_ge (pv 3) (pe_callB call_len_seq (by rfl) ml PySem.boot_len (pa_cons (pv 2) pa_nil)) (nomark _)) (pw_or1 (pt_cmpR op_notIn_seq (pe_ix ix_tup (pe_ix ix_list (pv 2) (pv 3) (fun _ _ => rfl)) pe_int (fun _ _ => rfl)) (pe_lst (pa_cons pe_str (pa_cons pe_str pa_nil))) rfl))))) (pss_one (ps_ret (pe_lst pa_nil))) pss_nil)
      (pss_cons (ps_set (i := 5) nd rfl (.inl rfl) (pe_op op_cat (pe_ix ix_tup (pe_ix ix_list (pv 2) (pv 3) (fun _ _ => rfl)) (pe_un un_neg pe_int) (fun _ _ => rfl)) (pe_lst (pa_cons (pe_tup (pa_cons pe_str (pa_cons (pe_ix ix_tup (pe_ix ix_list (pv 2) (pv 3) (fun _ _ => rfl)) (pe_un un_neg pe_int) (fun _ _ => rfl)) pa_nil))) pa_nil))))
      (pss_cons (ps_setLc (i := 6) (own := [("other", 7), ("case", 8)]) (g := (gTup K 2 (gCons (gName 7) (gCons (gName 8) gNil))))  (tt := tB (tCall (spSame K) [] E0 (tCons (tVar 7) (tCons (tVar 4) tNil)))) (te := tVar 8) rfl nd rfl rfl (sw_true rfl rfl rfl (by decide +kernel)) (pi_list (pv 5)) (blkOk_by (N := nLa) (sc := defScope sLa) (by decide +kernel)) (fun _ _ _ _ _ => (pg_tup rfl (pgs_cons (pg_name (i := 7) nd rfl (.inl rfl)) (pgs_cons (pg_name (i := 8) nd rfl (.inl rfl)) pgs_nil)))) (fun _ _ _ _ _ => (pts_one (pt_val (pe_callG gd GS (hr.mono (by decide)) rfl mS kS bS .nil pass0 (pa_cons (pv 7) (pa_cons (pv 4) pa_nil)))))) (fun _ _ _ _ _ => (pv 8)))
      (pss_cons (ps_if (pt_cmpR (op_eqE (rm_un hr)) (pv 6) (pe_lst pa_nil) (nomark _)) (pss_one (ps_ret (pe_lst pa_nil))) pss_nil)
      (pss_one (ps_set (i := 2) nd rfl (.inl rfl) (pe_ix ix_list (pv 6) pe_int (fun _ _ => rfl)))))))))
      (pss_one (ps_ret (pe_lst (pa_cons (pv 2) pa_nil)))))), ?_⟩
  obtain ⟨pa, pvs, rfl, hp1, hp2⟩ := id hp
  have hpl := hp2.length
  refine ⟨_, rfl, _, rfl, pa, rfl, ⟨_, hp1⟩, for_tup (K := K) (a := pa) (xs := pvs) (fun i σ H' => ∃ (c : Addr) (t' : T) (o3 o4 o5 o6 : Option V), σ = [some (.ref a), some (.ref pa), some (.ref c), o3, o4, o5, o6, none, none] ∧ Same H H' ∧ At H c t' ∧ Fit t' ∧ atP t p = atP t' (p.drop i))
    ⟨a, t, none, none, none, none, rfl, Same.refl _, hat, ft, by rw [List.drop_zero]⟩ (fun i σ H' _ ⟨_, _, _, _, _, _, _, s', _⟩ => Ts.same s' hp1) ?_ ?_⟩
  · rintro i x σ H1 hx ⟨c, t', o3, o4, o5, o6, rfl, s1, ⟨cvs0, hc1, hc2⟩, ft', hal⟩
    obtain ⟨y, qa, hy, rfl, hqa⟩ := hp2.get hx
    have hdrop : p.drop i = y :: p.drop (i + 1) := by
      have e := List.getElem?_eq_some_iff.mp hy
      rw [List.drop_eq_getElem_cons e.1, e.2]
    rw [hdrop, atP_cons] at hal
    have hns := hc2.ns
    have hlen := hns.length
    have hyk := (hok.2 y (List.mem_of_getElem? hy)).2
    have no : ∀ H2, Same H H2 → stn t' y = none → ∀ l, H2 l = none → Q (.ref l) (upd H2 l (.lst [])) := fun H2 s2 e l hl => by
      rw [e] at hal
      refine q l _ (s2.trans (same_new hl _)) (s2.free hl) ?_
      rw [hal]
      exact upd_same
    refine ⟨qa, _, rfl, .inl (.inl (s1 _ _ hqa)), rfl, .int y.1, _, rfl, y.2, [], rfl, rfl, ?_⟩
    -- place < 0
    refine ⟨_, rfl, _, _, rfl, rfl, _, rfl, ?_⟩
    by_cases c0 : y.1 < 0
    · rw [decide_eq_true c0]
      exact iteT (iteT ⟨Nat.zero_le _, no H1 s1 (stn_none_node (.inl c0))⟩)
    rw [decide_eq_false c0]
    refine iteF ⟨_, rfl, _, rfl, c, _, rfl, .inl (SqL.of (s1 _ _ hc1)), _, _, rfl, rfl, _, rfl, ?_⟩
    by_cases c1 : (cvs0.length : Int) ≤ y.1
    · rw [decide_eq_true c1]
      exact iteT (iteT ⟨Nat.zero_le _, no H1 s1 (stn_none_node (.inr (by rw [← hlen]; exact c1)))⟩)
    rw [decide_eq_false c1]
    refine iteF ?_
    have hi : y.1.toNat < cvs0.length := by omega
    have hy0 : y.1 = ((y.1.toNat : Nat) : Int) := by omega
    obtain ⟨u, hu, hun⟩ := hns.get (v := cvs0[y.1.toNat]) (List.getElem?_eq_getElem hi)
    have um := List.mem_of_getElem? hu
    have uw := nodes_wf ft'.wf u um
    have uk := kd_nodes ft'.kd u um
    have hst := stn_at (by omega) hu (x := y)
    obtain ⟨pn, z, zs, hvp, hpn, hsg, hch, _⟩ := node_of hun uw
    have ix : ∀ {H2 : Hp} {o5 o6 : Option V}, Same H H2 → ∀ Q : VK, Q (.ref pn) H2 → tOp (rIxL K) (tVar 2) (tVar 3) [some (.ref a), some (.ref pa), some (.ref c), some (.int y.1), some y.2, o5, o6, none, none] H2 Q := fun s2 Q qq => ⟨_, rfl, _, rfl, c, cvs0, y.1, .ref pn, rfl, rfl, SqL.of (s2 _ _ hc1), at_of (j := y.1.toNat) hy0 (by rw [List.getElem?_eq_getElem hi, hvp]), qq⟩
    refine ix s1 _ ⟨pn, _, 0, .str z, rfl, rfl, .inl (.inl (s1 _ _ hpn)), atI_nat (j := 0) rfl, by show 2 ≤ sizeLine; decide, fun ml' hml => ⟨ml', _, rfl, .inl (SqL.of upd_same), rfl, rfl, _, rfl, ?_⟩⟩
    have s2 : Same H (upd H1 ml' (.lst [.str "select", .str "plural"])) := s1.trans (same_new hml _)
    generalize upd H1 ml' (.lst [.str "select", .str "plural"]) = H2 at s2
    show (if (!inV (V.str z) [.str "select", .str "plural"]) = true then _ else _)
    rw [in_two]
    cases hc : u.isCho with
    | false =>
      rw [decide_eq_false fun e => by rw [hch.mp e] at hc; cases hc]
      refine iteT ⟨Nat.zero_le _, no H2 s2 ?_⟩
      rw [hst, cho_oks hc]
      rfl
    | true =>
      rw [decide_eq_true (hch.mpr hc)]
      refine iteF ?_
      cases u with
      | cho hd cs oo rr =>
        cases (show rr = .nil from hsg)
        obtain ⟨p', ws, ca, cvs, oa, ovs, e, hp', hca, hcs, hoa, hos, _⟩ := hun
        have ep : cvs0[y.1.toNat] = .ref p' := (List.cons.inj e).1
        rw [hvp] at ep
        cases ep
        have hcl : cvs.length = cs.keys.length := (keys_at hcs uw.2.2.1).1
        have uz := node_sz _ um
        have hcz : cs.keys.length ≤ 20000 := by
          have e1 := (msgs_len uw.2.2.1).2
          have e2 := len_sz cs
          have := ft'.sz
          simp only [T.sz] at uz
          omega
        -- cases
        refine ix s2 _ ⟨2, rfl, pn, _, -2, .ref ca, rfl, rfl, .inl (.inl (s2 _ _ hp')), atI_m2 _ _ _, ?_⟩
        refine ix s2 _ ⟨1, rfl, pn, _, -1, .ref oa, rfl, rfl, .inl (.inl (s2 _ _ hp')), atI_m1 _ _ _, by show 2 ≤ sizeLine; decide, fun tp htp => ⟨by show 1 ≤ sizeLine; decide, fun l1 hl1' => ?_⟩⟩
        have t1 : Same H2 (upd H2 tp (.tup [.str "other", .ref oa])) := same_new htp _
        have t2 : Same (upd H2 tp (.tup [.str "other", .ref oa])) (upd (upd H2 tp (.tup [.str "other", .ref oa])) l1 (.lst [.ref tp])) := same_new hl1' _
        refine ⟨ca, l1, cvs, [.ref tp], rfl, rfl, (t1.trans t2) _ _ (s2 _ _ hca), upd_same, le_line (by rw [hcl]; show _ + 1 < 10000000; omega), fun xl hxl => ?_⟩
        generalize hHx : upd (upd (upd H2 tp (.tup [.str "other", .ref oa])) l1 (.lst [.ref tp])) xl (.lst (cvs ++ [.ref tp])) = Hx
        have s2x : Same H2 Hx := by rw [← hHx]; exact (t1.trans t2).trans (same_new hxl _)
        have sx := s2.trans s2x
        have hxl' : Hx xl = some (.lst (cvs ++ [.ref tp])) := by rw [← hHx]; exact upd_same
        have htpx : Hx tp = some (.tup [.str "other", .ref oa]) := by rw [← hHx]; exact (same_new hxl _) _ _ (t2 _ _ upd_same)
        obtain ⟨items1, items2⟩ := cases_items (hd := hd) sx hcs ⟨ovs, hoa, hos⟩ htpx uw uk
        -- chosen
        refine ⟨_, rfl, xl, rfl, ⟨_, SqL.of hxl'⟩, fun D hD => ?_⟩
        refine lc_list (K := K) (a := xl) (xs := cvs ++ [.ref tp]) (fun r H' => Same Hx H' ∧ ∃ qs, H' D = some (.lst qs) ∧ ((y.2 ∉ (T.cho hd cs oo .nil).oks.take r ∧ qs = []) ∨ ∃ j b m, j < r ∧ (T.cho hd cs oo .nil).oks[j]? = some y.2 ∧ (T.cho hd cs oo .nil).inner[j]? = some m ∧ At H b m ∧ qs = [.ref b]))
          ⟨same_new hD _, [], upd_same, .inl ⟨by simp, rfl⟩⟩ (fun r H' _ ⟨s', _⟩ => SqL.of (s' _ _ hxl')) ?_ ?_
        · rintro r x H3 hx3 ⟨s3, qs, hD3, hcase⟩
          obtain ⟨pj, kj, mj, aj, rfl, hkj, hok2, hmj, haj, hpj⟩ := items2 r x hx3
          refine ⟨pj, _, rfl, .inl (.inl (s3 _ _ hpj)), rfl, kj, _, rfl, .ref aj, [], rfl, rfl, rfl, ?_⟩
          refine ⟨_, rfl, _, rfl, kj, y.2, _, _, rfl, key_dp hkj, key_dp hyk, sh_key hkj, sh_key hyk, _, rfl, ?_⟩
          rw [ku_shown hkj hyk]
          have htake : (T.cho hd cs oo .nil).oks.take (r + 1) = (T.cho hd cs oo .nil).oks.take r ++ [kj] := by
            rw [List.take_succ, hok2]
            rfl
          refine ite2 (fun ck => ?_) (fun ck => ?_)
          · have ck' : kj = y.2 := of_decide_eq_true ck
            have hq : qs = [] := by
              rcases hcase with ⟨_, h⟩ | ⟨j, b, m, hj, h1, _⟩
              · exact h
              · exfalso
                rw [ck'] at hok2
                have h2 := kix_of (oks_nodup uk) h1
                rw [kix_of (oks_nodup uk) hok2] at h2
                have : r = j := Option.some.inj h2
                omega
            subst hq
            refine ⟨_, rfl, _, hD3, by decide, s3 |> fun s3 => same_mut s3 hD _, [.ref aj], upd_same, .inr ⟨r, aj, mj, Nat.lt_succ_self _, by rw [hok2, ck'], hmj, haj, rfl⟩⟩
          · refine ⟨s3, qs, hD3, ?_⟩
            rcases hcase with ⟨h1, h2⟩ | ⟨j, b, m, hj, h1⟩
            · refine .inl ⟨fun h => ?_, h2⟩
              rw [htake] at h
              rcases List.mem_append.mp h with h | h
              · exact h1 h
              · exact ck (decide_eq_true (List.mem_singleton.mp h).symm)
            · exact .inr ⟨j, b, m, by omega, h1⟩
        · rintro H3 ⟨s3, qs, hD3, hcase⟩
          have s03 := sx.trans s3
          rw [items1, List.take_length] at hcase
          rcases hcase with ⟨h1, rfl⟩ | ⟨j, b, m, hj, h1, h2, hb, rfl⟩
          · have hno : stn t' y = none := by
              rw [hst, kix_no h1]
              rfl
            refine ⟨_, rfl, Nat.zero_le _, fun el hel => ⟨.list [], .list [], .lst (SqL.of ((same_new hel _) _ _ hD3)) .nil, .lst (SqL.of upd_same) .nil, shaped_nil, shaped_nil, _, rfl, ?_⟩⟩
            exact iteT ⟨Nat.zero_le _, no _ (s03.trans (same_new hel _)) hno⟩
          · have mm := List.mem_of_getElem? h2
            have fm := ft'.step um mm
            have hyes : stn t' y = some (T.cho hd cs oo .nil, j, m) := by
              rw [hst, kix_of (oks_nodup uk) h1]
              show ((T.cho hd cs oo .nil).inner[j]?).map _ = _
              rw [h2]
              rfl
            refine ⟨_, rfl, Nat.zero_le _, fun el hel => ⟨.list [.list (dat m)], .list [], .lst (SqL.of ((same_new hel _) _ _ hD3)) (.cons ((hb.same (s03.trans (same_new hel _))).dp fm.sok) .nil), .lst (SqL.of upd_same) .nil, fm.shaped, shaped_nil, _, rfl, ?_⟩⟩
            refine iteF ⟨_, rfl, D, _, 0, .ref b, rfl, rfl, SqL.of ((same_new hel _) _ _ hD3), atI_nat (j := 0) rfl, ?_⟩
            refine ⟨b, m, _, _, _, _, rfl, s03.trans (same_new hel _), hb, fm, ?_⟩
            rw [hal, hyes]
            rfl
      | _ => cases hc
  · rintro σ H1 ⟨c, t', o3, o4, o5, o6, rfl, s1, hc, ft', hal⟩
    have e : p.drop pvs.length = [] := by
      rw [hpl]
      exact List.drop_length
    rw [e] at hal
    refine ⟨_, rfl, by show 1 ≤ sizeLine; decide, fun l hl => q l _ (s1.trans (same_new hl _)) (s1.free hl) ?_⟩
    rw [hal]
    exact ⟨c, upd_same, hc⟩
end
end Mw

namespace Mw
open PySem L2
/-! ### the heap of a cut: what it was given, and what is new -/
def cb (H0 H H1 : Hp) : Hp := fun a => match H a with
  | some _ => H0 a
  | none => H1 a
theorem cb_in {H0 H H1 : Hp} {a : Addr} {o : HO} (h : cb H0 H H1 a = some o) : ((∃ u, H a = some u) ∧ H0 a = some o) ∨ (H a = none ∧ H1 a = some o) := by
  unfold cb at h
  split at h
  · rename_i u e
    exact .inl ⟨⟨u, e⟩, h⟩
  · rename_i e
    exact .inr ⟨e, h⟩
theorem cb_new {H0 H H1 : Hp} {a : Addr} (h : H a = none) : cb H0 H H1 a = H1 a := by
  unfold cb
  rw [h]
theorem cb_old {H0 H H1 : Hp} {a : Addr} {u : HO} (h : H a = some u) : cb H0 H H1 a = H0 a := by
  unfold cb
  rw [h]
theorem cb_base {H0 H H1 : Hp} (s : Same H0 H) : Same H0 (cb H0 H H1) := fun a o h => by
  rw [cb_old (s _ _ h)]
  exact h
theorem cb_go {B : Addr} {H0 H H1 H2 : Hp} {ob : HO} (hb : H B = some ob) (g : Go B H1 H2) : Same (cb H0 H H1) (cb H0 H H2) := fun a o h => by
  rcases cb_in h with ⟨⟨u, e⟩, h0⟩ | ⟨e, h1⟩
  · rw [cb_old e]
    exact h0
  · rw [cb_new e]
    exact g.ext a o (by rintro rfl; rw [hb] at e; cases e) h1
theorem cb_up {H0 H H1 H2 : Hp} (g : ∀ b, H1 b = none → H b = none) (s : Same H0 H) (s' : Same H0 H1) : Same (cb H0 H1 H2) (cb H0 H H2) := fun a o h => by
  rcases cb_in h with ⟨⟨u, e⟩, h0⟩ | ⟨e, h1⟩
  · rw [cb_old (s _ _ h0)]
    exact h0
  · rw [cb_new (g a e)]
    exact h1
theorem cb_out {B : Addr} {H0 H H1 : Hp} (s : Same H0 H) (hB : H0 B = none) (g : Go B H H1) : Same (cb H0 H H1) H1 := fun a o h => by
  rcases cb_in h with ⟨⟨u, e⟩, h0⟩ | ⟨e, h1⟩
  · exact g.ext a o (by rintro rfl; rw [hB] at h0; cases h0) (s _ _ h0)
  · exact h1
/-- without one address -/
def hid (l : Addr) (H : Hp) : Hp := fun a => if a = l then none else H a
theorem hid_ne {l a : Addr} {H : Hp} (h : a ≠ l) : hid l H a = H a := by
  unfold hid
  rw [if_neg h]
theorem hid_in {l a : Addr} {H : Hp} {o : HO} (h : hid l H a = some o) : a ≠ l ∧ H a = some o := by
  unfold hid at h
  split at h
  · cases h
  · exact ⟨by assumption, h⟩
theorem hid_out {l : Addr} {H : Hp} : Same (hid l H) H := fun a o h => (hid_in h).2
theorem hid_same {l : Addr} {H H1 : Hp} (s : Same H H1) : Same (hid l H) (hid l H1) := fun a o h => by
  obtain ⟨h1, h2⟩ := hid_in h
  rw [hid_ne h1]
  exact s _ _ h2
theorem hid_free {l : Addr} {H : Hp} (h : H l = none) : Same H (hid l H) := fun a o e => by
  rw [hid_ne (ne_of_none e h)]
  exact e
/-- what was given and what is new, but for a list that is still filled -/
def wd (H0 H : Hp) (l : Addr) (H1 : Hp) : Hp := hid l (cb H0 H H1)
theorem wd_out {H0 H H1 : Hp} {l : Addr} (s0 : Same H0 H) (s : Same H H1) : Same (wd H0 H l H1) H1 := fun a o h => by
  obtain ⟨_, h2⟩ := hid_in h
  rcases cb_in h2 with ⟨_, h3⟩ | ⟨_, h3⟩
  · exact s _ _ (s0 _ _ h3)
  · exact h3
theorem wd_same {H0 H H1 H2 : Hp} {l : Addr} (s : Same H1 H2) : Same (wd H0 H l H1) (wd H0 H l H2) := hid_same fun a o h => by
  rcases cb_in h with ⟨⟨u, e⟩, h3⟩ | ⟨e, h3⟩
  · rw [cb_old e]
    exact h3
  · rw [cb_new e]
    exact s _ _ h3
theorem wd_mut {H0 H H1 : Hp} {l : Addr} (o : HO) : Same (wd H0 H l H1) (wd H0 H l (upd H1 l o)) := fun a u h => by
  obtain ⟨h1, h2⟩ := hid_in h
  unfold wd
  rw [hid_ne h1]
  rcases cb_in h2 with ⟨⟨u', e⟩, h3⟩ | ⟨e, h3⟩
  · rw [cb_old e]
    exact h3
  · rw [cb_new e, upd_ne h1]
    exact h3
theorem wd_base {H0 H H1 : Hp} {l : Addr} (s0 : Same H0 H) (hl : H l = none) : Same H0 (wd H0 H l H1) := fun a o h => by
  have h' := s0 _ _ h
  unfold wd
  rw [hid_ne (ne_of_none h' hl), cb_old h']
  exact h
theorem wd_end {H0 H H1 : Hp} {l : Addr} : Same (wd H0 H l H1) (cb H0 H H1) := hid_out
/-- what a call within it makes -/
theorem wd_call {H0 H H1 H2 : Hp} {l : Addr} {o : HO} (s : Same H H1 ∨ ∀ b, H1 b = none → H b = none) (hl : H1 l = some o) (s2 : Same H1 H2) : Same (cb (wd H0 H l H1) H1 H2) (wd H0 H l H2) := fun a u h => by
  rcases cb_in h with ⟨⟨u', e⟩, h3⟩ | ⟨e, h3⟩
  · exact wd_same s2 _ _ h3
  · have ne : a ≠ l := by rintro rfl; rw [hl] at e; cases e
    have hn : H a = none := by
      rcases s with s | s
      · cases q : H a with
        | none => rfl
        | some o' => rw [s _ _ q] at e; cases e
      · exact s _ e
    unfold wd
    rw [hid_ne ne, cb_new hn]
    exact h3
theorem cb_self {H H' : Hp} (s : Same H H') : Same (cb H H H') H' := fun a o h => by
  rcases cb_in h with ⟨_, h3⟩ | ⟨_, h3⟩
  · exact s _ _ h3
  · exact h3
theorem cb_same {H0 H H1 H2 : Hp} (s : Same H1 H2) : Same (cb H0 H H1) (cb H0 H H2) := fun a o h => by
  rcases cb_in h with ⟨⟨u, e⟩, h3⟩ | ⟨e, h3⟩
  · rw [cb_old e]
    exact h3
  · rw [cb_new e]
    exact s _ _ h3
/-- new at a -/
theorem cb_at {H0 H H1 : Hp} {a : Addr} {o : HO} (hn : H a = none) (h : H1 a = some o) : cb H0 H H1 a = some o := by
  rw [cb_new hn]
  exact h
end Mw

namespace Mw
open PySem L2 Gg
theorem shaped_path {p : Pth} (ok : PthOk p) : shpd (pd p) = true := by
  have all : ∀ q : Pth, (∀ x ∈ q, x ∈ p) → PyData.canLayAll0 (q.map fun x => .tuple [.int x.1, vD x.2]) = true ∧ PyData.depthAll (q.map fun x => .tuple [.int x.1, vD x.2]) ≤ 2 := by
    intro q
    induction q with
    | nil => intro _; exact ⟨rfl, by decide⟩
    | cons x q ih =>
      intro h
      obtain ⟨a1, _, _, a4, _⟩ := vd_ok (ku_vok (ok.2 x (h x (by simp))).2)
      obtain ⟨b1, b2⟩ := ih fun y hy => h y (List.mem_cons_of_mem _ hy)
      refine ⟨?_, ?_⟩
      · show ((true && ((vD x.2).canLay0 && true)) && PyData.canLayAll0 (q.map fun x => .tuple [.int x.1, vD x.2])) = true
        rw [a1, b1]
        rfl
      · show max (max 0 (max (vD x.2).depth 0) + 1) (PyData.depthAll (q.map fun x => .tuple [.int x.1, vD x.2])) ≤ 2
        rw [a4]
        omega
  obtain ⟨a1, a2⟩ := all p fun x hx => hx
  unfold shpd
  rw [Bool.and_eq_true]
  exact ⟨a1, decide_eq_true (show PyData.depthAll _ + 1 ≤ 130 by omega)⟩
theorem shaped_unit : shpd (.tuple []) = true := by decide +kernel
theorem eqv_unit (p : Pth) : PyData.eqv (pd p) (.tuple []) = p.isEmpty := by
  cases p with
  | nil => decide +kernel
  | cons x p => rfl
theorem ku_scal {k : V} (h : k ∈ KU) (s : Str) : scal k (.str s) = true := by
  rcases ku_ok h with ⟨j, rfl, _⟩ | ⟨y, rfl, _⟩ <;> rfl
theorem Sts.tail {H : Hp} {x : Int × V} {p : Pth} {vs : List V} (h : Sts H (x :: p) vs) : Sts H p (vs.drop 1) := by
  obtain ⟨q, ws, rfl, _, h2⟩ := h
  exact h2
def mkc : List V → List T → T
  | k :: ks, m :: ms => .cas k m (mkc ks ms)
  | _, _ => .nil
theorem mkc_snoc {k : V} {m : T} : ∀ {ks : List V} {ms : List T}, ks.length = ms.length → mkc (ks ++ [k]) (ms ++ [m]) = (mkc ks ms).app (.cas k m .nil)
  | [], [], _ => rfl
  | [], _ :: _, h => by cases h
  | _ :: _, [], h => by cases h
  | k' :: ks, m' :: ms, h => congrArg (T.cas k' m') (mkc_snoc (Nat.succ.inj h))
theorem mkc_set : ∀ {cs : T} {ms : List T}, Wf cs true → ms.length = cs.keys.length → mkc cs.keys ms = setMs cs ms
  | .nil, ms, _, h => by
    cases ms with
    | nil => rfl
    | cons _ _ => cases h
  | .cas k m r, [], _, h => by cases h
  | .cas k m r, m' :: ms, w, h => congrArg (T.cas k m') (mkc_set w.2.2.2 (Nat.succ.inj h))
  | .text _ _, _, w, _ => by cases w.1
  | .shw _ _, _, w, _ => by cases w.1
  | .num _, _, w, _ => by cases w.1
  | .cho _ _ _ _, _, w, _ => by cases w.1
theorem cut_one {α : Type} (x : V) (xs : List V) : cutV (x :: xs) (some 1) none = xs := by
  have := cut_suf (x :: xs) 1 (by simp)
  rw [show ((1 : Nat) : Int) = 1 from rfl] at this
  rw [this]
  rfl
section
variable {P : Program} {w : World} {K : PySem.W.Frag} {mg : Str → Option Value} {base : Heap}
/-! ### _law_put -/
abbrev sPu : Stmt := top 29
theorem scPu : FnScope ["message", "path", "inner", "place", "key", "node", "cases", "last", "other", "case"] ["message", "path", "inner"] (defScope sPu) := ⟨rfl, rfl, rfl, by decide +kernel, rfl, by decide +kernel, by decide +kernel⟩
def spPu (K : PySem.W.Frag) (n : Nat) : Sp := fun vs H Q _ => ∃ (a mi : Addr) (yv : V) (p : Pth) (t m : T) (H0 : Hp), vs = [.ref a, yv, .ref mi] ∧ Same H0 H ∧ At H0 a t ∧ Fit t ∧ At H0 mi m ∧ PthAt K H p yv ∧ PthOk p ∧ p.length ≤ n ∧ atP t p ≠ none ∧
  ∀ r H', Same H H' → At (cb H0 H H') r (putP t p m) → Q (.ref r) H'
def spPuP (K : PySem.W.Frag) (n : Nat) : Sp := fun vs H Q E => ∃ e, n = e + 1 ∧ spPu K e vs H Q E
theorem ok_pu {k n : Nat} (hk : 1 ≤ k) {f fS fM : Addr} {fd fdS fdM : FuncData} (F : Fun K "_law_put" "_law_put" sPu f fd)
    (GS : FnG P w K mg base CX0 1 fS fdS ["one", "other"] (spSame K)) (bS : Binds K fdS ["one", "other"] []) (kS : PySem.W.keepIn K (.ref fS) = true) (mS : mg "_law_same" = some (.ref fS))
    (GM : FnG P w K mg base CX0 k fM fdM ["message", "path", "inner"] (spPuP K n)) (bM : Binds K fdM ["message", "path", "inner"] []) (kM : PySem.W.keepIn K (.ref fM) = true) (mM : mg "_law_put" = some (.ref fM))
    (mli : mg "list" = none) : FnG P w K mg base CX0 (k + 1) f fd ["message", "path", "inner"] (spPu K n) := by
  refine okG F scPu (fun vs H Q E h => ?_) (fun A cdv outer s H vs Q E gd hr h => ?_)
  · obtain ⟨a, mi, yv, p, t, m, H0, rfl, _⟩ := h
    rfl
  obtain ⟨a, mi, yv, p, t, m, H0, rfl, s0, hat, ft, hmi, hp, hok, hpn, hne, q⟩ := h
  have nd := scPu.nd
  have hr1 : Room 1 _ := hr.mono hk
  refine ⟨_, (pss_cons (ps_if (pt_cmpR (op_eqE (rm_un hr)) (pv 1) (pe_tup pa_nil) (nomark _)) (pss_one (ps_ret (pe_callTy call_list_of (by rfl) mli (by decide +kernel) (pa_cons (pv 2) pa_nil)))) pss_nil)
      (pss_cons (ps_asg (pe_ix ix_tup (pv 1) pe_int (fun _ _ => rfl)) (pg_tup rfl (pgs_cons (pg_name (i := 3) nd rfl (.inl rfl)) (pgs_cons (pg_name (i := 4) nd rfl (.inl rfl)) pgs_nil))))
      (pss_cons (ps_set (i := 5) nd rfl (.inl rfl) (pe_ix ix_list (pv 0) (pv 3) (fun _ _ => rfl)))
      (pss_cons (ps_set (i := 6) nd rfl (.inl rfl) (pe_lst pa_nil))
      (pss_cons (ps_set (i := 7) nd rfl (.inl rfl) (pe_ix ix_tup (pv 5) (pe_un un_neg pe_int) (fun _ _ => rfl)))
      (pss_cons (ps_for PassesOwn.never rfl (pi_list (pe_ix ix_tup (pv 5) (pe_un un_neg pe_int) (fun _ _ => rfl))) (pg_tup rfl (pgs_cons (pg_name (i := 8) nd rfl (.inl rfl)) (pgs_cons (pg_name (i := 9) nd rfl (.inl rfl)) pgs_nil))) (pss_one (ps_if (pt_val (pe_callG gd GS hr1 rfl mS kS bS .nil pass0 (pa_cons (pv 8) (pa_cons (pv 4) pa_nil)))) (pss_one (ps_expr (pe_bm PySem.F.plainAttrs_list PySem.F.slot_list_append PySem.F.type_list_append mt_append (pv 6) (pa_cons (pe_tup (pa_cons (pv 8) (pa_cons (pe_callG gd GM hr rfl mM kM bM .nil pass0 (pa_cons (pv 9) (pa_cons (pe_slice Ts.sl (pv 1) (po_some pe_int) po_none) (pa_cons (pv 2) pa_nil)))) pa_nil))) pa_nil)))) (pss_one (ps_expr (pe_bm PySem.F.plainAttrs_list PySem.F.slot_list_append PySem.F.type_list_append mt_append (pv 6) (pa_cons (pe_tup (pa_cons (pv 8) (pa_cons (pv 9) pa_nil))) pa_nil)))))))
      (Evl.pss_cut (ps_if (pt_cmpR op_eq (pv 4) pe_str (nomark _)) (pss_one (ps_set (i := 7) nd rfl (.inl rfl) (pe_callG gd GM hr rfl mM kM bM .nil pass0 (pa_cons (pv 7) (pa_cons (pe_slice Ts.sl (pv 1) (po_some pe_int) po_none) (pa_cons (pv 2) pa_nil)))))) pss_nil)
      (pss_one (ps_ret (pe_op op_cat (pe_op op_cat (pe_slice sl_list (pv 0) po_none (po_some (pv 3))) (pe_lst (pa_cons (pe_op op_catT (pe_slice sl_tup (pv 5) po_none (po_some (pe_un un_neg pe_int))) (pe_tup (pa_cons (pv 6) (pa_cons (pv 7) pa_nil)))) pa_nil))) (pe_slice sl_list (pv 0) (po_some (pe_op op_add (pv 3) pe_int)) po_none))))))))))), ?_⟩
  obtain ⟨pa, pvs, rfl, hp1, hp2⟩ := id hp
  refine ⟨_, rfl, Nat.zero_le _, fun el hel => ⟨pd p, .tuple [], (hp.same (same_new hel _)).dp hok, .tup (SqT.of upd_same) .nil, shaped_path hok, shaped_unit, _, rfl, ?_⟩⟩
  have s1 : Same H (upd H el (.tup [])) := same_new hel _
  generalize upd H el (.tup []) = H1 at s1
  rw [eqv_unit]
  cases p with
  | nil =>
    obtain ⟨mvs, hm1, hm2⟩ := hmi
    have hmH := s1 _ _ (s0 _ _ hm1)
    refine iteT ⟨_, rfl, mi, _, rfl, .inl (SqL.of hmH), fun l hl => q l _ (s1.trans (same_new hl _)) ⟨mvs, cb_at (s1.free hl) upd_same, ?_⟩⟩
    exact hm2.same (cb_base s0)
  | cons y p =>
    refine iteF ?_
    obtain ⟨qa, pws, rfl, hqa, hp2'⟩ := id hp2
    have hp1' := Ts.same s1 hp1
    have hqa' := s1 _ _ hqa
    have hyk := (hok.2 y (by simp)).2
    have hok' : PthOk p := ⟨by have := hok.1; simp only [List.length_cons] at this; omega, fun x hx => hok.2 x (List.mem_cons_of_mem _ hx)⟩
    obtain ⟨e, rfl⟩ : ∃ e, n = e + 1 := ⟨n - 1, by simp only [List.length_cons] at hpn; omega⟩
    have hpe : p.length ≤ e := by simp only [List.length_cons] at hpn; omega
    obtain ⟨⟨u, j, mj⟩, hst⟩ : ∃ z, stn t y = some z := by
      cases hs : stn t y with
      | none => rw [atP_cons, hs] at hne; exact absurd rfl hne
      | some z => exact ⟨z, rfl⟩
    have hne' : atP mj p ≠ none := by
      rw [atP_cons, hst] at hne
      exact hne
    obtain ⟨ix, ex, hux⟩ := stn_idx hst
    obtain ⟨_, hmj, hy0, hkix⟩ := stn_inner hst
    have um := List.mem_of_getElem? hux
    have mm := List.mem_of_getElem? hmj
    have uw := nodes_wf ft.wf u um
    have uk := kd_nodes ft.kd u um
    have uz := node_sz u um
    have fm := ft.step um mm
    obtain ⟨vs0, ha1, ha2⟩ := id hat
    have hns := ha2.ns
    have hnl : ix < vs0.length := by
      rw [hns.length]
      exact (List.getElem?_eq_some_iff.mp hux).1
    have hvl : vs0.length < 100000 := by
      rw [ha2.length]
      have := len_sz t
      have := ft.sz
      omega
    obtain ⟨u', hu', hun⟩ := hns.get (v := vs0[ix]) (List.getElem?_eq_getElem hnl)
    rw [hux] at hu'
    cases hu'
    have ha1' := s1 _ _ (s0 _ _ ha1)
    refine ⟨_, rfl, pa, _, 0, .ref qa, rfl, rfl, hp1', atI_nat (j := 0) rfl, qa, _, rfl, .inl (.inl hqa'), rfl, .int y.1, _, rfl, y.2, [], rfl, rfl, ?_⟩
    cases u with
    | cho hd cs oo rr =>
      cases (show rr = .nil from nodes_single _ um)
      obtain ⟨pn, nws, ca, cvs, oa, ovs, ee, hpn0, hca, hcs, hoa, hos, _⟩ := hun
      have hvp : vs0[ix] = .ref pn := (List.cons.inj ee).1
      have hsH : Same H0 H1 := s0.trans s1
      refine ⟨_, rfl, _, rfl, a, _, y.1, .ref pn, rfl, rfl, SqL.of ha1', at_of ex (by rw [List.getElem?_eq_getElem hnl, hvp]), Nat.zero_le _, fun cl hcl => ?_⟩
      have hcl0 : H cl = none := s1.free hcl
      have s2 : Same H1 (upd H1 cl (.lst [])) := same_new hcl _
      refine ⟨_, rfl, 1, rfl, pn, _, -1, .ref oa, rfl, rfl, .inl (.inl (s2 _ _ (hsH _ _ hpn0))), atI_m1 _ _ _, ?_⟩
      obtain ⟨k1, k2⟩ := keys_at hcs uw.2.2.1
      obtain ⟨ams, am1, am2, am3⟩ := Nodes.msgs hcs uw.2.2.1
      have hml := (msgs_len uw.2.2.1).1
      have hcz : cs.keys.length ≤ 20000 := by
        have e1 := (msgs_len uw.2.2.1).2
        have e2 := len_sz cs
        have := ft.sz
        simp only [T.sz] at uz
        omega
      generalize hL : (cs.msgs ++ [oo]).set j (putP mj p m) = L
      have hLl : L.length = cs.keys.length + 1 := by
        rw [← hL, List.length_set, List.length_append, hml]
        rfl
      have hLj : ∀ r mr, (cs.msgs ++ [oo])[r]? = some mr → L[r]? = some (if r = j then putP mj p m else mr) := fun r mr h => by
        rw [← hL, List.getElem?_set]
        have := (List.getElem?_eq_some_iff.mp h).1
        by_cases e : j = r
        · subst e
          rw [if_pos rfl, if_pos rfl, if_pos this]
        · rw [if_neg e, if_neg (fun z => e z.symm)]
          exact h
      refine ⟨_, rfl, 2, rfl, pn, _, -2, .ref ca, rfl, rfl, .inl (.inl (s2 _ _ (hsH _ _ hpn0))), atI_m2 _ _ _, ca, rfl, ⟨_, SqL.of (s2 _ _ (hsH _ _ hca))⟩, for_list (K := K) (a := ca) (xs := cvs) (fun r σ H' => ∃ (tvs : List V) (o8 o9 : Option V), σ = [some (.ref a), some (.ref pa), some (.ref mi), some (.int y.1), some y.2, some (.ref pn), some (.ref cl), some (.ref oa), o8, o9] ∧ Same H H' ∧ H' cl = some (.lst tvs) ∧ tvs.length = r ∧ Nodes (wd H0 H cl H') (mkc (cs.keys.take r) (L.take r)) tvs)
        ⟨[], none, none, rfl, s1.trans s2, upd_same, rfl, rfl⟩ (fun r σ H' _ ⟨_, _, _, _, s', _⟩ => SqL.of (s' _ _ (s0 _ _ hca))) ?_ ?_⟩
      · rintro r x σ H2 hx ⟨tvs, o8, o9, rfl, sH2, hcl2, htl, htn⟩
        obtain ⟨pj, kj, x1, rfl, hkj, hpj⟩ := k2 r x hx
        obtain ⟨pj', kj', aj, f1, f2, f3⟩ := am3 r _ hx
        cases f1
        rw [hpj] at f2
        cases f2
        obtain ⟨mr, aj', g1, g2, g3⟩ := am1.get f3
        cases g2
        have hrl := (List.getElem?_eq_some_iff.mp hkj).1
        have hkjU := (uk.1 _ (List.mem_of_getElem? hkj)).1
        have hmr : (cs.msgs ++ [oo])[r]? = some mr := by
          rw [List.getElem?_append_left (List.getElem?_eq_some_iff.mp g1).1]
          exact g1
        have hkr : (T.cho hd cs oo .nil).oks[r]? = some kj := by
          show (cs.keys ++ [_])[r]? = _
          rw [List.getElem?_append_left hrl]
          exact hkj
        have hmk : ∀ v, L[r]? = some v → mkc (cs.keys.take (r + 1)) (L.take (r + 1)) = (mkc (cs.keys.take r) (L.take r)).app (.cas kj v .nil) := fun v hv => by
          rw [List.take_succ, List.take_succ, hkj, hv]
          exact mkc_snoc (by rw [List.length_take, List.length_take, hLl]; omega)
        refine ⟨pj, _, rfl, .inl (.inl (sH2 _ _ (s0 _ _ hpj))), rfl, kj, _, rfl, .ref aj, [], rfl, rfl, ?_⟩
        refine ⟨_, rfl, _, rfl, kj, y.2, _, _, rfl, key_dp hkjU, key_dp hyk, sh_key hkjU, sh_key hyk, _, rfl, ?_⟩
        rw [ku_shown hkjU hyk]
        refine ite2 (fun ck => ?_) (fun ck => ?_)
        · have ck' : kj = y.2 := of_decide_eq_true ck
          have hrj : r = j := by
            rw [ck'] at hkr
            have h2 := kix_of (oks_nodup uk) hkr
            rw [hkix] at h2
            exact (Option.some.inj h2).symm
          have hmm : mr = mj := by
            subst hrj
            have : (T.cho hd cs oo .nil).inner[r]? = some mr := hmr
            rw [hmj] at this
            exact (Option.some.inj this).symm
          subst hmm
          refine ⟨_, rfl, .inl ⟨rfl, _, SqL.of hcl2⟩, _, rfl, _, rfl, _, rfl, _, rfl, pa, _, rfl, Ts.same sH2 hp1, fun p' H3 s3 hp' => ?_⟩
          rw [cut_one (α := V)] at hp'
          have sH3 := sH2.trans s3
          have hcl3 := s3 _ _ hcl2
          have w23 : Same (wd H0 H cl H2) (wd H0 H cl H3) := wd_same s3
          refine ⟨_, rfl, e, rfl, aj, mi, .ref p', p, mr, m, wd H0 H cl H3, rfl, wd_out s0 sH3, g3.same (wd_base s0 hcl0), fm, hmi.same (wd_base s0 hcl0), ⟨p', pws, rfl, hp', hp2'.same sH3⟩, hok', hpe, hne', fun r' H4 s4 hr4 => ⟨by show 2 ≤ sizeLine; decide, fun tp htp => ?_⟩⟩
          have hcl4 := s4 _ _ hcl3
          have ntp : tp ≠ cl := (ne_of_none hcl4 htp).symm
          refine ⟨cl, _, _, rfl, rfl, same_new htp _ _ _ hcl4, sz_line (by omega), ?_⟩
          have sH5 : Same H (upd (upd H4 tp (.tup [kj, .ref r'])) cl (.lst (tvs ++ [.ref tp]))) := same_mut ((sH3.trans s4).trans (same_new htp _)) hcl0 _
          have w45 : Same (wd H0 H cl H4) (wd H0 H cl (upd (upd H4 tp (.tup [kj, .ref r'])) cl (.lst (tvs ++ [.ref tp])))) := (wd_same (same_new htp _)).trans (wd_mut _)
          have hat' := (hr4.same (wd_call (.inl sH3) hcl3 s4)).same w45
          have htpH : H tp = none := (sH3.trans s4).free htp
          refine ⟨tvs ++ [.ref tp], _, _, rfl, sH5, upd_same, by rw [List.length_append, htl]; rfl, ?_⟩
          rw [hmk _ (hLj r mr hmr), if_pos hrj]
          obtain ⟨avs, b1, b2⟩ := hat'
          refine Nodes.app (u := .cas kj (putP mr p m) .nil) ⟨tp, [], r', avs, rfl, ?_, b1, b2, rfl⟩ (htn.same ((w23.trans (wd_same s4)).trans w45))
          unfold wd
          rw [hid_ne ntp, cb_new htpH, upd_ne ntp]
          exact upd_same
        · have hrj : r ≠ j := fun hrj => by
            subst hrj
            obtain ⟨h1, _⟩ := kix_lt hkix
            rw [hkr] at h1
            exact ck (decide_eq_true (Option.some.inj h1))
          refine ⟨_, rfl, .inl ⟨rfl, _, SqL.of hcl2⟩, _, rfl, _, rfl, by show 2 ≤ sizeLine; decide, fun tp htp => ?_⟩
          have ntp : tp ≠ cl := (ne_of_none hcl2 htp).symm
          refine ⟨cl, _, _, rfl, rfl, same_new htp _ _ _ hcl2, sz_line (by omega), ?_⟩
          have sH5 : Same H (upd (upd H2 tp (.tup [kj, .ref aj])) cl (.lst (tvs ++ [.ref tp]))) := same_mut (sH2.trans (same_new htp _)) hcl0 _
          have w45 : Same (wd H0 H cl H2) (wd H0 H cl (upd (upd H2 tp (.tup [kj, .ref aj])) cl (.lst (tvs ++ [.ref tp])))) := (wd_same (same_new htp _)).trans (wd_mut _)
          have htpH : H tp = none := sH2.free htp
          refine ⟨tvs ++ [.ref tp], _, _, rfl, sH5, upd_same, by rw [List.length_append, htl]; rfl, ?_⟩
          rw [hmk _ (hLj r mr hmr), if_neg hrj]
          obtain ⟨avs, b1, b2⟩ := (g3.same (wd_base (l := cl) s0 hcl0)).same w45
          refine Nodes.app (u := .cas kj mr .nil) ⟨tp, [], aj, avs, rfl, ?_, b1, b2, rfl⟩ (htn.same w45)
          unfold wd
          rw [hid_ne ntp, cb_new htpH, upd_ne ntp]
          exact upd_same
      · rintro σ H2 ⟨tvs, o8, o9, rfl, sH2, hcl2, htl, htn⟩
        rw [k1, List.take_length] at htn
        have hoo : (cs.msgs ++ [oo])[cs.keys.length]? = some oo := by
          rw [← hml, List.getElem?_append_right (Nat.le_refl _), Nat.sub_self]
          rfl
        have hko : (T.cho hd cs oo .nil).oks[cs.keys.length]? = some (.str "other") := by
          show (cs.keys ++ [_])[cs.keys.length]? = _
          rw [List.getElem?_append_right (Nat.le_refl _), Nat.sub_self]
          rfl
        have hLz := hLj _ oo hoo
        refine ⟨fun σ' H' => ∃ lz, σ' = [some (.ref a), some (.ref pa), some (.ref mi), some (.int y.1), some y.2, some (.ref pn), some (.ref cl), some (.ref lz), o8, o9] ∧ Same H2 H' ∧ At (wd H0 H cl H') lz (if cs.keys.length = j then putP mj p m else oo), ?_, ?_⟩
        · refine ⟨_, rfl, ku_scal hyk _, _, rfl, ite2 (fun ck => ?_) (fun ck => ?_)⟩
          · have ck' : y.2 = .str "other" := of_decide_eq_true ck
            have hrj : cs.keys.length = j := by
              rw [← ck'] at hko
              have h2 := kix_of (oks_nodup uk) hko
              rw [hkix] at h2
              exact (Option.some.inj h2).symm
            have hmm : oo = mj := by
              rw [← hrj] at hmj
              have : (T.cho hd cs oo .nil).inner[cs.keys.length]? = some oo := hoo
              rw [hmj] at this
              exact (Option.some.inj this).symm
            subst hmm
            refine ⟨_, rfl, _, rfl, _, rfl, pa, _, rfl, Ts.same sH2 hp1, fun p' H3 s3 hp' => ?_⟩
            rw [cut_one (α := V)] at hp'
            have sH3 := sH2.trans s3
            have hcl3 := s3 _ _ hcl2
            refine ⟨_, rfl, e, rfl, oa, mi, .ref p', p, oo, m, wd H0 H cl H3, rfl, wd_out s0 sH3, (show At H0 oa oo from ⟨ovs, hoa, hos⟩).same (wd_base s0 hcl0), fm, hmi.same (wd_base s0 hcl0), ⟨p', pws, rfl, hp', hp2'.same sH3⟩, hok', hpe, hne', fun r' H4 s4 hr4 => ⟨r', rfl, s3.trans s4, ?_⟩⟩
            rw [if_pos hrj]
            exact hr4.same (wd_call (.inl sH3) hcl3 s4)
          · have hrj : ¬ cs.keys.length = j := fun hrj => by
              subst hrj
              obtain ⟨h1, _⟩ := kix_lt hkix
              rw [hko] at h1
              exact ck (decide_eq_true (Option.some.inj h1).symm)
            refine ⟨oa, rfl, Same.refl _, ?_⟩
            rw [if_neg hrj]
            exact (show At H0 oa oo from ⟨ovs, hoa, hos⟩).same (wd_base s0 hcl0)
        · rintro σ H3 ⟨lz, rfl, s3, hlz⟩
          have sH3 := sH2.trans s3
          have hcl3 := s3 _ _ hcl2
          have hn3 := htn.same (wd_same (H0 := H0) (H := H) (l := cl) s3)
          have ha3 := sH3 _ _ (s0 _ _ ha1)
          have hpn3 := sH3 _ _ (s0 _ _ hpn0)
          have msl : (L.take cs.keys.length).length = cs.keys.length := by
            rw [List.length_take, hLl]
            omega
          have eL : L = L.take cs.keys.length ++ [if cs.keys.length = j then putP mj p m else oo] := by
            have h1 : L.drop cs.keys.length = [if cs.keys.length = j then putP mj p m else oo] := by
              obtain ⟨h2, h3⟩ := List.getElem?_eq_some_iff.mp hLz
              rw [List.drop_eq_getElem_cons h2, h3, List.drop_eq_nil_of_le (by rw [hLl]; exact Nat.le_refl _)]
            rw [← h1, List.take_append_drop]
          refine ⟨_, rfl, _, rfl, _, rfl, a, _, rfl, SqL.of ha3, fun p1 hp1'' => ?_⟩
          rw [ex, cut_pre _ _ (Nat.le_of_lt hnl)]
          have t1 : Same H3 (upd H3 p1 (.lst (vs0.take ix))) := same_new hp1'' _
          refine ⟨_, rfl, 2, rfl, _, rfl, pn, _, rfl, .inl (.inl (t1 _ _ hpn3)), cut_ne _ _ _, fun p2 hp2'' => ?_⟩
          rw [cut_hd]
          have t2 : Same (upd H3 p1 (.lst (vs0.take ix))) (upd (upd H3 p1 (.lst (vs0.take ix))) p2 (.tup hd)) := same_new hp2'' _
          refine ⟨_, rfl, _, rfl, by show 2 ≤ sizeLine; decide, fun p3 hp3 => ?_⟩
          have t3 : Same (upd (upd H3 p1 (.lst (vs0.take ix))) p2 (.tup hd)) (upd (upd (upd H3 p1 (.lst (vs0.take ix))) p2 (.tup hd)) p3 (.tup [.ref cl, .ref lz])) := same_new hp3 _
          obtain ⟨hhne, hhl⟩ := hdW_ne uw.2.1
          refine ⟨p2, p3, hd, _, rfl, rfl, .inl (.inl (t3 _ _ upd_same)), .inl (.inl upd_same), hhne, le_line (by show hd.length + 2 < 10000000; omega), (fun z => nomatch z), fun _ p4 hp4 => ⟨by show 1 ≤ sizeLine; decide, fun l2 hl2 => ?_⟩⟩
          generalize hH4 : upd (upd (upd (upd H3 p1 (.lst (vs0.take ix))) p2 (.tup hd)) p3 (.tup [.ref cl, .ref lz])) p4 (.tup (hd ++ [.ref cl, .ref lz])) = H4 at hl2
          have t4 : Same H3 H4 := by rw [← hH4]; exact ((t1.trans t2).trans t3).trans (same_new hp4 _)
          have hp44 : H4 p4 = some (.tup (hd ++ [.ref cl, .ref lz])) := by rw [← hH4]; exact upd_same
          have hp14 : H4 p1 = some (.lst (vs0.take ix)) := by rw [← hH4]; exact (same_new hp4 _) _ _ (t3 _ _ (t2 _ _ upd_same))
          have hp4H : H p4 = none := (sH3.trans ((t1.trans t2).trans t3)).free hp4
          refine ⟨p1, l2, _, _, rfl, rfl, same_new hl2 _ _ _ hp14, upd_same, le_line (by rw [List.length_take]; show min ix vs0.length + 1 < 10000000; omega), fun l3 hl3 => ?_⟩
          have t5 : Same H4 (upd (upd H4 l2 (.lst [.ref p4])) l3 (.lst (vs0.take ix ++ [.ref p4]))) := (same_new hl2 _).trans (same_new hl3 _)
          refine ⟨_, rfl, _, rfl, _, _, rfl, rfl, _, rfl, a, _, rfl, SqL.of (t5 _ _ (t4 _ _ ha3)), fun p6 hp6 => ?_⟩
          rw [show (ix : Int) + 1 = ((ix + 1 : Nat) : Int) by omega, cut_suf _ _ hnl]
          refine ⟨l3, p6, _, _, rfl, rfl, same_new hp6 _ _ _ upd_same, upd_same, le_line (by rw [List.length_append, List.length_take, List.length_drop]; show min ix vs0.length + 1 + (vs0.length - (ix + 1)) < 10000000; omega), fun l5 hl5 => ?_⟩
          rw [set_parts hnl]
          generalize hH7 : upd (upd (upd (upd H4 l2 (.lst [.ref p4])) l3 (.lst (vs0.take ix ++ [.ref p4]))) p6 (.lst (vs0.drop (ix + 1)))) l5 (.lst (vs0.set ix (.ref p4))) = H7
          have t7 : Same H4 H7 := by rw [← hH7]; exact (t5.trans (same_new hp6 _)).trans (same_new hl5 _)
          have h57 : H7 l5 = some (.lst (vs0.set ix (.ref p4))) := by rw [← hH7]; exact upd_same
          have s37 := t4.trans t7
          have sH7 := sH3.trans s37
          have hl5H : H l5 = none := ((sH3.trans t4).trans (t5.trans (same_new hp6 _))).free hl5
          refine q l5 H7 sH7 ⟨vs0.set ix (.ref p4), cb_at hl5H h57, ?_⟩
          have w37 : Same (wd H0 H cl H3) (cb H0 H H7) := (wd_same s37).trans wd_end
          have hun' : Nodes (cb H0 H H7) (setI (.cho hd cs oo .nil) j (putP mj p m)) [.ref p4] := by
            show Nodes _ (.cho hd (setMs cs ((cs.msgs ++ [oo]).set j (putP mj p m))) (((cs.msgs ++ [oo]).set j (putP mj p m)).getD cs.msgs.length .nil) .nil) _
            rw [hL, hml, List.getD_eq_getElem?_getD, hLz, eL, setMs_app uw.2.2.1 msl, ← mkc_set uw.2.2.1 msl]
            obtain ⟨avs, z1, z2⟩ := hlz.same w37
            exact ⟨p4, [], cl, tvs, lz, avs, rfl, cb_at hp4H (t7 _ _ hp44), cb_at hcl0 (s37 _ _ hcl3), hn3.same w37, z1, z2, rfl⟩
          rw [putP_cons hst]
          refine Ns.nodes ?_
          rw [nodes_ch (fun u hu => ?_), show y.1.toNat = ix by omega]
          · exact Ns.set hun' (hns.same (cb_base s0))
          · rcases List.mem_or_eq_of_mem_set hu with h | h
            · exact nodes_single u h
            · rw [h]
              exact rfl
    | _ => exact absurd (cho_of_kix hkix) (by simp [T.isCho])
theorem all_pu {f fS : Addr} {fd fdS : FuncData} (F : Fun K "_law_put" "_law_put" sPu f fd) (b : Binds K fd ["message", "path", "inner"] []) (m : mg "_law_put" = some (.ref f))
    (GS : FnG P w K mg base CX0 1 fS fdS ["one", "other"] (spSame K)) (bS : Binds K fdS ["one", "other"] []) (kS : PySem.W.keepIn K (.ref fS) = true) (mS : mg "_law_same" = some (.ref fS)) (mli : mg "list" = none) :
    ∀ n, FnG P w K mg base CX0 (n + 2) f fd ["message", "path", "inner"] (spPu K n)
  | 0 => ok_pu (Nat.le_refl 1) F GS bS kS mS (none_leftG fun vs H Q E ⟨_, e, _⟩ => by omega) b F.kp m mli
  | n + 1 => ok_pu (by omega) F GS bS kS mS ((all_pu F b m GS bS kS mS mli n).imp fun vs H Q E ⟨e, he, h⟩ => by
      cases he
      exact h) b F.kp m mli
end
end Mw

namespace Mw
open PySem L2 Gg
theorem Sts.last {H : Hp} : ∀ {p : Pth} {vs : List V}, Sts H p vs → p ≠ [] → ∃ p0 x ws q, p = p0 ++ [x] ∧ vs = ws ++ [.ref q] ∧ Sts H p0 ws ∧ H q = some (.tup [.int x.1, x.2])
  | [], _, _, h => absurd rfl h
  | [x], _, h, _ => by
    obtain ⟨q, ws, rfl, h1, h2⟩ := h
    rw [show ws = [] from h2]
    exact ⟨[], x, [], q, rfl, rfl, rfl, h1⟩
  | x :: y :: p, _, h, _ => by
    obtain ⟨q, ws, rfl, h1, h2⟩ := h
    obtain ⟨p0, z, us, r, e1, e2, e3, e4⟩ := Sts.last h2 (by simp)
    exact ⟨x :: p0, z, .ref q :: us, r, by rw [e1]; rfl, by rw [e2]; rfl, ⟨q, us, rfl, h1, e3⟩, e4⟩
theorem Sts.app {H : Hp} {p' : Pth} {vs' : List V} (h' : Sts H p' vs') : ∀ {p : Pth} {vs : List V}, Sts H p vs → Sts H (p ++ p') (vs ++ vs')
  | [], _, h => by
    rw [show _ = [] from h]
    exact h'
  | x :: p, _, h => by
    obtain ⟨q, ws, rfl, h1, h2⟩ := h
    exact ⟨q, ws ++ vs', rfl, h1, Sts.app h' h2⟩
theorem cut_last (xs : List V) (z : V) : cutV (xs ++ [z]) none (some (-1)) = xs := by
  unfold cutV
  rw [HT.sIx_none, List.drop_zero]
  have : HT.sIx (xs ++ [z]).length (xs ++ [z]).length (some (-1)) = xs.length := by
    show (if (-1 : Int) < 0 then ((-1 : Int) + ((xs ++ [z]).length : Int)).toNat else min (-1 : Int).toNat (xs ++ [z]).length) = xs.length
    rw [if_pos (by decide), List.length_append]
    show ((-1 : Int) + ((xs.length + 1 : Nat) : Int)).toNat = xs.length
    omega
  rw [this, Nat.sub_zero, List.take_append_of_le_length (Nat.le_refl _), List.take_length]
/-- a short path -/
def PthC (p : Pth) : Prop := p.length ≤ 28 ∧ ∀ x ∈ p, (0 ≤ x.1 ∧ x.1 ≤ 6000) ∧ x.2 ∈ KU
theorem PthC.ok {p : Pth} (h : PthC p) : PthOk p := ⟨by have := h.1; omega, fun x hx => by
  obtain ⟨⟨a, b⟩, c⟩ := h.2 x hx
  exact ⟨⟨by omega, by omega⟩, c⟩⟩
def keys1 : List V := [.str "other", .str "he", .int 0, .str "one"]
def keys2 : List V := [.int 7, .str "it", .str "many", .int 1]
theorem keys12 : (∀ k ∈ keys1, k ∈ KU) ∧ ∀ k ∈ keys2, k ∈ KU := by
  constructor
  · intro k h
    simp only [keys1, List.mem_cons, List.not_mem_nil, or_false] at h
    rcases h with rfl | rfl | rfl | rfl <;> simp [KU]
  · intro k h
    simp only [keys2, List.mem_cons, List.not_mem_nil, or_false] at h
    rcases h with rfl | rfl | rfl | rfl <;> simp [KU]
section
variable {P : Program} {w : World} {K : PySem.W.Frag} {mg : Str → Option Value} {base : Heap}
/-! ### _law_path -/
abbrev sPa : Stmt := top 30
theorem scPa : FnScope ["box", "message", "paths", "path", "kind", "place", "key"] ["box", "message"] (defScope sPa) := ⟨rfl, rfl, rfl, by decide +kernel, rfl, by decide +kernel, by decide +kernel⟩
def spPa (K : PySem.W.Frag) : Sp := fun vs H Q _ => ∃ (B b a : Addr) (t : T), vs = [.ref B, .ref a] ∧ Box H B b ∧ At H a t ∧ Wf t false ∧ Kd t ∧ t.sz ≤ 6000 ∧ t.dep ≤ 28 ∧ ∀ v p H', Go B H H' → Box H' B b → PthAt K H' p v → PthOk p → Q v H'
set_option maxHeartbeats 0 in
theorem ok_pa {f fL fD : Addr} {fd fdL fdD : FuncData} (F : Fun K "_law_path" "_law_path" sPa f fd)
    (GL : FnOk P w K mg base CX0 29 fL fdL ["message"] (spLp K 28)) (bL : Binds K fdL ["message"] []) (kL : PySem.W.keepIn K (.ref fL) = true) (mL : mg "_law_paths" = some (.ref fL))
    (GD : FnOk P w K mg base CX0 1 fD fdD ["box", "many"] spDraw) (bD : Binds K fdD ["box", "many"] []) (kD : PySem.W.keepIn K (.ref fD) = true) (mD : mg "_law_draw" = some (.ref fD))
    (ml : mg "len" = none) (mi : mg "int" = none) : FnOk P w K mg base CX0 30 f fd ["box", "message"] (spPa K) := by
  refine F.ok scPa (fun vs H Q E h => ?_) (fun cdv A outer s H vs Q E hr h => ?_)
  · obtain ⟨B, b, a, t, rfl, _⟩ := h
    rfl
  obtain ⟨B, b, a, t, rfl, hb, hat, hw, hk, hz, hd, q⟩ := h
  have nd := scPa.nd
  refine ⟨_, (pss_cons (ps_set (i := 2) nd rfl (.inl rfl) (pe_op op_cat (pe_lst (pa_cons (pe_tup pa_nil) pa_nil)) (pe_call GL (hr.mono (by decide)) rfl mL kL bL .nil pass0 (pa_cons (pv 1) pa_nil))))
      (pss_cons (ps_set (i := 3) nd rfl (.inl rfl) (pe_ix ix_list (pv 2) (pe_op op_mod (pe_callTy call_int1 (by rfl) mi (by decide +kernel) (pa_cons (pe_call GD (hr.mono (by decide)) rfl mD kD bD .nil pass0 (pa_cons (pv 0) (pa_cons pe_int pa_nil))) pa_nil)) (pe_callB call_len_seq (by rfl) ml PySem.boot_len (pa_cons (pv 2) pa_nil))) (fun _ _ => rfl)))
      (pss_cons (ps_set (i := 4) nd rfl (.inl rfl) (pe_call GD (hr.mono (by decide)) rfl mD kD bD .nil pass0 (pa_cons (pv 0) (pa_cons pe_int pa_nil))))
      (pss_cons (ps_if (pt_cmpR op_eq (pv 4) pe_int (nomark _)) (pss_one (ps_ret (pe_op Ts.cat (pv 3) (pe_tup (pa_cons (pe_tup (pa_cons (pe_op op_sub (pe_call GD (hr.mono (by decide)) rfl mD kD bD .nil pass0 (pa_cons (pv 0) (pa_cons pe_int pa_nil))) pe_int) (pa_cons (pe_ix ix_list (pe_lst (pa_cons pe_str (pa_cons pe_str (pa_cons pe_int (pa_cons pe_str pa_nil))))) (pe_call GD (hr.mono (by decide)) rfl mD kD bD .nil pass0 (pa_cons (pv 0) (pa_cons pe_int pa_nil))) (fun _ _ => rfl)) pa_nil))) pa_nil))))) pss_nil)
      (Evl.pss_cut (ps_if (PW.pt (pw_and (pt_cmpR op_eq (pv 4) pe_int (nomark _)) (pw_and1 (pt_cmpR (op_neE (rm_un hr)) (pv 3) (pe_tup pa_nil) (nomark _))))) (pss_cons (ps_asg (pe_ix ix_tup (pv 3) (pe_un un_neg pe_int) (fun _ _ => rfl)) (pg_tup rfl (pgs_cons (pg_name (i := 5) nd rfl (.inl rfl)) (pgs_cons (pg_name (i := 6) nd rfl (.inl rfl)) pgs_nil))))
      (pss_one (ps_ret (pe_op Ts.cat (pe_slice Ts.sl (pv 3) po_none (po_some (pe_un un_neg pe_int))) (pe_tup (pa_cons (pe_tup (pa_cons (pv 5) (pa_cons (pe_ix ix_list (pe_lst (pa_cons pe_int (pa_cons pe_str (pa_cons pe_str (pa_cons pe_int pa_nil))))) (pe_call GD (hr.mono (by decide)) rfl mD kD bD .nil pass0 (pa_cons (pv 0) (pa_cons pe_int pa_nil))) (fun _ _ => rfl)) pa_nil))) pa_nil)))))) pss_nil)
      (pss_cons (ps_if (PW.pt (pw_and (pt_cmpR op_eq (pv 4) pe_int (nomark _)) (pw_and1 (pt_cmpR (op_neE (rm_un hr)) (pv 3) (pe_tup pa_nil) (nomark _))))) (pss_one (ps_ret (pe_op Ts.cat (pe_tup (pa_cons (pe_tup (pa_cons (pe_op op_add (pe_ix ix_tup (pe_ix ix_tup (pv 3) pe_int (fun _ _ => rfl)) pe_int (fun _ _ => rfl)) pe_int) (pa_cons (pe_ix ix_tup (pe_ix ix_tup (pv 3) pe_int (fun _ _ => rfl)) pe_int (fun _ _ => rfl)) pa_nil))) pa_nil)) (pe_slice Ts.sl (pv 3) (po_some pe_int) po_none)))) pss_nil)
      (pss_one (ps_ret (pv 3))))))))), ?_⟩
  -- paths
  refine ⟨Nat.zero_le _, fun el hel => ⟨by show 1 ≤ sizeLine; decide, fun l1 hl1 => ?_⟩⟩
  have s1 : Same H (upd H el (.tup [])) := same_new hel _
  have s2 : Same (upd H el (.tup [])) (upd (upd H el (.tup [])) l1 (.lst [.ref el])) := same_new hl1 _
  refine ⟨_, rfl, a, t, rfl, hat.same (s1.trans s2), hw, hk, hz, hd, fun l2 H2 ps hl2 s3 hl2' hps hpl => ?_⟩
  have sH2 := (s1.trans s2).trans s3
  refine ⟨l1, l2, _, _, rfl, rfl, s3 _ _ upd_same, hl2', le_line (by show 1 + ps.length < 10000000; omega), fun pl hpl' => ?_⟩
  generalize hH3 : upd H2 pl (.lst ([.ref el] ++ ps)) = H3
  have s23 : Same H2 H3 := by rw [← hH3]; exact same_new hpl' _
  have hpl3 : H3 pl = some (.lst ([.ref el] ++ ps)) := by rw [← hH3]; exact upd_same
  have sH3 := sH2.trans s23
  have hel3 : H3 el = some (.tup []) := s23 _ _ (s3 _ _ (s2 _ _ upd_same))
  have all : ∀ v ∈ ([.ref el] ++ ps : List V), ∃ p, PthAt K H3 p v ∧ PthC p := fun v hv => by
    rcases List.mem_cons.mp hv with rfl | hv
    · exact ⟨[], ⟨el, [], rfl, .inl (.inl hel3), rfl⟩, by decide, fun x hx => by cases hx⟩
    · obtain ⟨p, h1, h2⟩ := hps v hv
      exact ⟨p, h1.same s23, h2.2.1, h2.2.2⟩
  have b3 := hb.same sH3
  -- path
  refine ⟨_, rfl, _, rfl, B, b, 900, rfl, by decide, b3, fun z H4 z0 z9 g4 b4 => .inl ⟨_, rfl, ?_⟩⟩
  have plB : pl ≠ B := by
    rintro rfl
    obtain ⟨ds, i, h, _⟩ := hb
    rw [sH2.free hpl'] at h
    cases h
  have hpl4 := g4.ext _ _ plB hpl3
  have hlen : (0 : Int) < (([.ref el] ++ ps : List V).length : Int) := by
    show (0 : Int) < ((ps.length + 1 : Nat) : Int)
    omega
  refine ⟨_, rfl, pl, _, rfl, .inl (SqL.of hpl4), _, _, rfl, rfl, hlen, ?_⟩
  obtain ⟨v, hv, hvt⟩ := pick (l := ([.ref el] ++ ps : List V)) (g := id) (z := z % (([.ref el] ++ ps : List V).length : Int)) (Int.emod_nonneg _ (by omega)) (Int.emod_lt_of_pos _ hlen)
  rw [List.map_id] at hvt
  refine ⟨pl, _, _, v, rfl, rfl, SqL.of hpl4, hvt, ?_⟩
  obtain ⟨p, hp3, hpc⟩ := all v hv
  have hp4 : PthAt K H4 p v := hp3.tk (Tk.go b3 g4)
  have gH4 : Go B H H4 := (Go.same sH3).trans g4
  have hok := hpc.ok
  -- kind
  refine ⟨_, rfl, B, b, 8, rfl, by decide, b4, fun kind H5 k0 k8 g5 b5 => ?_⟩
  have hp5 : PthAt K H5 p v := hp4.tk (Tk.go b4 g5)
  have gH5 := gH4.trans g5
  refine ⟨_, rfl, rfl, _, rfl, ite2 (fun c => ?_) (fun c => ?_)⟩
  · obtain ⟨pa, pvs, rfl, hp1, hp2⟩ := id hp5
    refine ⟨_, rfl, _, rfl, B, b, 5, rfl, by decide, b5, fun yy H6 yy0 yy5 g6 b6 => ⟨_, _, rfl, rfl, by decide, fun ml' hml => ?_⟩⟩
    have mlB := b6.neB hml
    refine ⟨_, rfl, B, b, 4, rfl, by decide, b6.new hml _, fun x H7 x0 x4 g7 b7 => ?_⟩
    obtain ⟨k, hk1, hkt⟩ := pick (l := keys1) (g := id) x0 (by show x < ((4 : Nat) : Int); omega)
    rw [List.map_id] at hkt
    refine ⟨ml', _, x, k, rfl, rfl, SqL.of (g7.ext _ _ mlB upd_same), hkt, by show 2 ≤ sizeLine; decide, fun q1 hq1 => ⟨by show 1 ≤ sizeLine; decide, fun w1 hw1 => ?_⟩⟩
    have u1 : Same H7 (upd H7 q1 (.tup [.int (yy - 1), k])) := same_new hq1 _
    have u2 : Same (upd H7 q1 (.tup [.int (yy - 1), k])) (upd (upd H7 q1 (.tup [.int (yy - 1), k])) w1 (.tup [.ref q1])) := same_new hw1 _
    have g57 : Go B H5 H7 := (g6.trans (Go.new hml _)).trans g7
    obtain ⟨pa', pvs', e, hp1', hp2'⟩ := (hp5.tk (Tk.go b5 g57)).same (u1.trans u2)
    cases e
    refine ⟨pa, w1, pvs', [.ref q1], rfl, rfl, hp1', .inl (.inl upd_same), le_line (by rw [hp2'.length]; have := hpc.1; show p.length + 1 < 10000000; omega), fun r H8 s8 hr8 => ?_⟩
    refine q _ (p ++ [(yy - 1, k)]) H8 (gH5.trans (g57.trans (Go.same ((u1.trans u2).trans s8)))) (b7.same ((u1.trans u2).trans s8)) ⟨r, _, rfl, hr8, (Sts.app (show Sts _ [(yy - 1, k)] [.ref q1] from ⟨q1, [], rfl, u2 _ _ upd_same, rfl⟩) hp2').same s8⟩ ⟨?_, fun z hz => ?_⟩
    · rw [List.length_append]
      have := hpc.1
      show p.length + 1 ≤ 40
      omega
    · rcases List.mem_append.mp hz with hz | hz
      · exact hok.2 z hz
      · rw [List.mem_singleton.mp hz]
        exact ⟨⟨by omega, by omega⟩, keys12.1 k hk1⟩
  -- what both tests ask of the path
  have test : ∀ {H1 : Hp} {σ : L2.St} (Q' : Bool → Hp → Prop), PthAt K H1 p v → σ[3]? = some (some v) → (∀ el, H1 el = none → Q' (!p.isEmpty) (upd H1 el (.tup []))) → tTest (tOp (rNeE K) (tVar 3) (tTup tNil)) σ H1 Q' := fun {H1 σ} Q' h1 hσ hq =>
    ⟨v, hσ, Nat.zero_le _, fun el hel => ⟨pd p, .tuple [], (h1.same (same_new hel _)).dp hok, .tup (SqT.of upd_same) .nil, shaped_path hok, shaped_unit, _, rfl, by rw [eqv_unit]; exact hq el hel⟩⟩
  refine ⟨fun σ' H' => σ' = [some (.ref B), some (.ref a), some (.ref pl), some v, some (.int kind), none, none] ∧ Same H5 H', ?_, ?_⟩
  · refine ⟨_, rfl, rfl, _, rfl, ite2 (fun c1 => test _ hp5 rfl fun el' hel' => ?_) (fun c1 => iteF ⟨rfl, Same.refl _⟩)⟩
    have s6 : Same H5 (upd H5 el' (.tup [])) := same_new hel' _
    cases hpe : p.isEmpty with
    | true => exact iteF ⟨rfl, s6⟩
    | false =>
      have hpne : p ≠ [] := by
        rintro rfl
        cases hpe
      refine iteT ?_
      have b6 := b5.same s6
      obtain ⟨pa, pvs, rfl, hp1, hp2⟩ := hp5.same s6
      obtain ⟨p0, x0, ws, qx, rfl, rfl, hp0, hqx⟩ := hp2.last hpne
      refine ⟨_, rfl, 1, rfl, pa, _, -1, .ref qx, rfl, rfl, hp1, atI_last _ _, qx, _, rfl, .inl (.inl hqx), rfl, .int x0.1, _, rfl, x0.2, [], rfl, rfl, ?_⟩
      refine ⟨_, rfl, 1, rfl, _, rfl, pa, _, rfl, hp1, fun p1 H7 s7 hp1' => ?_⟩
      rw [cut_last] at hp1'
      have b7 := b6.same s7
      refine ⟨_, rfl, by decide, fun ml' hml => ?_⟩
      have mlB := b7.neB hml
      refine ⟨_, rfl, B, b, 4, rfl, by decide, b7.new hml _, fun x H8 x0' x4 g8 b8 => ?_⟩
      obtain ⟨k, hk1, hkt⟩ := pick (l := keys2) (g := id) x0' (by show x < ((4 : Nat) : Int); omega)
      rw [List.map_id] at hkt
      refine ⟨ml', _, x, k, rfl, rfl, SqL.of (g8.ext _ _ mlB upd_same), hkt, by show 2 ≤ sizeLine; decide, fun q1 hq1 => ⟨by show 1 ≤ sizeLine; decide, fun w1 hw1 => ?_⟩⟩
      have u1 : Same H8 (upd H8 q1 (.tup [.int x0.1, k])) := same_new hq1 _
      have u2 : Same (upd H8 q1 (.tup [.int x0.1, k])) (upd (upd H8 q1 (.tup [.int x0.1, k])) w1 (.tup [.ref q1])) := same_new hw1 _
      have g78 : Go B H7 H8 := (Go.new hml _).trans g8
      obtain ⟨p1', pvs', e, hp1'', hp2''⟩ := (((show PthAt K H7 p0 (.ref p1) from ⟨p1, ws, rfl, hp1', hp0.same s7⟩)).tk (Tk.go b7 g78)).same (u1.trans u2)
      cases e
      have hpl0 := hpc.1
      rw [List.length_append, List.length_singleton] at hpl0
      refine ⟨p1, w1, pvs', [.ref q1], rfl, rfl, hp1'', .inl (.inl upd_same), le_line (by rw [hp2''.length]; show p0.length + 1 < 10000000; omega), fun r H9 s9 hr9 => ?_⟩
      refine q _ (p0 ++ [(x0.1, k)]) H9 (gH5.trans ((Go.same (s6.trans s7)).trans (g78.trans (Go.same ((u1.trans u2).trans s9))))) (b8.same ((u1.trans u2).trans s9)) ⟨r, _, rfl, hr9, (Sts.app (show Sts _ [(x0.1, k)] [.ref q1] from ⟨q1, [], rfl, u2 _ _ upd_same, rfl⟩) hp2'').same s9⟩ ⟨?_, fun z hz => ?_⟩
      · rw [List.length_append, List.length_singleton]
        omega
      · rcases List.mem_append.mp hz with hz | hz
        · exact hok.2 z (List.mem_append_left _ hz)
        · rw [List.mem_singleton.mp hz]
          exact ⟨(hok.2 x0 (List.mem_append_right _ (by simp))).1, keys12.2 k hk1⟩
  · rintro σ' H6 ⟨rfl, s6⟩
    have hp6 := hp5.same s6
    have b6 := b5.same s6
    refine ⟨_, rfl, rfl, _, rfl, ite2 (fun c1 => test _ hp6 rfl fun el' hel' => ?_) (fun c1 => iteF ⟨_, rfl, q _ p H6 (gH5.trans (Go.same s6)) b6 hp6 hok⟩)⟩
    have s7 : Same H6 (upd H6 el' (.tup [])) := same_new hel' _
    have hp7 := hp6.same s7
    have b7 := b6.same s7
    have gH7 := gH5.trans (Go.same (s6.trans s7))
    cases p with
    | nil => exact iteF ⟨_, rfl, q _ [] _ gH7 b7 hp7 hok⟩
    | cons x0 p =>
      refine iteT ?_
      obtain ⟨pa, pvs, rfl, hp1, qx, ws, rfl, hqx, hp2⟩ := hp7
      have i0 : ∀ {H8 : Hp}, Same (upd H6 el' (.tup [])) H8 → ∀ Q' : VK, Q' (.ref qx) H8 → tOp (rIxT K) (tVar 3) (tC (.int 0)) [some (.ref B), some (.ref a), some (.ref pl), some (.ref pa), some (.int kind), none, none] H8 Q' := fun s8 Q' qq => ⟨_, rfl, pa, _, 0, .ref qx, rfl, rfl, Ts.same s8 hp1, atI_nat (j := 0) rfl, qq⟩
      refine i0 (Same.refl _) _ ⟨qx, _, 0, .int x0.1, rfl, rfl, .inl (.inl hqx), atI_nat (j := 0) rfl, _, _, rfl, rfl, ?_⟩
      refine i0 (Same.refl _) _ ⟨qx, _, 1, x0.2, rfl, rfl, .inl (.inl hqx), atI_nat (j := 1) rfl, by show 2 ≤ sizeLine; decide, fun q1 hq1 => ⟨by show 1 ≤ sizeLine; decide, fun w1 hw1 => ?_⟩⟩
      have u1 : Same (upd H6 el' (.tup [])) (upd (upd H6 el' (.tup [])) q1 (.tup [.int (x0.1 + 1), x0.2])) := same_new hq1 _
      have u2 : Same (upd (upd H6 el' (.tup [])) q1 (.tup [.int (x0.1 + 1), x0.2])) (upd (upd (upd H6 el' (.tup [])) q1 (.tup [.int (x0.1 + 1), x0.2])) w1 (.tup [.ref q1])) := same_new hw1 _
      refine ⟨_, rfl, _, rfl, pa, _, rfl, Ts.same (u1.trans u2) hp1, fun p2 H8 s8 hp2' => ?_⟩
      rw [cut_one (α := V)] at hp2'
      have hws := hp2.same ((u1.trans u2).trans s8)
      refine ⟨w1, p2, [.ref q1], ws, rfl, rfl, .inl (.inl (s8 _ _ upd_same)), hp2', le_line (by rw [hp2.length]; have := hpc.1; simp only [List.length_cons] at this; show 1 + p.length < 10000000; omega), fun r H9 s9 hr9 => ?_⟩
      have s79 := ((u1.trans u2).trans s8).trans s9
      refine q _ ((x0.1 + 1, x0.2) :: p) H9 (gH7.trans (Go.same s79)) (b7.same s79) ⟨r, _, rfl, hr9, q1, ws, rfl, s9 _ _ (s8 _ _ (u2 _ _ upd_same)), hws.same s9⟩ ⟨by have := hok.1; simpa using this, fun z hz => ?_⟩
      rcases List.mem_cons.mp hz with rfl | hz
      · obtain ⟨⟨h1, h2⟩, h3⟩ := hpc.2 x0 (by simp)
        exact ⟨⟨by show -200 ≤ x0.1 + 1; omega, by show x0.1 + 1 ≤ 6600; omega⟩, h3⟩
      · exact hok.2 z (by simp [hz])
end
end Mw

namespace Mw
open PySem L2
/-! ### what a put leads to -/
structure Ok3 (t : T) (c : Bool) : Prop where
  wf : Wf t c
  sok : SOk t
  kd : Kd t
theorem sok_app {u : T} (hu : SOk u) : ∀ {t : T}, SOk t → SOk (t.app u)
  | .nil, _ => hu
  | .text _ r, h => ⟨h.1, sok_app hu h.2⟩
  | .shw _ r, h => ⟨h.1, sok_app hu h.2⟩
  | .num r, h => sok_app (t := r) hu h
  | .cho _ _ _ r, h => ⟨h.1, h.2.1, h.2.2.1, h.2.2.2.1, sok_app hu h.2.2.2.2⟩
  | .cas _ _ r, h => ⟨h.1, h.2.1, sok_app hu h.2.2⟩
theorem kd_app {u : T} (hu : Kd u) : ∀ {t : T}, Kd t → Kd (t.app u)
  | .nil, _ => hu
  | .text _ r, h => kd_app (t := r) hu h
  | .shw _ r, h => kd_app (t := r) hu h
  | .num r, h => kd_app (t := r) hu h
  | .cho _ _ _ r, h => ⟨h.1, h.2.1, h.2.2.1, h.2.2.2.1, kd_app hu h.2.2.2.2⟩
  | .cas _ _ r, h => ⟨h.1, kd_app hu h.2⟩
theorem dep_app (u : T) : ∀ t : T, (t.app u).dep = max t.dep u.dep
  | .nil => (Nat.zero_max _).symm
  | .text _ r => dep_app u r
  | .shw _ r => dep_app u r
  | .num r => dep_app u r
  | .cho _ cs o r => by
    show max _ (r.app u).dep = max (max _ r.dep) u.dep
    rw [dep_app u r, Nat.max_assoc]
  | .cas _ m r => by
    show max _ (r.app u).dep = max (max _ r.dep) u.dep
    rw [dep_app u r, Nat.max_assoc]
theorem ch_ok {D : Nat} : ∀ {us : List T}, (∀ u ∈ us, Ok3 u false ∧ u.dep ≤ D) → Ok3 (ch us) false ∧ (ch us).dep ≤ D ∧ (ch us).sz = szs us
  | [], _ => ⟨⟨trivial, trivial, trivial⟩, Nat.zero_le _, rfl⟩
  | u :: us, h => by
    obtain ⟨⟨a, b, c⟩, d⟩ := h u (by simp)
    obtain ⟨⟨e, f, g⟩, i, j⟩ := ch_ok fun x hx => h x (List.mem_cons_of_mem _ hx)
    refine ⟨⟨Wf.app e a, sok_app f b, kd_app g c⟩, ?_, ?_⟩
    · show (u.app (ch us)).dep ≤ D
      rw [dep_app]
      omega
    · show (u.app (ch us)).sz = _
      rw [T.app_sz, j]
      rfl
theorem szs_set : ∀ {l : List T} {i : Nat} {y : T} (x : T), l[i]? = some y → szs (l.set i x) + y.sz = szs l + x.sz
  | [], _, _, _, h => by cases h
  | z :: l, 0, y, x, h => by
    have e : z = y := by simpa using h
    subst e
    show x.sz + szs l + z.sz = z.sz + szs l + x.sz
    omega
  | z :: l, i + 1, y, x, h => by
    have := szs_set (l := l) (i := i) x (by simpa using h)
    show z.sz + szs (l.set i x) + y.sz = z.sz + szs l + x.sz
    omega
theorem szs_app : ∀ l l' : List T, szs (l ++ l') = szs l + szs l'
  | [], l' => (Nat.zero_add _).symm
  | z :: l, l' => by
    have := szs_app l l'
    show z.sz + szs (l ++ l') = z.sz + szs l + szs l'
    omega
theorem setMs_ok {D : Nat} : ∀ {cs : T} {ms : List T}, Ok3 cs true → cs.dep ≤ D → (∀ m ∈ ms, Ok3 m false ∧ m.dep ≤ D) → Ok3 (setMs cs ms) true ∧ (setMs cs ms).dep ≤ D ∧ (setMs cs ms).keys = cs.keys
  | .cas k m r, [], o, d, _ => ⟨o, d, rfl⟩
  | .cas k m r, y :: ms, o, d, h => by
    have d' : max m.dep r.dep ≤ D := d
    obtain ⟨⟨a, b, c⟩, e, f⟩ := setMs_ok (cs := r) (ms := ms) ⟨o.wf.2.2.2, o.sok.2.2, o.kd.2⟩ (by omega) fun x hx => h x (List.mem_cons_of_mem _ hx)
    obtain ⟨⟨a', b', c'⟩, e'⟩ := h y (by simp)
    refine ⟨⟨⟨o.wf.1, o.wf.2.1, a', a⟩, ⟨o.sok.1, b', b⟩, c', c⟩, ?_, ?_⟩
    · show max y.dep (setMs r ms).dep ≤ D
      omega
    · show k :: (setMs r ms).keys = k :: r.keys
      rw [f]
  | .nil, _, o, d, _ => ⟨o, d, rfl⟩
  | .text _ _, _, o, d, _ => ⟨o, d, rfl⟩
  | .shw _ _, _, o, d, _ => ⟨o, d, rfl⟩
  | .num _, _, o, d, _ => ⟨o, d, rfl⟩
  | .cho _ _ _ _, _, o, d, _ => ⟨o, d, rfl⟩
theorem setMs_sz : ∀ {cs : T} {ms : List T}, Wf cs true → cs.msgs.length ≤ ms.length → (setMs cs ms).sz + szs cs.msgs = cs.sz + szs (ms.take cs.msgs.length) ∧ (setMs cs ms).msgs = ms.take cs.msgs.length
  | .cas k m r, [], _, h => absurd h (Nat.not_succ_le_zero _)
  | .cas k m r, y :: ms, w, h => by
    obtain ⟨a, b⟩ := setMs_sz (cs := r) (ms := ms) w.2.2.2 (Nat.le_of_succ_le_succ h)
    refine ⟨?_, ?_⟩
    · show 1 + y.sz + (setMs r ms).sz + (m.sz + szs r.msgs) = 1 + m.sz + r.sz + (y.sz + szs (ms.take r.msgs.length))
      omega
    · show y :: (setMs r ms).msgs = y :: ms.take r.msgs.length
      rw [b]
  | .nil, ms, _, _ => ⟨rfl, (List.take_zero ..).symm⟩
  | .text _ _, _, w, _ => by cases w.1
  | .shw _ _, _, w, _ => by cases w.1
  | .num _, _, w, _ => by cases w.1
  | .cho _ _ _ _, _, w, _ => by cases w.1
theorem take_last {l : List T} {n : Nat} (h : l.length = n + 1) : l = l.take n ++ [l.getD n .nil] := by
  have hn : n < l.length := by omega
  have e : l.take n ++ l.drop n = l := List.take_append_drop n l
  rw [List.drop_eq_getElem_cons hn, List.drop_eq_nil_of_le (by omega)] at e
  rw [List.getD_eq_getElem?_getD, List.getElem?_eq_getElem hn]
  exact e.symm
theorem setI_ok {u i m : T} {j D : Nat} (o : Ok3 u false) (hs : u.single) (hj : u.inner[j]? = some i) (hm : Ok3 m false) (d : u.dep ≤ D) (dm : m.dep + 1 ≤ D) :
    Ok3 (setI u j m) false ∧ (setI u j m).dep ≤ D ∧ (setI u j m).sz + i.sz = u.sz + m.sz ∧ (setI u j m).oks = u.oks ∧ (setI u j m).inner = u.inner.set j m ∧ (setI u j m).single := by
  cases u with
  | cho hd cs oo r =>
    have hr : r = .nil := hs
    subst hr
    have d' : max (max cs.dep oo.dep + 1) 0 ≤ D := d
    have hl : ((cs.msgs ++ [oo]).set j m).length = cs.msgs.length + 1 := by
      rw [List.length_set, List.length_append, List.length_singleton]
    have et := take_last hl
    generalize hms : (cs.msgs ++ [oo]).set j m = ms at et hl
    have all : ∀ x ∈ ms, Ok3 x false ∧ x.dep + 1 ≤ D := fun x hx => by
      rw [← hms] at hx
      rcases List.mem_or_eq_of_mem_set hx with hx | rfl
      · rcases List.mem_append.mp hx with hx | hx
        · refine ⟨⟨wf_msgs o.wf.2.2.1 x hx, sok_msgs o.sok.2.2.1 x hx, kd_msgs o.kd.2.2.1 x hx⟩, ?_⟩
          have := dep_msgs x hx
          omega
        · rw [List.mem_singleton.mp hx]
          exact ⟨⟨o.wf.2.2.2.1, o.sok.2.2.2.1, o.kd.2.2.2.1⟩, by omega⟩
      · exact ⟨hm, dm⟩
    have last : ms.getD cs.msgs.length .nil ∈ ms := by
      rw [List.getD_eq_getElem?_getD, List.getElem?_eq_getElem (show cs.msgs.length < ms.length by omega)]
      exact List.getElem_mem _
    obtain ⟨l1, l2⟩ := all _ last
    obtain ⟨a, b, c⟩ := setMs_ok (D := D - 1) (cs := cs) (ms := ms) ⟨o.wf.2.2.1, o.sok.2.2.1, o.kd.2.2.1⟩ (by omega) fun x hx => ⟨(all x hx).1, by have := (all x hx).2; omega⟩
    obtain ⟨e, f⟩ := setMs_sz (cs := cs) (ms := ms) o.wf.2.2.1 (by omega)
    have sh : setI (.cho hd cs oo .nil) j m = .cho hd (setMs cs ms) (ms.getD cs.msgs.length .nil) .nil := by
      rw [← hms]
      rfl
    have z1 := szs_set (l := cs.msgs ++ [oo]) (i := j) m hj
    rw [hms, szs_app] at z1
    have z2 : szs ms = szs (ms.take cs.msgs.length) + (ms.getD cs.msgs.length .nil).sz := by
      conv => lhs; rw [et]
      rw [szs_app]
      rfl
    rw [sh]
    refine ⟨⟨⟨o.wf.1, o.wf.2.1, a.wf, l1.wf, trivial⟩, ⟨o.sok.1, o.sok.2.1, a.sok, l1.sok, trivial⟩, ?_⟩, ?_, ?_, ?_, ?_, rfl⟩
    · refine ⟨?_, ?_, a.kd, l1.kd, trivial⟩
      · rw [c]
        exact o.kd.1
      · rw [c]
        exact o.kd.2.1
    · show max (max (setMs cs ms).dep (ms.getD cs.msgs.length .nil).dep + 1) 0 ≤ D
      omega
    · have z3 : szs [oo] = oo.sz := rfl
      rw [z3] at z1
      show 1 + (setMs cs ms).sz + (ms.getD cs.msgs.length .nil).sz + 0 + i.sz = 1 + cs.sz + oo.sz + 0 + m.sz
      omega
    · show (setMs cs ms).keys ++ [_] = cs.keys ++ [_]
      rw [c]
    · show (setMs cs ms).msgs ++ [_] = (cs.msgs ++ [oo]).set j m
      rw [f, hms]
      exact et.symm
  | _ => cases hj
theorem put_ok {m : T} (hm : Ok3 m false) : ∀ {p : Pth} {t : T}, Ok3 t false → atP t p ≠ none → Ok3 (putP t p m) false ∧ (putP t p m).dep ≤ t.dep + m.dep ∧ (putP t p m).sz ≤ t.sz + m.sz ∧ atP (putP t p m) p = some m
  | [], t, o, _ => ⟨hm, Nat.le_add_left _ _, Nat.le_add_left _ _, rfl⟩
  | x :: p, t, o, h => by
    cases hs : stn t x with
    | none => simp [atP, hs] at h
    | some y =>
      obtain ⟨u, j, i⟩ := y
      have h' : atP i p ≠ none := by simpa [atP, hs] using h
      obtain ⟨h1, h2, h3, h4⟩ := stn_inner hs
      have um := List.mem_of_getElem? h1
      have im := List.mem_of_getElem? h2
      have ou : Ok3 u false := ⟨nodes_wf o.wf u um, sok_nodes o.sok u um, kd_nodes o.kd u um⟩
      have oi : Ok3 i false := ⟨wf_inner ou.wf i im, sok_inner ou.sok i im, kd_inner ou.kd i im⟩
      have du := dep_nodes u um
      have di := dep_inner i im
      obtain ⟨a, b, c, d⟩ := put_ok hm oi h'
      have us := nodes_single u um
      obtain ⟨e1, e2, e3, e4, e5, e6⟩ := setI_ok (D := t.dep + m.dep) ou us h2 a (by omega) (by omega)
      have all : ∀ z ∈ t.nodes.set x.1.toNat (setI u j (putP i p m)), Ok3 z false ∧ z.dep ≤ t.dep + m.dep := fun z hz => by
        rcases List.mem_or_eq_of_mem_set hz with hz | rfl
        · refine ⟨⟨nodes_wf o.wf z hz, sok_nodes o.sok z hz, kd_nodes o.kd z hz⟩, ?_⟩
          have := dep_nodes z hz
          omega
        · exact ⟨e1, e2⟩
      have sing : ∀ z ∈ t.nodes.set x.1.toNat (setI u j (putP i p m)), z.single := fun z hz => by
        rcases List.mem_or_eq_of_mem_set hz with hz | rfl
        · exact nodes_single z hz
        · exact e6
      obtain ⟨f1, f2, f3⟩ := ch_ok all
      rw [putP_cons hs]
      refine ⟨f1, f2, ?_, ?_⟩
      · have := szs_set (l := t.nodes) (i := x.1.toNat) (setI u j (putP i p m)) h1
        rw [szs_nodes] at this
        rw [f3]
        omega
      · have hlt : x.1.toNat < t.nodes.length := (List.getElem?_eq_some_iff.mp h1).1
        have hst : stn (ch (t.nodes.set x.1.toNat (setI u j (putP i p m)))) x = some (setI u j (putP i p m), j, putP i p m) := by
          rw [stn_at (u := setI u j (putP i p m)) h3 (by rw [nodes_ch sing, List.getElem?_set_self hlt]), e4, h4]
          show ((setI u j (putP i p m)).inner[j]?).map _ = _
          rw [e5, List.getElem?_set_self (List.getElem?_eq_some_iff.mp h2).1]
          rfl
        show (stn _ x).bind _ = _
        rw [hst]
        exact d
end Mw

namespace Mw
open PySem L2
abbrev tl (x : Str) : List Nat := x.cps.toList
def catS (ys : List Str) : Str := ⟨((ys.map tl).flatten).toArray⟩
theorem joinL_nil : ∀ ls : List (List Nat), TL.joinL [] ls = ls.flatten
  | [] => rfl
  | [p] => by simp [TL.joinL]
  | p :: q :: r => by
    show p ++ ([] ++ TL.joinL [] (q :: r)) = _
    rw [joinL_nil (q :: r)]
    simp
theorem join_cat (ys : List Str) : Txt.join ("" : Str) ys = catS ys := by
  rw [TL.join_eq]
  refine TL.ext_tl ?_
  rw [TL.tl_join]
  show TL.joinL [] _ = _
  rw [joinL_nil]
  rfl
theorem cat_add (ys : List Str) (s : Str) : catS (ys ++ [s]) = catS ys ++ s := by
  refine TL.ext_tl ?_
  rw [TL.tl_append]
  show ((ys ++ [s]).map tl).flatten = (ys.map tl).flatten ++ tl s
  simp
theorem cat_nil : catS [] = ("" : Str) := rfl
theorem cat_len (ys : List Str) : (catS ys).length = (ys.map (·.length)).sum := by
  rw [TL.len_tl]
  show ((ys.map tl).flatten).length = _
  rw [List.length_flatten]
  congr 1
  rw [List.map_map]
  exact List.map_congr_left fun s _ => (TL.len_tl s).symm
theorem len_zero {s : Str} : s.length = 0 ↔ s = ("" : Str) := by
  constructor
  · intro h
    refine TL.ext_tl ?_
    rw [TL.len_tl] at h
    exact List.length_eq_zero_iff.mp h
  · rintro rfl
    rfl
/-- a text as a chain: none if it is empty -/
def txt (s : Str) (u : T) : T := if s = ("" : Str) then u else .text s u
/-- texts joined, not within choices -/
def jt (a : List Str) : T → T
  | .nil => txt (catS a) .nil
  | .text s r => jt (a ++ [s]) r
  | .shw n r => txt (catS a) (.shw n (jt [] r))
  | .num r => txt (catS a) (.num (jt [] r))
  | .cho hd cs o r => txt (catS a) (.cho hd cs o (jt [] r))
  | .cas k m r => txt (catS a) (.cas k m (jt [] r))
section
variable {P : Program} {w : World} {K : PySem.W.Frag} {mg : Str → Option Value} {base : Heap}
/-! ### text_nodes -/
abbrev sTn : Stmt := top 10
theorem scTn : FnScope ["strings", "joined"] ["strings"] (defScope sTn) := ⟨rfl, rfl, rfl, by decide +kernel, rfl, by decide +kernel, by decide +kernel⟩
def spTn : Sp := fun vs H Q _ => ∃ (a : Addr) (ys : List Str), vs = [.ref a] ∧ H a = some (.lst (ys.map V.str)) ∧ (ys.map (·.length)).sum < 1000000 ∧ ∀ l H' ws, H l = none → Same H H' → H' l = some (.lst ws) → Nodes H' (txt (catS ys) .nil) ws → ws.length ≤ 1 → Q (.ref l) H'
theorem ok_tn {f : Addr} {fd : FuncData} (F : Fun K "text_nodes" "text_nodes" sTn f fd) : FnOk P w K mg base CX0 1 f fd ["strings"] spTn := by
  refine F.ok scTn (fun vs H Q E h => ?_) (fun cdv A outer s H vs Q E hr h => ?_)
  · obtain ⟨a, ys, rfl, _⟩ := h
    rfl
  obtain ⟨a, ys, rfl, ha, hz, q⟩ := h
  have nd := scTn.nd
  refine ⟨_, pss_cons (ps_set (i := 1) nd rfl (.inl rfl) (pe_join pe_str (pv 0)))
    (pss_one (ps_ret (pe_ifExp (pt_truth (pv 1) (by intro _; rfl)) (pe_lst (pa_cons (pe_tup (pa_cons pe_str (pa_cons (pv 1) pa_nil))) pa_nil)) (pe_lst pa_nil)))), ?_⟩
  refine ⟨⟨_, rfl⟩, _, rfl, _, a, ys, rfl, rfl, .inl (SqL.of ha), ?_, ?_⟩
  · show (ys.map (·.length)).sum + ys.length * 0 ≤ 16777216
    omega
  show ∃ v, _ ∧ _
  refine ⟨_, rfl, _, ⟨?_, rfl⟩, ?_⟩
  · rw [join_cat, cat_len]
    exact le_line (by omega)
  rw [join_cat]
  by_cases e : catS ys = ("" : Str)
  · have e0 : (((catS ys).length : Int) != 0) = false := by
      rw [len_zero.mpr e]
      rfl
    rw [e0]
    refine iteF ⟨Nat.zero_le _, fun l hl => ?_⟩
    refine q l _ [] hl (same_new hl _) upd_same ?_ (Nat.zero_le _)
    unfold txt
    rw [if_pos e]
    exact rfl
  · have e0 : (((catS ys).length : Int) != 0) = true := by
      have : (catS ys).length ≠ 0 := fun z => e (len_zero.mp z)
      exact bne_iff_ne.mpr (by omega)
    rw [e0]
    refine iteT ⟨_, rfl, by show 2 ≤ sizeLine; decide, fun p hp => ⟨by show 1 ≤ sizeLine; decide, fun l hl => ?_⟩⟩
    have s1 : Same H (upd H p (.tup [.str "text", .str (catS ys)])) := same_new hp _
    refine q l _ [.ref p] (s1.free hl) (s1.trans (same_new hl _)) upd_same ?_ (Nat.le_refl _)
    unfold txt
    rw [if_neg e]
    exact ⟨p, [], rfl, by rw [upd_ne (ne_of_none upd_same hl)]; exact upd_same, rfl⟩
end
end Mw

namespace Mw
open PySem L2
/-- the old heap, and new tuples -/
def mix (H H1 : Hp) : Hp := fun a => match H a with
  | some o => some o
  | none => match H1 a with
    | some (.tup xs) => some (.tup xs)
    | _ => none
theorem mix_old {H H1 : Hp} : Same H (mix H H1) := fun a o h => by
  unfold mix
  rw [h]
theorem mix_new {H H1 : Hp} {p : Addr} {xs : List V} (s : Same H H1) (h : H1 p = some (.tup xs)) : mix H H1 p = some (.tup xs) := by
  unfold mix
  cases e : H p with
  | none =>
    simp only
    rw [h]
  | some o =>
    simp only
    rw [s _ _ e] at h
    exact h
theorem mix_in {H H1 : Hp} {a : Addr} {o : HO} (h : mix H H1 a = some o) : H a = some o ∨ (H a = none ∧ ∃ xs, o = .tup xs ∧ H1 a = some (.tup xs)) := by
  unfold mix at h
  cases e : H a with
  | some o' =>
    rw [e] at h
    exact .inl h
  | none =>
    rw [e] at h
    simp only at h
    split at h
    · cases h
      exact .inr ⟨rfl, _, rfl, by assumption⟩
    · cases h
theorem mix_same {H H1 H2 : Hp} (s : Same H1 H2) : Same (mix H H1) (mix H H2) := fun a o h => by
  rcases mix_in h with k | ⟨h0, xs, rfl, k⟩
  · exact mix_old _ _ k
  · unfold mix
    rw [h0]
    simp only
    rw [s _ _ k]
theorem mix_mut {H H1 : Hp} {l : Addr} {xs ys : List V} (hl : H1 l = some (.lst xs)) : Same (mix H H1) (mix H (upd H1 l (.lst ys))) := fun a o h => by
  rcases mix_in h with k | ⟨h0, zs, rfl, k⟩
  · exact mix_old _ _ k
  · unfold mix
    rw [h0]
    simp only
    rw [upd_ne (by rintro rfl; rw [hl] at k; cases k), k]
theorem mix_out {H H1 : Hp} (s : Same H H1) : Same (mix H H1) H1 := fun a o h => by
  rcases mix_in h with k | ⟨h0, xs, rfl, k⟩
  · exact s _ _ k
  · exact k
theorem mix_txt {H H1 : Hp} {x : Str} {ws : List V} (s : Same H H1) (h : Nodes H1 (txt x .nil) ws) : Nodes (mix H H1) (txt x .nil) ws := by
  unfold txt at *
  split at h
  · rename_i e
    rw [if_pos e]
    exact h
  · rename_i e
    rw [if_neg e]
    obtain ⟨p, ws', rfl, hp, hr⟩ := h
    exact ⟨p, ws', rfl, mix_new s hp, hr⟩
theorem app_nil : ∀ t : T, t.app .nil = t
  | .nil => rfl
  | .text s r => congrArg (T.text s) (app_nil r)
  | .shw s r => congrArg (T.shw s) (app_nil r)
  | .num r => congrArg T.num (app_nil r)
  | .cho hd cs o r => congrArg (T.cho hd cs o) (app_nil r)
  | .cas k m r => congrArg (T.cas k m) (app_nil r)
theorem app_assoc (u v : T) : ∀ t : T, (t.app u).app v = t.app (u.app v)
  | .nil => rfl
  | .text s r => congrArg (T.text s) (app_assoc u v r)
  | .shw s r => congrArg (T.shw s) (app_assoc u v r)
  | .num r => congrArg T.num (app_assoc u v r)
  | .cho hd cs o r => congrArg (T.cho hd cs o) (app_assoc u v r)
  | .cas k m r => congrArg (T.cas k m) (app_assoc u v r)
theorem txt_app (s : Str) (u v : T) : (txt s u).app v = txt s (u.app v) := by
  unfold txt
  split <;> rfl
theorem txt_nil (s : Str) (v : T) : (txt s .nil).app v = txt s v := txt_app s .nil v
/-- the joining at one node -/
theorem jt_one (ss : List Str) {u : T} (w : Wf u false) (hs : u.single) (hu : u.isText = false) (r : T) : jt ss (u.app r) = (txt (catS ss) .nil).app (u.app (jt [] r)) := by
  rw [txt_nil]
  cases u with
  | nil => cases hs
  | text s r' => cases hu
  | shw n r' => cases (show r' = .nil from hs); rfl
  | num r' => cases (show r' = .nil from hs); rfl
  | cho hd cs o r' => cases (show r' = .nil from hs); rfl
  | cas k m r' => cases w.1
section
variable {P : Program} {w : World} {K : PySem.W.Frag} {mg : Str → Option Value} {base : Heap}
/-! ### joined_texts -/
abbrev sJt : Stmt := top 11
theorem scJt : FnScope ["message", "nodes", "strings", "node"] ["message"] (defScope sJt) := ⟨rfl, rfl, rfl, by decide +kernel, rfl, by decide +kernel, by decide +kernel⟩
def spJt : Sp := fun vs H Q _ => ∃ (a : Addr) (H0 : Hp) (t : T), vs = [.ref a] ∧ Same H0 H ∧ At H0 a t ∧ Wf t false ∧ t.sz < 100000 ∧ ∀ l H' ws, H l = none → Same H H' → H' l = some (.lst ws) → Nodes (mix H0 H') (jt [] t) ws → Q (.ref l) H'
theorem ok_jt {f fT : Addr} {fd fdT : FuncData} (F : Fun K "joined_texts" "joined_texts" sJt f fd) (GT : FnOk P w K mg base CX0 1 fT fdT ["strings"] spTn) (bT : Binds K fdT ["strings"] []) (kT : PySem.W.keepIn K (.ref fT) = true) (mT : mg "text_nodes" = some (.ref fT)) :
    FnOk P w K mg base CX0 2 f fd ["message"] spJt := by
  refine F.ok scJt (fun vs H Q E h => ?_) (fun cdv A outer s H vs Q E hr h => ?_)
  · obtain ⟨a, H0, t, rfl, _⟩ := h
    rfl
  obtain ⟨a, H0, t, rfl, h0, ⟨vs, ha, hn⟩, hw, hz, q⟩ := h
  have nd := scJt.nd
  refine ⟨_, pss_cons (ps_set (i := 1) nd rfl (.inl rfl) (pe_lst pa_nil)) (pss_cons (ps_set (i := 2) nd rfl (.inl rfl) (pe_lst pa_nil))
    (pss_cons (ps_for PassesOwn.never rfl (pi_list (pv 0)) (pg_name (i := 3) nd rfl (.inl rfl))
      (pss_one (ps_if (pt_cmpR op_eq (pe_ix ix_tup (pv 3) pe_int (fun _ _ => rfl)) pe_str (nomark _))
        (pss_one (ps_expr (pe_bm PySem.F.plainAttrs_list PySem.F.slot_list_append PySem.F.type_list_append mt_append (pv 2) (pa_cons (pe_ix ix_tup (pv 3) pe_int (fun _ _ => rfl)) pa_nil))))
        (pss_cons (ps_expr (pe_bm PySem.F.plainAttrs_list PySem.F.slot_list_extend PySem.F.type_list_extend mt_extend (pv 1) (pa_cons (pe_call GT hr rfl mT kT bT .nil pass0 (pa_cons (pv 2) pa_nil)) pa_nil)))
        (pss_cons (ps_set (i := 2) nd rfl (.inl rfl) (pe_lst pa_nil))
        (pss_one (ps_expr (pe_bm PySem.F.plainAttrs_list PySem.F.slot_list_append PySem.F.type_list_append mt_append (pv 1) (pa_cons (pv 3) pa_nil)))))))))
    (pss_one (ps_ret (pe_op op_cat (pv 1) (pe_call GT hr rfl mT kT bT .nil pass0 (pa_cons (pv 2) pa_nil))))))), ?_⟩
  refine ⟨Nat.zero_le _, fun nl hnl => ⟨Nat.zero_le _, fun sl hsl => ?_⟩⟩
  have s1 : Same H (upd H nl (.lst [])) := same_new hnl _
  have s2 : Same H (upd (upd H nl (.lst [])) sl (.lst [])) := s1.trans (same_new hsl _)
  have hlen : vs.length < 100000 := by
    rw [hn.length]
    exact Nat.lt_of_le_of_lt (len_sz t) hz
  have hns := hn.ns
  refine ⟨_, rfl, a, rfl, ⟨_, SqL.of (s2 _ _ (h0 _ _ ha))⟩, for_list (K := K) (a := a) (xs := vs) (fun i σ H' => ∃ (sl : Addr) (o3 : Option V) (ss : List Str) (ws : List V) (done : T), σ = [some (.ref a), some (.ref nl), some (.ref sl), o3] ∧ Same H H' ∧ H sl = none ∧ sl ≠ nl ∧ H' sl = some (.lst (ss.map V.str)) ∧ H' nl = some (.lst ws) ∧ Nodes (mix H0 H') done ws ∧ jt [] t = done.app (jt ss (ch (t.nodes.drop i))) ∧ (ss.map (·.length)).sum + ss.length + (ch (t.nodes.drop i)).sz ≤ t.sz ∧ ws.length ≤ 2 * i)
    ⟨sl, none, [], [], .nil, rfl, s2, upd_none hsl, (fun e => by rw [e, upd_same] at hsl; cases hsl), upd_same, (by rw [upd_ne (ne_of_none upd_same hsl)]; exact upd_same), rfl, (by rw [List.drop_zero, ch_nodes]; rfl), (by rw [List.drop_zero, ch_nodes]; exact Nat.le_of_eq (Nat.zero_add _)), Nat.le_refl _⟩
    (fun i σ H' _ ⟨_, _, _, _, _, _, s', _⟩ => SqL.of (s' _ _ (h0 _ _ ha))) ?_ ?_⟩
  · rintro i x σ H' hx ⟨sl, o3, ss, ws, done, rfl, s', hs0, hsn, hs, hw', hd, hj, hsz, hwl⟩
    obtain ⟨u, hu, hun⟩ := hns.get hx
    have hi : i < vs.length := (List.getElem?_eq_some_iff.mp hx).1
    have uw : Wf u false := nodes_wf hw u (List.mem_of_getElem? hu)
    obtain ⟨p, y, ys, rfl, hp, hsg, _, htx⟩ := node_of hun uw
    have hdrop : t.nodes.drop i = u :: t.nodes.drop (i + 1) := by
      have e := List.getElem?_eq_some_iff.mp hu
      rw [List.drop_eq_getElem_cons e.1, e.2]
    rw [hdrop] at hj hsz
    have hsz' : (ss.map (·.length)).sum + ss.length + (u.sz + (ch (t.nodes.drop (i + 1))).sz) ≤ t.sz := by
      have := hsz
      rw [show ch (u :: t.nodes.drop (i + 1)) = u.app (ch (t.nodes.drop (i + 1))) from rfl, T.app_sz] at this
      exact this
    refine ⟨_, rfl, p, _, 0, .str y, rfl, rfl, .inl (.inl (s' _ _ (h0 _ _ hp))), atI_nat (j := 0) rfl, rfl, _, rfl, ite2 (fun c => ?_) (fun c => ?_)⟩
    · have ht := htx.mp (str_eq (of_decide_eq_true c))
      cases u with
      | text st r =>
        cases (show r = .nil from hsg)
        obtain ⟨p', _, e, hp', _⟩ := hun
        cases e
        refine ⟨_, rfl, .inl ⟨rfl, _, SqL.of hs⟩, _, rfl, p, _, 1, .str st, rfl, rfl, .inl (.inl (s' _ _ (h0 _ _ hp'))), atI_nat (j := 1) rfl, sl, _, _, rfl, rfl, hs, ?_, ?_⟩
        · rw [List.length_map]
          exact sz_line (by omega)
        · refine ⟨sl, _, ss ++ [st], ws, done, rfl, same_mut s' hs0 _, hs0, hsn, ?_, ?_, Nodes.same (mix_mut hs) hd, hj, ?_, by omega⟩
          · rw [upd_same, List.map_append]
            rfl
          · rw [upd_ne hsn.symm]
            exact hw'
          · rw [List.map_append, List.sum_append, List.length_append]
            simp only [T.sz] at hsz'
            simp only [List.map_cons, List.map_nil, List.sum_cons, List.sum_nil, List.length_singleton]
            omega
      | _ => cases ht
    · have ht : u.isText = false := by
        cases e : u.isText with
        | false => rfl
        | true =>
          refine absurd ?_ c
          rw [htx.mpr e]
          exact decide_eq_true rfl
      have hwb : ws.length < 200000 := by omega
      refine ⟨_, rfl, .inl ⟨rfl, _, SqL.of hw'⟩, _, rfl, sl, ss, rfl, hs, by omega, fun l H2 xs hl s3 hl2 hx2 hx1 => ?_⟩
      refine ⟨nl, l, ws, xs, rfl, rfl, s3 _ _ hw', hl2, le_line (by omega), Nat.zero_le _, fun sl' hsl' => ?_⟩
      have hHl : H l = none := s'.free hl
      have s4 : Same H H2 := s'.trans s3
      have hnl0 : H nl = none := hnl
      have s5 : Same H (upd H2 nl (.lst (ws ++ xs))) := same_mut s4 hnl0 _
      have s6 : Same H (upd (upd H2 nl (.lst (ws ++ xs))) sl' (.lst [])) := s5.trans (same_new hsl' _)
      have hsn' : sl' ≠ nl := fun e => by rw [e, upd_same] at hsl'; cases hsl'
      have hn6 : upd (upd H2 nl (.lst (ws ++ xs))) sl' (.lst []) nl = some (.lst (ws ++ xs)) := by rw [upd_ne hsn'.symm]; exact upd_same
      refine ⟨_, rfl, .inl ⟨rfl, _, SqL.of hn6⟩, _, rfl, nl, _, _, rfl, rfl, hn6, sz_line (by rw [List.length_append]; omega), ?_⟩
      refine ⟨sl', _, [], ws ++ xs ++ [.ref p], (done.app (txt (catS ss) .nil)).app u, rfl, same_mut s6 hnl0 _, s5.free hsl', hsn', ?_, upd_same, ?_, ?_, ?_, ?_⟩
      · rw [upd_ne hsn']
        exact upd_same
      · have d1 : Nodes (mix H0 H2) done ws := Nodes.same (mix_same s3) hd
        have d2 : Nodes (mix H0 H2) (txt (catS ss) .nil) xs := mix_txt (h0.trans s4) hx2
        have d3 : Nodes (mix H0 H2) u [.ref p] := Nodes.same mix_old hun
        have d4 := Nodes.app d3 (Nodes.app d2 d1)
        exact Nodes.same (mix_mut hn6) (Nodes.same (mix_same (same_new hsl' _)) (Nodes.same (mix_mut (s3 _ _ hw')) d4))
      · rw [hj, show ch (u :: t.nodes.drop (i + 1)) = u.app (ch (t.nodes.drop (i + 1))) from rfl, jt_one ss uw hsg ht]
        rw [app_assoc, app_assoc]
      · simp only [List.map_nil, List.sum_nil, List.length_nil]
        omega
      · rw [List.length_append, List.length_append, List.length_singleton]
        omega
  · rintro σ H' ⟨sl, o3, ss, ws, done, rfl, s', hs0, hsn, hs, hw', hd, hj, hsz, hwl⟩
    refine ⟨_, rfl, _, rfl, sl, ss, rfl, hs, by omega, fun l H2 xs hl s3 hl2 hx2 hx1 => ?_⟩
    have s4 : Same H H2 := s'.trans s3
    refine ⟨nl, l, ws, xs, rfl, rfl, s3 _ _ hw', hl2, le_line (by omega), fun r hr => ?_⟩
    refine q r _ (ws ++ xs) (s4.free hr) (s4.trans (same_new hr _)) upd_same ?_
    have e : t.nodes.drop vs.length = [] := by
      rw [hns.length]
      exact List.drop_length
    rw [e] at hj
    rw [hj]
    exact Nodes.same (mix_same (same_new hr _)) (Nodes.app (mix_txt (h0.trans s4) hx2) (Nodes.same (mix_same s3) hd))
end
end Mw

namespace Mw
open PySem L2
/-! ### the whole plain form -/
def pl (a : Str) : T → T
  | .nil => txt a .nil
  | .text s r => pl (a ++ s) r
  | .shw n r => txt a (.shw n (pl ("" : Str) r))
  | .num r => txt a (.num (pl ("" : Str) r))
  | .cho hd cs o r => txt a (.cho hd (pl ("" : Str) cs) (pl ("" : Str) o) (pl ("" : Str) r))
  | .cas k m r => txt a (.cas k (pl ("" : Str) m) (pl ("" : Str) r))
theorem pl_left : ∀ (y : T) {u v : T}, (∀ a, pl a u = pl a v) → ∀ a, pl a (y.app u) = pl a (y.app v)
  | .nil, _, _, h, a => h a
  | .text s r, _, _, h, a => pl_left r h (a ++ s)
  | .shw n r, _, _, h, a => congrArg (fun z => txt a (.shw n z)) (pl_left r h _)
  | .num r, _, _, h, a => congrArg (fun z => txt a (.num z)) (pl_left r h _)
  | .cho hd cs o r, _, _, h, a => congrArg (fun z => txt a (.cho hd (pl _ cs) (pl _ o) z)) (pl_left r h _)
  | .cas k m r, _, _, h, a => congrArg (fun z => txt a (.cas k (pl _ m) z)) (pl_left r h _)
/-- two chains that come to the same, whatever stands around them -/
def Eqv (x y : T) : Prop := ∀ (r : T) (a : Str), pl a (x.app r) = pl a (y.app r)
theorem Eqv.refl (x : T) : Eqv x x := fun _ _ => rfl
theorem Eqv.app {x y x' y' : T} (h : Eqv x y) (h' : Eqv x' y') : Eqv (x.app x') (y.app y') := fun r a => by
  rw [app_assoc, app_assoc, h]
  exact pl_left y (h' r) a
theorem Eqv.pl {x y : T} (h : Eqv x y) (a : Str) : Mw.pl a x = Mw.pl a y := by
  have := h .nil a
  rw [app_nil, app_nil] at this
  exact this
theorem str_nil (a : Str) : a ++ ("" : Str) = a := by
  refine TL.ext_tl ?_
  rw [TL.tl_append]
  exact List.append_nil _
theorem nil_str (a : Str) : ("" : Str) ++ a = a := by
  refine TL.ext_tl ?_
  rw [TL.tl_append]
  exact List.nil_append _
theorem str_assoc (a b c : Str) : a ++ b ++ c = a ++ (b ++ c) := by
  refine TL.ext_tl ?_
  rw [TL.tl_append, TL.tl_append, TL.tl_append, TL.tl_append]
  exact List.append_assoc _ _ _
theorem Eqv.empty : Eqv (.text ("" : Str) .nil) .nil := fun r a => by
  show Mw.pl (a ++ ("" : Str)) r = Mw.pl a r
  rw [str_nil]
theorem Eqv.two {s1 s2 s : Str} (h : s1 ++ s2 = s) : Eqv (.text s1 (.text s2 .nil)) (.text s .nil) := fun r a => by
  show Mw.pl (a ++ s1 ++ s2) r = Mw.pl (a ++ s) r
  rw [str_assoc, h]
theorem Eqv.cho {hd : List V} {cs cs' o o' : T} (h1 : Mw.pl ("" : Str) cs = Mw.pl ("" : Str) cs') (h2 : Mw.pl ("" : Str) o = Mw.pl ("" : Str) o') : Eqv (.cho hd cs o .nil) (.cho hd cs' o' .nil) := fun r a => by
  show txt a (.cho hd (Mw.pl _ cs) (Mw.pl _ o) _) = txt a (.cho hd (Mw.pl _ cs') (Mw.pl _ o') _)
  rw [h1, h2]
theorem Eqv.cas {k : V} {m m' : T} (h1 : Mw.pl ("" : Str) m = Mw.pl ("" : Str) m') : Eqv (.cas k m .nil) (.cas k m' .nil) := fun r a => by
  show txt a (.cas k (Mw.pl _ m) _) = txt a (.cas k (Mw.pl _ m') _)
  rw [h1]
end Mw

set_option linter.all false
set_option maxHeartbeats 2000000
/-! list(zip(xs, ys)) of two lists -/
namespace Zl
open PySem PySem.Spec PyProof.Rows L2 PySem.W
theorem no_len : typeLookup (.type "zip") "__len__" = pure none := am_miss_of_fast (by decide +kernel)
theorem no_hint : typeLookup (.type "zip") "__length_hint__" = pure none := am_miss_of_fast (by decide +kernel)
/-- the zip ahead of turn i; S: the list that is filled -/
structure Zst (h : Heap) (z TI TO i1 i2 l1 l2 S : Addr) (i : Nat) : Prop where
  pair : IsPair h TI (.ref i1) (.ref i2)
  it1 : h.IsListIter i1 l1 i
  it2 : h.IsListIter i2 l2 i
  out : (IsZip h z TI TO .none ∧ ∃ a b, IsPair h TO a b) ∨ ∃ (t : Addr) (f : Bool) (ot : Obj), IsZipHeld h z TI TO t f ∧ h.get? t = some ot ∧ t ≠ z ∧ t ≠ i1 ∧ t ≠ i2 ∧ t ≠ S
theorem Zst.keep {h h' : Heap} {z TI TO i1 i2 l1 l2 S : Addr} {i : Nat} (st : Zst h z TI TO i1 i2 l1 l2 S i) (hs : S ≠ z ∧ S ≠ TI ∧ S ≠ TO ∧ S ≠ i1 ∧ S ≠ i2)
    (k : ∀ b o, b ≠ S → h.get? b = some o → h'.get? b = some o) : Zst h' z TI TO i1 i2 l1 l2 S i := by
  refine ⟨k _ _ hs.2.1.symm st.pair, st.it1.at fun o e => k _ o hs.2.2.2.1.symm e, st.it2.at fun o e => k _ o hs.2.2.2.2.symm e, ?_⟩
  rcases st.out with ⟨a, x, y, b⟩ | ⟨t, f, ot, a, b, c⟩
  · exact .inl ⟨k _ _ hs.1.symm a, x, y, k _ _ hs.2.2.1.symm b⟩
  · exact .inr ⟨t, f, ot, k _ _ hs.1.symm a, k _ _ c.2.2.2 b, c⟩
section
variable {prog : Program} {w : World} {A : Around} {E : Value → Shared → Prop} {s : Shared} {z TI TO i1 i2 l1 l2 S : Addr} {xs ys : Array Value} {i : Nat}
theorem zl_item {x y : Value} {Q : Option Value → Shared → Prop} (D : ZipApart z TI TO i1 i2 l1 l2) (st : Zst s.heap z TI TO i1 i2 l1 l2 S i) (hS : S < s.heap.objs.size)
    (hl1 : s.heap.IsList l1 xs) (hl2 : s.heap.IsList l2 ys) (hx : xs[i]? = some x) (hy : ys[i]? = some y)
    (q : ∀ h', Zst h' z TI TO i1 i2 l1 l2 S (i + 1) → IsPair h' s.heap.objs.size x y → h'.objs.size = s.heap.objs.size + 1 →
      (∀ c o, c ≠ z → c ≠ TO → c ≠ i1 → c ≠ i2 → s.heap.get? c = some o → h'.get? c = some o) → Q (some (.ref s.heap.objs.size)) { s with heap := h' }) :
    wpAny (model prog w) A (pyNext (.ref z)) Q E s := by
  obtain ⟨o1, e1, c1, d1⟩ := id st.it1
  obtain ⟨o2, e2, c2, d2⟩ := id st.it2
  have n1 : s.heap.objs.size ≠ i1 := Nat.ne_of_gt (Heap.lt_size e1)
  have n2 : s.heap.objs.size ≠ i2 := Nat.ne_of_gt (Heap.lt_size e2)
  have nS : s.heap.objs.size ≠ S := Nat.ne_of_gt hS
  rcases st.out with ⟨hz, a, b, hTO⟩ | ⟨t, f, ot, hz, ht, nt⟩
  · have nz : s.heap.objs.size ≠ z := Nat.ne_of_gt (Heap.lt_size hz)
    refine wpAny_pyNext_zip_item D hz st.pair hTO st.it1 st.it2 hl1 hl2 hx hy fun h' a1 a2 a3 a4 a5 a6 k => ?_
    exact q h' ⟨k _ _ D.TIz D.TITO D.TIi1 D.TIi2 st.pair, a3, a4, .inr ⟨_, false, _, a1, a5, nz, n1, n2, nS⟩⟩ a5 a6 k
  · have nz : s.heap.objs.size ≠ z := Nat.ne_of_gt (Heap.lt_size hz)
    refine wpAny_pyNext_zip_item_held D hz ht st.pair st.it1 st.it2 hl1 hl2 hx hy fun h' a1 a3 a4 a5 a6 k => ?_
    exact q h' ⟨k _ _ D.TIz D.TIi1 D.TIi2 st.pair, a3, a4, .inr ⟨t, true, ot, a1, k _ _ nt.1 nt.2.1 nt.2.2.1 ht, nt⟩⟩ a5 a6 fun c o b1 _ b3 b4 e => k c o b1 b3 b4 e
theorem zl_end {Q : Option Value → Shared → Prop} (hh : A.handled = none) (D : ZipApart z TI TO i1 i2 l1 l2) (st : Zst s.heap z TI TO i1 i2 l1 l2 S i)
    (hl1 : s.heap.IsList l1 xs) (hl2 : s.heap.IsList l2 ys) (he : xs[i]? = none ∨ ys[i]? = none)
    (q : ∀ h', (∀ c o, c ≠ z → c ≠ TO → c ≠ i1 → c ≠ i2 → s.heap.get? c = some o → h'.get? c = some o) → Q none { s with heap := h' }) : wpAny (model prog w) A (pyNext (.ref z)) Q E s := by
  rcases st.out with ⟨hz, a, b, hTO⟩ | ⟨t, f, ot, hz, ht, nt⟩
  · exact wpAny_pyNext_zip_end hh D hz st.pair hTO st.it1 st.it2 hl1 hl2 he q
  · exact wpAny_pyNext_zip_end_held hh D hz ht st.pair st.it1 st.it2 hl1 hl2 he fun h' k => q h' fun c o b1 _ b3 b4 e => k c o b1 b3 b4 e
/-- the pairs made so far, one after the other, above lo -/
structure Made (xs ys : Array Value) (lo : Addr) (h : Heap) (as : List Addr) : Prop where
  rise : as.Pairwise (· < ·)
  above : ∀ a ∈ as, lo < a
  pairs : ∀ (j : Nat) (a : Addr), as[j]? = some a → ∃ x y, xs[j]? = some x ∧ ys[j]? = some y ∧ IsPair h a x y
theorem Made.there {lo : Addr} {h : Heap} {as : List Addr} (m : Made xs ys lo h as) {a : Addr} (ha : a ∈ as) : a < h.objs.size := by
  obtain ⟨j, hj⟩ := List.mem_iff_getElem?.mp ha
  obtain ⟨_, _, _, _, e⟩ := m.pairs j a hj
  exact Heap.lt_size e
theorem zl_loop {R : Result → Shared → Prop} {n : Nat} {lo : Addr} {h₁ : Heap} (hh : A.handled = none) (D : ZipApart z TI TO i1 i2 l1 l2) (hs : S ≠ z ∧ S ≠ TI ∧ S ≠ TO ∧ S ≠ i1 ∧ S ≠ i2) (hsl : S ≠ l1 ∧ S ≠ l2) (hlo : S ≤ lo ∧ z ≤ lo ∧ TO ≤ lo ∧ i1 ≤ lo ∧ i2 ≤ lo)
    (hnx : n = min xs.size ys.size) (hn : n ≤ sizeLine) (res : Value)
    (hR : ∀ h' tk acc c as, (∀ b o, b ≠ S → b ≠ z → b ≠ TO → b ≠ i1 → b ≠ i2 → h₁.get? b = some o → h'.get? b = some o) → h'.get? S = some { cls := .type "list", dict := none, data := .seq acc c, slots := #[] } →
      as.length = n → Made xs ys lo h' as → acc.toList = as.map Value.ref → R (.ok (.ret res)) { s with heap := h', toks := tk }) :
    ∀ (k i : Nat) (h : Heap) (tk c : Nat) (acc : Array Value) (as : List Addr), n - i = k → i ≤ n → Zst h z TI TO i1 i2 l1 l2 S i → h.IsList l1 xs → h.IsList l2 ys →
      (∀ b o, b ≠ S → b ≠ z → b ≠ TO → b ≠ i1 → b ≠ i2 → h₁.get? b = some o → h.get? b = some o) →
      h.get? S = some { cls := .type "list", dict := none, data := .seq acc c, slots := #[] } → acc.toList = as.map Value.ref → as.length = i → Made xs ys lo h as → lo < h.objs.size →
      codeAny (model prog w) A (.builtin "list.extend.loop" ⟨[.ref S, .ref z, res], []⟩) R { s with heap := h, toks := tk } := by
  intro k
  induction k with
  | zero =>
    intro i h tk c acc as hk hi st hl1 hl2 keep hS hacc hal hG hlt
    have he : xs[i]? = none ∨ ys[i]? = none := by
      rcases Nat.le_total xs.size ys.size with q | q
      · exact .inl (Array.getElem?_eq_none (by omega))
      · exact .inr (Array.getElem?_eq_none (by omega))
    refine codeAny_builtin F.entry_extend_loop ?_
    rw [Around.under_plainId F.plain_extend_loop _]
    refine wpAny_bind (zl_end (s := { s with heap := h, toks := tk }) (A := A.in1) hh D st hl1 hl2 he fun h' kp => ?_)
    have am : ∀ a ∈ as, a ≠ z ∧ a ≠ TO ∧ a ≠ i1 ∧ a ≠ i2 := fun a ha => by
      have := hG.above a ha
      exact ⟨Nat.ne_of_gt (Nat.lt_of_le_of_lt hlo.2.1 this), Nat.ne_of_gt (Nat.lt_of_le_of_lt hlo.2.2.1 this), Nat.ne_of_gt (Nat.lt_of_le_of_lt hlo.2.2.2.1 this), Nat.ne_of_gt (Nat.lt_of_le_of_lt hlo.2.2.2.2 this)⟩
    refine wpAny_pure (hR h' tk acc c as (fun b o b1 b2 b3 b4 b5 e => kp b o b2 b3 b4 b5 (keep b o b1 b2 b3 b4 b5 e)) (kp S _ hs.1 hs.2.2.1 hs.2.2.2.1 hs.2.2.2.2 hS) (by omega) ⟨hG.rise, hG.above, fun j a hj => ?_⟩ hacc)
    obtain ⟨x, y, e1, e2, e3⟩ := hG.pairs j a hj
    have na := am a (List.mem_of_getElem? hj)
    exact ⟨x, y, e1, e2, kp a _ na.1 na.2.1 na.2.2.1 na.2.2.2 e3⟩
  | succ k ih =>
    intro i h tk c acc as hk hi st hl1 hl2 keep hS hacc hal hG hlt
    have hin : i < n := by omega
    obtain ⟨x, hx⟩ : ∃ x, xs[i]? = some x := ⟨xs[i]'(by omega), Array.getElem?_eq_getElem (by omega)⟩
    obtain ⟨y, hy⟩ : ∃ y, ys[i]? = some y := ⟨ys[i]'(by omega), Array.getElem?_eq_getElem (by omega)⟩
    have hsz : acc.size = i := by rw [← Array.length_toList, hacc, List.length_map, hal]
    have hSl : S < h.objs.size := Heap.lt_size hS
    refine codeAny_builtin F.entry_extend_loop ?_
    rw [Around.under_plainId F.plain_extend_loop _]
    refine wpAny_bind (zl_item (s := { s with heap := h, toks := tk }) (S := S) D st hSl hl1 hl2 hx hy fun h' st' ht hz kp => ?_)
    dsimp only at ht hz kp ⊢
    have hS' := kp S _ hs.1 hs.2.2.1 hs.2.2.2.1 hs.2.2.2.2 hS
    have up : ∀ b o, b ≠ S → h'.get? b = some o → (h'.update S (Obj.mapSeq (·.push (Value.ref h.objs.size)))).get? b = some o := fun b o hb e => by
      rw [Heap.get?_update_other _ _ (Ne.symm hb)]
      exact e
    have ext : Heap.IsList h' l1 xs ∧ Heap.IsList h' l2 ys := ⟨hl1.at fun o e => kp _ o D.l1z D.l1TO D.l1i1 D.l1i2 e, hl2.at fun o e => kp _ o D.l2z D.l2TO D.l2i1 D.l2i2 e⟩
    have am : ∀ a ∈ as, a ≠ z ∧ a ≠ TO ∧ a ≠ i1 ∧ a ≠ i2 ∧ a ≠ S := fun a ha => by
      have := hG.above a ha
      exact ⟨Nat.ne_of_gt (Nat.lt_of_le_of_lt hlo.2.1 this), Nat.ne_of_gt (Nat.lt_of_le_of_lt hlo.2.2.1 this), Nat.ne_of_gt (Nat.lt_of_le_of_lt hlo.2.2.2.1 this), Nat.ne_of_gt (Nat.lt_of_le_of_lt hlo.2.2.2.2 this), Nat.ne_of_gt (Nat.lt_of_le_of_lt hlo.1 this)⟩
    show wpAny _ A.in1 (updateSeq S (·.push (Value.ref h.objs.size)) >>= _) _ _ _
    refine wpAny_bind ?_
    refine wpAny_updateSeq hS' rfl (wpAny_pure ⟨plainId_quiet F.plain_extend_loop _, ih (i + 1) _ tk _ (acc.push (Value.ref h.objs.size)) (as ++ [h.objs.size]) (by omega) hin (st'.keep hs up)
      (ext.1.at fun o e => up _ o hsl.1.symm e) (ext.2.at fun o e => up _ o hsl.2.symm e) (fun b o b1 b2 b3 b4 b5 e => up b o b1 (kp b o b2 b3 b4 b5 (keep b o b1 b2 b3 b4 b5 e)))
      (Heap.get?_update_self _ hS' rfl) (by rw [Array.toList_push, hacc, List.map_append]; rfl) (by rw [List.length_append, hal]; rfl) ⟨?_, ?_, ?_⟩ ?_⟩)
      (by rw [hsz]; omega) (by show (acc.push (Value.ref h.objs.size)).size ≤ sizeLine + 1; rw [Array.size_push, hsz]; omega)
    · refine List.pairwise_append.mpr ⟨hG.rise, List.pairwise_singleton _ _, fun a ha b hb => ?_⟩
      rw [List.mem_singleton.mp hb]
      exact hG.there ha
    · intro a ha
      rcases List.mem_append.mp ha with ha | ha
      · exact hG.above a ha
      · rw [List.mem_singleton.mp ha]
        exact hlt
    · intro j b hj
      by_cases h1 : j < as.length
      · rw [List.getElem?_append_left h1] at hj
        obtain ⟨x', y', e1, e2, e3⟩ := hG.pairs j b hj
        have na := am b (List.mem_of_getElem? hj)
        exact ⟨x', y', e1, e2, up b _ na.2.2.2.2 (kp b _ na.1 na.2.1 na.2.2.1 na.2.2.2.1 e3)⟩
      · have h2 : j = as.length := by
          have := (List.getElem?_eq_some_iff.mp hj).1
          rw [List.length_append, List.length_singleton] at this
          omega
        subst h2
        have hb : h.objs.size = b := by simpa using hj
        subst hb
        exact ⟨x, y, by rw [hal]; exact hx, by rw [hal]; exact hy, up _ _ (Nat.ne_of_gt hSl) ht⟩
    · have e := up _ _ (Nat.ne_of_gt hSl) ht
      exact Nat.lt_trans hlt (Heap.lt_size e)
theorem zl_hint (hT : s.TypeIs (.ref z) "zip") {Q : Bool → Shared → Prop} (h : Q true s) : wpAny (model prog w) A (Builtin.List.listLengthHint (.ref z)) Q E s := by
  unfold Builtin.List.listLengthHint
  refine wpAny_bind (wpAny_specialOf hT no_len ?_)
  refine wpAny_ite_split (fun hab => absurd hab (by decide)) (fun _ => ?_)
  refine wpAny_ite_split (fun hab => absurd hab (by decide)) (fun _ => ?_)
  exact wpAny_bind (wpAny_specialOf hT no_hint (wpAny_pure h))
end
end Zl

set_option linter.all false
set_option maxHeartbeats 2000000
namespace Zl
open PySem PySem.Spec PyProof.Rows L2 PySem.W
section
variable {prog : Program} {w : World} {A : Around} {E : Value → Shared → Prop} {s : Shared} {z TI TO i1 i2 l1 l2 S : Addr} {xs ys : Array Value}
/-- list's own filling by the zip -/
theorem zl_fill {R : Result → Shared → Prop} (hh : A.handled = none) (D : ZipApart z TI TO i1 i2 l1 l2) (hs : S ≠ z ∧ S ≠ TI ∧ S ≠ TO ∧ S ≠ i1 ∧ S ≠ i2) (hsl : S ≠ l1 ∧ S ≠ l2) (hlo : z ≤ S ∧ TO ≤ S ∧ i1 ≤ S ∧ i2 ≤ S)
    (hz : IsZip s.heap z TI TO .none) (hTI : IsPair s.heap TI (.ref i1) (.ref i2)) {a b : Value} (hTO : IsPair s.heap TO a b) (h1 : s.heap.IsListIter i1 l1 0) (h2 : s.heap.IsListIter i2 l2 0) (hl1 : s.heap.IsList l1 xs) (hl2 : s.heap.IsList l2 ys)
    (hS : s.heap.get? S = some { cls := .type "list", data := .seq #[] }) (hn : min xs.size ys.size ≤ sizeLine)
    (hR : ∀ h' tk acc c as, (∀ b o, b ≠ S → b ≠ z → b ≠ TO → b ≠ i1 → b ≠ i2 → s.heap.get? b = some o → h'.get? b = some o) → h'.get? S = some { cls := .type "list", dict := none, data := .seq acc c, slots := #[] } →
      as.length = min xs.size ys.size → Made xs ys S h' as → acc.toList = as.map Value.ref → R (.ok (.ret .none)) { s with heap := h', toks := tk }) :
    wpAny (model prog w) A.in1 (Builtin.«list.__init__» ⟨[.ref S, .ref z], []⟩)
      (fun fin s' => match fin with | .done f => R (.ok f) s' | .again c' => c'.quiet = true ∧ codeAny (model prog w) A c' R s') (fun e s' => R (.error e) s') s := by
  show wpAny _ _ (do let old ← Builtin.List.listItems (.ref S); Builtin.List.listUpdate (.ref S) (fun _ => #[]); letGo old.toList.reverse; Builtin.List.listExtendWith (.ref S) (.ref z) .none) _ _ s
  refine wpAny_bind ?_
  unfold Builtin.List.listItems
  refine wpAny_bind (wpAny_seqItems hS rfl (wpAny_pure ?_))
  refine wpAny_bind (wpAny_updateSeq hS rfl ?_)
  have hS2 := Heap.get?_update_self (Obj.mapSeq (fun _ => (#[] : Array Value))) hS rfl
  have oth : ∀ b o, b ≠ S → s.heap.get? b = some o → (s.heap.update S (Obj.mapSeq (fun _ => (#[] : Array Value)))).get? b = some o := fun b o hb e => by
    rw [Heap.get?_update_other _ _ (Ne.symm hb)]
    exact e
  refine wpAny_bind (wpAny_letGo ?_)
  have hz2 := oth _ _ hs.1.symm hz
  have key : ∀ (h : Heap) (c tk : Nat), (∀ b o, b ≠ S → s.heap.get? b = some o → h.get? b = some o) → h.get? S = some { cls := .type "list", data := .seq #[] c } →
      codeAny (model prog w) A (.builtin "list.extend.loop" ⟨[.ref S, .ref z, .none], []⟩) R { s with heap := h, toks := tk } := fun h c tk k hS3 =>
    zl_loop (s := s) (h₁ := s.heap) (lo := S) hh D hs hsl ⟨Nat.le_refl _, hlo⟩ rfl hn .none hR _ 0 h tk c #[] [] rfl (Nat.zero_le _)
      ⟨k _ _ hs.2.1.symm hTI, h1.at fun o e => k _ o hs.2.2.2.1.symm e, h2.at fun o e => k _ o hs.2.2.2.2.symm e, .inl ⟨k _ _ hs.1.symm hz, a, b, k _ _ hs.2.2.1.symm hTO⟩⟩ (hl1.at fun o e => k _ o hsl.1.symm e) (hl2.at fun o e => k _ o hsl.2.symm e)
      (fun b o b1 _ _ _ _ e => k b o b1 e) hS3 rfl rfl ⟨List.Pairwise.nil, (fun _ ha => nomatch ha), (fun j a hj => by simp at hj)⟩ (Heap.lt_size hS3)
  unfold Builtin.List.listExtendWith
  refine wpAny_bind (wpAny_typeOf (T := "zip") ⟨_, hz2, rfl⟩ ?_)
  have n1 : Builtin.List.listSameRef (.ref S) (.ref z) = false := by simp [Builtin.List.listSameRef, hs.1]
  have n2 : (Value.type "zip" == Value.type "list") = false := by decide
  have n3 : (Value.type "zip" == Value.type "tuple") = false := by decide
  simp only [n1, n2, n3, Bool.or_false, Bool.false_eq_true, if_false]
  refine wpAny_bind (wpAny_pyIter_zip hz2 ?_)
  refine wpAny_bind (wpAny_holding (zl_hint ⟨_, hz2, rfl⟩ ?_))
  refine wpAny_ite_split (fun _ => ?_) (fun hab => absurd rfl hab)
  refine wpAny_bind (wpAny_rule ?_)
  refine wpAny_bind ?_
  show wpAny _ _ (updateSeq S (·.push .none) >>= fun _ => updateSeq S (·.pop)) _ _ _
  refine wpAny_bind (wpAny_updateSeq hS2 rfl ?_)
  have hS4 := Heap.get?_update_self (Obj.mapSeq (·.push Value.none)) hS2 rfl
  refine wpAny_updateSeq (hz := by seq_fits) hS4 rfl ?_
  have hS5 := Heap.get?_update_self (Obj.mapSeq (·.pop)) hS4 rfl
  refine wpAny_pure ⟨plainId_quiet F.plain_extend_loop _, key _ _ _ (fun b o hb e => ?_) hS5⟩
  rw [Heap.get?_update_other _ _ (Ne.symm hb), Heap.get?_update_other _ _ (Ne.symm hb)]
  exact oth b o hb e
theorem zl_call {Q : Value → Shared → Prop} (hh : A.handled = none) (D : ZipApart z TI TO i1 i2 l1 l2) (hz : IsZip s.heap z TI TO .none) (hTI : IsPair s.heap TI (.ref i1) (.ref i2)) {a b : Value} (hTO : IsPair s.heap TO a b)
    (h1 : s.heap.IsListIter i1 l1 0) (h2 : s.heap.IsListIter i2 l2 0) (hl1 : s.heap.IsList l1 xs) (hl2 : s.heap.IsList l2 ys) (hn : min xs.size ys.size ≤ sizeLine)
    (q : ∀ h' tk acc c as, (∀ b o, b ≠ z → b ≠ TO → b ≠ i1 → b ≠ i2 → s.heap.get? b = some o → h'.get? b = some o) → h'.get? s.heap.objs.size = some { cls := .type "list", dict := none, data := .seq acc c, slots := #[] } →
      as.length = min xs.size ys.size → Made xs ys s.heap.objs.size h' as → acc.toList = as.map Value.ref → Q (.ref s.heap.objs.size) { s with heap := h', toks := tk }) :
    wpAny (model prog w) A (call (.type "list") [.ref z]) Q E s := by
  refine callType_codes (Q₁ := fun obj s₁ => obj = .ref s.heap.objs.size ∧ s₁ = { s with heap := s.heap.push { cls := .type "list", data := .seq #[] } }) F.called_list (F.typeCall_list_1 _) F.entry_list_init
    (code_list_new _ ⟨rfl, rfl⟩) fun obj s₁ e1 => ?_
  obtain ⟨rfl, rfl⟩ := e1
  have hS : (s.heap.push { cls := .type "list", data := .seq #[] }).get? s.heap.objs.size = some { cls := .type "list", data := .seq #[] } := Heap.get?_push_size _ rfl
  have up : ∀ c o, s.heap.get? c = some o → (s.heap.push { cls := .type "list", data := .seq #[] }).get? c = some o := fun c o e => Heap.get?_push_of_some _ e
  obtain ⟨o1, e1, _⟩ := id h1
  obtain ⟨o2, e2, _⟩ := id h2
  obtain ⟨p1, g1, _⟩ := id hl1
  obtain ⟨p2, g2, _⟩ := id hl2
  have lz := Heap.lt_size hz
  have lTO := Heap.lt_size hTO
  have li1 := Heap.lt_size e1
  have li2 := Heap.lt_size e2
  refine ⟨⟨_, hS, rfl⟩, F.args_list_init_2 _ _, zl_fill (A := A.in1) hh D ⟨Nat.ne_of_gt lz, Nat.ne_of_gt (Heap.lt_size hTI), Nat.ne_of_gt lTO, Nat.ne_of_gt li1, Nat.ne_of_gt li2⟩ ⟨Nat.ne_of_gt (Heap.lt_size g1), Nat.ne_of_gt (Heap.lt_size g2)⟩
    ⟨Nat.le_of_lt lz, Nat.le_of_lt lTO, Nat.le_of_lt li1, Nat.le_of_lt li2⟩ (up _ _ hz) (up _ _ hTI) (up _ _ hTO) (h1.at fun o e => up _ o e) (h2.at fun o e => up _ o e) (hl1.at fun o e => up _ o e) (hl2.at fun o e => up _ o e) hS hn
    fun h' tk acc c as k hS' hl hG hacc => ?_⟩
  exact ⟨rfl, q h' tk acc c as (fun b o b1 b2 b3 b4 e => k b o (Nat.ne_of_lt (Heap.lt_size e)) b1 b2 b3 b4 (up b o e)) hS' hl hG hacc⟩
end
/-! ### the rule of the layer -/
def tListZip (K : PySem.W.Frag) (ta : TA) : TE := fun σ H Q => ta σ H fun vs H1 => ∃ a b xs ys, vs = [.ref a, .ref b] ∧ SqL K H1 a xs ∧ SqL K H1 b ys ∧
  ∀ (H' : Hp) (p : Addr) (ts : List Addr), Same H1 H' → H1 p = none → (∀ t ∈ ts, H1 t = none) → p ∉ ts → H' p = some (.lst (ts.map V.ref)) → ts.length = min xs.length ys.length →
    (∀ (i : Nat) (t : Addr), ts[i]? = some t → ∃ x y, xs[i]? = some x ∧ ys[i]? = some y ∧ H' t = some (.tup [x, y])) → Q (.ref p) H'
/-- pairs tracked at their addresses -/
def put2 : Hp → List Addr → List V → List V → Hp
  | H, a :: as, x :: xs, y :: ys => put2 (upd H a (.tup [x, y])) as xs ys
  | H, _, _, _ => H
theorem put2_off {b : Addr} : ∀ (as : List Addr) (xs ys : List V) (H : Hp), b ∉ as → put2 H as xs ys b = H b
  | [], _, _, _, _ => rfl
  | _ :: _, [], _, _, _ => rfl
  | _ :: _, _ :: _, [], _, _ => rfl
  | a :: as, x :: xs, y :: ys, H, h => by
    show put2 (upd H a (.tup [x, y])) as xs ys b = H b
    rw [put2_off as xs ys _ (fun q => h (List.mem_cons_of_mem _ q)), upd_ne (fun q => h (by rw [q]; exact List.mem_cons_self))]
theorem put2_at : ∀ (as : List Addr) (xs ys : List V) (H : Hp), as.length = min xs.length ys.length → as.Nodup → ∀ (i : Nat) (t : Addr), as[i]? = some t → ∃ x y, xs[i]? = some x ∧ ys[i]? = some y ∧ put2 H as xs ys t = some (.tup [x, y])
  | [], _, _, _, _, _, i, t, e => by simp at e
  | _ :: _, [], _, _, h, _, _, _, _ => by simp at h
  | _ :: _, _ :: _, [], _, h, _, _, _, _ => by simp at h
  | a :: as, x :: xs, y :: ys, H, h, hn, i, t, e => by
    have hn' := List.nodup_cons.mp hn
    have ih := put2_at as xs ys (upd H a (.tup [x, y])) (by simp only [List.length_cons] at h; omega) hn'.2
    cases i with
    | zero =>
      have e' : a = t := by simpa using e
      subst e'
      refine ⟨x, y, rfl, rfl, ?_⟩
      show put2 (upd H a (.tup [x, y])) as xs ys a = _
      rw [put2_off as xs ys _ hn'.1, upd_same]
    | succ i => exact ih i t (by simpa using e)
section
variable {X : Cx} {e e2 : Expr} {ta : TA} {p p2 pos q : Pos}
theorem pe_listZip (hc : X.calm = true) (hg : Gl X "list") (hm : X.mg "list" = none) (hg2 : Gl X "zip") (hm2 : X.mg "zip" = none) (ha : PA X [e, e2] ta)
    (hs : starEach [e, e2] X.env = (false, eval e X.env) :: starEach [e2] X.env := by rfl) (hpl : (backTo q (starEach [e2] X.env)).any (·.1) = false := by rfl)
    (hs2 : starEach [.Call (.Name "zip" p2) [e, e2] [] q] X.env = (false, eval (.Call (.Name "zip" p2) [e, e2] [] q) X.env) :: starEach [] X.env := by rfl) :
    PE X (.Call (.Name "list" p) [.Call (.Name "zip" p2) [e, e2] [] q] [] pos) (tListZip X.K ta) := by
  refine ⟨fun pins s σ H Q I h => ?_⟩
  refine wpAny_Call_Name_kw (ld_blt I hg hm (by decide +kernel : bootBuiltins "list" = some (.type "list")) ?_)
  refine PyProof.Rows.callWith_type1 ?_ hs2 rfl
  rw [hs2]
  refine Calls.spliced_cons ?_
  refine Call_ (ld_blt I hg2 hm2 PyProof.Rows.boot_zip (PyProof.Rows.callWith_type1 (thn (ha.run q pins s σ H _ I h) fun us s1 ⟨vs, H1, I1, r1, q1⟩ => ?_) hs hpl))
  obtain ⟨a, b, xs, ys, ex, hqx, hqy, k0⟩ := q1
  subst ex
  cases r1 with
  | cons r rr =>
    cases rr with
    | cons r' rr =>
      cases rr
      cases r
      cases r'
      obtain ⟨its, rv, pl1, hz1⟩ := I1.list hqx
      obtain ⟨its2, rv2, pl2, hz2⟩ := I1.list hqy
      have la : a < s1.heap.objs.size := pl1.lt
      have lb : b < s1.heap.objs.size := pl2.lt
      have D := PySem.W.ktu_apart s1.heap.objs.size a b la lb
      have e1 := rv.length
      have e2' := rv2.length
      refine call_zip_2 pl1.isList pl2.isList fun h' hz hTI hTO h1 h2 hsz hk => Calls.spliced_nil ?_
      refine zl_call (s := { s1 with heap := h' }) (I1.ok.hd hc) D hz hTI hTO h1 h2 (pl1.isList.at fun o e => hk _ o e) (pl2.isList.at fun o e => hk _ o e) (by simp only [List.size_toArray]; omega) fun h3 tk acc c as k hS hl hG hacc => ?_
      dsimp only at hS k hG ⊢
      have hlo : s1.heap.objs.size ≤ h'.objs.size := by rw [hsz]; exact Nat.le_add_right _ _
      have old : ∀ b o, s1.heap.get? b = some o → h3.get? b = some o := fun b o eb => by
        have hb := Heap.lt_size eb
        refine k b o ?_ ?_ ?_ ?_ (hk b o eb)
        · exact Nat.ne_of_lt (Nat.lt_of_lt_of_le hb (Nat.le_add_right _ _))
        · exact Nat.ne_of_lt (Nat.lt_of_lt_of_le hb (Nat.le_add_right _ _))
        · exact Nat.ne_of_lt hb
        · exact Nat.ne_of_lt (Nat.lt_of_lt_of_le hb (Nat.le_add_right _ _))
      have hSn : h'.objs.size ∉ as := fun m => Nat.lt_irrefl _ (hG.above _ m)
      have nd : as.Nodup := List.Pairwise.imp (fun {a b} (h : a < b) => Nat.ne_of_lt h) hG.rise
      have new : ∀ t ∈ as, H1 t = none := fun t ht => I1.hok.fresh (Nat.le_trans hlo (Nat.le_of_lt (hG.above t ht)))
      have newS : H1 h'.objs.size = none := I1.hok.fresh hlo
      generalize hF : put2 (upd H1 h'.objs.size (.lst (as.map V.ref))) as xs ys = F
      have atP := put2_at as xs ys (upd H1 h'.objs.size (.lst (as.map V.ref))) (by rw [hl]; simp only [List.size_toArray]; omega) nd
      rw [hF] at atP
      have off : ∀ b, b ∉ as → b ≠ h'.objs.size → F b = H1 b := fun b b1 b2 => by rw [← hF, put2_off as xs ys _ b1, upd_ne b2]
      have kp : ∀ b u, H1 b = some u → F b = some u := fun b u eb => by
        rw [off b (fun m => by rw [new b m] at eb; cases eb) (fun m => by rw [m, newS] at eb; cases eb)]
        exact eb
      have eS : F h'.objs.size = some (.lst (as.map V.ref)) := by rw [← hF, put2_off as xs ys _ hSn, upd_same]
      have J : Inv X pins σ F { s1 with heap := h3, toks := tk } := by
        refine I1.call' (ch := []) rfl ⟨fun b o q _ _ _ => old b o q, fun b o q _ _ _ => ⟨o.slots, old b o q⟩, fun b o q n _ => ?_, fun b o q _ => ⟨o, old b o q⟩, fun b xs q => kp b _ q, fun b o u q => kp b _ q, fun b ps q => ⟨#[], by rw [kp b _ q]; simp⟩⟩ (fun b u q => ?_) I1.bare fun b m => by simp at m
        · have hb := Heap.lt_size q
          rw [off b (fun m => Nat.lt_irrefl _ (Nat.lt_trans hb (Nat.lt_of_le_of_lt hlo (hG.above b m)))) (Nat.ne_of_lt (Nat.lt_of_lt_of_le hb hlo))]
          exact n
        · by_cases hb : b ∈ as
          · obtain ⟨j, hj⟩ := List.mem_iff_getElem?.mp hb
            obtain ⟨x, y, f1, f2, f3⟩ := atP j b hj
            rw [f3] at q
            cases q
            obtain ⟨u1, u2, g1, g2, g3⟩ := hG.pairs j b hj
            obtain ⟨v1, m1, m2⟩ := rv.get f1
            obtain ⟨v2, m3, m4⟩ := rv2.get f2
            have w1 : v1 = u1 := by
              have : its.toArray[j]? = some v1 := by simpa using m1
              rw [this] at g1
              exact Option.some.inj g1
            have w2 : v2 = u2 := by
              have : its2.toArray[j]? = some v2 := by simpa using m3
              rw [this] at g2
              exact Option.some.inj g2
            subst w1 w2
            exact ⟨by show 2 ≤ sizeLine; decide, [v1, v2], .cons m2 (.cons m4 .nil), ⟨_, g3, rfl, _, rfl⟩⟩
          · by_cases hb2 : b = h'.objs.size
            · subst hb2
              rw [eS] at q
              cases q
              refine ⟨by rw [List.length_map, hl]; simp only [List.size_toArray]; omega, acc.toList, c, by rw [hacc]; exact LiI.vals_refs as, ?_⟩
              rw [Array.toArray_toList]
              exact hS
            · rw [off b hb hb2] at q
              exact (I1.hok b u q).stay (fun d v _ y => old d v y) (fun d y => kp d _ y) fun d zs y => kp d _ y
      exact ⟨.ref _, F, J, rfl, k0 F _ as kp newS new hSn eS (by rw [hl]; simp only [List.size_toArray]; omega) atP⟩
end
end Zl

namespace Mw
open PySem L2
/-! ### the plain form by levels -/
def dm : T → T
  | .nil => .nil
  | .text s r => .text s (dm r)
  | .shw n r => .shw n (dm r)
  | .num r => .num (dm r)
  | .cho hd cs o r => .cho hd (pl ("" : Str) cs) (pl ("" : Str) o) (dm r)
  | .cas k m r => .cas k m (dm r)
theorem txt_e (u : T) : txt ("" : Str) u = u := if_pos rfl
theorem dm_txt (s : Str) (u : T) : dm (txt s u) = txt s (dm u) := by
  unfold txt
  split <;> rfl
theorem pl_dm : ∀ {t : T}, Wf t false → ∀ ss, pl (catS ss) t = dm (jt ss t)
  | .nil, _, ss => by
    show txt (catS ss) .nil = dm (txt (catS ss) .nil)
    rw [dm_txt]
    rfl
  | .text s r, w, ss => by
    show pl (catS ss ++ s) r = dm (jt (ss ++ [s]) r)
    rw [← cat_add]
    exact pl_dm w.2 _
  | .shw n r, w, ss => by
    have := pl_dm w.2 []
    show txt (catS ss) (.shw n (pl ("" : Str) r)) = dm (txt (catS ss) (.shw n (jt [] r)))
    rw [dm_txt]
    rw [cat_nil] at this
    rw [this]
    rfl
  | .num r, w, ss => by
    have := pl_dm w.2 []
    show txt (catS ss) (.num (pl ("" : Str) r)) = dm (txt (catS ss) (.num (jt [] r)))
    rw [dm_txt]
    rw [cat_nil] at this
    rw [this]
    rfl
  | .cho hd cs o r, w, ss => by
    have := pl_dm w.2.2.2.2 []
    show txt (catS ss) (.cho hd (pl ("" : Str) cs) (pl ("" : Str) o) (pl ("" : Str) r)) = dm (txt (catS ss) (.cho hd cs o (jt [] r)))
    rw [dm_txt]
    rw [cat_nil] at this
    rw [this]
    rfl
  | .cas _ _ _, w, _ => by cases w.1
theorem dm_app (u : T) : ∀ t : T, dm (t.app u) = (dm t).app (dm u)
  | .nil => rfl
  | .text s r => congrArg (T.text s) (dm_app u r)
  | .shw s r => congrArg (T.shw s) (dm_app u r)
  | .num r => congrArg T.num (dm_app u r)
  | .cho hd cs o r => congrArg (T.cho hd _ _) (dm_app u r)
  | .cas k m r => congrArg (T.cas k m) (dm_app u r)
theorem txt_wf {s : Str} {u : T} (w : Wf u false) : Wf (txt s u) false := by
  unfold txt
  split
  · exact w
  · exact ⟨rfl, w⟩
theorem jt_wf : ∀ {t : T}, Wf t false → ∀ ss, Wf (jt ss t) false
  | .nil, _, ss => txt_wf trivial
  | .text s r, w, ss => jt_wf w.2 _
  | .shw n r, w, ss => txt_wf ⟨rfl, jt_wf w.2 _⟩
  | .num r, w, ss => txt_wf ⟨rfl, jt_wf w.2 _⟩
  | .cho hd cs o r, w, ss => txt_wf ⟨rfl, w.2.1, w.2.2.1, w.2.2.2.1, jt_wf w.2.2.2.2 _⟩
  | .cas _ _ _, w, _ => by cases w.1
/-- what texts that wait weigh -/
def wt (ss : List Str) : Nat := if catS ss = ("" : Str) then 0 else 1 + (catS ss).length
theorem txt_sz (ss : List Str) (u : T) : (txt (catS ss) u).sz = wt ss + u.sz := by
  unfold txt wt
  split
  · omega
  · rfl
theorem wt_add (ss : List Str) (s : Str) : wt (ss ++ [s]) ≤ wt ss + (1 + s.length) := by
  unfold wt
  rw [cat_add]
  split
  · omega
  · rw [str_len]
    split
    · rename_i h
      rw [len_zero.mpr h]
      omega
    · omega
theorem jt_sz : ∀ {t : T}, Wf t false → ∀ ss, (jt ss t).sz ≤ wt ss + t.sz
  | .nil, _, ss => by
    show (txt (catS ss) .nil).sz ≤ _
    rw [txt_sz]
    exact Nat.le_refl _
  | .text s r, w, ss => by
    have h1 := jt_sz w.2 (ss ++ [s])
    have h2 := wt_add ss s
    show (jt (ss ++ [s]) r).sz ≤ wt ss + (1 + s.length + r.sz)
    omega
  | .shw n r, w, ss => by
    have h1 : (jt [] r).sz ≤ 0 + r.sz := jt_sz w.2 []
    show (txt (catS ss) (.shw n (jt [] r))).sz ≤ wt ss + (1 + r.sz)
    rw [txt_sz]
    simp only [T.sz]
    omega
  | .num r, w, ss => by
    have h1 : (jt [] r).sz ≤ 0 + r.sz := jt_sz w.2 []
    show (txt (catS ss) (.num (jt [] r))).sz ≤ wt ss + (1 + r.sz)
    rw [txt_sz]
    simp only [T.sz]
    omega
  | .cho hd cs o r, w, ss => by
    have h1 : (jt [] r).sz ≤ 0 + r.sz := jt_sz w.2.2.2.2 []
    show (txt (catS ss) (.cho hd cs o (jt [] r))).sz ≤ wt ss + (1 + cs.sz + o.sz + r.sz)
    rw [txt_sz]
    simp only [T.sz]
    omega
  | .cas _ _ _, w, _ => by cases w.1
/-! ### the lists that are being filled: G tells what each will be; L is the list of what waits -/
abbrev Gh := Addr → Option T
def Loc (H : Hp) (G : Gh) (L : Addr) (Z : Addr → Prop) : T → List V → Prop
  | .nil, vs => vs = []
  | .text s r, vs => ∃ p ws, vs = .ref p :: ws ∧ H p = some (.tup [.str "text", .str s]) ∧ Loc H G L Z r ws
  | .shw n r, vs => ∃ p ws, vs = .ref p :: ws ∧ H p = some (.tup [.str "show", .str n]) ∧ Loc H G L Z r ws
  | .num r, vs => ∃ p ws, vs = .ref p :: ws ∧ H p = some (.tup [.str "number"]) ∧ Loc H G L Z r ws
  | .cho hd cs o r, vs => ∃ p ws ca cvs oa, vs = .ref p :: ws ∧ H p = some (.tup (hd ++ [.ref ca, .ref oa])) ∧ H ca = some (.lst cvs) ∧ G ca = none ∧ (ca ≠ L ∧ Z ca) ∧ Loc H G L Z cs cvs ∧ G oa = some o ∧ Loc H G L Z r ws
  | .cas k m r, vs => ∃ p ws ma, vs = .ref p :: ws ∧ H p = some (.tup [k, .ref ma]) ∧ G ma = some m ∧ Loc H G L Z r ws
theorem Loc.app {H : Hp} {G : Gh} {L : Addr} {Z : Addr → Prop} {u : T} {us : List V} (hu : Loc H G L Z u us) : ∀ {t : T} {vs : List V}, Loc H G L Z t vs → Loc H G L Z (t.app u) (vs ++ us)
  | .nil, _, h => by rw [show _ = [] from h]; exact hu
  | .text s r, _, h => by
    obtain ⟨p, ws, rfl, hp, hr⟩ := h
    exact ⟨p, ws ++ us, rfl, hp, Loc.app hu hr⟩
  | .shw n r, _, h => by
    obtain ⟨p, ws, rfl, hp, hr⟩ := h
    exact ⟨p, ws ++ us, rfl, hp, Loc.app hu hr⟩
  | .num r, _, h => by
    obtain ⟨p, ws, rfl, hp, hr⟩ := h
    exact ⟨p, ws ++ us, rfl, hp, Loc.app hu hr⟩
  | .cho hd cs o r, _, h => by
    obtain ⟨p, ws, ca, cvs, oa, rfl, hp, hc, h1, h2, h3, h4, hr⟩ := h
    exact ⟨p, ws ++ us, ca, cvs, oa, rfl, hp, hc, h1, h2, h3, h4, Loc.app hu hr⟩
  | .cas k m r, _, h => by
    obtain ⟨p, ws, ma, rfl, hp, hm, hr⟩ := h
    exact ⟨p, ws ++ us, ma, rfl, hp, hm, Loc.app hu hr⟩
/-- once all is filled, the lists are the messages -/
theorem Loc.nodes {H : Hp} {G : Gh} {L : Addr} {Z : Addr → Prop} (fin : ∀ a t, G a = some t → ∃ vs, H a = some (.lst vs) ∧ Loc H G L Z t vs) : ∀ {t : T} {vs : List V}, Loc H G L Z t vs → Nodes H t vs
  | .nil, _, h => h
  | .text s r, _, h => by
    obtain ⟨p, ws, rfl, hp, hr⟩ := h
    exact ⟨p, ws, rfl, hp, Loc.nodes fin hr⟩
  | .shw n r, _, h => by
    obtain ⟨p, ws, rfl, hp, hr⟩ := h
    exact ⟨p, ws, rfl, hp, Loc.nodes fin hr⟩
  | .num r, _, h => by
    obtain ⟨p, ws, rfl, hp, hr⟩ := h
    exact ⟨p, ws, rfl, hp, Loc.nodes fin hr⟩
  | .cho hd cs o r, _, h => by
    obtain ⟨p, ws, ca, cvs, oa, rfl, hp, hc, h1, h2, h3, h4, hr⟩ := h
    obtain ⟨ovs, ho, hol⟩ := fin oa o h4
    exact ⟨p, ws, ca, cvs, oa, ovs, rfl, hp, hc, Loc.nodes fin h3, ho, Loc.nodes fin hol, Loc.nodes fin hr⟩
  | .cas k m r, _, h => by
    obtain ⟨p, ws, ma, rfl, hp, hm, hr⟩ := h
    obtain ⟨mvs, hmv, hml⟩ := fin ma m hm
    exact ⟨p, ws, ma, mvs, rfl, hp, hmv, Loc.nodes fin hml, Loc.nodes fin hr⟩
/-- the tuples of H', and the lists that H has not -/
def nlf (H H' : Hp) : Hp := fun a => match H' a with
  | some (.lst xs) => if H a = none then some (.lst xs) else none
  | some (.tup xs) => some (.tup xs)
  | _ => none
theorem nlf_lst {H H' : Hp} {a : Addr} {xs : List V} (h : H' a = some (.lst xs)) (e : H a = none) : nlf H H' a = some (.lst xs) := by
  unfold nlf
  rw [h]
  exact if_pos e
theorem nlf_tup {H H' : Hp} {a : Addr} {xs : List V} (h : H' a = some (.tup xs)) : nlf H H' a = some (.tup xs) := by
  unfold nlf
  rw [h]
theorem nlf_in {H H' : Hp} {a : Addr} {o : HO} (h : nlf H H' a = some o) : H' a = some o ∧ ((∃ xs, o = .tup xs) ∨ ((∃ xs, o = .lst xs) ∧ H a = none)) := by
  unfold nlf at h
  split at h
  · rename_i xs e
    split at h
    · rename_i e2
      cases h
      exact ⟨e, .inr ⟨⟨_, rfl⟩, e2⟩⟩
    · cases h
  · rename_i xs e
    cases h
    exact ⟨e, .inl ⟨_, rfl⟩⟩
  · cases h
theorem Loc.nodesF {H0 H : Hp} {G : Gh} {L : Addr} (fin : ∀ a t, G a = some t → H0 a = none ∧ ∃ vs, H a = some (.lst vs) ∧ Loc H G L (fun b => H0 b = none) t vs) : ∀ {t : T} {vs : List V}, Loc H G L (fun b => H0 b = none) t vs → Nodes (nlf H0 H) t vs
  | .nil, _, h => h
  | .text s r, _, h => by
    obtain ⟨p, ws, rfl, hp, hr⟩ := h
    exact ⟨p, ws, rfl, nlf_tup hp, Loc.nodesF fin hr⟩
  | .shw n r, _, h => by
    obtain ⟨p, ws, rfl, hp, hr⟩ := h
    exact ⟨p, ws, rfl, nlf_tup hp, Loc.nodesF fin hr⟩
  | .num r, _, h => by
    obtain ⟨p, ws, rfl, hp, hr⟩ := h
    exact ⟨p, ws, rfl, nlf_tup hp, Loc.nodesF fin hr⟩
  | .cho hd cs o r, _, h => by
    obtain ⟨p, ws, ca, cvs, oa, rfl, hp, hc, h1, h2, h3, h4, hr⟩ := h
    obtain ⟨f0, ovs, ho, hol⟩ := fin oa o h4
    exact ⟨p, ws, ca, cvs, oa, ovs, rfl, nlf_tup hp, nlf_lst hc h2.2, Loc.nodesF fin h3, nlf_lst ho f0, Loc.nodesF fin hol, Loc.nodesF fin hr⟩
  | .cas k m r, _, h => by
    obtain ⟨p, ws, ma, rfl, hp, hm, hr⟩ := h
    obtain ⟨f0, mvs, hmv, hml⟩ := fin ma m hm
    exact ⟨p, ws, ma, mvs, rfl, nlf_tup hp, nlf_lst hmv f0, Loc.nodesF fin hml, Loc.nodesF fin hr⟩
/-- a step: d (a list that is filled) and L may change, G may grow -/
structure Stp (H : Hp) (G : Gh) (H' : Hp) (G' : Gh) (d L : Addr) : Prop where
  dl : ∃ xs, H d = some (.lst xs)
  dg : ∃ t, G d = some t
  ll : ∃ xs, H L = some (.lst xs)
  ext : ∀ b o, b ≠ d → b ≠ L → H b = some o → H' b = some o
  grow : ∀ b t, G b = some t → G' b = some t
  stay : ∀ b o, H b = some o → G b = none → G' b = none
theorem Stp.tup {H H' : Hp} {G G' : Gh} {d L p : Addr} {xs : List V} (s : Stp H G H' G' d L) (h : H p = some (.tup xs)) : H' p = some (.tup xs) := by
  refine s.ext p _ ?_ ?_ h
  · rintro rfl
    obtain ⟨ys, e⟩ := s.dl
    rw [h] at e
    cases e
  · rintro rfl
    obtain ⟨ys, e⟩ := s.ll
    rw [h] at e
    cases e
theorem Loc.step {H H' : Hp} {G G' : Gh} {d L : Addr} {Z : Addr → Prop} (s : Stp H G H' G' d L) : ∀ {t : T} {vs : List V}, Loc H G L Z t vs → Loc H' G' L Z t vs
  | .nil, _, h => h
  | .text _ r, _, h => by
    obtain ⟨p, ws, rfl, hp, hr⟩ := h
    exact ⟨p, ws, rfl, s.tup hp, Loc.step s hr⟩
  | .shw n r, _, h => by
    obtain ⟨p, ws, rfl, hp, hr⟩ := h
    exact ⟨p, ws, rfl, s.tup hp, Loc.step s hr⟩
  | .num r, _, h => by
    obtain ⟨p, ws, rfl, hp, hr⟩ := h
    exact ⟨p, ws, rfl, s.tup hp, Loc.step s hr⟩
  | .cho hd cs o r, _, h => by
    obtain ⟨p, ws, ca, cvs, oa, rfl, hp, hc, h1, h2, h3, h4, hr⟩ := h
    refine ⟨p, ws, ca, cvs, oa, rfl, s.tup hp, s.ext _ _ ?_ h2.1 hc, s.stay _ _ hc h1, h2, Loc.step s h3, s.grow _ _ h4, Loc.step s hr⟩
    rintro rfl
    obtain ⟨t, e⟩ := s.dg
    rw [h1] at e
    cases e
  | .cas k m r, _, h => by
    obtain ⟨p, ws, ma, rfl, hp, hm, hr⟩ := h
    exact ⟨p, ws, ma, rfl, s.tup hp, s.grow _ _ hm, Loc.step s hr⟩
/-- G with the new lists -/
def asg (G : Gh) : List Addr → List T → Gh
  | a :: as, t :: ts => fun b => if b = a then some t else asg G as ts b
  | _, _ => G
theorem asg_off {G : Gh} {b : Addr} : ∀ {as : List Addr} {ts : List T}, b ∉ as → asg G as ts b = G b
  | [], _, _ => rfl
  | _ :: _, [], _ => rfl
  | a :: as, t :: ts, h => by
    show (if b = a then some t else asg G as ts b) = G b
    rw [if_neg fun e => h (by rw [e]; exact List.mem_cons_self), asg_off fun e => h (List.mem_cons_of_mem _ e)]
theorem asg_at {G : Gh} : ∀ {as : List Addr} {ts : List T} {i : Nat} {a : Addr} {t : T}, as.Nodup → as[i]? = some a → ts[i]? = some t → asg G as ts a = some t
  | [], _, _, _, _, _, h, _ => by simp at h
  | _ :: _, [], _, _, _, _, _, h => by simp at h
  | a :: as, t :: ts, 0, a', t', _, h, h' => by
    have e1 : a = a' := by simpa using h
    have e2 : t = t' := by simpa using h'
    subst e1 e2
    exact if_pos rfl
  | a :: as, t :: ts, i + 1, a', t', n, h, h' => by
    have n' := List.nodup_cons.mp n
    have h1 : as[i]? = some a' := by simpa using h
    show (if a' = a then some t else asg G as ts a') = some t'
    rw [if_neg (by rintro rfl; exact n'.1 (List.mem_of_getElem? h1))]
    exact asg_at n'.2 h1 (by simpa using h')
theorem asg_in {G : Gh} {b : Addr} {t : T} {as : List Addr} {ts : List T} (h : asg G as ts b = some t) : b ∈ as ∨ G b = some t := by
  by_cases e : b ∈ as
  · exact .inl e
  · rw [asg_off e] at h
    exact .inr h
/-- what waits: a source and the list that it goes to -/
def Pd (H H' : Hp) (G : Gh) (x : T × Addr) (v : V) : Prop := ∃ q s, v = .ref q ∧ H' q = some (.tup [.ref s, .ref x.2]) ∧ At (mix H H') s x.1 ∧ Wf x.1 false ∧ H' x.2 = some (.lst []) ∧ G x.2 = some (pl ("" : Str) x.1)
theorem pd_step {H H1 H2 : Hp} {G G' : Gh} {d L : Addr} {x : T × Addr} {v : V} (s : Stp H1 G H2 G' d L) (m : Same (mix H H1) (mix H H2)) (hd : x.2 ≠ d) (hL : x.2 ≠ L) (h : Pd H H1 G x v) : Pd H H2 G' x v := by
  obtain ⟨q, a, e, hq, ha, hw, hx, hg⟩ := h
  exact ⟨q, a, e, s.tup hq, ha.same m, hw, s.ext _ _ hd hL hx, s.grow _ _ hg⟩
def Pds (H H' : Hp) (G : Gh) : List (T × Addr) → List V → Prop
  | [], vs => vs = []
  | x :: xs, vs => ∃ v ws, vs = v :: ws ∧ Pd H H' G x v ∧ Pds H H' G xs ws
theorem Pds.length {H H' : Hp} {G : Gh} : ∀ {xs : List (T × Addr)} {vs : List V}, Pds H H' G xs vs → vs.length = xs.length
  | [], _, h => by rw [show _ = [] from h]; rfl
  | x :: xs, _, h => by
    obtain ⟨v, ws, rfl, _, h2⟩ := h
    exact congrArg (· + 1) h2.length
theorem Pds.app {H H' : Hp} {G : Gh} {xs' : List (T × Addr)} {vs' : List V} (h' : Pds H H' G xs' vs') : ∀ {xs : List (T × Addr)} {vs : List V}, Pds H H' G xs vs → Pds H H' G (xs ++ xs') (vs ++ vs')
  | [], _, h => by rw [show _ = [] from h]; exact h'
  | x :: xs, _, h => by
    obtain ⟨v, ws, rfl, h1, h2⟩ := h
    exact ⟨v, ws ++ vs', rfl, h1, Pds.app h' h2⟩
theorem Pds.last {H H' : Hp} {G : Gh} : ∀ {xs : List (T × Addr)} {vs : List V}, Pds H H' G xs vs → xs ≠ [] → ∃ ys x us v, xs = ys ++ [x] ∧ vs = us ++ [v] ∧ Pds H H' G ys us ∧ Pd H H' G x v
  | [], _, _, n => absurd rfl n
  | x :: xs, _, h, _ => by
    obtain ⟨v, ws, rfl, h1, h2⟩ := h
    by_cases e : xs = []
    · subst e
      rw [show ws = [] from h2]
      exact ⟨[], x, [], v, rfl, rfl, rfl, h1⟩
    · obtain ⟨ys, y, us, u, e1, e2, h3, h4⟩ := Pds.last h2 e
      exact ⟨x :: ys, y, v :: us, u, by rw [e1]; rfl, by rw [e2]; rfl, ⟨v, us, rfl, h1, h3⟩, h4⟩
theorem pds_step {H H1 H2 : Hp} {G G' : Gh} {d L : Addr} (s : Stp H1 G H2 G' d L) (m : Same (mix H H1) (mix H H2)) : ∀ {xs : List (T × Addr)} {vs : List V}, (∀ x ∈ xs, x.2 ≠ d ∧ x.2 ≠ L) → Pds H H1 G xs vs → Pds H H2 G' xs vs
  | [], _, _, h => h
  | x :: xs, _, hx, h => by
    obtain ⟨v, ws, rfl, h1, h2⟩ := h
    have := hx x (by simp)
    exact ⟨v, ws, rfl, pd_step s m this.1 this.2 h1, pds_step s m (fun y hy => hx y (List.mem_cons_of_mem _ hy)) h2⟩
def pw (xs : List (T × Addr)) : Nat := (xs.map fun x => x.1.sz + 1).sum
theorem pw_app (xs ys : List (T × Addr)) : pw (xs ++ ys) = pw xs + pw ys := by
  unfold pw
  rw [List.map_append, List.sum_append]
theorem pw_len : ∀ xs : List (T × Addr), xs.length ≤ pw xs
  | [] => Nat.le_refl _
  | x :: xs => by
    have := pw_len xs
    show xs.length + 1 ≤ x.1.sz + 1 + pw xs
    omega
theorem mix_mix {H H1 H2 : Hp} (s : Same H1 H2) : Same (mix (mix H H1) H2) (mix H H2) := fun a o h => by
  have base : ∀ {xs : List V}, H a = none → H2 a = some (.tup xs) → mix H H2 a = some (.tup xs) := fun {xs} e1 e2 => by
    unfold mix
    rw [e1]
    simp only
    rw [e2]
  rcases mix_in h with k | ⟨k, xs, rfl, k2⟩
  · rcases mix_in k with k3 | ⟨k3, ys, rfl, k4⟩
    · exact mix_old _ _ k3
    · exact base k3 (s _ _ k4)
  · refine base ?_ k2
    cases e : H a with
    | none => rfl
    | some u =>
      rw [mix_old _ _ e] at k
      cases k
/-- the new cases, their messages still to be filled -/
theorem cases_loc {H : Hp} {G : Gh} {L : Addr} {Z : Addr → Prop} : ∀ {cs : T} {tvs : List V} {fs : List Addr}, Wf cs true → CasesAt H tvs cs.keys (fs.map V.ref) → (∀ (i : Nat) (a : Addr) (m : T), fs[i]? = some a → cs.msgs[i]? = some m → G a = some (pl ("" : Str) m)) → Loc H G L Z (pl ("" : Str) cs) tvs
  | .nil, tvs, fs, _, h, _ => by
    have : tvs = [] := List.length_eq_zero_iff.mp h.1
    subst this
    exact (txt_e .nil).symm ▸ rfl
  | .cas k m r, tvs, fs, w, h, hg => by
    show Loc H G L Z (txt ("" : Str) (.cas k (pl ("" : Str) m) (pl ("" : Str) r))) tvs
    rw [txt_e]
    cases tvs with
    | nil => cases h.1
    | cons v tvs =>
      obtain ⟨q, k', f, e1, e2, e3, e4⟩ := h.2 0 v rfl
      have e2' : k = k' := by simpa [T.keys] using e2
      subst e1 e2'
      cases fs with
      | nil => simp at e3
      | cons a fs =>
        have e3' : V.ref a = f := by simpa using e3
        subst e3'
        refine ⟨q, tvs, a, rfl, e4, hg 0 a m rfl rfl, cases_loc w.2.2.2 ⟨Nat.succ.inj h.1, fun i v e => ?_⟩ fun i a' m' h1 h2 => hg (i + 1) a' m' (by simpa using h1) (by simpa [T.msgs] using h2)⟩
        obtain ⟨q2, k2, f2, g1, g2, g3, g4⟩ := h.2 (i + 1) v (by simpa using e)
        exact ⟨q2, k2, f2, g1, by simpa [T.keys] using g2, by simpa using g3, g4⟩
  | .text _ _, _, _, w, _, _ => by cases w.1
  | .shw _ _, _, _, w, _, _ => by cases w.1
  | .num _, _, _, w, _, _ => by cases w.1
  | .cho _ _ _ _, _, _, w, _, _ => by cases w.1
theorem szs_msgs : ∀ {t : T}, szs t.msgs ≤ t.sz
  | .cas _ m r => by have := @szs_msgs r; simp only [szs, T.msgs, T.sz, List.map_cons, List.sum_cons] at *; omega
  | .nil => Nat.le_refl _
  | .text _ _ => Nat.zero_le _
  | .shw _ _ => Nat.zero_le _
  | .num _ => Nat.zero_le _
  | .cho _ _ _ _ => Nat.zero_le _
theorem szs_inner {u : T} (hs : u.single) : szs u.inner < u.sz := by
  cases u with
  | cho hd cs o r =>
    have := @szs_msgs cs
    show szs (cs.msgs ++ [o]) < 1 + cs.sz + o.sz + r.sz
    rw [szs_app]
    simp only [szs, List.map_cons, List.map_nil, List.sum_cons, List.sum_nil] at *
    omega
  | nil => cases hs
  | text s r => show 0 < 1 + s.length + r.sz; omega
  | shw s r => show 0 < 1 + r.sz; omega
  | num r => show 0 < 1 + r.sz; omega
  | cas k m r => show 0 < 1 + m.sz + r.sz; omega
end Mw

namespace Mw
open PySem L2
structure PSt (H H' : Hp) (rl al : Addr) (t0 : T) (as : List V) (pend : List (T × Addr)) (G : Gh) (cur : Option Addr) : Prop where
  same : Same H H'
  al0 : H al = none
  lst : H' al = some (.lst as)
  pds : Pds H H' G pend as
  nod : (pend.map (·.2)).Nodup
  gfr : ∀ b t, G b = some t → H b = none ∧ b ≠ al ∧ ∃ xs, H' b = some (.lst xs)
  fin : ∀ b t, G b = some t → b ∈ pend.map (·.2) ∨ cur = some b ∨ ∃ vs, H' b = some (.lst vs) ∧ Loc H' G al (fun b => H b = none) t vs
  root : G rl = some (pl ("" : Str) t0)
theorem Pds.ghost {H H' : Hp} {G : Gh} : ∀ {xs : List (T × Addr)} {vs : List V}, Pds H H' G xs vs → ∀ x ∈ xs, G x.2 = some (pl ("" : Str) x.1)
  | [], _, _, _, hm => by cases hm
  | x :: xs, _, h, y, hm => by
    obtain ⟨v, ws, rfl, ⟨_, _, _, _, _, _, _, hg⟩, h2⟩ := h
    rcases List.mem_cons.mp hm with rfl | hm
    · exact hg
    · exact Pds.ghost h2 y hm
/-- a step in which nothing is added to what waits -/
theorem PSt.go {H H1 H2 : Hp} {rl al d : Addr} {t0 : T} {as as' : List V} {pend : List (T × Addr)} {G G' : Gh} (p : PSt H H1 rl al t0 as pend G (some d)) (s : Stp H1 G H2 G' d al) (hs : Same H H2) (m : Same (mix H H1) (mix H H2)) (hd : d ∉ pend.map (·.2))
    (dl : ∃ xs, H2 d = some (.lst xs)) (hl : H2 al = some (.lst as')) (more : List (T × Addr)) (mv : List V) (ea : as' = as ++ mv) (hm : Pds H H2 G' more mv) (nm : ((pend ++ more).map (·.2)).Nodup)
    (new : ∀ b t, G' b = some t → G b = some t ∨ (b ∈ more.map (·.2) ∧ H b = none ∧ b ≠ al ∧ ∃ xs, H2 b = some (.lst xs))) : PSt H H2 rl al t0 as' (pend ++ more) G' (some d) := by
  have hx : ∀ x ∈ pend, x.2 ≠ d ∧ x.2 ≠ al := fun x hx => by
    refine ⟨fun e => hd (by rw [← e]; exact List.mem_map_of_mem hx), ?_⟩
    exact (p.gfr _ _ (p.pds.ghost x hx)).2.1
  subst ea
  refine ⟨hs, p.al0, hl, Pds.app hm (pds_step s m hx p.pds), nm, fun b t hb => ?_, fun b t hb => ?_, s.grow _ _ p.root⟩
  · rcases new b t hb with h | h
    · obtain ⟨h1, h2, xs, h3⟩ := p.gfr b t h
      by_cases e : b = d
      · subst e
        exact ⟨h1, h2, dl⟩
      · exact ⟨h1, h2, xs, s.ext b _ e h2 h3⟩
    · exact h.2
  · rcases new b t hb with h | h
    · rcases p.fin b t h with h1 | h1 | ⟨vs, h1, h2⟩
      · left
        rw [List.map_append]
        exact List.mem_append_left _ h1
      · exact .inr (.inl h1)
      · by_cases e : b = d
        · subst e
          exact .inr (.inl rfl)
        · exact .inr (.inr ⟨vs, s.ext b _ e (p.gfr b t h).2.1 h1, Loc.step s h2⟩)
    · left
      rw [List.map_append]
      exact List.mem_append_right _ h.1
theorem pds_of {H H' : Hp} {G : Gh} : ∀ {xs : List (T × Addr)} {vs : List V}, vs.length = xs.length → (∀ (i : Nat) (x : T × Addr) (v : V), xs[i]? = some x → vs[i]? = some v → Pd H H' G x v) → Pds H H' G xs vs
  | [], vs, h, _ => List.length_eq_zero_iff.mp h
  | x :: xs, [], h, _ => by cases h
  | x :: xs, v :: vs, h, k => ⟨v, vs, rfl, k 0 x v rfl rfl, pds_of (Nat.succ.inj h) fun i y u h1 h2 => k (i + 1) y u (by simpa using h1) (by simpa using h2)⟩
theorem pw_msgs : ∀ {cs : T}, Wf cs true → (cs.msgs.map fun m => m.sz + 1).sum = cs.sz
  | .nil, _ => rfl
  | .cas k m r, w => by
    have := pw_msgs w.2.2.2
    simp only [T.msgs, T.sz, List.map_cons, List.sum_cons, this]
    omega
  | .text _ _, w => by cases w.1
  | .shw _ _, w => by cases w.1
  | .num _, w => by cases w.1
  | .cho _ _ _ _, w => by cases w.1
theorem pw_zip : ∀ (ms : List T) (fs : List Addr), pw (ms.zip fs) ≤ (ms.map fun m => m.sz + 1).sum
  | [], _ => Nat.le_refl _
  | _ :: _, [] => Nat.zero_le _
  | m :: ms, f :: fs => by
    have := pw_zip ms fs
    show m.sz + 1 + pw (ms.zip fs) ≤ _
    rw [List.map_cons, List.sum_cons]
    omega
theorem pw_inner {u : T} (w : Wf u false) (hs : u.single) (fs : List Addr) : pw (u.inner.zip fs) ≤ u.sz := by
  refine Nat.le_trans (pw_zip _ _) ?_
  cases u with
  | cho hd cs o r =>
    have := pw_msgs w.2.2.1
    simp only [T.inner, T.sz, List.map_append, List.sum_append, List.map_cons, List.map_nil, List.sum_cons, List.sum_nil, this]
    omega
  | _ => exact Nat.zero_le _
theorem cases_up {H H' : Hp} {tvs ks fs : List V} (k : ∀ q xs, H q = some (.tup xs) → H' q = some (.tup xs)) (h : CasesAt H tvs ks fs) : CasesAt H' tvs ks fs := by
  refine ⟨h.1, fun i v e => ?_⟩
  obtain ⟨q, a, f, e1, e2, e3, e4⟩ := h.2 i v e
  exact ⟨q, a, f, e1, e2, e3, k _ _ e4⟩
/-- what a node comes to, once all is filled -/
def Nn (Z : Addr → Prop) (H4 H5 : Hp) (al d p' : Addr) (u : T) (fs : List Addr) : Prop := ∀ (Hf : Hp) (G' : Gh), (∀ b o, b ≠ d → b ≠ al → H5 b = some o → Hf b = some o) → (∀ b, H4 b = none → G' b = none) →
  (∀ (i : Nat) (a : Addr) (m : T), fs[i]? = some a → u.inner[i]? = some m → G' a = some (pl ("" : Str) m)) → Loc Hf G' al Z (dm u) [.ref p']
section
variable {P : Program} {w : World} {K : PySem.W.Frag} {mg : Str → Option Value} {base : Heap}
/-! ### plain -/
abbrev sPlain : Stmt := top 12
theorem scPlain : FnScope ["message", "result", "ahead", "source", "target", "node", "inner", "fresh", "_"] ["message"] (defScope sPlain) := ⟨rfl, rfl, rfl, by decide +kernel, rfl, by decide +kernel, by decide +kernel⟩
def spPlain : Sp := fun vs H Q _ => ∃ (a : Addr) (t : T), vs = [.ref a] ∧ At H a t ∧ Wf t false ∧ t.sz < 90000 ∧ ∀ r H', H r = none → Same H H' → At (nlf H H') r (pl ("" : Str) t) → Q (.ref r) H'
theorem ok_plain {f fJ fI fW : Addr} {fd fdJ fdI fdW : FuncData} (F : Fun K "plain" "plain" sPlain f fd)
    (GJ : FnOk P w K mg base CX0 2 fJ fdJ ["message"] spJt) (bJ : Binds K fdJ ["message"] []) (kJ : PySem.W.keepIn K (.ref fJ) = true) (mJ : mg "joined_texts" = some (.ref fJ))
    (GI : FnOk P w K mg base CX0 2 fI fdI ["node"] spInner) (bI : Binds K fdI ["node"] []) (kI : PySem.W.keepIn K (.ref fI) = true) (mI : mg "inner_messages" = some (.ref fI))
    (GW : FnOk P w K mg base CX0 2 fW fdW ["node", "messages"] spWith) (bW : Binds K fdW ["node", "messages"] []) (kW : PySem.W.keepIn K (.ref fW) = true) (mW : mg "with_inner" = some (.ref fW))
    (ml : mg "list" = none) (mz : mg "zip" = none) : FnOk P w K mg base CX0 3 f fd ["message"] spPlain := by
  refine F.ok scPlain (fun vs H Q E h => ?_) (fun cdv A outer s H vs Q E hr h => ?_)
  · obtain ⟨a, t, rfl, _⟩ := h
    rfl
  obtain ⟨a, t0, rfl, ha, hw, hz, q⟩ := h
  have nd := scPlain.nd
  refine ⟨_, pss_cons (ps_set (i := 1) nd rfl (.inl rfl) (pe_lst pa_nil))
    (pss_cons (ps_set (i := 2) nd rfl (.inl rfl) (pe_lst (pa_cons (pe_tup (pa_cons (pv 0) (pa_cons (pv 1) pa_nil))) pa_nil)))
    (pss_cons (ps_while PassesOwn.never (pt_truth (pv 2) (by intro _; rfl))
      (pss_cons (ps_asg (pe_bm0 PySem.F.plainAttrs_list PySem.F.slot_list_pop PySem.F.type_list_pop mt_pop (pv 2)) (pg_tup rfl (pgs_cons (pg_name (i := 3) nd rfl (.inl rfl)) (pgs_cons (pg_name (i := 4) nd rfl (.inl rfl)) pgs_nil))))
      (pss_one (ps_for PassesOwn.never rfl (pi_list (pe_call GJ hr rfl mJ kJ bJ .nil pass0 (pa_cons (pv 3) pa_nil))) (pg_name (i := 5) nd rfl (.inl rfl))
        (pss_cons (ps_set (i := 6) nd rfl (.inl rfl) (pe_call GI hr rfl mI kI bI .nil pass0 (pa_cons (pv 5) pa_nil)))
        (pss_cons (ps_setLc (i := 7) (own := [("_", 8)]) (g := gName 8) (tt := tYes) rfl nd rfl rfl (sw_true rfl rfl rfl (by decide +kernel)) (pi_list (pv 6))
          (blkOk_by (N := ["message", "result", "ahead", "source", "target", "node", "inner", "fresh", "_"]) (sc := defScope sPlain) (by decide +kernel))
          (fun _ _ _ _ _ => pg_name (i := 8) nd rfl (.inl rfl)) (fun _ _ _ _ _ => pts_nil) (fun _ _ _ _ _ => pe_lst pa_nil))
        (Evl.pss_cut (ps_expr (pe_bm PySem.F.plainAttrs_list PySem.F.slot_list_append PySem.F.type_list_append mt_append (pv 4) (pa_cons (pe_ifExp (pt_truth (pv 6) (by intro _; rfl)) (pe_call GW hr rfl mW kW bW .nil pass0 (pa_cons (pv 5) (pa_cons (pv 7) pa_nil))) (pv 5)) pa_nil)))
        (pss_one (ps_expr (pe_bm PySem.F.plainAttrs_list PySem.F.slot_list_extend PySem.F.type_list_extend mt_extend (pv 2) (pa_cons (Zl.pe_listZip rfl (by rfl) ml (by rfl) mz (pa_cons (pv 6) (pa_cons (pv 7) pa_nil))) pa_nil)))))))))))
    (pss_one (ps_ret (pv 1))))), ?_⟩
  refine ⟨Nat.zero_le _, fun rl hrl => ?_⟩
  refine ⟨_, rfl, _, rfl, by show 2 ≤ sizeLine; decide, fun q0 hq0 => ⟨by show 1 ≤ sizeLine; decide, fun al hal => ?_⟩⟩
  have s1 : Same H (upd H rl (.lst [])) := same_new hrl _
  have s2 := s1.trans (same_new hq0 (.tup [.ref a, .ref rl]))
  have s3 := s2.trans (same_new hal (.lst [.ref q0]))
  have nqr : rl ≠ q0 := ne_of_none upd_same hq0
  have nra : rl ≠ al := ne_of_none (by rw [upd_ne nqr]; exact upd_same) hal
  have nqa : q0 ≠ al := ne_of_none upd_same hal
  have hal0 : H al = none := s2.free hal
  refine ⟨fun m σ H' => ∃ (as : List V) (pend : List (T × Addr)) (G : Gh) (o3 o4 o5 o6 o7 o8 : Option V), σ = [some (.ref a), some (.ref rl), some (.ref al), o3, o4, o5, o6, o7, o8] ∧ PSt H H' rl al t0 as pend G none ∧ pw pend ≤ t0.sz + 1 ∧ m = pw pend,
    ⟨t0.sz + 1, [.ref q0], [(t0, rl)], fun b => if b = rl then some (pl ("" : Str) t0) else none, none, none, none, none, none, none, rfl, ⟨s3, hal0, upd_same, ?_, ?_, fun b t hb => ?_, fun b t hb => ?_, if_pos rfl⟩, Nat.le_refl _, rfl⟩, ?_⟩
  · refine ⟨_, [], rfl, ⟨q0, a, rfl, by rw [upd_ne nqa]; exact upd_same, ha.same mix_old, hw, ?_, if_pos rfl⟩, rfl⟩
    show upd _ al _ rl = _
    rw [upd_ne nra, upd_ne nqr]
    exact upd_same
  · simp
  · split at hb
    · rename_i e
      subst e
      exact ⟨hrl, nra, [], by rw [upd_ne nra, upd_ne nqr]; exact upd_same⟩
    · cases hb
  · split at hb
    · rename_i e
      subst e
      left
      simp
    · cases hb
  rintro m σ H' ⟨as, pend, G, o3, o4, o5, o6, o7, o8, rfl, p, hpw, rfl⟩
  refine ⟨.ref al, rfl, !as.isEmpty, .inl ⟨as, SqL.of p.lst, rfl⟩, ?_⟩
  by_cases he : pend = []
  · subst he
    have e : as = [] := p.pds
    subst e
    refine iteF ⟨_, rfl, q rl H' hrl p.same ?_⟩
    have fin : ∀ b t, G b = some t → H b = none ∧ ∃ vs, H' b = some (.lst vs) ∧ Loc H' G al (fun b => H b = none) t vs := fun b t hb => by
      rcases p.fin b t hb with h | h | h
      · cases h
      · cases h
      · exact ⟨(p.gfr _ _ hb).1, h⟩
    obtain ⟨f0, vs, h1, h2⟩ := fin rl _ p.root
    exact ⟨vs, nlf_lst h1 f0, Loc.nodesF fin h2⟩
  obtain ⟨pd, ⟨src, d⟩, us, v, e1, e2, hpd, q1, sa, e3, hq1, hsa, hsw, hd0, hgd⟩ := p.pds.last he
  subst e1 e2 e3
  have hT : (!(us ++ [V.ref q1]).isEmpty) = true := by simp
  rw [hT]
  refine iteT ?_
  have hwe : pw (pd ++ [(src, d)]) = pw pd + (src.sz + 1) := by rw [pw_app]; rfl
  refine ⟨fun σ' H'' => ∃ m', m' < pw (pd ++ [(src, d)]) ∧ ∃ (as : List V) (pend : List (T × Addr)) (G : Gh) (o3 o4 o5 o6 o7 o8 : Option V), σ' = [some (.ref a), some (.ref rl), some (.ref al), o3, o4, o5, o6, o7, o8] ∧ PSt H H'' rl al t0 as pend G none ∧ pw pend ≤ t0.sz + 1 ∧ m' = pw pend, fun σ' H'' z => z, ?_⟩
  obtain ⟨hd00, hda, _⟩ := p.gfr d _ hgd
  have hq1a : q1 ≠ al := ne_of hq1 p.lst (by intro z; cases z)
  refine ⟨.ref al, rfl, .inl ⟨rfl, _, SqL.of p.lst⟩, al, _, .ref q1, rfl, rfl, p.lst, by simp, ?_⟩
  rw [List.dropLast_concat]
  have hq1' : upd H' al (.lst us) q1 = some (.tup [.ref sa, .ref d]) := by rw [upd_ne hq1a]; exact hq1
  refine ⟨q1, _, rfl, .inl (.inl hq1'), rfl, .ref sa, _, rfl, .ref d, [], rfl, rfl, ?_⟩
  -- the state behind the pop
  have hnod := p.nod
  rw [List.map_append, List.nodup_append] at hnod
  have hdn : d ∉ pd.map (·.2) := fun hm => hnod.2.2 d hm d (by simp) rfl
  have sp : Stp H' G (upd H' al (.lst us)) G d al := ⟨⟨_, hd0⟩, ⟨_, hgd⟩, ⟨_, p.lst⟩, fun b o _ h2 e => by rw [upd_ne h2]; exact e, fun _ _ h => h, fun _ _ _ h => h⟩
  have m1 : Same (mix H H') (mix H (upd H' al (.lst us))) := mix_mut p.lst
  have sH1 : Same H (upd H' al (.lst us)) := same_mut p.same hal0 _
  have p1 : PSt H (upd H' al (.lst us)) rl al t0 us pd G (some d) := by
    have hx : ∀ x ∈ pd, x.2 ≠ d ∧ x.2 ≠ al := fun x hx => ⟨fun e => hdn (by rw [← e]; exact List.mem_map_of_mem hx), (p.gfr _ _ (hpd.ghost x hx)).2.1⟩
    refine ⟨sH1, hal0, upd_same, pds_step sp m1 hx hpd, hnod.1, fun b t hb => ?_, fun b t hb => ?_, p.root⟩
    · obtain ⟨h1, h2, xs, h3⟩ := p.gfr b t hb
      exact ⟨h1, h2, xs, by rw [upd_ne h2]; exact h3⟩
    · rcases p.fin b t hb with h | h | ⟨ws, h1, h2⟩
      · rw [List.map_append] at h
        rcases List.mem_append.mp h with h | h
        · exact .inl h
        · have e : b = d := by simpa using h
          subst e
          exact .inr (.inl rfl)
      · cases h
      · exact .inr (.inr ⟨ws, by rw [upd_ne (p.gfr b t hb).2.1]; exact h1, Loc.step sp h2⟩)
  have hsz : src.sz ≤ t0.sz := by omega
  -- joined_texts(source)
  refine ⟨_, rfl, sa, mix H (upd H' al (.lst us)), src, rfl, mix_out sH1, hsa.same m1, hsw, by omega, fun l H2 ws hl sJ hl2 hws => ?_⟩
  have hws2 : Nodes (mix H H2) (jt [] src) ws := Nodes.same (mix_mix sJ) hws
  have hns := hws2.ns
  have jw : Wf (jt [] src) false := jt_wf hsw []
  have jz : (jt [] src).sz ≤ src.sz := by
    have : (jt [] src).sz ≤ 0 + src.sz := jt_sz hsw []
    omega
  have hwl : ws.length ≤ src.sz := by
    rw [hws2.length]
    exact Nat.le_trans (len_sz _) jz
  have hd1 : upd H' al (.lst us) d = some (.lst []) := by rw [upd_ne hda]; exact hd0
  have nld : l ≠ d := (ne_of_none hd1 hl).symm
  have nla : l ≠ al := (ne_of_none upd_same hl).symm
  have sp2 : Stp (upd H' al (.lst us)) G H2 G d al := ⟨⟨_, hd1⟩, ⟨_, hgd⟩, ⟨_, upd_same⟩, fun b o _ _ e => sJ _ _ e, fun _ _ h => h, fun _ _ _ h => h⟩
  have p2 : PSt H H2 rl al t0 us (pd ++ []) G (some d) := p1.go sp2 (sH1.trans sJ) (mix_same sJ) hdn ⟨_, sJ _ _ hd1⟩ (sJ _ _ upd_same) [] [] (List.append_nil _).symm rfl (by rw [List.append_nil]; exact hnod.1) fun b t h => .inl h
  rw [List.append_nil] at p2
  refine ⟨l, rfl, ⟨_, SqL.of hl2⟩, for_list (xs := ws) (fun i σ' H'' => ∃ (as : List V) (pend : List (T × Addr)) (G : Gh) (vs : List V) (done : T) (o5 o6 o7 o8 : Option V), σ' = [some (.ref a), some (.ref rl), some (.ref al), some (.ref sa), some (.ref d), o5, o6, o7, o8] ∧
      PSt H H'' rl al t0 as pend G (some d) ∧ H'' l = some (.lst ws) ∧ H'' d = some (.lst vs) ∧ Loc H'' G al (fun b => H b = none) done vs ∧ d ∉ pend.map (·.2) ∧ G d = some (pl ("" : Str) src) ∧ pl ("" : Str) src = done.app (dm (ch ((jt [] src).nodes.drop i))) ∧
      pw pend + szs ((jt [] src).nodes.drop i) ≤ pw pd + src.sz ∧ vs.length = i ∧ Same (mix H H2) (mix H H'') ∧ G l = none)
    ⟨us, pd, G, [], .nil, _, _, _, _, rfl, p2, hl2, sJ _ _ hd1, rfl, hdn, hgd, ?_, ?_, rfl, Same.refl _, ?_⟩ (fun i σ' H'' _ ⟨_, _, _, _, _, _, _, _, _, _, _, h, _⟩ => SqL.of h) ?_ ?_⟩
  · rw [List.drop_zero, ch_nodes]
    exact pl_dm hsw []
  · rw [List.drop_zero, szs_nodes]
    omega
  · cases e : G l with
    | none => rfl
    | some t =>
      obtain ⟨_, _, xs, h⟩ := p1.gfr l t e
      rw [hl] at h
      cases h
  · rintro i x σ' H'' hx ⟨as, pend, G5, vs5, done, o5, o6, o7, o8, rfl, p5, hl5, hd5, hloc, hdn5, hgd5, hpl5, hpw5, hvl, hmx, hgl⟩
    obtain ⟨u, hu, hun⟩ := hns.get hx
    have um : u ∈ (jt [] src).nodes := List.mem_of_getElem? hu
    have uw : Wf u false := nodes_wf jw u um
    have usz := node_sz u um
    have hun5 : Nodes (mix H H'') u [x] := Nodes.same hmx hun
    obtain ⟨pn, y, ys, rfl, hpn, hsg, hch, htx⟩ := node_of hun5 uw
    have hdrop : (jt [] src).nodes.drop i = u :: (jt [] src).nodes.drop (i + 1) := by
      have e := List.getElem?_eq_some_iff.mp hu
      rw [List.drop_eq_getElem_cons e.1, e.2]
    rw [hdrop] at hpl5 hpw5
    have hpw6 : pw pend + (u.sz + szs ((jt [] src).nodes.drop (i + 1))) ≤ pw pd + src.sz := hpw5
    have hi : i < ws.length := (List.getElem?_eq_some_iff.mp hx).1
    refine ⟨_, rfl, mix H H'', .ref pn, u, rfl, mix_out p5.same, hun5, uw, by omega, fun il H3 ms hil s53 hil3 hms => ?_⟩
    have hml := hms.length
    refine ⟨_, rfl, il, rfl, ⟨_, SqL.of hil3⟩, fun D hD => ?_⟩
    refine lc_list (K := K) (a := il) (xs := ms) (fun j Hx => ∃ fs : List Addr, Same H3 Hx ∧ Hx D = some (.lst (fs.map V.ref)) ∧ fs.length = j ∧ fs.Nodup ∧ ∀ a ∈ fs, H3 a = none ∧ a ≠ D ∧ Hx a = some (.lst []))
      ⟨[], same_new hD _, upd_same, rfl, List.nodup_nil, fun a h => by cases h⟩ (fun j Hx _ ⟨_, s', _⟩ => SqL.of (s' _ _ hil3)) ?_ ?_
    · rintro j xj Hx hxj ⟨fs, s', hD', hlen, hnd, hall⟩
      have hjm : j < ms.length := (List.getElem?_eq_some_iff.mp hxj).1
      have hmb : ms.length < 100000 := by
        rw [hml]
        have h1 := szs_inner hsg
        have h2 : u.inner.length ≤ u.sz := by
          cases u with
          | cho hd cs o r =>
            have h3 := (msgs_len uw.2.2.1).1
            have h4 := (msgs_len uw.2.2.1).2
            have h5 := len_sz cs
            simp only [T.inner, T.sz, List.length_append, List.length_singleton]
            omega
          | _ => exact Nat.zero_le _
        omega
      refine ⟨rfl, Nat.zero_le _, fun nl hnl => ⟨_, by rw [upd_ne (ne_of_none hD' hnl)]; exact hD', sz_line (by rw [List.length_map]; omega), fs ++ [nl], same_mut (s'.trans (same_new hnl _)) hD _, by rw [upd_same, List.map_append]; rfl, by rw [List.length_append, hlen]; rfl, ?_, fun a h => ?_⟩⟩
      · rw [List.nodup_append]
        refine ⟨hnd, by simp, fun a ha b hb => ?_⟩
        rw [List.mem_singleton.mp hb]
        exact ne_of_none (hall a ha).2.2 hnl
      · rcases List.mem_append.mp h with h | h
        · obtain ⟨h1, h2, h3⟩ := hall a h
          exact ⟨h1, h2, by rw [upd_ne h2, upd_ne (ne_of_none h3 hnl)]; exact h3⟩
        · rw [List.mem_singleton.mp h]
          have nD : nl ≠ D := (ne_of_none hD' hnl).symm
          exact ⟨s'.free hnl, nD, by rw [upd_ne nD]; exact upd_same⟩
    rintro H4 ⟨fs, s34, hD4, hfl, hfn, hfa⟩
    have s54 : Same H'' H4 := s53.trans s34
    have hd4 : H4 d = some (.lst vs5) := s54 _ _ hd5
    have hal4 : H4 al = some (.lst as) := s54 _ _ p5.lst
    have hfd : ∀ a ∈ fs, ∀ b o, H'' b = some o → b ≠ a := fun a h b o e => ne_of_none (s53 _ _ e) (hfa a h).1
    refine ⟨fun σ6 Hx => ∃ o8', σ6 = [some (.ref a), some (.ref rl), some (.ref al), some (.ref sa), some (.ref d), some (.ref pn), some (.ref il), some (.ref D), o8'] ∧ ∃ (p' : Addr) (H5 : Hp), Hx = upd H5 d (.lst (vs5 ++ [.ref p'])) ∧ Same H4 H5 ∧ Nn (fun b => H b = none) H4 H5 al d p' u fs, ?_, ?_⟩
    · refine ⟨_, rfl, .inl ⟨rfl, _, SqL.of hd4⟩, _, rfl, _, .inl ⟨ms, SqL.of (s34 _ _ hil3), rfl⟩, ?_⟩
      have hlb : vs5.length < 10000000 := by omega
      cases hc : u.isCho with
      | false =>
        have e0 : u.inner = [] := by
          cases u <;> first | rfl | cases hc
        have em : ms = [] := List.length_eq_zero_iff.mp (by rw [hml, e0]; rfl)
        subst em
        refine iteF ⟨_, rfl, d, vs5, _, rfl, rfl, hd4, sz_line hlb, _, rfl, pn, H4, rfl, Same.refl _, ?_⟩
        intro Hf G' ext _ _
        have tup : ∀ {xs : List V}, mix H H'' pn = some (.tup xs) → Hf pn = some (.tup xs) := fun {xs} e => by
          have e' := mix_out p5.same _ _ e
          exact ext pn _ (ne_of e' hd5 (by intro z; cases z)) (ne_of e' p5.lst (by intro z; cases z)) (s54 _ _ e')
        cases u with
        | nil => cases hsg
        | text st r =>
          cases (show r = .nil from hsg)
          obtain ⟨pp, _, e, hpp, _⟩ := hun5
          cases e
          exact ⟨_, [], rfl, tup hpp, rfl⟩
        | shw n r =>
          cases (show r = .nil from hsg)
          obtain ⟨pp, _, e, hpp, _⟩ := hun5
          cases e
          exact ⟨_, [], rfl, tup hpp, rfl⟩
        | num r =>
          cases (show r = .nil from hsg)
          obtain ⟨pp, _, e, hpp, _⟩ := hun5
          cases e
          exact ⟨_, [], rfl, tup hpp, rfl⟩
        | cho hd cs o r => cases hc
        | cas k m r => cases uw.1
      | true =>
        cases u with
        | cho hd cs o r =>
          cases (show r = .nil from hsg)
          obtain ⟨pp, _, ca, cvs, oa, ovs, e, hpp, hca, hcs, hoa, hos, _⟩ := hun5
          cases e
          have out : Same (mix H H'') H4 := (mix_out p5.same).trans s54
          have hl1 : ms.length = cs.keys.length + 1 := by
            rw [hml]
            show (cs.msgs ++ [o]).length = _
            rw [List.length_append, (msgs_len uw.2.2.1).1]
            rfl
          have hfne : fs ≠ [] := fun e => by
            rw [e] at hfl
            simp only [List.length_nil] at hfl
            omega
          obtain ⟨fi, fz, efs⟩ : ∃ fi fz, fs = fi ++ [fz] := ⟨fs.dropLast, fs.getLast hfne, (List.dropLast_concat_getLast hfne).symm⟩
          have hfil : fi.length = cs.keys.length := by
            rw [efs, List.length_append, List.length_singleton] at hfl
            omega
          have hemp : (!ms.isEmpty) = true := by
            cases ms with
            | nil => simp only [List.length_nil] at hl1; omega
            | cons _ _ => rfl
          rw [hemp]
          refine iteT ⟨_, rfl, _, rfl, pn, ca, oa, D, hd, cvs, cs.keys, fi.map V.ref, .ref fz, rfl, out _ _ hpp, uw.2.1, out _ _ hca, ?_, ?_, by rw [List.length_map]; exact hfil, ?_, fun p' D' H5 tvs hp' hD' s5 hp5 hDv hcs5 => ?_⟩
          · have k1 := keys_at hcs uw.2.2.1
            refine ⟨k1.1, fun i v e => ?_⟩
            obtain ⟨q2, k2, x2, g1, g2, g3⟩ := k1.2 i v e
            exact ⟨q2, k2, x2, g1, g2, out _ _ g3⟩
          · rw [hD4, efs, List.map_append]
            rfl
          · have h4 := (msgs_len uw.2.2.1).2
            have h5 := len_sz cs
            simp only [T.sz] at usz
            omega
          · have hd5' : H5 d = some (.lst vs5) := s5 _ _ hd4
            have hal5 : H5 al = some (.lst as) := s5 _ _ hal4
            refine ⟨d, vs5, _, rfl, rfl, hd5', sz_line hlb, _, rfl, p', H5, rfl, s5, ?_⟩
            intro Hf G' ext hno hat
            have tup : ∀ q xs, H5 q = some (.tup xs) → Hf q = some (.tup xs) := fun q xs e => ext q _ (ne_of e hd5' (by intro z; cases z)) (ne_of e hal5 (by intro z; cases z)) e
            have nDd : D' ≠ d := (ne_of_none hd4 hD').symm
            have nDa : D' ≠ al := (ne_of_none hal4 hD').symm
            have hcm : cs.msgs.length = fi.length := by rw [hfil]; exact (msgs_len uw.2.2.1).1
            refine ⟨p', [], D', tvs, fz, rfl, tup _ _ hp5, ext _ _ nDd nDa hDv, hno _ hD', ⟨nDa, (p5.same.trans s54).free hD'⟩, cases_loc uw.2.2.1 (cases_up tup hcs5) fun i a m h1 h2 => ?_, ?_, rfl⟩
            · refine hat i a m ?_ ?_
              · rw [efs, List.getElem?_append_left (List.getElem?_eq_some_iff.mp h1).1]
                exact h1
              · show (cs.msgs ++ [o])[i]? = some m
                rw [List.getElem?_append_left (List.getElem?_eq_some_iff.mp h2).1]
                exact h2
            · refine hat fi.length fz o ?_ ?_
              · rw [efs, List.getElem?_append_right (Nat.le_refl _), Nat.sub_self]
                rfl
              · show (cs.msgs ++ [o])[fi.length]? = some o
                rw [← hcm, List.getElem?_append_right (Nat.le_refl _), Nat.sub_self]
                rfl
        | _ => cases hc
    · rintro σ6 Hx ⟨o8', rfl, p', H5, rfl, s45, NN⟩
      have hd5' : H5 d = some (.lst vs5) := s45 _ _ hd4
      have nald : al ≠ d := hda.symm
      have hal6 : upd H5 d (.lst (vs5 ++ [.ref p'])) al = some (.lst as) := by rw [upd_ne nald]; exact s45 _ _ hal4
      have nild : il ≠ d := (ne_of_none hd5 hil).symm
      have nDd : D ≠ d := (ne_of_none (s53 _ _ hd5) hD).symm
      have up6 : ∀ b o, b ≠ d → H5 b = some o → upd H5 d (.lst (vs5 ++ [.ref p'])) b = some o := fun b o h e => by rw [upd_ne h]; exact e
      refine ⟨_, rfl, .inl ⟨rfl, _, SqL.of hal6⟩, _, rfl, _, rfl, il, D, ms, fs.map V.ref, rfl, SqL.of (up6 _ _ nild (s45 _ _ (s34 _ _ hil3))), SqL.of (up6 _ _ nDd (s45 _ _ hD4)), fun H7 zp zts s7 hzp hzt hzn hz7 hzl hzall => ?_⟩
      have hal7 : H7 al = some (.lst as) := s7 _ _ hal6
      have hflen : fs.length = ms.length := hfl
      rw [List.length_map, hflen, Nat.min_self] at hzl
      have hasl : as.length ≤ pw pend := by
        rw [p5.pds.length]
        exact pw_len _
      have hzb : ms.length ≤ u.sz := by
        rw [hml]
        cases u with
        | cho hd cs o r =>
          have h3 := (msgs_len uw.2.2.1).1
          have h4 := (msgs_len uw.2.2.1).2
          have h5 := len_sz cs
          simp only [T.inner, T.sz, List.length_append, List.length_singleton]
          omega
        | _ => exact Nat.zero_le _
      refine ⟨al, zp, as, zts.map V.ref, rfl, rfl, hal7, hz7, le_line (by rw [List.length_map, hzl]; omega), ?_⟩
      generalize hHf : upd H7 al (.lst (as ++ zts.map V.ref)) = Hf
      have hfal : Hf al = some (.lst (as ++ zts.map V.ref)) := by rw [← hHf]; exact upd_same
      have ext5 : ∀ b o, b ≠ d → b ≠ al → H5 b = some o → Hf b = some o := fun b o h1 h2 e => by
        rw [← hHf, upd_ne h2]
        exact s7 _ _ (up6 _ _ h1 e)
      have hfd' : Hf d = some (.lst (vs5 ++ [.ref p'])) := by
        rw [← hHf, upd_ne hda]
        exact s7 _ _ upd_same
      have off : ∀ b o, H'' b = some o → b ∉ fs := fun b o e hm => hfd b hm b o e rfl
      have stp : Stp H'' G5 Hf (asg G5 fs (u.inner.map (pl ("" : Str)))) d al := by
        refine ⟨⟨_, hd5⟩, ⟨_, hgd5⟩, ⟨_, p5.lst⟩, fun b o h1 h2 e => ext5 b o h1 h2 (s45 _ _ (s54 _ _ e)), fun b t hb => ?_, fun b o e hb => ?_⟩
        · obtain ⟨_, _, xs, h⟩ := p5.gfr b t hb
          rw [asg_off (off b _ h)]
          exact hb
        · rw [asg_off (off b _ e)]
          exact hb
      have mx : Same (mix H H'') (mix H Hf) := by
        have m2 : Same (mix H H5) (mix H (upd H5 d (.lst (vs5 ++ [.ref p'])))) := mix_mut hd5'
        have m4 : Same (mix H H7) (mix H Hf) := by rw [← hHf]; exact mix_mut hal7
        exact (mix_same (s54.trans s45)).trans (m2.trans ((mix_same s7).trans m4))
      have hsf : Same H Hf := fun b o e => by
        have h1 : b ≠ d := ne_of_none e hd00
        have h2 : b ≠ al := ne_of_none e hal0
        exact ext5 b o h1 h2 (s45 _ _ (s54 _ _ (p5.same _ _ e)))
      have ezs : (u.inner.zip fs).map (·.2) = fs := List.map_snd_zip (by rw [hflen, hml]; exact Nat.le_refl _)
      have hfs5 : ∀ f ∈ fs, H5 f = some (.lst []) := fun f h => s45 _ _ (hfa f h).2.2
      have hmore : Pds H Hf (asg G5 fs (u.inner.map (pl ("" : Str)))) (u.inner.zip fs) (zts.map V.ref) := by
        refine pds_of (by rw [List.length_map, hzl, List.length_zip, hflen, hml, Nat.min_self]) fun i x v h1 h2 => ?_
        obtain ⟨m, f⟩ := x
        obtain ⟨hm1, hf1⟩ := List.getElem?_zip_eq_some.mp h1
        rw [List.getElem?_map] at h2
        cases hz : zts[i]? with
        | none => rw [hz] at h2; cases h2
        | some tt =>
          rw [hz] at h2
          have e2 : V.ref tt = v := by simpa using h2
          subst e2
          obtain ⟨x1, y1, hx1, hy1, htt⟩ := hzall i tt hz
          obtain ⟨m', sm, hm2, e3, hat⟩ := hms.get hx1
          rw [hm1] at hm2
          cases hm2
          subst e3
          have ey : y1 = V.ref f := by
            rw [List.getElem?_map, hf1] at hy1
            exact (Option.some.inj hy1).symm
          subst ey
          have fm : f ∈ fs := List.mem_of_getElem? hf1
          refine ⟨tt, sm, rfl, ?_, hat.same mx, wf_inner uw m (List.mem_of_getElem? hm1), ext5 f _ (hfd f fm _ _ hd5).symm (hfd f fm _ _ p5.lst).symm (hfs5 f fm), asg_at hfn hf1 (by rw [List.getElem?_map, hm1]; rfl)⟩
          rw [← hHf, upd_ne (ne_of htt hal7 (by intro z; cases z))]
          exact htt
      have hpn' : (pend ++ u.inner.zip fs).map (·.2) = pend.map (·.2) ++ fs := by rw [List.map_append, ezs]
      have htr : ∀ b ∈ pend.map (·.2), ∃ o, H'' b = some o := fun b hb => by
        obtain ⟨x, hx, rfl⟩ := List.mem_map.mp hb
        obtain ⟨_, _, xs, h⟩ := p5.gfr _ _ (p5.pds.ghost x hx)
        exact ⟨_, h⟩
      have p6 : PSt H Hf rl al t0 (as ++ zts.map V.ref) (pend ++ u.inner.zip fs) (asg G5 fs (u.inner.map (pl ("" : Str)))) (some d) := by
        refine p5.go stp hsf mx hdn5 ⟨_, hfd'⟩ hfal _ _ rfl hmore ?_ fun b t hb => ?_
        · rw [hpn', List.nodup_append]
          refine ⟨p5.nod, hfn, fun b hb c hc e => ?_⟩
          subst e
          obtain ⟨o, h⟩ := htr b hb
          exact off b o h hc
        · rcases asg_in hb with h | h
          · refine .inr ⟨by rw [ezs]; exact h, ?_, (hfd b h _ _ p5.lst).symm, _, ext5 b _ (hfd b h _ _ hd5).symm (hfd b h _ _ p5.lst).symm (hfs5 b h)⟩
            exact (p5.same.trans s53).free (hfa b h).1
          · exact .inl h
      refine ⟨_, _, _, vs5 ++ [.ref p'], done.app (dm u), _, _, _, _, rfl, p6, ?_, hfd', ?_, ?_, ?_, ?_, ?_, ?_, hmx.trans mx, ?_⟩
      · exact ext5 l _ nld nla (s45 _ _ (s54 _ _ hl5))
      · refine Loc.app (NN Hf _ ext5 (fun b hb => ?_) fun i a m h1 h2 => asg_at hfn h1 (by rw [List.getElem?_map, h2]; rfl)) (Loc.step stp hloc)
        have hbf : b ∉ fs := fun hm => by rw [(hfa b hm).2.2] at hb; cases hb
        rw [asg_off hbf]
        cases e : G5 b with
        | none => rfl
        | some t =>
          obtain ⟨_, _, xs, h⟩ := p5.gfr b t e
          rw [s54 _ _ h] at hb
          cases hb
      · rw [hpn']
        intro hm
        rcases List.mem_append.mp hm with hm | hm
        · exact hdn5 hm
        · exact off d _ hd5 hm
      · rw [asg_off (off d _ hd5)]
        exact hgd5
      · rw [hpl5, show ch (u :: (jt [] src).nodes.drop (i + 1)) = u.app (ch ((jt [] src).nodes.drop (i + 1))) from rfl, dm_app, app_assoc]
      · rw [pw_app]
        have := pw_inner uw hsg fs
        omega
      · rw [List.length_append, hvl]
        rfl
      · rw [asg_off (off l _ hl5)]
        exact hgl
  · rintro σ' H'' ⟨as, pend, G', vs', done, o5, o6, o7, o8, rfl, p5, hl5, hd5, hloc, hdn5, hgd5, hpl5, hpw5, hvl, hmx, hgl⟩
    refine ⟨pw pend, ?_, as, pend, G', _, _, _, _, _, _, rfl, ⟨p5.same, p5.al0, p5.lst, p5.pds, p5.nod, p5.gfr, fun b t hb => ?_, p5.root⟩, ?_, rfl⟩
    · omega
    · rcases p5.fin b t hb with h | h | h
      · exact .inl h
      · have e : d = b := Option.some.inj h
        subst e
        rw [hgd5] at hb
        cases hb
        refine .inr (.inr ⟨vs', hd5, ?_⟩)
        rw [hns.length, List.drop_length] at hpl5
        rw [hpl5]
        show Loc H'' G' al (fun b => H b = none) (done.app .nil) vs'
        rw [app_nil]
        exact hloc
      · exact .inr (.inr h)
    · omega
end
end Mw

namespace Mw
open PySem L2
/-! ### the plain form, made node by node -/
def addT : T → Str → T
  | .nil, s => txt s .nil
  | .text x .nil, s => .text (x ++ s) .nil
  | .text x r, s => .text x (addT r s)
  | .shw n r, s => .shw n (addT r s)
  | .num r, s => .num (addT r s)
  | .cho hd cs o r, s => .cho hd cs o (addT r s)
  | .cas k m r, s => .cas k m (addT r s)
theorem ne_app {a s : Str} (h : a ≠ ("" : Str)) : a ++ s ≠ ("" : Str) := fun e => by
  have h1 := len_zero.mpr e
  rw [str_len] at h1
  exact h (len_zero.mp (by omega))
theorem addT_txt (a : Str) {u : T} (hu : u ≠ .nil) (s : Str) : addT (txt a u) s = txt a (addT u s) := by
  unfold txt
  by_cases h : a = ("" : Str)
  · rw [if_pos h, if_pos h]
  · rw [if_neg h, if_neg h]
    cases u with
    | nil => exact absurd rfl hu
    | _ => rfl
theorem pl_text : ∀ (t : T) (a s : Str), pl a (t.app (.text s .nil)) = addT (pl a t) s
  | .nil, a, s => by
    show txt (a ++ s) .nil = addT (txt a .nil) s
    by_cases h : a = ("" : Str)
    · subst h
      rw [nil_str]
      rfl
    · rw [txt, if_neg (ne_app h), txt, if_neg h]
      rfl
  | .text x r, a, s => pl_text r (a ++ x) s
  | .shw n r, a, s => by
    show txt a (.shw n (pl ("" : Str) (r.app _))) = addT (txt a (.shw n (pl ("" : Str) r))) s
    rw [addT_txt a (fun h => by cases h), pl_text r]
    rfl
  | .num r, a, s => by
    show txt a (.num (pl ("" : Str) (r.app _))) = addT (txt a (.num (pl ("" : Str) r))) s
    rw [addT_txt a (fun h => by cases h), pl_text r]
    rfl
  | .cho hd cs o r, a, s => by
    show txt a (.cho hd _ _ (pl ("" : Str) (r.app _))) = addT (txt a (.cho hd _ _ (pl ("" : Str) r))) s
    rw [addT_txt a (fun h => by cases h), pl_text r]
    rfl
  | .cas k m r, a, s => by
    show txt a (.cas k _ (pl ("" : Str) (r.app _))) = addT (txt a (.cas k _ (pl ("" : Str) r))) s
    rw [addT_txt a (fun h => by cases h), pl_text r]
    rfl
/-- a node that is no text -/
theorem pl_node {u : T} (hu : ∀ a, pl a u = txt a (pl ("" : Str) u)) : ∀ (t : T) (a : Str), pl a (t.app u) = (pl a t).app (pl ("" : Str) u)
  | .nil, a => by
    show pl a u = (txt a .nil).app _
    rw [hu, txt_nil]
  | .text x r, a => pl_node hu r (a ++ x)
  | .shw n r, a => by
    show txt a (.shw n (pl ("" : Str) (r.app _))) = _
    rw [pl_node hu r]
    exact (txt_app a (.shw n (pl ("" : Str) r)) _).symm
  | .num r, a => by
    show txt a (.num (pl ("" : Str) (r.app _))) = _
    rw [pl_node hu r]
    exact (txt_app a (.num (pl ("" : Str) r)) _).symm
  | .cho hd cs o r, a => by
    show txt a (.cho hd _ _ (pl ("" : Str) (r.app _))) = _
    rw [pl_node hu r]
    exact (txt_app a (.cho hd (pl ("" : Str) cs) (pl ("" : Str) o) (pl ("" : Str) r)) _).symm
  | .cas k m r, a => by
    show txt a (.cas k _ (pl ("" : Str) (r.app _))) = _
    rw [pl_node hu r]
    exact (txt_app a (.cas k (pl ("" : Str) m) (pl ("" : Str) r)) _).symm
theorem pl_cas (k : V) (m t : T) : pl ("" : Str) (t.app (.cas k m .nil)) = (pl ("" : Str) t).app (.cas k (pl ("" : Str) m) .nil) := pl_node (fun a => by show txt a _ = txt a (txt _ _); congr 1) t _
theorem pl_cho (hd : List V) (cs o t : T) : pl ("" : Str) (t.app (.cho hd cs o .nil)) = (pl ("" : Str) t).app (.cho hd (pl ("" : Str) cs) (pl ("" : Str) o) .nil) := pl_node (fun a => by show txt a _ = txt a (txt _ _); congr 1) t _
theorem pl_shw (n : Str) (t : T) : pl ("" : Str) (t.app (.shw n .nil)) = (pl ("" : Str) t).app (.shw n .nil) := pl_node (fun a => by show txt a _ = txt a (txt _ _); congr 1) t _
theorem pl_num (t : T) : pl ("" : Str) (t.app (.num .nil)) = (pl ("" : Str) t).app (.num .nil) := pl_node (fun a => by show txt a _ = txt a (txt _ _); congr 1) t _
theorem addT_app {u : T} (hu : u ≠ .nil) (s : Str) : ∀ t : T, addT (t.app u) s = t.app (addT u s)
  | .nil => rfl
  | .text x r => by
    have h := addT_app hu s r
    have hne : r.app u ≠ .nil := by cases r <;> first | exact hu | (intro z; cases z)
    show addT (.text x (r.app u)) s = .text x (r.app (addT u s))
    rw [← h]
    generalize r.app u = z at hne
    cases z with
    | nil => exact absurd rfl hne
    | _ => rfl
  | .shw n r => congrArg (T.shw n) (addT_app hu s r)
  | .num r => congrArg T.num (addT_app hu s r)
  | .cho hd cs o r => congrArg (T.cho hd cs o) (addT_app hu s r)
  | .cas k m r => congrArg (T.cas k m) (addT_app hu s r)
/-! what the plain form is worth -/
theorem txt_ok {a : Str} {u : T} (w : Ok3 u false) (h : PyData.strOk a = true) : Ok3 (txt a u) false := by
  unfold txt
  split
  · exact w
  · exact ⟨⟨rfl, w.wf⟩, ⟨h, w.sok⟩, w.kd⟩
theorem strOk_app {a s : Str} (h1 : PyData.strOk a = true) (h2 : PyData.strOk s = true) : PyData.strOk (a ++ s) = true := by
  unfold PyData.strOk at *
  show (a.cps ++ s.cps).all _ = true
  rw [Array.all_append, h1, h2]
  rfl
theorem pl_keys : ∀ {t : T}, Wf t true → (pl ("" : Str) t).keys = t.keys
  | .nil, _ => rfl
  | .cas k m r, w => by
    show k :: (pl ("" : Str) r).keys = k :: r.keys
    rw [pl_keys w.2.2.2]
  | .text _ _, w => by cases w.1
  | .shw _ _, w => by cases w.1
  | .num _, w => by cases w.1
  | .cho _ _ _ _, w => by cases w.1
theorem pl_dep : ∀ (t : T) (a : Str), (pl a t).dep = t.dep
  | .nil, a => by show (txt a .nil).dep = 0; unfold txt; split <;> rfl
  | .text s r, a => pl_dep r (a ++ s)
  | .shw n r, a => by
    have e : ∀ u : T, (txt a u).dep = u.dep := fun u => by unfold txt; split <;> rfl
    show (txt a _).dep = r.dep
    rw [e]
    exact pl_dep r _
  | .num r, a => by
    have e : ∀ u : T, (txt a u).dep = u.dep := fun u => by unfold txt; split <;> rfl
    show (txt a _).dep = r.dep
    rw [e]
    exact pl_dep r _
  | .cho hd cs o r, a => by
    have e : ∀ u : T, (txt a u).dep = u.dep := fun u => by unfold txt; split <;> rfl
    show (txt a _).dep = _
    rw [e]
    show max (max (pl _ cs).dep (pl _ o).dep + 1) (pl _ r).dep = max (max cs.dep o.dep + 1) r.dep
    rw [pl_dep cs, pl_dep o, pl_dep r]
  | .cas k m r, a => by
    have e : ∀ u : T, (txt a u).dep = u.dep := fun u => by unfold txt; split <;> rfl
    show (txt a _).dep = _
    rw [e]
    show max (pl _ m).dep (pl _ r).dep = max m.dep r.dep
    rw [pl_dep m, pl_dep r]
def wA (a : Str) : Nat := if a = ("" : Str) then 0 else 1 + a.length
theorem wA_txt (a : Str) (u : T) : (txt a u).sz = wA a + u.sz := by
  unfold txt wA
  split
  · omega
  · show 1 + a.length + u.sz = _
    rfl
theorem wA_nil : wA ("" : Str) = 0 := by decide +kernel
theorem wA_add (a s : Str) : wA (a ++ s) ≤ wA a + (1 + s.length) := by
  unfold wA
  split
  · omega
  · rw [str_len]
    split
    · rename_i h
      rw [len_zero.mpr h]
      omega
    · omega
theorem pl_sz : ∀ (t : T) (a : Str), (pl a t).sz ≤ wA a + t.sz
  | .nil, a => by
    show (txt a .nil).sz ≤ _
    rw [wA_txt]
    exact Nat.le_refl _
  | .text s r, a => by
    have h1 := pl_sz r (a ++ s)
    have h2 := wA_add a s
    show (pl (a ++ s) r).sz ≤ wA a + (1 + s.length + r.sz)
    omega
  | .shw n r, a => by
    have h1 := pl_sz r ("" : Str)
    rw [wA_nil] at h1
    show (txt a _).sz ≤ wA a + (1 + r.sz)
    rw [wA_txt]
    show wA a + (1 + (pl ("" : Str) r).sz) ≤ _
    omega
  | .num r, a => by
    have h1 := pl_sz r ("" : Str)
    rw [wA_nil] at h1
    show (txt a _).sz ≤ wA a + (1 + r.sz)
    rw [wA_txt]
    show wA a + (1 + (pl ("" : Str) r).sz) ≤ _
    omega
  | .cho hd cs o r, a => by
    have h1 := pl_sz r ("" : Str)
    have h2 := pl_sz cs ("" : Str)
    have h3 := pl_sz o ("" : Str)
    rw [wA_nil] at h1 h2 h3
    show (txt a _).sz ≤ wA a + (1 + cs.sz + o.sz + r.sz)
    rw [wA_txt]
    show wA a + (1 + (pl ("" : Str) cs).sz + (pl ("" : Str) o).sz + (pl ("" : Str) r).sz) ≤ _
    omega
  | .cas k m r, a => by
    have h1 := pl_sz r ("" : Str)
    have h2 := pl_sz m ("" : Str)
    rw [wA_nil] at h1 h2
    show (txt a _).sz ≤ wA a + (1 + m.sz + r.sz)
    rw [wA_txt]
    show wA a + (1 + (pl ("" : Str) m).sz + (pl ("" : Str) r).sz) ≤ _
    omega
theorem empty_ok : PyData.strOk ("" : Str) = true := by decide +kernel
mutual
theorem pl_ok : ∀ {t : T} {a : Str}, Ok3 t false → PyData.strOk a = true → Ok3 (pl a t) false
  | .nil, a, o, h => txt_ok ⟨trivial, trivial, trivial⟩ h
  | .text s r, a, o, h => pl_ok (t := r) ⟨o.wf.2, o.sok.2, o.kd⟩ (strOk_app h o.sok.1)
  | .shw n r, a, o, h => by
    obtain ⟨b1, b2, b3⟩ := pl_ok (t := r) ⟨o.wf.2, o.sok.2, o.kd⟩ empty_ok
    exact txt_ok ⟨⟨rfl, b1⟩, ⟨o.sok.1, b2⟩, b3⟩ h
  | .num r, a, o, h => by
    obtain ⟨b1, b2, b3⟩ := pl_ok (t := r) ⟨o.wf.2, o.sok, o.kd⟩ empty_ok
    exact txt_ok ⟨⟨rfl, b1⟩, b2, b3⟩ h
  | .cho hd cs oo r, a, o, h => by
    obtain ⟨b1, b2, b3⟩ := pl_ok (t := r) ⟨o.wf.2.2.2.2, o.sok.2.2.2.2, o.kd.2.2.2.2⟩ empty_ok
    obtain ⟨c1, c2, c3⟩ := pl_ok (t := oo) ⟨o.wf.2.2.2.1, o.sok.2.2.2.1, o.kd.2.2.2.1⟩ empty_ok
    obtain ⟨d1, d2, d3⟩ := pl_okC (t := cs) ⟨o.wf.2.2.1, o.sok.2.2.1, o.kd.2.2.1⟩
    refine txt_ok ⟨⟨rfl, o.wf.2.1, d1, c1, b1⟩, ⟨o.sok.1, o.sok.2.1, d2, c2, b2⟩, ?_, ?_, d3, c3, b3⟩ h
    · rw [pl_keys o.wf.2.2.1]
      exact o.kd.1
    · rw [pl_keys o.wf.2.2.1]
      exact o.kd.2.1
  | .cas _ _ _, a, o, h => by cases o.wf.1
theorem pl_okC : ∀ {t : T}, Ok3 t true → Ok3 (pl ("" : Str) t) true
  | .nil, o => o
  | .cas k m r, o => by
    obtain ⟨b1, b2, b3⟩ := pl_okC (t := r) ⟨o.wf.2.2.2, o.sok.2.2, o.kd.2⟩
    obtain ⟨c1, c2, c3⟩ := pl_ok (t := m) ⟨o.wf.2.2.1, o.sok.2.1, o.kd.1⟩ empty_ok
    exact ⟨⟨rfl, o.wf.2.1, c1, b1⟩, ⟨o.sok.1, c2, b2⟩, c3, b3⟩
  | .text _ _, o => by cases o.wf.1
  | .shw _ _, o => by cases o.wf.1
  | .num _, o => by cases o.wf.1
  | .cho _ _ _ _, o => by cases o.wf.1
end
end Mw

namespace Mw
open PySem L2
/-! ### what was given and what is new, but for lists that are still filled -/
def Ws (L : List Addr) (H0 H H1 : Hp) : Hp := fun a => if a ∈ L then none else cb H0 H H1 a
section
variable {L L' : List Addr} {H0 H H1 H2 H3 H4 : Hp}
theorem ws_in {a : Addr} {o : HO} (h : Ws L H0 H H1 a = some o) : a ∉ L ∧ cb H0 H H1 a = some o := by
  unfold Ws at h
  split at h
  · cases h
  · exact ⟨by assumption, h⟩
theorem ws_off {a : Addr} (h : a ∉ L) : Ws L H0 H H1 a = cb H0 H H1 a := if_neg h
theorem ws_new {a : Addr} (h : a ∉ L) (e : H a = none) : Ws L H0 H H1 a = H1 a := by rw [ws_off h, cb_new e]
theorem ws_same (s : Same H1 H2) : Same (Ws L H0 H H1) (Ws L H0 H H2) := fun a o h => by
  obtain ⟨h1, h2⟩ := ws_in h
  rw [ws_off h1]
  exact cb_same s _ _ h2
theorem ws_mut {l : Addr} (hl : l ∈ L) (o : HO) : Ws L H0 H (upd H1 l o) = Ws L H0 H H1 := by
  funext a
  unfold Ws
  by_cases c : a ∈ L
  · rw [if_pos c, if_pos c]
  · rw [if_neg c, if_neg c]
    have hne : a ≠ l := fun e => c (e ▸ hl)
    unfold cb
    rw [upd_ne hne]
theorem ws_base (s : Same H0 H) (hL : ∀ l ∈ L, H l = none) : Same H0 (Ws L H0 H H1) := fun a o h => by
  have h1 := s _ _ h
  have : a ∉ L := fun c => by rw [hL a c] at h1; cases h1
  rw [ws_off this, cb_old h1]
  exact h
theorem ws_out (s0 : Same H0 H) (s : Same H H1) : Same (Ws L H0 H H1) H1 := fun a o h => by
  obtain ⟨_, h2⟩ := ws_in h
  rcases cb_in h2 with ⟨_, h3⟩ | ⟨_, h3⟩
  · exact s _ _ (s0 _ _ h3)
  · exact h3
/-- what a call gives back, asked of what was given to the caller -/
theorem ws_call (s0 : Same H0 H) (s3 : Same H H3) (hL : ∀ l ∈ L, H l = none ∧ ∃ u, H3 l = some u) : Same (cb H0 H3 H4) (Ws L H0 H H4) := fun a o h => by
  rcases cb_in h with ⟨⟨u, e⟩, h3⟩ | ⟨e, h3⟩
  · have h1 := s0 _ _ h3
    have : a ∉ L := fun c => by rw [(hL a c).1] at h1; cases h1
    rw [ws_off this, cb_old h1]
    exact h3
  · have h1 : H a = none := s3.free e
    have : a ∉ L := fun c => by
      obtain ⟨_, u, hu⟩ := hL a c
      rw [hu] at e
      cases e
    rw [ws_off this, cb_new h1]
    exact h3
theorem ws_sub (h : ∀ l ∈ L, l ∈ L') : Same (Ws L' H0 H H1) (Ws L H0 H H1) := fun a o e => by
  obtain ⟨h1, h2⟩ := ws_in e
  rw [ws_off fun c => h1 (h a c)]
  exact h2
theorem ws_end : Same (Ws L H0 H H1) (cb H0 H H1) := fun a o e => (ws_in e).2
end
theorem Nodes.split {H : Hp} {u : T} : ∀ {t : T} {vs : List V}, Nodes H (t.app u) vs → ∃ v1 v2, vs = v1 ++ v2 ∧ Nodes H t v1 ∧ Nodes H u v2
  | .nil, vs, h => ⟨[], vs, rfl, rfl, h⟩
  | .text s r, _, h => by
    obtain ⟨p, ws, rfl, hp, hr⟩ := h
    obtain ⟨v1, v2, rfl, h1, h2⟩ := Nodes.split hr
    exact ⟨_ :: v1, v2, rfl, ⟨p, v1, rfl, hp, h1⟩, h2⟩
  | .shw s r, _, h => by
    obtain ⟨p, ws, rfl, hp, hr⟩ := h
    obtain ⟨v1, v2, rfl, h1, h2⟩ := Nodes.split hr
    exact ⟨_ :: v1, v2, rfl, ⟨p, v1, rfl, hp, h1⟩, h2⟩
  | .num r, _, h => by
    obtain ⟨p, ws, rfl, hp, hr⟩ := h
    obtain ⟨v1, v2, rfl, h1, h2⟩ := Nodes.split (t := r) hr
    exact ⟨_ :: v1, v2, rfl, ⟨p, v1, rfl, hp, h1⟩, h2⟩
  | .cho hd cs o r, _, h => by
    obtain ⟨p, ws, ca, cvs, oa, ovs, rfl, h1, h2, h3, h4, h5, hr⟩ := h
    obtain ⟨v1, v2, rfl, a1, a2⟩ := Nodes.split hr
    exact ⟨_ :: v1, v2, rfl, ⟨p, v1, ca, cvs, oa, ovs, rfl, h1, h2, h3, h4, h5, a1⟩, a2⟩
  | .cas k m r, _, h => by
    obtain ⟨p, ws, ma, mvs, rfl, h1, h2, h3, hr⟩ := h
    obtain ⟨v1, v2, rfl, a1, a2⟩ := Nodes.split hr
    exact ⟨_ :: v1, v2, rfl, ⟨p, v1, ma, mvs, rfl, h1, h2, h3, a1⟩, a2⟩
/-- the last node of a chain -/
theorem T.last_cases (t : T) : t = .nil ∨ ∃ g u : T, t = g.app u ∧ u.single := by
  have h : t = ch t.nodes := (ch_nodes t).symm
  have hs := nodes_single (t := t)
  generalize t.nodes = us at h hs
  rcases List.eq_nil_or_concat us with rfl | ⟨l, u, rfl⟩
  · exact .inl h
  · refine .inr ⟨ch l, u, ?_, hs u (by simp)⟩
    rw [h, List.concat_eq_append]
    have : ∀ l : List T, ch (l ++ [u]) = (ch l).app u := fun l => by
      induction l with
      | nil => exact app_nil u
      | cons x l ih =>
        show x.app (ch (l ++ [u])) = (x.app (ch l)).app u
        rw [ih, app_assoc]
    exact this l
end Mw

namespace Mw
open PySem L2
theorem ch_snoc : ∀ (us : List T) (u : T), ch (us ++ [u]) = (ch us).app u
  | [], u => app_nil u
  | x :: us, u => by
    show x.app (ch (us ++ [u])) = (x.app (ch us)).app u
    rw [ch_snoc us u, app_assoc]
theorem ch_take {us : List T} {i : Nat} {u : T} (h : us[i]? = some u) : ch (us.take (i + 1)) = (ch (us.take i)).app u := by
  rw [List.take_succ, h]
  exact ch_snoc _ _
theorem ch_szs : ∀ us : List T, (ch us).sz = szs us
  | [] => rfl
  | u :: us => by
    show (u.app (ch us)).sz = u.sz + szs us
    rw [T.app_sz, ch_szs us]
theorem szs_tk : ∀ (l : List T) (i : Nat), szs (l.take i) ≤ szs l
  | [], i => by rw [List.take_nil]; exact Nat.le_refl _
  | u :: l, 0 => Nat.zero_le _
  | u :: l, i + 1 => by
    have := szs_tk l i
    show u.sz + szs (l.take i) ≤ u.sz + szs l
    omega
theorem ch_tk_sz (t : T) (i : Nat) : (ch (t.nodes.take i)).sz ≤ t.sz := by
  have h := szs_tk t.nodes i
  rw [szs_nodes] at h
  rw [ch_szs]
  exact h
theorem txt_wf' {a : Str} {u : T} (w : Wf u false) : Wf (txt a u) false := by
  unfold txt
  split
  · exact w
  · exact ⟨rfl, w⟩
theorem empty_c {u : T} : txt ("" : Str) u = u := if_pos rfl
mutual
theorem pl_wf : ∀ {t : T} {a : Str}, Wf t false → Wf (pl a t) false
  | .nil, a, o => txt_wf' trivial
  | .text s r, a, o => pl_wf (t := r) o.2
  | .shw n r, a, o => txt_wf' ⟨rfl, pl_wf (t := r) o.2⟩
  | .num r, a, o => txt_wf' ⟨rfl, pl_wf (t := r) o.2⟩
  | .cho hd cs oo r, a, o => txt_wf' ⟨rfl, o.2.1, pl_wfC (t := cs) o.2.2.1, pl_wf (t := oo) o.2.2.2.1, pl_wf (t := r) o.2.2.2.2⟩
  | .cas _ _ _, a, o => by cases o.1
theorem pl_wfC : ∀ {t : T}, Wf t true → Wf (pl ("" : Str) t) true
  | .nil, o => o
  | .cas k m r, o => ⟨rfl, o.2.1, pl_wf (t := m) o.2.2.1, pl_wfC (t := r) o.2.2.2⟩
  | .text _ _, o => by cases o.1
  | .shw _ _, o => by cases o.1
  | .num _, o => by cases o.1
  | .cho _ _ _ _, o => by cases o.1
end
theorem wf_app_r : ∀ {g u : T}, Wf (g.app u) false → Wf u false
  | .nil, _, h => h
  | .text _ r, _, h => wf_app_r (g := r) h.2
  | .shw _ r, _, h => wf_app_r (g := r) h.2
  | .num r, _, h => wf_app_r (g := r) h.2
  | .cho _ _ _ r, _, h => wf_app_r (g := r) h.2.2.2.2
  | .cas _ _ _, _, h => by cases h.1
theorem wf_ch : ∀ {us : List T}, (∀ u ∈ us, Wf u false) → Wf (ch us) false
  | [], _ => trivial
  | u :: us, h => Wf.app (wf_ch fun x hx => h x (List.mem_cons_of_mem _ hx)) (h u (by simp))
theorem single_ne {u : T} (h : u.single) : u ≠ .nil := by
  rintro rfl
  exact h
theorem single_len {u : T} (h : u.single) : u.len = 1 := by
  cases u with
  | nil => cases h
  | text _ r => cases (show r = .nil from h); rfl
  | shw _ r => cases (show r = .nil from h); rfl
  | num r => cases (show r = .nil from h); rfl
  | cho _ _ _ r => cases (show r = .nil from h); rfl
  | cas _ _ r => cases (show r = .nil from h); rfl
theorem mkc_pl : ∀ {cs : T}, Wf cs true → mkc cs.keys (cs.msgs.map (pl ("" : Str))) = pl ("" : Str) cs
  | .nil, _ => rfl
  | .cas k m r, w => by
    show T.cas k _ (mkc r.keys (r.msgs.map _)) = txt ("" : Str) (.cas k _ (pl ("" : Str) r))
    rw [mkc_pl w.2.2.2]
    exact empty_c.symm
  | .text _ _, w => by cases w.1
  | .shw _ _, w => by cases w.1
  | .num _, w => by cases w.1
  | .cho _ _ _ _, w => by cases w.1
section
variable {P : Program} {w : World} {K : PySem.W.Frag} {mg : Str → Option Value} {base : Heap}
/-! ### _law_plain -/
abbrev sLpl : Stmt := top 31
abbrev nLpl : List Str := ["message", "found", "node", "cases", "key", "case"]
theorem scLpl : FnScope nLpl ["message"] (defScope sLpl) := ⟨rfl, rfl, rfl, by decide +kernel, rfl, by decide +kernel, by decide +kernel⟩
def spLpl (n : Nat) : Sp := fun vs H Q _ => ∃ (a : Addr) (t : T) (H0 : Hp), vs = [.ref a] ∧ Same H0 H ∧ At H0 a t ∧ Wf t false ∧ t.dep ≤ n ∧ t.sz < 90000 ∧ ∀ l H', H l = none → Same H H' → At (cb H0 H H') l (pl ("" : Str) t) → Q (.ref l) H'
def spLplP (n : Nat) : Sp := fun vs H Q E => ∃ e, n = e + 1 ∧ spLpl e vs H Q E
def LqI (a l : Addr) (H0 H : Hp) (t : T) (i : Nat) (σ : L2.St) (H' : Hp) : Prop :=
  ∃ (o2 o3 : Option V) (fs : List V), σ = [some (.ref a), some (.ref l), o2, o3, none, none] ∧ Same H H' ∧ H' l = some (.lst fs) ∧ Nodes (Ws [l] H0 H H') (pl ("" : Str) (ch (t.nodes.take i))) fs ∧ fs.length ≤ i
theorem LqI.snoc {a l : Addr} {H0 H H1 : Hp} {t u u' : T} {i : Nat} {o2 o3 : Option V} {fs : List V} {v : V} (hl : H l = none) (s : Same H H1) (hf : H1 l = some (.lst fs)) (hF : Nodes (Ws [l] H0 H H1) (pl ("" : Str) (ch (t.nodes.take i))) fs) (hfl : fs.length ≤ i)
    (hu : t.nodes[i]? = some u) (e : pl ("" : Str) ((ch (t.nodes.take i)).app u) = (pl ("" : Str) (ch (t.nodes.take i))).app u') (hu' : Nodes (Ws [l] H0 H H1) u' [v]) :
    LqI a l H0 H t (i + 1) [some (.ref a), some (.ref l), o2, o3, none, none] (upd H1 l (.lst (fs ++ [v]))) := by
  refine ⟨o2, o3, fs ++ [v], rfl, same_mut s hl _, upd_same, ?_, by rw [List.length_append]; show fs.length + 1 ≤ i + 1; omega⟩
  rw [ws_mut (by simp), ch_take hu, e]
  exact Nodes.app hu' hF
set_option maxHeartbeats 0 in
theorem ok_lpl {k n : Nat} {f fM : Addr} {fd fdM : FuncData} (F : Fun K "_law_plain" "_law_plain" sLpl f fd)
    (GM : FnOk P w K mg base CX0 k fM fdM ["message"] (spLplP n)) (bM : Binds K fdM ["message"] []) (kM : PySem.W.keepIn K (.ref fM) = true) (mM : mg "_law_plain" = some (.ref fM))
    (ml : mg "len" = none) : FnOk P w K mg base CX0 (k + 1) f fd ["message"] (spLpl n) := by
  refine F.ok scLpl (fun vs H Q E h => ?_) (fun cdv A outer s H vs Q E hr h => ?_)
  · obtain ⟨a, t, H0, rfl, _⟩ := h
    rfl
  obtain ⟨a, t, H0, rfl, s0, ⟨vs, ha, hn⟩, hw, hd, hz, q⟩ := h
  have nd := scLpl.nd
  refine ⟨_, (pss_cons (ps_set (i := 1) nd rfl (.inl rfl) (pe_lst pa_nil))
      (pss_cons (ps_for PassesOwn.never rfl (pi_list (pv 0)) (pg_name (i := 2) nd rfl (.inl rfl)) (pss_one (ps_if (pt_cmpR op_eq (pe_ix ix_tup (pv 2) pe_int (fun _ _ => rfl)) pe_str (nomark _)) (pss_one (ps_if (PW.pt (pw_and (pt_cmpR op_gt (pe_callB call_len_seq (by rfl) ml PySem.boot_len (pa_cons (pv 1) pa_nil)) pe_int (nomark _)) (pw_and1 (pt_cmpR op_eq (pe_ix ix_tup (pe_ix ix_list (pv 1) (pe_un un_neg pe_int) (fun _ _ => rfl)) pe_int (fun _ _ => rfl)) pe_str (nomark _))))) (pss_one (ps_asg (pe_tup (pa_cons pe_str (pa_cons (pe_op op_add_str (pe_ix ix_tup (pe_ix ix_list (pv 1) (pe_un un_neg pe_int) (fun _ _ => rfl)) pe_int (fun _ _ => rfl)) (pe_ix ix_tup (pv 2) pe_int (fun _ _ => rfl))) pa_nil))) (pg_sub (pv 1) (pe_un un_neg pe_int) set_list))) (pss_one (ps_if (pt_cmpR op_ne (pe_ix ix_tup (pv 2) pe_int (fun _ _ => rfl)) pe_str (nomark _)) (pss_one (ps_expr (pe_bm PySem.F.plainAttrs_list PySem.F.slot_list_append PySem.F.type_list_append mt_append (pv 1) (pa_cons (pv 2) pa_nil)))) pss_nil)))) (pss_one (ps_if (pt_cmpR op_in_seq (pe_ix ix_tup (pv 2) pe_int (fun _ _ => rfl)) (pe_lst (pa_cons pe_str (pa_cons pe_str pa_nil))) rfl) (pss_cons (ps_setLc (i := 3) (own := [("key", 4), ("case", 5)]) (g := (gTup K 2 (gCons (gName 4) (gCons (gName 5) gNil)))) (tt := tYes)  rfl nd rfl rfl (sw_true rfl rfl rfl (by decide +kernel)) (pi_list (pe_ix ix_tup (pv 2) (pe_un un_neg pe_int) (fun _ _ => rfl))) (blkOk_by (N := nLpl) (sc := defScope sLpl) (by decide +kernel)) (fun _ _ _ _ _ => (pg_tup rfl (pgs_cons (pg_name (i := 4) nd rfl (.inl rfl)) (pgs_cons (pg_name (i := 5) nd rfl (.inl rfl)) pgs_nil)))) (fun _ _ _ _ _ => pts_nil) (fun _ _ _ _ _ => (pe_tup (pa_cons (pv 4) (pa_cons (pe_call GM hr rfl mM kM bM .nil pass0 (pa_cons (pv 5) pa_nil)) pa_nil)))))
      (pss_one (ps_expr (pe_bm PySem.F.plainAttrs_list PySem.F.slot_list_append PySem.F.type_list_append mt_append (pv 1) (pa_cons (pe_op op_catT (pe_slice sl_tup (pv 2) po_none (po_some (pe_un un_neg pe_int))) (pe_tup (pa_cons (pv 3) (pa_cons (pe_call GM hr rfl mM kM bM .nil pass0 (pa_cons (pe_ix ix_tup (pv 2) (pe_un un_neg pe_int) (fun _ _ => rfl)) pa_nil)) pa_nil)))) pa_nil))))) (pss_one (ps_expr (pe_bm PySem.F.plainAttrs_list PySem.F.slot_list_append PySem.F.type_list_append mt_append (pv 1) (pa_cons (pv 2) pa_nil)))))))))
      (pss_one (ps_ret (pv 1))))), ?_⟩
  refine ⟨Nat.zero_le _, fun l hl => ?_⟩
  have s1 : Same H (upd H l (.lst [])) := same_new hl _
  have hlen : vs.length < 90000 := by
    rw [hn.length]
    exact Nat.lt_of_le_of_lt (len_sz t) hz
  have hns := hn.ns
  have l0 : H0 l = none := s0.free hl
  refine ⟨_, rfl, a, rfl, ⟨_, SqL.of (s1 _ _ (s0 _ _ ha))⟩, for_list (K := K) (a := a) (xs := vs) (LqI a l H0 H t) ⟨none, none, [], rfl, s1, upd_same, rfl, Nat.le_refl _⟩
    (fun i σ H' _ ⟨_, _, _, _, s', _⟩ => SqL.of (s' _ _ (s0 _ _ ha))) ?_ ?_⟩
  rotate_left
  · rintro σ H1 ⟨o2, o3, fs, rfl, sH, hf, hF, hfl⟩
    refine ⟨_, rfl, q l H1 hl sH ⟨fs, cb_at hl hf, ?_⟩⟩
    rw [hns.length, List.take_length, ch_nodes] at hF
    exact hF.same ws_end
  rintro i x σ H1 hx ⟨o2, o3, fs, rfl, sH, hf, hF, hfl⟩
  have hi : i < vs.length := (List.getElem?_eq_some_iff.mp hx).1
  obtain ⟨u, hu, hun⟩ := hns.get hx
  have um := List.mem_of_getElem? hu
  have uw := nodes_wf hw u um
  have uz := node_sz u um
  have ud := dep_nodes u um
  obtain ⟨p, z, zs, rfl, hp, hsg, hch, htx⟩ := node_of hun uw
  have hp1 := sH _ _ (s0 _ _ hp)
  have wb : Same H0 (Ws [l] H0 H H1) := ws_base s0 (by simpa using hl)
  refine ⟨_, rfl, p, _, 0, .str z, rfl, rfl, .inl (.inl hp1), atI_nat (j := 0) rfl, rfl, _, rfl, ite2 (fun c => ?_) (fun c => ?_)⟩
  · -- a text
    have ht := htx.mp (str_eq (of_decide_eq_true c))
    cases u with
    | text st r =>
      cases (show r = .nil from hsg)
      obtain ⟨p', _, e, hp', _⟩ := hun
      cases e
      have hp1' := sH _ _ (s0 _ _ hp')
      have hFz : (pl ("" : Str) (ch (t.nodes.take i))).sz ≤ t.sz := by
        have h1 := pl_sz (ch (t.nodes.take i)) ("" : Str)
        have h2 := ch_tk_sz t i
        rw [wA_nil] at h1
        omega
      have hadd := pl_text (ch (t.nodes.take i)) ("" : Str) st
      have ix1 : ∀ {H2 : Hp} {o3 : Option V}, Same H1 H2 → ∀ Q : VK, Q (.str st) H2 → tOp (rIxT K) (tVar 2) (tC (.int 1)) [some (.ref a), some (.ref l), some (.ref p), o3, none, none] H2 Q := fun s2 Q qq => ⟨_, rfl, p, _, 1, .str st, rfl, rfl, .inl (.inl (s2 _ _ hp1')), atI_nat (j := 1) rfl, qq⟩
      -- the node put behind
      have other : (pl ("" : Str) (ch (t.nodes.take i))) = .nil ∨ (∃ g u' : T, pl ("" : Str) (ch (t.nodes.take i)) = g.app u' ∧ u'.single ∧ u'.isText = false) → ∀ H2, Same H1 H2 → H2 l = some (.lst fs) → LqI a l H0 H t (i + 1) [some (.ref a), some (.ref l), some (.ref p), o3, none, none] (if st = ("" : Str) then H2 else upd H2 l (.lst (fs ++ [.ref p]))) := by
        intro hc H2 s2 hf2
        have e2 : pl ("" : Str) ((ch (t.nodes.take i)).app (.text st .nil)) = (pl ("" : Str) (ch (t.nodes.take i))).app (txt st .nil) := by
          rw [hadd]
          rcases hc with hc | ⟨g, u', hc, hsg', htx'⟩
          · rw [hc]
            rfl
          · rw [hc, addT_app (single_ne hsg'), app_assoc]
            congr 1
            cases u' with
            | nil => cases hsg'
            | text _ _ => cases htx'
            | shw n r => cases (show r = .nil from hsg'); rfl
            | num r => cases (show r = .nil from hsg'); rfl
            | cho _ _ _ r => cases (show r = .nil from hsg'); rfl
            | cas _ _ r => cases (show r = .nil from hsg'); rfl
        have hF2 := hF.same (ws_same (L := [l]) (H0 := H0) (H := H) s2)
        by_cases hst : st = ("" : Str)
        · rw [if_pos hst]
          rw [hst, txt, if_pos rfl, app_nil] at e2
          refine ⟨_, _, fs, rfl, sH.trans s2, hf2, ?_, by omega⟩
          rw [ch_take hu, hst, e2]
          exact hF2
        · rw [if_neg hst]
          rw [txt, if_neg hst] at e2
          exact LqI.snoc hl (sH.trans s2) hf2 hF2 hfl hu e2 ⟨p, [], rfl, (ws_same s2) _ _ (wb _ _ hp'), rfl⟩
      refine ⟨_, rfl, l, _, rfl, .inl (SqL.of hf), _, _, rfl, rfl, _, rfl, ?_⟩
      rcases T.last_cases (pl ("" : Str) (ch (t.nodes.take i))) with hnil | ⟨g, u', hgu, hsg'⟩
      · have hfs : fs = [] := by
          rw [hnil] at hF
          exact hF
        subst hfs
        refine iteF (ix1 (Same.refl _) _ ⟨rfl, _, rfl, ?_⟩)
        have ho := other (.inl hnil) H1 (Same.refl _) hf
        by_cases hst : st = ("" : Str)
        · rw [if_pos hst] at ho
          rw [hst]
          exact iteF ho
        · rw [if_neg hst] at ho
          rw [decide_eq_false fun z => hst (str_eq z)]
          exact iteT ⟨_, rfl, .inl ⟨rfl, _, SqL.of hf⟩, _, rfl, l, _, _, rfl, rfl, hf, sz_line (by omega), ho⟩
      · rw [hgu] at hF
        obtain ⟨v1, v2, rfl, hF1, hF2⟩ := Nodes.split hF
        have w' : Wf u' false := wf_app_r (g := g) (by rw [← hgu]; exact pl_wf (wf_ch fun x hx => nodes_wf hw x (List.mem_of_mem_take hx)))
        have l2 := hF2.length
        obtain ⟨v, rfl⟩ : ∃ v, v2 = [v] := by
          rw [single_len hsg'] at l2
          exact List.length_eq_one_iff.mp l2
        obtain ⟨p2, z2, zs2, rfl, hp2, _, _, htx2⟩ := node_of hF2 w'
        have hp2' := ws_out s0 sH _ _ hp2
        rw [decide_eq_true (show (0 : Int) < ((v1 ++ [V.ref p2]).length : Int) by rw [List.length_append]; show (0 : Int) < ((v1.length + 1 : Nat) : Int); omega)]
        refine iteT ⟨_, rfl, 1, rfl, l, _, -1, .ref p2, rfl, rfl, SqL.of hf, atI_last _ _, p2, _, 0, .str z2, rfl, rfl, .inl (.inl hp2'), atI_nat (j := 0) rfl, rfl, _, rfl, ?_⟩
        by_cases hz2 : z2 = ("text" : Str)
        · rw [decide_eq_true (show V.str z2 = V.str "text" by rw [hz2])]
          refine iteT ?_
          have ht2 := htx2.mp hz2
          cases u' with
          | text x2 r2 =>
            cases (show r2 = .nil from hsg')
            obtain ⟨p3, _, e, hp3, _⟩ := hF2
            cases e
            have hp3' := ws_out s0 sH _ _ hp3
            refine ⟨_, rfl, 1, rfl, l, _, -1, .ref p2, rfl, rfl, SqL.of hf, atI_last _ _, p2, _, 1, .str x2, rfl, rfl, .inl (.inl hp3'), atI_nat (j := 1) rfl, ?_⟩
            have hx2 : x2.length + st.length < 200000 := by
              have e1 : (g.app (.text x2 .nil)).sz ≤ t.sz := by rw [← hgu]; exact hFz
              rw [T.app_sz] at e1
              simp only [T.sz] at e1 uz
              omega
            refine ix1 (Same.refl _) _ ⟨_, _, rfl, rfl, le_line (by omega), by show 2 ≤ sizeLine; decide, fun np hnp => ?_⟩
            have nnl : l ≠ np := ne_of_none hf hnp
            have hixn : ixN (v1 ++ [V.ref p2]).length (-1) = some v1.length := by
              unfold ixN
              rw [if_neg (by decide), List.length_append, List.length_singleton, if_pos (by omega)]
              congr 1
              omega
            have sn : Same H1 (upd H1 np (.tup [.str "text", .str (x2 ++ st)])) := same_new hnp _
            refine ⟨_, rfl, 1, rfl, l, _, -1, v1.length, rfl, rfl, sn _ _ hf, hixn, ?_⟩
            rw [List.set_append_right _ _ (Nat.le_refl _), Nat.sub_self]
            refine ⟨_, _, v1 ++ [V.ref np], rfl, same_mut (sH.trans sn) hl _, upd_same, ?_, by simp only [List.length_append, List.length_singleton] at hfl ⊢; omega⟩
            rw [ws_mut (by simp), ch_take hu, hadd, hgu, addT_app (by intro z; cases z)]
            refine Nodes.app (u := .text (x2 ++ st) .nil) ⟨np, [], rfl, ?_, rfl⟩ (hF1.same (ws_same sn))
            rw [ws_new (by simpa using nnl.symm) (sH.free hnp)]
            exact upd_same
          | _ => cases ht2
        · rw [decide_eq_false fun z => hz2 (str_eq z)]
          refine iteF (ix1 (Same.refl _) _ ⟨rfl, _, rfl, ?_⟩)
          have ho := other (.inr ⟨g, u', hgu, hsg', by cases e : u'.isText with | false => rfl | true => exact absurd (htx2.mpr e) hz2⟩) H1 (Same.refl _) hf
          by_cases hst : st = ("" : Str)
          · rw [if_pos hst] at ho
            rw [hst]
            exact iteF ho
          · rw [if_neg hst] at ho
            rw [decide_eq_false fun z => hst (str_eq z)]
            exact iteT ⟨_, rfl, .inl ⟨rfl, _, SqL.of hf⟩, _, rfl, l, _, _, rfl, rfl, hf, sz_line (by omega), ho⟩
    | _ => cases ht
  · -- no text
    have ht : u.isText = false := by
      cases e : u.isText with
      | false => rfl
      | true => exact absurd (decide_eq_true (by rw [htx.mpr e])) c
    refine ⟨_, rfl, p, _, 0, .str z, rfl, rfl, .inl (.inl hp1), atI_nat (j := 0) rfl, by show 2 ≤ sizeLine; decide, fun ml' hml => ⟨ml', _, rfl, .inl (SqL.of upd_same), rfl, rfl, _, rfl, ?_⟩⟩
    have s2 : Same H1 (upd H1 ml' (.lst [.str "select", .str "plural"])) := same_new hml _
    generalize upd H1 ml' (.lst [.str "select", .str "plural"]) = H2 at s2
    show (if (inV (V.str z) [.str "select", .str "plural"]) = true then _ else _)
    rw [in_two]
    have sH2 := sH.trans s2
    have hf2 := s2 _ _ hf
    have hF2 := hF.same (ws_same (L := [l]) (H0 := H0) (H := H) s2)
    cases hc : u.isCho with
    | false =>
      rw [decide_eq_false fun e => by rw [hch.mp e] at hc; cases hc]
      refine iteF ⟨_, rfl, .inl ⟨rfl, _, SqL.of hf2⟩, _, rfl, l, _, _, rfl, rfl, hf2, sz_line (by omega), ?_⟩
      refine LqI.snoc (u' := u) hl sH2 hf2 hF2 hfl hu ?_ (hun.same (ws_base s0 (by simpa using hl)))
      cases u with
      | shw n r => cases (show r = .nil from hsg); exact pl_shw _ _
      | num r => cases (show r = .nil from hsg); exact pl_num _
      | text _ _ => cases ht
      | nil => cases hsg
      | cho _ _ _ _ => cases hc
      | cas _ _ _ => cases uw.1
    | true =>
      rw [decide_eq_true (hch.mpr hc)]
      refine iteT ?_
      cases u with
      | cho hd' cs oo rr =>
        cases (show rr = .nil from hsg)
        obtain ⟨p', ws, ca, cvs, oa, ovs, e, hp', hca, hcs, hoa, hos, _⟩ := hun
        cases e
        obtain ⟨k1, k2⟩ := keys_at hcs uw.2.2.1
        obtain ⟨ams, am1, am2, am3⟩ := Nodes.msgs hcs uw.2.2.1
        have hml := (msgs_len uw.2.2.1).1
        have hcz : cs.keys.length ≤ 90000 := by
          have e1 := (msgs_len uw.2.2.1).2
          have e2 := len_sz cs
          simp only [T.sz] at uz
          omega
        simp only [T.dep] at ud
        obtain ⟨e, rfl⟩ : ∃ e, n = e + 1 := ⟨n - 1, by omega⟩
        refine ⟨_, rfl, 2, rfl, p, _, -2, .ref ca, rfl, rfl, .inl (.inl (sH2 _ _ (s0 _ _ hp'))), atI_m2 _ _ _, ca, rfl, ⟨_, SqL.of (sH2 _ _ (s0 _ _ hca))⟩, fun D hD => ?_⟩
        have hD0 : H D = none := sH2.free hD
        have nlD : l ≠ D := ne_of_none hf2 hD
        have s3 : Same H2 (upd H2 D (.lst [])) := same_new hD _
        have hL0 : ∀ x ∈ [l, D], H x = none := by
          intro x hx
          simp only [List.mem_cons, List.not_mem_nil, or_false] at hx
          rcases hx with rfl | rfl
          · exact hl
          · exact hD0
        generalize hMs : cs.msgs.map (pl ("" : Str)) = Ms
        have hMl : Ms.length = cs.keys.length := by rw [← hMs, List.length_map, hml]
        refine lc_list (K := K) (a := ca) (xs := cvs) (fun r H' => Same H2 H' ∧ ∃ tvs, H' D = some (.lst tvs) ∧ tvs.length = r ∧ Nodes (Ws [l, D] H0 H H') (mkc (cs.keys.take r) (Ms.take r)) tvs)
          ⟨s3, [], upd_same, rfl, rfl⟩ (fun r H' _ ⟨s', _⟩ => SqL.of (s' _ _ (sH2 _ _ (s0 _ _ hca)))) ?_ ?_
        · rintro r x H3 hx3 ⟨s3', tvs, hD3, htl, htn⟩
          obtain ⟨pj, kj, x1, rfl, hkj, hpj⟩ := k2 r x hx3
          obtain ⟨pj', kj', aj, f1, f2, f3⟩ := am3 r _ hx3
          cases f1
          rw [hpj] at f2
          cases f2
          obtain ⟨mr, aj', g1, g2, g3⟩ := am1.get f3
          cases g2
          have mm : mr ∈ (T.cho hd' cs oo .nil).inner := List.mem_append_left _ (List.mem_of_getElem? g1)
          have sH3 := sH2.trans s3'
          have hrl := (List.getElem?_eq_some_iff.mp hkj).1
          have mz := inner_sz mr mm
          have md := dep_msgs mr (List.mem_of_getElem? g1)
          refine ⟨pj, _, rfl, .inl (.inl (sH3 _ _ (s0 _ _ hpj))), rfl, kj, _, rfl, .ref aj, [], rfl, rfl, rfl, ?_⟩
          refine ⟨_, rfl, _, rfl, e, rfl, aj, mr, H0, rfl, s0.trans sH3, g3, wf_inner uw mr mm, by omega, by omega, fun l' H4 hl' s4 hat => ⟨by show 2 ≤ sizeLine; decide, fun tp htp => ?_⟩⟩
          have hD4 := s4 _ _ hD3
          have hl4 := s4 _ _ (s3' _ _ hf2)
          have ntD : D ≠ tp := ne_of_none hD4 htp
          have ntl : l ≠ tp := ne_of_none hl4 htp
          have s5 : Same H4 (upd H4 tp (.tup [kj, .ref l'])) := same_new htp _
          refine ⟨_, s5 _ _ hD4, sz_line (by omega), same_mut ((s3'.trans s4).trans s5) hD _, tvs ++ [.ref tp], upd_same, by rw [List.length_append, htl]; rfl, ?_⟩
          rw [ws_mut (by simp)]
          have hmk : mkc (cs.keys.take (r + 1)) (Ms.take (r + 1)) = (mkc (cs.keys.take r) (Ms.take r)).app (.cas kj (pl ("" : Str) mr) .nil) := by
            have hv : Ms[r]? = some (pl ("" : Str) mr) := by rw [← hMs, List.getElem?_map, g1]; rfl
            rw [List.take_succ, List.take_succ, hkj, hv]
            exact mkc_snoc (by rw [List.length_take, List.length_take, hMl])
          rw [hmk]
          obtain ⟨avs, b1, b2⟩ := (hat.same (ws_call (L := [l, D]) s0 sH3 (by
            intro x hx
            refine ⟨hL0 x hx, ?_⟩
            simp only [List.mem_cons, List.not_mem_nil, or_false] at hx
            rcases hx with rfl | rfl
            · exact ⟨_, s3' _ _ hf2⟩
            · exact ⟨_, hD3⟩))).same (ws_same s5)
          refine Nodes.app (u := .cas kj (pl ("" : Str) mr) .nil) ⟨tp, [], l', avs, rfl, ?_, b1, b2, rfl⟩ (htn.same (ws_same (s4.trans s5)))
          rw [ws_new (by simp only [List.mem_cons, List.not_mem_nil, or_false]; rintro (z | z); exact ntl z.symm; exact ntD z.symm) ((sH3.trans s4).free htp)]
          exact upd_same
        · rintro H3 ⟨s3', tvs, hD3, htl, htn⟩
          rw [k1, List.take_length, ← hMl, List.take_length, ← hMs, mkc_pl uw.2.2.1] at htn
          have sH3 := sH2.trans s3'
          have hf3 := s3' _ _ hf2
          have hp3 := sH3 _ _ (s0 _ _ hp')
          have mo : oo ∈ (T.cho hd' cs oo .nil).inner := List.mem_append_right _ (by simp)
          have oz := inner_sz oo mo
          refine ⟨_, rfl, .inl ⟨rfl, _, SqL.of hf3⟩, _, rfl, 2, rfl, _, rfl, p, _, rfl, .inl (.inl hp3), cut_ne _ _ _, fun p2 hp2 => ?_⟩
          rw [cut_hd]
          have t2 : Same H3 (upd H3 p2 (.tup hd')) := same_new hp2 _
          have sH4 := sH3.trans t2
          refine ⟨_, rfl, _, rfl, 1, rfl, p, _, -1, .ref oa, rfl, rfl, .inl (.inl (t2 _ _ hp3)), atI_m1 _ _ _, e, rfl, oa, oo, H0, rfl, s0.trans sH4, ⟨ovs, hoa, hos⟩, wf_inner uw oo mo, by omega, by omega, fun l' H5 hl' s5 hat => ⟨by show 2 ≤ sizeLine; decide, fun p3 hp3' => ?_⟩⟩
          have t3 : Same H5 (upd H5 p3 (.tup [.ref D, .ref l'])) := same_new hp3' _
          obtain ⟨hhne, hhl⟩ := hdW_ne uw.2.1
          refine ⟨p2, p3, hd', _, rfl, rfl, .inl (.inl (t3 _ _ (s5 _ _ upd_same))), .inl (.inl upd_same), hhne, le_line (by show hd'.length + 2 < 10000000; omega), (fun z => nomatch z), fun _ p4 hp4 => ?_⟩
          have t4 : Same (upd H5 p3 (.tup [.ref D, .ref l'])) (upd (upd H5 p3 (.tup [.ref D, .ref l'])) p4 (.tup (hd' ++ [.ref D, .ref l']))) := same_new hp4 _
          have s35 : Same H3 (upd (upd H5 p3 (.tup [.ref D, .ref l'])) p4 (.tup (hd' ++ [.ref D, .ref l']))) := ((t2.trans s5).trans t3).trans t4
          have hf6 := s35 _ _ hf3
          have np4 : l ≠ p4 := ne_of_none (t3 _ _ (s5 _ _ (t2 _ _ hf3))) hp4
          refine ⟨l, _, _, rfl, rfl, hf6, sz_line (by omega), ?_⟩
          refine LqI.snoc (u' := .cho hd' (pl ("" : Str) cs) (pl ("" : Str) oo) .nil) hl (sH3.trans s35) hf6 (hF2.same (ws_same (s3'.trans s35))) hfl hu (pl_cho _ _ _ _) ?_
          have wsub : Same (Ws [l, D] H0 H H3) (Ws [l] H0 H H3) := ws_sub (by intro x hx; rw [List.mem_singleton.mp hx]; simp)
          have w36 := ws_same (L := [l]) (H0 := H0) (H := H) s35
          obtain ⟨avs, b1, b2⟩ := (hat.same (ws_call (L := [l]) s0 sH4 (by
            intro x hx
            rw [List.mem_singleton.mp hx]
            exact ⟨hl, _, t2 _ _ hf3⟩))).same (ws_same (t3.trans t4))
          refine ⟨p4, [], D, tvs, l', avs, rfl, ?_, ?_, (htn.same wsub).same w36, b1, b2, rfl⟩
          · rw [ws_new (by simpa using np4.symm) ((((sH3.trans t2).trans s5).trans t3).free hp4)]
            exact upd_same
          · rw [ws_new (by simpa using nlD.symm) hD0]
            exact s35 _ _ hD3
      | _ => cases hc
theorem all_lpl {f : Addr} {fd : FuncData} (F : Fun K "_law_plain" "_law_plain" sLpl f fd) (b : Binds K fd ["message"] []) (m : mg "_law_plain" = some (.ref f)) (ml : mg "len" = none) :
    ∀ n, FnOk P w K mg base CX0 (n + 1) f fd ["message"] (spLpl n)
  | 0 => ok_lpl F (none_left fun vs H Q E ⟨_, e, _⟩ => by omega) b F.kp m ml
  | n + 1 => ok_lpl F ((all_lpl F b m ml n).imp fun vs H Q E ⟨e, he, h⟩ => by
      obtain rfl : e = n := by omega
      exact h) b F.kp m ml
end
end Mw

set_option linter.all false
/-! several except clauses that name what they caught -/
namespace Ta
open PySem PySem.Spec PyProof.Rows L2
abbrev Cl := Value × Nat × (Addr → Value → Option Addr → TS)
/-- where the clause's suite leads, slot i being empty again -/
def drp (i : Nat) (D : Ends) : Ends := { nx := fun σ H => D.nx (σ.set i none) H, rt := D.rt, bk := fun σ H => D.bk (σ.set i none) H, ct := fun σ H => D.ct (σ.set i none) H }
def wAll (K : PySem.W.Frag) (Wout : WX) (D : Ends) : List Cl → WX
  | [] => Wout
  | q :: r => fun cls d σ H => ∃ b, PySem.W.exmOne K cls q.1 = some b ∧ (b = true → ∀ a, H a = none → q.2.2 a cls d (drp q.2.1 D) (σ.set q.2.1 (some (.ref a))) H) ∧ (b = false → wAll K Wout D r cls d σ H)
inductive ClsOk (X : Cx) : List ExceptHandler → List Cl → Prop
  | nil : ClsOk X [] []
  | cons {x n : Str} {c : Value} {i : Nat} {ts : Addr → Value → Option Addr → TS} {b₀ : Stmt} {suite : List Stmt} {np pos' : Pos} {hds : List ExceptHandler} {l : List Cl} (hc : Names X x c) (hi : X.N[i]? = some n) (hln : X.env.kindOf n = some .local)
      (hsu : ∀ (a : Addr) (oe : Obj) (cls : Value) (d : Option Addr) (pn : List (Addr × Obj)), Zc cls d oe → (∃ vs, oe.data = .fields vs) → PSs (X.suite a ((a, oe) :: pn)) (b₀ :: suite) (ts a cls d)) (r : ClsOk X hds l) :
      ClsOk X (.ExceptHandler (some (.Name x np)) (some n) (b₀ :: suite) pos' :: hds) ((c, i, ts) :: l)
section
variable {X : Cx} {body : List Stmt} {h₀ : ExceptHandler} {hds : List ExceptHandler} {l : List Cl} {pos : Pos} {tb : WX → TS} {Wout : WX}
theorem ps_tries (hs : X.stack = X.env :: X.outer) (hf : X.env.frame = some X.env.locals) (hN : X.N.Nodup) (tk : Takes X Wout)
    (hb : ∀ (W : WX) (pn : List (Addr × Obj)) (xe : Value → Shared → Prop), Takes (X.tr pn xe) W → PassesOwn (model X.prog X.w) X.A X.env xe → PSs (X.tr pn xe) body (tb W))
    (hh : ClsOk X (h₀ :: hds) l) : PS X (.Try body (h₀ :: hds) [] [] pos) (fun D σ H => tb (wAll X.K Wout D l) D σ H) := by
  refine ⟨fun pins s σ H D I h => ?_⟩
  have ok := I.ok
  have hfr : X.A.frames = some (X.env :: X.outer) := by rw [ok.frames, hs]
  refine wpAny_Try_except (wpAny_mono ((hb (wAll X.K Wout D l) (X.pn ++ pins) _ (fun u s' xx => ?_) PassesOwn.looking).run [] s σ H D (I.toTry _) h) (fun f s1 hsp => ?_) (fun e s1 he => he))
  · obtain ⟨a, B, sI, pins', σ', H', cls, d, rfl, J', nb, up, sky, na, os, ag, w⟩ := xx
    have J : Inv X pins σ' H' sI := J'.ofTry ok
    rw [hs] at sky
    show wpAny (model X.prog X.w) X.A (noteFrame (.ref a) X.env) _ _ _
    refine Sky.land Zc.steady hfr hf sky fun h3 fl3 up3 => ?_
    have J3 : Inv X pins σ' H' { s' with heap := h3 } := J.landed nb fl3.1 (up.trans up3) os ag
    obtain ⟨oe3, vs3, he3, hz3, hd3⟩ := fl3.there
    have nfr : a ∉ frs (X.env :: X.outer) := fun hm => by
      obtain ⟨_, o', e', hnf⟩ := fl3.2.2.1.mem hm
      rw [he3] at e'
      cases e'
      exact hnf _ hd3
    have nL : a ≠ X.env.locals := fun z => nfr (List.mem_filterMap.mpr ⟨X.env, List.mem_cons_self, by rw [hf, z]⟩)
    have nF : a ∉ X.fs := fun hm => by
      obtain ⟨e, he, q⟩ := List.mem_filterMap.mp hm
      exact nfr (List.mem_filterMap.mpr ⟨e, List.mem_cons_of_mem _ he, q⟩)
    have S3 := J3.suite he3 hd3 na nL nF
    have go : ∀ {hs' : List ExceptHandler} {l' : List Cl}, ClsOk X hs' l' → wAll X.K Wout D l' cls d σ' H' → wpAny (model X.prog X.w) X.A (handleBy (.ref a) X.env hs') (SP X pins D) X.xe { s' with heap := h3 } := by
      intro hs' l' hk
      induction hk with
      | nil =>
        intro w
        refine wpAny_handleBy_nil ?_
        obtain ⟨k1, k2, k3, oe, vs, T, oT, ts', he, hz, hd, h1, hr⟩ := id fl3
        unfold PySem.passOn
        refine wpAny_bind (wpAny_field he hd h1 ?_)
        rw [if_neg (show ¬ ((Value.ref T == Value.none) = true) from by simp)]
        have fin : wpAny (model X.prog X.w) X.A (setFlight (.ref a) X.env.frame) (fun _ s4 => wpAny (model X.prog X.w) X.A (throw (.ref a) : Sem Flow) (SP X pins D) X.xe s4) X.xe { s' with heap := h3 } := by
          rw [hf]
          refine HandSPX.setFlight_upZ fl3 fun h4 hh4 up4 => wpAny_throw (tk _ _ ?_)
          exact ⟨a, B, sI, pins, σ', H', cls, d, rfl, J, nb, (up.trans up3).trans up4, .inr (.inr (by rw [hs]; exact hh4)), na, os, ag, w⟩
        first
          | exact wpAny_bind (wpAny_pure (wpAny_bind fin))
          | exact wpAny_bind fin
      | @cons x n c i ts b₀ suite np pos' hds2 l2 hc hi hln hsu r ih =>
        intro w
        obtain ⟨b, hb1, hyes, hno⟩ := w
        refine wpAny_handleBy_cons (codeAny_handlers_test ?_) (by intro q; cases q)
        have LM := PySem.W.exm_one (M := model X.prog X.w) (J3.kIn) (fun A Q E s k q => wpAny_typeOf_ref (k _ _ he3) (by rw [hz3.1]; exact q) : PySem.W.Looks (model X.prog X.w) h3 (typeOf (.ref a)) cls) hb1
        have test : ∀ {Q : Value → Shared → Prop} {E : Value → Shared → Prop}, Q c { s' with heap := h3 } → wpAny (model X.prog X.w) (X.A.mark (some (.ref a))) (eval (.Name x np) X.env) Q E { s' with heap := h3 } := fun {Q E} q => by
          obtain ⟨hg, hdbg, hm | ⟨hm, hv, hnn⟩⟩ := hc
          · exact ld_glob (X := X.suite a ((a, oe3) :: (X.pn ++ pins))) S3 hg hm q hdbg
          · exact ld_blt (X := X.suite a ((a, oe3) :: (X.pn ++ pins))) S3 hg hm hv q hnn hdbg
        refine test (LM.here ?_)
        cases b with
        | false =>
          show wpAny _ X.A (handleBy (.ref a) X.env hds2) _ _ _
          exact ih (hno rfl)
        | true =>
          refine codeAny_handlers_suite_as (HandSPX.lands_againZ fl3 fun h4 fl4 up4 => ?_)
          have J4 : Inv X pins σ' H' { s' with heap := h4 } := J.landed nb fl4.1 ((up.trans up3).trans up4) os ag
          obtain ⟨oe4, vs4, he4, hz4, hd4⟩ := fl4.there
          have S4 := J4.suite he4 hd4 na nL nF
          refine store_ok (X := X.suite a ((a, oe4) :: (X.pn ++ pins))) (v := .ref a) S4 hN hi (.inl hln) rfl (fun s5 S5 => ?_) (.inr hln)
          refine wpAny_mono ((hsu a oe4 cls d (X.pn ++ pins) hz4 ⟨_, hd4⟩).run [] s5 _ H' _ S5 (hyes rfl a na)) (fun f s6 hsp => ?_) (fun _ _ z => False.elim z)
          cases f with
          | next =>
            obtain ⟨σ6, H6, S6, q6⟩ := hsp
            exact gone_ok (S6.unsuite ok) hN hi hln fun s7 J7 => ⟨_, _, J7, q6⟩
          | brk =>
            obtain ⟨σ6, H6, S6, q6⟩ := hsp
            exact gone_ok (S6.unsuite ok) hN hi hln fun s7 J7 => ⟨_, _, J7, q6⟩
          | cont =>
            obtain ⟨σ6, H6, S6, q6⟩ := hsp
            exact gone_ok (S6.unsuite ok) hN hi hln fun s7 J7 => ⟨_, _, J7, q6⟩
          | ret u =>
            obtain ⟨v6, σ6, H6, S6, r6, q6⟩ := hsp
            exact gone_ok (S6.unsuite ok) hN hi hln fun s7 J7 => ⟨_, _, _, J7, r6, q6⟩
    exact go hh w
  · cases f with
    | next =>
      obtain ⟨σ', H', J', q⟩ := hsp
      exact wpAny_execs_nil ⟨σ', H', J'.ofTry ok, q⟩
    | brk =>
      obtain ⟨σ', H', J', q⟩ := hsp
      exact ⟨σ', H', J'.ofTry ok, q⟩
    | cont =>
      obtain ⟨σ', H', J', q⟩ := hsp
      exact ⟨σ', H', J'.ofTry ok, q⟩
    | ret u =>
      obtain ⟨v, σ', H', J', r, q⟩ := hsp
      exact ⟨v, σ', H', J'.ofTry ok, r, q⟩
end
end Ta

namespace Mw
open PySem L2 NdefX Sx
/-! ### NoSuchKey -/
abbrev sNk : Stmt := inClass (top 3) 0
abbrev nNk (cc cda : Addr) : NF := ⟨"__init__", "NoSuchKey.__init__", defArgs sNk, defBody sNk, defScope sNk, [("__class__", cc)], cda⟩
theorem scNk : NScope ["self", "key", "__class__"] ["self", "key"] ["__class__"] (defScope sNk) := nscope_by (by decide +kernel)
def spNk (C : Addr) : Sp := fun vs H Q _ => ∃ (x : Addr) (n : Str), vs = [.ref x, .str n] ∧ n.length ≤ 100 ∧ H x = some (exo x C none) ∧ ∀ dx, H dx = none → dx ≠ x → Q .non (upd (upd H dx (exd dx [("key", .str n)])) x (exo x C (some dx)))
section
variable {P : Program} {w : World} {K : PySem.W.Frag} {mg : Str → Option Value} {base : Heap}
theorem ok_nk {CX : CXT} {C cc cda f : Addr} {dV kV doc pm ct oc : Value} {an od : Option Addr} {osl : Array (Option Value)} (U : Sup P K mg C cc cda f (nNk cc cda) ["self", "key"]) (no : PySem.W.findIn K (.ref C) "key" = some none)
    (lk : K.lookup f = some ⟨oc, od, .func (PySem.W.fnX "__init__" "NoSuchKey.__init__" (defArgs sNk) (defBody sNk) (defScope sNk) [("__class__", cc)] dV kV doc pm an (.ref cda) ct), osl⟩) :
    FnOk P w K mg base CX 1 f (PySem.W.fnX "__init__" "NoSuchKey.__init__" (defArgs sNk) (defBody sNk) (defScope sNk) [("__class__", cc)] dV kV doc pm an (.ref cda) ct) ["self", "key"] (spNk C) := by
  refine fn_super (k := 0) (F := nNk cc cda) U lk scNk rfl (fun vs H Q E h => ?_) (fun _ => rfl) (fun _ => rfl) (fun _ => rfl) (fun env h => by unfold interactive; rw [h]; rfl) (fun _ => rfl) (fun A outer s H vs Q E hr h => ?_)
  · obtain ⟨x, n, rfl, _⟩ := h
    rfl
  obtain ⟨x, n, rfl, hn, hx, q⟩ := h
  refine ⟨x, _, _, rfl, hx, pa_cons (pe_joined (.cons pe_str (.cons (pe_fmt (pv 1)) .nil))) pa_nil, pss_one (ps_ost (pv 0) (pv 1)), ?_⟩
  have e1 : (Str.empty ++ ("no message has the key " : Str)).length ≤ 40 := by decide +kernel
  refine ⟨_, rfl, Nat.le_trans e1 (by decide), _, rfl, .inl ⟨n, rfl, Nat.le_trans hn (by decide), n, rfl, ?_, by show 1 ≤ 1000; decide, hx, ?_⟩⟩
  · rw [str_len]
    exact Nat.le_trans (Nat.add_le_add e1 hn) (by decide)
  · exact ⟨_, rfl, _, rfl, x, C, rfl, U.T, no, .inl ⟨hx, q⟩⟩
/-- what the row says of NoSuchKey -/
structure EK (P : Program) (w : World) (K : PySem.W.Frag) (mg : Str → Option Value) (base : Heap) (C : Addr) : Prop where
  U : OexC K C
  m : mg "NoSuchKey" = some (.ref C)
  F : ∃ fB fd, PySem.W.findIn K (.ref C) "__init__" = some (some (.ref fB)) ∧ PySem.W.typeIn K (.ref fB) = some (.type "function") ∧ FnOk P w K mg base (L2.CX P w) 1 fB fd ["self", "key"] (spNk C) ∧ Binds K fd ["self", "key"] []
end
end Mw

namespace Mw
open PySem L2
def mth (s : Stmt) (i : Nat) : Stmt := match s with
  | .ClassDef _ _ _ b _ _ _ _ _ _ _ => b.getD i (.Pass ⟨0, 0, 0, 0⟩)
  | s => s
/-! ### what may change -/
def Mb (L : List Addr) (H H' : Hp) : Prop := ∀ b o, b ∉ L → H b = some o → H' b = some o
theorem Mb.of {L : List Addr} {H H' : Hp} (s : Same H H') : Mb L H H' := fun b o _ h => s b o h
theorem Mb.trans {L : List Addr} {H H1 H2 : Hp} (a : Mb L H H1) (b : Mb L H1 H2) : Mb L H H2 := fun c o n h => b c o n (a c o n h)
theorem Mb.upd {L : List Addr} {H : Hp} {l : Addr} (hl : l ∈ L) (o : HO) : Mb L H (upd H l o) := fun b u n h => by
  rw [upd_ne (show b ≠ l from fun e => n (e ▸ hl))]
  exact h
theorem Mb.sub {L L' : List Addr} {H H' : Hp} (m : Mb L H H') (h : ∀ l ∈ L, l ∈ L') : Mb L' H H' := fun b o n e => m b o (fun z => n (h b z)) e
theorem nlf_mb {L : List Addr} {H H1 H' : Hp} (m : Mb L H1 H') (h0 : ∀ l ∈ L, ∃ o, H l = some o) (ht : ∀ l ∈ L, ∀ xs, H1 l ≠ some (.tup xs)) : Same (nlf H H1) (nlf H H') := fun a o h => by
  obtain ⟨h1, h2⟩ := nlf_in h
  rcases h2 with ⟨xs, rfl⟩ | ⟨⟨xs, rfl⟩, h2⟩
  · exact nlf_tup (m a _ (fun z => ht a z xs h1) h1)
  · refine nlf_lst (m a _ (fun z => ?_) h1) h2
    obtain ⟨o, e⟩ := h0 a z
    rw [h2] at e
    cases e
/-! ### the book -/
abbrev bF (kd bl : Addr) : List (Str × V) := [("kept", .ref kd), ("before", .ref bl)]
structure BC (K : PySem.W.Frag) (C : Addr) : Prop where
  c : Cls K C
  nk : NoAttr K C "kept"
  nb : NoAttr K C "before"
structure Bk (C : Addr) (H : Hp) (r dx kd bl : Addr) (kvs : List (Key × V)) (bvs : List V) : Prop where
  h : H r = some (.ins C dx (bF kd bl))
  k : H kd = some (.dK kvs)
  b : H bl = some (.lst bvs)
  z : kvs.length ≤ 100
  zb : bvs.length ≤ 100
theorem Bk.same {C : Addr} {H H' : Hp} {r dx kd bl : Addr} {kvs : List (Key × V)} {bvs : List V} (b : Bk C H r dx kd bl kvs bvs) (s : Same H H') : Bk C H' r dx kd bl kvs bvs := ⟨s _ _ b.h, s _ _ b.k, s _ _ b.b, b.z, b.zb⟩
theorem Bk.ne {C : Addr} {H : Hp} {r dx kd bl : Addr} {kvs : List (Key × V)} {bvs : List V} (b : Bk C H r dx kd bl kvs bvs) : r ≠ kd ∧ r ≠ bl ∧ kd ≠ bl := by
  refine ⟨?_, ?_, ?_⟩
  · rintro rfl
    have := b.h.symm.trans b.k
    cases this
  · rintro rfl
    have := b.h.symm.trans b.b
    cases this
  · rintro rfl
    have := b.k.symm.trans b.b
    cases this
def nwK (kvs : List (Key × V)) (k : Str) (m : V) : List (Key × V) := if m = .non then dropK kvs (.inr k) else putK kvs (.inr k) m
def okM (kvs : List (Key × V)) (k : Str) (m : V) : Prop := (m = .non ∧ (valV kvs (.inr k)).isSome = true) ∨ ∃ a, m = .ref a
theorem nwK_len (kvs : List (Key × V)) (k : Str) (m : V) : (nwK kvs k m).length ≤ kvs.length + 1 := by
  unfold nwK
  split
  · have := dropK_le kvs (Sum.inr k : Key)
    omega
  · exact length_putK _ _ _
section
variable {P : Program} {w : World} {K : PySem.W.Frag} {mg : Str → Option Value} {base : Heap} {C : Addr}
/-! ### Book.__init__ -/
abbrev sBi : Stmt := mth (top 19) 0
theorem scBi : FnScope ["self"] ["self"] (defScope sBi) := ⟨rfl, rfl, rfl, by decide +kernel, rfl, by decide +kernel, by decide +kernel⟩
def spBi (C : Addr) : Sp := fun vs H Q _ => ∃ (r dx : Addr), vs = [.ref r] ∧ H r = some (.ins C dx []) ∧
  ∀ (H' : Hp) (kd bl : Addr), (∀ a u, H a = some u → a ≠ r → H' a = some u) → H kd = none → H bl = none → Bk C H' r dx kd bl [] [] → Q .non H'
theorem ok_bi {f : Addr} {fd : FuncData} (F : Fun K "__init__" "Book.__init__" sBi f fd) (R : BC K C) : FnOk P w K mg base CX0 1 f fd ["self"] (spBi C) := by
  refine F.ok scBi (fun vs H Q E h => ?_) (fun cdv A outer s H vs Q E hr h => ?_)
  · obtain ⟨r, dx, rfl, _⟩ := h
    rfl
  obtain ⟨r, dx, rfl, hR, q⟩ := h
  refine ⟨_, pss_cons (ps_fld (pv 0) pe_dnewK rfl) (pss_one (ps_fld (pv 0) (pe_lst pa_nil) rfl)), ?_⟩
  refine fun kd hkd => ?_
  have hrk : r ≠ kd := ne_of_none hR hkd
  refine ⟨_, rfl, r, C, dx, _, rfl, by rw [upd_ne hrk]; exact hR, R.c, R.nk, by show 0 < 1000; decide, Nat.zero_le _, fun bl hbl => ?_⟩
  have hb1 := upd_none hbl
  have hb0 : H bl = none := upd_none hb1
  have hrb : r ≠ bl := ne_of_none hR hb0
  have hkb : kd ≠ bl := fun e => by rw [← e, upd_same] at hb1; cases hb1
  refine ⟨_, rfl, r, C, dx, _, rfl, by rw [upd_ne hrb]; exact upd_same, R.c, R.nb, by show 1 < 1000; decide, ?_⟩
  refine q _ kd bl (fun a u h hne => ?_) hkd hb0 ⟨upd_same, ?_, ?_, Nat.zero_le _, Nat.zero_le _⟩
  · rw [upd_ne hne, upd_ne (ne_of_none h hb0), upd_ne hne, upd_ne (ne_of_none h hkd)]
    exact h
  · rw [upd_ne hrk.symm, upd_ne hkb, upd_ne hrk.symm]
    exact upd_same
  · rw [upd_ne hrb.symm]
    exact upd_same
/-! ### messages -/
abbrev sBm : Stmt := mth (top 19) 1
theorem scBm : FnScope ["self"] ["self"] (defScope sBm) := ⟨rfl, rfl, rfl, by decide +kernel, rfl, by decide +kernel, by decide +kernel⟩
def spBm (C : Addr) : Sp := fun vs H Q _ => ∃ (r dx kd bl : Addr) (kvs : List (Key × V)) (bvs : List V), vs = [.ref r] ∧ Bk C H r dx kd bl kvs bvs ∧ ∀ p, H p = none → Q (.ref p) (upd H p (.dK kvs))
theorem ok_bm {f : Addr} {fd : FuncData} (F : Fun K "messages" "Book.messages" sBm f fd) (R : BC K C) (md : mg "dict" = none) : FnOk P w K mg base CX0 1 f fd ["self"] (spBm C) := by
  refine F.ok scBm (fun vs H Q E h => ?_) (fun cdv A outer s H vs Q E hr h => ?_)
  · obtain ⟨r, dx, kd, bl, kvs, bvs, rfl, _⟩ := h
    rfl
  obtain ⟨r, dx, kd, bl, kvs, bvs, rfl, hb, q⟩ := h
  refine ⟨_, pss_one (ps_ret (pe_callTy call_dictD (by rfl) md (by decide +kernel) (pa_cons (pe_fld (pv 0) rfl) pa_nil))), ?_⟩
  exact ⟨_, rfl, r, C, dx, _, .ref kd, rfl, hb.h, R.c, R.nk, rfl, kd, kvs, rfl, .inl hb.k, q⟩
/-! ### set_back -/
abbrev sBs : Stmt := mth (top 19) 3
theorem scBs : FnScope ["self", "key", "message"] ["self", "key", "message"] (defScope sBs) := ⟨rfl, rfl, rfl, by decide +kernel, rfl, by decide +kernel, by decide +kernel⟩
def spBs (C : Addr) : Sp := fun vs H Q _ => ∃ (r dx kd bl : Addr) (kvs : List (Key × V)) (bvs : List V) (k : Str) (m : V), vs = [.ref r, .str k, m] ∧ Bk C H r dx kd bl kvs bvs ∧ okM kvs k m ∧ Q .non (upd H kd (.dK (nwK kvs k m)))
theorem ok_bs {f : Addr} {fd : FuncData} (F : Fun K "set_back" "Book.set_back" sBs f fd) (R : BC K C) : FnOk P w K mg base CX0 1 f fd ["self", "key", "message"] (spBs C) := by
  refine F.ok scBs (fun vs H Q E h => ?_) (fun cdv A outer s H vs Q E hr h => ?_)
  · obtain ⟨r, dx, kd, bl, kvs, bvs, k, m, rfl, _⟩ := h
    rfl
  obtain ⟨r, dx, kd, bl, kvs, bvs, k, m, rfl, hb, hm, q⟩ := h
  have hu : (A.deeper (PyProof.Rows.envOfC "Book.set_back" (defScope sBs) s.heap.objs.size f cdv)).units + 1 < cLine := by
    have := hr.un
    omega
  refine ⟨_, pss_one (ps_if (pt_cmpR op_isN (pv 2) pe_non (nomark _)) (pss_one (ps_ddel (pe_fld (pv 0) rfl) (pv 1))) (pss_one (ps_dput hu (pe_fld (pv 0) rfl) (pv 1) (pv 2) rfl))), ?_⟩
  refine ⟨_, rfl, rfl, _, rfl, ?_⟩
  rcases hm with ⟨rfl, his⟩ | ⟨a, rfl⟩
  · rw [decide_eq_true rfl]
    exact iteT ⟨_, rfl, r, C, dx, _, .ref kd, rfl, hb.h, R.c, R.nk, rfl, _, rfl, kd, kvs, .inr k, rfl, hb.k, rfl, his, q⟩
  · rw [decide_eq_false (by intro z; cases z)]
    refine iteF ⟨_, rfl, _, rfl, r, C, dx, _, .ref kd, rfl, hb.h, R.c, R.nk, rfl, _, rfl, kd, _, rfl, DPut.k (k := .inr k) hb.k (sz_line (by have := hb.z; omega)), ?_⟩
    rw [show nwK kvs k (.ref a) = putK kvs (.inr k) (.ref a) from if_neg (by intro z; cases z)] at q
    exact q
end
end Mw

namespace Mw
open PySem L2
/-- what was told of the key before -/
abbrev was (kvs : List (Key × V)) (k : Str) : V := (valV kvs (.inr k)).getD .non
/-- NoSuchKey(key) may leave -/
def KErr (CK : Addr) (HB : Hp) (E : XK) (k : Str) : Prop := ∀ dx H', HB dx = none → Same HB H' → H' dx = some (.xd [("key", .str k)]) → E (.ref CK) (some dx) H'
section
variable {P : Program} {w : World} {K : PySem.W.Frag} {mg : Str → Option Value} {base : Heap} {C CK CP : Addr}
/-! ### keep -/
abbrev sBe : Stmt := mth (top 19) 2
theorem scBe : FnScope ["self", "key", "message"] ["self", "key", "message"] (defScope sBe) := ⟨rfl, rfl, rfl, by decide +kernel, rfl, by decide +kernel, by decide +kernel⟩
def spBe (C : Addr) : Sp := fun vs H Q _ => ∃ (r dx kd bl : Addr) (kvs : List (Key × V)) (bvs : List V) (k : Str) (m : V), vs = [.ref r, .str k, m] ∧ Bk C H r dx kd bl kvs bvs ∧ kvs.length < 100 ∧ bvs.length < 100 ∧ okM kvs k m ∧
  ∀ H' q, Mb [kd, bl] H H' → H q = none → H' q = some (.tup [.str k, was kvs k]) → Bk C H' r dx kd bl (nwK kvs k m) (bvs ++ [.ref q]) → Q .non H'
theorem ok_be {f fS : Addr} {fd fdS : FuncData} (F : Fun K "keep" "Book.keep" sBe f fd) (R : BC K C)
    (GS : FnOk P w K mg base CX0 1 fS fdS ["self", "key", "message"] (spBs C)) (bS : Binds K fdS ["self", "key", "message"] []) (mS : Meth K C "set_back" fS) : FnOk P w K mg base CX0 2 f fd ["self", "key", "message"] (spBe C) := by
  refine F.ok scBe (fun vs H Q E h => ?_) (fun cdv A outer s H vs Q E hr h => ?_)
  · obtain ⟨r, dx, kd, bl, kvs, bvs, k, m, rfl, _⟩ := h
    rfl
  obtain ⟨r, dx, kd, bl, kvs, bvs, k, m, rfl, hb, hz, hzb, hm, q⟩ := h
  have hu : (A.deeper (PyProof.Rows.envOfC "Book.keep" (defScope sBe) s.heap.objs.size f cdv)).units + 1 < cLine := by
    have := hr.un
    omega
  refine ⟨_, pss_cons (ps_expr (pe_bm PySem.F.plainAttrs_list PySem.F.slot_list_append PySem.F.type_list_append mt_append (pe_fld (pv 0) rfl) (pa_cons (pe_tup (pa_cons (pv 1) (pa_cons (pe_dget1 hu (pe_fld (pv 0) rfl) (pv 1) ⟨rfl, rfl, rfl, rfl⟩) pa_nil))) pa_nil)))
    (pss_one (ps_expr (pe_meth (pv 0) R.c mS GS hr bS .nil pass0 (pa_cons (pv 1) (pa_cons (pv 2) pa_nil))))), ?_⟩
  obtain ⟨n1, n2, n3⟩ := hb.ne
  refine ⟨_, rfl, r, C, dx, _, .ref bl, rfl, hb.h, R.c, R.nb, rfl, .inl ⟨rfl, _, SqL.of hb.b⟩, _, rfl, _, rfl, r, C, dx, _, .ref kd, rfl, hb.h, R.c, R.nk, rfl, kd, rfl, .inl ⟨kvs, .inl hb.k⟩, _, rfl, _, DGet.k (k := .inr k) hb.k, by show 2 ≤ sizeLine; decide, fun q0 hq0 => ?_⟩
  have s1 : Same H (upd H q0 (.tup [.str k, was kvs k])) := same_new hq0 _
  have hb1 := hb.same s1
  have nqb : q0 ≠ bl := (ne_of_none hb.b hq0).symm
  have nqk : q0 ≠ kd := (ne_of_none hb.k hq0).symm
  refine ⟨bl, _, _, rfl, rfl, hb1.b, sz_line (by omega), ?_⟩
  generalize hH2 : upd (upd H q0 (.tup [.str k, was kvs k])) bl (.lst (bvs ++ [.ref q0])) = H2
  have hb2 : Bk C H2 r dx kd bl kvs (bvs ++ [.ref q0]) := by
    rw [← hH2]
    exact ⟨by rw [upd_ne n2]; exact hb1.h, by rw [upd_ne n3]; exact hb1.k, upd_same, hb.z, by rw [List.length_append]; show bvs.length + 1 ≤ 100; omega⟩
  have m2 : Mb [kd, bl] H H2 := by rw [← hH2]; exact (Mb.of s1).trans (Mb.upd (by simp) _)
  have hq2 : H2 q0 = some (.tup [.str k, was kvs k]) := by rw [← hH2, upd_ne nqb]; exact upd_same
  refine ⟨_, rfl, r, dx, _, rfl, hb2.h, rfl, _, rfl, _, rfl, r, dx, kd, bl, kvs, _, k, m, rfl, hb2, hm, ?_⟩
  refine q _ q0 (m2.trans (Mb.upd (by simp) _)) hq0 (by rw [upd_ne nqk]; exact hq2) ⟨by rw [upd_ne n1]; exact hb2.h, upd_same, by rw [upd_ne n3.symm]; exact hb2.b, ?_, hb2.zb⟩
  have := nwK_len kvs k m
  omega
/-! ### kept_at -/
abbrev sBa : Stmt := mth (top 19) 4
theorem scBa : FnScope ["self", "key"] ["self", "key"] (defScope sBa) := ⟨rfl, rfl, rfl, by decide +kernel, rfl, by decide +kernel, by decide +kernel⟩
def spBa (C CK : Addr) : Sp := fun vs H Q E => ∃ (r dx kd bl : Addr) (kvs : List (Key × V)) (bvs : List V) (k : Str), vs = [.ref r, .str k] ∧ k.length ≤ 100 ∧ Bk C H r dx kd bl kvs bvs ∧
  (∀ v, valV kvs (.inr k) = some v → Q v H) ∧ (valV kvs (.inr k) = none → KErr CK H E k)
theorem ok_ba {f : Addr} {fd : FuncData} (F : Fun K "kept_at" "Book.kept_at" sBa f fd) (R : BC K C) (EC : EK P w K mg base CK) : FnOk P w K mg base (L2.CX P w) 3 f fd ["self", "key"] (spBa C CK) := by
  obtain ⟨UC, mC, fC, fdC, iC, tC, GC, bC⟩ := EC
  refine F.okX scBa (fun vs H Q E h => ?_) (fun cdv A outer s H vs Q E hr h => ?_)
  · obtain ⟨r, dx, kd, bl, kvs, bvs, k, rfl, _⟩ := h
    rfl
  obtain ⟨r, dx, kd, bl, kvs, bvs, k, rfl, hk, hb, q1, q2⟩ := h
  have hu : (A.deeper (PyProof.Rows.envOfC "Book.kept_at" (defScope sBa) s.heap.objs.size f cdv)).units + 1 < cLine := by
    have := hr.un
    omega
  refine ⟨_, pss_cons (ps_if (pt_cmp (pc_dnotin hu (pv 1) (pe_fld (pv 0) rfl))) (pss_one (ps_raise rfl (takes_of rfl rfl rfl rfl) (pmk_oex (k := 1) UC iC tC GC hr bC .nil passL rfl mC (pa_cons (pv 1) pa_nil)))) pss_nil)
    (pss_one (ps_ret (pe_dget hu (pe_fld (pv 0) rfl) (pv 1) (fun _ _ => rfl)))), ?_⟩
  refine ⟨_, rfl, _, rfl, r, C, dx, _, .ref kd, rfl, hb.h, R.c, R.nk, rfl, kd, _, rfl, DGet.k (k := .inr k) hb.k, _, rfl, ?_⟩
  cases hv : valV kvs (.inr k) with
  | none =>
    refine iteT ⟨_, rfl, by show 1 ≤ 1000; decide, fun e he => ⟨e, k, rfl, hk, upd_same, fun dx' hdx hne => ⟨rfl, dx', _, upd_same, by rw [upd_ne hne]; exact upd_same, (upd_none hdx), ?_⟩⟩⟩
    have hdxH : H dx' = none := upd_none hdx
    refine q2 hv dx' _ hdxH (fun b o hbo => ?_) upd_same
    have b1 : b ≠ dx' := ne_of_none hbo hdxH
    have b2 : b ≠ e := ne_of_none hbo he
    rw [upd_ne b1, del_ne b2, upd_ne b2, upd_ne b1, upd_ne b2]
    exact hbo
  | some v =>
    refine iteF ⟨_, rfl, r, C, dx, _, .ref kd, rfl, hb.h, R.c, R.nk, rfl, _, rfl, kd, v, rfl, ?_, q1 v hv⟩
    rw [← hv]
    exact DGet.k (k := .inr k) hb.k
/-! ### put -/
abbrev sBp : Stmt := mth (top 19) 5
theorem scBp : FnScope ["self", "key", "message", "known"] ["self", "key", "message"] (defScope sBp) := ⟨rfl, rfl, rfl, by decide +kernel, rfl, by decide +kernel, by decide +kernel⟩
def spBp (C : Addr) : Sp := fun vs H Q _ => ∃ (r dx kd bl : Addr) (kvs : List (Key × V)) (bvs : List V) (k : Str) (a : Addr) (t : T), vs = [.ref r, .str k, .ref a] ∧ Bk C H r dx kd bl kvs bvs ∧ kvs.length < 100 ∧ bvs.length < 100 ∧ At H a t ∧ Wf t false ∧ t.sz < 90000 ∧
  ∀ H' a' q, Mb [kd, bl] H H' → At (nlf H H') a' (pl ("" : Str) t) → H q = none → H' q = some (.tup [.str k, was kvs k]) → Bk C H' r dx kd bl (putK kvs (.inr k) (.ref a')) (bvs ++ [.ref q]) → Q (.bl (valV kvs (.inr k)).isSome) H'
theorem ok_bp {f fE fP : Addr} {fd fdE fdP : FuncData} (F : Fun K "put" "Book.put" sBp f fd) (R : BC K C)
    (GE : FnOk P w K mg base CX0 2 fE fdE ["self", "key", "message"] (spBe C)) (bE : Binds K fdE ["self", "key", "message"] []) (mE : Meth K C "keep" fE)
    (GP : FnOk P w K mg base CX0 3 fP fdP ["message"] spPlain) (bP : Binds K fdP ["message"] []) (kP : PySem.W.keepIn K (.ref fP) = true) (mP : mg "plain" = some (.ref fP)) : FnOk P w K mg base CX0 4 f fd ["self", "key", "message"] (spBp C) := by
  refine F.ok scBp (fun vs H Q E h => ?_) (fun cdv A outer s H vs Q E hr h => ?_)
  · obtain ⟨r, dx, kd, bl, kvs, bvs, k, a, t, rfl, _⟩ := h
    rfl
  obtain ⟨r, dx, kd, bl, kvs, bvs, k, a, t, rfl, hb, hz, hzb, hat, hw, hsz, q⟩ := h
  have nd := scBp.nd
  have hu : (A.deeper (PyProof.Rows.envOfC "Book.put" (defScope sBp) s.heap.objs.size f cdv)).units + 1 < cLine := by
    have := hr.un
    omega
  refine ⟨_, pss_cons (ps_set (i := 3) nd rfl (.inl rfl) (pe_cmp (pc_din hu (pv 1) (pe_fld (pv 0) rfl))))
    (pss_cons (ps_expr (pe_meth (pv 0) R.c mE GE (hr.mono (by decide)) bE .nil pass0 (pa_cons (pv 1) (pa_cons (pe_call GP hr rfl mP kP bP .nil pass0 (pa_cons (pv 2) pa_nil)) pa_nil))))
    (pss_one (ps_ret (pv 3)))), ?_⟩
  refine ⟨_, rfl, _, rfl, r, C, dx, _, .ref kd, rfl, hb.h, R.c, R.nk, rfl, kd, _, rfl, DGet.k (k := .inr k) hb.k, ?_⟩
  refine ⟨_, rfl, r, dx, _, rfl, hb.h, rfl, _, rfl, _, rfl, a, t, rfl, hat, hw, hsz, fun a' H1 ha' s1 hat' => ?_⟩
  have hb1 := hb.same s1
  refine ⟨r, dx, kd, bl, kvs, bvs, k, .ref a', rfl, hb1, hz, hzb, .inr ⟨a', rfl⟩, fun H2 q0 m2 hq0 hq2 hb2 => ?_⟩
  rw [show nwK kvs k (.ref a') = putK kvs (.inr k) (.ref a') from if_neg (by intro z; cases z)] at hb2
  refine ⟨_, rfl, q H2 a' q0 ((Mb.of s1).trans m2) (hat'.same (nlf_mb m2 ?_ ?_)) (s1.free hq0) hq2 hb2⟩
  · intro l hl
    simp only [List.mem_cons, List.not_mem_nil, or_false] at hl
    rcases hl with rfl | rfl
    · exact ⟨_, hb.k⟩
    · exact ⟨_, hb.b⟩
  · intro l hl xs e
    simp only [List.mem_cons, List.not_mem_nil, or_false] at hl
    rcases hl with rfl | rfl
    · rw [hb1.k] at e; cases e
    · rw [hb1.b] at e; cases e
end
end Mw

namespace Mw
open PySem L2
def PErr (CP : Addr) (HB : Hp) (E : XK) (yv : V) : Prop := ∀ dx H', HB dx = none → Same HB H' → H' dx = some (.xd [("path", yv)]) → E (.ref CP) (some dx) H'
section
variable {P : Program} {w : World} {K : PySem.W.Frag} {mg : Str → Option Value} {base : Heap} {C CK CP : Addr}
/-! ### drop -/
abbrev sBd : Stmt := mth (top 19) 6
theorem scBd : FnScope ["self", "key", "message"] ["self", "key"] (defScope sBd) := ⟨rfl, rfl, rfl, by decide +kernel, rfl, by decide +kernel, by decide +kernel⟩
def spBd (C CK : Addr) : Sp := fun vs H Q E => ∃ (r dx kd bl : Addr) (kvs : List (Key × V)) (bvs : List V) (k : Str), vs = [.ref r, .str k] ∧ k.length ≤ 100 ∧ Bk C H r dx kd bl kvs bvs ∧ kvs.length < 100 ∧ bvs.length < 100 ∧
  (∀ v, valV kvs (.inr k) = some v → ∀ H' q, Mb [kd, bl] H H' → H q = none → H' q = some (.tup [.str k, v]) → Bk C H' r dx kd bl (dropK kvs (.inr k)) (bvs ++ [.ref q]) → Q v H') ∧ (valV kvs (.inr k) = none → KErr CK H E k)
theorem ok_bd {f fE fA : Addr} {fd fdE fdA : FuncData} (F : Fun K "drop" "Book.drop" sBd f fd) (R : BC K C)
    (GE : FnOk P w K mg base CX0 2 fE fdE ["self", "key", "message"] (spBe C)) (bE : Binds K fdE ["self", "key", "message"] []) (mE : Meth K C "keep" fE)
    (GA : FnOk P w K mg base (L2.CX P w) 3 fA fdA ["self", "key"] (spBa C CK)) (bA : Binds K fdA ["self", "key"] []) (mA : Meth K C "kept_at" fA) : FnOk P w K mg base (L2.CX P w) 4 f fd ["self", "key"] (spBd C CK) := by
  refine F.okX scBd (fun vs H Q E h => ?_) (fun cdv A outer s H vs Q E hr h => ?_)
  · obtain ⟨r, dx, kd, bl, kvs, bvs, k, rfl, _⟩ := h
    rfl
  obtain ⟨r, dx, kd, bl, kvs, bvs, k, rfl, hk, hb, hz, hzb, q1, q2⟩ := h
  have nd := scBd.nd
  refine ⟨_, pss_cons (ps_set (i := 2) nd rfl (.inl rfl) (pe_meth (pv 0) R.c mA GA hr bA .nil (passes_call (takes_of rfl rfl rfl rfl) (fun _ _ _ _ h => h)) (pa_cons (pv 1) pa_nil)))
    (pss_cons (ps_expr (pe_meth (pv 0) R.c mE GE (hr.mono (by decide)) bE .nil pass0 (pa_cons (pv 1) (pa_cons pe_non pa_nil))))
    (pss_one (ps_ret (pv 2)))), ?_⟩
  refine ⟨_, rfl, r, dx, _, rfl, hb.h, rfl, _, rfl, r, dx, kd, bl, kvs, bvs, k, rfl, hk, hb, fun v hv => ?_, q2⟩
  refine ⟨_, rfl, r, dx, _, rfl, hb.h, rfl, _, rfl, r, dx, kd, bl, kvs, bvs, k, .non, rfl, hb, hz, hzb, .inl ⟨rfl, by rw [hv]; rfl⟩, fun H2 q0 m2 hq0 hq2 hb2 => ?_⟩
  rw [show was kvs k = v by rw [was, hv]; rfl] at hq2
  exact ⟨_, rfl, q1 v hv H2 q0 m2 hq0 hq2 hb2⟩
/-! ### change -/
abbrev sBg : Stmt := mth (top 19) 7
theorem scBg : FnScope ["self", "key", "path", "inner"] ["self", "key", "path", "inner"] (defScope sBg) := ⟨rfl, rfl, rfl, by decide +kernel, rfl, by decide +kernel, by decide +kernel⟩
def spBg (C CK CP : Addr) : Sp := fun vs H Q E => ∃ (r dx kd bl mi : Addr) (kvs : List (Key × V)) (bvs : List V) (k : Str) (yv : V) (p : Pth) (m : T), vs = [.ref r, .str k, yv, .ref mi] ∧ k.length ≤ 100 ∧ Bk C H r dx kd bl kvs bvs ∧ kvs.length < 100 ∧ bvs.length < 100 ∧
  At H mi m ∧ PthAt K H p yv ∧ PthOk p ∧ (valV kvs (.inr k) = none → KErr CK H E k) ∧
  ∀ v, valV kvs (.inr k) = some v → ∃ (a : Addr) (t : T), v = .ref a ∧ At H a t ∧ Wf t false ∧ Kd t ∧ t.sz < 90000 ∧ (atP t p = none → PErr CP H E yv) ∧
    (atP t p ≠ none → Wf (putP t p m) false ∧ (putP t p m).sz < 90000 ∧ ∀ H' a' q, Mb [kd, bl] H H' → At (nlf H H') a' (pl ("" : Str) (putP t p m)) → H q = none → H' q = some (.tup [.str k, v]) → Bk C H' r dx kd bl (putK kvs (.inr k) (.ref a')) (bvs ++ [.ref q]) → Q (.bl true) H')
theorem ok_bg {f fE fA fP fR : Addr} {fd fdE fdA fdP fdR : FuncData} (F : Fun K "change" "Book.change" sBg f fd) (R : BC K C)
    (GE : FnOk P w K mg base CX0 2 fE fdE ["self", "key", "message"] (spBe C)) (bE : Binds K fdE ["self", "key", "message"] []) (mE : Meth K C "keep" fE)
    (GA : FnOk P w K mg base (L2.CX P w) 3 fA fdA ["self", "key"] (spBa C CK)) (bA : Binds K fdA ["self", "key"] []) (mA : Meth K C "kept_at" fA)
    (GP : FnOk P w K mg base CX0 3 fP fdP ["message"] spPlain) (bP : Binds K fdP ["message"] []) (kP : PySem.W.keepIn K (.ref fP) = true) (mP : mg "plain" = some (.ref fP))
    (GR : FnOk P w K mg base (L2.CX P w) 5 fR fdR ["message", "path", "inner"] (spRe K CP)) (bR : Binds K fdR ["message", "path", "inner"] []) (kR : PySem.W.keepIn K (.ref fR) = true) (mR : mg "replaced" = some (.ref fR)) :
    FnOk P w K mg base (L2.CX P w) 6 f fd ["self", "key", "path", "inner"] (spBg (K := K) C CK CP) := by
  refine F.okX scBg (fun vs H Q E h => ?_) (fun cdv A outer s H vs Q E hr h => ?_)
  · obtain ⟨r, dx, kd, bl, mi, kvs, bvs, k, yv, p, m, rfl, _⟩ := h
    rfl
  obtain ⟨r, dx, kd, bl, mi, kvs, bvs, k, yv, p, m, rfl, hk, hb, hz, hzb, hmi, hp, hok, q2, q1⟩ := h
  refine ⟨_, pss_cons (ps_expr (pe_meth (pv 0) R.c mE GE (hr.mono (by decide)) bE .nil pass0 (pa_cons (pv 1) (pa_cons (pe_call GP (hr.mono (by decide)) rfl mP kP bP .nil pass0 (pa_cons
      (pe_call GR hr rfl mR kR bR .nil (passes_call (takes_of rfl rfl rfl rfl) (fun _ _ _ _ h => h)) (pa_cons (pe_meth (pv 0) R.c mA GA (hr.mono (by decide)) bA .nil (passes_call (takes_of rfl rfl rfl rfl) (fun _ _ _ _ h => h)) (pa_cons (pv 1) pa_nil)) (pa_cons (pv 2) (pa_cons (pv 3) pa_nil)))) pa_nil)) pa_nil))))
    (pss_one (ps_ret pe_bl)), ?_⟩
  refine ⟨_, rfl, r, dx, _, rfl, hb.h, rfl, _, rfl, _, rfl, r, dx, _, rfl, hb.h, rfl, _, rfl, r, dx, kd, bl, kvs, bvs, k, rfl, hk, hb, fun v hv => ?_, q2⟩
  obtain ⟨a, t, rfl, hat, hw, hkd, hsz, qn, qy⟩ := q1 v hv
  refine ⟨_, rfl, _, rfl, a, mi, yv, p, t, m, rfl, hat, hw, hkd, by omega, hmi, hp, hok, fun r1 H1 hne s1 hr1 => ?_, fun hno => qn hno⟩
  obtain ⟨w1, z1, q⟩ := qy hne
  refine ⟨r1, putP t p m, rfl, hr1, w1, z1, fun a' H2 ha' s2 hat' => ?_⟩
  have s02 := s1.trans s2
  have hb1 := hb.same s02
  refine ⟨r, dx, kd, bl, kvs, bvs, k, .ref a', rfl, hb1, hz, hzb, .inr ⟨a', rfl⟩, fun H3 q0 m3 hq0 hq3 hb3 => ?_⟩
  rw [show nwK kvs k (.ref a') = putK kvs (.inr k) (.ref a') from if_neg (by intro z; cases z)] at hb3
  rw [show was kvs k = .ref a by rw [was, hv]; rfl] at hq3
  refine q H3 a' q0 ((Mb.of s02).trans m3) (hat'.same fun b o h => ?_) (s02.free hq0) hq3 hb3
  have hL : ∀ l ∈ [kd, bl], (∃ o, H l = some o) ∧ ∀ xs, H2 l ≠ some (.tup xs) := by
    intro l hl
    simp only [List.mem_cons, List.not_mem_nil, or_false] at hl
    rcases hl with rfl | rfl
    · exact ⟨⟨_, hb.k⟩, fun xs e => by rw [hb1.k] at e; cases e⟩
    · exact ⟨⟨_, hb.b⟩, fun xs e => by rw [hb1.b] at e; cases e⟩
  refine nlf_mb m3 (fun l hl => (hL l hl).1) (fun l hl => (hL l hl).2) b o ?_
  obtain ⟨h1, h2⟩ := nlf_in h
  rcases h2 with ⟨xs, rfl⟩ | ⟨⟨xs, rfl⟩, h2⟩
  · exact nlf_tup h1
  · exact nlf_lst h1 (s1.free h2)
/-! ### undo -/
abbrev sBu : Stmt := mth (top 19) 8
theorem scBu : FnScope ["self", "key", "message"] ["self"] (defScope sBu) := ⟨rfl, rfl, rfl, by decide +kernel, rfl, by decide +kernel, by decide +kernel⟩
def spBu (C : Addr) : Sp := fun vs H Q _ => ∃ (r dx kd bl : Addr) (kvs : List (Key × V)) (bvs : List V), vs = [.ref r] ∧ Bk C H r dx kd bl kvs bvs ∧
  ((bvs = [] ∧ Q (.bl false) H) ∨ ∃ bs q k v, bvs = bs ++ [.ref q] ∧ kvs.length < 100 ∧ H q = some (.tup [.str k, v]) ∧ okM kvs k v ∧ ∀ H', Mb [kd, bl] H H' → Bk C H' r dx kd bl (nwK kvs k v) bs → Q (.bl true) H')
theorem ok_bu {f fS : Addr} {fd fdS : FuncData} (F : Fun K "undo" "Book.undo" sBu f fd) (R : BC K C)
    (GS : FnOk P w K mg base CX0 1 fS fdS ["self", "key", "message"] (spBs C)) (bS : Binds K fdS ["self", "key", "message"] []) (mS : Meth K C "set_back" fS) : FnOk P w K mg base CX0 2 f fd ["self"] (spBu C) := by
  refine F.ok scBu (fun vs H Q E h => ?_) (fun cdv A outer s H vs Q E hr h => ?_)
  · obtain ⟨r, dx, kd, bl, kvs, bvs, rfl, _⟩ := h
    rfl
  obtain ⟨r, dx, kd, bl, kvs, bvs, rfl, hb, q⟩ := h
  have nd := scBu.nd
  refine ⟨_, pss_cons (ps_if (pt_not (pt_truth (pe_fld (pv 0) rfl) (by intro _; rfl))) (pss_one (ps_ret pe_bl)) pss_nil)
    (pss_cons (ps_asg (pe_bm0 PySem.F.plainAttrs_list PySem.F.slot_list_pop PySem.F.type_list_pop mt_pop (pe_fld (pv 0) rfl)) (pg_tup rfl (pgs_cons (pg_name (i := 1) nd rfl (.inl rfl)) (pgs_cons (pg_name (i := 2) nd rfl (.inl rfl)) pgs_nil))))
    (pss_cons (ps_expr (pe_meth (pv 0) R.c mS GS hr bS .nil pass0 (pa_cons (pv 1) (pa_cons (pv 2) pa_nil))))
    (pss_one (ps_ret pe_bl)))), ?_⟩
  refine ⟨_, rfl, r, C, dx, _, .ref bl, rfl, hb.h, R.c, R.nb, rfl, !bvs.isEmpty, .inl ⟨bvs, SqL.of hb.b, rfl⟩, ?_⟩
  obtain ⟨n1, n2, n3⟩ := hb.ne
  rcases q with ⟨rfl, q⟩ | ⟨bs, q0, k, v, rfl, hz, hq, hm, q⟩
  · exact iteT q
  · have he : (!(bs ++ [V.ref q0]).isEmpty) = true := by cases bs <;> rfl
    rw [he]
    refine iteF ⟨_, rfl, r, C, dx, _, .ref bl, rfl, hb.h, R.c, R.nb, rfl, .inl ⟨rfl, _, SqL.of hb.b⟩, bl, _, .ref q0, rfl, rfl, hb.b, by simp, ?_⟩
    rw [List.dropLast_concat]
    have hqb : q0 ≠ bl := by
      rintro rfl
      rw [hb.b] at hq
      cases hq
    have hqk : q0 ≠ kd := by
      rintro rfl
      rw [hb.k] at hq
      cases hq
    have m2 : Mb [kd, bl] H (upd H bl (.lst bs)) := Mb.upd (by simp) _
    generalize hH2 : upd H bl (.lst bs) = H2 at m2 ⊢
    have hb2 : Bk C H2 r dx kd bl kvs bs := by
      rw [← hH2]
      refine ⟨by rw [upd_ne n2]; exact hb.h, by rw [upd_ne n3]; exact hb.k, upd_same, hb.z, ?_⟩
      have := hb.zb
      rw [List.length_append] at this
      omega
    have hq2 : H2 q0 = some (.tup [.str k, v]) := by rw [← hH2, upd_ne hqb]; exact hq
    refine ⟨q0, _, rfl, .inl (.inl hq2), rfl, .str k, _, rfl, v, [], rfl, rfl, ?_⟩
    refine ⟨_, rfl, r, dx, _, rfl, hb2.h, rfl, _, rfl, _, rfl, r, dx, kd, bl, kvs, bs, k, v, rfl, hb2, hm, ?_⟩
    refine q _ (m2.trans (Mb.upd (by simp) _)) ⟨by rw [upd_ne n1]; exact hb2.h, upd_same, by rw [upd_ne n3.symm]; exact hb2.b, ?_, hb2.zb⟩
    have := nwK_len kvs k v
    omega
end
end Mw

namespace Mw
open PySem L2
/-! ### the messages by their keys, and the deeds -/
abbrev Mp := Str → Option T
def upM (M : Mp) (k : Str) (x : Option T) : Mp := fun j => if j = k then x else M j
theorem upM_same (M : Mp) (k : Str) (x : Option T) : upM M k x k = x := if_pos rfl
theorem upM_ne {M : Mp} {k j : Str} {x : Option T} (h : j ≠ k) : upM M k x j = M j := if_neg h
theorem upM_back (M : Mp) (k : Str) (x : Option T) : upM (upM M k x) k (M k) = M := by
  funext j
  unfold upM
  by_cases h : j = k
  · rw [if_pos h, h]
  · rw [if_neg h, if_neg h]
inductive Dd where
  | put (k : Str) (t : T)
  | drop (k : Str)
  | undo
  | chg (k : Str) (p : Pth) (m : T)
/-- what is told -/
inductive An where
  | bl (b : Bool)
  | msg (t : T)
  | nok (k : Str)
  | nop (p : Pth)
/-- what a deed (not undo) leads to -/
def stepM (L : Mp) : Dd → Option (Str × Option T) × An
  | .put k t => (some (k, some (pl ("" : Str) t)), .bl (L k).isSome)
  | .drop k => match L k with
    | none => (none, .nok k)
    | some t => (some (k, none), .msg t)
  | .chg k p m => match L k with
    | none => (none, .nok k)
    | some t => match atP t p with
      | none => (none, .nop p)
      | some _ => (some (k, some (pl ("" : Str) (putP t p m))), .bl true)
  | .undo => (none, .bl true)
def keys4 : List Str := ["a", "b", "files", "zz"]
structure Ok4 (n : Nat) (t : T) : Prop where
  ok : Ok3 t false
  dep : t.dep ≤ 2 + n
  sz : t.sz ≤ 1900 + 140 * n
theorem Ok4.mono {n m : Nat} {t : T} (h : Ok4 n t) (l : n ≤ m) : Ok4 m t := ⟨h.ok, by have := h.dep; omega, by have := h.sz; omega⟩
theorem Ok4.fit {n : Nat} {t : T} (h : Ok4 n t) (l : n ≤ 26) : Fit t := ⟨h.ok.wf, h.ok.sok, h.ok.kd, by have := h.dep; omega, by have := h.sz; omega⟩
def GoodM (n : Nat) (M : Mp) : Prop := ∀ k t, M k = some t → k ∈ keys4 ∧ Ok4 n t
theorem GoodM.mono {n m : Nat} {M : Mp} (h : GoodM n M) (l : n ≤ m) : GoodM m M := fun k t e => ⟨(h k t e).1, (h k t e).2.mono l⟩
theorem GoodM.up {n : Nat} {M : Mp} {k : Str} {x : Option T} (h : GoodM n M) (hx : ∀ t, x = some t → k ∈ keys4 ∧ Ok4 n t) : GoodM n (upM M k x) := fun j t e => by
  by_cases c : j = k
  · subst c
    rw [upM_same] at e
    exact hx t e
  · rw [upM_ne c] at e
    exact h j t e
theorem GoodM.nil : GoodM 0 (fun _ => none) := fun k t e => by cases e
/-- deeds as the law draws them -/
def DdOk : Dd → Prop
  | .put k t => k ∈ keys4 ∧ Ok4 0 t
  | .drop k => k ∈ keys4
  | .undo => True
  | .chg k p m => k ∈ keys4 ∧ PthOk p ∧ Ok3 m false ∧ m.dep ≤ 1 ∧ m.sz ≤ 140
theorem pl_ok4 {n : Nat} {t : T} (h : Ok4 n t) : Ok4 n (pl ("" : Str) t) := by
  refine ⟨pl_ok h.ok empty_ok, by rw [pl_dep]; exact h.dep, ?_⟩
  have h1 := pl_sz t ("" : Str)
  rw [wA_nil] at h1
  have := h.sz
  omega
theorem put_ok4 {n : Nat} {t m : T} {p : Pth} (h : Ok4 n t) (om : Ok3 m false) (dm : m.dep ≤ 1) (zm : m.sz ≤ 140) (hne : atP t p ≠ none) : Ok4 (n + 1) (putP t p m) := by
  obtain ⟨a1, a2, a3, _⟩ := put_ok om h.ok hne
  have := h.dep
  have := h.sz
  exact ⟨a1, by omega, by omega⟩
theorem step_good {n : Nat} {L : Mp} {d : Dd} (h : GoodM n L) (hd : DdOk d) {k : Str} {x : Option T} (e : (stepM L d).1 = some (k, x)) : GoodM (n + 1) (upM L k x) := by
  refine (h.mono (Nat.le_succ n)).up fun t ht => ?_
  subst ht
  cases d with
  | put k' t' =>
    cases e
    exact ⟨hd.1, pl_ok4 (hd.2.mono (by omega))⟩
  | drop k' =>
    cases hL : L k' <;> simp [stepM, hL] at e
  | undo => cases e
  | chg k' p m =>
    cases hL : L k' with
    | none => simp [stepM, hL] at e
    | some t0 =>
      cases hA : atP t0 p with
      | none => simp [stepM, hL, hA] at e
      | some t1 =>
        simp only [stepM, hL, hA, Option.some.injEq, Prod.mk.injEq] at e
        obtain ⟨rfl, rfl⟩ := e
        exact ⟨hd.1, pl_ok4 (put_ok4 (h _ _ hL).2 hd.2.2.1 hd.2.2.2.1 hd.2.2.2.2 (by rw [hA]; intro z; cases z))⟩
/-! ### a dict that has them -/
structure Rep (H : Hp) (kvs : List (Key × V)) (M : Mp) : Prop where
  sm : ∀ k v, valV kvs (.inr k) = some v → ∃ a t, v = .ref a ∧ At H a t ∧ M k = some t
  nn : ∀ k, valV kvs (.inr k) = none → M k = none
  keys : ∀ p ∈ kvs, ∃ k ∈ keys4, p.1 = .inr k
  nod : (kvs.map (·.1)).Nodup
theorem Rep.same {H H' : Hp} {kvs : List (Key × V)} {M : Mp} (r : Rep H kvs M) (s : Same H H') : Rep H' kvs M := ⟨fun k v e => by
  obtain ⟨a, t, h1, h2, h3⟩ := r.sm k v e
  exact ⟨a, t, h1, h2.same s, h3⟩, r.nn, r.keys, r.nod⟩
theorem Rep.nil {H : Hp} : Rep H [] (fun _ => none) := ⟨fun k v e => (by cases e), fun k _ => rfl, fun p h => (by cases h), List.Pairwise.nil⟩
theorem valV_drop {κ : Type} [DecidableEq κ] (k j : κ) : ∀ kvs : List (κ × V), valV (dropK kvs k) j = if j = k then none else valV kvs j
  | [] => by split <;> rfl
  | p :: r => by
    have ih := valV_drop k j r
    unfold dropK at ih ⊢
    by_cases h : p.1 = k
    · rw [List.filter_cons_of_neg (by simpa using h), ih]
      by_cases e : j = k
      · rw [if_pos e, if_pos e]
      · rw [if_neg e, if_neg e, valV_neg (fun z => e (z.symm.trans h))]
    · rw [List.filter_cons_of_pos (by simpa using h)]
      by_cases e : p.1 = j
      · rw [valV_pos e, valV_pos e, if_neg (fun z => h (e.trans z))]
      · rw [valV_neg e, valV_neg e, ih]
theorem putK_keys (kvs : List (Key × V)) (k : Key) (v : V) : (putK kvs k v).map (·.1) = if (kvs.any fun kv => decide (kv.1 = k)) = true then kvs.map (·.1) else kvs.map (·.1) ++ [k] := by
  unfold putK
  split
  · rw [List.map_map]
    congr 1
    funext p
    show (if p.1 = k then (p.1, v) else p).1 = p.1
    split <;> rfl
  · rw [List.map_append]
    rfl
theorem Rep.put {H : Hp} {kvs : List (Key × V)} {M : Mp} {k : Str} {a : Addr} {t : T} (r : Rep H kvs M) (hk : k ∈ keys4) (ha : At H a t) : Rep H (putK kvs (.inr k) (.ref a)) (upM M k (some t)) := by
  refine ⟨fun j v e => ?_, fun j e => ?_, fun p hp => ?_, ?_⟩
  · rw [valV_put] at e
    by_cases c : j = k
    · subst c
      rw [if_pos rfl] at e
      cases e
      exact ⟨a, t, rfl, ha, upM_same _ _ _⟩
    · rw [if_neg (fun z => c (by injection z))] at e
      obtain ⟨a', t', h1, h2, h3⟩ := r.sm j v e
      exact ⟨a', t', h1, h2, by rw [upM_ne c]; exact h3⟩
  · rw [valV_put] at e
    by_cases c : j = k
    · subst c
      rw [if_pos rfl] at e
      cases e
    · rw [if_neg (fun z => c (by injection z))] at e
      rw [upM_ne c]
      exact r.nn j e
  · have hm := List.mem_map_of_mem (f := (·.1)) hp
    rw [putK_keys] at hm
    split at hm
    · obtain ⟨q, hq, e⟩ := List.mem_map.mp hm
      obtain ⟨j, h1, h2⟩ := r.keys q hq
      exact ⟨j, h1, by rw [← e]; exact h2⟩
    · rcases List.mem_append.mp hm with hm | hm
      · obtain ⟨q, hq, e⟩ := List.mem_map.mp hm
        obtain ⟨j, h1, h2⟩ := r.keys q hq
        exact ⟨j, h1, by rw [← e]; exact h2⟩
      · exact ⟨k, hk, List.mem_singleton.mp hm⟩
  · rw [putK_keys]
    split
    · exact r.nod
    · rename_i h
      rw [List.nodup_append]
      refine ⟨r.nod, by simp, fun x hx y hy e => h ?_⟩
      rw [List.mem_singleton] at hy
      obtain ⟨q, hq, e2⟩ := List.mem_map.mp hx
      rw [List.any_eq_true]
      exact ⟨q, hq, decide_eq_true (by rw [e2, e, hy])⟩
theorem Rep.drop {H : Hp} {kvs : List (Key × V)} {M : Mp} {k : Str} (r : Rep H kvs M) : Rep H (dropK kvs (.inr k)) (upM M k none) := by
  refine ⟨fun j v e => ?_, fun j e => ?_, fun p hp => r.keys p ((List.mem_filter.mp hp).1), ?_⟩
  · rw [valV_drop] at e
    by_cases c : j = k
    · subst c
      rw [if_pos rfl] at e
      cases e
    · rw [if_neg (fun z => c (by injection z))] at e
      obtain ⟨a', t', h1, h2, h3⟩ := r.sm j v e
      exact ⟨a', t', h1, h2, by rw [upM_ne c]; exact h3⟩
  · rw [valV_drop] at e
    by_cases c : j = k
    · subst c
      exact upM_same _ _ _
    · rw [if_neg (fun z => c (by injection z))] at e
      rw [upM_ne c]
      exact r.nn j e
  · exact (List.filter_sublist.map _).nodup r.nod
/-- the keys, in the dict's order -/
theorem Rep.ks {H : Hp} {kvs : List (Key × V)} {M : Mp} (r : Rep H kvs M) : ∃ ks : List Str, kvs.map (·.1) = ks.map Sum.inr ∧ ks.Nodup ∧ (∀ k ∈ ks, k ∈ keys4) ∧ ∀ k, k ∈ ks ↔ (M k).isSome = true := by
  have h : ∀ l : List (Key × V), (∀ p ∈ l, ∃ k ∈ keys4, p.1 = .inr k) → ∃ ks : List Str, l.map (·.1) = ks.map Sum.inr ∧ ∀ k ∈ ks, k ∈ keys4 := by
    intro l
    induction l with
    | nil => intro _; exact ⟨[], rfl, fun k h => by cases h⟩
    | cons p l ih =>
      intro h
      obtain ⟨k, h1, h2⟩ := h p (by simp)
      obtain ⟨ks, h3, h4⟩ := ih fun q hq => h q (List.mem_cons_of_mem _ hq)
      refine ⟨k :: ks, by rw [List.map_cons, List.map_cons, h2, h3], fun j hj => ?_⟩
      rcases List.mem_cons.mp hj with rfl | hj
      · exact h1
      · exact h4 j hj
  obtain ⟨ks, e, hk⟩ := h kvs r.keys
  have hin : ∀ k : Str, k ∈ ks ↔ (Sum.inr k : Key) ∈ kvs.map (·.1) := fun k => by
    rw [e]
    constructor
    · exact fun h => List.mem_map_of_mem h
    · intro h
      obtain ⟨j, hj, ej⟩ := List.mem_map.mp h
      injection ej with ej
      exact ej ▸ hj
  refine ⟨ks, e, ?_, hk, fun k => ?_⟩
  · have := r.nod
    rw [e] at this
    exact (List.pairwise_map.mp this).imp fun h e => h (congrArg Sum.inr e)
  · rw [hin]
    have hv := valV_any (Sum.inr k : Key) kvs
    constructor
    · intro h
      obtain ⟨q, hq, eq⟩ := List.mem_map.mp h
      cases hx : valV kvs (.inr k) with
      | none =>
        rw [hx] at hv
        exact absurd (decide_eq_true eq) (by simpa using (List.any_eq_false.mp (show _ = false from hv)) q hq)
      | some v =>
        obtain ⟨a, t, _, _, h3⟩ := r.sm k v hx
        rw [h3]
        rfl
    · intro h
      cases hx : valV kvs (.inr k) with
      | none =>
        rw [r.nn k hx] at h
        cases h
      | some v =>
        rw [hx] at hv
        obtain ⟨q, hq, eq⟩ := List.any_eq_true.mp (show _ = true from hv)
        exact List.mem_map.mpr ⟨q, hq, of_decide_eq_true eq⟩
theorem nodup_len : ∀ {l m : List Str}, l.Nodup → (∀ x ∈ l, x ∈ m) → l.length ≤ m.length
  | [], _, _, _ => Nat.zero_le _
  | x :: l, m, h, hm => by
    obtain ⟨h1, h2⟩ := List.nodup_cons.mp h
    have hx := hm x (by simp)
    have ih := nodup_len (l := l) (m := m.erase x) h2 fun y hy => (List.mem_erase_of_ne (by rintro rfl; exact h1 hy)).mpr (hm y (List.mem_cons_of_mem _ hy))
    rw [List.length_erase_of_mem hx] at ih
    have : 0 < m.length := List.length_pos_of_mem hx
    show l.length + 1 ≤ m.length
    omega
theorem Rep.len {H : Hp} {kvs : List (Key × V)} {M : Mp} (r : Rep H kvs M) : kvs.length ≤ 4 := by
  obtain ⟨ks, e, h1, h2, _⟩ := r.ks
  have hl : kvs.length = ks.length := by
    have := congrArg List.length e
    simpa using this
  rw [hl]
  exact nodup_len h1 h2
end Mw

namespace Mw
open PySem L2
/-! ### the rows of states, and what can be undone -/
def lastM : Mp → List Mp → Mp
  | M, [] => M
  | _, M1 :: r => lastM M1 r
theorem lastM_snoc (M' : Mp) : ∀ (M : Mp) (r : List Mp), lastM M (r ++ [M']) = M'
  | _, [] => rfl
  | _, M1 :: r => lastM_snoc M' M1 r
/-- one step back -/
def Lnk (H : Hp) (M M' : Mp) (v : V) : Prop := ∃ (q : Addr) (k : Str) (u : V), v = .ref q ∧ H q = some (.tup [.str k, u]) ∧ k ∈ keys4 ∧ M = upM M' k (M k) ∧ ((u = .non ∧ M k = none ∧ (M' k).isSome = true) ∨ ∃ a t, u = .ref a ∧ At H a t ∧ M k = some t)
def Lk (H : Hp) : Mp → List Mp → List V → Prop
  | _, [], bvs => bvs = []
  | M, M1 :: r, bvs => ∃ v bs, bvs = v :: bs ∧ Lnk H M M1 v ∧ Lk H M1 r bs
theorem Lnk.same {H H' : Hp} {M M' : Mp} {v : V} (s : Same H H') (h : Lnk H M M' v) : Lnk H' M M' v := by
  obtain ⟨q, k, u, h1, h2, h3, h4, h5⟩ := h
  refine ⟨q, k, u, h1, s _ _ h2, h3, h4, h5.imp id ?_⟩
  rintro ⟨a, t, g1, g2, g3⟩
  exact ⟨a, t, g1, g2.same s, g3⟩
theorem Lk.same {H H' : Hp} (s : Same H H') : ∀ {M : Mp} {r : List Mp} {bvs : List V}, Lk H M r bvs → Lk H' M r bvs
  | _, [], _, h => h
  | _, _ :: _, _, h => by
    obtain ⟨v, bs, rfl, h1, h2⟩ := h
    exact ⟨v, bs, rfl, h1.same s, Lk.same s h2⟩
theorem Lk.length {H : Hp} : ∀ {M : Mp} {r : List Mp} {bvs : List V}, Lk H M r bvs → bvs.length = r.length
  | _, [], _, h => by rw [show _ = [] from h]; rfl
  | _, _ :: _, _, h => by
    obtain ⟨v, bs, rfl, _, h2⟩ := h
    exact congrArg (· + 1) (Lk.length h2)
theorem Lk.snoc {H : Hp} {M' : Mp} {v : V} : ∀ {M : Mp} {r : List Mp} {bvs : List V}, Lk H M r bvs → Lnk H (lastM M r) M' v → Lk H M (r ++ [M']) (bvs ++ [v])
  | _, [], _, h, l => by
    rw [show _ = [] from h]
    exact ⟨v, [], rfl, l, rfl⟩
  | _, _ :: _, _, h, l => by
    obtain ⟨v', bs, rfl, h1, h2⟩ := h
    exact ⟨v', _, rfl, h1, Lk.snoc h2 l⟩
theorem Lk.unsnoc {H : Hp} {M' : Mp} : ∀ {M : Mp} {r : List Mp} {bvs : List V}, Lk H M (r ++ [M']) bvs → ∃ bs v, bvs = bs ++ [v] ∧ Lk H M r bs ∧ Lnk H (lastM M r) M' v
  | _, [], _, h => by
    obtain ⟨v, bs, rfl, h1, h2⟩ := h
    rw [show bs = [] from h2]
    exact ⟨[], v, rfl, rfl, h1⟩
  | _, _ :: _, _, h => by
    obtain ⟨v', bs, rfl, h1, h2⟩ := h
    obtain ⟨bs', v, rfl, h3, h4⟩ := Lk.unsnoc h2
    exact ⟨v' :: bs', v, rfl, ⟨v', bs', rfl, h1, h3⟩, h4⟩
/-- what is put, told as a link -/
theorem lnk_put {H : Hp} {M : Mp} {k : Str} {x : Option T} {q : Addr} {u : V} (hq : H q = some (.tup [.str k, u])) (hk : k ∈ keys4) (hx : M k = none → x.isSome = true) (hu : (u = .non ∧ M k = none) ∨ ∃ a t, u = .ref a ∧ At H a t ∧ M k = some t) : Lnk H M (upM M k x) (.ref q) := by
  refine ⟨q, k, u, rfl, hq, hk, (upM_back M k x).symm, ?_⟩
  rcases hu with ⟨h1, h2⟩ | h
  · exact .inl ⟨h1, h2, by rw [upM_same]; exact hx h2⟩
  · exact .inr h
/-- the dicts of the law's states -/
def Sds (H : Hp) : List Addr → List Mp → Prop
  | [], Ms => Ms = []
  | d :: ds, Ms => ∃ (M : Mp) (Ns : List Mp) (kvs : List (Key × V)), Ms = M :: Ns ∧ H d = some (.dK kvs) ∧ Rep H kvs M ∧ Sds H ds Ns
theorem Sds.same {H H' : Hp} (s : Same H H') : ∀ {ds : List Addr} {Ms : List Mp}, Sds H ds Ms → Sds H' ds Ms
  | [], _, h => h
  | _ :: _, _, h => by
    obtain ⟨M, Ns, kvs, rfl, h1, h2, h3⟩ := h
    exact ⟨M, Ns, kvs, rfl, s _ _ h1, h2.same s, Sds.same s h3⟩
theorem Sds.length {H : Hp} : ∀ {ds : List Addr} {Ms : List Mp}, Sds H ds Ms → ds.length = Ms.length
  | [], _, h => by rw [show _ = [] from h]; rfl
  | _ :: _, _, h => by
    obtain ⟨M, Ns, kvs, rfl, h1, h2, h3⟩ := h
    exact congrArg (· + 1) (Sds.length h3)
theorem Sds.snoc {H : Hp} {d : Addr} {M : Mp} {kvs : List (Key × V)} (h1 : H d = some (.dK kvs)) (h2 : Rep H kvs M) : ∀ {ds : List Addr} {Ms : List Mp}, Sds H ds Ms → Sds H (ds ++ [d]) (Ms ++ [M])
  | [], _, h => by
    rw [show _ = [] from h]
    exact ⟨M, [], kvs, rfl, h1, h2, rfl⟩
  | _ :: _, _, h => by
    obtain ⟨M', Ns, kvs', rfl, g1, g2, g3⟩ := h
    exact ⟨M', _, kvs', rfl, g1, g2, Sds.snoc h1 h2 g3⟩
theorem Sds.unsnoc {H : Hp} {M : Mp} : ∀ {Ms : List Mp} {ds : List Addr}, Sds H ds (Ms ++ [M]) → ∃ es d kvs, ds = es ++ [d] ∧ H d = some (.dK kvs) ∧ Rep H kvs M ∧ Sds H es Ms
  | [], ds, h => by
    cases ds with
    | nil => cases (show [M] = [] from h)
    | cons d ds =>
      obtain ⟨M', Ns, kvs', e, g1, g2, g3⟩ := h
      cases e
      cases ds with
      | nil => exact ⟨[], d, kvs', rfl, g1, g2, rfl⟩
      | cons d' ds =>
        obtain ⟨_, _, _, e, _⟩ := g3
        cases e
  | M0 :: Ms, ds, h => by
    cases ds with
    | nil => cases (show M0 :: (Ms ++ [M]) = [] from h)
    | cons d ds =>
      obtain ⟨M', Ns, kvs', e, g1, g2, g3⟩ := h
      obtain ⟨rfl, rfl⟩ := List.cons.inj e
      obtain ⟨es, d', kvs, rfl, k1, k2, k3⟩ := Sds.unsnoc g3
      exact ⟨d :: es, d', kvs, rfl, k1, k2, M0, Ms, kvs', rfl, g1, g2, k3⟩
theorem snoc_last (M : Mp) : ∀ r : List Mp, ∃ ns, M :: r = ns ++ [lastM M r]
  | [] => ⟨[], rfl⟩
  | M1 :: r => by
    obtain ⟨ns, e⟩ := snoc_last M1 r
    exact ⟨M :: ns, congrArg (M :: ·) e⟩
/-! ### the deed, and what is told, as values -/
/-- messages as Hm has them, tuples as Ht has them -/
def DdAt (K : PySem.W.Frag) (Hm Ht : Hp) (v : V) : Dd → Prop
  | .put k t => ∃ p a, v = .ref p ∧ Ht p = some (.tup [.str "put", .str k, .ref a]) ∧ At Hm a t
  | .drop k => ∃ p, v = .ref p ∧ Ht p = some (.tup [.str "drop", .str k])
  | .undo => ∃ p, v = .ref p ∧ Ht p = some (.tup [.str "undo"])
  | .chg k p m => ∃ q yv a, v = .ref q ∧ Ht q = some (.tup [.str "change", .str k, yv, .ref a]) ∧ PthAt K Ht p yv ∧ At Hm a m
theorem DdAt.same {K : PySem.W.Frag} {H H' G G' : Hp} {v : V} {d : Dd} (s : Same H H') (s' : Same G G') (h : DdAt K H G v d) : DdAt K H' G' v d := by
  cases d with
  | put k t => obtain ⟨p, a, h1, h2, h3⟩ := h; exact ⟨p, a, h1, s' _ _ h2, h3.same s⟩
  | drop k => obtain ⟨p, h1, h2⟩ := h; exact ⟨p, h1, s' _ _ h2⟩
  | undo => obtain ⟨p, h1, h2⟩ := h; exact ⟨p, h1, s' _ _ h2⟩
  | chg k p m => obtain ⟨q, yv, a, h1, h2, h3, h4⟩ := h; exact ⟨q, yv, a, h1, s' _ _ h2, h3.same s', h4.same s⟩
def AnAt (K : PySem.W.Frag) (H : Hp) (v : V) : An → Prop
  | .bl b => v = .bl b
  | .msg t => ∃ a, v = .ref a ∧ At H a t
  | .nok k => ∃ p, v = .ref p ∧ H p = some (.tup [.str "no key", .str k])
  | .nop p => ∃ q yv, v = .ref q ∧ H q = some (.tup [.str "no place", yv]) ∧ PthAt K H p yv
theorem AnAt.same {K : PySem.W.Frag} {H H' : Hp} {v : V} {d : An} (s : Same H H') (h : AnAt K H v d) : AnAt K H' v d := by
  cases d with
  | bl b => exact h
  | msg t => obtain ⟨a, h1, h2⟩ := h; exact ⟨a, h1, h2.same s⟩
  | nok k => obtain ⟨p, h1, h2⟩ := h; exact ⟨p, h1, s _ _ h2⟩
  | nop p => obtain ⟨q, yv, h1, h2, h3⟩ := h; exact ⟨q, yv, h1, s _ _ h2, h3.same s⟩
def anD : An → PyData
  | .bl b => .bool b
  | .msg t => .list (dat t)
  | .nok k => .tuple [.str "no key", .str k]
  | .nop p => .tuple [.str "no place", pd p]
def AnOk : An → Prop
  | .bl _ => True
  | .msg t => Fit t
  | .nok k => k ∈ keys4
  | .nop p => PthOk p
theorem AnAt.dp {K : PySem.W.Frag} {H : Hp} {v : V} {d : An} (h : AnAt K H v d) (ok : AnOk d) : Dp K H v (anD d) := by
  cases d with
  | bl b => rw [show v = .bl b from h]; exact .bl b
  | msg t => obtain ⟨a, rfl, h2⟩ := h; exact h2.dp (Fit.sok ok)
  | nok k => obtain ⟨p, rfl, h2⟩ := h; exact .tup (SqT.of h2) (.cons (.str _) (.cons (.str _) .nil))
  | nop p => obtain ⟨q, yv, rfl, h2, h3⟩ := h; exact .tup (SqT.of h2) (.cons (.str _) (.cons (h3.dp ok) .nil))
theorem keys4_sh : ∀ k ∈ keys4, PyData.strOk k = true ∧ (reprText k).length ≤ 12 := by decide +kernel
theorem an_sh {d : An} (ok : AnOk d) : Gg.Sh (anD d) := by
  cases d with
  | bl b => cases b <;> exact ⟨rfl, rfl, by decide, by decide +kernel⟩
  | msg t => exact Fit.sh ok
  | nok k =>
    have h := keys4_sh k ok
    have h2 := tup_len [reprText ("no key" : Str), reprText k]
    have h3 : (reprText ("no key" : Str)).length ≤ 10 := by decide +kernel
    rw [slen_cons, slen_cons, slen_nil] at h2
    exact ⟨rfl, rfl, by show 0 + 1 ≤ 150; decide, by show (tupleText [reprText ("no key" : Str), reprText k]).length ≤ _; omega⟩
  | nop p =>
    obtain ⟨a1, a2, a3, a4⟩ := sh_path0 ok
    have h2 := tup_len [reprText ("no place" : Str), (pd p).shown]
    have h3 : (reprText ("no place" : Str)).length ≤ 20 := by decide +kernel
    rw [slen_cons, slen_cons, slen_nil] at h2
    refine ⟨?_, ?_, ?_, ?_⟩
    · show (true && ((pd p).showable && true)) = true
      rw [a1]
      rfl
    · show (false || ((pd p).hasDict || false)) = false
      rw [a2]
      rfl
    · show max 0 (max (pd p).depth 0) + 1 ≤ 150
      omega
    · show (tupleText [reprText ("no place" : Str), (pd p).shown]).length ≤ _
      omega
end Mw

namespace Mw
open PySem L2
/-! ### what stays: all but some addresses -/
def Hd (L : List Addr) (H : Hp) : Hp := fun a => if a ∈ L then none else H a
def mutO : HO → Prop
  | .lst _ => True
  | .dK _ => True
  | .ins _ _ _ => True
  | _ => False
/-- the addresses stand for things that may change -/
def Mu (L : List Addr) (H : Hp) : Prop := ∀ l ∈ L, ∃ o, H l = some o ∧ mutO o
theorem hd_in {L : List Addr} {H : Hp} {a : Addr} {o : HO} (h : Hd L H a = some o) : a ∉ L ∧ H a = some o := by
  unfold Hd at h
  split at h
  · cases h
  · exact ⟨by assumption, h⟩
theorem hd_off {L : List Addr} {H : Hp} {a : Addr} (h : a ∉ L) : Hd L H a = H a := if_neg h
theorem hd_out {L : List Addr} {H : Hp} : Same (Hd L H) H := fun a o h => (hd_in h).2
theorem hd_mb {L : List Addr} {H H' : Hp} (m : Mb L H H') : Same (Hd L H) (Hd L H') := fun a o h => by
  obtain ⟨h1, h2⟩ := hd_in h
  rw [hd_off h1]
  exact m _ _ h1 h2
theorem hd_fr {L : List Addr} {H H' : Hp} (h : ∀ l ∈ L, ∃ o, H l = some o) : Same (fr H H') (Hd L H') := fun a o e => by
  obtain ⟨h0, h1⟩ := fr_in e
  rw [hd_off fun c => ?_]
  · exact h1
  · obtain ⟨u, hu⟩ := h a c
    rw [h0] at hu
    cases hu
theorem Mu.ex {L : List Addr} {H : Hp} (m : Mu L H) : ∀ l ∈ L, ∃ o, H l = some o := fun l hl => by
  obtain ⟨o, h, _⟩ := m l hl
  exact ⟨o, h⟩
theorem Mu.tup {L : List Addr} {H : Hp} (m : Mu L H) {a : Addr} {xs : List V} (h : H a = some (.tup xs)) : a ∉ L := fun c => by
  obtain ⟨o, h1, h2⟩ := m a c
  rw [h] at h1
  cases h1
  exact h2
theorem Mu.frz {L : List Addr} {H : Hp} (m : Mu L H) {a : Addr} {ob : Obj} {u : HO} (h : H a = some (.frz ob u)) : a ∉ L := fun c => by
  obtain ⟨o, h1, h2⟩ := m a c
  rw [h] at h1
  cases h1
  exact h2
theorem hd_nlf {L : List Addr} {H H' : Hp} (m : Mu L H) (m' : Mu L H') : Same (nlf H H') (Hd L H') := fun a o e => by
  obtain ⟨h1, h2⟩ := nlf_in e
  rcases h2 with ⟨xs, rfl⟩ | ⟨⟨xs, rfl⟩, h2⟩
  · rw [hd_off (m'.tup h1)]
    exact h1
  · rw [hd_off fun c => ?_]
    · exact h1
    · obtain ⟨u, hu, _⟩ := m a c
      rw [h2] at hu
      cases hu
theorem Sts.hd {L : List Addr} {H : Hp} (m : Mu L H) : ∀ {p : Pth} {vs : List V}, Sts H p vs → Sts (Hd L H) p vs
  | [], _, h => h
  | x :: p, _, h => by
    obtain ⟨q, ws, rfl, h1, h2⟩ := h
    exact ⟨q, ws, rfl, by rw [hd_off (m.tup h1)]; exact h1, Sts.hd m h2⟩
theorem PthAt.hd {K : PySem.W.Frag} {L : List Addr} {H : Hp} {p : Pth} {v : V} (m : Mu L H) (h : PthAt K H p v) : PthAt K (Hd L H) p v := by
  obtain ⟨a, vs, rfl, h1, h2⟩ := h
  refine ⟨a, vs, rfl, ?_, h2.hd m⟩
  rcases h1 with (h1 | ⟨o, h1⟩) | h1
  · exact .inl (.inl (by rw [hd_off (m.tup h1)]; exact h1))
  · exact .inl (.inr ⟨o, by rw [hd_off (m.frz h1)]; exact h1⟩)
  · exact .inr h1
theorem DdAt.hd {K : PySem.W.Frag} {L : List Addr} {Hm H : Hp} {v : V} {d : Dd} (m : Mu L H) (s : Same Hm (Hd L H)) (h : DdAt K Hm H v d) : DdAt K (Hd L H) (Hd L H) v d := by
  cases d with
  | put k t => obtain ⟨p, a, h1, h2, h3⟩ := h; exact ⟨p, a, h1, by rw [hd_off (m.tup h2)]; exact h2, h3.same s⟩
  | drop k => obtain ⟨p, h1, h2⟩ := h; exact ⟨p, h1, by rw [hd_off (m.tup h2)]; exact h2⟩
  | undo => obtain ⟨p, h1, h2⟩ := h; exact ⟨p, h1, by rw [hd_off (m.tup h2)]; exact h2⟩
  | chg k p m' => obtain ⟨q, yv, a, h1, h2, h3, h4⟩ := h; exact ⟨q, yv, a, h1, by rw [hd_off (m.tup h2)]; exact h2, h3.hd m, h4.same s⟩
end Mw

namespace Mw
open PySem L2
theorem gd_ok {t : T} {d : Nat} {i : Bool} (h : Gd t false d i) : Ok3 t false ∧ t.dep ≤ d := by
  obtain ⟨a, b, c, e⟩ := Gd.all h fun x => by cases x
  exact ⟨⟨a, b, e⟩, c⟩
section
variable {P : Program} {w : World} {K : PySem.W.Frag} {mg : Str → Option Value} {base : Heap}
abbrev sDe : Stmt := top 32
theorem scDe : FnScope ["box", "now", "keys", "key", "kind"] ["box", "now"] (defScope sDe) := ⟨rfl, rfl, rfl, by decide +kernel, rfl, by decide +kernel, by decide +kernel⟩
def spDe (K : PySem.W.Frag) (n : Nat) : Sp := fun vs H Q _ => ∃ (B b nd : Addr) (kvs : List (Key × V)) (M : Mp), vs = [.ref B, .ref nd] ∧ Box H B b ∧ H nd = some (.dK kvs) ∧ nd ≠ B ∧ Rep (Hd [B] H) kvs M ∧ GoodM n M ∧
  ∀ v d H', Go B H H' → Box H' B b → DdOk d → DdAt K (fr H H') H' v d → Q v H'
set_option maxHeartbeats 0 in
theorem ok_de {n : Nat} (hn : n ≤ 25) {f fD fM fP : Addr} {fd fdD fdM fdP : FuncData} (F : Fun K "_law_deed" "_law_deed" sDe f fd)
    (GD : FnOk P w K mg base CX0 1 fD fdD ["box", "many"] spDraw) (bD : Binds K fdD ["box", "many"] []) (kD : PySem.W.keepIn K (.ref fD) = true) (mD : mg "_law_draw" = some (.ref fD))
    (GM : ∀ d, FnOk P w K mg base CX0 (d + 2) fM fdM ["box", "depth", "inside", "numbers"] (spMsg d)) (bM : Binds K fdM ["box", "depth", "inside", "numbers"] []) (kM : PySem.W.keepIn K (.ref fM) = true) (mM : mg "_law_message" = some (.ref fM))
    (GP : FnOk P w K mg base CX0 30 fP fdP ["box", "message"] (spPa K)) (bP : Binds K fdP ["box", "message"] []) (kP : PySem.W.keepIn K (.ref fP) = true) (mP : mg "_law_path" = some (.ref fP)) :
    FnOk P w K mg base CX0 31 f fd ["box", "now"] (spDe K n) := by
  refine F.ok scDe (fun vs H Q E h => ?_) (fun cdv A outer s H vs Q E hr h => ?_)
  · obtain ⟨B, b, nd, kvs, M, rfl, _⟩ := h
    rfl
  obtain ⟨B, b, nw, kvs, M, rfl, hb, hnw, hne, hrep, hgood, q⟩ := h
  have nd := scDe.nd
  have hu : (A.deeper (PyProof.Rows.envOfC "_law_deed" (defScope sDe) s.heap.objs.size f cdv)).units + 1 < cLine := by
    have := hr.un
    omega
  refine ⟨_, (pss_cons (ps_set (i := 2) nd rfl (.inl rfl) (pe_lst (pa_cons pe_str (pa_cons pe_str (pa_cons pe_str (pa_cons pe_str pa_nil))))))
      (pss_cons (ps_set (i := 3) nd rfl (.inl rfl) (pe_ix ix_list (pv 2) (pe_call GD (hr.mono (by decide)) rfl mD kD bD .nil pass0 (pa_cons (pv 0) (pa_cons pe_int pa_nil))) (fun _ _ => rfl)))
      (pss_cons (ps_set (i := 4) nd rfl (.inl rfl) (pe_call GD (hr.mono (by decide)) rfl mD kD bD .nil pass0 (pa_cons (pv 0) (pa_cons pe_int pa_nil))))
      (pss_cons (ps_if (pt_cmpR op_lt (pv 4) pe_int (nomark _)) (pss_one (ps_ret (pe_tup (pa_cons pe_str (pa_cons (pv 3) (pa_cons (pe_call (GM 2) (hr.mono (by decide)) rfl mM kM bM .nil pass0 (pa_cons (pv 0) (pa_cons pe_int (pa_cons pe_bl (pa_cons (pe_lst (pa_cons pe_str (pa_cons pe_str pa_nil))) pa_nil))))) pa_nil)))))) pss_nil)
      (pss_cons (ps_if (pt_cmpR op_eq (pv 4) pe_int (nomark _)) (pss_one (ps_ret (pe_tup (pa_cons pe_str (pa_cons (pv 3) pa_nil))))) pss_nil)
      (pss_cons (ps_if (pt_cmpR op_lt (pv 4) pe_int (nomark _)) (pss_one (ps_ret (pe_tup (pa_cons pe_str pa_nil)))) pss_nil)
      (pss_one (ps_ret (pe_tup (pa_cons pe_str (pa_cons (pv 3) (pa_cons (pe_call GP hr rfl mP kP bP .nil pass0 (pa_cons (pv 0) (pa_cons (pe_dget2 hu (pv 1) (pv 3) (pe_lst pa_nil) ⟨rfl, rfl, rfl, rfl⟩) pa_nil))) (pa_cons (pe_call (GM 1) (hr.mono (by decide)) rfl mM kM bM .nil pass0 (pa_cons (pv 0) (pa_cons pe_int (pa_cons pe_bl (pa_cons (pe_lst (pa_cons pe_str (pa_cons pe_str pa_nil))) pa_nil))))) pa_nil))))))))))))), ?_⟩
  refine ⟨by show 4 ≤ sizeLine; decide, fun kl hkl => ?_⟩
  have s1 : Same H (upd H kl (.lst [.str "a", .str "b", .str "files", .str "zz"])) := same_new hkl _
  have hkl1 : upd H kl (.lst [.str "a", .str "b", .str "files", .str "zz"]) kl = some (.lst [.str "a", .str "b", .str "files", .str "zz"]) := upd_same
  generalize upd H kl (.lst [.str "a", .str "b", .str "files", .str "zz"]) = H1 at s1 hkl1
  have b1 := hb.same s1
  have klB : kl ≠ B := hb.neB hkl
  refine ⟨_, rfl, _, rfl, B, b, 4, rfl, by decide, b1, fun x H2 x0 x4 g2 b2 => ?_⟩
  obtain ⟨k, hk1, hkt⟩ := pick (l := keys4) (g := V.str) x0 (by show x < ((4 : Nat) : Int); omega)
  refine ⟨kl, _, x, .str k, rfl, rfl, SqL.of (g2.ext _ _ klB hkl1), hkt, ?_⟩
  refine ⟨_, rfl, B, b, 9, rfl, by decide, b2, fun kind H3 k0 k9 g3 b3 => ?_⟩
  have g03 : Go B H H3 := ((Go.same s1).trans g2).trans g3
  have hB0 := hb.isB
  obtain ⟨ob, hB⟩ := hB0
  refine ⟨_, rfl, _, _, rfl, rfl, _, rfl, ite2 (fun c => ?_) (fun c => ?_)⟩
  · refine ⟨_, rfl, _, rfl, by show 2 ≤ sizeLine; decide, fun na hna => ⟨B, b, na, false, rfl, b3.new hna _, upd_same, fun r H4 t g4 b4 hat gt zt _ => ⟨by show 3 ≤ sizeLine; decide, fun tp htp => ?_⟩⟩⟩
    have g34 : Go B H3 H4 := (Go.new hna _).trans g4
    have st : Same H4 (upd H4 tp (.tup [.str "put", .str k, .ref r])) := same_new htp _
    obtain ⟨o3, dt⟩ := gd_ok gt
    have z2 : msgW 2 ≤ 1900 := by decide
    refine q _ (.put k t) _ ((g03.trans g34).trans (Go.same st)) (b4.same st) ⟨hk1, o3, by omega, by omega⟩ ⟨tp, r, rfl, upd_same, ?_⟩
    exact (hat.same (fr_dom ((g03.trans (Go.new hna _)).dom))).same (fr_same st)
  refine ⟨_, rfl, rfl, _, rfl, ite2 (fun c2 => ?_) (fun c2 => ?_)⟩
  · refine ⟨_, rfl, by show 2 ≤ sizeLine; decide, fun tp htp => ?_⟩
    have st : Same H3 (upd H3 tp (.tup [.str "drop", .str k])) := same_new htp _
    exact q _ (.drop k) _ (g03.trans (Go.same st)) (b3.same st) hk1 ⟨tp, rfl, upd_same⟩
  refine ⟨_, rfl, _, _, rfl, rfl, _, rfl, ite2 (fun c3 => ?_) (fun c3 => ?_)⟩
  · refine ⟨by show 1 ≤ sizeLine; decide, fun tp htp => ?_⟩
    have st : Same H3 (upd H3 tp (.tup [.str "undo"])) := same_new htp _
    exact q _ .undo _ (g03.trans (Go.same st)) (b3.same st) trivial ⟨tp, rfl, upd_same⟩
  have hnw3 := g03.ext _ _ hne hnw
  refine ⟨_, rfl, _, rfl, _, rfl, nw, rfl, .inl ⟨kvs, .inl hnw3⟩, _, rfl, Nat.zero_le _, fun el hel => ?_⟩
  have se : Same H3 (upd H3 el (.lst [])) := same_new hel _
  have hel4 : upd H3 el (.lst []) el = some (.lst []) := upd_same
  generalize upd H3 el (.lst []) = H4 at se hel4
  have g04 := g03.trans (Go.same (B := B) se)
  have b4 := b3.same se
  refine ⟨_, DGet.k (k := .inr k) (se _ _ hnw3), ?_⟩
  have there : ∃ (a : Addr) (t : T), (valV kvs (.inr k)).getD (.ref el) = .ref a ∧ At H4 a t ∧ Wf t false ∧ Kd t ∧ t.sz ≤ 6000 ∧ t.dep ≤ 28 := by
    cases hv : valV kvs (.inr k) with
    | none => exact ⟨el, .nil, rfl, ⟨[], hel4, rfl⟩, trivial, trivial, Nat.zero_le _, Nat.zero_le _⟩
    | some v =>
      obtain ⟨a, t, rfl, ha, hM⟩ := hrep.sm k v hv
      obtain ⟨_, o4⟩ := hgood k t hM
      have := o4.dep
      have := o4.sz
      refine ⟨a, t, rfl, ha.same fun x o hx => ?_, o4.ok.wf, o4.ok.kd, by omega, by omega⟩
      obtain ⟨h1, h2⟩ := hd_in hx
      exact g04.ext _ _ (by simpa using h1) h2
  obtain ⟨a, t, ea, hat, hw, hkd, hz, hd⟩ := there
  refine ⟨B, b, a, t, by rw [ea]; rfl, b4, hat, hw, hkd, hz, hd, fun yv p H5 g5 b5 hp hpo => ?_⟩
  refine ⟨_, rfl, by show 2 ≤ sizeLine; decide, fun na hna => ⟨B, b, na, false, rfl, b5.new hna _, upd_same, fun r H6 m g6 b6 hatm gm zm _ => ⟨by show 4 ≤ sizeLine; decide, fun tp htp => ?_⟩⟩⟩
  have g56 : Go B H5 H6 := (Go.new hna _).trans g6
  have st : Same H6 (upd H6 tp (.tup [.str "change", .str k, yv, .ref r])) := same_new htp _
  obtain ⟨o3, dt⟩ := gd_ok gm
  have z1 : msgW 1 ≤ 140 := by decide
  refine q _ (.chg k p m) _ (((g04.trans g5).trans g56).trans (Go.same st)) (b6.same st) ⟨hk1, hpo, o3, dt, by omega⟩ ⟨tp, yv, r, rfl, upd_same, (hp.tk (Tk.go b5 g56)).same st, ?_⟩
  exact (hatm.same (fr_dom (((g04.trans g5).trans (Go.new hna _)).dom))).same (fr_same st)
end
end Mw

namespace Mw
open PySem L2 Gg
theorem valV_take {κ : Type} [DecidableEq κ] : ∀ {kvs : List (κ × V)} {i : Nat} {k : κ} {v : V}, (kvs.map (·.1)).Nodup → kvs[i]? = some (k, v) → valV (kvs.take i) k = none ∧ valV kvs k = some v
  | [], i, k, v, _, h => by simp at h
  | p :: r, 0, k, v, _, h => by
    have e : p = (k, v) := by simpa using h
    subst e
    exact ⟨rfl, valV_pos rfl⟩
  | p :: r, i + 1, k, v, n, h => by
    have h' : r[i]? = some (k, v) := by simpa using h
    obtain ⟨n1, n2⟩ := List.nodup_cons.mp (show (p.1 :: r.map (·.1)).Nodup from n)
    have hne : ¬ p.1 = k := fun e => n1 (e ▸ List.mem_map.mpr ⟨_, List.mem_of_getElem? h', rfl⟩)
    obtain ⟨g1, g2⟩ := valV_take n2 h'
    exact ⟨by rw [List.take_succ_cons, valV_neg hne]; exact g1, by rw [valV_neg hne]; exact g2⟩
theorem hd_cons {L : List Addr} {n : Addr} {H : Hp} : Same (Hd (n :: L) H) (Hd L H) := fun a o h => by
  obtain ⟨h1, h2⟩ := hd_in h
  rw [hd_off fun c => h1 (List.mem_cons_of_mem _ c)]
  exact h2
theorem hd_up {L : List Addr} {n : Addr} {H H' : Hp} (hn : H n = none) (s : Same H H') : Same (Hd L H) (Hd (n :: L) H') := fun a o h => by
  obtain ⟨h1, h2⟩ := hd_in h
  have hne : a ≠ n := ne_of_none h2 hn
  rw [hd_off (by rw [List.mem_cons]; rintro (z | z); exact hne z; exact h1 z)]
  exact s _ _ h2
theorem hd_cb {L : List Addr} {H H' : Hp} (s : Same H H') (hL : ∀ l ∈ L, ∃ o, H l = some o) : Same (cb (Hd L H) H H') (Hd L H') := fun a o h => by
  rcases cb_in h with ⟨_, h1⟩ | ⟨h0, h1⟩
  · obtain ⟨g1, g2⟩ := hd_in h1
    rw [hd_off g1]
    exact s _ _ g2
  · rw [hd_off fun c => ?_]
    · exact h1
    · obtain ⟨u, hu⟩ := hL a c
      rw [h0] at hu
      cases hu
theorem fit_at {t : T} : ∀ {p : Pth} {m : T}, Fit t → atP t p = some m → Fit m := by
  intro p
  induction p generalizing t with
  | nil => intro m f h; cases h; exact f
  | cons x p ih =>
    intro m f h
    cases hs : stn t x with
    | none => simp [atP, hs] at h
    | some y =>
      obtain ⟨u, j, i⟩ := y
      obtain ⟨h1, h2, _, _⟩ := stn_inner hs
      exact ih (f.step (List.mem_of_getElem? h1) (List.mem_of_getElem? h2)) (by simpa [atP, hs] using h)
theorem upd_id {H : Hp} {a : Addr} {o : HO} (h : H a = some o) : upd H a o = H := by
  funext b
  by_cases e : b = a
  · rw [e, upd_same, h]
  · rw [upd_ne e]
theorem upd_two {H : Hp} {a : Addr} {o o' : HO} : upd (upd H a o) a o' = upd H a o' := by
  funext b
  by_cases e : b = a
  · rw [e, upd_same, upd_same]
  · rw [upd_ne e, upd_ne e, upd_ne e]
theorem ds_no {a b : Str} (h : a ≠ b) : decide (V.str a = V.str b) = false := decide_eq_false fun z => h (str_eq z)
theorem ds_yes (a : Str) : decide (V.str a = V.str a) = true := decide_eq_true rfl
section
variable {P : Program} {w : World} {K : PySem.W.Frag} {mg : Str → Option Value} {base : Heap}
abbrev sDn : Stmt := top 33
theorem scDn : FnScope ["states", "deed", "now", "key", "there", "message"] ["states", "deed"] (defScope sDn) := ⟨rfl, rfl, rfl, by decide +kernel, rfl, by decide +kernel, by decide +kernel⟩
def spDn (K : PySem.W.Frag) (n : Nat) : Sp := fun vs H Q _ => ∃ (sl d : Addr) (ds L : List Addr) (v : V) (kvs : List (Key × V)) (M : Mp) (dd : Dd), vs = [.ref sl, v] ∧ H sl = some (.lst ((ds ++ [d]).map V.ref)) ∧ ds.length < 1000 ∧ sl ∈ L ∧ d ∉ L ∧ Mu L H ∧ H d = some (.dK kvs) ∧ Rep (Hd L H) kvs M ∧ GoodM n M ∧
  DdAt K (Hd L H) (Hd L H) v dd ∧ DdOk dd ∧
  (dd = .undo → (ds = [] → ∀ H', Same H H' → Q (.bl false) H') ∧ (ds ≠ [] → ∀ H', Mb [sl] H H' → H' sl = some (.lst (ds.map V.ref)) → Q (.bl true) H')) ∧
  (dd ≠ .undo → ((stepM M dd).1 = none → ∀ v' H', Same H H' → AnAt K (Hd L H') v' (stepM M dd).2 → Q v' H') ∧
    ∀ k x, (stepM M dd).1 = some (k, x) → ∀ v' H' d' kvs', Mb [sl] H H' → H d' = none → H' sl = some (.lst ((ds ++ [d] ++ [d']).map V.ref)) → H' d' = some (.dK kvs') → Rep (Hd L H') kvs' (upM M k x) → AnAt K (Hd L H') v' (stepM M dd).2 → Q v' H')
set_option maxHeartbeats 0 in
theorem ok_dn {n : Nat} (hn : n ≤ 25) {f fL fA fU : Addr} {fd fdL fdA fdU : FuncData} (F : Fun K "_law_done" "_law_done" sDn f fd)
    (GL : FnOk P w K mg base CX0 41 fL fdL ["message"] (spLpl 40)) (bL : Binds K fdL ["message"] []) (kL : PySem.W.keepIn K (.ref fL) = true) (mL : mg "_law_plain" = some (.ref fL))
    (GA : FnG P w K mg base CX0 2 fA fdA ["message", "path"] (spLa K)) (bA : Binds K fdA ["message", "path"] []) (kA : PySem.W.keepIn K (.ref fA) = true) (mA : mg "_law_at" = some (.ref fA))
    (GU : FnG P w K mg base CX0 42 fU fdU ["message", "path", "inner"] (spPu K 40)) (bU : Binds K fdU ["message", "path", "inner"] []) (kU : PySem.W.keepIn K (.ref fU) = true) (mU : mg "_law_put" = some (.ref fU))
    (ml : mg "len" = none) : FnG P w K mg base CX0 43 f fd ["states", "deed"] (spDn K n) := by
  refine okG F scDn (fun vs H Q E h => ?_) (fun A cdv outer s H vs Q E gd hr h => ?_)
  · obtain ⟨sl, d, ds, L, v, kvs, M, dd, rfl, _⟩ := h
    rfl
  obtain ⟨sl, d, ds, L, v, kvs, M, dd, rfl, hsl, hdl, slL, dL, mu, hd, hrep, hgood, hda, hdo, qu, qs⟩ := h
  have nd := scDn.nd
  have hu : (A.deeper (PyProof.Rows.envOfC "_law_done" (defScope sDn) s.heap.objs.size f cdv)).units + 1 < cLine := by
    have := hr.un
    omega
  refine ⟨_, (pss_cons (ps_set (i := 2) nd rfl (.inl rfl) pe_dnewK)
      (pss_cons (ps_lock (ps_for PassesOwn.never rfl (pi_keys (pe_ix ix_list (pv 0) (pe_un un_neg pe_int) (fun _ _ => rfl))) (pg_name (i := 3) nd rfl (.inl rfl)) (pss_one (ps_dput hu (pv 2) (pv 3) (pe_dget hu (pe_ix ix_list (pv 0) (pe_un un_neg pe_int) (fun _ _ => rfl)) (pv 3) (fun _ _ => rfl)) rfl))))
      (pss_cons (ps_if (pt_cmpR op_eq (pe_ix ix_tup (pv 1) pe_int (fun _ _ => rfl)) pe_str (nomark _)) (pss_cons (ps_if (pt_cmpR op_eq (pe_callB call_len_seq (by rfl) ml PySem.boot_len (pa_cons (pv 0) pa_nil)) pe_int (nomark _)) (pss_one (ps_ret pe_bl)) pss_nil)
      (pss_cons (ps_expr (pe_bm0 PySem.F.plainAttrs_list PySem.F.slot_list_pop PySem.F.type_list_pop mt_pop (pv 0)))
      (pss_one (ps_ret pe_bl)))) pss_nil)
      (pss_cons (ps_set (i := 3) nd rfl (.inl rfl) (pe_ix ix_tup (pv 1) pe_int (fun _ _ => rfl)))
      (pss_cons (ps_set (i := 4) nd rfl (.inl rfl) (pe_cmp (pc_din hu (pv 3) (pv 2))))
      (pss_cons (ps_if (pt_cmpR op_eq (pe_ix ix_tup (pv 1) pe_int (fun _ _ => rfl)) pe_str (nomark _)) (pss_cons (ps_dput hu (pv 2) (pv 3) (pe_call GL (hr.mono (by decide)) rfl mL kL bL .nil pass0 (pa_cons (pe_ix ix_tup (pv 1) pe_int (fun _ _ => rfl)) pa_nil)) rfl)
      (pss_cons (ps_expr (pe_bm PySem.F.plainAttrs_list PySem.F.slot_list_append PySem.F.type_list_append mt_append (pv 0) (pa_cons (pv 2) pa_nil)))
      (pss_one (ps_ret (pv 4))))) pss_nil)
      (pss_cons (ps_if (pt_not (pt_val (pv 4))) (pss_one (ps_ret (pe_tup (pa_cons pe_str (pa_cons (pv 3) pa_nil))))) pss_nil)
      (pss_cons (ps_if (pt_cmpR op_eq (pe_ix ix_tup (pv 1) pe_int (fun _ _ => rfl)) pe_str (nomark _)) (pss_cons (ps_set (i := 5) nd rfl (.inl rfl) (pe_dpop1 (pv 2) (pv 3) ⟨rfl, rfl, rfl, rfl⟩))
      (pss_cons (ps_expr (pe_bm PySem.F.plainAttrs_list PySem.F.slot_list_append PySem.F.type_list_append mt_append (pv 0) (pa_cons (pv 2) pa_nil)))
      (pss_one (ps_ret (pv 5))))) pss_nil)
      (pss_cons (ps_if (pt_cmpR (op_eqE (rm_un hr)) (pe_callG gd GA (hr.mono (by decide)) rfl mA kA bA .nil pass0 (pa_cons (pe_dget hu (pv 2) (pv 3) (fun _ _ => rfl)) (pa_cons (pe_ix ix_tup (pv 1) pe_int (fun _ _ => rfl)) pa_nil))) (pe_lst pa_nil) (nomark _)) (pss_one (ps_ret (pe_tup (pa_cons pe_str (pa_cons (pe_ix ix_tup (pv 1) pe_int (fun _ _ => rfl)) pa_nil))))) pss_nil)
      (pss_cons (ps_dput hu (pv 2) (pv 3) (pe_call GL (hr.mono (by decide)) rfl mL kL bL .nil pass0 (pa_cons (pe_callG gd GU (hr.mono (by decide)) rfl mU kU bU .nil pass0 (pa_cons (pe_dget hu (pv 2) (pv 3) (fun _ _ => rfl)) (pa_cons (pe_ix ix_tup (pv 1) pe_int (fun _ _ => rfl)) (pa_cons (pe_ix ix_tup (pv 1) pe_int (fun _ _ => rfl)) pa_nil)))) pa_nil)) rfl)
      (pss_cons (ps_expr (pe_bm PySem.F.plainAttrs_list PySem.F.slot_list_append PySem.F.type_list_append mt_append (pv 0) (pa_cons (pv 2) pa_nil)))
      (pss_one (ps_ret pe_bl))))))))))))), ?_⟩
  refine fun nw hnw => ?_
  have s1 : Same H (upd H nw (.dK [])) := same_new hnw _
  have dnw : d ≠ nw := ne_of_none hd hnw
  refine ⟨d, .dK kvs, s1 _ _ hd, trivial, fun od => ?_⟩
  have hst : ∀ {H' : Hp}, H' sl = some (.lst ((ds ++ [d]).map V.ref)) → SqL K H' sl (ds.map V.ref ++ [V.ref d]) := fun {H'} e => SqL.of (by rw [e, List.map_append]; rfl)
  have nsd : sl ≠ d := fun e => by
    rw [e, hd] at hsl
    cases hsl
  have nsw : sl ≠ nw := ne_of_none hsl hnw
  have hlF : upd (upd H nw (.dK [])) d (.frz od (.dK kvs)) sl = some (.lst ((ds ++ [d]).map V.ref)) := by rw [upd_ne nsd, upd_ne nsw]; exact hsl
  refine ⟨_, rfl, 1, rfl, sl, _, -1, .ref d, rfl, rfl, hst hlF, atI_last _ _, d, od, rfl, .inl ⟨kvs, upd_same, for_it walk_keys (fun i σ H' => (∃ o3, σ = [some (.ref sl), some v, some (.ref nw), o3, none, none]) ∧ H' = upd (upd (upd H nw (.dK [])) d (.frz od (.dK kvs))) nw (.dK (kvs.take i)))
    ⟨⟨none, rfl⟩, (upd_id (by rw [upd_ne dnw.symm]; exact upd_same)).symm⟩ ?_ ?_ ?_⟩⟩
  · rintro i σ H' _ ⟨_, rfl⟩
    rw [upd_ne dnw]
    exact upd_same
  · rintro i x σ H' H'' hi ⟨⟨o3, rfl⟩, rfl⟩ ⟨rfl, k, v0, hk, rfl⟩
    obtain ⟨t1, t2⟩ := valV_take hrep.nod hk
    have hs2 : upd (upd (upd H nw (.dK [])) d (.frz od (.dK kvs))) nw (.dK (kvs.take i)) sl = some (.lst ((ds ++ [d]).map V.ref)) := by rw [upd_ne nsw]; exact hlF
    have hd2 : upd (upd (upd H nw (.dK [])) d (.frz od (.dK kvs))) nw (.dK (kvs.take i)) d = some (.frz od (.dK kvs)) := by rw [upd_ne dnw]; exact upd_same
    refine ⟨_, rfl, 1, rfl, sl, _, -1, .ref d, rfl, rfl, hst hs2, atI_last _ _, _, rfl, d, v0, rfl, .inl ⟨kvs, k, .inr ⟨od, hd2⟩, rfl, t2.symm⟩, _, rfl, _, rfl, nw, _, rfl, DPut.k (k := k) upd_same (sz_line (by rw [List.length_take]; have := hrep.len; omega)), ⟨_, rfl⟩, ?_⟩
    rw [upd_two, putK_new v0 t1, List.take_succ, hk]
    rfl
  · rintro σ H' ⟨⟨o3, rfl⟩, rfl⟩
    refine ⟨by rw [upd_ne dnw]; exact upd_same, ?_⟩
    rw [List.take_length]
    have s2 : Same H (upd (upd (upd (upd H nw (.dK [])) d (.frz od (.dK kvs))) nw (.dK kvs)) d (.dK kvs)) := fun b o hb => by
      have b1 : b ≠ nw := ne_of_none hb hnw
      by_cases b2 : b = d
      · subst b2
        rw [upd_same, ← hb, hd]
      · rw [upd_ne b2, upd_ne b1, upd_ne b2, upd_ne b1]
        exact hb
    have hw2 : upd (upd (upd (upd H nw (.dK [])) d (.frz od (.dK kvs))) nw (.dK kvs)) d (.dK kvs) nw = some (.dK kvs) := by rw [upd_ne dnw.symm]; exact upd_same
    generalize upd (upd (upd (upd H nw (.dK [])) d (.frz od (.dK kvs))) nw (.dK kvs)) d (.dK kvs) = H2 at s2 hw2 ⊢
    have up2 : Same (Hd L H) (Hd (nw :: L) H2) := hd_up hnw s2
    have rep2 := hrep.same up2
    have hda2 := hda.same up2 up2
    have mu2 : Mu (nw :: L) H2 := by
      intro l hl
      rcases List.mem_cons.mp hl with rfl | hl
      · exact ⟨_, hw2, trivial⟩
      · obtain ⟨o, h1, h2⟩ := mu l hl
        exact ⟨o, s2 _ _ h1, h2⟩
    have hsl2 := s2 _ _ hsl
    have tupH : ∀ {p : Addr} {xs : List V}, Hd (nw :: L) H2 p = some (.tup xs) → H2 p = some (.tup xs) := fun h => hd_out _ _ h
    have nwL : nw ∉ L := fun c => by
      obtain ⟨o, e, _⟩ := mu nw c
      rw [hnw] at e
      cases e
    have kl4 := hrep.len
    have fin : ∀ (H3 : Hp) (kvs' : List (Key × V)) (k : Str) (x : Option T) (v' : V), Same H2 H3 → (stepM M dd).1 = some (k, x) → Rep (Hd (nw :: L) H3) kvs' (upM M k x) → AnAt K (Hd (nw :: L) H3) v' (stepM M dd).2 → dd ≠ .undo →
        Q v' (upd (upd H3 nw (.dK kvs')) sl (.lst ((ds ++ [d]).map V.ref ++ [V.ref nw]))) := fun H3 kvs' k x v' s3 he hr' ha' hdu => by
      have m34 : Mb (nw :: L) H3 (upd (upd H3 nw (.dK kvs')) sl (.lst ((ds ++ [d]).map V.ref ++ [V.ref nw]))) := (Mb.upd (by simp) _).trans (Mb.upd (List.mem_cons_of_mem _ slL) _)
      refine (qs hdu).2 k x he v' _ nw kvs' ((Mb.of (same_mut (s2.trans s3) hnw _)).trans (Mb.upd (by simp) _)) hnw ?_ ?_ ((hr'.same (hd_mb m34)).same hd_cons) ((ha'.same (hd_mb m34)).same hd_cons)
      · rw [upd_same, List.map_append (l₂ := [nw])]
        rfl
      · rw [upd_ne nsw.symm]
        exact upd_same
    have slz : ((ds ++ [d]).map V.ref).length < 10000 := by
      rw [List.length_map, List.length_append, List.length_singleton]
      omega
    cases dd with
    | undo =>
      obtain ⟨p, rfl, hp⟩ := hda2
      refine ⟨_, rfl, p, _, 0, .str "undo", rfl, rfl, .inl (.inl (tupH hp)), atI_nat (j := 0) rfl, rfl, _, rfl, ?_⟩
      rw [ds_yes]
      obtain ⟨q1, q2⟩ := qu rfl
      refine iteT ⟨_, rfl, sl, _, rfl, .inl (hst hsl2), rfl, _, rfl, ?_⟩
      rcases List.eq_nil_or_concat ds with rfl | ⟨es, e, rfl⟩
      · exact iteT (q1 rfl H2 s2)
      · have hne : decide (V.int (((es.concat e).map V.ref ++ [V.ref d]).length : Int) = V.int 1) = false := decide_eq_false fun z => by
          have z' : (((es.concat e).map V.ref ++ [V.ref d]).length : Int) = 1 := by injection z
          rw [List.length_append, List.length_map, List.length_concat, List.length_singleton] at z'
          omega
        rw [hne]
        refine iteF ⟨_, rfl, .inl ⟨rfl, _, hst hsl2⟩, sl, _, .ref d, rfl, rfl, hsl2, by rw [List.map_append]; simp, ?_⟩
        refine q2 (by simp) _ ((Mb.of s2).trans (Mb.upd (by simp) _)) ?_
        rw [upd_same, List.map_append]
        simp
    | put k t =>
      obtain ⟨p, a, rfl, hp, hat⟩ := hda2
      have hp2 := tupH hp
      refine ⟨_, rfl, p, _, 0, .str "put", rfl, rfl, .inl (.inl hp2), atI_nat (j := 0) rfl, rfl, _, rfl, ?_⟩
      rw [ds_no (by decide)]
      refine iteF ⟨_, rfl, p, _, 1, .str k, rfl, rfl, .inl (.inl hp2), atI_nat (j := 1) rfl, _, rfl, _, rfl, nw, _, rfl, DGet.k (k := .inr k) hw2, ?_⟩
      refine ⟨_, rfl, p, _, 0, .str "put", rfl, rfl, .inl (.inl hp2), atI_nat (j := 0) rfl, rfl, _, rfl, ?_⟩
      rw [ds_yes]
      have o4 := hdo.2
      refine iteT ⟨_, rfl, p, _, 2, .ref a, rfl, rfl, .inl (.inl hp2), atI_nat (j := 2) rfl, a, t, Hd (nw :: L) H2, rfl, hd_out, hat, o4.ok.wf, by have := o4.dep; omega, by have := o4.sz; omega, fun l H3 hl s3 hat3 => ?_⟩
      have hw3 := s3 _ _ hw2
      refine ⟨_, rfl, _, rfl, nw, _, rfl, DPut.k (k := .inr k) hw3 (sz_line (by omega)), ?_⟩
      have hsl3 : upd H3 nw (.dK (putK kvs (.inr k) (.ref l))) sl = some (.lst ((ds ++ [d]).map V.ref)) := by rw [upd_ne nsw]; exact s3 _ _ hsl2
      refine ⟨_, rfl, .inl ⟨rfl, _, SqL.of hsl3⟩, _, rfl, sl, _, _, rfl, rfl, hsl3, sz_line (by omega), _, rfl, ?_⟩
      refine fin H3 _ k _ _ s3 rfl ((rep2.same (hd_mb (Mb.of s3))).put hdo.1 (hat3.same (hd_cb s3 mu2.ex))) ?_ (by intro z; cases z)
      show V.bl _ = V.bl _
      cases hv : valV kvs (.inr k) with
      | none => rw [hrep.nn k hv]; rfl
      | some u =>
        obtain ⟨_, _, _, _, h3⟩ := hrep.sm k u hv
        rw [h3]
        rfl
    | drop k =>
      obtain ⟨p, rfl, hp⟩ := hda2
      have hp2 := tupH hp
      refine ⟨_, rfl, p, _, 0, .str "drop", rfl, rfl, .inl (.inl hp2), atI_nat (j := 0) rfl, rfl, _, rfl, ?_⟩
      rw [ds_no (by decide)]
      refine iteF ⟨_, rfl, p, _, 1, .str k, rfl, rfl, .inl (.inl hp2), atI_nat (j := 1) rfl, _, rfl, _, rfl, nw, _, rfl, DGet.k (k := .inr k) hw2, ?_⟩
      refine ⟨_, rfl, p, _, 0, .str "drop", rfl, rfl, .inl (.inl hp2), atI_nat (j := 0) rfl, rfl, _, rfl, ?_⟩
      rw [ds_no (by decide)]
      refine iteF ⟨_, rfl, _, rfl, ?_⟩
      cases hv : valV kvs (.inr k) with
      | none =>
        have hM := hrep.nn k hv
        refine iteT ⟨_, rfl, by show 2 ≤ sizeLine; decide, fun tp htp => ?_⟩
        have st : Same H (upd H2 tp (.tup [.str "no key", .str k])) := s2.trans (same_new htp _)
        have e : stepM M (.drop k) = (none, .nok k) := by simp only [stepM, hM]
        refine (qs (by intro z; cases z)).1 (by rw [e]) _ _ st ?_
        rw [e]
        refine ⟨tp, rfl, ?_⟩
        rw [hd_off fun c => by obtain ⟨o, h⟩ := mu.ex tp c; rw [s2.free htp] at h; cases h]
        exact upd_same
      | some u =>
        obtain ⟨a, t, rfl, hat, hM⟩ := rep2.sm k u hv
        have e : stepM M (.drop k) = (some (k, none), .msg t) := by simp only [stepM, hM]
        refine iteF ⟨_, rfl, p, _, 0, .str "drop", rfl, rfl, .inl (.inl hp2), atI_nat (j := 0) rfl, rfl, _, rfl, ?_⟩
        rw [ds_yes]
        refine iteT ⟨_, rfl, nw, rfl, .inl ⟨kvs, .inl hw2⟩, _, rfl, kvs, .inr k, .ref a, hw2, rfl, hv, ?_⟩
        have hsl3 : upd H2 nw (.dK (dropK kvs (.inr k))) sl = some (.lst ((ds ++ [d]).map V.ref)) := by rw [upd_ne nsw]; exact hsl2
        refine ⟨_, rfl, .inl ⟨rfl, _, SqL.of hsl3⟩, _, rfl, sl, _, _, rfl, rfl, hsl3, sz_line (by omega), _, rfl, ?_⟩
        exact fin H2 _ k none _ (Same.refl _) (by rw [e]) rep2.drop (by rw [e]; exact ⟨a, rfl, hat⟩) (by intro z; cases z)
    | chg k p m =>
      obtain ⟨q', yv, mi, rfl, hp, hpy, hmi⟩ := hda2
      have hp2 := tupH hp
      refine ⟨_, rfl, q', _, 0, .str "change", rfl, rfl, .inl (.inl hp2), atI_nat (j := 0) rfl, rfl, _, rfl, ?_⟩
      rw [ds_no (by decide)]
      refine iteF ⟨_, rfl, q', _, 1, .str k, rfl, rfl, .inl (.inl hp2), atI_nat (j := 1) rfl, _, rfl, _, rfl, nw, _, rfl, DGet.k (k := .inr k) hw2, ?_⟩
      refine ⟨_, rfl, q', _, 0, .str "change", rfl, rfl, .inl (.inl hp2), atI_nat (j := 0) rfl, rfl, _, rfl, ?_⟩
      rw [ds_no (by decide)]
      refine iteF ⟨_, rfl, _, rfl, ?_⟩
      cases hv : valV kvs (.inr k) with
      | none =>
        have hM := hrep.nn k hv
        refine iteT ⟨_, rfl, by show 2 ≤ sizeLine; decide, fun tp htp => ?_⟩
        have st : Same H (upd H2 tp (.tup [.str "no key", .str k])) := s2.trans (same_new htp _)
        have e : stepM M (.chg k p m) = (none, .nok k) := by simp only [stepM, hM]
        refine (qs (by intro z; cases z)).1 (by rw [e]) _ _ st ?_
        rw [e]
        refine ⟨tp, rfl, ?_⟩
        rw [hd_off fun c => by obtain ⟨o, h⟩ := mu.ex tp c; rw [s2.free htp] at h; cases h]
        exact upd_same
      | some u =>
        obtain ⟨a, t, rfl, hat, hM⟩ := rep2.sm k u hv
        obtain ⟨_, o4⟩ := hgood k t hM
        have ft := o4.fit (by omega)
        have hv' : ∀ {H' : Hp}, H' nw = some (.dK kvs) → DGet H' nw (.str k) (some (.ref a)) := fun {H'} e => by
          rw [← hv]
          exact DGet.k (k := .inr k) e
        refine iteF ⟨_, rfl, q', _, 0, .str "change", rfl, rfl, .inl (.inl hp2), atI_nat (j := 0) rfl, rfl, _, rfl, ?_⟩
        rw [ds_no (by decide)]
        refine iteF ⟨_, rfl, _, rfl, nw, .ref a, rfl, hv' hw2, _, rfl, q', _, 2, yv, rfl, rfl, .inl (.inl hp2), atI_nat (j := 2) rfl, a, yv, p, t, rfl, hat.same hd_out, ft, hpy.same hd_out, hdo.2.1, fun l H3 s3 hl oat => ?_⟩
        have hw3 := s3 _ _ hw2
        have hp3 := s3 _ _ hp2
        have sn : ∀ {H' : Hp}, Same H2 H' → Same (Hd (nw :: L) H2) (Hd (nw :: L) H') := fun s => hd_mb (Mb.of s)
        cases hA : atP t p with
        | none =>
          rw [hA] at oat
          have e : stepM M (.chg k p m) = (none, .nop p) := by simp only [stepM, hM, hA]
          refine ⟨Nat.zero_le _, fun el hel => ⟨.list [], .list [], .lst (SqL.of ((same_new hel _) _ _ oat)) .nil, .lst (SqL.of upd_same) .nil, shaped_nil, shaped_nil, _, rfl, ?_⟩⟩
          have s4 : Same H3 (upd H3 el (.lst [])) := same_new hel _
          refine iteT ⟨_, rfl, q', _, 2, yv, rfl, rfl, .inl (.inl (s4 _ _ hp3)), atI_nat (j := 2) rfl, by show 2 ≤ sizeLine; decide, fun tp htp => ?_⟩
          have st := (s3.trans s4).trans (same_new htp (.tup [.str "no place", yv]))
          refine (qs (by intro z; cases z)).1 (by rw [e]) _ _ (s2.trans st) ?_
          rw [e]
          refine ⟨tp, yv, rfl, ?_, (hpy.same (sn st)).same hd_cons⟩
          rw [hd_off fun c => by obtain ⟨o, h⟩ := mu.ex tp c; rw [s2.free ((s3.trans s4).free htp)] at h; cases h]
          exact upd_same
        | some m0 =>
          rw [hA] at oat
          obtain ⟨lb, hlb1, hlb2⟩ := oat
          have fm : Fit m0 := fit_at ft hA
          have hne : atP t p ≠ none := by rw [hA]; intro z; cases z
          have e : stepM M (.chg k p m) = (some (k, some (pl ("" : Str) (putP t p m))), .bl true) := by simp only [stepM, hM, hA]
          refine ⟨Nat.zero_le _, fun el hel => ⟨.list [.list (dat m0)], .list [], .lst (SqL.of ((same_new hel _) _ _ hlb1)) (.cons ((hlb2.same (s3.trans (same_new hel _))).dp fm.sok) .nil), .lst (SqL.of upd_same) .nil, fm.shaped, shaped_nil, _, rfl, ?_⟩⟩
          have s24 : Same H2 (upd H3 el (.lst [])) := s3.trans (same_new hel _)
          generalize upd H3 el (.lst []) = H4 at s24 ⊢
          have hw4 := s24 _ _ hw2
          have hp4 := s24 _ _ hp2
          have o5 := put_ok4 o4 hdo.2.2.1 hdo.2.2.2.1 hdo.2.2.2.2 hne
          have hpl := hdo.2.1.1
          have fm' : Fit m := ⟨hdo.2.2.1.wf, hdo.2.2.1.sok, hdo.2.2.1.kd, by have := hdo.2.2.2.1; omega, by have := hdo.2.2.2.2; omega⟩
          refine iteF ⟨_, rfl, _, rfl, nw, .ref a, rfl, hv' hw4, _, rfl, q', _, 2, yv, rfl, rfl, .inl (.inl hp4), atI_nat (j := 2) rfl, _, rfl, q', _, 3, .ref mi, rfl, rfl, .inl (.inl hp4), atI_nat (j := 3) rfl,
            a, mi, yv, p, t, m, Hd (nw :: L) H4, rfl, hd_out, hat.same (sn s24), ft, hmi.same (sn s24), (hpy.same (sn s24)).same hd_out, hdo.2.1, hpl, hne, fun r H5 s5 hr5 => ?_⟩
          have s25 := s24.trans s5
          refine ⟨r, putP t p m, Hd (nw :: L) H5, rfl, hd_out, hr5.same (hd_cb s5 fun l hl => ?_), o5.ok.wf, by have := o5.dep; omega, by have := o5.sz; omega, fun l2 H6 hl2 s6 hat6 => ?_⟩
          · obtain ⟨o, h⟩ := mu2.ex l hl
            exact ⟨o, s24 _ _ h⟩
          have s26 := s25.trans s6
          have hw6 := s26 _ _ hw2
          refine ⟨_, rfl, _, rfl, nw, _, rfl, DPut.k (k := .inr k) hw6 (sz_line (by omega)), ?_⟩
          have hsl6 : upd H6 nw (.dK (putK kvs (.inr k) (.ref l2))) sl = some (.lst ((ds ++ [d]).map V.ref)) := by rw [upd_ne nsw]; exact s26 _ _ hsl2
          refine ⟨_, rfl, .inl ⟨rfl, _, SqL.of hsl6⟩, _, rfl, sl, _, _, rfl, rfl, hsl6, sz_line (by omega), ?_⟩
          refine fin H6 _ k _ _ s26 (by rw [e]) ((rep2.same (sn s26)).put hdo.1 (hat6.same (hd_cb s6 fun l hl => ?_))) (by rw [e]; rfl) (by intro z; cases z)
          obtain ⟨o, h⟩ := mu2.ex l hl
          exact ⟨o, s25 _ _ h⟩
end
end Mw

namespace Mw
open PySem L2
/-! ### the book, told by its states -/
def BkR (C : Addr) (H : Hp) (L : List Addr) (r dx kd bl : Addr) (M0 : Mp) (rs : List Mp) : Prop := ∃ kvs bvs, Bk C H r dx kd bl kvs bvs ∧ Rep (Hd L H) kvs (lastM M0 rs) ∧ Lk (Hd L H) M0 rs bvs
theorem BkR.mb {C : Addr} {H H' : Hp} {L : List Addr} {r dx kd bl : Addr} {M0 : Mp} {rs : List Mp} (b : BkR C H L r dx kd bl M0 rs) (m : Mb L H H') (hr : H' r = H r) (hk : H' kd = H kd) (hb : H' bl = H bl) : BkR C H' L r dx kd bl M0 rs := by
  obtain ⟨kvs, bvs, h1, h2, h3⟩ := b
  exact ⟨kvs, bvs, ⟨by rw [hr]; exact h1.h, by rw [hk]; exact h1.k, by rw [hb]; exact h1.b, h1.z, h1.zb⟩, h2.same (hd_mb m), h3.same (hd_mb m)⟩
theorem mu_two {L : List Addr} {H H' : Hp} {C r dx kd bl : Addr} {kvs : List (Key × V)} {bvs : List V} (mu : Mu L H) (m : Mb [kd, bl] H H') (hb : Bk C H' r dx kd bl kvs bvs) : Mu L H' := fun l hl => by
  by_cases c : l ∈ [kd, bl]
  · simp only [List.mem_cons, List.not_mem_nil, or_false] at c
    rcases c with rfl | rfl
    · exact ⟨_, hb.k, trivial⟩
    · exact ⟨_, hb.b, trivial⟩
  · obtain ⟨o, h1, h2⟩ := mu l hl
    exact ⟨o, m _ _ c h1, h2⟩
section
variable {P : Program} {w : World} {K : PySem.W.Frag} {mg : Str → Option Value} {base : Heap} {C CK CP : Addr}
theorem bkr_step {H H' : Hp} {L : List Addr} {r dx kd bl q : Addr} {M0 : Mp} {rs : List Mp} {kvs kvs' : List (Key × V)} {bvs : List V} {k : Str} {x : Option T} (mu : Mu L H) (hk : k ∈ keys4) (kL : kd ∈ L) (bL : bl ∈ L) (hrep : Rep (Hd L H) kvs (lastM M0 rs)) (hlk : Lk (Hd L H) M0 rs bvs)
    (m : Mb [kd, bl] H H') (hq : H q = none) (hq' : H' q = some (.tup [.str k, was kvs k])) (hb : Bk C H' r dx kd bl kvs' (bvs ++ [.ref q])) (hrep' : Rep (Hd L H') kvs' (upM (lastM M0 rs) k x)) (hx : lastM M0 rs k = none → x.isSome = true) :
    BkR C H' L r dx kd bl M0 (rs ++ [upM (lastM M0 rs) k x]) := by
  have mL : Mb L H H' := m.sub fun l hl => by
    simp only [List.mem_cons, List.not_mem_nil, or_false] at hl
    rcases hl with rfl | rfl
    · exact kL
    · exact bL
  have qL : q ∉ L := fun c => by
    obtain ⟨o, h⟩ := mu.ex q c
    rw [hq] at h
    cases h
  refine ⟨kvs', _, hb, by rw [lastM_snoc]; exact hrep', (hlk.same (hd_mb mL)).snoc (lnk_put (by rw [hd_off qL]; exact hq') hk hx ?_)⟩
  cases hv : valV kvs (.inr k) with
  | none => exact .inl ⟨by rw [was, hv]; rfl, hrep.nn k hv⟩
  | some v =>
    obtain ⟨a, t, rfl, h2, h3⟩ := hrep.sm k v hv
    exact .inr ⟨a, t, by rw [was, hv]; rfl, h2.same (hd_mb mL), h3⟩
/-! ### _law_call -/
/-- which error leaves -/
def errOf (K : PySem.W.Frag) (CK CP : Addr) (L : List Addr) (H : Hp) (E : XK) : An → Prop
  | .nok k => KErr CK H E k
  | .nop p => ∀ yv, PthAt K (Hd L H) p yv → PErr CP H E yv
  | _ => False
abbrev sCa : Stmt := top 34
theorem scCa : FnScope ["book", "deed"] ["book", "deed"] (defScope sCa) := ⟨rfl, rfl, rfl, by decide +kernel, rfl, by decide +kernel, by decide +kernel⟩
/-- what is asked of the book and the deed -/
structure Asks (K : PySem.W.Frag) (C : Addr) (n : Nat) (H : Hp) (L : List Addr) (r dx kd bl : Addr) (M0 : Mp) (rs : List Mp) (v : V) (dd : Dd) : Prop where
  bk : BkR C H L r dx kd bl M0 rs
  mu : Mu L H
  kL : kd ∈ L
  bL : bl ∈ L
  gd : GoodM n (lastM M0 rs)
  at_ : DdAt K (Hd L H) (Hd L H) v dd
  ok : DdOk dd
  rl : rs.length ≤ 50
def Says (K : PySem.W.Frag) (C : Addr) (H : Hp) (L : List Addr) (r dx kd bl : Addr) (M0 : Mp) (rs : List Mp) (dd : Dd) (Q : VK) : Prop :=
  (dd = .undo → (rs = [] → ∀ H', Same H H' → Q (.bl false) H') ∧ ∀ rs' M', rs = rs' ++ [M'] → ∀ H', Mb [kd, bl] H H' → BkR C H' L r dx kd bl M0 rs' → Q (.bl true) H') ∧
  (dd ≠ .undo → ∀ k x, (stepM (lastM M0 rs) dd).1 = some (k, x) → ∀ v' H', Mb [kd, bl] H H' → BkR C H' L r dx kd bl M0 (rs ++ [upM (lastM M0 rs) k x]) → AnAt K (Hd L H') v' (stepM (lastM M0 rs) dd).2 → Q v' H')
def spCa (K : PySem.W.Frag) (C CK CP : Addr) (n : Nat) : Sp := fun vs H Q E => ∃ (r dx kd bl : Addr) (L : List Addr) (M0 : Mp) (rs : List Mp) (v : V) (dd : Dd), vs = [.ref r, v] ∧ Asks K C n H L r dx kd bl M0 rs v dd ∧ Says K C H L r dx kd bl M0 rs dd Q ∧
  (dd ≠ .undo → (stepM (lastM M0 rs) dd).1 = none → errOf K CK CP L H E (stepM (lastM M0 rs) dd).2)
set_option maxHeartbeats 0 in
theorem ok_ca {n : Nat} (hn : n ≤ 25) {f fU fP fD fG : Addr} {fd fdU fdP fdD fdG : FuncData} (F : Fun K "_law_call" "_law_call" sCa f fd) (R : BC K C)
    (GU : FnOk P w K mg base CX0 2 fU fdU ["self"] (spBu C)) (bU : Binds K fdU ["self"] []) (mU : Meth K C "undo" fU)
    (GP : FnOk P w K mg base CX0 4 fP fdP ["self", "key", "message"] (spBp C)) (bP : Binds K fdP ["self", "key", "message"] []) (mP : Meth K C "put" fP)
    (GD : FnOk P w K mg base (L2.CX P w) 4 fD fdD ["self", "key"] (spBd C CK)) (bD : Binds K fdD ["self", "key"] []) (mD : Meth K C "drop" fD)
    (GG : FnOk P w K mg base (L2.CX P w) 6 fG fdG ["self", "key", "path", "inner"] (spBg (K := K) C CK CP)) (bG : Binds K fdG ["self", "key", "path", "inner"] []) (mG : Meth K C "change" fG) :
    FnOk P w K mg base (L2.CX P w) 7 f fd ["book", "deed"] (spCa K C CK CP n) := by
  refine F.okX scCa (fun vs H Q E h => ?_) (fun cdv A outer s H vs Q E hr h => ?_)
  · obtain ⟨r, dx, kd, bl, L, M0, rs, v, dd, rfl, _⟩ := h
    rfl
  obtain ⟨r, dx, kd, bl, L, M0, rs, v, dd, rfl, ⟨⟨kvs, bvs, hb, hrep, hlk⟩, mu, kL, bL, hgood, hda, hdo, hrl⟩, ⟨qu, qs⟩, qe⟩ := h
  refine ⟨_, pss_cons (ps_if (pt_cmpR op_eq (pe_ix ix_tup (pv 1) pe_int (fun _ _ => rfl)) pe_str (nomark _)) (pss_one (ps_ret (pe_meth0 (pv 0) R.c mU GU (hr.mono (by decide)) bU .nil pass0))) pss_nil)
    (pss_cons (ps_if (pt_cmpR op_eq (pe_ix ix_tup (pv 1) pe_int (fun _ _ => rfl)) pe_str (nomark _)) (pss_one (ps_ret (pe_meth (pv 0) R.c mP GP (hr.mono (by decide)) bP .nil pass0 (pa_cons (pe_ix ix_tup (pv 1) pe_int (fun _ _ => rfl)) (pa_cons (pe_ix ix_tup (pv 1) pe_int (fun _ _ => rfl)) pa_nil))))) pss_nil)
    (pss_cons (ps_if (pt_cmpR op_eq (pe_ix ix_tup (pv 1) pe_int (fun _ _ => rfl)) pe_str (nomark _)) (pss_one (ps_ret (pe_meth (pv 0) R.c mD GD (hr.mono (by decide)) bD .nil (passes_call (takes_of rfl rfl rfl rfl) (fun _ _ _ _ h => h)) (pa_cons (pe_ix ix_tup (pv 1) pe_int (fun _ _ => rfl)) pa_nil)))) pss_nil)
    (pss_one (ps_ret (pe_meth (pv 0) R.c mG GG hr bG .nil (passes_call (takes_of rfl rfl rfl rfl) (fun _ _ _ _ h => h)) (pa_cons (pe_ix ix_tup (pv 1) pe_int (fun _ _ => rfl)) (pa_cons (pe_ix ix_tup (pv 1) pe_int (fun _ _ => rfl)) (pa_cons (pe_ix ix_tup (pv 1) pe_int (fun _ _ => rfl)) pa_nil)))))))), ?_⟩
  have tupH : ∀ {p : Addr} {xs : List V}, Hd L H p = some (.tup xs) → H p = some (.tup xs) := fun h => hd_out _ _ h
  have kl4 := hrep.len
  have bl50 : bvs.length ≤ 50 := by rw [hlk.length]; exact hrl
  have k12 : ∀ {k : Str}, k ∈ keys4 → k.length ≤ 100 := fun {k} h => by
    have : ∀ k ∈ keys4, k.length ≤ 100 := by decide +kernel
    exact this k h
  have h2 : ∀ {H' : Hp}, Mb [kd, bl] H H' → Mb L H H' := fun m => m.sub fun l hl => by
    simp only [List.mem_cons, List.not_mem_nil, or_false] at hl
    rcases hl with rfl | rfl
    · exact kL
    · exact bL
  cases dd with
  | undo =>
    obtain ⟨p, rfl, hp⟩ := hda
    obtain ⟨q1, q2⟩ := qu rfl
    refine ⟨_, rfl, p, _, 0, .str "undo", rfl, rfl, .inl (.inl (tupH hp)), atI_nat (j := 0) rfl, rfl, _, rfl, ?_⟩
    rw [ds_yes]
    refine iteT ⟨_, rfl, r, dx, _, rfl, hb.h, rfl, r, dx, kd, bl, kvs, bvs, rfl, hb, ?_⟩
    rcases List.eq_nil_or_concat rs with rfl | ⟨rs', M', rfl⟩
    · exact .inl ⟨hlk, q1 rfl H (Same.refl _)⟩
    · rw [List.concat_eq_append] at hlk hrep q2
      obtain ⟨bs, v, rfl, hl1, q', k, u, rfl, hq', hk, hM, hu⟩ := hlk.unsnoc
      rw [lastM_snoc] at hrep
      refine .inr ⟨bs, q', k, u, rfl, by omega, tupH hq', ?_, fun H' m hb' => q2 rs' M' rfl H' m ⟨_, bs, hb', ?_, hl1.same (hd_mb (h2 m))⟩⟩
      · rcases hu with ⟨rfl, _, h3⟩ | ⟨a, t, rfl, _⟩
        · refine .inl ⟨rfl, ?_⟩
          cases hv : valV kvs (.inr k) with
          | none => rw [hrep.nn k hv] at h3; cases h3
          | some _ => rfl
        · exact .inr ⟨a, rfl⟩
      · have hr1 := hrep.same (hd_mb (h2 m))
        rw [hM]
        rcases hu with ⟨rfl, h3, _⟩ | ⟨a, t, rfl, h4, h3⟩
        · rw [h3, show nwK kvs k .non = dropK kvs (.inr k) from if_pos rfl]
          exact hr1.drop
        · rw [h3, show nwK kvs k (.ref a) = putK kvs (.inr k) (.ref a) from if_neg (by intro z; cases z)]
          exact hr1.put hk (h4.same (hd_mb (h2 m)))
  | put k t =>
    obtain ⟨p, a, rfl, hp, hat⟩ := hda
    have hp2 := tupH hp
    refine ⟨_, rfl, p, _, 0, .str "put", rfl, rfl, .inl (.inl hp2), atI_nat (j := 0) rfl, rfl, _, rfl, ?_⟩
    rw [ds_no (by decide)]
    refine iteF ⟨_, rfl, p, _, 0, .str "put", rfl, rfl, .inl (.inl hp2), atI_nat (j := 0) rfl, rfl, _, rfl, ?_⟩
    rw [ds_yes]
    have o4 := hdo.2
    refine iteT ⟨_, rfl, r, dx, _, rfl, hb.h, rfl, _, rfl, p, _, 1, .str k, rfl, rfl, .inl (.inl hp2), atI_nat (j := 1) rfl, _, rfl, p, _, 2, .ref a, rfl, rfl, .inl (.inl hp2), atI_nat (j := 2) rfl, r, dx, kd, bl, kvs, bvs, k, a, t, rfl, hb, by omega, by omega, hat.same hd_out, o4.ok.wf, by have := o4.sz; omega, fun H' a' q m hat' hq hq' hb' => ?_⟩
    refine (qs (by intro z; cases z)) k _ rfl _ H' m (bkr_step mu hdo.1 kL bL hrep hlk m hq hq' hb' ((hrep.same (hd_mb (h2 m))).put hdo.1 (hat'.same (hd_nlf mu (mu_two mu m hb')))) (fun _ => rfl)) ?_
    show V.bl _ = V.bl _
    cases hv : valV kvs (.inr k) with
    | none => rw [hrep.nn k hv]; rfl
    | some u =>
      obtain ⟨_, _, _, _, h3⟩ := hrep.sm k u hv
      rw [h3]
      rfl
  | drop k =>
    obtain ⟨p, rfl, hp⟩ := hda
    have hp2 := tupH hp
    refine ⟨_, rfl, p, _, 0, .str "drop", rfl, rfl, .inl (.inl hp2), atI_nat (j := 0) rfl, rfl, _, rfl, ?_⟩
    rw [ds_no (by decide)]
    refine iteF ⟨_, rfl, p, _, 0, .str "drop", rfl, rfl, .inl (.inl hp2), atI_nat (j := 0) rfl, rfl, _, rfl, ?_⟩
    rw [ds_no (by decide)]
    refine iteF ⟨_, rfl, p, _, 0, .str "drop", rfl, rfl, .inl (.inl hp2), atI_nat (j := 0) rfl, rfl, _, rfl, ?_⟩
    rw [ds_yes]
    refine iteT ⟨_, rfl, r, dx, _, rfl, hb.h, rfl, _, rfl, p, _, 1, .str k, rfl, rfl, .inl (.inl hp2), atI_nat (j := 1) rfl, r, dx, kd, bl, kvs, bvs, k, rfl, k12 hdo, hb, by omega, by omega, fun v hv H' q m hq hq' hb' => ?_, fun hv => ?_⟩
    · obtain ⟨a, t, rfl, hat, hM⟩ := hrep.sm k v hv
      have e : stepM (lastM M0 rs) (.drop k) = (some (k, none), .msg t) := by simp only [stepM, hM]
      refine (qs (by intro z; cases z)) k none (by rw [e]) _ H' m (bkr_step mu hdo kL bL hrep hlk m hq (by rw [was, hv]; exact hq') hb' ((hrep.same (hd_mb (h2 m))).drop) (fun z => by rw [hM] at z; cases z)) ?_
      rw [e]
      exact ⟨a, rfl, hat.same (hd_mb (h2 m))⟩
    · have hM := hrep.nn k hv
      have e : stepM (lastM M0 rs) (.drop k) = (none, .nok k) := by simp only [stepM, hM]
      have := qe (by intro z; cases z) (by rw [e])
      rw [e] at this
      exact this
  | chg k p m =>
    obtain ⟨q', yv, mi, rfl, hp, hpy, hmi⟩ := hda
    have hp2 := tupH hp
    refine ⟨_, rfl, q', _, 0, .str "change", rfl, rfl, .inl (.inl hp2), atI_nat (j := 0) rfl, rfl, _, rfl, ?_⟩
    rw [ds_no (by decide)]
    refine iteF ⟨_, rfl, q', _, 0, .str "change", rfl, rfl, .inl (.inl hp2), atI_nat (j := 0) rfl, rfl, _, rfl, ?_⟩
    rw [ds_no (by decide)]
    refine iteF ⟨_, rfl, q', _, 0, .str "change", rfl, rfl, .inl (.inl hp2), atI_nat (j := 0) rfl, rfl, _, rfl, ?_⟩
    rw [ds_no (by decide)]
    refine iteF ⟨_, rfl, r, dx, _, rfl, hb.h, rfl, _, rfl, q', _, 1, .str k, rfl, rfl, .inl (.inl hp2), atI_nat (j := 1) rfl, _, rfl, q', _, 2, yv, rfl, rfl, .inl (.inl hp2), atI_nat (j := 2) rfl, _, rfl, q', _, 3, .ref mi, rfl, rfl, .inl (.inl hp2), atI_nat (j := 3) rfl,
      r, dx, kd, bl, mi, kvs, bvs, k, yv, p, m, rfl, k12 hdo.1, hb, by omega, by omega, hmi.same hd_out, hpy.same hd_out, hdo.2.1, fun hv => ?_, fun v hv => ?_⟩
    · have hM := hrep.nn k hv
      have e : stepM (lastM M0 rs) (.chg k p m) = (none, .nok k) := by simp only [stepM, hM]
      have := qe (by intro z; cases z) (by rw [e])
      rw [e] at this
      exact this
    · obtain ⟨a, t, rfl, hat, hM⟩ := hrep.sm k v hv
      obtain ⟨_, o4⟩ := hgood k t hM
      refine ⟨a, t, rfl, hat.same hd_out, o4.ok.wf, o4.ok.kd, by have := o4.sz; omega, fun hA => ?_, fun hA => ?_⟩
      · have e : stepM (lastM M0 rs) (.chg k p m) = (none, .nop p) := by simp only [stepM, hM, hA]
        have := qe (by intro z; cases z) (by rw [e])
        rw [e] at this
        exact this yv hpy
      · obtain ⟨m0, hA'⟩ : ∃ m0, atP t p = some m0 := by
          cases h : atP t p with
          | none => exact absurd h hA
          | some m0 => exact ⟨m0, rfl⟩
        have e : stepM (lastM M0 rs) (.chg k p m) = (some (k, some (pl ("" : Str) (putP t p m))), .bl true) := by simp only [stepM, hM, hA']
        have o5 := put_ok4 o4 hdo.2.2.1 hdo.2.2.2.1 hdo.2.2.2.2 hA
        refine ⟨o5.ok.wf, by have := o5.sz; omega, fun H' a' q m' hat' hq hq' hb' => ?_⟩
        refine (qs (by intro z; cases z)) k _ (by rw [e]) _ H' m' (bkr_step mu hdo.1 kL bL hrep hlk m' hq (by rw [was, hv]; exact hq') hb' ((hrep.same (hd_mb (h2 m'))).put hdo.1 (hat'.same (hd_nlf mu (mu_two mu m' hb')))) (fun _ => rfl)) ?_
        rw [e]
        rfl
end
end Mw

namespace Mw
open PySem L2
/-- what the row says of an error's class, caught and read -/
structure EXq (K : PySem.W.Frag) (mg : Str → Option Value) (x f : Str) (C : Addr) : Prop where
  m : mg x = some (.ref C)
  F : XfC K C
  no : PySem.W.findIn K (.ref C) f = some none
section
variable {P : Program} {w : World} {K : PySem.W.Frag} {mg : Str → Option Value} {base : Heap} {C CK CP : Addr}
abbrev sTo : Stmt := top 35
theorem scTo : FnScope ["book", "deed", "e"] ["book", "deed"] (defScope sTo) := ⟨rfl, rfl, rfl, by decide +kernel, rfl, by decide +kernel, by decide +kernel⟩
def spTo (K : PySem.W.Frag) (C : Addr) (n : Nat) : Sp := fun vs H Q _ => ∃ (r dx kd bl : Addr) (L : List Addr) (M0 : Mp) (rs : List Mp) (v : V) (dd : Dd), vs = [.ref r, v] ∧ Asks K C n H L r dx kd bl M0 rs v dd ∧ Says K C H L r dx kd bl M0 rs dd Q ∧
  (dd ≠ .undo → (stepM (lastM M0 rs) dd).1 = none → ∀ v' H', Same H H' → AnAt K (Hd L H') v' (stepM (lastM M0 rs) dd).2 → Q v' H')
theorem ok_to {n : Nat} {f fC : Addr} {fd fdC : FuncData} (F : Fun K "_law_told" "_law_told" sTo f fd)
    (GC : FnOk P w K mg base (L2.CX P w) 7 fC fdC ["book", "deed"] (spCa K C CK CP n)) (bC : Binds K fdC ["book", "deed"] []) (kC : PySem.W.keepIn K (.ref fC) = true) (mC : mg "_law_call" = some (.ref fC))
    (EK : EXq K mg "NoSuchKey" "key" CK) (EP' : EXq K mg "NoSuchPlace" "path" CP)
    (xKK : PySem.W.exmOne K (.ref CK) (.ref CK) = some true) (xPK : PySem.W.exmOne K (.ref CP) (.ref CK) = some false) (xPP : PySem.W.exmOne K (.ref CP) (.ref CP) = some true) : FnOk P w K mg base CX0 8 f fd ["book", "deed"] (spTo K C n) := by
  refine F.ok scTo (fun vs H Q E h => ?_) (fun cdv A outer s H vs Q E hr h => ?_)
  · obtain ⟨r, dx, kd, bl, L, M0, rs, v, dd, rfl, _⟩ := h
    rfl
  obtain ⟨r, dx, kd, bl, L, M0, rs, v, dd, rfl, hask, hsay, hnone⟩ := h
  have nd := scTo.nd
  refine ⟨_, pss_one (Ta.ps_tries (tb := fun W => tRet (tCallS (spCa K C CK CP n) (WE W) (tCons (tVar 0) (tCons (tVar 1) tNil)))) (Wout := fun _ _ _ _ => False)
      (l := [(.ref CK, 2, fun a cls d => tRet (tTup (tCons (tC (.str "no key")) (tCons (tXf a cls d CK "key" (tVar 2)) tNil)))), (.ref CP, 2, fun a cls d => tRet (tTup (tCons (tC (.str "no place")) (tCons (tXf a cls d CP "path" (tVar 2)) tNil))))])
      rfl rfl nd takes0 (fun W pn xe tk _ => pss_one (ps_ret (by exact (pe_callS GC hr rfl mC kC bC (fun σ => passAt tk σ) (pa_cons (pv 0) (pa_cons (pv 1) pa_nil))))))
      (.cons ⟨rfl, by decide, .inl EK.m⟩ rfl rfl (fun a oe cls d pn hz hf => pss_one (ps_ret (by exact (pe_tup (pa_cons pe_str (pa_cons (pe_xf EK.F EK.no hz hf (pv 2)) pa_nil))))))
        (.cons ⟨rfl, by decide, .inl EP'.m⟩ rfl rfl (fun a oe cls d pn hz hf => pss_one (ps_ret (by exact (pe_tup (pa_cons pe_str (pa_cons (pe_xf EP'.F EP'.no hz hf (pv 2)) pa_nil)))))) .nil))), ?_⟩
  refine ⟨_, rfl, _, rfl, r, dx, kd, bl, L, M0, rs, v, dd, rfl, hask, hsay, fun hdu hst => ?_⟩
  have mu := hask.mu
  have tL : ∀ {H' : Hp} {tp : Addr}, Same H H' → H' tp = none → tp ∉ L := fun {H' tp} s' htp c => by
    obtain ⟨o, h⟩ := mu.ex tp c
    rw [s'.free htp] at h
    cases h
  have hn := hnone hdu hst
  cases ha : (stepM (lastM M0 rs) dd).2 with
  | nok k =>
    rw [ha] at hn
    intro dx' H' hdx s' hxd
    refine ⟨true, xKK, fun _ e he => ?_, fun z => Bool.noConfusion z⟩
    refine ⟨_, rfl, rfl, rfl, dx', _, _, rfl, hxd, rfl, by show 2 ≤ sizeLine; decide, fun tp htp => ?_⟩
    refine hn _ _ (s'.trans (same_new htp _)) ⟨tp, rfl, ?_⟩
    rw [hd_off (tL s' htp)]
    exact upd_same
  | nop p =>
    rw [ha] at hn
    intro yv hpy dx' H' hdx s' hxd
    refine ⟨false, xPK, fun z => Bool.noConfusion z, fun _ => ⟨true, xPP, fun _ e he => ?_, fun z => Bool.noConfusion z⟩⟩
    refine ⟨_, rfl, rfl, rfl, dx', _, _, rfl, hxd, rfl, by show 2 ≤ sizeLine; decide, fun tp htp => ?_⟩
    have s2 : Same H' (upd H' tp (.tup [.str "no place", yv])) := same_new htp _
    refine hn _ _ (s'.trans s2) ⟨tp, yv, rfl, ?_, hpy.same (hd_mb (Mb.of (s'.trans s2)))⟩
    rw [hd_off (tL s' htp)]
    exact upd_same
  | bl b =>
    exfalso
    cases dd with
    | put k t => cases hst
    | undo => exact hdu rfl
    | drop k => cases hL : lastM M0 rs k <;> simp [stepM, hL] at ha
    | chg k p m =>
      cases hL : lastM M0 rs k with
      | none => simp [stepM, hL] at ha
      | some t => cases hA : atP t p <;> simp [stepM, hL, hA] at ha hst
  | msg t =>
    exfalso
    cases dd with
    | put k t => cases hst
    | undo => exact hdu rfl
    | drop k => cases hL : lastM M0 rs k <;> simp [stepM, hL] at ha hst
    | chg k p m =>
      cases hL : lastM M0 rs k with
      | none => simp [stepM, hL] at ha
      | some t => cases hA : atP t p <;> simp [stepM, hL, hA] at ha
end
end Mw

namespace Mw
open PySem L2
section
variable {P : Program} {w : World} {K : PySem.W.Frag} {mg : Str → Option Value} {base : Heap}
theorem BkR.same {C : Addr} {H H' : Hp} {L : List Addr} {r dx kd bl : Addr} {M0 : Mp} {rs : List Mp} (b : BkR C H L r dx kd bl M0 rs) (s : Same H H') : BkR C H' L r dx kd bl M0 rs := by
  obtain ⟨kvs, bvs, h1, h2, h3⟩ := b
  exact ⟨kvs, bvs, h1.same s, h2.same (hd_mb (Mb.of s)), h3.same (hd_mb (Mb.of s))⟩
/-- where the book is to go, and what it is to tell -/
def Uni (K : PySem.W.Frag) (M0 : Mp) (rs rs2 : List Mp) (dd : Dd) (an : An) : Prop := ∀ (C : Addr) (H : Hp) (L : List Addr) (r dx kd bl : Addr) (Q : VK), BkR C H L r dx kd bl M0 rs →
  (∀ v' H', Mb [kd, bl] H H' → BkR C H' L r dx kd bl M0 rs2 → AnAt K (Hd L H') v' an → Q v' H') →
  Says K C H L r dx kd bl M0 rs dd Q ∧ (dd ≠ .undo → (stepM (lastM M0 rs) dd).1 = none → ∀ v' H', Same H H' → AnAt K (Hd L H') v' (stepM (lastM M0 rs) dd).2 → Q v' H')
theorem an_ok {n : Nat} {M : Mp} {dd : Dd} (hn : n ≤ 26) (h : GoodM n M) (hd : DdOk dd) : AnOk (stepM M dd).2 := by
  cases dd with
  | put k t => trivial
  | undo => trivial
  | drop k =>
    cases hL : M k with
    | none => simp only [stepM, hL]; exact hd
    | some t => simp only [stepM, hL]; exact (h k t hL).2.fit hn
  | chg k p m =>
    cases hL : M k with
    | none => simp only [stepM, hL]; exact hd.1
    | some t =>
      cases hA : atP t p with
      | none => simp only [stepM, hL, hA]; exact hd.2.1
      | some m0 => simp only [stepM, hL, hA]; trivial
def spDs (K : PySem.W.Frag) : Sp := fun vs H Q _ => ∃ (sl d : Addr) (ds L : List Addr) (v : V) (M0 : Mp) (rs : List Mp) (dd : Dd) (i : Nat), vs = [.ref sl, v] ∧ H sl = some (.lst ((ds ++ [d]).map V.ref)) ∧ rs.length ≤ 100 ∧ sl ∈ L ∧ Mu L H ∧ Sds (Hd L H) (ds ++ [d]) (M0 :: rs) ∧ (∀ M ∈ M0 :: rs, GoodM i M) ∧ i ≤ 24 ∧
  DdAt K (Hd L H) (Hd L H) v dd ∧ DdOk dd ∧
  ∀ v2 H4 ds2 rs2 an, Mb [sl] H H4 → H4 sl = some (.lst (ds2.map V.ref)) → Sds (Hd L H4) ds2 (M0 :: rs2) → (∀ M ∈ M0 :: rs2, GoodM (i + 1) M) → rs2.length ≤ rs.length + 1 → AnAt K (Hd L H4) v2 an → AnOk an → Uni K M0 rs rs2 dd an → Q v2 H4
theorem snoc_eq {α : Type} {xs ys : List α} {x y : α} (h : xs ++ [x] = ys ++ [y]) : xs = ys ∧ x = y := by
  have := List.append_inj' h rfl
  exact ⟨this.1, by simpa using this.2⟩
theorem dn_of {vs : List V} {H : Hp} {Q : VK} {E : XK} (h : spDs K vs H Q E) : spDn K 25 vs H Q E := by
  obtain ⟨sl, d, ds, L, v, M0, rs, dd, i, rfl, hsl, hrl, slL, mu, hsd, hg, hi, hda, hdo, q⟩ := h
  obtain ⟨ns, e⟩ := snoc_last M0 rs
  have hsd' := hsd
  rw [e] at hsd'
  obtain ⟨es, d', kvs, e2, hd, hrep, hses⟩ := hsd'.unsnoc
  obtain ⟨rfl, rfl⟩ := snoc_eq e2
  have hlast : lastM M0 rs ∈ M0 :: rs := by rw [e]; simp
  have hgl := hg _ hlast
  have hlen := hsd.length
  rw [List.length_append, List.length_singleton, List.length_cons] at hlen
  have keep : ∀ {H' : Hp}, Mb [sl] H H' → Same (Hd L H) (Hd L H') := fun m => hd_mb (m.sub fun l hl => by rw [List.mem_singleton.mp hl]; exact slL)
  have gup : ∀ M ∈ M0 :: rs, GoodM (i + 1) M := fun M h => (hg M h).mono (Nat.le_succ i)
  refine ⟨sl, d, ds, L, v, kvs, lastM M0 rs, dd, rfl, hsl, by omega, slL, (hd_in hd).1, mu, (hd_in hd).2, hrep, hgl.mono (by omega), hda, hdo, fun hu => ⟨fun hds H' s' => ?_, fun hds H' m hsl' => ?_⟩, fun hu => ⟨fun hst v' H' s' ha => ?_, fun k x hst v' H' d' kvs' m hd0 hsl' hd' hrep' ha => ?_⟩⟩
  · -- nothing to undo
    subst hds
    have hrs : rs = [] := by
      cases rs with
      | nil => rfl
      | cons x r => simp at hlen
    subst hrs
    refine q _ H' [d] [] (.bl false) (Mb.of s') (s' _ _ hsl) (hsd.same (hd_mb (Mb.of s'))) gup (by simp) rfl trivial fun C H4 L' r dx kd bl Q' hb hq => ⟨⟨fun _ => ⟨fun _ H5 s5 => hq _ _ (Mb.of s5) (hb.same s5) rfl, fun rs' M' e3 => absurd e3 (by simp)⟩, fun h => absurd hu h⟩, fun h => absurd hu h⟩
  · rcases List.eq_nil_or_concat rs with rfl | ⟨rs', M', rfl⟩
    · have : ds = [] := List.length_eq_zero_iff.mp (by simpa using hlen)
      exact absurd this hds
    · rw [List.concat_eq_append] at *
      have e3 : ns = M0 :: rs' := by
        rw [lastM_snoc] at e
        exact (snoc_eq (show (M0 :: rs') ++ [M'] = ns ++ [M'] from e)).1.symm
      subst e3
      refine q _ H' ds rs' (.bl true) m hsl' (hses.same (keep m)) (fun M h => gup M ?_) (by simp; omega) rfl trivial fun C H4 L' r dx kd bl Q' hb hq => ⟨⟨fun _ => ⟨fun e3 => absurd e3 (by simp), fun rs'' M'' e3 H5 m5 hb5 => ?_⟩, fun h => absurd hu h⟩, fun h => absurd hu h⟩
      · rcases List.mem_cons.mp h with h | h
        · exact List.mem_cons.mpr (.inl h)
        · exact List.mem_cons_of_mem _ (List.mem_append_left _ h)
      · obtain ⟨rfl, _⟩ := snoc_eq e3
        exact hq _ _ m5 hb5 rfl
  · -- refused
    have hao := an_ok (by omega) hgl hdo
    refine q v' H' (ds ++ [d]) rs _ (Mb.of s') (s' _ _ hsl) (hsd.same (hd_mb (Mb.of s'))) gup (by omega) ha hao fun C H4 L' r dx kd bl Q' hb hq => ⟨⟨fun h => absurd h hu, fun _ k x e3 => by rw [hst] at e3; cases e3⟩, fun _ _ v5 H5 s5 ha5 => hq v5 H5 (Mb.of s5) (hb.same s5) ha5⟩
  · have hao := an_ok (by omega) hgl hdo
    have hd'L : d' ∉ L := fun c => by
      obtain ⟨o, h⟩ := mu.ex d' c
      rw [hd0] at h
      cases h
    refine q v' H' (ds ++ [d] ++ [d']) (rs ++ [upM (lastM M0 rs) k x]) _ m hsl' (Sds.snoc (by rw [hd_off hd'L]; exact hd') hrep' (hsd.same (keep m))) (fun M h => ?_) (by rw [List.length_append]; exact Nat.le_refl _) ha hao fun C H4 L' r dx kd bl Q' hb hq => ⟨⟨fun h => absurd h hu, fun _ k' x' e3 v5 H5 m5 hb5 ha5 => ?_⟩, fun _ e3 => by rw [hst] at e3; cases e3⟩
    · rcases List.mem_append.mp (show M ∈ (M0 :: rs) ++ [upM (lastM M0 rs) k x] from h) with h | h
      · exact gup M h
      · rw [List.mem_singleton.mp h]
        exact step_good hgl hdo hst
    · rw [hst] at e3
      obtain ⟨rfl, rfl⟩ : k = k' ∧ x = x' := by
        have := Option.some.inj e3
        exact ⟨congrArg Prod.fst this, congrArg Prod.snd this⟩
      exact hq v5 H5 m5 hb5 ha5
end
end Mw

namespace Mw
open PySem L2 Gg
/-! ### sorted keys -/
abbrev leS (a b : Str) : Prop := PySem.Spec.ltCps b.cps.toList a.cps.toList = false
theorem le_tr : ∀ x ∈ keys4, ∀ y ∈ keys4, ∀ z ∈ keys4, leS x y → leS y z → leS x z := by decide +kernel
theorem le_as : ∀ x ∈ keys4, ∀ y ∈ keys4, leS x y → leS y x → x = y := by decide +kernel
theorem ris_pw : ∀ (l : List Str) (p : Str), p ∈ keys4 → (∀ n ∈ l, n ∈ keys4) → PyProof.Rows.risingS p l = true → (∀ n ∈ l, leS p n) ∧ l.Pairwise leS
  | [], _, _, _, _ => ⟨(fun _ h => by cases h), List.Pairwise.nil⟩
  | x :: r, p, hp, hl, h => by
    have h : (!PySem.Spec.ltCps x.cps.toList p.cps.toList && PyProof.Rows.risingS x r) = true := h
    rw [Bool.and_eq_true] at h
    have hx := hl x List.mem_cons_self
    obtain ⟨i1, i2⟩ := ris_pw r x hx (fun n hn => hl n (List.mem_cons_of_mem _ hn)) h.2
    have h1 : leS p x := by simpa using h.1
    refine ⟨fun n hn => ?_, .cons i1 i2⟩
    rcases List.mem_cons.mp hn with rfl | hn
    · exact h1
    · exact le_tr p hp x hx n (hl n (List.mem_cons_of_mem _ hn)) h1 (i1 n hn)
theorem srt_pw {l : List Str} (hl : ∀ n ∈ l, n ∈ keys4) (h : PyProof.Rows.sortedS l = true) : l.Pairwise leS := by
  cases l with
  | nil => exact .nil
  | cons x r =>
    obtain ⟨i1, i2⟩ := ris_pw r x (hl x List.mem_cons_self) (fun n hn => hl n (List.mem_cons_of_mem _ hn)) h
    exact .cons i1 i2
theorem one_row : ∀ {a b : List Str}, (∀ n, n ∈ a ↔ n ∈ b) → a.Nodup → b.Nodup → (∀ n ∈ a, n ∈ keys4) → a.Pairwise leS → b.Pairwise leS → a = b
  | [], b, h, _, _, _, _, _ => by
    cases b with
    | nil => rfl
    | cons y s => exact absurd ((h y).mpr (by simp)) (by simp)
  | x :: r, b, h, da, db, hn, h1, h2 => by
    cases b with
    | nil => exact absurd ((h x).mp (by simp)) (by simp)
    | cons y s =>
      have hb : ∀ n ∈ y :: s, n ∈ keys4 := fun n hm => hn n ((h n).mpr hm)
      have e : x = y := by
        rcases List.mem_cons.mp ((h x).mp (by simp)) with e | hx
        · exact e
        · rcases List.mem_cons.mp ((h y).mpr (by simp)) with e | hy
          · exact e.symm
          · exact le_as x (hn x List.mem_cons_self) y (hb y List.mem_cons_self) ((List.pairwise_cons.mp h1).1 y hy) ((List.pairwise_cons.mp h2).1 x hx)
      subst e
      obtain ⟨a1, a2⟩ := List.nodup_cons.mp da
      obtain ⟨b1, b2⟩ := List.nodup_cons.mp db
      rw [one_row (fun n => ?_) a2 b2 (fun n hm => hn n (List.mem_cons_of_mem _ hm)) (List.pairwise_cons.mp h1).2 (List.pairwise_cons.mp h2).2]
      constructor
      · intro hm
        rcases List.mem_cons.mp ((h n).mp (List.mem_cons_of_mem _ hm)) with e | z
        · exact absurd (e ▸ hm) a1
        · exact z
      · intro hm
        rcases List.mem_cons.mp ((h n).mpr (List.mem_cons_of_mem _ hm)) with e | z
        · exact absurd (e ▸ hm) b1
        · exact z
theorem kit_dict {K : PySem.W.Frag} : PySem.W.kitOne K (.type "dict") (.type "dict") = some true := by rfl
theorem kv_str {kvs : List (Key × V)} {ks : List Str} (e : kvs.map (·.1) = ks.map Sum.inr) : (kvs.map fun kv => kV kv.1) = ks.map V.str := by
  have := congrArg (List.map kV) e
  rw [List.map_map, List.map_map] at this
  exact this
theorem strs_dp {K : PySem.W.Frag} {H : Hp} : ∀ ys : List Str, DpAll K H (ys.map V.str) (ys.map PyData.str)
  | [] => .nil
  | y :: ys => .cons (.str y) (strs_dp ys)
theorem strs_sh {ys : List Str} (h : ∀ y ∈ ys, y ∈ keys4) (hl : ys.length ≤ 4) : Gg.Sh (.list (ys.map PyData.str)) := by
  have a : PyData.showableAll (ys.map PyData.str) = true ∧ PyData.hasDictAll (ys.map PyData.str) = false ∧ PyData.depthAll (ys.map PyData.str) = 0 ∧ slen (PyData.shownAll (ys.map PyData.str)) ≤ ys.length * 14 := by
    clear hl
    induction ys with
    | nil => exact ⟨rfl, rfl, rfl, Nat.zero_le _⟩
    | cons y ys ih =>
      obtain ⟨a1, a2, a3, a4⟩ := ih fun z hz => h z (List.mem_cons_of_mem _ hz)
      have h2 := (keys4_sh y (h y (by simp))).2
      refine ⟨?_, ?_, ?_, ?_⟩
      · simp only [List.map_cons, PyData.showableAll, PyData.showable, a1, Bool.and_self]
      · simp only [List.map_cons, PyData.hasDictAll, PyData.hasDict, a2, Bool.or_self]
      · simp only [List.map_cons, PyData.depthAll, PyData.depth, a3, Nat.max_self]
      · simp only [List.map_cons, PyData.shownAll, PyData.shown, slen_cons, List.length_cons]
        omega
  obtain ⟨a1, a2, a3, a4⟩ := a
  have h6 := list_len (PyData.shownAll (ys.map PyData.str))
  exact ⟨a1, a2, by show PyData.depthAll _ + 1 ≤ 150; omega, by show (listText (PyData.shownAll (ys.map PyData.str))).length ≤ _; omega⟩
/-- messages look at lists and tuples only -/
def Lt (H H' : Hp) : Prop := (∀ b xs, H b = some (.lst xs) → H' b = some (.lst xs)) ∧ ∀ b xs, H b = some (.tup xs) → H' b = some (.tup xs)
theorem Nodes.lt {H H' : Hp} (s : Lt H H') : ∀ {t : T} {vs : List V}, Nodes H t vs → Nodes H' t vs
  | .nil, _, h => h
  | .text _ r, _, h => by
    obtain ⟨p, ws, rfl, hp, hr⟩ := h
    exact ⟨p, ws, rfl, s.2 _ _ hp, Nodes.lt s hr⟩
  | .shw _ r, _, h => by
    obtain ⟨p, ws, rfl, hp, hr⟩ := h
    exact ⟨p, ws, rfl, s.2 _ _ hp, Nodes.lt s hr⟩
  | .num r, _, h => by
    obtain ⟨p, ws, rfl, hp, hr⟩ := h
    exact ⟨p, ws, rfl, s.2 _ _ hp, Nodes.lt (t := r) s hr⟩
  | .cho hd cs o r, _, h => by
    obtain ⟨p, ws, ca, cvs, oa, ovs, rfl, h1, h2, h3, h4, h5, hr⟩ := h
    exact ⟨p, ws, ca, cvs, oa, ovs, rfl, s.2 _ _ h1, s.1 _ _ h2, Nodes.lt s h3, s.1 _ _ h4, Nodes.lt s h5, Nodes.lt s hr⟩
  | .cas k m r, _, h => by
    obtain ⟨p, ws, ma, mvs, rfl, h1, h2, h3, hr⟩ := h
    exact ⟨p, ws, ma, mvs, rfl, s.2 _ _ h1, s.1 _ _ h2, Nodes.lt s h3, Nodes.lt s hr⟩
theorem At.lt {H H' : Hp} {a : Addr} {t : T} (s : Lt H H') (h : At H a t) : At H' a t := by
  obtain ⟨vs, h1, h2⟩ := h
  exact ⟨vs, s.1 _ _ h1, h2.lt s⟩
theorem Box.mb {H H' : Hp} {B b : Addr} {L : List Addr} (x : Box H B b) (m : Mb L H H') (h1 : B ∉ L) (h2 : b ∉ L) : Box H' B b := by
  obtain ⟨ds, i, g1, g2, g3⟩ := x
  exact ⟨ds, i, m _ _ h1 g1, m _ _ h2 g2, g3⟩
abbrev M00 : Mp := fun _ => none
/-- at the head of a turn -/
structure Iv (C : Addr) (H : Hp) (B b r dx kd bl sl : Addr) (i : Nat) (ds : List Addr) (rs : List Mp) : Prop where
  bx : Box H B b
  bk : BkR C H [B, kd, bl, sl] r dx kd bl M00 rs
  xs : H sl = some (.lst (ds.map V.ref))
  sd : Sds (Hd [B, kd, bl, sl] H) ds (M00 :: rs)
  gd : ∀ M ∈ M00 :: rs, GoodM i M
  ln : rs.length ≤ i
  n1 : B ≠ bl
  n2 : sl ≠ bl
  n3 : B ≠ sl
  n4 : b ≠ bl
  n5 : b ≠ sl
theorem Iv.mu {C : Addr} {H : Hp} {B b r dx kd bl sl : Addr} {i : Nat} {ds : List Addr} {rs : List Mp} (v : Iv C H B b r dx kd bl sl i ds rs) : Mu [B, kd, bl, sl] H := by
  obtain ⟨kvs, bvs, hb, _, _⟩ := v.bk
  obtain ⟨es, j, g1, _, _⟩ := v.bx
  intro l hl
  simp only [List.mem_cons, List.not_mem_nil, or_false] at hl
  rcases hl with rfl | rfl | rfl | rfl
  · exact ⟨_, g1, trivial⟩
  · exact ⟨_, hb.k, trivial⟩
  · exact ⟨_, hb.b, trivial⟩
  · exact ⟨_, v.xs, trivial⟩
section
variable {P : Program} {w : World} {K : PySem.W.Frag} {mg : Str → Option Value} {base : Heap} {C : Addr}
abbrev sLaw : Stmt := top 36
abbrev nLaw : List Str := ["script", "box", "book", "states", "turn", "deed", "due", "told", "key"]
theorem scLaw : FnScope nLaw ["script"] (defScope sLaw) := ⟨rfl, rfl, rfl, by decide +kernel, rfl, by decide +kernel, by decide +kernel⟩
def spLaw (K : PySem.W.Frag) : Sp := fun vs H Q _ => ∃ (a : Addr) (ns : List Int), vs = [.ref a] ∧ SqL K H a (ns.map V.int) ∧ ∀ H', Q (.bl true) H'
set_option maxHeartbeats 0 in
theorem ok_law {f fB fI fD fN fS fT fM : Addr} {fd fdB fdI fdD fdN fdS fdT fdM : FuncData} (F : Fun K "law" "law" sLaw f fd) (R : BC K C)
    (GB : FnOk P w K mg base CX0 2 fB fdB ["script", "first", "last"] (spBox K 60)) (bB : Binds K fdB ["script", "first", "last"] []) (kB : PySem.W.keepIn K (.ref fB) = true) (mB : mg "_law_box" = some (.ref fB))
    (MK : Mk K C fI) (GI : FnOk P w K mg base CX0 1 fI fdI ["self"] (spBi C)) (bI : Binds K fdI ["self"] []) (mBk : mg "Book" = some (.ref C))
    (GD : FnOk P w K mg base CX0 31 fD fdD ["box", "now"] (spDe K 25)) (bD : Binds K fdD ["box", "now"] []) (kD : PySem.W.keepIn K (.ref fD) = true) (mD : mg "_law_deed" = some (.ref fD))
    (GN : FnG P w K mg base CX0 43 fN fdN ["states", "deed"] (spDn K 25)) (bN : Binds K fdN ["states", "deed"] []) (kN : PySem.W.keepIn K (.ref fN) = true) (mN : mg "_law_done" = some (.ref fN))
    (GS : FnG P w K mg base CX0 1 fS fdS ["one", "other"] (spSame K)) (bS : Binds K fdS ["one", "other"] []) (kS : PySem.W.keepIn K (.ref fS) = true) (mS : mg "_law_same" = some (.ref fS))
    (GT : FnOk P w K mg base CX0 8 fT fdT ["book", "deed"] (spTo K C 25)) (bT : Binds K fdT ["book", "deed"] []) (kT : PySem.W.keepIn K (.ref fT) = true) (mT : mg "_law_told" = some (.ref fT))
    (GM : FnOk P w K mg base CX0 1 fM fdM ["self"] (spBm C)) (bM : Binds K fdM ["self"] []) (mM : Meth K C "messages" fM)
    (mr : mg "range" = none) (mli : mg "list" = none) (mdi : mg "dict" = none) (mso : mg "sorted" = none) (mis : mg "isinstance" = none) : FnG P w K mg base CX0 44 f fd ["script"] (spLaw K) := by
  refine okG F scLaw (fun vs H Q E h => ?_) (fun A cdv outer s H vs Q E gd hr h => ?_)
  · obtain ⟨a, ns, rfl, _⟩ := h
    rfl
  obtain ⟨a, ns, rfl, hS, q⟩ := h
  have nd := scLaw.nd
  have hu : (A.deeper (PyProof.Rows.envOfC "law" (defScope sLaw) s.heap.objs.size f cdv)).units + 1 < cLine := by
    have := hr.un
    omega
  have GW : FnG P w K mg base CX0 43 fN fdN ["states", "deed"] (spDs K) := GN.imp fun vs H Q E h => dn_of h
  refine ⟨_, (pss_cons (ps_set (i := 1) nd rfl (.inl rfl) (pe_call GB (hr.mono (by decide)) rfl mB kB bB .nil pass0 (pa_cons (pv 0) (pa_cons pe_int (pa_cons pe_int pa_nil)))))
      (pss_cons (ps_set (i := 2) nd rfl (.inl rfl) (pe_make0 MK GI (hr.mono (by decide)) rfl mBk bI .nil pass0))
      (pss_cons (ps_set (i := 3) nd rfl (.inl rfl) (pe_lst (pa_cons pe_dnewK pa_nil)))
      (pss_cons (ps_for PassesOwn.never rfl (pi_range1 rfl mr (pa_cons pe_int pa_nil)) (pg_name (i := 4) nd rfl (.inl rfl)) (pss_cons (ps_set (i := 5) nd rfl (.inl rfl) (pe_call GD (hr.mono (by decide)) rfl mD kD bD .nil pass0 (pa_cons (pv 1) (pa_cons (pe_ix ix_list (pv 3) (pe_un un_neg pe_int) (fun _ _ => rfl)) pa_nil))))
      (pss_cons (ps_set (i := 6) nd rfl (.inl rfl) (pe_callG gd GW (hr.mono (by decide)) rfl mN kN bN .nil pass0 (pa_cons (pv 3) (pa_cons (pv 5) pa_nil))))
      (pss_cons (ps_if (pt_not (pt_val (pe_callG gd GS (hr.mono (by decide)) rfl mS kS bS .nil pass0 (pa_cons (pe_call GT (hr.mono (by decide)) rfl mT kT bT .nil pass0 (pa_cons (pv 2) (pa_cons (pv 5) pa_nil))) (pa_cons (pv 6) pa_nil))))) (pss_one (ps_ret pe_bl)) pss_nil)
      (pss_cons (ps_set (i := 7) nd rfl (.inl rfl) (pe_meth0 (pv 2) R.c mM GM (hr.mono (by decide)) bM .nil pass0))
      (pss_cons (ps_if (PW.pt (pw_or (pt_not (pt_val (pe_callB call_isi (by rfl) mis PyProof.Rows.boot_isinstance (pa_cons (pv 7) (pa_cons (pe_bltn (v := .ty "dict") (by rfl) mdi (by decide +kernel) rfl) pa_nil))))) (pw_or1 (pt_not (pt_val (pe_callG gd GS (hr.mono (by decide)) rfl mS kS bS .nil pass0 (pa_cons (pe_callB cr_sortedS (by rfl) mso (by decide +kernel) (pa_cons (pe_callTy (call_listD rfl) (by rfl) mli (by decide +kernel) (pa_cons (pv 7) pa_nil)) pa_nil)) (pa_cons (pe_callB cr_sortedS (by rfl) mso (by decide +kernel) (pa_cons (pe_callTy (call_listD rfl) (by rfl) mli (by decide +kernel) (pa_cons (pe_ix ix_list (pv 3) (pe_un un_neg pe_int) (fun _ _ => rfl)) pa_nil)) pa_nil)) pa_nil)))))))) (pss_one (ps_ret pe_bl)) pss_nil)
      (pss_cons (ps_lock (ps_for PassesOwn.never rfl (pi_keys (pe_ix ix_list (pv 3) (pe_un un_neg pe_int) (fun _ _ => rfl))) (pg_name (i := 8) nd rfl (.inl rfl)) (pss_one (ps_if (pt_not (pt_val (pe_callG gd GS (hr.mono (by decide)) rfl mS kS bS .nil pass0 (pa_cons (pe_dget hu (pv 7) (pv 8) (fun _ _ => rfl)) (pa_cons (pe_dget hu (pe_ix ix_list (pv 3) (pe_un un_neg pe_int) (fun _ _ => rfl)) (pv 8) (fun _ _ => rfl)) pa_nil))))) (pss_one (ps_ret pe_bl)) pss_nil))))
      (pss_cons (ps_dput hu (pv 7) pe_str (pe_lst pa_nil) rfl)
      (pss_one (ps_expr (pe_dpop2 (pv 7) pe_str pe_non ⟨rfl, rfl, rfl, rfl⟩)))))))))))
      (pss_one (ps_ret pe_bl)))))), ?_⟩
  refine ⟨_, rfl, a, ns, rfl, hS, fun B b H1 hB0 hb0 s1 hb1 => ?_⟩
  refine fun r dx hr0 hdx0 hne => ?_
  refine ⟨r, dx, rfl, upd_same, fun H2 kd bl keep hkd0 hbl0 hbk => ⟨rfl, ?_⟩⟩
  have s2 : Same H1 H2 := fun b' o h => by
    have n1 : b' ≠ r := ne_of_none h hr0
    have n2 : b' ≠ dx := ne_of_none h hdx0
    exact keep b' o (by rw [upd_ne n1, upd_ne n2]; exact h) n1
  have hkd1 : H1 kd = none := upd_none (upd_none hkd0)
  have hbl1 : H1 bl = none := upd_none (upd_none hbl0)
  refine fun d0 hd0 => ⟨by show 1 ≤ sizeLine; decide, fun sl hsl => ?_⟩
  have s3 : Same H2 (upd H2 d0 (.dK [])) := same_new hd0 _
  have s4 : Same (upd H2 d0 (.dK [])) (upd (upd H2 d0 (.dK [])) sl (.lst [.ref d0])) := same_new hsl _
  have d0sl : d0 ≠ sl := ne_of_none (H := upd H2 d0 (.dK [])) upd_same hsl
  have hd0' : upd (upd H2 d0 (.dK [])) sl (.lst [.ref d0]) d0 = some (.dK []) := by rw [upd_ne d0sl]; exact upd_same
  have hsl' : upd (upd H2 d0 (.dK [])) sl (.lst [.ref d0]) sl = some (.lst [.ref d0]) := upd_same
  have sl2 : H2 sl = none := s3.free hsl
  generalize upd (upd H2 d0 (.dK [])) sl (.lst [.ref d0]) = H3 at s4 hd0' hsl'
  have s23 := s3.trans s4
  have iv0 : Iv C H3 B b r dx kd bl sl 0 [d0] [] := by
    obtain ⟨oB, hB⟩ := hb1.isB
    obtain ⟨oD, hD⟩ := hb1.isD
    refine ⟨hb1.same (s2.trans s23), ⟨[], [], hbk.same s23, Rep.nil, rfl⟩, hsl', ⟨M00, [], [], rfl, ?_, Rep.nil, rfl⟩, ?_, Nat.zero_le _, ne_of_none hB hbl1, (ne_of_none hbk.b sl2).symm, ne_of_none (s2 _ _ hB) sl2, ne_of_none hD hbl1, ne_of_none (s2 _ _ hD) sl2⟩
    · rw [hd_off]
      · exact hd0'
      · simp only [List.mem_cons, List.not_mem_nil, or_false]
        rintro (rfl | rfl | rfl | rfl)
        · rw [s2 _ _ hB] at hd0; cases hd0
        · rw [hbk.k] at hd0; cases hd0
        · rw [hbk.b] at hd0; cases hd0
        · exact d0sl rfl
    · intro M hM
      rw [List.mem_singleton.mp hM]
      exact GoodM.nil
  refine ⟨25, rfl, by decide, by decide, for_range (lo := 0) (n := 25) (fun i σ H' => ∃ o4 o5 o6 o7 o8 ds rs, σ = [some (.ref a), some (.ref B), some (.ref r), some (.ref sl), o4, o5, o6, o7, o8] ∧ Iv C H' B b r dx kd bl sl i ds rs) ⟨_, _, _, _, _, _, _, rfl, iv0⟩ ?_ ?_⟩
  rotate_left
  · rintro σ H' ⟨_, _, _, _, _, _, _, rfl, _⟩
    exact q H'
  clear iv0 hd0' hsl' s23 s4 s3 s2 hbk keep
  rintro i σ H4 hi ⟨o4, o5, o6, o7, o8, ds, rs, rfl, iv⟩
  obtain ⟨nMs, eMs⟩ := snoc_last M00 rs
  have hsd' := iv.sd
  rw [eMs] at hsd'
  obtain ⟨es, d, kvs2, rfl, hd, hrep2, hses⟩ := hsd'.unsnoc
  have mu4 := iv.mu
  obtain ⟨kvs, bvs, hbk, hrepB, hlk⟩ := iv.bk
  obtain ⟨dL, hdH⟩ := hd_in hd
  have hstL : ∀ {H' : Hp} {es : List Addr} {d : Addr}, H' sl = some (.lst ((es ++ [d]).map V.ref)) → SqL K H' sl (es.map V.ref ++ [V.ref d]) := fun {H' es d} e => SqL.of (by rw [e, List.map_append]; rfl)
  have hLB : Same (Hd [B, kd, bl, sl] H4) (Hd [B] H4) := fun x o h => by
    obtain ⟨h1, h2⟩ := hd_in h
    rw [hd_off]
    · exact h2
    · intro c
      exact h1 (by rw [List.mem_singleton.mp c]; simp)
  have dB : d ≠ B := fun e => dL (by rw [e]; simp)
  have hgl : GoodM i (lastM M00 rs) := iv.gd _ (by rw [eMs]; simp)
  -- deed
  refine ⟨_, rfl, _, rfl, 1, rfl, sl, _, -1, .ref d, rfl, rfl, hstL iv.xs, atI_last _ _, B, b, d, kvs2, lastM M00 rs, rfl, iv.bx, hdH, dB, hrep2.same hLB, hgl.mono (by omega), fun v dd H5 g5 b5 hdo hda => ?_⟩
  have m5 : Mb [B] H4 H5 := fun x o n h => g5.ext x o (by simpa using n) h
  have m5L : Mb [B, kd, bl, sl] H4 H5 := m5.sub fun l hl => by rw [List.mem_singleton.mp hl]; simp
  have sL5 := hd_mb m5L
  have hr4 := hbk.h
  obtain ⟨nrk, nrb, nkb⟩ := hbk.ne
  obtain ⟨ob, hBB⟩ : ∃ xs, H4 B = some (.lst xs) := by obtain ⟨es', j, g1, _, _⟩ := iv.bx; exact ⟨_, g1⟩
  have nkB : kd ≠ B := fun e => by have := hbk.k; rw [e, hBB] at this; cases this
  have nrB : r ≠ B := fun e => by rw [e, hBB] at hr4; cases hr4
  have nks : kd ≠ sl := fun e => by have := hbk.k; rw [e, iv.xs] at this; cases this
  have nrs : r ≠ sl := fun e => by rw [e, iv.xs] at hr4; cases hr4
  have hr5 := g5.ext _ _ nrB hr4
  have hk5 := g5.ext _ _ nkB hbk.k
  have hb5' := g5.ext _ _ iv.n1.symm hbk.b
  have hs5 := g5.ext _ _ iv.n3.symm iv.xs
  have bk5 : BkR C H5 [B, kd, bl, sl] r dx kd bl M00 rs := ⟨kvs, bvs, ⟨hr5, hk5, hb5', hbk.z, hbk.zb⟩, hrepB.same sL5, hlk.same sL5⟩
  have mu5 : Mu [B, kd, bl, sl] H5 := by
    obtain ⟨es', j, g1, _, _⟩ := b5
    intro l hl
    simp only [List.mem_cons, List.not_mem_nil, or_false] at hl
    rcases hl with rfl | rfl | rfl | rfl
    · exact ⟨_, g1, trivial⟩
    · exact ⟨_, hk5, trivial⟩
    · exact ⟨_, hb5', trivial⟩
    · exact ⟨_, hs5, trivial⟩
  have hda5 := hda.hd mu5 (hd_fr mu4.ex)
  -- due
  refine ⟨_, rfl, _, rfl, sl, d, es, [B, kd, bl, sl], v, M00, rs, dd, i, rfl, hs5, by have := iv.ln; omega, by simp, mu5, iv.sd.same sL5, iv.gd, by omega, hda5, hdo, fun v2 H6 ds2 rs2 an m6 hs6 hsd6 hg6 hl6 han hao huni => ?_⟩
  have m6L : Mb [B, kd, bl, sl] H5 H6 := m6.sub fun l hl => by rw [List.mem_singleton.mp hl]; simp
  have sL6 := hd_mb m6L
  have one : ∀ {x : Addr}, x ≠ sl → x ∉ [sl] := fun h c => h (List.mem_singleton.mp c)
  have hr6 := m6 _ _ (one nrs) hr5
  have hk6 := m6 _ _ (one nks) hk5
  have hb6 := m6 _ _ (one iv.n2.symm) hb5'
  have bx6 := Box.mb b5 m6 (one iv.n3) (one iv.n5)
  have bk6 : BkR C H6 [B, kd, bl, sl] r dx kd bl M00 rs := by
    obtain ⟨kvs', bvs', h1, h2, h3⟩ := bk5
    exact ⟨kvs', bvs', ⟨m6 _ _ (one nrs) h1.h, m6 _ _ (one nks) h1.k, m6 _ _ (one iv.n2.symm) h1.b, h1.z, h1.zb⟩, h2.same sL6, h3.same sL6⟩
  have mu6 : Mu [B, kd, bl, sl] H6 := by
    obtain ⟨es', j, g1, _, _⟩ := bx6
    intro l hl
    simp only [List.mem_cons, List.not_mem_nil, or_false] at hl
    rcases hl with rfl | rfl | rfl | rfl
    · exact ⟨_, g1, trivial⟩
    · exact ⟨_, hk6, trivial⟩
    · exact ⟨_, hb6, trivial⟩
    · exact ⟨_, hs6, trivial⟩
  -- told
  refine ⟨_, rfl, _, rfl, r, dx, kd, bl, [B, kd, bl, sl], M00, rs, v, dd, rfl, ⟨bk6, mu6, by simp, by simp, hgl.mono (by omega), hda5.same sL6 sL6, hdo, by have := iv.ln; omega⟩, ?_⟩
  refine huni C H6 _ r dx kd bl _ bk6 fun v7 H7 m7 bk7 han7 => ?_
  have m7L : Mb [B, kd, bl, sl] H6 H7 := m7.sub fun l hl => by
    simp only [List.mem_cons, List.not_mem_nil, or_false] at hl
    rcases hl with rfl | rfl <;> simp
  have sL7 := hd_mb m7L
  refine ⟨_, rfl, v7, v2, anD an, anD an, rfl, (han7.same hd_out).dp hao, ((han.same sL7).same hd_out).dp hao, an_sh hao, an_sh hao, _, rfl, ?_⟩
  rw [decide_eq_true rfl]
  refine iteF ?_
  -- messages
  obtain ⟨kvs7, bvs7, hbk7, hrep7, hlk7⟩ := id bk7
  refine ⟨_, rfl, r, dx, _, rfl, hbk7.h, rfl, r, dx, kd, bl, kvs7, bvs7, rfl, hbk7, fun p hp => ?_⟩
  have s8 : Same H7 (upd H7 p (.dK kvs7)) := same_new hp _
  have hp8 : upd H7 p (.dK kvs7) p = some (.dK kvs7) := upd_same
  generalize upd H7 p (.dK kvs7) = H8 at s8 hp8
  have sL8 : Same (Hd [B, kd, bl, sl] H7) (Hd [B, kd, bl, sl] H8) := hd_mb (Mb.of s8)
  have one7 : ∀ {x : Addr}, x ≠ kd → x ≠ bl → x ∉ [kd, bl] := fun h1 h2 c => by
    simp only [List.mem_cons, List.not_mem_nil, or_false] at c
    rcases c with c | c
    · exact h1 c
    · exact h2 c
  have hs7 := m7 _ _ (one7 nks.symm iv.n2) hs6
  have hs8 := s8 _ _ hs7
  have nkb' : b ≠ kd := fun e => by
    obtain ⟨es', j, _, g2, _⟩ := bx6
    rw [e, hk6] at g2
    cases g2
  have bx7 := Box.mb bx6 m7 (one7 nkB.symm iv.n1) (one7 nkb' iv.n4)
  obtain ⟨nM2, eM2⟩ := snoc_last M00 rs2
  have hsd8 := (hsd6.same sL7).same sL8
  have hsd8' := hsd8
  rw [eM2] at hsd8'
  obtain ⟨es2, d2, kvs8, rfl, hd2, hrep8, _⟩ := hsd8'.unsnoc
  have hrepT := hrep7.same sL8
  obtain ⟨d2L, hd2H⟩ := hd_in hd2
  have nd2p : d2 ≠ p := fun e => by
    have := (hd_in (show Hd [B, kd, bl, sl] H8 d2 = some (.dK kvs8) from hd2)).2
    obtain ⟨es3, d3, kvs9, e3, hd3, _⟩ := (hsd6.same sL7 |> fun h => by rw [eM2] at h; exact h : Sds (Hd [B, kd, bl, sl] H7) (es2 ++ [d2]) (nM2 ++ [lastM M00 rs2])).unsnoc
    obtain ⟨_, rfl⟩ := snoc_eq e3
    have := (hd_in hd3).2
    rw [e, hp] at this
    cases this
  refine ⟨_, rfl, .ref p, .ty "dict", .type "dict", .type "dict", true, rfl, .ty "dict", .base (.dK hp8), kit_dict, true, rfl, ?_⟩
  refine iteF ?_
  -- the keys
  obtain ⟨ks, ek, kn, kk, km⟩ := hrepT.ks
  obtain ⟨ks2, ek2, kn2, kk2, km2⟩ := hrep8.ks
  have kl : ks.length ≤ 4 := nodup_len kn kk
  have kl2 : ks2.length ≤ 4 := nodup_len kn2 kk2
  refine ⟨_, rfl, p, kvs7, rfl, .inl hp8, fun l1 hl1 => ?_⟩
  rw [kv_str ek]
  have t1 : Same H8 (upd H8 l1 (.lst (ks.map V.str))) := same_new hl1 _
  refine ⟨l1, ks, rfl, SqL.of upd_same, by omega, fun ys l2 hpm hsr hl2 => ?_⟩
  have t2 : Same (upd H8 l1 (.lst (ks.map V.str))) (upd (upd H8 l1 (.lst (ks.map V.str))) l2 (.lst (ys.map V.str))) := same_new hl2 _
  have hl2' : upd (upd H8 l1 (.lst (ks.map V.str))) l2 (.lst (ys.map V.str)) l2 = some (.lst (ys.map V.str)) := upd_same
  generalize upd (upd H8 l1 (.lst (ks.map V.str))) l2 (.lst (ys.map V.str)) = H9 at t2 hl2'
  have t89 : Same H8 H9 := t1.trans t2
  refine ⟨_, rfl, 1, rfl, sl, _, -1, .ref d2, rfl, rfl, hstL (t89 _ _ hs8), atI_last _ _, d2, kvs8, rfl, .inl (t89 _ _ hd2H), fun l3 hl3 => ?_⟩
  rw [kv_str ek2]
  have t3 : Same H9 (upd H9 l3 (.lst (ks2.map V.str))) := same_new hl3 _
  refine ⟨l3, ks2, rfl, SqL.of upd_same, by omega, fun ys2 l4 hpm2 hsr2 hl4 => ?_⟩
  have t4 : Same (upd H9 l3 (.lst (ks2.map V.str))) (upd (upd H9 l3 (.lst (ks2.map V.str))) l4 (.lst (ys2.map V.str))) := same_new hl4 _
  have hl4' : upd (upd H9 l3 (.lst (ks2.map V.str))) l4 (.lst (ys2.map V.str)) l4 = some (.lst (ys2.map V.str)) := upd_same
  generalize upd (upd H9 l3 (.lst (ks2.map V.str))) l4 (.lst (ys2.map V.str)) = H10 at t4 hl4'
  have t9 : Same H9 H10 := t3.trans t4
  have s810 : Same H8 H10 := t89.trans t9
  have yk : ∀ y ∈ ys, y ∈ keys4 := fun y h => kk y (hpm.mem_iff.mp h)
  have yk2 : ∀ y ∈ ys2, y ∈ keys4 := fun y h => kk2 y (hpm2.mem_iff.mp h)
  have hys : ys = ys2 := one_row (fun n => by rw [hpm.mem_iff, hpm2.mem_iff, km, km2]) (hpm.nodup_iff.mpr kn) (hpm2.nodup_iff.mpr kn2) yk (srt_pw yk hsr) (srt_pw yk2 hsr2)
  subst hys
  have ysl : ys.length ≤ 4 := by rw [hpm.length_eq]; exact kl
  refine ⟨.ref l2, .ref l4, .list (ys.map PyData.str), .list (ys.map PyData.str), rfl, .lst (SqL.of (t9 _ _ hl2')) (strs_dp _), .lst (SqL.of hl4') (strs_dp _), strs_sh yk ysl, strs_sh yk ysl, _, rfl, ?_⟩
  rw [decide_eq_true rfl]
  refine iteF ?_
  -- message by message
  have hd10 := s810 _ _ hd2H
  have hp10 := s810 _ _ hp8
  have hs10 := s810 _ _ hs8
  have nsd : sl ≠ d2 := fun e => by rw [e, hd10] at hs10; cases hs10
  have sL10 : Same (Hd [B, kd, bl, sl] H8) (Hd [B, kd, bl, sl] H10) := hd_mb (Mb.of s810)
  refine ⟨d2, .dK kvs8, hd10, trivial, fun od => ?_⟩
  have hsF : upd H10 d2 (.frz od (.dK kvs8)) sl = some (.lst ((es2 ++ [d2]).map V.ref)) := by rw [upd_ne nsd]; exact hs10
  have hpF : upd H10 d2 (.frz od (.dK kvs8)) p = some (.dK kvs7) := by rw [upd_ne nd2p.symm]; exact hp10
  have lt : Lt (Hd [B, kd, bl, sl] H10) (upd H10 d2 (.frz od (.dK kvs8))) := by
    constructor
    · intro x xs h
      have h' := hd_out _ _ h
      rw [upd_ne (fun e => by rw [e, hd10] at h'; cases h')]
      exact h'
    · intro x xs h
      have h' := hd_out _ _ h
      rw [upd_ne (fun e => by rw [e, hd10] at h'; cases h')]
      exact h'
  refine ⟨_, rfl, 1, rfl, sl, _, -1, .ref d2, rfl, rfl, hstL hsF, atI_last _ _, d2, od, rfl, .inl ⟨kvs8, upd_same, for_it walk_keys (fun j σ H' => (∃ o8', σ = [some (.ref a), some (.ref B), some (.ref r), some (.ref sl), some (.int (0 + (i : Nat))), some v, some v2, some (.ref p), o8']) ∧ H' = upd H10 d2 (.frz od (.dK kvs8)))
    ⟨⟨_, rfl⟩, rfl⟩ ?_ ?_ ?_⟩⟩
  · rintro j σ H' _ ⟨_, rfl⟩
    exact upd_same
  · rintro j x σ H' H'' hj ⟨⟨o8', rfl⟩, rfl⟩ ⟨rfl, k, u, hk, rfl⟩
    obtain ⟨ky, hky, rfl⟩ := hrep8.keys _ (List.mem_of_getElem? hk)
    have hvu := (valV_take hrep8.nod hk).2
    obtain ⟨a2, t2', rfl, hat2, hM2⟩ := hrep8.sm ky u hvu
    cases hv : valV kvs7 (.inr ky) with
    | none =>
      have := hrepT.nn ky hv
      rw [hM2] at this
      cases this
    | some u1 =>
      obtain ⟨a1, t1', rfl, hat1, hM1⟩ := hrepT.sm ky u1 hv
      rw [hM2] at hM1
      obtain rfl : t2' = t1' := Option.some.inj hM1
      have gk := (hg6 (lastM M00 rs2) (by rw [eM2]; simp)) ky t2' hM2
      have ft := gk.2.fit (by omega)
      refine ⟨_, rfl, _, rfl, p, .ref a1, rfl, by rw [← hv]; exact DGet.k (k := .inr ky) hpF, _, rfl, 1, rfl, sl, _, -1, .ref d2, rfl, rfl, hstL hsF, atI_last _ _, _, rfl, d2, .ref a2, rfl, .inl ⟨kvs8, .inr ky, .inr ⟨od, upd_same⟩, rfl, hvu.symm⟩, ?_⟩
      refine ⟨.ref a1, .ref a2, .list (dat t2'), .list (dat t2'), rfl, ((hat1.same sL10).lt lt).dp ft.sok, ((hat2.same sL10).lt lt).dp ft.sok, ft.sh, ft.sh, _, rfl, ?_⟩
      rw [decide_eq_true rfl]
      exact iteF ⟨⟨_, rfl⟩, rfl⟩
  rintro σ H' ⟨⟨o8', rfl⟩, rfl⟩
  refine ⟨upd_same, ?_⟩
  rw [upd_two, upd_id hd10]
  -- the dict that was handed out is spoilt
  refine ⟨Nat.zero_le _, fun el hel => ?_⟩
  have s11 : Same H10 (upd H10 el (.lst [])) := same_new hel _
  have hp11 := s11 _ _ hp10
  generalize upd H10 el (.lst []) = H11 at s11 hp11
  have p7 : H7 p = none := hp
  refine ⟨_, rfl, p, _, rfl, DPut.k (k := .inr "spoilt") hp11 (sz_line (by have := hrepT.len; omega)), ?_⟩
  have s711 : Same H7 H11 := (s8.trans s810).trans s11
  have fin : ∀ o, ∃ o4 o5 o6 o7 o8 ds rs, ([some (.ref a), some (.ref B), some (.ref r), some (.ref sl), some (.int (0 + (i : Nat))), some v, some v2, some (.ref p), o8'] : L2.St) = [some (.ref a), some (.ref B), some (.ref r), some (.ref sl), o4, o5, o6, o7, o8] ∧ Iv C (upd H11 p o) B b r dx kd bl sl (i + 1) ds rs := fun o => by
    have sF : Same H7 (upd H11 p o) := same_mut s711 p7 _
    refine ⟨_, _, _, _, _, es2 ++ [d2], rs2, rfl, bx7.same sF, bk7.same sF, sF _ _ hs7, (hsd6.same sL7).same (hd_mb (Mb.of sF)), hg6, by have := iv.ln; omega, iv.n1, iv.n2, iv.n3, iv.n4, iv.n5⟩
  refine ⟨_, rfl, p, rfl, .inl ⟨_, .inl upd_same⟩, _, .inr "a", upd_same, rfl, fun u hu => ?_, fun hu => ?_⟩
  · rw [upd_two]
    exact fin _
  · exact fin _
end
end Mw

set_option linter.all false
/-! the law's own def, run where the caller runs it: nothing is being shown there -/
namespace Gy
open PySem PySem.Spec PyProof.Rows L2
/-- a def's promise around A alone -/
def RunAt (A : Around) (P : Program) (w : World) (K : PySem.W.Frag) (mg : Str → Option Value) (base : Heap) (CX : CXT) (k : Nat) (f : Addr) (fd : FuncData) (ps : List Str) (sp : Sp) : Prop :=
  ∀ (outer : List Env) (s : Shared) (H : Hp) (args : Args) (us : List Value) (vs : List V) (Q : VK) (E : XK), Room k A → Env0 P w K mg base A outer s H → BindsTo s fd args (ps.zip us) → Vals vs us → sp vs H Q E →
    codeAny (model P w) A (.call (.ref f) args) (CR CX outer P w H s Q E) s
section
variable {P : Program} {w : World} {K : PySem.W.Frag} {mg : Str → Option Value} {base : Heap}
/-- from one abstract heap H that knows the script and nothing else -/
theorem heap_at {mb : Str → Option Value} {k : Nat} {fa a : Addr} {fd : FuncData} {x : Str} {sp : Sp} {s₁ : Shared} {vs : List Value} {ns : List Int} (KX : K.In s₁.heap) (hns : s₁.heap.Ns mainGlobals mg) (hb : s₁.heap.Ns builtinsNs mb)
    (hbb : ∀ x : Str, x ≠ "__name__" → mb x = bootBuiltins x) (hlim : s₁.heap.NoLimit) (hg : s₁.gens = #[]) (ha : s₁.heap.get? a = some { cls := .type "list", data := .seq vs.toArray }) (hr : Room k callerA)
    (F : ∀ base : Heap, K.In base → base.Ns mainGlobals mg → RunAt callerA P w K mg base CX0 k fa fd [x] sp) (hbind : ∀ (s : Shared) (u : Value), BindsTo s fd ⟨[u], []⟩ [(x, u)])
    (H : Hp) (hO : Only H) (hsp : sp [.ref a] H (fun v _ => v = .bl true) fun _ _ _ => False) (hok : HOk P w H s₁.heap) (hA : ∀ b u, H b = some u → b = a ∧ K.lookup a = none) :
    codeAny (model P w) callerA (.call (.ref fa) ⟨[.ref a], []⟩) (fun r s' => r = .ok (.ret (.bool true)) ∧ OldK s₁.heap s'.heap ∧ s'.os = s₁.os ∧ AllBare s'.gens) s₁ := by
  have dict : ∀ {b : Addr} {o : Obj} {es : Array DictEntry} {ep : Nat}, s₁.heap.get? b = some o → o.data = .dict es ep → H b = none := fun {b o es ep} e hd => by
    cases q : H b with
    | none => rfl
    | some u =>
      rw [(hA b u q).1, ha] at e
      cases e
      cases (show Data.seq vs.toArray _ = Data.dict es ep from hd)
  have ns0 : ∀ {b : Addr} {m : Str → Option Value}, s₁.heap.Ns b m → (hidT s₁.heap H).Ns b m := fun {b m} ⟨o, es, ep, e, hd, r⟩ => ⟨o, es, ep, hidT_get e (dict e hd), hd, r⟩
  have kb : K.In (hidT s₁.heap H) := fun b o e => hidT_get (KX b o e) (by
    cases q : H b with
    | none => rfl
    | some u =>
      obtain ⟨h1, h2⟩ := hA b u q
      rw [h1, h2] at e
      cases e)
  obtain ⟨mc, l1, l2⟩ := hlim
  have md : Mod K mg (hidT s₁.heap H) := ⟨kb, ns0 hns, ⟨mb, ns0 hb, hbb⟩, ⟨mc, ns0 l1, l2⟩⟩
  have nomem : ∀ b : Addr, b ∉ ([] : List Addr) := fun b h => by cases h
  have e0 : Env0 P w K mg (hidT s₁.heap H) callerA [] s₁ H :=
    { frames := rfl, mod := md, bs := fun b o e => of_hidT e, bsz := Nat.le_of_eq (hidT_size _ _), funs := trivial, frf := fun b h => absurd h (nomem b), hok := hok, bare := .of_eq hg }
  have run := (F _ kb (ns0 hns)) [] s₁ H ⟨[.ref a], []⟩ [.ref a] [.ref a] _ _ hr e0 (hbind s₁ (.ref a)) (.cons rfl .nil) hsp
  refine codeAny_mono run fun r s' h => ?_
  match r, h with
  | .error _, h => exact False.elim h
  | .ok .next, h => exact False.elim h
  | .ok .brk, h => exact False.elim h
  | .ok .cont, h => exact False.elim h
  | .ok (.ret u), h =>
    obtain ⟨v, H', os, bare, un, hok', rv, q⟩ := h
    have ev : v = .bl true := q
    subst ev
    have eu : u = Value.bool true := rv
    subst eu
    refine ⟨rfl, OldK.of_keep fun b o e => ?_, os, bare⟩
    cases hb : H b with
    | none => exact un.keep b o e hb (nomem b) (nomem b)
    | some y =>
      rcases hO b with z | ⟨ob, xs, z⟩
      · rw [hb] at z
        cases z
      · obtain ⟨g1, _⟩ := hok b _ z
        obtain ⟨g2, _⟩ := hok' b _ (un.frzs b ob _ z)
        rw [e] at g1
        cases g1
        exact g2
theorem call_at {mb : Str → Option Value} {k : Nat} {fa a : Addr} {fd : FuncData} {x : Str} {sp : Sp} {s₁ : Shared} {vs : List Value} {ns : List Int} (KX : K.In s₁.heap) (hns : s₁.heap.Ns mainGlobals mg) (hb : s₁.heap.Ns builtinsNs mb)
    (hbb : ∀ x : Str, x ≠ "__name__" → mb x = bootBuiltins x) (hlim : s₁.heap.NoLimit) (hg : s₁.gens = #[]) (ha : s₁.heap.get? a = some { cls := .type "list", data := .seq vs.toArray }) (hi : IntsAre vs ns) (hl : ns.length ≤ sizeLine) (hr : Room k callerA)
    (F : ∀ base : Heap, K.In base → base.Ns mainGlobals mg → RunAt callerA P w K mg base CX0 k fa fd [x] sp) (hbind : ∀ (s : Shared) (u : Value), BindsTo s fd ⟨[u], []⟩ [(x, u)])
    (hsp : ∀ H : Hp, Only H → SqL K H a (ns.map V.int) → sp [.ref a] H (fun v _ => v = .bl true) fun _ _ _ => False) :
    codeAny (model P w) callerA (.call (.ref fa) ⟨[.ref a], []⟩) (fun r s' => r = .ok (.ret (.bool true)) ∧ OldK s₁.heap s'.heap ∧ s'.os = s₁.os ∧ AllBare s'.gens) s₁ := by
  have rv := vals_ints hi
  have lv := hi.length
  cases hk : K.lookup a with
  | some o =>
    have e := KX a o hk
    rw [ha] at e
    cases e
    have hO : Only fun _ => none := fun _ => .inl rfl
    exact heap_at (ns := ns) KX hns hb hbb hlim hg ha hr F hbind (fun _ => none) hO (hsp _ hO (.inr ⟨_, vs.toArray, _, hk, rfl, rfl, rfl, by rw [List.size_toArray, lv]; exact hl, by simpa using rv⟩)) (fun b u z => nomatch z) fun b u z => nomatch z
  | none =>
    let ob : Obj := { cls := .type "list", data := .seq vs.toArray }
    let H : Hp := fun b => if b = a then some (.frz ob (.lst (ns.map V.int))) else none
    have at_ : H a = some (.frz ob (.lst (ns.map V.int))) := if_pos rfl
    have off : ∀ b u, H b = some u → b = a := fun b u z => by
      by_cases h : b = a
      · exact h
      · have z' : (if b = a then some (HO.frz ob (.lst (ns.map V.int))) else none) = some u := z
        rw [if_neg h] at z'
        cases z'
    have hO : Only H := fun b => by
      by_cases h : b = a
      · subst h
        exact .inr ⟨_, _, at_⟩
      · exact .inl (if_neg h)
    refine heap_at (ns := ns) KX hns hb hbb hlim hg ha hr F hbind H hO (hsp H hO (.inl (.inr ⟨ob, at_⟩))) (fun b u z => ?_) fun b u z => ⟨off b u z, hk⟩
    have h := off b u z
    subst h
    rw [at_] at z
    cases z
    exact ⟨ha, by rw [List.length_map]; exact hl, vs, _, rv, ha⟩
end
/-- the law's end, its promise asked where the caller calls it -/
theorem walk_at {l : PySem.W.OpenLaw} {n k : Nat} {q : Program} {loose : List Str} {XP : (Str → Option Value) → Heap → Prop} {YP : World → Heap → Prop} {d : DefRec} {K : Params → PySem.W.Frag} {sp : World → Sp} {x : Str}
    (hn : l.most = some n) (hn2 : n ≤ sizeLine) (hdf : d.params.defaults = []) (hr : Room k callerA) (hY : ∀ (w : World) (h : Heap), YP w h → (K w.params).In h)
    (F : ∀ (w : World) (mg : Str → Option Value) (fa : Addr) (h : Heap), (K w.params).In h → h.Ns mainGlobals mg → mg d.name = some (.ref fa) →
      ∃ fd : FuncData, (∀ (s : Shared) (u : Value), BindsTo s fd ⟨[u], []⟩ [(x, u)]) ∧ ∀ base : Heap, (K w.params).In base → base.Ns mainGlobals mg → RunAt callerA l.prog w (K w.params) mg base CX0 k fa fd [x] (sp w))
    (hsp : ∀ (w : World) (H : Hp) (a : Addr) (ns : List Int), ns.length ≤ n → Only H → SqL (K w.params) H a (ns.map V.int) → sp w [.ref a] H (fun v _ => v = .bl true) fun _ _ _ => False) :
    PySem.W.WalkO q loose XP YP l.row.toRowW d [] (fun f vs => PySem.call f vs) :=
  Att.attach_call hn hdf fun w s₀ s₁ mg mb fa o pm cd doc a vs ns G Y ho hd hcd hmg hobj hints hlen hg => by
    have KX := hY w _ Y
    obtain ⟨fd, hb, hF⟩ := F w mg fa _ KX G.T.g hmg
    exact call_at KX G.T.g G.T.b G.T.builtins G.T.nolimit hg hobj hints (Nat.le_trans hlen hn2) hr hF hb fun H hO hS => hsp w H a ns hlen hO hS
/-- a promise that carries the guards, where the caller calls -/
theorem run_of {P : Program} {w : World} {K : PySem.W.Frag} {mg : Str → Option Value} {base : Heap} {CX : CXT} {k : Nat} {f : Addr} {fd : FuncData} {ps : List Str} {sp : Sp} (F : Gg.FnG P w K mg base CX k f fd ps sp) : RunAt callerA P w K mg base CX k f fd ps sp :=
  fun outer s H args us vs Q E hr e0 hb r h => F.run callerA outer s H args us vs Q E rfl hr e0 hb r h
end Gy

namespace Mw
open PySem L2 Gg Sx
set_option maxHeartbeats 0 in
theorem all_mk {l : PySem.W.OpenLaw} {w : World} {K : PySem.W.Frag} {h : Heap} {mg : Str → Option Value} {fa f1 f2 f3 f4 f5 f6 f7 f8 f9 f10 f11 f12 f13 f14 f15 f16 f17 f18 f19 f20 f21 f22 f23 f24 f25 f26 f27 f28 m1 m2 m3 m4 m5 m6 m7 m8 m9 C M X1 fB1 cc1 cda1 N1 X2 fB2 cc2 cda2 N2 : Addr} (X : K.In h) (G : h.Ns mainGlobals mg) (hfa : mg "law" = some (.ref fa))
    {od1 an1 od2 an2 od3 an3 od4 an4 od5 an5 od6 an6 od7 an7 od8 an8 od9 an9 od10 an10 od11 an11 od12 an12 od13 an13 od14 an14 od15 an15 od16 an16 od17 an17 od18 an18 od19 an19 od20 an20 od21 an21 od22 an22 od23 an23 od24 an24 od25 an25 od26 an26 od27 an27 od28 an28 mod1 man1 mod2 man2 mod3 man3 mod4 man4 mod5 man5 mod6 man6 mod7 man7 mod8 man8 mod9 man9 odB1 anB1 cdd1 cd01 dd1 odB2 anB2 cdd2 cd02 dd2 : Option Addr} {sl1 sl2 sl3 sl4 sl5 sl6 sl7 sl8 sl9 sl10 sl11 sl12 sl13 sl14 sl15 sl16 sl17 sl18 sl19 sl20 sl21 sl22 sl23 sl24 sl25 sl26 sl27 sl28 msl1 msl2 msl3 msl4 msl5 msl6 msl7 msl8 msl9 slB1 ccs1 cs01 slB2 ccs2 cs02 : Array (Option Value)} {oc1 kV1 dc1 pm1 cd1 ct1 oc2 kV2 dc2 pm2 cd2 ct2 oc3 kV3 dc3 pm3 cd3 ct3 oc4 kV4 dc4 pm4 cd4 ct4 oc5 kV5 dc5 pm5 cd5 ct5 oc6 kV6 dc6 pm6 cd6 ct6 oc7 kV7 dc7 pm7 cd7 ct7 oc8 kV8 dc8 pm8 cd8 ct8 oc9 kV9 dc9 pm9 cd9 ct9 oc10 kV10 dc10 pm10 cd10 ct10 oc11 kV11 dc11 pm11 cd11 ct11 oc12 kV12 dc12 pm12 cd12 ct12 oc13 kV13 dc13 pm13 cd13 ct13 oc14 kV14 dc14 pm14 cd14 ct14 oc15 kV15 dc15 pm15 cd15 ct15 oc16 kV16 dc16 pm16 cd16 ct16 oc17 kV17 dc17 pm17 cd17 ct17 oc18 kV18 dc18 pm18 cd18 ct18 oc19 kV19 dc19 pm19 cd19 ct19 oc20 kV20 dc20 pm20 cd20 ct20 oc21 kV21 dc21 pm21 cd21 ct21 oc22 kV22 dc22 pm22 cd22 ct22 oc23 kV23 dc23 pm23 cd23 ct23 oc24 kV24 dc24 pm24 cd24 ct24 oc25 kV25 dc25 pm25 cd25 ct25 oc26 kV26 dc26 pm26 cd26 ct26 oc27 kV27 dc27 pm27 cd27 ct27 oc28 kV28 dc28 pm28 cd28 ct28 moc1 mkV1 mdc1 mpm1 mcd1 mct1 moc2 mkV2 mdc2 mpm2 mcd2 mct2 moc3 mkV3 mdc3 mpm3 mcd3 mct3 moc4 mkV4 mdc4 mpm4 mcd4 mct4 moc5 mkV5 mdc5 mpm5 mcd5 mct5 moc6 mkV6 mdc6 mpm6 mcd6 mct6 moc7 mkV7 mdc7 mpm7 mcd7 mct7 moc8 mkV8 mdc8 mpm8 mcd8 mct8 moc9 mkV9 mdc9 mpm9 mcd9 mct9 ocB1 kVB1 dcB1 pmB1 ctB1 ccl1 ce01 ocB2 kVB2 dcB2 pmB2 ctB2 ccl2 ce02 : Value}
    {nm1 qn1 file1 nm2 qn2 file2 : Str} {bs1 sub1 bs2 sub2 : List Value} {sn1 sn2 : List Str} {ab1 ab2 : Bool} {col1 col2 : Option Bool} {n01 n11 n21 n31 n51 n02 n12 n22 n32 n52 : Option Value} {cvs1 cvs2 : Array Value} {tf1 tf2 : Tok}
    (a1 : PySem.W.nsIn K mainGlobals "is_choice" = some (some (.ref f1))) (l1 : K.lookup f1 = some ⟨oc1, od1, .func (PySem.W.fnOf "is_choice" "is_choice" (defArgs sIs) (defBody sIs) (defScope sIs) .none kV1 dc1 pm1 an1 cd1 ct1), sl1⟩) (c1 : PySem.W.codeIn K cd1 "is_choice" = true) (k1 : PySem.W.keepIn K (.ref f1) = true)
    (a2 : PySem.W.nsIn K mainGlobals "cases_of" = some (some (.ref f2))) (l2 : K.lookup f2 = some ⟨oc2, od2, .func (PySem.W.fnOf "cases_of" "cases_of" (defArgs sCases) (defBody sCases) (defScope sCases) .none kV2 dc2 pm2 an2 cd2 ct2), sl2⟩) (c2 : PySem.W.codeIn K cd2 "cases_of" = true) (k2 : PySem.W.keepIn K (.ref f2) = true)
    (a3 : PySem.W.nsIn K mainGlobals "other_of" = some (some (.ref f3))) (l3 : K.lookup f3 = some ⟨oc3, od3, .func (PySem.W.fnOf "other_of" "other_of" (defArgs sOther) (defBody sOther) (defScope sOther) .none kV3 dc3 pm3 an3 cd3 ct3), sl3⟩) (c3 : PySem.W.codeIn K cd3 "other_of" = true) (k3 : PySem.W.keepIn K (.ref f3) = true)
    (a4 : PySem.W.nsIn K mainGlobals "inner_messages" = some (some (.ref f4))) (l4 : K.lookup f4 = some ⟨oc4, od4, .func (PySem.W.fnOf "inner_messages" "inner_messages" (defArgs sInner) (defBody sInner) (defScope sInner) .none kV4 dc4 pm4 an4 cd4 ct4), sl4⟩) (c4 : PySem.W.codeIn K cd4 "inner_messages" = true) (k4 : PySem.W.keepIn K (.ref f4) = true)
    (a5 : PySem.W.nsIn K mainGlobals "with_inner" = some (some (.ref f5))) (l5 : K.lookup f5 = some ⟨oc5, od5, .func (PySem.W.fnOf "with_inner" "with_inner" (defArgs sWith) (defBody sWith) (defScope sWith) .none kV5 dc5 pm5 an5 cd5 ct5), sl5⟩) (c5 : PySem.W.codeIn K cd5 "with_inner" = true) (k5 : PySem.W.keepIn K (.ref f5) = true)
    (a6 : PySem.W.nsIn K mainGlobals "text_nodes" = some (some (.ref f6))) (l6 : K.lookup f6 = some ⟨oc6, od6, .func (PySem.W.fnOf "text_nodes" "text_nodes" (defArgs sTn) (defBody sTn) (defScope sTn) .none kV6 dc6 pm6 an6 cd6 ct6), sl6⟩) (c6 : PySem.W.codeIn K cd6 "text_nodes" = true) (k6 : PySem.W.keepIn K (.ref f6) = true)
    (a7 : PySem.W.nsIn K mainGlobals "joined_texts" = some (some (.ref f7))) (l7 : K.lookup f7 = some ⟨oc7, od7, .func (PySem.W.fnOf "joined_texts" "joined_texts" (defArgs sJt) (defBody sJt) (defScope sJt) .none kV7 dc7 pm7 an7 cd7 ct7), sl7⟩) (c7 : PySem.W.codeIn K cd7 "joined_texts" = true) (k7 : PySem.W.keepIn K (.ref f7) = true)
    (a8 : PySem.W.nsIn K mainGlobals "plain" = some (some (.ref f8))) (l8 : K.lookup f8 = some ⟨oc8, od8, .func (PySem.W.fnOf "plain" "plain" (defArgs sPlain) (defBody sPlain) (defScope sPlain) .none kV8 dc8 pm8 an8 cd8 ct8), sl8⟩) (c8 : PySem.W.codeIn K cd8 "plain" = true) (k8 : PySem.W.keepIn K (.ref f8) = true)
    (a9 : PySem.W.nsIn K mainGlobals "keys_of" = some (some (.ref f9))) (l9 : K.lookup f9 = some ⟨oc9, od9, .func (PySem.W.fnOf "keys_of" "keys_of" (defArgs sKo) (defBody sKo) (defScope sKo) .none kV9 dc9 pm9 an9 cd9 ct9), sl9⟩) (c9 : PySem.W.codeIn K cd9 "keys_of" = true) (k9 : PySem.W.keepIn K (.ref f9) = true)
    (a10 : PySem.W.nsIn K mainGlobals "place_within" = some (some (.ref f10))) (l10 : K.lookup f10 = some ⟨oc10, od10, .func (PySem.W.fnOf "place_within" "place_within" (defArgs sPw) (defBody sPw) (defScope sPw) .none kV10 dc10 pm10 an10 cd10 ct10), sl10⟩) (c10 : PySem.W.codeIn K cd10 "place_within" = true) (k10 : PySem.W.keepIn K (.ref f10) = true)
    (a11 : PySem.W.nsIn K mainGlobals "messages_along" = some (some (.ref f11))) (l11 : K.lookup f11 = some ⟨oc11, od11, .func (PySem.W.fnOf "messages_along" "messages_along" (defArgs sAl) (defBody sAl) (defScope sAl) .none kV11 dc11 pm11 an11 cd11 ct11), sl11⟩) (c11 : PySem.W.codeIn K cd11 "messages_along" = true) (k11 : PySem.W.keepIn K (.ref f11) = true)
    (a12 : PySem.W.nsIn K mainGlobals "replaced" = some (some (.ref f12))) (l12 : K.lookup f12 = some ⟨oc12, od12, .func (PySem.W.fnOf "replaced" "replaced" (defArgs sRe) (defBody sRe) (defScope sRe) .none kV12 dc12 pm12 an12 cd12 ct12), sl12⟩) (c12 : PySem.W.codeIn K cd12 "replaced" = true) (k12 : PySem.W.keepIn K (.ref f12) = true)
    (a13 : PySem.W.nsIn K mainGlobals "_law_cell" = some (some (.ref f13))) (l13 : K.lookup f13 = some ⟨oc13, od13, .func (PySem.W.fnOf "_law_cell" "_law_cell" (defArgs sCell) (defBody sCell) (defScope sCell) .none kV13 dc13 pm13 an13 cd13 ct13), sl13⟩) (c13 : PySem.W.codeIn K cd13 "_law_cell" = true) (k13 : PySem.W.keepIn K (.ref f13) = true)
    (a14 : PySem.W.nsIn K mainGlobals "_law_row" = some (some (.ref f14))) (l14 : K.lookup f14 = some ⟨oc14, od14, .func (PySem.W.fnOf "_law_row" "_law_row" (defArgs sRow) (defBody sRow) (defScope sRow) .none kV14 dc14 pm14 an14 cd14 ct14), sl14⟩) (c14 : PySem.W.codeIn K cd14 "_law_row" = true) (k14 : PySem.W.keepIn K (.ref f14) = true)
    (a15 : PySem.W.nsIn K mainGlobals "_law_box" = some (some (.ref f15))) (l15 : K.lookup f15 = some ⟨oc15, od15, .func (PySem.W.fnOf "_law_box" "_law_box" (defArgs sBox) (defBody sBox) (defScope sBox) .none kV15 dc15 pm15 an15 cd15 ct15), sl15⟩) (c15 : PySem.W.codeIn K cd15 "_law_box" = true) (k15 : PySem.W.keepIn K (.ref f15) = true)
    (a16 : PySem.W.nsIn K mainGlobals "_law_draw" = some (some (.ref f16))) (l16 : K.lookup f16 = some ⟨oc16, od16, .func (PySem.W.fnOf "_law_draw" "_law_draw" (defArgs sDraw) (defBody sDraw) (defScope sDraw) .none kV16 dc16 pm16 an16 cd16 ct16), sl16⟩) (c16 : PySem.W.codeIn K cd16 "_law_draw" = true) (k16 : PySem.W.keepIn K (.ref f16) = true)
    (a17 : PySem.W.nsIn K mainGlobals "_law_same" = some (some (.ref f17))) (l17 : K.lookup f17 = some ⟨oc17, od17, .func (PySem.W.fnOf "_law_same" "_law_same" (defArgs sSame) (defBody sSame) (defScope sSame) .none kV17 dc17 pm17 an17 cd17 ct17), sl17⟩) (c17 : PySem.W.codeIn K cd17 "_law_same" = true) (k17 : PySem.W.keepIn K (.ref f17) = true)
    (a18 : PySem.W.nsIn K mainGlobals "_law_message" = some (some (.ref f18))) (l18 : K.lookup f18 = some ⟨oc18, od18, .func (PySem.W.fnOf "_law_message" "_law_message" (defArgs sMsg) (defBody sMsg) (defScope sMsg) .none kV18 dc18 pm18 an18 cd18 ct18), sl18⟩) (c18 : PySem.W.codeIn K cd18 "_law_message" = true) (k18 : PySem.W.keepIn K (.ref f18) = true)
    (a19 : PySem.W.nsIn K mainGlobals "_law_paths" = some (some (.ref f19))) (l19 : K.lookup f19 = some ⟨oc19, od19, .func (PySem.W.fnOf "_law_paths" "_law_paths" (defArgs sLp) (defBody sLp) (defScope sLp) .none kV19 dc19 pm19 an19 cd19 ct19), sl19⟩) (c19 : PySem.W.codeIn K cd19 "_law_paths" = true) (k19 : PySem.W.keepIn K (.ref f19) = true)
    (a20 : PySem.W.nsIn K mainGlobals "_law_at" = some (some (.ref f20))) (l20 : K.lookup f20 = some ⟨oc20, od20, .func (PySem.W.fnOf "_law_at" "_law_at" (defArgs sLa) (defBody sLa) (defScope sLa) .none kV20 dc20 pm20 an20 cd20 ct20), sl20⟩) (c20 : PySem.W.codeIn K cd20 "_law_at" = true) (k20 : PySem.W.keepIn K (.ref f20) = true)
    (a21 : PySem.W.nsIn K mainGlobals "_law_put" = some (some (.ref f21))) (l21 : K.lookup f21 = some ⟨oc21, od21, .func (PySem.W.fnOf "_law_put" "_law_put" (defArgs sPu) (defBody sPu) (defScope sPu) .none kV21 dc21 pm21 an21 cd21 ct21), sl21⟩) (c21 : PySem.W.codeIn K cd21 "_law_put" = true) (k21 : PySem.W.keepIn K (.ref f21) = true)
    (a22 : PySem.W.nsIn K mainGlobals "_law_path" = some (some (.ref f22))) (l22 : K.lookup f22 = some ⟨oc22, od22, .func (PySem.W.fnOf "_law_path" "_law_path" (defArgs sPa) (defBody sPa) (defScope sPa) .none kV22 dc22 pm22 an22 cd22 ct22), sl22⟩) (c22 : PySem.W.codeIn K cd22 "_law_path" = true) (k22 : PySem.W.keepIn K (.ref f22) = true)
    (a23 : PySem.W.nsIn K mainGlobals "_law_plain" = some (some (.ref f23))) (l23 : K.lookup f23 = some ⟨oc23, od23, .func (PySem.W.fnOf "_law_plain" "_law_plain" (defArgs sLpl) (defBody sLpl) (defScope sLpl) .none kV23 dc23 pm23 an23 cd23 ct23), sl23⟩) (c23 : PySem.W.codeIn K cd23 "_law_plain" = true) (k23 : PySem.W.keepIn K (.ref f23) = true)
    (a24 : PySem.W.nsIn K mainGlobals "_law_deed" = some (some (.ref f24))) (l24 : K.lookup f24 = some ⟨oc24, od24, .func (PySem.W.fnOf "_law_deed" "_law_deed" (defArgs sDe) (defBody sDe) (defScope sDe) .none kV24 dc24 pm24 an24 cd24 ct24), sl24⟩) (c24 : PySem.W.codeIn K cd24 "_law_deed" = true) (k24 : PySem.W.keepIn K (.ref f24) = true)
    (a25 : PySem.W.nsIn K mainGlobals "_law_done" = some (some (.ref f25))) (l25 : K.lookup f25 = some ⟨oc25, od25, .func (PySem.W.fnOf "_law_done" "_law_done" (defArgs sDn) (defBody sDn) (defScope sDn) .none kV25 dc25 pm25 an25 cd25 ct25), sl25⟩) (c25 : PySem.W.codeIn K cd25 "_law_done" = true) (k25 : PySem.W.keepIn K (.ref f25) = true)
    (a26 : PySem.W.nsIn K mainGlobals "_law_call" = some (some (.ref f26))) (l26 : K.lookup f26 = some ⟨oc26, od26, .func (PySem.W.fnOf "_law_call" "_law_call" (defArgs sCa) (defBody sCa) (defScope sCa) .none kV26 dc26 pm26 an26 cd26 ct26), sl26⟩) (c26 : PySem.W.codeIn K cd26 "_law_call" = true) (k26 : PySem.W.keepIn K (.ref f26) = true)
    (a27 : PySem.W.nsIn K mainGlobals "_law_told" = some (some (.ref f27))) (l27 : K.lookup f27 = some ⟨oc27, od27, .func (PySem.W.fnOf "_law_told" "_law_told" (defArgs sTo) (defBody sTo) (defScope sTo) .none kV27 dc27 pm27 an27 cd27 ct27), sl27⟩) (c27 : PySem.W.codeIn K cd27 "_law_told" = true) (k27 : PySem.W.keepIn K (.ref f27) = true)
    (a28 : PySem.W.nsIn K mainGlobals "law" = some (some (.ref f28))) (l28 : K.lookup f28 = some ⟨oc28, od28, .func (PySem.W.fnOf "law" "law" (defArgs sLaw) (defBody sLaw) (defScope sLaw) .none kV28 dc28 pm28 an28 cd28 ct28), sl28⟩) (c28 : PySem.W.codeIn K cd28 "law" = true) (k28 : PySem.W.keepIn K (.ref f28) = true)
    (aM : PySem.W.nsIn K mainGlobals "MessagewaysError" = some (some (.ref M)))
    (ebM : PySem.W.subIn K (.ref M) (.type "BaseException") = some true)
    (hdM : PySem.W.hasDictIn K M = true)
    (tM : PySem.W.typeIn K (.ref M) = some (.type "type"))
    (op : PySem.W.nsIn K cStatics "thirdparty.any" = some none)
    (top : (l.prog.main.scope.names.lookup ("super" : Str)).isSome = false)
    (aCC : PySem.W.nsIn K mainGlobals "Book" = some (some (.ref C)))
    (mk1C : PySem.W.makesIn K C = true)
    (mk4C : PySem.W.keepIn K (.ref C) = true)
    (pgC : PySem.W.plainGet K C Str.empty = true)
    (hdC : PySem.W.hasDictIn K C = true)
    (poC : PySem.W.plainOver K C = true)
    (saC : PySem.W.findIn K (.ref C) "__setattr__" = some (some (.builtin "object.__setattr__")))
    (nC_kept : PySem.W.findIn K (.ref C) "kept" = some none)
    (nC_before : PySem.W.findIn K (.ref C) "before" = some none)
    (ma1 : PySem.W.findIn K (.ref C) "__init__" = some (some (.ref m1)))
    (ml1 : K.lookup m1 = some ⟨moc1, mod1, .func (PySem.W.fnOf "__init__" "Book.__init__" (defArgs sBi) (defBody sBi) (defScope sBi) .none mkV1 mdc1 mpm1 man1 mcd1 mct1), msl1⟩)
    (mc1 : PySem.W.codeIn K mcd1 "Book.__init__" = true)
    (mf1 : PySem.W.isFn K (.ref m1) = true)
    (mk1 : PySem.W.keepIn K (.ref m1) = true)
    (ma2 : PySem.W.findIn K (.ref C) "messages" = some (some (.ref m2)))
    (ml2 : K.lookup m2 = some ⟨moc2, mod2, .func (PySem.W.fnOf "messages" "Book.messages" (defArgs sBm) (defBody sBm) (defScope sBm) .none mkV2 mdc2 mpm2 man2 mcd2 mct2), msl2⟩)
    (mc2 : PySem.W.codeIn K mcd2 "Book.messages" = true)
    (mf2 : PySem.W.isFn K (.ref m2) = true)
    (mk2 : PySem.W.keepIn K (.ref m2) = true)
    (ma3 : PySem.W.findIn K (.ref C) "keep" = some (some (.ref m3)))
    (ml3 : K.lookup m3 = some ⟨moc3, mod3, .func (PySem.W.fnOf "keep" "Book.keep" (defArgs sBe) (defBody sBe) (defScope sBe) .none mkV3 mdc3 mpm3 man3 mcd3 mct3), msl3⟩)
    (mc3 : PySem.W.codeIn K mcd3 "Book.keep" = true)
    (mf3 : PySem.W.isFn K (.ref m3) = true)
    (mk3 : PySem.W.keepIn K (.ref m3) = true)
    (ma4 : PySem.W.findIn K (.ref C) "set_back" = some (some (.ref m4)))
    (ml4 : K.lookup m4 = some ⟨moc4, mod4, .func (PySem.W.fnOf "set_back" "Book.set_back" (defArgs sBs) (defBody sBs) (defScope sBs) .none mkV4 mdc4 mpm4 man4 mcd4 mct4), msl4⟩)
    (mc4 : PySem.W.codeIn K mcd4 "Book.set_back" = true)
    (mf4 : PySem.W.isFn K (.ref m4) = true)
    (mk4 : PySem.W.keepIn K (.ref m4) = true)
    (ma5 : PySem.W.findIn K (.ref C) "kept_at" = some (some (.ref m5)))
    (ml5 : K.lookup m5 = some ⟨moc5, mod5, .func (PySem.W.fnOf "kept_at" "Book.kept_at" (defArgs sBa) (defBody sBa) (defScope sBa) .none mkV5 mdc5 mpm5 man5 mcd5 mct5), msl5⟩)
    (mc5 : PySem.W.codeIn K mcd5 "Book.kept_at" = true)
    (mf5 : PySem.W.isFn K (.ref m5) = true)
    (mk5 : PySem.W.keepIn K (.ref m5) = true)
    (ma6 : PySem.W.findIn K (.ref C) "put" = some (some (.ref m6)))
    (ml6 : K.lookup m6 = some ⟨moc6, mod6, .func (PySem.W.fnOf "put" "Book.put" (defArgs sBp) (defBody sBp) (defScope sBp) .none mkV6 mdc6 mpm6 man6 mcd6 mct6), msl6⟩)
    (mc6 : PySem.W.codeIn K mcd6 "Book.put" = true)
    (mf6 : PySem.W.isFn K (.ref m6) = true)
    (mk6 : PySem.W.keepIn K (.ref m6) = true)
    (ma7 : PySem.W.findIn K (.ref C) "drop" = some (some (.ref m7)))
    (ml7 : K.lookup m7 = some ⟨moc7, mod7, .func (PySem.W.fnOf "drop" "Book.drop" (defArgs sBd) (defBody sBd) (defScope sBd) .none mkV7 mdc7 mpm7 man7 mcd7 mct7), msl7⟩)
    (mc7 : PySem.W.codeIn K mcd7 "Book.drop" = true)
    (mf7 : PySem.W.isFn K (.ref m7) = true)
    (mk7 : PySem.W.keepIn K (.ref m7) = true)
    (ma8 : PySem.W.findIn K (.ref C) "change" = some (some (.ref m8)))
    (ml8 : K.lookup m8 = some ⟨moc8, mod8, .func (PySem.W.fnOf "change" "Book.change" (defArgs sBg) (defBody sBg) (defScope sBg) .none mkV8 mdc8 mpm8 man8 mcd8 mct8), msl8⟩)
    (mc8 : PySem.W.codeIn K mcd8 "Book.change" = true)
    (mf8 : PySem.W.isFn K (.ref m8) = true)
    (mk8 : PySem.W.keepIn K (.ref m8) = true)
    (ma9 : PySem.W.findIn K (.ref C) "undo" = some (some (.ref m9)))
    (ml9 : K.lookup m9 = some ⟨moc9, mod9, .func (PySem.W.fnOf "undo" "Book.undo" (defArgs sBu) (defBody sBu) (defScope sBu) .none mkV9 mdc9 mpm9 man9 mcd9 mct9), msl9⟩)
    (mc9 : PySem.W.codeIn K mcd9 "Book.undo" = true)
    (mf9 : PySem.W.isFn K (.ref m9) = true)
    (mk9 : PySem.W.keepIn K (.ref m9) = true)
    (aC1 : PySem.W.nsIn K mainGlobals "NoSuchPlace" = some (some (.ref X1)))
    (xC1 : K.lookup X1 = some (excClassObj nm1 qn1 X1 N1 bs1 [.ref M, .type "ValueError", .type "Exception", .type "BaseException", .type "object"] true sn1 sub1 ab1 col1 dd1 n01 n11 n21 n31 n51 "ValueError.__new__"))
    (sa1 : PySem.W.findIn K (.ref X1) "__setattr__" = some (some (.builtin "object.__setattr__")))
    (ga1 : PySem.W.findIn K (.ref X1) "__getattribute__" = some (some (.builtin "BaseException.__getattribute__")))
    (gg1 : PySem.W.findIn K (.ref X1) "__getattr__" = some none)
    (no1 : PySem.W.findIn K (.ref X1) "path" = some none)
    (iC1 : PySem.W.findIn K (.ref X1) "__init__" = some (some (.ref fB1)))
    (tI1 : PySem.W.typeIn K (.ref fB1) = some (.type "function"))
    (lB1 : K.lookup fB1 = some ⟨ocB1, odB1, .func (PySem.W.fnX "__init__" "NoSuchPlace.__init__" (defArgs sNs) (defBody sNs) (defScope sNs) [("__class__", cc1)] .none kVB1 dcB1 pmB1 anB1 (.ref cda1) ctB1), slB1⟩)
    (cB1 : PySem.W.codeIn K (.ref cda1) "NoSuchPlace.__init__" = true)
    (lc1 : K.lookup cda1 = some ⟨ccl1, cdd1, .fields cvs1, ccs1⟩)
    (hv1 : cvs1[2]? = some (.str file1 tf1))
    (hf1 : ((l.prog.main.file : Str) == file1) = true)
    (lx1 : K.lookup cc1 = some ⟨ce01, cd01, .cell (some (.ref X1)), cs01⟩)
    (mr1 : PySem.W.mroIn K X1 (.ref X1) = some true)
    (sm1 : PySem.W.ks_superIn K X1 X1 "__init__" = some (some (.builtin "ValueError.__init__")))
    (iV1 : PySem.W.subIn K (.ref X1) (.type "ValueError") = some true)
    (eb1 : PySem.W.subIn K (.ref X1) (.type "BaseException") = some true)
    (tC1 : PySem.W.typeIn K (.ref X1) = some (.type "type"))
    (kC1 : PySem.W.keepIn K (.ref X1) = true)
    (hdC1 : PySem.W.hasDictIn K X1 = true)
    (aC2 : PySem.W.nsIn K mainGlobals "NoSuchKey" = some (some (.ref X2)))
    (xC2 : K.lookup X2 = some (excClassObj nm2 qn2 X2 N2 bs2 [.ref M, .type "ValueError", .type "Exception", .type "BaseException", .type "object"] true sn2 sub2 ab2 col2 dd2 n02 n12 n22 n32 n52 "ValueError.__new__"))
    (sa2 : PySem.W.findIn K (.ref X2) "__setattr__" = some (some (.builtin "object.__setattr__")))
    (ga2 : PySem.W.findIn K (.ref X2) "__getattribute__" = some (some (.builtin "BaseException.__getattribute__")))
    (gg2 : PySem.W.findIn K (.ref X2) "__getattr__" = some none)
    (no2 : PySem.W.findIn K (.ref X2) "key" = some none)
    (iC2 : PySem.W.findIn K (.ref X2) "__init__" = some (some (.ref fB2)))
    (tI2 : PySem.W.typeIn K (.ref fB2) = some (.type "function"))
    (lB2 : K.lookup fB2 = some ⟨ocB2, odB2, .func (PySem.W.fnX "__init__" "NoSuchKey.__init__" (defArgs sNk) (defBody sNk) (defScope sNk) [("__class__", cc2)] .none kVB2 dcB2 pmB2 anB2 (.ref cda2) ctB2), slB2⟩)
    (cB2 : PySem.W.codeIn K (.ref cda2) "NoSuchKey.__init__" = true)
    (lc2 : K.lookup cda2 = some ⟨ccl2, cdd2, .fields cvs2, ccs2⟩)
    (hv2 : cvs2[2]? = some (.str file2 tf2))
    (hf2 : ((l.prog.main.file : Str) == file2) = true)
    (lx2 : K.lookup cc2 = some ⟨ce02, cd02, .cell (some (.ref X2)), cs02⟩)
    (mr2 : PySem.W.mroIn K X2 (.ref X2) = some true)
    (sm2 : PySem.W.ks_superIn K X2 X2 "__init__" = some (some (.builtin "ValueError.__init__")))
    (iV2 : PySem.W.subIn K (.ref X2) (.type "ValueError") = some true)
    (eb2 : PySem.W.subIn K (.ref X2) (.type "BaseException") = some true)
    (tC2 : PySem.W.typeIn K (.ref X2) = some (.type "type"))
    (kC2 : PySem.W.keepIn K (.ref X2) = true)
    (hdC2 : PySem.W.hasDictIn K X2 = true)
    (ss11 : PySem.W.subIn K (.ref X1) (.ref X1) = some true)
    (ss22 : PySem.W.subIn K (.ref X2) (.ref X2) = some true)
    (ss12 : PySem.W.subIn K (.ref X1) (.ref X2) = some false)
    (z1 : PySem.W.nsIn K mainGlobals "len" = some none) (z2 : PySem.W.nsIn K mainGlobals "list" = some none) (z3 : PySem.W.nsIn K mainGlobals "range" = some none) (z4 : PySem.W.nsIn K mainGlobals "int" = some none) (z5 : PySem.W.nsIn K mainGlobals "zip" = some none) (z6 : PySem.W.nsIn K mainGlobals "repr" = some none) (z7 : PySem.W.nsIn K mainGlobals "isinstance" = some none) (z8 : PySem.W.nsIn K mainGlobals "super" = some none) (z9 : PySem.W.nsIn K mainGlobals "dict" = some none) (z10 : PySem.W.nsIn K mainGlobals "sorted" = some none) :
    ∃ fd : FuncData, (∀ (s : Shared) (v : Value), BindsTo s fd ⟨[v], []⟩ [("script", v)]) ∧ ∀ base : Heap, K.In base → base.Ns mainGlobals mg → Gy.RunAt PySem.callerA l.prog w K mg base CX0 44 fa fd ["script"] (spLaw K) := by
  have e := hfa.symm.trans (PySem.W.mg_of X G a28)
  cases e
  have F1 := fun_mk (st := sIs) l1 c1 k1
  have F2 := fun_mk (st := sCases) l2 c2 k2
  have F3 := fun_mk (st := sOther) l3 c3 k3
  have F4 := fun_mk (st := sInner) l4 c4 k4
  have F5 := fun_mk (st := sWith) l5 c5 k5
  have F6 := fun_mk (st := sTn) l6 c6 k6
  have F7 := fun_mk (st := sJt) l7 c7 k7
  have F8 := fun_mk (st := sPlain) l8 c8 k8
  have F9 := fun_mk (st := sKo) l9 c9 k9
  have F10 := fun_mk (st := sPw) l10 c10 k10
  have F11 := fun_mk (st := sAl) l11 c11 k11
  have F12 := fun_mk (st := sRe) l12 c12 k12
  have F13 := fun_mk (st := sCell) l13 c13 k13
  have F14 := fun_mk (st := sRow) l14 c14 k14
  have F15 := fun_mk (st := sBox) l15 c15 k15
  have F16 := fun_mk (st := sDraw) l16 c16 k16
  have F17 := fun_mk (st := sSame) l17 c17 k17
  have F18 := fun_mk (st := sMsg) l18 c18 k18
  have F19 := fun_mk (st := sLp) l19 c19 k19
  have F20 := fun_mk (st := sLa) l20 c20 k20
  have F21 := fun_mk (st := sPu) l21 c21 k21
  have F22 := fun_mk (st := sPa) l22 c22 k22
  have F23 := fun_mk (st := sLpl) l23 c23 k23
  have F24 := fun_mk (st := sDe) l24 c24 k24
  have F25 := fun_mk (st := sDn) l25 c25 k25
  have F26 := fun_mk (st := sCa) l26 c26 k26
  have F27 := fun_mk (st := sTo) l27 c27 k27
  have F28 := fun_mk (st := sLaw) l28 c28 k28
  have b1 := F1.binds (ps := ["node"]) fun _ _ _ _ _ _ us hl => match us, hl with | [_], _ => rfl
  have b2 := F2.binds (ps := ["node"]) fun _ _ _ _ _ _ us hl => match us, hl with | [_], _ => rfl
  have b3 := F3.binds (ps := ["node"]) fun _ _ _ _ _ _ us hl => match us, hl with | [_], _ => rfl
  have b4 := F4.binds (ps := ["node"]) fun _ _ _ _ _ _ us hl => match us, hl with | [_], _ => rfl
  have b5 := F5.binds (ps := ["node", "messages"]) fun _ _ _ _ _ _ us hl => match us, hl with | [_, _], _ => rfl
  have b6 := F6.binds (ps := ["strings"]) fun _ _ _ _ _ _ us hl => match us, hl with | [_], _ => rfl
  have b7 := F7.binds (ps := ["message"]) fun _ _ _ _ _ _ us hl => match us, hl with | [_], _ => rfl
  have b8 := F8.binds (ps := ["message"]) fun _ _ _ _ _ _ us hl => match us, hl with | [_], _ => rfl
  have b9 := F9.binds (ps := ["node"]) fun _ _ _ _ _ _ us hl => match us, hl with | [_], _ => rfl
  have b10 := F10.binds (ps := ["message", "step", "path"]) fun _ _ _ _ _ _ us hl => match us, hl with | [_, _, _], _ => rfl
  have b11 := F11.binds (ps := ["message", "path"]) fun _ _ _ _ _ _ us hl => match us, hl with | [_, _], _ => rfl
  have b12 := F12.binds (ps := ["message", "path", "inner"]) fun _ _ _ _ _ _ us hl => match us, hl with | [_, _, _], _ => rfl
  have b13 := F13.binds (ps := ["script", "k"]) fun _ _ _ _ _ _ us hl => match us, hl with | [_, _], _ => rfl
  have b14 := F14.binds (ps := ["cell", "k", "many"]) fun _ _ _ _ _ _ us hl => match us, hl with | [_, _, _], _ => rfl
  have b15 := F15.binds (ps := ["script", "first", "last"]) fun _ _ _ _ _ _ us hl => match us, hl with | [_, _, _], _ => rfl
  have b16 := F16.binds (ps := ["box", "many"]) fun _ _ _ _ _ _ us hl => match us, hl with | [_, _], _ => rfl
  have b17 := F17.binds (ps := ["one", "other"]) fun _ _ _ _ _ _ us hl => match us, hl with | [_, _], _ => rfl
  have b18 := F18.binds (ps := ["box", "depth", "inside", "numbers"]) fun _ _ _ _ _ _ us hl => match us, hl with | [_, _, _, _], _ => rfl
  have b19 := F19.binds (ps := ["message"]) fun _ _ _ _ _ _ us hl => match us, hl with | [_], _ => rfl
  have b20 := F20.binds (ps := ["message", "path"]) fun _ _ _ _ _ _ us hl => match us, hl with | [_, _], _ => rfl
  have b21 := F21.binds (ps := ["message", "path", "inner"]) fun _ _ _ _ _ _ us hl => match us, hl with | [_, _, _], _ => rfl
  have b22 := F22.binds (ps := ["box", "message"]) fun _ _ _ _ _ _ us hl => match us, hl with | [_, _], _ => rfl
  have b23 := F23.binds (ps := ["message"]) fun _ _ _ _ _ _ us hl => match us, hl with | [_], _ => rfl
  have b24 := F24.binds (ps := ["box", "now"]) fun _ _ _ _ _ _ us hl => match us, hl with | [_, _], _ => rfl
  have b25 := F25.binds (ps := ["states", "deed"]) fun _ _ _ _ _ _ us hl => match us, hl with | [_, _], _ => rfl
  have b26 := F26.binds (ps := ["book", "deed"]) fun _ _ _ _ _ _ us hl => match us, hl with | [_, _], _ => rfl
  have b27 := F27.binds (ps := ["book", "deed"]) fun _ _ _ _ _ _ us hl => match us, hl with | [_, _], _ => rfl
  have b28 := F28.binds (ps := ["script"]) fun _ _ _ _ _ _ us hl => match us, hl with | [_], _ => rfl
  have g1 := PySem.W.mg_of X G a1
  have g2 := PySem.W.mg_of X G a2
  have g3 := PySem.W.mg_of X G a3
  have g4 := PySem.W.mg_of X G a4
  have g5 := PySem.W.mg_of X G a5
  have g6 := PySem.W.mg_of X G a6
  have g7 := PySem.W.mg_of X G a7
  have g8 := PySem.W.mg_of X G a8
  have g9 := PySem.W.mg_of X G a9
  have g10 := PySem.W.mg_of X G a10
  have g11 := PySem.W.mg_of X G a11
  have g12 := PySem.W.mg_of X G a12
  have g13 := PySem.W.mg_of X G a13
  have g14 := PySem.W.mg_of X G a14
  have g15 := PySem.W.mg_of X G a15
  have g16 := PySem.W.mg_of X G a16
  have g17 := PySem.W.mg_of X G a17
  have g18 := PySem.W.mg_of X G a18
  have g19 := PySem.W.mg_of X G a19
  have g20 := PySem.W.mg_of X G a20
  have g21 := PySem.W.mg_of X G a21
  have g22 := PySem.W.mg_of X G a22
  have g23 := PySem.W.mg_of X G a23
  have g24 := PySem.W.mg_of X G a24
  have g25 := PySem.W.mg_of X G a25
  have g26 := PySem.W.mg_of X G a26
  have g27 := PySem.W.mg_of X G a27
  have g28 := PySem.W.mg_of X G a28
  have y1 := PySem.W.mg_none_of X G z1
  have y2 := PySem.W.mg_none_of X G z2
  have y3 := PySem.W.mg_none_of X G z3
  have y4 := PySem.W.mg_none_of X G z4
  have y5 := PySem.W.mg_none_of X G z5
  have y6 := PySem.W.mg_none_of X G z6
  have y7 := PySem.W.mg_none_of X G z7
  have y8 := PySem.W.mg_none_of X G z8
  have y9 := PySem.W.mg_none_of X G z9
  have y10 := PySem.W.mg_none_of X G z10
  have gMe := PySem.W.mg_of X G aM
  have FM1 := fun_mk (st := sBi) ml1 mc1 mk1
  have bM1 := FM1.binds (ps := ["self"]) fun _ _ _ _ _ _ us hl => match us, hl with | [_], _ => rfl
  have M1 : Meth K C "__init__" m1 := ⟨ma1, mf1, mk1⟩
  have FM2 := fun_mk (st := sBm) ml2 mc2 mk2
  have bM2 := FM2.binds (ps := ["self"]) fun _ _ _ _ _ _ us hl => match us, hl with | [_], _ => rfl
  have M2 : Meth K C "messages" m2 := ⟨ma2, mf2, mk2⟩
  have FM3 := fun_mk (st := sBe) ml3 mc3 mk3
  have bM3 := FM3.binds (ps := ["self", "key", "message"]) fun _ _ _ _ _ _ us hl => match us, hl with | [_, _, _], _ => rfl
  have M3 : Meth K C "keep" m3 := ⟨ma3, mf3, mk3⟩
  have FM4 := fun_mk (st := sBs) ml4 mc4 mk4
  have bM4 := FM4.binds (ps := ["self", "key", "message"]) fun _ _ _ _ _ _ us hl => match us, hl with | [_, _, _], _ => rfl
  have M4 : Meth K C "set_back" m4 := ⟨ma4, mf4, mk4⟩
  have FM5 := fun_mk (st := sBa) ml5 mc5 mk5
  have bM5 := FM5.binds (ps := ["self", "key"]) fun _ _ _ _ _ _ us hl => match us, hl with | [_, _], _ => rfl
  have M5 : Meth K C "kept_at" m5 := ⟨ma5, mf5, mk5⟩
  have FM6 := fun_mk (st := sBp) ml6 mc6 mk6
  have bM6 := FM6.binds (ps := ["self", "key", "message"]) fun _ _ _ _ _ _ us hl => match us, hl with | [_, _, _], _ => rfl
  have M6 : Meth K C "put" m6 := ⟨ma6, mf6, mk6⟩
  have FM7 := fun_mk (st := sBd) ml7 mc7 mk7
  have bM7 := FM7.binds (ps := ["self", "key"]) fun _ _ _ _ _ _ us hl => match us, hl with | [_, _], _ => rfl
  have M7 : Meth K C "drop" m7 := ⟨ma7, mf7, mk7⟩
  have FM8 := fun_mk (st := sBg) ml8 mc8 mk8
  have bM8 := FM8.binds (ps := ["self", "key", "path", "inner"]) fun _ _ _ _ _ _ us hl => match us, hl with | [_, _, _, _], _ => rfl
  have M8 : Meth K C "change" m8 := ⟨ma8, mf8, mk8⟩
  have FM9 := fun_mk (st := sBu) ml9 mc9 mk9
  have bM9 := FM9.binds (ps := ["self"]) fun _ _ _ _ _ _ us hl => match us, hl with | [_], _ => rfl
  have M9 : Meth K C "undo" m9 := ⟨ma9, mf9, mk9⟩
  have gX1 := PySem.W.mg_of X G aC1
  have TC1 : OexC K X1 := ⟨⟨nm1, qn1, N1, bs1, _, sn1, sub1, ab1, col1, dd1, n01, n11, n21, n31, n51, xC1, by rfl⟩, sa1, eb1, tC1, kC1⟩
  have icl1 : ∃ cd, PySem.W.clsIn K X1 = some cd := ⟨_, by unfold PySem.W.clsIn; rw [xC1] <;> rfl⟩
  have U1 : Sx.Sup l.prog K mg X1 cc1 cda1 fB1 (nNs cc1 cda1) ["self", "path"] := ⟨TC1, ⟨_, _, _, _, _, _, _, _, _, lB1⟩, rfl, rfl, cB1, ⟨_, rfl, rfl⟩, ⟨_, _, _, _, _, _, lc1, hv1, hf1⟩, ⟨_, _, _, lx1⟩, icl1, mr1, y8, rfl, top, sm1, op, iV1⟩
  have XX1 : XfC K X1 := ⟨ga1, gg1, eb1, hdC1⟩
  have bBd1 : Binds K (PySem.W.fnX "__init__" "NoSuchPlace.__init__" (defArgs sNs) (defBody sNs) (defScope sNs) [("__class__", cc1)] .none kVB1 dcB1 pmB1 anB1 (.ref cda1) ctB1) ["self", "path"] [] := .all fun us hl => match us, hl with | [_, _], _ => rfl
  have gX2 := PySem.W.mg_of X G aC2
  have TC2 : OexC K X2 := ⟨⟨nm2, qn2, N2, bs2, _, sn2, sub2, ab2, col2, dd2, n02, n12, n22, n32, n52, xC2, by rfl⟩, sa2, eb2, tC2, kC2⟩
  have icl2 : ∃ cd, PySem.W.clsIn K X2 = some cd := ⟨_, by unfold PySem.W.clsIn; rw [xC2] <;> rfl⟩
  have U2 : Sx.Sup l.prog K mg X2 cc2 cda2 fB2 (nNk cc2 cda2) ["self", "key"] := ⟨TC2, ⟨_, _, _, _, _, _, _, _, _, lB2⟩, rfl, rfl, cB2, ⟨_, rfl, rfl⟩, ⟨_, _, _, _, _, _, lc2, hv2, hf2⟩, ⟨_, _, _, lx2⟩, icl2, mr2, y8, rfl, top, sm2, op, iV2⟩
  have XX2 : XfC K X2 := ⟨ga2, gg2, eb2, hdC2⟩
  have bBd2 : Binds K (PySem.W.fnX "__init__" "NoSuchKey.__init__" (defArgs sNk) (defBody sNk) (defScope sNk) [("__class__", cc2)] .none kVB2 dcB2 pmB2 anB2 (.ref cda2) ctB2) ["self", "key"] [] := .all fun us hl => match us, hl with | [_, _], _ => rfl
  refine ⟨PySem.W.fnOf "law" "law" (defArgs sLaw) (defBody sLaw) (defScope sLaw) .none kV28 dc28 pm28 an28 cd28 ct28, fun s v => .of_eq rfl, fun base _ _ => ?_⟩
  have EC1 : EP l.prog w K mg base "NoSuchPlace" X1 := ⟨TC1, gX1, fB1, _, iC1, tI1, ok_ns (P := l.prog) (w := w) (mg := mg) (base := base) (CX := L2.CX l.prog w) U1 no1 lB1, bBd1⟩
  have EC2 : EK l.prog w K mg base X2 := ⟨TC2, gX2, fB2, _, iC2, tI2, ok_nk (P := l.prog) (w := w) (mg := mg) (base := base) (CX := L2.CX l.prog w) U2 no2 lB2, bBd2⟩
  have gCC := PySem.W.mg_of X G aCC
  have RR : BC K C := ⟨⟨pgC, hdC, poC, saC⟩, nC_kept, nC_before⟩
  have MR : Mk K C m1 := ⟨mk1C, ma1, mf1, mk4C⟩
  have gIs := ok_is (P := l.prog) (w := w) (mg := mg) (base := base) F1
  have gCs := ok_cases (P := l.prog) (w := w) (mg := mg) (base := base) F2 y2
  have gOo := ok_other (P := l.prog) (w := w) (mg := mg) (base := base) F3
  have gIm := ok_inner F4 gIs b1 k1 g1 gCs b2 k2 g2 gOo b3 k3 g3
  have gWi := ok_with F5 gCs b2 k2 g2 y5
  have gTn := ok_tn (P := l.prog) (w := w) (mg := mg) (base := base) F6
  have gJt := ok_jt F7 gTn b6 k6 g6
  have gPl := ok_plain F8 gJt b7 k7 g7 gIm b4 k4 g4 gWi b5 k5 g5 y2 y5
  have gKo := ok_ko F9 gCs b2 k2 g2
  have gPw := ok_pw F10 gIs b1 k1 g1 gKo b9 k9 g9 EC1 y1
  have gAl := ok_al F11 gPw b10 k10 g10 gIm b4 k4 g4
  have gRe := ok_re F12 gAl b11 k11 g11 gPw b10 k10 g10 gIm b4 k4 g4 gWi b5 k5 g5 y2 y5
  have gCe := ok_cell (P := l.prog) (w := w) (mg := mg) (base := base) F13 y1
  have gRo := ok_row (P := l.prog) (w := w) (mg := mg) (base := base) F14 y3 y4 y1
  have gBo := ok_box (n := 60) (by decide) F15 gCe b13 k13 g13 gRo b14 k14 g14 y3
  have gDr := ok_draw (P := l.prog) (w := w) (mg := mg) (base := base) F16 y1 y4
  have gSa := ok_same (P := l.prog) (w := w) (mg := mg) (base := base) F17 y6
  have gM := both gDr b16 k16 g16 F18 b18 g18 y3 y1 y4
  have gLp := all_lp (P := l.prog) (w := w) (mg := mg) (base := base) F19 b19 g19 y3 y1 28 (by decide)
  have gLa := ok_la F20 gSa b17 k17 g17 y1
  have gPu := all_pu F21 b21 g21 gSa b17 k17 g17 y2 40
  have gPa := ok_pa F22 gLp b19 k19 g19 gDr b16 k16 g16 y1 y4
  have gLq := all_lpl (P := l.prog) (w := w) (mg := mg) (base := base) F23 b23 g23 y1 40
  have gBi := ok_bi (P := l.prog) (w := w) (mg := mg) (base := base) FM1 RR
  have gBm := ok_bm (P := l.prog) (w := w) (mg := mg) (base := base) FM2 RR y9
  have gBs := ok_bs (P := l.prog) (w := w) (mg := mg) (base := base) FM4 RR
  have gBe := ok_be FM3 RR gBs bM4 M4
  have gBa := ok_ba FM5 RR EC2
  have gBp := ok_bp FM6 RR gBe bM3 M3 gPl b8 k8 g8
  have gBd := ok_bd FM7 RR gBe bM3 M3 gBa bM5 M5
  have gBg := ok_bg FM8 RR gBe bM3 M3 gBa bM5 M5 gPl b8 k8 g8 gRe b12 k12 g12
  have gBu := ok_bu FM9 RR gBs bM4 M4
  have gDe := ok_de (n := 25) (by decide) F24 gDr b16 k16 g16 gM b18 k18 g18 gPa b22 k22 g22
  have gDn := ok_dn (n := 25) (by decide) F25 gLq b23 k23 g23 gLa b20 k20 g20 gPu b21 k21 g21 y1
  have gCa := ok_ca (n := 25) (by decide) F26 RR gBu bM9 M9 gBp bM6 M6 gBd bM7 M7 gBg bM8 M8
  have gTo := ok_to F27 gCa b26 k26 g26 ⟨gX2, XX2, no2⟩ ⟨gX1, XX1, no1⟩ (PySem.W.exm_ref eb2 hdC2 tC2 ss22) (PySem.W.exm_ref eb2 hdC2 tC2 ss12) (PySem.W.exm_ref eb1 hdC1 tC1 ss11)
  exact Gy.run_of (ok_law F28 RR gBo b15 k15 g15 MR gBi bM1 gCC gDe b24 k24 g24 gDn b25 k25 g25 gSa b17 k17 g17 gTo b27 k27 g27 gBm bM2 M2 y3 y2 y9 y10 y7)
theorem walk {l : PySem.W.OpenLaw} {q : Program} {loose : List Str} {XP : (Str → Option Value) → Heap → Prop} {YP : World → Heap → Prop} {d : DefRec} {K : Params → PySem.W.Frag} {n : Nat} (hn : l.most = some n) (hn2 : n ≤ sizeLine) (hdf : d.params.defaults = [])
    (hY : ∀ (w : World) (h : Heap), YP w h → (K w.params).In h)
    (F : ∀ (w : World) (mg : Str → Option Value) (fa : Addr) (h : Heap), (K w.params).In h → h.Ns mainGlobals mg → mg d.name = some (.ref fa) →
      ∃ fd : FuncData, (∀ (s : Shared) (u : Value), BindsTo s fd ⟨[u], []⟩ [("script", u)]) ∧ ∀ base : Heap, (K w.params).In base → base.Ns mainGlobals mg → Gy.RunAt PySem.callerA l.prog w (K w.params) mg base CX0 44 fa fd ["script"] (spLaw (K w.params))) :
    PySem.W.WalkO q loose XP YP l.row.toRowW d [] (fun f vs => PySem.call f vs) :=
  Gy.walk_at (k := 44) (x := "script") (sp := fun w => spLaw (K w.params)) hn hn2 hdf ⟨rfl, by decide, by decide⟩ hY F (fun _ _ a ns _ _ hS => ⟨a, ns, rfl, hS, fun _ => rfl⟩)
end Mw
open PySem PySem.W PyProof.Rows
set_option maxRecDepth 100000 in
set_option maxHeartbeats 0 in
theorem PySem.Challenge.cw_messageways_k51_books_holds : PySem.Challenge.rw_messageways_k51_books.Holds := by
  w_on; o_law; k_head; (case hw => w_witness2)
  k_fill
  refine Mw.walk (l := PySem.Challenge.rw_messageways_k51_books) rfl (by decide) rfl (fun w h Y => PySem.W.kIn_of Y) ?F
  case F =>
    intro w mg fa h KX G hmg
    refine' Mw.all_mk KX G hmg ?a1 ?l1 ?c1 ?k1 ?a2 ?l2 ?c2 ?k2 ?a3 ?l3 ?c3 ?k3 ?a4 ?l4 ?c4 ?k4 ?a5 ?l5 ?c5 ?k5 ?a6 ?l6 ?c6 ?k6 ?a7 ?l7 ?c7 ?k7 ?a8 ?l8 ?c8 ?k8 ?a9 ?l9 ?c9 ?k9 ?a10 ?l10 ?c10 ?k10 ?a11 ?l11 ?c11 ?k11 ?a12 ?l12 ?c12 ?k12 ?a13 ?l13 ?c13 ?k13 ?a14 ?l14 ?c14 ?k14 ?a15 ?l15 ?c15 ?k15 ?a16 ?l16 ?c16 ?k16 ?a17 ?l17 ?c17 ?k17 ?a18 ?l18 ?c18 ?k18 ?a19 ?l19 ?c19 ?k19 ?a20 ?l20 ?c20 ?k20 ?a21 ?l21 ?c21 ?k21 ?a22 ?l22 ?c22 ?k22 ?a23 ?l23 ?c23 ?k23 ?a24 ?l24 ?c24 ?k24 ?a25 ?l25 ?c25 ?k25 ?a26 ?l26 ?c26 ?k26 ?a27 ?l27 ?c27 ?k27 ?a28 ?l28 ?c28 ?k28 ?aM ?ebM ?hdM ?tM ?op ?top ?aCC ?mk1C ?mk4C ?pgC ?hdC ?poC ?saC ?nC_kept ?nC_before ?ma1 ?ml1 ?mc1 ?mf1 ?mk1 ?ma2 ?ml2 ?mc2 ?mf2 ?mk2 ?ma3 ?ml3 ?mc3 ?mf3 ?mk3 ?ma4 ?ml4 ?mc4 ?mf4 ?mk4 ?ma5 ?ml5 ?mc5 ?mf5 ?mk5 ?ma6 ?ml6 ?mc6 ?mf6 ?mk6 ?ma7 ?ml7 ?mc7 ?mf7 ?mk7 ?ma8 ?ml8 ?mc8 ?mf8 ?mk8 ?ma9 ?ml9 ?mc9 ?mf9 ?mk9 ?aC1 ?xC1 ?sa1 ?ga1 ?gg1 ?no1 ?iC1 ?tI1 ?lB1 ?cB1 ?lc1 ?hv1 ?hf1 ?lx1 ?mr1 ?sm1 ?iV1 ?eb1 ?tC1 ?kC1 ?hdC1 ?aC2 ?xC2 ?sa2 ?ga2 ?gg2 ?no2 ?iC2 ?tI2 ?lB2 ?cB2 ?lc2 ?hv2 ?hf2 ?lx2 ?mr2 ?sm2 ?iV2 ?eb2 ?tC2 ?kC2 ?hdC2 ?ss11 ?ss22 ?ss12 ?z1 ?z2 ?z3 ?z4 ?z5 ?z6 ?z7 ?z8 ?z9 ?z10
    (case a1 => k_is); (case l1 => k_is); (case c1 => k_is); (case k1 => k_is)
    (case a2 => k_is); (case l2 => k_is); (case c2 => k_is); (case k2 => k_is)
    (case a3 => k_is); (case l3 => k_is); (case c3 => k_is); (case k3 => k_is)
    (case a4 => k_is); (case l4 => k_is); (case c4 => k_is); (case k4 => k_is)
    (case a5 => k_is); (case l5 => k_is); (case c5 => k_is); (case k5 => k_is)
    (case a6 => k_is); (case l6 => k_is); (case c6 => k_is); (case k6 => k_is)
    (case a7 => k_is); (case l7 => k_is); (case c7 => k_is); (case k7 => k_is)
    (case a8 => k_is); (case l8 => k_is); (case c8 => k_is); (case k8 => k_is)
    (case a9 => k_is); (case l9 => k_is); (case c9 => k_is); (case k9 => k_is)
    (case a10 => k_is); (case l10 => k_is); (case c10 => k_is); (case k10 => k_is)
    (case a11 => k_is); (case l11 => k_is); (case c11 => k_is); (case k11 => k_is)
    (case a12 => k_is); (case l12 => k_is); (case c12 => k_is); (case k12 => k_is)
    (case a13 => k_is); (case l13 => k_is); (case c13 => k_is); (case k13 => k_is)
    (case a14 => k_is); (case l14 => k_is); (case c14 => k_is); (case k14 => k_is)
    (case a15 => k_is); (case l15 => k_is); (case c15 => k_is); (case k15 => k_is)
    (case a16 => k_is); (case l16 => k_is); (case c16 => k_is); (case k16 => k_is)
    (case a17 => k_is); (case l17 => k_is); (case c17 => k_is); (case k17 => k_is)
    (case a18 => k_is); (case l18 => k_is); (case c18 => k_is); (case k18 => k_is)
    (case a19 => k_is); (case l19 => k_is); (case c19 => k_is); (case k19 => k_is)
    (case a20 => k_is); (case l20 => k_is); (case c20 => k_is); (case k20 => k_is)
    (case a21 => k_is); (case l21 => k_is); (case c21 => k_is); (case k21 => k_is)
    (case a22 => k_is); (case l22 => k_is); (case c22 => k_is); (case k22 => k_is)
    (case a23 => k_is); (case l23 => k_is); (case c23 => k_is); (case k23 => k_is)
    (case a24 => k_is); (case l24 => k_is); (case c24 => k_is); (case k24 => k_is)
    (case a25 => k_is); (case l25 => k_is); (case c25 => k_is); (case k25 => k_is)
    (case a26 => k_is); (case l26 => k_is); (case c26 => k_is); (case k26 => k_is)
    (case a27 => k_is); (case l27 => k_is); (case c27 => k_is); (case k27 => k_is)
    (case a28 => k_is); (case l28 => k_is); (case c28 => k_is); (case k28 => k_is)
    (case aM => k_is)
    (case ebM => k_is)
    (case hdM => k_is)
    (case tM => k_is)
    (case op => k_is)
    (case top => decide +kernel)
    (case aCC => k_is)
    (case mk1C => k_is)
    (case mk4C => k_is)
    (case pgC => k_is)
    (case hdC => k_is)
    (case poC => k_is)
    (case saC => k_is)
    (case nC_kept => k_is)
    (case nC_before => k_is)
    (case ma1 => k_is)
    (case ml1 => k_is)
    (case mc1 => k_is)
    (case mf1 => k_is)
    (case mk1 => k_is)
    (case ma2 => k_is)
    (case ml2 => k_is)
    (case mc2 => k_is)
    (case mf2 => k_is)
    (case mk2 => k_is)
    (case ma3 => k_is)
    (case ml3 => k_is)
    (case mc3 => k_is)
    (case mf3 => k_is)
    (case mk3 => k_is)
    (case ma4 => k_is)
    (case ml4 => k_is)
    (case mc4 => k_is)
    (case mf4 => k_is)
    (case mk4 => k_is)
    (case ma5 => k_is)
    (case ml5 => k_is)
    (case mc5 => k_is)
    (case mf5 => k_is)
    (case mk5 => k_is)
    (case ma6 => k_is)
    (case ml6 => k_is)
    (case mc6 => k_is)
    (case mf6 => k_is)
    (case mk6 => k_is)
    (case ma7 => k_is)
    (case ml7 => k_is)
    (case mc7 => k_is)
    (case mf7 => k_is)
    (case mk7 => k_is)
    (case ma8 => k_is)
    (case ml8 => k_is)
    (case mc8 => k_is)
    (case mf8 => k_is)
    (case mk8 => k_is)
    (case ma9 => k_is)
    (case ml9 => k_is)
    (case mc9 => k_is)
    (case mf9 => k_is)
    (case mk9 => k_is)
    (case aC1 => k_is)
    (case xC1 => k_is)
    (case sa1 => k_is)
    (case ga1 => k_is)
    (case gg1 => k_is)
    (case no1 => k_is)
    (case iC1 => k_is)
    (case tI1 => k_is)
    (case lB1 => k_is)
    (case cB1 => k_is)
    (case lc1 => k_is)
    (case hv1 => rfl)
    (case hf1 => decide +kernel)
    (case lx1 => k_is)
    (case mr1 => k_is)
    (case sm1 => ks_is)
    (case iV1 => k_is)
    (case eb1 => k_is)
    (case tC1 => k_is)
    (case kC1 => k_is)
    (case hdC1 => k_is)
    (case aC2 => k_is)
    (case xC2 => k_is)
    (case sa2 => k_is)
    (case ga2 => k_is)
    (case gg2 => k_is)
    (case no2 => k_is)
    (case iC2 => k_is)
    (case tI2 => k_is)
    (case lB2 => k_is)
    (case cB2 => k_is)
    (case lc2 => k_is)
    (case hv2 => rfl)
    (case hf2 => decide +kernel)
    (case lx2 => k_is)
    (case mr2 => k_is)
    (case sm2 => ks_is)
    (case iV2 => k_is)
    (case eb2 => k_is)
    (case tC2 => k_is)
    (case kC2 => k_is)
    (case hdC2 => k_is)
    (case ss11 => k_is)
    (case ss22 => k_is)
    (case ss12 => k_is)
    (case z1 => k_is)
    (case z2 => k_is)
    (case z3 => k_is)
    (case z4 => k_is)
    (case z5 => k_is)
    (case z6 => k_is)
    (case z7 => k_is)
    (case z8 => k_is)
    (case z9 => k_is)
    (case z10 => k_is)

